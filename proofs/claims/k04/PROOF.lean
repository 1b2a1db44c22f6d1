import PyProof.Rows.All
import HandS.ForMost
import HandS.Wide
import HandS.IsInst
import HandS.TupAny
import HandS.Zip
import HandS.Flow
import HandS.Gcd
import HandS.FStr
import HandS.Defaults
import HandS.ExcInit
import HandS.ExcIs
import HandS.ExcField
import KE.KExcInit
import HandS.CallLocal
import HandS.Iter
import HandS.Text
import HandS.TupMul
import HandS.Evl
import HandS.Deep
import HandS.More
import HandS.Lambda
import HandS.EndTab
import HandS.TryMany
import HandS.ClsMeth
import HandS.WordsExc
import HandS.HotCalls
import HandS.Star
import KE.KNest
import KE.KExcLine
import PySem.Challenge.RW_fewtell_k04_worlds_refused
set_option Elab.async false
set_option linter.all false
set_option maxRecDepth 100000
set_option maxHeartbeats 1000000
namespace G
open PySem PySem.Spec PyProof.Rows L2

/-! ### data -/
inductive D where
  | non | bl (b : Bool) | int (i : Int) | str (s : Str) | ty (n : String)
  | tup (l : List D) | lst (l : List D) | src
  | exc (C : Addr) (ns : List Str) (ds : List D) | cls (C : Addr)

def KT (K : PySem.W.Frag) (a : Addr) (xs : List V) : Prop :=
  ∃ (o : Obj) (its : Array Value) (n : Nat), K.lookup a = some o ∧ o.cls = .type "tuple" ∧ o.data = .seq its n ∧ its.size ≤ sizeLine ∧ Vals xs its.toList
def KL (K : PySem.W.Frag) (a : Addr) (xs : List V) : Prop :=
  ∃ (o : Obj) (its : Array Value) (n : Nat), K.lookup a = some o ∧ o.cls = .type "list" ∧ o.dict = none ∧ o.data = .seq its n ∧ its.size ≤ sizeLine ∧ Vals xs its.toList
def TAt (K : PySem.W.Frag) (M : List Addr) (H : Hp) (a : Addr) (xs : List V) : Prop := (a ∉ M ∧ Rd H a (.tup xs)) ∨ KT K a xs
def LAt (K : PySem.W.Frag) (M : List Addr) (H : Hp) (a : Addr) (xs : List V) : Prop := (a ∉ M ∧ Rd H a (.lst xs)) ∨ KL K a xs
theorem TAt.sq {K M H a xs} (h : TAt K M H a xs) : SqT K H a xs := h.elim (fun z => .inl z.2) .inr
theorem LAt.sq {K M H a xs} (h : LAt K M H a xs) : SqL K H a xs := h.elim (fun z => .inl z.2) .inr

/-- the law's source of draws: the list at a, its first item the list at l -/
structure Sr where
  a : Addr
  l : Addr
def SrcOk (K : PySem.W.Frag) (S : Sr) (H : Hp) : Prop :=
  ∃ (i c s t : Int) (ns : List Int), H S.a = some (.lst [.ref S.l, .int i, .int c, .int s, .int t]) ∧ H S.l = some (.lst (ns.map V.int)) ∧ 0 ≤ i ∧ 0 ≤ c ∧ 0 ≤ s ∧ s < 2147483629 ∧ 0 ≤ t
def Live (S : Sr) (H : Hp) : Prop := (∃ o, H S.a = some o) ∧ (∃ o, H S.l = some o) ∧ S.l ≠ S.a
structure Ext (K : PySem.W.Frag) (S : Sr) (H H' : Hp) : Prop where
  keep : ∀ b o, b ≠ S.a → H b = some o → H' b = some o
  src : Live S H → SrcOk K S H → SrcOk K S H'
  live : Live S H → Live S H'
theorem Ext.refl {K S H} : Ext K S H H := ⟨fun _ _ _ h => h, fun _ h => h, fun h => h⟩
theorem Ext.trans {K S H H1 H2} (a : Ext K S H H1) (b : Ext K S H1 H2) : Ext K S H H2 :=
  ⟨fun c o n h => b.keep c o n (a.keep c o n h), fun l h => b.src (a.live l) (a.src l h), fun l => b.live (a.live l)⟩
theorem Ext.same {K S H H'} (e : Same H H') : Ext K S H H' :=
  ⟨fun b o _ h => e b o h, fun _ ⟨i, c, s, t, ns, h1, h2, h3⟩ => ⟨i, c, s, t, ns, e _ _ h1, e _ _ h2, h3⟩, fun ⟨⟨o, h1⟩, ⟨o', h2⟩, n⟩ => ⟨⟨o, e _ _ h1⟩, ⟨o', e _ _ h2⟩, n⟩⟩
/-- a place that was new may change -/
theorem Ext.mut {K S H H1 p o} (e : Ext K S H H1) (l : Live S H) (h : H p = none) : Ext K S H (upd H1 p o) := by
  obtain ⟨⟨o1, h1⟩, ⟨o2, h2⟩, n⟩ := id l
  have n1 : S.a ≠ p := ne_of_none h1 h
  have n2 : S.l ≠ p := ne_of_none h2 h
  refine ⟨fun b x nb hb => ?_, fun _ hs => ?_, fun _ => ?_⟩
  · rw [upd_ne (ne_of_none hb h)]; exact e.keep b x nb hb
  · obtain ⟨i, c, s, t, ns, g1, g2, g3⟩ := e.src l hs
    exact ⟨i, c, s, t, ns, by rw [upd_ne n1]; exact g1, by rw [upd_ne n2]; exact g2, g3⟩
  · obtain ⟨⟨o3, h3⟩, ⟨o4, h4⟩, n⟩ := e.live l
    exact ⟨⟨o3, by rw [upd_ne n1]; exact h3⟩, ⟨o4, by rw [upd_ne n2]; exact h4⟩, n⟩
theorem same_upd {H : Hp} {p : Addr} {o : HO} (h : H p = none) : Same H (upd H p o) := fun b x e => by
  rw [upd_ne (ne_of_none e h)]
  exact e
theorem Ext.new {K S H p o} (h : H p = none) : Ext K S H (upd H p o) := .same (same_upd h)

mutual
inductive Rep (K : PySem.W.Frag) (S : Sr) (M : List Addr) (H : Hp) : V → D → Prop
  | non : Rep K S M H .non .non
  | bl (b : Bool) : Rep K S M H (.bl b) (.bl b)
  | int (i : Int) : Rep K S M H (.int i) (.int i)
  | str (s : Str) : Rep K S M H (.str s) (.str s)
  | ty (n : String) : Rep K S M H (.ty n) (.ty n)
  | tup {a : Addr} {vs : List V} {ds : List D} (h : TAt K M H a vs) (r : RepAll K S M H vs ds) : Rep K S M H (.ref a) (.tup ds)
  | lst {a : Addr} {vs : List V} {ds : List D} (h : LAt K M H a vs) (r : RepAll K S M H vs ds) : Rep K S M H (.ref a) (.lst ds)
  | src (h : SrcOk K S H) (m : S.a ∈ M) : Rep K S M H (.ref S.a) .src
  | exc {a dx C : Addr} {ns : List Str} {vs : List V} {ds : List D} (h : a ∉ M) (ha : H a = some (exo a C (some dx))) (h2 : dx ∉ M) (hd : H dx = some (exd dx (ns.zip vs))) (r : RepAll K S M H vs ds) : Rep K S M H (.ref a) (.exc C ns ds)
  | cls (C : Addr) : Rep K S M H (.ref C) (.cls C)
inductive RepAll (K : PySem.W.Frag) (S : Sr) (M : List Addr) (H : Hp) : List V → List D → Prop
  | nil : RepAll K S M H [] []
  | cons {v : V} {d : D} {vs : List V} {ds : List D} (h : Rep K S M H v d) (t : RepAll K S M H vs ds) : RepAll K S M H (v :: vs) (d :: ds)
end

mutual
theorem Rep.imp {K : PySem.W.Frag} {S : Sr} {M M' : List Addr} {H H' : Hp} (ht : ∀ a xs, TAt K M H a xs → TAt K M' H' a xs) (hl : ∀ a xs, LAt K M H a xs → LAt K M' H' a xs) (hs : SrcOk K S H → S.a ∈ M → SrcOk K S H' ∧ S.a ∈ M') (hx : ∀ a o, a ∉ M → H a = some o → a ∉ M' ∧ H' a = some o) :
    ∀ {v : V} {d : D}, Rep K S M H v d → Rep K S M' H' v d
  | _, _, .non => .non
  | _, _, .bl b => .bl b
  | _, _, .int i => .int i
  | _, _, .str s => .str s
  | _, _, .ty n => .ty n
  | _, _, .tup h r => .tup (ht _ _ h) (RepAll.imp ht hl hs hx r)
  | _, _, .lst h r => .lst (hl _ _ h) (RepAll.imp ht hl hs hx r)
  | _, _, .src h m => .src (hs h m).1 (hs h m).2
  | _, _, .exc h ha h2 hd r => .exc (hx _ _ h ha).1 (hx _ _ h ha).2 (hx _ _ h2 hd).1 (hx _ _ h2 hd).2 (RepAll.imp ht hl hs hx r)
  | _, _, .cls C => .cls C
theorem RepAll.imp {K : PySem.W.Frag} {S : Sr} {M M' : List Addr} {H H' : Hp} (ht : ∀ a xs, TAt K M H a xs → TAt K M' H' a xs) (hl : ∀ a xs, LAt K M H a xs → LAt K M' H' a xs) (hs : SrcOk K S H → S.a ∈ M → SrcOk K S H' ∧ S.a ∈ M') (hx : ∀ a o, a ∉ M → H a = some o → a ∉ M' ∧ H' a = some o) :
    ∀ {vs : List V} {ds : List D}, RepAll K S M H vs ds → RepAll K S M' H' vs ds
  | _, _, .nil => .nil
  | _, _, .cons h t => .cons (Rep.imp ht hl hs hx h) (RepAll.imp ht hl hs hx t)
end
section
variable {K : PySem.W.Frag} {S : Sr} {M M' : List Addr} {H H' : Hp} {v : V} {d : D} {vs : List V} {ds : List D}
theorem rd_ext (e : Ext K S H H') {a : Addr} {u : HO} (n : a ≠ S.a) (h : Rd H a u) : Rd H' a u := by
  rcases h with h | ⟨o, h⟩
  · exact .inl (e.keep a _ n h)
  · exact .inr ⟨o, e.keep a _ n h⟩
theorem TAt.ext (e : Ext K S H H') (m : S.a ∈ M) {a : Addr} {xs : List V} (h : TAt K M H a xs) : TAt K M H' a xs :=
  h.imp (fun z => ⟨z.1, rd_ext e (fun q => z.1 (q ▸ m)) z.2⟩) id
theorem LAt.ext (e : Ext K S H H') (m : S.a ∈ M) {a : Addr} {xs : List V} (h : LAt K M H a xs) : LAt K M H' a xs :=
  h.imp (fun z => ⟨z.1, rd_ext e (fun q => z.1 (q ▸ m)) z.2⟩) id
theorem Rep.ext (e : Ext K S H H') (lv : Live S H) (m : S.a ∈ M) (r : Rep K S M H v d) : Rep K S M H' v d :=
  r.imp (fun _ _ => TAt.ext e m) (fun _ _ => LAt.ext e m) (fun h q => ⟨e.src lv h, q⟩) fun a o n h => ⟨n, e.keep a o (fun q => n (q ▸ m)) h⟩
theorem RepAll.ext (e : Ext K S H H') (lv : Live S H) (m : S.a ∈ M) (r : RepAll K S M H vs ds) : RepAll K S M H' vs ds :=
  r.imp (fun _ _ => TAt.ext e m) (fun _ _ => LAt.ext e m) (fun h q => ⟨e.src lv h, q⟩) fun a o n h => ⟨n, e.keep a o (fun q => n (q ▸ m)) h⟩
theorem Rep.less (hm : ∀ a ∈ M', a ∈ M) (s : S.a ∈ M') (r : Rep K S M H v d) : Rep K S M' H v d :=
  r.imp (fun _ _ h => h.imp (fun z => ⟨fun q => z.1 (hm _ q), z.2⟩) id) (fun _ _ h => h.imp (fun z => ⟨fun q => z.1 (hm _ q), z.2⟩) id) (fun h _ => ⟨h, s⟩) fun a o n h => ⟨fun q => n (hm _ q), h⟩
theorem RepAll.less (hm : ∀ a ∈ M', a ∈ M) (s : S.a ∈ M') (r : RepAll K S M H vs ds) : RepAll K S M' H vs ds :=
  r.imp (fun _ _ h => h.imp (fun z => ⟨fun q => z.1 (hm _ q), z.2⟩) id) (fun _ _ h => h.imp (fun z => ⟨fun q => z.1 (hm _ q), z.2⟩) id) (fun h _ => ⟨h, s⟩) fun a o n h => ⟨fun q => n (hm _ q), h⟩
theorem rd_ne {a p : Addr} {u : HO} (h : Rd H a u) (n : H p = none) : a ≠ p := by
  rcases h with h | ⟨o, h⟩ <;> exact ne_of_none h n
/-- more places that may change: they were new -/
theorem Rep.fresh {p : Addr} (n : H p = none) (r : Rep K S M H v d) : Rep K S (M ++ [p]) H v d :=
  r.imp (fun _ _ h => h.imp (fun z => ⟨fun q => (List.mem_append.mp q).elim z.1 fun q => rd_ne z.2 n (by simpa using q), z.2⟩) id)
    (fun _ _ h => h.imp (fun z => ⟨fun q => (List.mem_append.mp q).elim z.1 fun q => rd_ne z.2 n (by simpa using q), z.2⟩) id) (fun h m => ⟨h, List.mem_append_left _ m⟩) fun a o n0 h => ⟨fun q => (List.mem_append.mp q).elim n0 fun q => ne_of_none h n (by simpa using q), h⟩
theorem RepAll.length : ∀ {vs : List V} {ds : List D}, RepAll K S M H vs ds → vs.length = ds.length
  | _, _, .nil => rfl
  | _, _, .cons _ t => congrArg (· + 1) t.length
theorem RepAll.get : ∀ {vs : List V} {ds : List D} {i : Nat} {d : D}, RepAll K S M H vs ds → ds[i]? = some d → ∃ v, vs[i]? = some v ∧ Rep K S M H v d
  | _, _, _, _, .nil, h => by simp at h
  | _, _, 0, _, .cons h t, e => by
    have e' := Option.some.inj e
    subst e'
    exact ⟨_, rfl, h⟩
  | _, _, i + 1, _, .cons h t, e => RepAll.get (i := i) t e
theorem RepAll.getV : ∀ {vs : List V} {ds : List D} {i : Nat} {v : V}, RepAll K S M H vs ds → vs[i]? = some v → ∃ d, ds[i]? = some d ∧ Rep K S M H v d
  | _, _, _, _, .nil, h => by simp at h
  | _, _, 0, _, .cons h t, e => by
    have e' := Option.some.inj e
    subst e'
    exact ⟨_, rfl, h⟩
  | _, _, i + 1, _, .cons h t, e => RepAll.getV (i := i) t e
theorem RepAll.append : ∀ {vs ws : List V} {ds es : List D}, RepAll K S M H vs ds → RepAll K S M H ws es → RepAll K S M H (vs ++ ws) (ds ++ es)
  | _, _, _, _, .nil, s => s
  | _, _, _, _, .cons h t, s => .cons h (t.append s)
theorem RepAll.take : ∀ {vs : List V} {ds : List D} (n : Nat), RepAll K S M H vs ds → RepAll K S M H (vs.take n) (ds.take n)
  | _, _, 0, _ => by simp; exact .nil
  | _, _, _ + 1, .nil => .nil
  | _, _, n + 1, .cons h t => .cons h (t.take n)
theorem RepAll.drop : ∀ {vs : List V} {ds : List D} (n : Nat), RepAll K S M H vs ds → RepAll K S M H (vs.drop n) (ds.drop n)
  | _, _, 0, r => r
  | _, _, _ + 1, .nil => .nil
  | _, _, n + 1, .cons _ t => t.drop n
theorem RepAll.ints : ∀ {vs : List V} {ns : List Int}, RepAll K S M H vs (ns.map D.int) → vs = ns.map V.int
  | _, [], .nil => rfl
  | _, n :: ns, .cons h t => by cases h; rw [t.ints]; rfl
theorem RepAll.bls : ∀ {vs : List V} {ns : List Bool}, RepAll K S M H vs (ns.map D.bl) → vs = ns.map V.bl
  | _, [], .nil => rfl
  | _, n :: ns, .cons h t => by cases h; rw [t.bls]; rfl
theorem RepAll.strs : ∀ {vs : List V} {ns : List Str}, RepAll K S M H vs (ns.map D.str) → vs = ns.map V.str
  | _, [], .nil => rfl
  | _, n :: ns, .cons h t => by cases h; rw [t.strs]; rfl
end

/-! ### what the names hold -/
inductive E where
  | no | is (d : D) | own (k : Nat) (ds : List D)
def EntOk (K : PySem.W.Frag) (S : Sr) (B O : List Addr) (H : Hp) : Option V → E → Prop
  | _, .no => True
  | x, .is d => ∃ v, x = some v ∧ Rep K S (B ++ O) H v d
  | x, .own k ds => ∃ m vs, x = some (.ref m) ∧ O[k]? = some m ∧ H m = some (.lst vs) ∧ RepAll K S (B ++ O) H vs ds
/-- B: what may change anywhere (the source in it); O: the lists of this def's own -/
structure StOk (K : PySem.W.Frag) (S : Sr) (B O : List Addr) (H0 H : Hp) (σ : L2.St) (Γ : List E) : Prop where
  len : σ.length = Γ.length
  ent : ∀ (i : Nat) (g : E), Γ[i]? = some g → ∃ x, σ[i]? = some x ∧ EntOk K S B O H x g
  ext : Ext K S H0 H
  live0 : Live S H0
  mem : S.a ∈ B
  bl : ∀ m ∈ B, ∃ o, H0 m = some o
  nd : O.Nodup
  out : ∀ m ∈ O, m ∉ B
  new : ∀ m ∈ O, H0 m = none
  liv : ∀ m ∈ O, ∃ xs, H m = some (.lst xs)
section
variable {K : PySem.W.Frag} {S : Sr} {B O : List Addr} {H0 H H' : Hp} {σ : L2.St} {Γ Γ' : List E} {v : V} {d : D}
theorem StOk.m (st : StOk K S B O H0 H σ Γ) : S.a ∈ B ++ O := List.mem_append_left _ st.mem
theorem StOk.live (st : StOk K S B O H0 H σ Γ) : Live S H := st.ext.live st.live0
theorem StOk.ne (st : StOk K S B O H0 H σ Γ) {m : Addr} (h : m ∈ O) : m ≠ S.a := fun e => st.out m h (e ▸ st.mem)
theorem StOk.ne2 (st : StOk K S B O H0 H σ Γ) {k : Nat} {m : Addr} (h : O[k]? = some m) : m ≠ S.a := st.ne (List.mem_of_getElem? h)
theorem StOk.free (st : StOk K S B O H0 H σ Γ) {p : Addr} (n : H p = none) : p ∉ B ++ O := fun q => by
  rcases List.mem_append.mp q with q | q
  · obtain ⟨o, e⟩ := st.bl p q
    by_cases hp : p = S.a
    · obtain ⟨⟨o', e'⟩, _⟩ := st.live
      rw [← hp, n] at e'; cases e'
    · have := st.ext.keep p o hp e
      rw [n] at this; cases this
  · obtain ⟨xs, e⟩ := st.liv p q
    rw [n] at e; cases e
theorem StOk.to (st : StOk K S B O H0 H σ Γ) (e : Ext K S H H') : StOk K S B O H0 H' σ Γ where
  len := st.len
  ent := fun i g hg => by
    obtain ⟨x, hx, o⟩ := st.ent i g hg
    refine ⟨x, hx, ?_⟩
    cases g with
    | no => trivial
    | is d => obtain ⟨v, e1, r⟩ := o; exact ⟨v, e1, r.ext e st.live st.m⟩
    | own k ds => obtain ⟨m, vs, e1, e2, e3, r⟩ := o; exact ⟨m, vs, e1, e2, e.keep _ _ (st.ne2 e2) e3, r.ext e st.live st.m⟩
  ext := st.ext.trans e
  live0 := st.live0
  mem := st.mem
  bl := st.bl
  nd := st.nd
  out := st.out
  new := st.new
  liv := fun m hm => let ⟨xs, h⟩ := st.liv m hm; ⟨xs, e.keep _ _ (st.ne hm) h⟩
theorem StOk.set (st : StOk K S B O H0 H σ Γ) (i : Nat) (r : Rep K S (B ++ O) H v d) : StOk K S B O H0 H (σ.set i (some v)) (Γ.set i (.is d)) where
  len := by simpa using st.len
  ent := fun j g hg => by
    by_cases h : i = j
    · subst h
      have hl : i < Γ.length := by
        have := (List.getElem?_eq_some_iff.mp hg).1
        simpa using this
      rw [List.getElem?_set_self hl] at hg
      cases hg
      exact ⟨some v, by rw [List.getElem?_set_self (by rw [st.len]; exact hl)], v, rfl, r⟩
    · rw [List.getElem?_set_ne h] at hg ⊢
      exact st.ent j g hg
  ext := st.ext
  live0 := st.live0
  mem := st.mem
  bl := st.bl
  nd := st.nd
  out := st.out
  new := st.new
  liv := st.liv
/-- less is known -/
inductive LeE : E → E → Prop
  | refl (g) : LeE g g
  | no (g) : LeE g .no
def Le : List E → List E → Prop
  | [], [] => True
  | g :: r, g' :: r' => LeE g g' ∧ Le r r'
  | _, _ => False
theorem Le.length : ∀ {Γ Γ' : List E}, Le Γ Γ' → Γ.length = Γ'.length
  | [], [], _ => rfl
  | g :: r, g' :: r', h => congrArg (· + 1) (Le.length (Γ := r) h.2)
theorem Le.get : ∀ {Γ Γ' : List E} {i : Nat} {g' : E}, Le Γ Γ' → Γ'[i]? = some g' → ∃ g, Γ[i]? = some g ∧ LeE g g'
  | [], [], _, _, _, h => by simp at h
  | g :: r, g' :: r', 0, _, h, e => by
    have e' := Option.some.inj e
    subst e'
    exact ⟨g, rfl, h.1⟩
  | g :: r, g' :: r', i + 1, _, h, e => Le.get (Γ := r) (Γ' := r') (i := i) h.2 e
theorem Le.refl : ∀ Γ : List E, Le Γ Γ
  | [] => trivial
  | g :: r => ⟨.refl g, Le.refl r⟩
theorem StOk.le (st : StOk K S B O H0 H σ Γ) (h : Le Γ Γ') : StOk K S B O H0 H σ Γ' where
  len := st.len.trans h.length
  ent := fun i g hg => by
    obtain ⟨g0, e0, l⟩ := h.get hg
    obtain ⟨x, hx, o⟩ := st.ent i g0 e0
    cases l with
    | refl => exact ⟨x, hx, o⟩
    | no => exact ⟨x, hx, trivial⟩
  ext := st.ext
  live0 := st.live0
  mem := st.mem
  bl := st.bl
  nd := st.nd
  out := st.out
  new := st.new
  liv := st.liv
/-- the same names forgotten -/
def wipeE (Γ : List E) : List Nat → List E
  | [] => Γ
  | v :: vs => (wipeE Γ vs).set v .no
theorem StOk.no (st : StOk K S B O H0 H σ Γ) (i : Nat) (x : Option V) : StOk K S B O H0 H (σ.set i x) (Γ.set i .no) where
  len := by simpa using st.len
  ent := fun j g hg => by
    by_cases h : i = j
    · subst h
      have hl : i < Γ.length := by
        have := (List.getElem?_eq_some_iff.mp hg).1
        simpa using this
      rw [List.getElem?_set_self hl] at hg
      cases hg
      exact ⟨x, by rw [List.getElem?_set_self (by rw [st.len]; exact hl)], trivial⟩
    · rw [List.getElem?_set_ne h] at hg ⊢
      exact st.ent j g hg
  ext := st.ext
  live0 := st.live0
  mem := st.mem
  bl := st.bl
  nd := st.nd
  out := st.out
  new := st.new
  liv := st.liv
theorem StOk.wipe (st : StOk K S B O H0 H σ Γ) : ∀ vs : List Nat, StOk K S B O H0 H (L2.wipe σ vs) (wipeE Γ vs)
  | [] => st
  | v :: vs => (st.wipe vs).no v none
end
end G
set_option Elab.async false
set_option linter.all false
set_option maxRecDepth 100000
set_option maxHeartbeats 1000000
namespace G
open PySem PySem.Spec PyProof.Rows L2

/-! ### judgements -/
def semE (X : Cx) (e : Expr) : TE := fun σ H Q => ∀ pins s, Inv X pins σ H s → wpAny (model X.prog X.w) X.A (eval e X.env) (EP X pins σ Q) X.xe s
theorem pe_sem {X : Cx} {e : Expr} : PE X e (semE X e) := ⟨fun pins s σ H Q I h => h pins s I⟩
theorem semE_of {X : Cx} {e : Expr} {t : TE} {σ : L2.St} {H : Hp} {Q : VK} (h : PE X e t) (q : t σ H Q) : semE X e σ H Q := fun pins s I => h.run pins s σ H Q I q
def semT (X : Cx) (e : Expr) : TT := fun σ H Q => ∀ pins s, Inv X pins σ H s → wpAny (model X.prog X.w) X.A (isTrue e X.env (eval e X.env)) (TP X pins σ Q) X.xe s
theorem pt_sem {X : Cx} {e : Expr} : PT X e (semT X e) := ⟨fun pins s σ H Q I h => h pins s I⟩
theorem semT_of {X : Cx} {e : Expr} {t : TT} {σ : L2.St} {H : Hp} {Q : Bool → Hp → Prop} (h : PT X e t) (q : t σ H Q) : semT X e σ H Q := fun pins s I => h.run pins s σ H Q I q
def semW (X : Cx) (e : Expr) : TT := fun σ H Q => ∀ whole pins s, Inv X pins σ H s → wpAny (model X.prog X.w) X.A (isTrue e X.env whole) (TP X pins σ Q) X.xe s
theorem pw_sem {X : Cx} {e : Expr} : PW X e (semW X e) := ⟨fun wh pins s σ H Q I h => h wh pins s I⟩
theorem semW_of {X : Cx} {e : Expr} {t : TT} {σ : L2.St} {H : Hp} {Q : Bool → Hp → Prop} (h : PW X e t) (q : t σ H Q) : semW X e σ H Q := fun wh pins s I => h.run wh pins s σ H Q I q
def semA (X : Cx) (es : List Expr) : TA := fun σ H Q => ∀ pos pins s, Inv X pins σ H s → wpAny (model X.prog X.w) X.A (spliced (backTo pos (starEach es X.env))) (AP X pins σ Q) X.xe s
theorem pa_sem {X : Cx} {es : List Expr} : PA X es (semA X es) := ⟨fun pos pins s σ H Q I h => h pos pins s I⟩
theorem semA_of {X : Cx} {es : List Expr} {t : TA} {σ : L2.St} {H : Hp} {Q : List V → Hp → Prop} (h : PA X es t) (q : t σ H Q) : semA X es σ H Q := fun pos pins s I => h.run pos pins s σ H Q I q
def semK (X : Cx) (es : List Keyword) : TA := fun σ H Q => ∀ pos pins s, Inv X pins σ H s → wpAny (model X.prog X.w) X.A (evalAll ((backToKw pos (keywordEach es X.env)).map (·.2))) (AP X pins σ Q) X.xe s
theorem pk_sem {X : Cx} {es : List Keyword} : PK X es (semK X es) := ⟨fun pos pins s σ H Q I h => h pos pins s I⟩
theorem semK_of {X : Cx} {es : List Keyword} {t : TA} {σ : L2.St} {H : Hp} {Q : List V → Hp → Prop} (h : PK X es t) (q : t σ H Q) : semK X es σ H Q := fun pos pins s I => h.run pos pins s σ H Q I q
def semI (X : Cx) (tg iter : Expr) : TI := fun σ H R => ∀ pins s, Inv X pins σ H s → wpAny (model X.prog X.w) X.A (eval iter X.env) (fun v s1 => wpAny (model X.prog X.w) X.A (pyIter v) (PIE X pins σ tg R) X.xe s1) X.xe s
theorem pi_sem {X : Cx} {tg iter : Expr} : PI X tg iter (semI X tg iter) := ⟨fun pins s σ H R I h => h pins s I⟩
theorem semI_of {X : Cx} {tg iter : Expr} {t : TI} {σ : L2.St} {H : Hp} {R : It → Hp → Prop} (h : PI X tg iter t) (q : t σ H R) : semI X tg iter σ H R := fun pins s I => h.run pins s σ H R I q
def semS (X : Cx) (st : Stmt) : TS := fun Dn σ H => ∀ pins s, Inv X pins σ H s → wpAny (model X.prog X.w) X.A (exec st X.env) (SP X pins Dn) X.xe s
theorem ps_sem {X : Cx} {st : Stmt} : PS X st (semS X st) := ⟨fun pins s σ H Dn I h => h pins s I⟩
theorem semS_of {X : Cx} {st : Stmt} {t : TS} {σ : L2.St} {H : Hp} {Dn : Ends} (h : PS X st t) (q : t Dn σ H) : semS X st Dn σ H := fun pins s I => h.run pins s σ H Dn I q
def semSs (X : Cx) (st : List Stmt) : TS := fun Dn σ H => ∀ pins s, Inv X pins σ H s → wpAny (model X.prog X.w) X.A (execs st X.env) (SP X pins Dn) X.xe s
theorem pss_sem {X : Cx} {st : List Stmt} : PSs X st (semSs X st) := ⟨fun pins s σ H Dn I h => h pins s I⟩
theorem semSs_of {X : Cx} {st : List Stmt} {t : TS} {σ : L2.St} {H : Hp} {Dn : Ends} (h : PSs X st t) (q : t Dn σ H) : semSs X st Dn σ H := fun pins s I => h.run pins s σ H Dn I q

def KE (K : PySem.W.Frag) (S : Sr) (M : List Addr) (H : Hp) (P : D → Prop) (Q : VK) : Prop := ∀ v d H', Ext K S H H' → Rep K S M H' v d → P d → Q v H'
def KA (K : PySem.W.Frag) (S : Sr) (M : List Addr) (H : Hp) (P : List D → Prop) (Q : List V → Hp → Prop) : Prop := ∀ vs ds H', Ext K S H H' → RepAll K S M H' vs ds → P ds → Q vs H'
def KB (K : PySem.W.Frag) (S : Sr) (H : Hp) (P : Bool → Prop) (Q : Bool → Hp → Prop) : Prop := ∀ b H', Ext K S H H' → P b → Q b H'
theorem KE.to {K S M H H1 P Q} (k : KE K S M H P Q) (e : Ext K S H H1) : KE K S M H1 P Q := fun v d H' e' r p => k v d H' (e.trans e') r p
theorem KA.to {K S M H H1 P Q} (k : KA K S M H P Q) (e : Ext K S H H1) : KA K S M H1 P Q := fun v d H' e' r p => k v d H' (e.trans e') r p
theorem KB.to {K S H H1 P Q} (k : KB K S H P Q) (e : Ext K S H H1) : KB K S H1 P Q := fun b H' e' p => k b H' (e.trans e') p

def EX (X : Cx) (e : Expr) (Γ : List E) (P : D → Prop) : Prop := ∀ S B O H0 H σ, StOk X.K S B O H0 H σ Γ → ∀ Q, KE X.K S (B ++ O) H P Q → semE X e σ H Q
def TX (X : Cx) (e : Expr) (Γ : List E) (P : Bool → Prop) : Prop := ∀ S B O H0 H σ, StOk X.K S B O H0 H σ Γ → ∀ Q, KB X.K S H P Q → semT X e σ H Q
def TW (X : Cx) (e : Expr) (Γ : List E) (P : Bool → Prop) : Prop := ∀ S B O H0 H σ, StOk X.K S B O H0 H σ Γ → ∀ Q, KB X.K S H P Q → semW X e σ H Q
def AX (X : Cx) (es : List Expr) (Γ : List E) (P : List D → Prop) : Prop := ∀ S B O H0 H σ, StOk X.K S B O H0 H σ Γ → ∀ Q, KA X.K S (B ++ O) H P Q → semA X es σ H Q
def KX (X : Cx) (es : List Keyword) (Γ : List E) (P : List D → Prop) : Prop := ∀ S B O H0 H σ, StOk X.K S B O H0 H σ Γ → ∀ Q, KA X.K S (B ++ O) H P Q → semK X es σ H Q

/-! ### names, constants -/
@[reducible] def nth {α : Type} : List α → Nat → Option α
  | [], _ => none
  | x :: _, 0 => some x
  | _ :: r, i + 1 => nth r i
theorem nth_eq {α : Type} : ∀ (l : List α) (i : Nat), nth l i = l[i]?
  | [], i => by simp [nth]
  | x :: _, 0 => rfl
  | _ :: r, i + 1 => by
    show nth r i = _
    rw [nth_eq r i]
    rfl
@[reducible] def put : List E → Nat → E → List E
  | [], _, _ => []
  | _ :: r, 0, g => g :: r
  | x :: r, i + 1, g => x :: put r i g
theorem put_eq : ∀ (l : List E) (i : Nat) (g : E), put l i g = l.set i g
  | [], i, g => by simp [put]
  | x :: _, 0, g => rfl
  | x :: r, i + 1, g => by
    show x :: put r i g = _
    rw [put_eq r i g]
    rfl
section
variable {X : Cx} {Γ : List E} {P : D → Prop} {pos : Pos}
theorem ex_of {e : Expr} {t : TE} (hp : PE X e t) (h : ∀ S B O H0 H σ, StOk X.K S B O H0 H σ Γ → ∀ Q, KE X.K S (B ++ O) H P Q → t σ H Q) : EX X e Γ P :=
  fun S B O H0 H σ st Q k => semE_of hp (h S B O H0 H σ st Q k)
theorem ex_name (i : Nat) {N : List Str} {x : Str} {d : D} (hX : X.N = N) (hN : nth N i = some x) (hΓ : nth Γ i = some (.is d)) (hv : Vis X.env.scope x) (h : P d) (hd : (x == ("__debug__" : Str)) = false := by decide) (hcd : (x == ("__classdict__" : Str)) = false := by decide) :
    EX X (.Name x pos) Γ P := by
  rw [nth_eq] at hN hΓ
  refine ex_of (pe_var (i := i) (by rw [hX]; exact hN) hv hd hcd) fun S B O H0 H σ st Q k => ?_
  obtain ⟨y, hy, v, rfl, r⟩ := st.ent i _ hΓ
  exact ⟨v, hy, k v d H .refl r h⟩
theorem ex_int {i : Int} {j} (h : P (.int i)) : EX X (.Constant (.int i) j pos) Γ P := ex_of pe_int fun S B O H0 H σ st Q k => k _ _ H .refl (.int i) h
theorem ex_bl {i : Bool} {j} (h : P (.bl i)) : EX X (.Constant (.bool i) j pos) Γ P := ex_of pe_bl fun S B O H0 H σ st Q k => k _ _ H .refl (.bl i) h
theorem ex_non {j} (h : P .non) : EX X (.Constant .none j pos) Γ P := ex_of pe_non fun S B O H0 H σ st Q k => k _ _ H .refl .non h
theorem ex_str {z : Str} {j} (h : P (.str z)) : EX X (.Constant (.str z) j pos) Γ P := ex_of pe_str fun S B O H0 H σ st Q k => k _ _ H .refl (.str z) h
/-- a module's constant -/
structure ConstOk (X : Cx) (x : Str) (d : D) : Prop where
  ex : ∃ v u, X.mg x = some u ∧ RelV v u ∧ ∀ S M H, Rep X.K S M H v d
theorem ex_glob {x : Str} {d : D} (c : ConstOk X x d) (hg : Gl X x) (h : P d) (hd : (x == ("__debug__" : Str)) = false := by decide) : EX X (.Name x pos) Γ P := by
  obtain ⟨v, u, hm, rv, hr⟩ := c.ex
  exact ex_of (pe_glob hg hm rv hd) fun S B O H0 H σ st Q k => k v d H .refl (hr S _ H) h
theorem ex_ty {x : Str} {n : String} (hm : X.mg x = none) (hg : Gl X x) (hv : bootBuiltins x = some (.type n)) (h : P (.ty n)) (hn : x ≠ "__name__" := by decide) (hd : (x == ("__debug__" : Str)) = false := by decide) : EX X (.Name x pos) Γ P :=
  ex_of (pe_bltn (v := .ty n) hg hm hv rfl hn hd) fun S B O H0 H σ st Q k => k _ _ H .refl (.ty n) h

/-! ### argument lists, displays -/
theorem ax_nil {P : List D → Prop} (h : P []) : AX X [] Γ P := fun S B O H0 H σ st Q k => semA_of pa_nil (k [] [] H .refl .nil h)
theorem ax_cons {e : Expr} {es : List Expr} {P : List D → Prop} (h : EX X e Γ fun d => AX X es Γ fun ds => P (d :: ds)) (hs : starEach (e :: es) X.env = (false, eval e X.env) :: starEach es X.env := by rfl) : AX X (e :: es) Γ P :=
  fun S B O H0 H σ st Q k => semA_of (pa_cons pe_sem pa_sem hs) (h S B O H0 H σ st _ fun v d H1 e1 r1 p1 => p1 S B O H0 H1 σ (st.to e1) _ fun vs ds H2 e2 r2 p2 =>
    k (v :: vs) (d :: ds) H2 (e1.trans e2) (.cons (r1.ext e2 (st.to e1).live st.m) r2) p2)
theorem kx_nil {P : List D → Prop} (h : P []) : KX X [] Γ P := fun S B O H0 H σ st Q k => semK_of pk_nil (k [] [] H .refl .nil h)
theorem kx_cons {nm kpos} {e : Expr} {es : List Keyword} {P : List D → Prop} (h : EX X e Γ fun d => KX X es Γ fun ds => P (d :: ds)) : KX X (⟨nm, e, kpos⟩ :: es) Γ P :=
  fun S B O H0 H σ st Q k => semK_of (pk_cons pe_sem pk_sem) (h S B O H0 H σ st _ fun v d H1 e1 r1 p1 => p1 S B O H0 H1 σ (st.to e1) _ fun vs ds H2 e2 r2 p2 =>
    k (v :: vs) (d :: ds) H2 (e1.trans e2) (.cons (r1.ext e2 (st.to e1).live st.m) r2) p2)
theorem small {n : Nat} (h : n ≤ 100000) : n ≤ sizeLine := Nat.le_trans h (by decide)
/-- a new tuple, a new list -/
theorem rep_tup {K S B O H0 H σ Γ p vs ds} (st : StOk K S B O H0 H σ Γ) (r : RepAll K S (B ++ O) H vs ds) (n : H p = none) : Rep K S (B ++ O) (upd H p (.tup vs)) (.ref p) (.tup ds) :=
  .tup (.inl ⟨st.free n, .inl upd_same⟩) (r.ext (.new n) st.live st.m)
theorem rep_lst {K S B O H0 H σ Γ p vs ds} (st : StOk K S B O H0 H σ Γ) (r : RepAll K S (B ++ O) H vs ds) (n : H p = none) : Rep K S (B ++ O) (upd H p (.lst vs)) (.ref p) (.lst ds) :=
  .lst (.inl ⟨st.free n, .inl upd_same⟩) (r.ext (.new n) st.live st.m)
theorem ex_tup {es : List Expr} {j} (h : AX X es Γ fun ds => ds.length ≤ 100000 ∧ P (.tup ds)) : EX X (.Tuple es j pos) Γ P :=
  ex_of (pe_tup pa_sem) fun S B O H0 H σ st Q k => h S B O H0 H σ st _ fun vs ds H1 e1 r1 p1 => ⟨by rw [r1.length]; exact small p1.1, fun p np => k _ _ _ (e1.trans (.new np)) (rep_tup (st.to e1) r1 np) p1.2⟩
theorem ex_lst {es : List Expr} (h : AX X es Γ fun ds => ds.length ≤ 100000 ∧ P (.lst ds)) : EX X (.List es pos) Γ P :=
  ex_of (pe_lst pa_sem) fun S B O H0 H σ st Q k => h S B O H0 H σ st _ fun vs ds H1 e1 r1 p1 => ⟨by rw [r1.length]; exact small p1.1, fun p np => k _ _ _ (e1.trans (.new np)) (rep_lst (st.to e1) r1 np) p1.2⟩

/-! ### operations on values -/
/-- what an operation on two data gives -/
abbrev W2 := D → D → (D → Prop) → Prop
def OpD (X : Cx) (f : Value → Value → Sem Value) (w : W2) : Prop :=
  ∀ S B O H0 H σ Γ (P : D → Prop) x y a b, StOk X.K S B O H0 H σ Γ → Rep X.K S (B ++ O) H x a → Rep X.K S (B ++ O) H y b → w a b P → ∃ r : R2, OpR X f r ∧ ∀ Q, KE X.K S (B ++ O) H P Q → r x y H Q
/-- any rule, at the values at hand -/
def semO (X : Cx) (f : Value → Value → Sem Value) : R2 := fun x y H Q => ∀ pins s σ v u, Inv X pins σ H s → RelV x v → RelV y u → wpAny (model X.prog X.w) X.A (f v u) (EP X pins σ Q) X.xe s
theorem op_sem {f : Value → Value → Sem Value} : OpR X f (semO X f) := fun pins s σ H x y v u Q I rx ry h => h pins s σ v u I rx ry
theorem semO_of {f : Value → Value → Sem Value} {r : R2} (h : OpR X f r) {x y : V} {H : Hp} {Q : VK} (q : r x y H Q) : semO X f x y H Q := fun pins s σ v u I rx ry => h pins s σ H x y v u Q I rx ry q
theorem ex_bin {op : Operator} {a b : Expr} {w : W2} (ho : OpD X (binaryOp op) w) (h : EX X a Γ fun x => EX X b Γ fun y => w x y P) : EX X (.BinOp a op b pos) Γ P :=
  ex_of (pe_op op_sem pe_sem pe_sem) fun S B O H0 H σ st Q k => h S B O H0 H σ st _ fun v d H1 e1 r1 p1 => p1 S B O H0 H1 σ (st.to e1) _ fun v2 d2 H2 e2 r2 p2 => by
    obtain ⟨r, hr, hq⟩ := ho S B O H0 H2 σ Γ P v v2 d d2 (st.to (e1.trans e2)) (r1.ext e2 (st.to e1).live st.m) r2 p2
    exact semO_of hr (hq Q (k.to (e1.trans e2)))
theorem ex_cmp {op : CmpOp} {a b : Expr} {w : W2} (ho : OpD X (compareOp op) w) (h : EX X a Γ fun x => EX X b Γ fun y => w x y P) (hm : behindInMarks op b = false := by first | exact nomark _ | rfl) : EX X (.Compare a [op] [b] pos) Γ P :=
  ex_of (pe_cmpR op_sem pe_sem pe_sem hm) fun S B O H0 H σ st Q k => h S B O H0 H σ st _ fun v d H1 e1 r1 p1 => p1 S B O H0 H1 σ (st.to e1) _ fun v2 d2 H2 e2 r2 p2 => by
    obtain ⟨r, hr, hq⟩ := ho S B O H0 H2 σ Γ P v v2 d d2 (st.to (e1.trans e2)) (r1.ext e2 (st.to e1).live st.m) r2 p2
    exact semO_of hr (hq Q (k.to (e1.trans e2)))
/-- a <= b <= c -/
def asB (P : Bool → Prop) : D → Prop
  | .bl k => P k
  | _ => False
theorem asB_use {K S M H} {v : V} {d : D} {P : Bool → Prop} (r : Rep K S M H v d) (h : asB P d) : ∃ k, v = .bl k ∧ d = .bl k ∧ P k := by
  cases r <;> first | exact h.elim | exact ⟨_, rfl, rfl, h⟩
theorem ex_chain {op op' : CmpOp} {a b c : Expr} {w w' : W2} (ho : OpD X (compareOp op) w) (ho' : OpD X (compareOp op') w')
    (h : EX X a Γ fun x => EX X b Γ fun y => w x y (asB fun k => if k then EX X c Γ fun z => w' y z P else P (.bl false))) (hm : lastMarks [op, op'] [b, c] = false := by with_unfolding_all rfl) : EX X (.Compare a [op, op'] [b, c] pos) Γ P :=
  ex_of (pe_chain op_sem op_sem pe_sem pe_sem pe_sem hm) fun S B O H0 H σ st Q k => h S B O H0 H σ st _ fun v d H1 e1 r1 p1 => p1 S B O H0 H1 σ (st.to e1) _ fun v2 d2 H2 e2 r2 p2 => by
    obtain ⟨r, hr, hq⟩ := ho S B O H0 H2 σ Γ _ v v2 d d2 (st.to (e1.trans e2)) (r1.ext e2 (st.to e1).live st.m) r2 p2
    refine semO_of hr (hq _ fun z dz H3 e3 r3 p3 => ?_)
    obtain ⟨b, rfl, rfl, p3⟩ := asB_use r3 p3
    refine ⟨b, rfl, ?_⟩
    cases b with
    | true =>
      have st3 := st.to (e1.trans (e2.trans e3))
      refine iteT (p3 S B O H0 H3 σ st3 _ fun v4 d4 H4 e4 r4 p4 => ?_)
      obtain ⟨r', hr', hq'⟩ := ho' S B O H0 H4 σ Γ P v2 v4 d2 d4 (st3.to e4) (r2.ext (e3.trans e4) (st.to (e1.trans e2)).live st.m) r4 p4
      exact semO_of hr' (hq' Q (k.to (e1.trans (e2.trans (e3.trans e4)))))
    | false => exact iteF (k _ _ H3 (e1.trans (e2.trans e3)) (.bl false) p3)

/-! ### tests -/
section
variable {P : Bool → Prop}
theorem tx_of {e : Expr} {t : TT} (hp : PT X e t) (h : ∀ S B O H0 H σ, StOk X.K S B O H0 H σ Γ → ∀ Q, KB X.K S H P Q → t σ H Q) : TX X e Γ P :=
  fun S B O H0 H σ st Q k => semT_of hp (h S B O H0 H σ st Q k)
theorem tx_cmp {op : CmpOp} {a b : Expr} {w : W2} (ho : OpD X (compareOp op) w) (h : EX X a Γ fun x => EX X b Γ fun y => w x y (asB P)) (hm : behindInMarks op b = false := by first | exact nomark _ | rfl) : TX X (.Compare a [op] [b] pos) Γ P :=
  tx_of (pt_cmpR op_sem pe_sem pe_sem hm) fun S B O H0 H σ st Q k => h S B O H0 H σ st _ fun v d H1 e1 r1 p1 => p1 S B O H0 H1 σ (st.to e1) _ fun v2 d2 H2 e2 r2 p2 => by
    obtain ⟨r, hr, hq⟩ := ho S B O H0 H2 σ Γ _ v v2 d d2 (st.to (e1.trans e2)) (r1.ext e2 (st.to e1).live st.m) r2 p2
    refine semO_of hr (hq _ fun z dz H3 e3 r3 p3 => ?_)
    obtain ⟨b, rfl, rfl, p3⟩ := asB_use r3 p3
    exact ⟨b, rfl, k b H3 (e1.trans (e2.trans e3)) p3⟩
theorem tx_chain {op op' : CmpOp} {a b c : Expr} {w w' : W2} (ho : OpD X (compareOp op) w) (ho' : OpD X (compareOp op') w')
    (h : EX X a Γ fun x => EX X b Γ fun y => w x y (asB fun k => if k then EX X c Γ fun z => w' y z (asB P) else P false)) (hm : lastMarks [op, op'] [b, c] = false := by with_unfolding_all rfl) : TX X (.Compare a [op, op'] [b, c] pos) Γ P :=
  tx_of (pt_chain op_sem op_sem pe_sem pe_sem pe_sem hm) fun S B O H0 H σ st Q k => h S B O H0 H σ st _ fun v d H1 e1 r1 p1 => p1 S B O H0 H1 σ (st.to e1) _ fun v2 d2 H2 e2 r2 p2 => by
    obtain ⟨r, hr, hq⟩ := ho S B O H0 H2 σ Γ _ v v2 d d2 (st.to (e1.trans e2)) (r1.ext e2 (st.to e1).live st.m) r2 p2
    refine semO_of hr (hq _ fun z dz H3 e3 r3 p3 => ?_)
    obtain ⟨b, rfl, rfl, p3⟩ := asB_use r3 p3
    refine ⟨b, rfl, ?_⟩
    cases b with
    | true =>
      have st3 := st.to (e1.trans (e2.trans e3))
      refine iteT (p3 S B O H0 H3 σ st3 _ fun v4 d4 H4 e4 r4 p4 => ?_)
      obtain ⟨r', hr', hq'⟩ := ho' S B O H0 H4 σ Γ _ v2 v4 d2 d4 (st3.to e4) (r2.ext (e3.trans e4) (st.to (e1.trans e2)).live st.m) r4 p4
      refine semO_of hr' (hq' _ fun z5 dz5 H5 e5 r5 p5 => ?_)
      obtain ⟨b5, rfl, rfl, p5⟩ := asB_use r5 p5
      exact ⟨b5, rfl, k b5 H5 (e1.trans (e2.trans (e3.trans (e4.trans e5)))) p5⟩
    | false => exact iteF ⟨false, rfl, k _ H3 (e1.trans (e2.trans e3)) p3⟩
/-- a value's truth -/
def asTru (P : Bool → Prop) : D → Prop
  | .non => P false
  | .bl k => P k
  | .int i => P (i != 0)
  | .str s => s.length ≤ sizeLine ∧ P ((s.length : Int) != 0)
  | .tup l => P (!l.isEmpty)
  | .lst l => P (!l.isEmpty)
  | _ => False
theorem RepAll.empty {K S M H} : ∀ {vs : List V} {ds : List D}, RepAll K S M H vs ds → vs.isEmpty = ds.isEmpty
  | _, _, .nil => rfl
  | _, _, .cons _ _ => rfl
theorem asTru_use {K S M H} {v : V} {d : D} {P : Bool → Prop} (r : Rep K S M H v d) (h : asTru P d) : ∃ k, TruV K v H k ∧ P k := by
  cases r with
  | non => exact ⟨false, rfl, h⟩
  | bl b => exact ⟨b, rfl, h⟩
  | int i => exact ⟨_, rfl, h⟩
  | str s => exact ⟨_, ⟨h.1, rfl⟩, h.2⟩
  | ty n => exact h.elim
  | @tup a vs ds ha r => exact ⟨!vs.isEmpty, .inr (.inl ⟨vs, ha.sq, rfl⟩), by rw [r.empty]; exact h⟩
  | @lst a vs ds ha r => exact ⟨!vs.isEmpty, .inl ⟨vs, ha.sq, rfl⟩, by rw [r.empty]; exact h⟩
  | src _ _ => exact h.elim
  | exc _ _ _ _ _ => exact h.elim
  | cls _ => exact h.elim
theorem tx_truth {e : Expr} (h : EX X e Γ (asTru P)) (he : ∀ whole, isTrue e X.env whole = (do let v ← whole; standAt e.pos; holding [v] (truthy v)) := by intro _; rfl) : TX X e Γ P :=
  tx_of (pt_truth pe_sem he) fun S B O H0 H σ st Q k => h S B O H0 H σ st _ fun v d H1 e1 r1 p1 =>
    let ⟨c, hc, pc⟩ := asTru_use r1 p1; ⟨c, hc, k c H1 e1 pc⟩
theorem tx_not {e : Expr} (h : TX X e Γ fun b => P (!b)) : TX X (.UnaryOp .Not e pos) Γ P :=
  tx_of (pt_not pt_sem) fun S B O H0 H σ st Q k => h S B O H0 H σ st _ fun b H1 e1 p1 => k _ H1 e1 p1
theorem tw_and1 {e : Expr} (h : TX X e Γ P) : TW X (.BoolOp .And [e] pos) Γ P := fun S B O H0 H σ st Q k => semW_of (pw_and1 pt_sem) (h S B O H0 H σ st Q k)
theorem tw_or1 {e : Expr} (h : TX X e Γ P) : TW X (.BoolOp .Or [e] pos) Γ P := fun S B O H0 H σ st Q k => semW_of (pw_or1 pt_sem) (h S B O H0 H σ st Q k)
theorem tw_and {e e2 : Expr} {es : List Expr} (h : TX X e Γ fun b => if b then TW X (.BoolOp .And (e2 :: es) pos) Γ P else P false) : TW X (.BoolOp .And (e :: e2 :: es) pos) Γ P :=
  fun S B O H0 H σ st Q k => semW_of (pw_and pt_sem pw_sem) (h S B O H0 H σ st _ fun b H1 e1 p1 => by
    cases b with
    | true => exact iteT (p1 S B O H0 H1 σ (st.to e1) Q (k.to e1))
    | false => exact iteF (k _ H1 e1 p1))
theorem tw_or {e e2 : Expr} {es : List Expr} (h : TX X e Γ fun b => if b then P true else TW X (.BoolOp .Or (e2 :: es) pos) Γ P) : TW X (.BoolOp .Or (e :: e2 :: es) pos) Γ P :=
  fun S B O H0 H σ st Q k => semW_of (pw_or pt_sem pw_sem) (h S B O H0 H σ st _ fun b H1 e1 p1 => by
    cases b with
    | true => exact iteT (k _ H1 e1 p1)
    | false => exact iteF (p1 S B O H0 H1 σ (st.to e1) Q (k.to e1)))
theorem tx_w {e : Expr} (h : TW X e Γ P) : TX X e Γ P := tx_of (PW.pt pw_sem) fun S B O H0 H σ st Q k => h S B O H0 H σ st Q k
end
/-! .. as values -/
theorem ex_one {op} {e : Expr} (h : EX X e Γ P) : EX X (.BoolOp op [e] pos) Γ P := ex_of (pe_one pe_sem) fun S B O H0 H σ st Q k => h S B O H0 H σ st Q k
theorem ex_and {e e2 : Expr} {es : List Expr} (h : EX X e Γ (asB fun b => if b then EX X (.BoolOp .And (e2 :: es) pos) Γ P else P (.bl false))) : EX X (.BoolOp .And (e :: e2 :: es) pos) Γ P :=
  ex_of (pe_and pe_sem pe_sem) fun S B O H0 H σ st Q k => h S B O H0 H σ st _ fun v d H1 e1 r1 p1 => by
    obtain ⟨b, rfl, rfl, p1⟩ := asB_use r1 p1
    refine ⟨b, rfl, ?_⟩
    cases b with
    | true => exact iteT (p1 S B O H0 H1 σ (st.to e1) Q (k.to e1))
    | false => exact iteF (k _ _ H1 e1 (.bl _) p1)
theorem ex_or {e e2 : Expr} {es : List Expr} (h : EX X e Γ (asB fun b => if b then P (.bl true) else EX X (.BoolOp .Or (e2 :: es) pos) Γ P)) : EX X (.BoolOp .Or (e :: e2 :: es) pos) Γ P :=
  ex_of (pe_or pe_sem pe_sem) fun S B O H0 H σ st Q k => h S B O H0 H σ st _ fun v d H1 e1 r1 p1 => by
    obtain ⟨b, rfl, rfl, p1⟩ := asB_use r1 p1
    refine ⟨b, rfl, ?_⟩
    cases b with
    | true => exact iteT (k _ _ H1 e1 (.bl _) p1)
    | false => exact iteF (p1 S B O H0 H1 σ (st.to e1) Q (k.to e1))
theorem ex_not {e : Expr} (h : EX X e Γ (asB fun b => P (.bl (!b)))) : EX X (.UnaryOp .Not e pos) Γ P :=
  ex_of (pe_not pe_sem) fun S B O H0 H σ st Q k => h S B O H0 H σ st _ fun v d H1 e1 r1 p1 => by
    obtain ⟨b, rfl, rfl, p1⟩ := asB_use r1 p1
    exact ⟨b, rfl, k _ _ H1 e1 (.bl _) p1⟩
theorem ex_ifExp {c a b : Expr} (h : TX X c Γ fun k => if k then EX X a Γ P else EX X b Γ P) : EX X (.IfExp c a b pos) Γ P :=
  ex_of (pe_ifExp pt_sem pe_sem pe_sem) fun S B O H0 H σ st Q k => h S B O H0 H σ st _ fun b H1 e1 p1 => by
    cases b with
    | true => exact iteT (p1 S B O H0 H1 σ (st.to e1) Q (k.to e1))
    | false => exact iteF (p1 S B O H0 H1 σ (st.to e1) Q (k.to e1))
def asI (P : Int → Prop) : D → Prop
  | .int k => P k
  | _ => False
theorem asI_use {K S M H} {v : V} {d : D} {P : Int → Prop} (r : Rep K S M H v d) (h : asI P d) : ∃ k, v = .int k ∧ d = .int k ∧ P k := by
  cases r <;> first | exact h.elim | exact ⟨_, rfl, rfl, h⟩
theorem ex_neg {e : Expr} (h : EX X e Γ (asI fun i => P (.int (-i)))) : EX X (.UnaryOp .USub e pos) Γ P :=
  ex_of (pe_un un_neg pe_sem) fun S B O H0 H σ st Q k => h S B O H0 H σ st _ fun v d H1 e1 r1 p1 => by
    obtain ⟨b, rfl, rfl, p1⟩ := asI_use r1 p1
    exact ⟨b, rfl, k _ _ H1 e1 (.int _) p1⟩
end
end G
set_option Elab.async false
set_option linter.all false
set_option maxRecDepth 100000
set_option maxHeartbeats 1000000
namespace G
open PySem PySem.Spec PyProof.Rows L2
/-! ### operators on data -/
section
variable {X : Cx}
def wI (C : Int → Int → Prop) (g : Int → Int → D) : W2 := fun a b P => match a, b with
  | .int i, .int j => C i j ∧ P (g i j)
  | _, _ => False
theorem opd_I {f : Value → Value → Sem Value} {C : Int → Int → Prop} {g : Int → Int → D} {gv : Int → Int → V} (ho : OpR X f (rI C gv)) (hg : ∀ S M H i j, Rep X.K S M H (gv i j) (g i j)) : OpD X f (wI C g) := by
  intro S B O H0 H σ Γ P x y a b st r1 r2 h
  cases r1 <;> try exact h.elim
  cases r2 <;> try exact h.elim
  exact ⟨_, ho, fun Q k => ⟨_, _, rfl, rfl, h.1, k _ _ H .refl (hg ..) h.2⟩⟩
theorem opd_I0 {f : Value → Value → Sem Value} {g : Int → Int → D} {gv : Int → Int → V} (ho : OpR X f (rI0 gv)) (hg : ∀ S M H i j, Rep X.K S M H (gv i j) (g i j)) : OpD X f (wI (fun _ _ => True) g) := by
  intro S B O H0 H σ Γ P x y a b st r1 r2 h
  cases r1 <;> try exact h.elim
  cases r2 <;> try exact h.elim
  exact ⟨_, ho, fun Q k => ⟨_, _, rfl, rfl, k _ _ H .refl (hg ..) h.2⟩⟩
def CBig (i j : Int) : Prop := i.natAbs < 2 ^ 100000 ∧ j.natAbs < 2 ^ 100000
def CDv (_ j : Int) : Prop := j ≠ 0 ∧ j.natAbs < 2 ^ 8000
abbrev wSub : W2 := wI (fun _ _ => True) fun i j => .int (i - j)
abbrev wMod : W2 := wI (fun _ j => j ≠ 0) fun i j => .int (i.fmod j)
abbrev wFdiv : W2 := wI CDv fun i j => .int (i.fdiv j)
abbrev wPow : W2 := wI CPow fun i j => .int (i ^ j.toNat)
abbrev wLt : W2 := wI (fun _ _ => True) fun i j => .bl (decide (i < j))
abbrev wLe : W2 := wI (fun _ _ => True) fun i j => .bl (decide (i ≤ j))
abbrev wGt : W2 := wI (fun _ _ => True) fun i j => .bl (decide (j < i))
abbrev wGe : W2 := wI (fun _ _ => True) fun i j => .bl (decide (j ≤ i))
theorem od_sub : OpD X (binaryOp .Sub) wSub := opd_I0 op_sub fun _ _ _ _ _ => .int _
theorem od_mod : OpD X (binaryOp .Mod) wMod := opd_I op_modN fun _ _ _ _ _ => .int _
theorem op_fdivG : OpR X (binaryOp .FloorDiv) (rI CDv fun i j => .int (i.fdiv j)) := opI fun i j _ _ _ _ _ hc q => by
  have h1 : j ≠ 0 := hc.1
  exact floordiv_int h1 q (.inl (PyProof.noPylong_of_log2 (Nat.lt_trans (PySem.Flt.log2_lt_of (by decide) hc.2) (by decide))))
theorem od_fdiv : OpD X (binaryOp .FloorDiv) wFdiv := opd_I op_fdivG fun _ _ _ _ _ => .int _
theorem od_pow : OpD X (binaryOp .Pow) wPow := opd_I op_pow fun _ _ _ _ _ => .int _
theorem od_lt : OpD X (compareOp .Lt) wLt := opd_I0 op_lt fun _ _ _ _ _ => .bl _
theorem od_le : OpD X (compareOp .LtE) wLe := opd_I0 op_le fun _ _ _ _ _ => .bl _
theorem od_gt : OpD X (compareOp .Gt) wGt := opd_I0 op_gt fun _ _ _ _ _ => .bl _
theorem od_ge : OpD X (compareOp .GtE) wGe := opd_I0 op_ge fun _ _ _ _ _ => .bl _
/-- + -/
def wAdd : W2 := fun a b P => match a, b with
  | .int i, .int j => P (.int (i + j))
  | .str s, .str t => s.length + t.length ≤ sizeLine ∧ P (.str (s ++ t))
  | .tup l, .tup m => l.length + m.length ≤ sizeLine ∧ P (.tup (l ++ m))
  | _, _ => False
theorem od_add : OpD X (binaryOp .Add) wAdd := by
  intro S B O H0 H σ Γ P x y a b st r1 r2 h
  cases r1 with
  | int i =>
    cases r2 <;> try exact h.elim
    exact ⟨_, op_add, fun Q k => ⟨_, _, rfl, rfl, k _ _ H .refl (.int _) h⟩⟩
  | str s =>
    cases r2 <;> try exact h.elim
    exact ⟨_, op_add_str, fun Q k => ⟨_, _, rfl, rfl, h.1, k _ _ H .refl (.str _) h.2⟩⟩
  | @tup a vs ds ha ra =>
    cases r2 <;> try exact h.elim
    rename_i b ws es hb rb
    refine ⟨_, op_catA, fun Q k => ⟨a, b, vs, ws, rfl, rfl, ha.sq, hb.sq, by rw [ra.length, rb.length]; exact h.1, fun e => ?_, fun _ e => ?_, fun _ _ p np => ?_⟩⟩
    · subst e
      cases ra
      exact k _ _ H .refl (.tup hb rb) h.2
    · subst e
      cases rb
      have h2 := h.2
      rw [List.append_nil] at h2
      exact k _ _ H .refl (.tup ha ra) h2
    · exact k _ _ _ (.new np) (rep_tup st (ra.append rb) np) h.2
  | _ => exact h.elim
/-- * of numbers -/
def wMul : W2 := wI CBig fun i j => .int (i * j)
theorem od_mul : OpD X (binaryOp .Mult) wMul := by
  intro S B O H0 H σ Γ P x y a b st r1 r2 h
  cases r1 <;> try exact h.elim
  cases r2 <;> try exact h.elim
  exact ⟨_, op_mulW, fun Q k => ⟨_, _, rfl, rfl, wide_mul h.1.1 h.1.2 (by decide) (by decide) (by decide), k _ _ H .refl (.int _) h.2⟩⟩
/-- == of plain values -/
def sEq : D → D → Option Bool
  | .non, .non => some true
  | .int i, .int j => some (decide (i = j))
  | .bl i, .bl j => some (decide (i = j))
  | .str i, .str j => some (decide (i = j))
  | .non, .int _ => some false | .int _, .non => some false | .non, .bl _ => some false | .bl _, .non => some false | .non, .str _ => some false | .str _, .non => some false
  | .int _, .str _ => some false | .str _, .int _ => some false | .bl _, .str _ => some false | .str _, .bl _ => some false
  | _, _ => none
def wEq : W2 := fun a b P => match sEq a b with
  | some k => P (.bl k)
  | none => False
def wNe : W2 := fun a b P => match sEq a b with
  | some k => P (.bl (!k))
  | none => False
theorem sEq_ok {K S M H x y a b k} (r1 : Rep K S M H x a) (r2 : Rep K S M H y b) (h : sEq a b = some k) : scal x y = true ∧ decide (x = y) = k := by
  cases r1 <;> cases r2 <;> simp_all [sEq, scal]
theorem od_eq : OpD X (compareOp .Eq) wEq := by
  intro S B O H0 H σ Γ P x y a b st r1 r2 h
  unfold wEq at h
  split at h
  · rename_i k hk
    obtain ⟨e1, e2⟩ := sEq_ok r1 r2 hk
    exact ⟨_, op_eq, fun Q kk => ⟨e1, by rw [e2]; exact kk _ _ H .refl (.bl _) h⟩⟩
  · exact h.elim
theorem od_ne : OpD X (compareOp .NotEq) wNe := by
  intro S B O H0 H σ Γ P x y a b st r1 r2 h
  unfold wNe at h
  split at h
  · rename_i k hk
    obtain ⟨e1, e2⟩ := sEq_ok r1 r2 hk
    exact ⟨_, op_ne, fun Q kk => ⟨e1, by rw [e2]; exact kk _ _ H .refl (.bl _) h⟩⟩
  · exact h.elim
/-- is None -/
def isNon : D → Bool
  | .non => true
  | _ => false
def wIs : W2 := fun a b P => match b with
  | .non => P (.bl (isNon a))
  | _ => False
def wIsNot : W2 := fun a b P => match b with
  | .non => P (.bl (!isNon a))
  | _ => False
theorem isNon_ok {K S M H x a} (r : Rep K S M H x a) : decide (x = .non) = isNon a := by cases r <;> simp [isNon]
theorem od_is : OpD X (compareOp .Is) wIs := by
  intro S B O H0 H σ Γ P x y a b st r1 r2 h
  cases r2 <;> try exact h.elim
  exact ⟨_, op_isN, fun Q k => ⟨rfl, by rw [isNon_ok r1]; exact k _ _ H .refl (.bl _) h⟩⟩
theorem od_isnot : OpD X (compareOp .IsNot) wIsNot := by
  intro S B O H0 H σ Γ P x y a b st r1 r2 h
  cases r2 <;> try exact h.elim
  exact ⟨_, op_notN, fun Q k => ⟨rfl, by rw [isNon_ok r1]; exact k _ _ H .refl (.bl _) h⟩⟩

/-! ### subscripts -/
def wIx : W2 := fun a b P => match a, b with
  | .lst l, .int k => ∃ d, atI l k = some d ∧ P d
  | .tup l, .int k => ∃ d, atI l k = some d ∧ P d
  | .str z, .int k => ∃ c, z.length ≤ sizeLine ∧ atI z.cps.toList k = some c ∧ P (.str ⟨#[c]⟩)
  | _, _ => False
theorem RepAll.atI {K S M H vs ds k d} (r : RepAll K S M H vs ds) (h : L2.atI ds k = some d) : ∃ v, L2.atI vs k = some v ∧ Rep K S M H v d := by
  unfold L2.atI at h ⊢
  rw [r.length]
  cases e : ixN ds.length k with
  | none => rw [e] at h; cases h
  | some j =>
    rw [e] at h
    exact r.get h
variable {Γ : List E} {P : D → Prop} {pos : Pos}
theorem ex_ix {a b : Expr} (h : EX X a Γ fun x => EX X b Γ fun y => wIx x y P) (hs : PlainIx b := by intro _ _; rfl) : EX X (.Subscript a b pos) Γ P :=
  ex_of (pe_ix ix_seq pe_sem pe_sem hs) fun S B O H0 H σ st Q k => h S B O H0 H σ st _ fun v d H1 e1 r1 p1 => p1 S B O H0 H1 σ (st.to e1) _ fun v2 d2 H2 e2 r2 p2 => by
    have r1' := r1.ext e2 (st.to e1).live st.m
    cases r1' with
    | @lst a vs ds ha ra =>
      cases r2 <;> try exact p2.elim
      obtain ⟨d, hd, p⟩ := p2
      obtain ⟨v, hv, rv⟩ := ra.atI hd
      exact .inl ⟨a, vs, _, v, rfl, rfl, ha.sq, hv, k _ _ H2 (e1.trans e2) rv p⟩
    | @tup a vs ds ha ra =>
      cases r2 <;> try exact p2.elim
      obtain ⟨d, hd, p⟩ := p2
      obtain ⟨v, hv, rv⟩ := ra.atI hd
      exact .inr (.inl ⟨a, vs, _, v, rfl, rfl, ha.sq, hv, k _ _ H2 (e1.trans e2) rv p⟩)
    | str z =>
      cases r2 <;> try exact p2.elim
      obtain ⟨c, hz, hc, p⟩ := p2
      exact .inr (.inr ⟨z, _, c, rfl, rfl, hz, hc, k _ _ H2 (e1.trans e2) (.str _) p⟩)
    | _ => exact p2.elim

/-! ### built-ins -/
abbrev WA := List D → (D → Prop) → Prop
def semC (X : Cx) (f : Value) : List V → Hp → VK → Prop := fun vs H Q => ∀ pins s σ us, Inv X pins σ H s → Vals vs us → wpAny (model X.prog X.w) X.A (call f us) (EP X pins σ Q) X.xe s
theorem cr_sem {f : Value} : CallR X f (semC X f) := fun pins s σ H vs us Q I r h => h pins s σ us I r
theorem semC_of {f : Value} {r : List V → Hp → VK → Prop} (h : CallR X f r) {vs : List V} {H : Hp} {Q : VK} (q : r vs H Q) : semC X f vs H Q := fun pins s σ us I rv => h pins s σ H vs us Q I rv q
def BiD (X : Cx) (f : Value) (w : WA) : Prop :=
  ∀ S B O H0 H σ Γ (P : D → Prop) vs ds, StOk X.K S B O H0 H σ Γ → RepAll X.K S (B ++ O) H vs ds → w ds P → ∃ r : List V → Hp → VK → Prop, CallR X f r ∧ ∀ Q, KE X.K S (B ++ O) H P Q → r vs H Q
theorem ex_bi {x : Str} {id : String} {w : WA} {p : Pos} {e : Expr} {es : List Expr} (hb : BiD X (.builtin id) w) (hm : X.mg x = none) (hg : Gl X x) (hv : bootBuiltins x = some (.builtin id)) (h : AX X (e :: es) Γ fun ds => w ds P)
    (hn : x ≠ "__name__" := by decide) (hdb : (x == ("__debug__" : Str)) = false := by decide)
    (he : starEach (e :: es) X.env = (false, eval e X.env) :: starEach es X.env := by rfl) (hpl : (backTo pos (starEach es X.env)).any (·.1) = false := by rfl) : EX X (.Call (.Name x p) (e :: es) [] pos) Γ P :=
  ex_of (pe_callB cr_sem hg hm hv pa_sem hn hdb he hpl) fun S B O H0 H σ st Q k => h S B O H0 H σ st _ fun vs ds H1 e1 r1 p1 => by
    obtain ⟨r, hr, hq⟩ := hb S B O H0 H1 σ Γ P vs ds (st.to e1) r1 p1
    exact semC_of hr (hq Q (k.to e1))
theorem ex_bt {x : Str} {T : String} {w : WA} {p : Pos} {e : Expr} {es : List Expr} (hb : BiD X (.type T) w) (hm : X.mg x = none) (hg : Gl X x) (hv : bootBuiltins x = some (.type T)) (h : AX X (e :: es) Γ fun ds => w ds P)
    (hn : x ≠ "__name__" := by decide) (hdb : (x == ("__debug__" : Str)) = false := by decide)
    (he : starEach (e :: es) X.env = (false, eval e X.env) :: starEach es X.env := by rfl) (hpl : (backTo pos (starEach es X.env)).any (·.1) = false := by rfl) : EX X (.Call (.Name x p) (e :: es) [] pos) Γ P :=
  ex_of (pe_callTy cr_sem hg hm hv pa_sem hn hdb he hpl) fun S B O H0 H σ st Q k => h S B O H0 H σ st _ fun vs ds H1 e1 r1 p1 => by
    obtain ⟨r, hr, hq⟩ := hb S B O H0 H1 σ Γ P vs ds (st.to e1) r1 p1
    exact semC_of hr (hq Q (k.to e1))
theorem ex_bf {x : Str} {id : String} {w : WA} {p : Pos} {e : Expr} {es : List Expr} (hb : BiD X (.builtin id) w) (hm : X.mg x = some (.builtin id)) (hg : Gl X x) (h : AX X (e :: es) Γ fun ds => w ds P)
    (hdb : (x == ("__debug__" : Str)) = false := by decide)
    (he : starEach (e :: es) X.env = (false, eval e X.env) :: starEach es X.env := by rfl) (hpl : (backTo pos (starEach es X.env)).any (·.1) = false := by rfl) : EX X (.Call (.Name x p) (e :: es) [] pos) Γ P :=
  ex_of (pe_callBfun cr_sem hg hm pa_sem hdb he hpl) fun S B O H0 H σ st Q k => h S B O H0 H σ st _ fun vs ds H1 e1 r1 p1 => by
    obtain ⟨r, hr, hq⟩ := hb S B O H0 H1 σ Γ P vs ds (st.to e1) r1 p1
    exact semC_of hr (hq Q (k.to e1))
def wLen : WA := fun ds P => match ds with
  | [.lst l] => P (.int l.length)
  | [.tup l] => P (.int l.length)
  | [.str z] => z.length ≤ sizeLine ∧ P (.int z.length)
  | _ => False
theorem RepAll.one {K S M H vs d} (r : RepAll K S M H vs [d]) : ∃ v, vs = [v] ∧ Rep K S M H v d := by
  cases r with
  | cons h t => cases t; exact ⟨_, rfl, h⟩
theorem RepAll.two {K S M H vs d d2} (r : RepAll K S M H vs [d, d2]) : ∃ v v2, vs = [v, v2] ∧ Rep K S M H v d ∧ Rep K S M H v2 d2 := by
  cases r with
  | cons h t =>
    obtain ⟨w, rfl, r⟩ := t.one
    exact ⟨_, _, rfl, h, r⟩
theorem bi_len : BiD X (.builtin "len") wLen := by
  intro S B O H0 H σ Γ P vs ds st r h
  match ds, r, h with
  | [.lst l], r, h =>
    obtain ⟨v, rfl, r1⟩ := r.one
    cases r1 with
    | @lst a vs _ ha ra => exact ⟨_, call_len, fun Q k => ⟨_, vs.length, rfl, .inl ⟨vs, ha.sq, rfl⟩, by rw [ra.length]; exact k _ _ H .refl (.int _) h⟩⟩
  | [.tup l], r, h =>
    obtain ⟨v, rfl, r1⟩ := r.one
    cases r1 with
    | @tup a vs _ ha ra => exact ⟨_, call_len, fun Q k => ⟨_, vs.length, rfl, .inr ⟨vs, ha.sq, rfl⟩, by rw [ra.length]; exact k _ _ H .refl (.int _) h⟩⟩
  | [.str z], r, h =>
    obtain ⟨v, rfl, r1⟩ := r.one
    cases r1 with
    | str _ => exact ⟨_, call_len, fun Q k => ⟨_, z.length, rfl, ⟨h.1, rfl⟩, k _ _ H .refl (.int _) h.2⟩⟩
def wAbs : WA := fun ds P => match ds with
  | [.int i] => P (.int (if i < 0 then -i else i))
  | _ => False
theorem bi_abs : BiD X (.builtin "abs") wAbs := by
  intro S B O H0 H σ Γ P vs ds st r h
  match ds, r, h with
  | [.int l], r, h =>
    obtain ⟨v, rfl, r1⟩ := r.one
    cases r1
    exact ⟨_, call_abs, fun Q k => ⟨_, rfl, k _ _ H .refl (.int _) h⟩⟩
def wInt : WA := fun ds P => match ds with
  | [.int i] => P (.int i)
  | _ => False
theorem bi_int : BiD X (.type "int") wInt := by
  intro S B O H0 H σ Γ P vs ds st r h
  match ds, r, h with
  | [.int l], r, h =>
    obtain ⟨v, rfl, r1⟩ := r.one
    cases r1
    exact ⟨_, call_int1, fun Q k => .inl ⟨_, rfl, k _ _ H .refl (.int _) h⟩⟩
def wStr : WA := fun ds P => match ds with
  | [.int i] => i.natAbs.log2 < 1920 ∧ P (.str (toString i))
  | _ => False
theorem bi_str : BiD X (.type "str") wStr := by
  intro S B O H0 H σ Γ P vs ds st r h
  match ds, r, h with
  | [.int l], r, h =>
    obtain ⟨v, rfl, r1⟩ := r.one
    cases r1
    exact ⟨_, call_str_int, fun Q k => ⟨_, rfl, h.1, k _ _ H .refl (.str _) h.2⟩⟩
def wList : WA := fun ds P => match ds with
  | [.lst l] => P (.lst l)
  | [.tup l] => P (.lst l)
  | _ => False
theorem bi_list : BiD X (.type "list") wList := by
  intro S B O H0 H σ Γ P vs ds st r h
  match ds, r, h with
  | [.lst l], r, h =>
    obtain ⟨v, rfl, r1⟩ := r.one
    cases r1 with
    | @lst a vs _ ha ra => exact ⟨_, call_list_of, fun Q k => ⟨a, vs, rfl, .inl ha.sq, fun p np => k _ _ _ (.new np) (rep_lst st ra np) h⟩⟩
  | [.tup l], r, h =>
    obtain ⟨v, rfl, r1⟩ := r.one
    cases r1 with
    | @tup a vs _ ha ra => exact ⟨_, call_list_of, fun Q k => ⟨a, vs, rfl, .inr ha.sq, fun p np => k _ _ _ (.new np) (rep_lst st ra np) h⟩⟩
def wTuple : WA := fun ds P => match ds with
  | [.lst l] => P (.tup l)
  | [.tup l] => P (.tup l)
  | _ => False
theorem bi_tuple : BiD X (.type "tuple") wTuple := by
  intro S B O H0 H σ Γ P vs ds st r h
  match ds, r, h with
  | [.lst l], r, h =>
    obtain ⟨v, rfl, r1⟩ := r.one
    cases r1 with
    | @lst a vs _ ha ra => exact ⟨_, call_tuple_of, fun Q k => ⟨a, vs, rfl, .inl ⟨ha.sq, fun p np => k _ _ _ (.new np) (rep_tup st ra np) h⟩⟩⟩
  | [.tup l], r, h =>
    obtain ⟨v, rfl, r1⟩ := r.one
    cases r1 with
    | @tup a vs _ ha ra => exact ⟨_, call_tuple_of, fun Q k => ⟨a, vs, rfl, .inr ⟨ha.sq, k _ _ H .refl (.tup ha ra) h⟩⟩⟩
def wAll : WA := fun ds P => match ds with
  | [.lst l] => ∃ bs : List Bool, l = bs.map D.bl ∧ P (.bl (bs.all id))
  | _ => False
theorem bi_all (hc : X.calm = true) : BiD X (.builtin "all") wAll := by
  intro S B O H0 H σ Γ P vs ds st r h
  match ds, r, h with
  | [.lst l], r, h =>
    obtain ⟨v, rfl, r1⟩ := r.one
    obtain ⟨bs, rfl, h⟩ := h
    cases r1 with
    | @lst a vs _ ha ra =>
      have e := ra.bls
      subst e
      exact ⟨_, cr_all hc, fun Q k => ⟨a, bs, rfl, ha.sq, k _ _ H .refl (.bl _) h⟩⟩
def wGcd : WA := fun ds P => match ds with
  | [.int i, .int j] => P (.int ((Nat.gcd i.natAbs j.natAbs : Nat) : Int))
  | _ => False
theorem bi_gcd : BiD X (.builtin "math.gcd") wGcd := by
  intro S B O H0 H σ Γ P vs ds st r h
  match ds, r, h with
  | [.int l, .int m], r, h =>
    obtain ⟨v, w, rfl, r1, r2⟩ := r.two
    cases r1
    cases r2
    exact ⟨_, cr_gcd, fun Q k => ⟨_, _, rfl, k _ _ H .refl (.int _) h⟩⟩
/-- isinstance of plain data -/
def tyD : D → Option String
  | .non => some "NoneType" | .bl _ => some "bool" | .int _ => some "int" | .str _ => some "str" | .tup _ => some "tuple" | .lst _ => some "list" | .src => some "list"
  | _ => none
theorem tyX_of {K S M H x d t} (r : Rep K S M H x d) (h : tyD d = some t) : TyX K H x (.type t) := by
  cases r with
  | non => cases h; exact .base .non
  | bl b => cases h; exact .base (.bl b)
  | int i => cases h; exact .base (.int i)
  | str i => cases h; exact .base (.str i)
  | ty n => cases h
  | @tup a vs ds ha ra =>
    cases h
    rcases ha with ⟨_, ha | ⟨o, ha⟩⟩ | ⟨o, its, n, h1, h2, h3⟩
    · exact .base (.tup ha)
    · exact .fTuple ha
    · exact .kTuple h1 h2
  | @lst a vs ds ha ra =>
    cases h
    rcases ha with ⟨_, ha | ⟨o, ha⟩⟩ | ⟨o, its, n, h1, h2, h3⟩
    · exact .base (.lst ha)
    · exact .base (.frz ha)
    · exact .kList h1 h2
  | src hs m =>
    cases h
    obtain ⟨i, c, s, t, ns, h1, _⟩ := hs
    exact .base (.lst h1)
  | exc _ _ _ _ _ => cases h
  | cls C => cases h
def wIsi : WA := fun ds P => match ds with
  | [d, .ty n] => ∃ t b, tyD d = some t ∧ kitB t n = some b ∧ P (.bl b)
  | _ => False
theorem bi_isi : BiD X (.builtin "isinstance") wIsi := by
  intro S B O H0 H σ Γ P vs ds st r h
  match ds, r, h with
  | [d, .ty n], r, h =>
    obtain ⟨v, w, rfl, r1, r2⟩ := r.two
    cases r2
    obtain ⟨t, b, h1, h2, h⟩ := h
    exact ⟨_, call_isi, fun Q k => ⟨v, _, _, _, b, rfl, .ty n, tyX_of r1 h1, kit_ty h2, k _ _ H .refl (.bl b) h⟩⟩
/-- isinstance(x, (T1, T2)) -/
theorem ex_isi2 {x : Str} {p p2 : Pos} {j} {a b c : Expr} (hm : X.mg x = none) (hg : Gl X x) (hv : bootBuiltins x = some (.builtin "isinstance"))
    (h : EX X a Γ fun d => EX X b Γ fun t1 => EX X c Γ fun t2 => ∃ n1 n2 t k1 k2, t1 = .ty n1 ∧ t2 = .ty n2 ∧ tyD d = some t ∧ kitB t n1 = some k1 ∧ kitB t n2 = some k2 ∧ P (.bl (k1 || k2)))
    (hn : x ≠ "__name__" := by decide) (hdb : (x == ("__debug__" : Str)) = false := by decide)
    (hs : starEach [a, .Tuple [b, c] j p2] X.env = (false, eval a X.env) :: starEach [.Tuple [b, c] j p2] X.env := by rfl) (hs1 : starEach [.Tuple [b, c] j p2] X.env = [(false, eval (.Tuple [b, c] j p2) X.env)] := by rfl)
    (hs2 : starEach [b, c] X.env = (false, eval b X.env) :: starEach [c] X.env := by rfl) (hs3 : starEach [c] X.env = (false, eval c X.env) :: starEach [] X.env := by rfl)
    (hs4 : starEach [.Tuple [b, c] j p2] X.env = (false, eval (.Tuple [b, c] j p2) X.env) :: starEach [] X.env := by rfl) (hpl : (backTo pos (starEach [.Tuple [b, c] j p2] X.env)).any (·.1) = false := by rfl) : EX X (.Call (.Name x p) [a, .Tuple [b, c] j p2] [] pos) Γ P :=
  ex_of (pe_callB call_isiT hg hm hv (pa_cons pe_sem (pa_cons (pe_tup (pa_cons pe_sem (pa_cons pe_sem pa_nil hs3) hs2)) pa_nil hs4) hs) hn hdb hs hpl) fun S B O H0 H σ st Q k => h S B O H0 H σ st _ fun v d H1 e1 r1 p1 => p1 S B O H0 H1 σ (st.to e1) _ fun v2 d2 H2 e2 r2 p2 => p2 S B O H0 H2 σ (st.to (e1.trans e2)) _ fun v3 d3 H3 e3 r3 p3 => by
    obtain ⟨n1, n2, t, k1, k2, rfl, rfl, ht, h1, h2, p⟩ := p3
    cases r2
    cases r3
    have st3 := st.to (e1.trans (e2.trans e3))
    refine ⟨small (n := 2) (by decide), fun q nq => ?_⟩
    refine ⟨v, q, [.ty n1, .ty n2], _, [.type n1, .type n2], (k1 || k2), rfl, upd_same, .cons (.ty n1) (.cons (.ty n2) .nil), tyX_of ((r1.ext (e2.trans e3) (st.to e1).live st.m).ext (.new nq) st3.live st.m) ht, ?_, k _ _ _ (e1.trans (e2.trans (e3.trans (.new nq)))) (.bl _) p⟩
    refine kitAny_cons (kit_ty h1) (fun e => ?_) fun e => by rw [e]; rfl
    rw [e, Bool.false_or]
    exact kitAny_cons (kit_ty h2) (fun e => by rw [e]; exact kitAny_nil) fun e => e
end
end G
set_option Elab.async false
set_option linter.all false
set_option maxRecDepth 100000
set_option maxHeartbeats 1000000
namespace G
open PySem PySem.Spec PyProof.Rows L2
/-! ### defs -/
/-- called with data ds the def gives a datum as W says; all that stood stays, but the source may turn -/
def spW (K : PySem.W.Frag) (W : WA) (n : Nat) : Sp := fun vs H Q _ => vs.length = n ∧ ∃ S B ds P, S.a ∈ B ∧ Live S H ∧ (∀ m ∈ B, ∃ o, H m = some o) ∧ RepAll K S B H vs ds ∧ W ds P ∧ ∀ v d H', Ext K S H H' → Rep K S B H' v d → P d → Q v H'
theorem StOk.bo {K S B O H0 H σ Γ} (st : StOk K S B O H0 H σ Γ) : ∀ m ∈ B ++ O, ∃ o, H m = some o := fun m hm => by
  cases e : H m with
  | some o => exact ⟨o, rfl⟩
  | none => exact absurd hm (st.free e)
structure CallOk (X : Cx) (x : Str) (W : WA) : Prop where
  ex : ∃ k f fd ps n W0 dvs dds us, FnOk X.prog X.w X.K X.mg X.base CX0 k f fd ps (spW X.K W0 n) ∧ Room k X.A ∧ X.mg x = some (.ref f) ∧ PySem.W.keepIn X.K (.ref f) = true ∧ Binds X.K fd ps us ∧ Vals dvs us ∧
    (∀ S M H, RepAll X.K S M H dvs dds) ∧ ∀ es P, W es P → (es ++ dds).length = n ∧ W0 (es ++ dds) P
section
variable {X : Cx} {Γ : List E} {P : D → Prop} {pos : Pos}
theorem ex_call {x : Str} {W : WA} {p : Pos} {e : Expr} {es : List Expr} (c : CallOk X x W) (hg : Gl X x) (h : AX X (e :: es) Γ fun ds => W ds P) (hdb : (x == ("__debug__" : Str)) = false := by decide)
    (he : starEach (e :: es) X.env = (false, eval e X.env) :: starEach es X.env := by rfl) (hpl : (backTo pos (starEach es X.env)).any (·.1) = false := by rfl) : EX X (.Call (.Name x p) (e :: es) [] pos) Γ P := by
  obtain ⟨k, f, fd, ps, n, W0, dvs, dds, us, F, hr, hm, hk, hb, hd, hdd, hW⟩ := c.ex
  refine ex_of (pe_call F hr hg hm hk hb hd pass0 pa_sem hdb he hpl) fun S B O H0 H σ st Q k => h S B O H0 H σ st _ fun vs ds H1 e1 r1 p1 => ?_
  obtain ⟨h1, h2⟩ := hW _ _ p1
  have st1 := st.to e1
  have r2 := r1.append (hdd S (B ++ O) H1)
  exact ⟨by rw [r2.length]; exact h1, S, B ++ O, ds ++ dds, P, st.m, st1.live, st1.bo, r2, h2, fun v d H' e r p => k v d H' (e1.trans e) r p⟩
/-- a call by keywords -/
structure CallOkK (X : Cx) (x : Str) (np : Nat) (ks : List Str) (W : List D → WA) : Prop where
  ex : ∃ (k : Nat) (f : Addr) (fd : FuncData) (ps : List Str) (n : Nat) (W0 : WA) (g : List Value → List Value → List Value) (gV : List V → List V → List V) (gD : List D → List D → List D), FnOk X.prog X.w X.K X.mg X.base CX0 k f fd ps (spW X.K W0 n) ∧ Room k X.A ∧ X.mg x = some (.ref f) ∧ PySem.W.keepIn X.K (.ref f) = true ∧ KBn X.K fd ps np ks g gV ∧
    (∀ S M H vs zs ds es, RepAll X.K S M H vs ds → RepAll X.K S M H zs es → ds.length = np → es.length = ks.length → RepAll X.K S M H (gV vs zs) (gD ds es)) ∧ ∀ ds es P, W ds es P → ds.length = np ∧ es.length = ks.length ∧ (gD ds es).length = n ∧ W0 (gD ds es) P
theorem pe_callK0 {CX : CXT} {k : Nat} {f : Addr} {fd : FuncData} {ps ks : List Str} {sp : Sp} {Ex : XK} {x : Str} {p : Pos} {kws : List Keyword} {tk : TA} {g gV}
    (F : FnOk X.prog X.w X.K X.mg X.base CX k f fd ps sp) (hr : Room k X.A) (hg : Gl X x) (hm : X.mg x = some (.ref f)) (hk : PySem.W.keepIn X.K (.ref f) = true) (hb : KBn X.K fd ps 0 ks g gV) (hx : Passes CX X Ex) (hkw : PK X kws tk)
    (hall : (backToKw pos (keywordEach kws X.env)).all (·.1.isSome) = true := by rfl) (hks : (backToKw pos (keywordEach kws X.env)).filterMap (·.1) = ks := by rfl) (hdb : (x == ("__debug__" : Str)) = false := by decide)
    (hpl : ((backTo pos (starEach [] X.env)).any (·.1) || (backToKw pos (keywordEach kws X.env)).any (·.1.isNone)) = false := by rfl) :
    PE X (.Call (.Name x p) [] kws pos) (tCallN 0 ks.length sp gV Ex tNil tk) := by
  refine ⟨fun pins s σ H Q I h => ?_⟩
  refine wpAny_Call_Name_kw (ld_glob I hg hm ?_ hdb)
  refine PySem.W.callWith_KW0 (h₀ := X.base) I.ok.mod.kin hk hall ?_ hpl
  refine thn (hkw.run pos pins s σ H _ I h) fun ws s2 ⟨zs, H2, I2, rz, l1, l2, q2⟩ => ⟨I2.kIn, ?_⟩
  rw [hks]
  exact run_fnN (us := []) (vs := []) F hr hb hx I2 .nil rz rfl l2 q2
theorem ex_callK0 {x : Str} {ks : List Str} {W : List D → WA} {p : Pos} {kws : List Keyword} (c : CallOkK X x 0 ks W) (hg : Gl X x) (h : KX X kws Γ fun es => W [] es P)
    (hall : (backToKw pos (keywordEach kws X.env)).all (·.1.isSome) = true := by rfl) (hks : (backToKw pos (keywordEach kws X.env)).filterMap (·.1) = ks := by rfl) (hdb : (x == ("__debug__" : Str)) = false := by decide)
    (hpl : ((backTo pos (starEach [] X.env)).any (·.1) || (backToKw pos (keywordEach kws X.env)).any (·.1.isNone)) = false := by rfl) : EX X (.Call (.Name x p) [] kws pos) Γ P := by
  obtain ⟨k, f, fd, ps, n, W0, g, gV, gD, F, hr, hm, hk, hb, hrel, hW⟩ := c.ex
  refine ex_of (pe_callK0 F hr hg hm hk hb pass0 pk_sem hall hks hdb hpl) fun S B O H0 H σ st Q k => h S B O H0 H σ st _ fun zs es H1 e1 r1 p1 => ?_
  obtain ⟨h0, h1, h2, h3⟩ := hW _ _ _ p1
  have st1 := st.to e1
  have r2 := hrel S (B ++ O) H1 [] zs [] es .nil r1 h0 h1
  exact ⟨rfl, by rw [r1.length]; exact h1, by rw [r2.length]; exact h2, S, B ++ O, _, P, st.m, st1.live, st1.bo, r2, h3, fun v d H' e r p => k v d H' (e1.trans e) r p⟩
theorem ex_callK {x : Str} {np : Nat} {ks : List Str} {W : List D → WA} {p : Pos} {e : Expr} {es : List Expr} {kws : List Keyword} (c : CallOkK X x np ks W) (hg : Gl X x) (h : AX X (e :: es) Γ fun ds => KX X kws Γ fun zs => W ds zs P)
    (hall : (backToKw pos (keywordEach kws X.env)).all (·.1.isSome) = true := by rfl) (hks : (backToKw pos (keywordEach kws X.env)).filterMap (·.1) = ks := by rfl) (hdb : (x == ("__debug__" : Str)) = false := by decide)
    (he : starEach (e :: es) X.env = (false, eval e X.env) :: starEach es X.env := by rfl)
    (hpl : ((backTo pos (starEach (e :: es) X.env)).any (·.1) || (backToKw pos (keywordEach kws X.env)).any (·.1.isNone)) = false := by rfl) : EX X (.Call (.Name x p) (e :: es) kws pos) Γ P := by
  obtain ⟨k, f, fd, ps, n, W0, g, gV, gD, F, hr, hm, hk, hb, hrel, hW⟩ := c.ex
  refine ex_of (pe_callN F hr hg hm hk hb pass0 pa_sem pk_sem hall hks hdb he hpl) fun S B O H0 H σ st Q k => h S B O H0 H σ st _ fun vs ds H1 e1 r1 p1 => p1 S B O H0 H1 σ (st.to e1) _ fun zs es H2 e2 r2 p2 => ?_
  obtain ⟨h0, h1, h2, h3⟩ := hW _ _ _ p2
  have st2 := st.to (e1.trans e2)
  have r1' := r1.ext e2 (st.to e1).live st.m
  have r3 := hrel S (B ++ O) H2 vs zs ds es r1' r2 h0 h1
  exact ⟨by rw [r1.length]; exact h0, by rw [r2.length]; exact h1, by rw [r3.length]; exact h2, S, B ++ O, _, P, st.m, st2.live, st2.bo, r3, h3, fun v d H' e r p => k v d H' (e1.trans (e2.trans e)) r p⟩

/-! ### statements -/
structure Po where
  nx : List E → Prop
  rt : D → Prop
  bk : List E → Prop := fun _ => False
  ct : List E → Prop := fun _ => False
/-- what stood stays but for B and O; the lists made since are new -/
structure Adv (K : PySem.W.Frag) (S : Sr) (B O : List Addr) (H : Hp) (O' : List Addr) (H' : Hp) : Prop where
  src : SrcOk K S H → SrcOk K S H'
  keep : ∀ b o, b ∉ B ++ O → H b = some o → H' b = some o
  new : ∀ m ∈ O', m ∉ O → H m = none
  out : ∀ m ∈ O', m ∉ B
theorem Adv.refl {K S B O H} (h : ∀ m ∈ O, m ∉ B) : Adv K S B O H O H := ⟨id, fun _ _ _ h => h, fun m a b => absurd a b, h⟩
theorem Adv.trans {K S B O H O1 H1 O2 H2} (a : Adv K S B O H O1 H1) (b : Adv K S B O1 H1 O2 H2) : Adv K S B O H O2 H2 where
  src := fun h => b.src (a.src h)
  keep := fun c o n h => b.keep c o (fun q => (List.mem_append.mp q).elim (fun q => n (List.mem_append_left _ q)) fun q => by
    by_cases hc : c ∈ O
    · exact n (List.mem_append_right _ hc)
    · rw [a.new c q hc] at h; cases h) (a.keep c o n h)
  new := fun m h n => by
    by_cases h1 : m ∈ O1
    · exact a.new m h1 n
    · cases e : H m with
      | none => rfl
      | some o =>
        have := a.keep m o (fun q => (List.mem_append.mp q).elim (b.out m h) n) e
        rw [b.new m h h1] at this
        cases this
  out := b.out
theorem StOk.adv {K S B O H0 H σ Γ H'} (st : StOk K S B O H0 H σ Γ) (e : Ext K S H H') : Adv K S B O H O H' :=
  ⟨e.src st.live, fun b o n h => e.keep b o (fun q => n (List.mem_append_left _ (q ▸ st.mem))) h, fun m a b => absurd a b, st.out⟩
structure EndsK (K : PySem.W.Frag) (S : Sr) (B O : List Addr) (H0 H : Hp) (po : Po) (Dn : Ends) : Prop where
  nx : ∀ O' H' σ Γ, StOk K S B O' H0 H' σ Γ → Adv K S B O H O' H' → po.nx Γ → Dn.nx σ H'
  rt : ∀ v d H, Ext K S H0 H → Rep K S B H v d → po.rt d → Dn.rt v H
  bk : ∀ O' H' σ Γ, StOk K S B O' H0 H' σ Γ → Adv K S B O H O' H' → po.bk Γ → Dn.bk σ H'
  ct : ∀ O' H' σ Γ, StOk K S B O' H0 H' σ Γ → Adv K S B O H O' H' → po.ct Γ → Dn.ct σ H'
theorem EndsK.to {K S B O H0 H po Dn O1 H1} (k : EndsK K S B O H0 H po Dn) (a : Adv K S B O H O1 H1) : EndsK K S B O1 H0 H1 po Dn :=
  ⟨fun O' H' σ Γ st b p => k.nx O' H' σ Γ st (a.trans b) p, k.rt, fun O' H' σ Γ st b p => k.bk O' H' σ Γ st (a.trans b) p, fun O' H' σ Γ st b p => k.ct O' H' σ Γ st (a.trans b) p⟩
def S1 (X : Cx) (st : Stmt) (Γ : List E) (po : Po) : Prop := ∀ S B O H0 H σ, StOk X.K S B O H0 H σ Γ → ∀ Dn, EndsK X.K S B O H0 H po Dn → semS X st Dn σ H
def SX (X : Cx) (st : List Stmt) (Γ : List E) (po : Po) : Prop := ∀ S B O H0 H σ, StOk X.K S B O H0 H σ Γ → ∀ Dn, EndsK X.K S B O H0 H po Dn → semSs X st Dn σ H
variable {po : Po}
theorem sx_nil (h : po.nx Γ) : SX X [] Γ po := fun S B O H0 H σ st Dn k => semSs_of pss_nil (k.nx O H σ Γ st (.refl st.out) h)
theorem sx_cons {s : Stmt} {ss : List Stmt} (h : S1 X s Γ { po with nx := fun Γ' => SX X ss Γ' po }) : SX X (s :: ss) Γ po :=
  fun S B O H0 H σ st Dn k => semSs_of (pss_cons ps_sem pss_sem) (h S B O H0 H σ st _ ⟨fun O' H' σ' Γ' st' a p => p S B O' H0 H' σ' st' Dn (k.to a), k.rt, k.bk, k.ct⟩)
theorem sx_one {s : Stmt} (h : S1 X s Γ po) : SX X [s] Γ po :=
  fun S B O H0 H σ st Dn k => semSs_of (pss_one ps_sem) (h S B O H0 H σ st _ k)
theorem rep_out {K S B O H0 H σ Γ v d} (st : StOk K S B O H0 H σ Γ) (r : Rep K S (B ++ O) H v d) : Rep K S B H v d := r.less (fun _ => List.mem_append_left _) st.mem
theorem s_ret {e : Expr} (h : EX X e Γ po.rt) : S1 X (.Return (some e) pos) Γ po :=
  fun S B O H0 H σ st Dn k => semS_of (ps_ret pe_sem) (h S B O H0 H σ st _ fun v d H1 e1 r1 p1 => k.rt v d H1 (st.ext.trans e1) (rep_out (st.to e1) r1) p1)
theorem s_retN (h : po.rt .non) : S1 X (.Return none pos) Γ po :=
  fun S B O H0 H σ st Dn k => semS_of ps_retN (k.rt .non .non H st.ext .non h)
theorem s_if {c : Expr} {a b : List Stmt} (h : TX X c Γ fun k => if k then SX X a Γ po else SX X b Γ po) : S1 X (.If c a b pos) Γ po :=
  fun S B O H0 H σ st Dn k => semS_of (ps_if pt_sem pss_sem pss_sem) (h S B O H0 H σ st _ fun b H1 e1 p1 => by
    cases b with
    | true => exact iteT (p1 S B O H0 H1 σ (st.to e1) Dn (k.to (st.adv e1)))
    | false => exact iteF (p1 S B O H0 H1 σ (st.to e1) Dn (k.to (st.adv e1))))
theorem s_pass (h : po.nx Γ) : S1 X (.Pass pos) Γ po := fun S B O H0 H σ st Dn k => semS_of ps_pass (k.nx O H σ Γ st (.refl st.out) h)
theorem s_break (h : po.bk Γ) : S1 X (.Break pos) Γ po := fun S B O H0 H σ st Dn k => semS_of ps_break (k.bk O H σ Γ st (.refl st.out) h)
theorem s_cont (h : po.ct Γ) : S1 X (.Continue pos) Γ po := fun S B O H0 H σ st Dn k => semS_of ps_continue (k.ct O H σ Γ st (.refl st.out) h)
theorem s_set (i : Nat) {N : List Str} {x : Str} {e : Expr} {pos' : Pos} (hX : X.N = N) (hnd : N.Nodup) (hN : nth N i = some x) (hx : Loc X.env.scope x) (h : EX X e Γ fun d => po.nx (put Γ i (.is d)))
    (hs : swapsWith e (some (.Name x pos')) pos.line X.env = pure false := by rfl) (hf : X.fn x = true ∨ X.env.scope.names.lookup x = some .local := by first | exact .inl rfl | exact .inr rfl | assumption) : S1 X (.Assign [.Name x pos'] e pos) Γ po := by
  rw [nth_eq] at hN
  exact fun S B O H0 H σ st Dn k => semS_of (ps_set (i := i) (by rw [hX]; exact hnd) (by rw [hX]; exact hN) hx pe_sem hs hf) (h S B O H0 H σ st _ fun v d H1 e1 r1 p1 => k.nx O H1 _ _ (by rw [put_eq]; exact (st.to e1).set i r1) (st.adv e1) p1)
/-- x, y = a, b -/
theorem s_par (i j : Nat) {N : List Str} {x y : Str} {a b : Expr} {px py pt : Pos} {kt k2 pt2} (hX : X.N = N) (hnd : N.Nodup) (hc : X.calm = true) (hN : nth N i = some x) (hM : nth N j = some y) (hij : i ≠ j) (hx : X.env.scope.names.lookup x = some .local) (hy : X.env.scope.names.lookup y = some .local)
    (hw : swappedStores [.Tuple [.Name x px, .Name y py] kt pt] (.Tuple [a, b] k2 pt2) X.env = pure (some [x, y])) (h : EX X a Γ fun d => EX X b Γ fun d2 => po.nx (put (put Γ i (.is d)) j (.is d2)))
    (hs : swapsWithSole [.Tuple [.Name x px, .Name y py] kt pt] (.Tuple [a, b] k2 pt2) pos.line X.env = pure false := by rfl)
    (hs2 : starEach [a, b] X.env = (false, eval a X.env) :: starEach [b] X.env := by rfl) (hs3 : starEach [b] X.env = (false, eval b X.env) :: starEach [] X.env := by rfl) :
    S1 X (.Assign [.Tuple [.Name x px, .Name y py] kt pt] (.Tuple [a, b] k2 pt2) pos) Γ po := by
  rw [nth_eq] at hN hM
  exact fun S B O H0 H σ st Dn k => semS_of (ps_par (i := i) (j := j) hc (by rw [hX]; exact hnd) (by rw [hX]; exact hN) (by rw [hX]; exact hM) hij hx hy (pa_cons pe_sem (pa_cons pe_sem pa_nil hs3) hs2) hw hs)
    (h S B O H0 H σ st _ fun v d H1 e1 r1 p1 => p1 S B O H0 H1 σ (st.to e1) _ fun v2 d2 H2 e2 r2 p2 =>
      ⟨v, v2, rfl, k.nx O H2 _ _ (by rw [put_eq, put_eq]; exact ((st.to (e1.trans e2)).set i (r1.ext e2 (st.to e1).live st.m)).set j r2) (st.adv (e1.trans e2)) p2⟩)
theorem s_expr {e : Expr} (h : EX X e Γ fun _ => po.nx Γ) (hs : swapsWith e none pos.line X.env = pure false := by rfl) : S1 X (.Expr e pos) Γ po :=
  fun S B O H0 H σ st Dn k => semS_of (ps_expr pe_sem hs) (h S B O H0 H σ st _ fun v d H1 e1 r1 p1 => k.nx O H1 σ Γ (st.to e1) (st.adv e1) p1)
/-- while: I by a measure -/
theorem s_while {c : Expr} {body : List Stmt} (hp : PassesOwn (model X.prog X.w) X.A X.env X.xe) (I : Nat → List E → Prop) (m0 : Nat) (h0 : I m0 Γ)
    (h : ∀ m Γ, I m Γ → TX X c Γ fun b => if b then SX X body Γ { po with nx := fun Γ' => ∃ m', m' < m ∧ I m' Γ', ct := fun Γ' => ∃ m', m' < m ∧ I m' Γ', bk := po.nx } else po.nx Γ) : S1 X (.While c body [] pos) Γ po :=
  fun S B O H0 H σ st Dn k => semS_of (ps_while hp pt_sem pss_sem) (by
    refine ⟨fun m σ' H' => ∃ O' Γ, StOk X.K S B O' H0 H' σ' Γ ∧ Adv X.K S B O H O' H' ∧ I m Γ, ⟨m0, O, Γ, st, .refl st.out, h0⟩, ?_⟩
    rintro m σ1 H1 ⟨O1, Γ1, st1, a1, i1⟩
    refine h m Γ1 i1 S B O1 H0 H1 σ1 st1 _ fun b H2 e2 p2 => ?_
    cases b with
    | true =>
      refine iteT ⟨_, fun _ _ n => n, ?_⟩
      have p2' : SX X body Γ1 _ := p2
      have a2 := a1.trans (st1.adv e2)
      refine p2' S B O1 H0 H2 σ1 (st1.to e2) _ ⟨?_, k.rt, fun O H σ Γ st a p => k.nx O H σ Γ st (a2.trans a) p, ?_⟩
      · rintro O3 H3 σ3 Γ3 st3 a3 ⟨m', hm, i3⟩
        exact ⟨m', hm, O3, Γ3, st3, a2.trans a3, i3⟩
      · rintro O3 H3 σ3 Γ3 st3 a3 ⟨m', hm, i3⟩
        exact ⟨m', hm, O3, Γ3, st3, a2.trans a3, i3⟩
    | false => exact iteF (k.nx O1 H2 σ1 Γ1 (st1.to e2) (a1.trans (st1.adv e2)) p2))
end
/-! ### a def by its body -/
def startE (N : List Str) (ds : List D) : List E := ds.map .is ++ List.replicate (N.length - ds.length) .no
theorem st_start {K : PySem.W.Frag} {S : Sr} {B : List Addr} {H : Hp} {N : List Str} {vs : List V} {ds : List D} (m : S.a ∈ B) (l : Live S H) (b : ∀ m ∈ B, ∃ o, H m = some o) (r : RepAll K S B H vs ds) : StOk K S B [] H H (L2.start N vs) (startE N ds) where
  len := by simp [L2.start, startE, r.length]
  ent := fun i g hg => by
    unfold startE at hg
    unfold L2.start
    by_cases hi : i < ds.length
    · rw [List.getElem?_append_left (by simpa using hi), List.getElem?_map] at hg
      cases e : ds[i]? with
      | none => rw [e] at hg; cases hg
      | some d =>
        rw [e] at hg
        cases hg
        obtain ⟨v, hv, rv⟩ := r.get e
        refine ⟨some v, ?_, v, rfl, by rw [List.append_nil]; exact rv⟩
        rw [List.getElem?_append_left (by rw [List.length_map, r.length]; exact hi), List.getElem?_map, hv]
        rfl
    · rw [List.getElem?_append_right (by simpa using hi), List.getElem?_replicate] at hg
      split at hg
      · rename_i h
        cases hg
        refine ⟨none, ?_, trivial⟩
        rw [List.getElem?_append_right (by rw [List.length_map, r.length]; omega), List.getElem?_replicate, if_pos (by simpa [r.length] using h)]
      · cases hg
  ext := .refl
  live0 := l
  mem := m
  bl := b
  nd := List.nodup_nil
  out := fun _ h => absurd h (by simp)
  new := fun _ h => absurd h (by simp)
  liv := fun _ h => absurd h (by simp)
section
variable {P : Program} {w : World} {K : PySem.W.Frag} {mg : Str → Option Value} {base : Heap}
/-- THE RULE: a def's body shows what it gives -/
theorem fn_body {X : Cx} {N : List Str} {st : List Stmt} {W : WA} {n : Nat} {vs : List V} {H : Hp} {Q : VK} {Ex : XK} (hsp : spW X.K W n vs H Q Ex)
    (h : ∀ ds Po', W ds Po' → ds.length = n → SX X st (startE N ds) { nx := fun _ => Po' .non, rt := Po' }) : ∃ t, PSs X st t ∧ t { nx := fun _ H' => Q .non H', rt := Q } (L2.start N vs) H := by
  obtain ⟨hl, S, B, ds, Po', m, l, b, r, hw, hq⟩ := hsp
  exact ⟨_, pss_sem, h ds Po' hw (r.length ▸ hl) S B [] H H _ (st_start m l b r) _ ⟨fun O H σ Γ st _ p => hq .non .non H st.ext .non p, fun v d H e r p => hq v d H e r p, fun _ _ _ _ _ _ z => z, fun _ _ _ _ _ _ z => z⟩⟩
end
end G
set_option Elab.async false
set_option linter.all false
set_option maxRecDepth 100000
set_option maxHeartbeats 1000000
namespace G
open PySem PySem.Spec PyProof.Rows L2
/-! ### what is walked -/
def Keeps (M : List Addr) (H H' : Hp) : Prop := ∀ b o, b ∉ M → H b = some o → H' b = some o
/-- the items, by data; pairs are new tuples -/
structure WalksP (K : PySem.W.Frag) (S : Sr) (M : List Addr) (J : It) (H1 : Hp) (ds : List D) : Prop where
  go : ∀ i H, Keeps M H1 H → i < ds.length → J.go i H
  stop : ∀ H, Keeps M H1 H → J.stop ds.length H
  yld : ∀ i H x H', Keeps M H1 H → i < ds.length → J.yld i H x H' → ∃ d, ds[i]? = some d ∧
    ((H' = H ∧ Rep K S M H1 x d) ∨ ∃ p vs es, x = .ref p ∧ d = .tup es ∧ H p = none ∧ H' = upd H p (.tup vs) ∧ RepAll K S M H1 vs es)
def WX (X : Cx) (tg iter : Expr) (Γ : List E) (P : List D → Prop) : Prop :=
  ∀ S B O H0 H σ, StOk X.K S B O H0 H σ Γ → ∀ R, (∀ J H' ds, Ext X.K S H H' → WalksP X.K S (B ++ O) J H' ds → P ds → R J H') → semI X tg iter σ H R
section
variable {X : Cx} {Γ : List E} {pos : Pos} {tg : Expr}
theorem keeps_rd {M H H' a u} (k : Keeps M H H') (n : a ∉ M) (h : Rd H a u) : Rd H' a u := by
  rcases h with h | ⟨o, h⟩
  · exact .inl (k a _ n h)
  · exact .inr ⟨o, k a _ n h⟩
theorem LAt.keeps {K M H H' a xs} (k : Keeps M H H') (h : LAt K M H a xs) : LAt K M H' a xs := h.imp (fun z => ⟨z.1, keeps_rd k z.1 z.2⟩) id
theorem TAt.keeps {K M H H' a xs} (k : Keeps M H H') (h : TAt K M H a xs) : TAt K M H' a xs := h.imp (fun z => ⟨z.1, keeps_rd k z.1 z.2⟩) id
def asL (P : List D → Prop) : D → Prop
  | .lst l => P l
  | _ => False
def asT (P : List D → Prop) : D → Prop
  | .tup l => P l
  | _ => False
theorem wx_list {e : Expr} {P : List D → Prop} (h : EX X e Γ (asL P)) : WX X tg e Γ P :=
  fun S B O H0 H σ st R k => semI_of (pi_list pe_sem) (h S B O H0 H σ st _ fun v d H1 e1 r1 p1 => by
    cases r1 <;> try exact p1.elim
    rename_i a vs ds ha ra
    refine ⟨a, rfl, ⟨vs, ha.sq⟩, k _ H1 ds e1 ⟨fun i H kp hi => ?_, fun H kp => ⟨vs, (ha.keeps kp).sq, by rw [ra.length]; exact Nat.le_refl _⟩, fun i H x H' kp hi y => ?_⟩ p1⟩
    · exact ⟨vs, vs[i]'(by rw [ra.length]; exact hi), (ha.keeps kp).sq, List.getElem?_eq_getElem _⟩
    · obtain ⟨rfl, y⟩ := y
      obtain ⟨d, hd, rd⟩ := ra.getV (y vs (ha.keeps kp).sq)
      exact ⟨d, hd, .inl ⟨rfl, rd⟩⟩)
theorem wx_tup {e : Expr} {P : List D → Prop} (h : EX X e Γ (asT P)) : WX X tg e Γ P :=
  fun S B O H0 H σ st R k => semI_of (pi_tup pe_sem) (h S B O H0 H σ st _ fun v d H1 e1 r1 p1 => by
    cases r1 <;> try exact p1.elim
    rename_i a vs ds ha ra
    refine ⟨a, rfl, ⟨vs, ha.sq⟩, k _ H1 ds e1 ⟨fun i H kp hi => ?_, fun H kp => ⟨vs, (ha.keeps kp).sq, by rw [ra.length]; exact Nat.le_refl _⟩, fun i H x H' kp hi y => ?_⟩ p1⟩
    · exact ⟨vs, vs[i]'(by rw [ra.length]; exact hi), (ha.keeps kp).sq, List.getElem?_eq_getElem _⟩
    · obtain ⟨rfl, y⟩ := y
      obtain ⟨d, hd, rd⟩ := ra.getV (y vs (ha.keeps kp).sq)
      exact ⟨d, hd, .inl ⟨rfl, rd⟩⟩)
def rangeD (n : Nat) : List D := (List.range n).map fun (k : Nat) => D.int (k : Int)
theorem rangeD_len (n : Nat) : (rangeD n).length = n := by simp [rangeD]
theorem rangeD_get {n i : Nat} (h : i < n) : (rangeD n)[i]? = some (.int (i : Int)) := by simp [rangeD, h]
theorem wx_range {e : Expr} {p pr : Pos} {P : List D → Prop} (hm : X.mg "range" = none) (hg : Gl X "range") (h : EX X e Γ (asI fun j => j < 2 ^ 62 ∧ -(2 ^ 62) ≤ j ∧ P (rangeD j.toNat)))
    (hs : starEach [e] X.env = (false, eval e X.env) :: starEach [] X.env := by rfl) (hs1 : starEach [e] X.env = [(false, eval e X.env)] := by rfl) : WX X tg (.Call (.Name "range" p) [e] [] pr) Γ P :=
  fun S B O H0 H σ st R k => semI_of (pi_range1 hg hm (pa_cons pe_sem pa_nil hs) hs1) (h S B O H0 H σ st _ fun v d H1 e1 r1 p1 => by
    obtain ⟨j, rfl, rfl, h1, h2, p⟩ := asI_use r1 p1
    refine ⟨j, rfl, h2, h1, k _ H1 (rangeD j.toNat) e1 ⟨fun i H kp hi => by rw [rangeD_len] at hi; exact hi, fun H kp => by rw [rangeD_len]; exact Nat.le_refl _, fun i H x H' kp hi y => ?_⟩ p⟩
    obtain ⟨rfl, rfl⟩ := y
    rw [rangeD_len] at hi
    exact ⟨_, rangeD_get hi, .inl ⟨rfl, by rw [show (0 : Int) + (i : Int) = (i : Int) from Int.zero_add _]; exact .int _⟩⟩)
def strD (s : Str) : List D := s.cps.toList.map fun c => .str ⟨#[c]⟩
theorem wx_str {e : Expr} {P : List D → Prop} (h : EX X e Γ fun d => ∃ s, d = .str s ∧ P (strD s)) : WX X tg e Γ P :=
  fun S B O H0 H σ st R k => semI_of (pi_str pe_sem) (h S B O H0 H σ st _ fun v d H1 e1 r1 p1 => by
    obtain ⟨s, rfl, p⟩ := p1
    cases r1
    refine ⟨s, rfl, k _ H1 (strD s) e1 ⟨fun i H kp hi => (show i < s.cps.size by simpa [strD] using hi), fun H kp => by simp [strD, Its], fun i H x H' kp hi y => ?_⟩ p⟩
    obtain ⟨rfl, c, hc, rfl⟩ := y
    exact ⟨.str ⟨#[c]⟩, by simp [strD, hc], .inl ⟨rfl, .str _⟩⟩)
def zipD (l m : List D) : List D := (l.zip m).map fun q => .tup [q.1, q.2]
theorem zipD_len (l m : List D) : (zipD l m).length = min l.length m.length := by simp [zipD]
theorem zip_at {K S M H} {xs ys : List V} {l m : List D} {i : Nat} {x y : V} (r1 : RepAll K S M H xs l) (r2 : RepAll K S M H ys m) (hx : xs[i]? = some x) (hy : ys[i]? = some y) :
    ∃ a b, (zipD l m)[i]? = some (.tup [a, b]) ∧ Rep K S M H x a ∧ Rep K S M H y b := by
  obtain ⟨a, ha, ra⟩ := r1.getV hx
  obtain ⟨b, hb, rb⟩ := r2.getV hy
  refine ⟨a, b, ?_, ra, rb⟩
  unfold zipD
  rw [List.getElem?_map, List.getElem?_zip_eq_some (z := (a, b)) |>.mpr ⟨ha, hb⟩]
  rfl
theorem wx_zipL {elts : List Expr} {kk : Nat} {tpos p pr : Pos} {e e2 : Expr} {P : List D → Prop} (hm : X.mg "zip" = none) (hg : Gl X "zip") (h : AX X [e, e2] Γ fun ds => ∃ l m, ds = [.lst l, .lst m] ∧ P (zipD l m))
    (hs : starEach [e, e2] X.env = (false, eval e X.env) :: starEach [e2] X.env := by rfl) (hpl : (backTo pr (starEach [e2] X.env)).any (·.1) = false := by rfl) : WX X (.Tuple elts kk tpos) (.Call (.Name "zip" p) [e, e2] [] pr) Γ P :=
  fun S B O H0 H σ st R k => semI_of (pi_zip hg hm pa_sem hs hpl) (h S B O H0 H σ st _ fun vs ds H1 e1 r1 p1 => by
    obtain ⟨l, m, rfl, p⟩ := p1
    obtain ⟨v, w, rfl, q1, q2⟩ := r1.two
    cases q1 with
    | @lst a xs _ ha ra =>
    cases q2 with
    | @lst b ys _ hb rb =>
    refine ⟨a, b, xs, ys, rfl, ha.sq, hb.sq, k _ H1 (zipD l m) e1 ⟨fun i H kp hi => ?_, fun H kp => ⟨xs, ys, (ha.keeps kp).sq, (hb.keeps kp).sq, by rw [zipD_len, ra.length, rb.length]; omega⟩, fun i H x H' kp hi y => ?_⟩ p⟩
    · rw [zipD_len] at hi
      have i1 : i < xs.length := by rw [ra.length]; omega
      have i2 : i < ys.length := by rw [rb.length]; omega
      exact ⟨xs, ys, xs[i], ys[i], (ha.keeps kp).sq, (hb.keeps kp).sq, List.getElem?_eq_getElem _, List.getElem?_eq_getElem _⟩
    · obtain ⟨T, x1, y1, rfl, nT, rfl, f1, f2⟩ := y
      obtain ⟨c, d, h1, h2, h3⟩ := zip_at ra rb (f1 xs (ha.keeps kp).sq) (f2 ys (hb.keeps kp).sq)
      exact ⟨_, h1, .inr ⟨T, [x1, y1], [c, d], rfl, rfl, nT, rfl, .cons h2 (.cons h3 .nil)⟩⟩)
theorem wx_zipT {elts : List Expr} {kk : Nat} {tpos p pr : Pos} {e e2 : Expr} {P : List D → Prop} (hm : X.mg "zip" = none) (hg : Gl X "zip") (h : AX X [e, e2] Γ fun ds => ∃ l m, ds = [.tup l, .tup m] ∧ P (zipD l m))
    (hs : starEach [e, e2] X.env = (false, eval e X.env) :: starEach [e2] X.env := by rfl) (hpl : (backTo pr (starEach [e2] X.env)).any (·.1) = false := by rfl) : WX X (.Tuple elts kk tpos) (.Call (.Name "zip" p) [e, e2] [] pr) Γ P :=
  fun S B O H0 H σ st R k => semI_of (RZ.pi_zipA hg hm pa_sem hs hpl) (h S B O H0 H σ st _ fun vs ds H1 e1 r1 p1 => by
    obtain ⟨l, m, rfl, p⟩ := p1
    obtain ⟨v, w, rfl, q1, q2⟩ := r1.two
    cases q1 with
    | @tup a xs _ ha ra =>
    cases q2 with
    | @tup b ys _ hb rb =>
    refine ⟨a, b, xs, ys, rfl, .inr ⟨ha.sq, hb.sq, k _ H1 (zipD l m) e1 ⟨fun i H kp hi => ?_, fun H kp => ⟨xs, ys, (ha.keeps kp).sq, (hb.keeps kp).sq, by rw [zipD_len, ra.length, rb.length]; omega⟩, fun i H x H' kp hi y => ?_⟩ p⟩⟩
    · rw [zipD_len] at hi
      have i1 : i < xs.length := by rw [ra.length]; omega
      have i2 : i < ys.length := by rw [rb.length]; omega
      exact ⟨xs, ys, xs[i], ys[i], (ha.keeps kp).sq, (hb.keeps kp).sq, List.getElem?_eq_getElem _, List.getElem?_eq_getElem _⟩
    · obtain ⟨T, x1, y1, rfl, nT, rfl, f1, f2⟩ := y
      obtain ⟨c, d, h1, h2, h3⟩ := zip_at ra rb (f1 xs (ha.keeps kp).sq) (f2 ys (hb.keeps kp).sq)
      exact ⟨_, h1, .inr ⟨T, [x1, y1], [c, d], rfl, rfl, nT, rfl, .cons h2 (.cons h3 .nil)⟩⟩)

/-! ### targets -/
theorem wipe_set {σ : L2.St} {j : Nat} {x : Option V} : ∀ {vs : List Nat}, j ∈ vs → L2.wipe (σ.set j x) vs = L2.wipe σ vs
  | [], h => absurd h (by simp)
  | v :: vs, h => by
    unfold L2.wipe
    by_cases hj : j ∈ vs
    · rw [wipe_set hj]
    · have e : j = v := (List.mem_cons.mp h).resolve_right hj
      subst e
      have : ∀ (vs : List Nat) (σ : L2.St), j ∉ vs → L2.wipe (σ.set j x) vs = (L2.wipe σ vs).set j x := by
        intro vs
        induction vs with
        | nil => intro σ _; rfl
        | cons u us ih =>
          intro σ hn
          have n1 : j ≠ u := fun e => hn (e ▸ List.mem_cons_self ..)
          unfold L2.wipe
          rw [ih σ fun q => hn (List.mem_cons_of_mem _ q), List.set_comm _ _ n1]
      rw [this vs σ hj, List.set_set]
abbrev GD := D → List E → (List E → Prop) → Prop
abbrev GsD := List D → List E → (List E → Prop) → Prop
structure TgOk (K : PySem.W.Frag) (gt : TG) (G : GD) (js : List Nat) : Prop where
  ok : ∀ S B O H0 H σ Γ v d P Q, StOk K S B O H0 H σ Γ → Rep K S (B ++ O) H v d → G d Γ P → (∀ σ' Γ', StOk K S B O H0 H σ' Γ' → P Γ' → (∀ vs : List Nat, (∀ j ∈ js, j ∈ vs) → L2.wipe σ' vs = L2.wipe σ vs) → Q σ' H) → gt v σ H Q
structure TgsOk (K : PySem.W.Frag) (gt : TGs) (G : GsD) (js : List Nat) : Prop where
  ok : ∀ S B O H0 H σ Γ vs ds P Q, StOk K S B O H0 H σ Γ → RepAll K S (B ++ O) H vs ds → G ds Γ P → (∀ σ' Γ', StOk K S B O H0 H σ' Γ' → P Γ' → (∀ us : List Nat, (∀ j ∈ js, j ∈ us) → L2.wipe σ' us = L2.wipe σ us) → Q σ' H) → gt vs σ H Q
def gdN (j : Nat) : GD := fun d Γ P => P (put Γ j (.is d))
def gdNil : GsD := fun ds Γ P => ds = [] ∧ P Γ
def gdCons (g : GD) (r : GsD) : GsD := fun ds Γ P => ∃ d es, ds = d :: es ∧ g d Γ fun Γ' => r es Γ' P
def gdTup (r : GsD) : GD := fun d Γ P => ∃ ds, d = .tup ds ∧ r ds Γ P
theorem tg_name {K} (j : Nat) : TgOk K (gName j) (gdN j) [j] := ⟨fun S B O H0 H σ Γ v d P Q st r h k => k _ _ (st.set j r) (by rw [← put_eq]; exact h) fun vs hv => wipe_set (hv j (by simp))⟩
theorem tgs_nil {K} : TgsOk K gNil gdNil [] := ⟨fun S B O H0 H σ Γ vs ds P Q st r h k => by
  obtain ⟨rfl, h⟩ := h
  cases r
  exact ⟨rfl, k _ _ st h fun _ _ => rfl⟩⟩
theorem tgs_cons {K gt gts g gs j1 j2} (h1 : TgOk K gt g j1) (h2 : TgsOk K gts gs j2) : TgsOk K (gCons gt gts) (gdCons g gs) (j1 ++ j2) := ⟨fun S B O H0 H σ Γ vs ds P Q st r h k => by
  obtain ⟨d, es, rfl, h⟩ := h
  cases r with
  | @cons v _ vs _ rv rr =>
    refine ⟨v, vs, rfl, h1.ok S B O H0 H σ Γ v d _ _ st rv h fun σ1 Γ1 st1 p1 w1 => ?_⟩
    refine h2.ok S B O H0 H σ1 Γ1 vs es _ _ st1 rr p1 fun σ2 Γ2 st2 p2 w2 => k σ2 Γ2 st2 p2 fun us hu => ?_
    rw [w2 us fun j hj => hu j (List.mem_append_right _ hj), w1 us fun j hj => hu j (List.mem_append_left _ hj)]⟩
theorem tg_tup {K n gts gs js} (h : TgsOk K gts gs js) (hl : ∀ ds Γ P, gs ds Γ P → ds.length = n) : TgOk K (gTup K n gts) (gdTup gs) js := ⟨fun S B O H0 H σ Γ v d P Q st r hg k => by
  obtain ⟨ds, rfl, hg⟩ := hg
  cases r with
  | @tup a vs _ ha ra => exact ⟨a, vs, rfl, ha.sq, by rw [ra.length]; exact hl _ _ _ hg, h.ok S B O H0 H σ Γ vs ds P Q st ra hg k⟩⟩

/-! ### for -/
theorem keeps_adv {K S B O H O' H'} (a : Adv K S B O H O' H') : Keeps (B ++ O) H H' := fun b o n h => a.keep b o n h
theorem Rep.keeps {K S M H H'} (k : Keeps M H H') (s : SrcOk K S H → SrcOk K S H') {v d} (r : Rep K S M H v d) : Rep K S M H' v d := r.imp (fun _ _ => TAt.keeps k) (fun _ _ => LAt.keeps k) (fun h m => ⟨s h, m⟩) fun a o n h => ⟨n, k a o n h⟩
theorem RepAll.keeps {K S M H H'} (k : Keeps M H H') (s : SrcOk K S H → SrcOk K S H') {v d} (r : RepAll K S M H v d) : RepAll K S M H' v d := r.imp (fun _ _ => TAt.keeps k) (fun _ _ => LAt.keeps k) (fun h m => ⟨s h, m⟩) fun a o n h => ⟨n, k a o n h⟩
/-- more that may change, all new -/
theorem Rep.more {K S M M' H v d} (h : ∀ a ∈ M', a ∉ M → H a = none) (hm : S.a ∈ M → S.a ∈ M') (r : Rep K S M H v d) : Rep K S M' H v d :=
  r.imp (fun a _ z => z.imp (fun z => ⟨fun q => absurd rfl (rd_ne z.2 (h a q z.1)), z.2⟩) id) (fun a _ z => z.imp (fun z => ⟨fun q => absurd rfl (rd_ne z.2 (h a q z.1)), z.2⟩) id) (fun z m => ⟨z, hm m⟩) fun a o n z => ⟨fun q => (by rw [h a q n] at z; cases z), z⟩
theorem RepAll.more {K S M M' H v d} (h : ∀ a ∈ M', a ∉ M → H a = none) (hm : S.a ∈ M → S.a ∈ M') (r : RepAll K S M H v d) : RepAll K S M' H v d :=
  r.imp (fun a _ z => z.imp (fun z => ⟨fun q => absurd rfl (rd_ne z.2 (h a q z.1)), z.2⟩) id) (fun a _ z => z.imp (fun z => ⟨fun q => absurd rfl (rd_ne z.2 (h a q z.1)), z.2⟩) id) (fun z m => ⟨z, hm m⟩) fun a o n z => ⟨fun q => (by rw [h a q n] at z; cases z), z⟩
/-- what stood at H stands behind, also with the lists made since -/
theorem Adv.rep {K S B O H O' H' v d} (a : Adv K S B O H O' H') (m : S.a ∈ B) (r : Rep K S (B ++ O) H v d) : Rep K S (B ++ O') H' v d := by
  have hn : ∀ x ∈ B ++ (O ++ O'), x ∉ B ++ O → H x = none := fun x hx n => by
    rcases List.mem_append.mp hx with q | q
    · exact absurd (List.mem_append_left _ q) n
    · rcases List.mem_append.mp q with q | q
      · exact absurd (List.mem_append_right _ q) n
      · exact a.new x q fun z => n (List.mem_append_right _ z)
  have r1 := r.more (M' := B ++ (O ++ O')) hn fun _ => List.mem_append_left _ m
  have r2 := r1.keeps (H' := H') (fun b o n h => a.keep b o (fun q => n ((List.mem_append.mp q).elim (fun q => List.mem_append_left _ q) fun q => List.mem_append_right _ (List.mem_append_left _ q))) h) a.src
  exact r2.less (fun x hx => (List.mem_append.mp hx).elim (fun q => List.mem_append_left _ q) fun q => List.mem_append_right _ (List.mem_append_right _ q)) (List.mem_append_left _ m)
theorem Adv.repAll {K S B O H O' H'} (a : Adv K S B O H O' H') (m : S.a ∈ B) : ∀ {vs : List V} {ds : List D}, RepAll K S (B ++ O) H vs ds → RepAll K S (B ++ O') H' vs ds
  | _, _, .nil => .nil
  | _, _, .cons h t => .cons (a.rep m h) (a.repAll m t)
variable {po : Po}
/-- for target in iter: I by the turn -/
theorem s_for {iter : Expr} {body : List Stmt} {gt : TG} {Gd : GD} {js : List Nat} (hp : PassesOwn (model X.prog X.w) X.A X.env X.xe) (hc : X.calm = true) (hg : PG X tg gt) (hG : TgOk X.K gt Gd js)
    (h : WX X tg iter Γ fun ds => ∃ I : Nat → List E → Prop, I 0 Γ ∧ (∀ i d Γ, ds[i]? = some d → I i Γ → Gd d Γ fun Γ' => SX X body Γ' { po with nx := fun Γ' => ∃ Γ2, Le Γ' Γ2 ∧ I (i + 1) Γ2, ct := fun Γ' => ∃ Γ2, Le Γ' Γ2 ∧ I (i + 1) Γ2, bk := po.nx }) ∧ ∀ Γ, I ds.length Γ → po.nx Γ)
    (hfs : ∀ y, foldedSetIterable iter X.env y = pure y := by intro _; rfl) : S1 X (.For tg iter body [] pos) Γ po :=
  fun S B O H0 H σ st Dn kk => semS_of (ps_for hp hc pi_sem hg pss_sem hfs) (h S B O H0 H σ st _ fun J H1 ds e1 w p => by
    obtain ⟨I, h0, ht, hd⟩ := p
    refine ⟨fun i m σ' H' => m = ds.length - i ∧ i ≤ ds.length ∧ ∃ O' Γ', StOk X.K S B O' H0 H' σ' Γ' ∧ Adv X.K S B O H1 O' H' ∧ I i Γ', ⟨ds.length, rfl, Nat.zero_le _, O, Γ, st.to e1, .refl st.out, h0⟩, ?_⟩
    rintro i m σ2 H2 ⟨rfl, hi, O2, Γ2, st2, a2, i2⟩
    have kp := keeps_adv a2
    have a0 : Adv X.K S B O H O2 H2 := (st.adv e1).trans a2
    by_cases hlt : i < ds.length
    · refine .inr ⟨w.go i H2 kp hlt, fun σ' H' => ∃ O' Γ', StOk X.K S B O' H0 H' σ' Γ' ∧ Adv X.K S B O H1 O' H' ∧ I (i + 1) Γ', ?_, ?_⟩
      · rintro σ3 H3 ⟨O3, Γ3, st3, a3, i3⟩
        exact ⟨ds.length - (i + 1), by omega, rfl, hlt, O3, Γ3, st3, a3, i3⟩
      · intro x H3 y
        obtain ⟨d, hd', y⟩ := w.yld i H2 x H3 kp hlt y
        have go : ∀ H3, Ext X.K S H2 H3 → Rep X.K S (B ++ O2) H3 x d → gt x σ2 H3 fun σ2 H2 => semSs X body { nx := fun σ' H' => ∃ O' Γ', StOk X.K S B O' H0 H' σ' Γ' ∧ Adv X.K S B O H1 O' H' ∧ I (i + 1) Γ', rt := Dn.rt, bk := Dn.nx, ct := fun σ' H' => ∃ O' Γ', StOk X.K S B O' H0 H' σ' Γ' ∧ Adv X.K S B O H1 O' H' ∧ I (i + 1) Γ' } σ2 H2 := fun H3 e3 r3 => by
          refine hG.ok S B O2 H0 H3 σ2 Γ2 x d _ _ (st2.to e3) r3 (ht i d Γ2 hd' i2) fun σ4 Γ4 st4 p4 _ => ?_
          have a3 := a2.trans (st2.adv e3)
          have a4 := a0.trans (st2.adv e3)
          refine p4 S B O2 H0 H3 σ4 st4 _ ⟨?_, kk.rt, fun O5 H5 σ5 Γ5 st5 a5 p5 => kk.nx O5 H5 σ5 Γ5 st5 (a4.trans a5) p5, ?_⟩
          · rintro O5 H5 σ5 Γ5 st5 a5 ⟨Γ6, l, i6⟩
            exact ⟨O5, Γ6, st5.le l, a3.trans a5, i6⟩
          · rintro O5 H5 σ5 Γ5 st5 a5 ⟨Γ6, l, i6⟩
            exact ⟨O5, Γ6, st5.le l, a3.trans a5, i6⟩
        rcases y with ⟨rfl, r⟩ | ⟨p, vs, es, rfl, rfl, np, rfl, r⟩
        · exact go _ .refl (a2.rep st.mem r)
        · exact go _ (.new np) (rep_tup st2 (a2.repAll st.mem r) np)
    · have e : i = ds.length := by omega
      subst e
      exact .inl ⟨w.stop H2 kp, kk.nx O2 H2 σ2 Γ2 st2 a0 (hd Γ2 i2)⟩)

/-! ### list comprehensions -/
def semB (X : Cx) (scope : Scope) (e : Expr) : TE := fun σ H Q => ∀ (s0 : Shared) (H0 : Hp) (C : Addr) (cl : List (Str × Addr)) (fp : List Addr), semE (X.blk s0 H0 scope (compEnvC scope cl C X.env) fp) e σ H Q
theorem pe_semB {scope : Scope} {e : Expr} (s0 : Shared) (H0 : Hp) (C : Addr) (cl : List (Str × Addr)) (fp : List Addr) : PE (X.blk s0 H0 scope (compEnvC scope cl C X.env) fp) e (semB X scope e) := ⟨fun pins s σ H Q I h => h s0 H0 C cl fp pins s I⟩
def semTB (X : Cx) (scope : Scope) (e : Expr) : TT := fun σ H Q => ∀ (s0 : Shared) (H0 : Hp) (C : Addr) (cl : List (Str × Addr)) (fp : List Addr), semT (X.blk s0 H0 scope (compEnvC scope cl C X.env) fp) e σ H Q
theorem pt_semB {scope : Scope} {e : Expr} (s0 : Shared) (H0 : Hp) (C : Addr) (cl : List (Str × Addr)) (fp : List Addr) : PT (X.blk s0 H0 scope (compEnvC scope cl C X.env) fp) e (semTB X scope e) := ⟨fun pins s σ H Q I h => h s0 H0 C cl fp pins s I⟩
def EB (X : Cx) (scope : Scope) (e : Expr) (Γ : List E) (P : D → Prop) : Prop := ∀ (s0 : Shared) (H0 : Hp) (C : Addr) (cl : List (Str × Addr)) (fp : List Addr), EX (X.blk s0 H0 scope (compEnvC scope cl C X.env) fp) e Γ P
def TB (X : Cx) (scope : Scope) (e : Expr) (Γ : List E) (P : Bool → Prop) : Prop := ∀ (s0 : Shared) (H0 : Hp) (C : Addr) (cl : List (Str × Addr)) (fp : List Addr), TX (X.blk s0 H0 scope (compEnvC scope cl C X.env) fp) e Γ P
/-- the tests of a clause -/
def TsB (X : Cx) (scope : Scope) (ifs : List Expr) (Γ : List E) (P : Bool → Prop) : Prop := match ifs with
  | [] => P true
  | [c] => TB X scope c Γ P
  | _ => False
def semTs (X : Cx) (scope : Scope) (ifs : List Expr) : TT := match ifs with
  | [] => tYes
  | [c] => semTB X scope c
  | _ => fun _ _ _ => False
theorem pts_sem {scope : Scope} {ifs : List Expr} (hl : ifs.length ≤ 1) (s0 : Shared) (H0 : Hp) (C : Addr) (cl : List (Str × Addr)) (fp : List Addr) : PTs (X.blk s0 H0 scope (compEnvC scope cl C X.env) fp) ifs (semTs X scope ifs) := by
  match ifs, hl with
  | [], _ => exact pts_nil
  | [c], _ => exact pts_one (pt_semB s0 H0 C cl fp)
  | _ :: _ :: _, hl => simp at hl
/-- a new list that the loop builds, beside the own ones -/
theorem StOk.with {K S B O H0 H1 H σ Γ p xs} (st : StOk K S B O H0 H1 σ Γ) (n : H1 p = none) (e : Ext K S H1 H) (hp : H p = some (.lst xs)) : StOk K S B (O ++ [p]) H0 H σ Γ where
  len := st.len
  ent := fun i g hg => by
    obtain ⟨x, hx, o⟩ := st.ent i g hg
    refine ⟨x, hx, ?_⟩
    have hm : S.a ∈ B ++ (O ++ [p]) := List.mem_append_left _ st.mem
    have hn : ∀ a ∈ B ++ (O ++ [p]), a ∉ B ++ O → H1 a = none := fun a ha na => by
      rw [← List.append_assoc] at ha
      rcases List.mem_append.mp ha with q | q
      · exact absurd q na
      · have : a = p := by simpa using q
        rw [this]; exact n
    cases g with
    | no => trivial
    | is d =>
      obtain ⟨v, e1, r⟩ := o
      exact ⟨v, e1, (r.more hn fun _ => hm).ext e st.live hm⟩
    | own k ds =>
      obtain ⟨m, vs, e1, e2, e3, r⟩ := o
      refine ⟨m, vs, e1, ?_, e.keep _ _ (st.ne2 e2) e3, (r.more hn fun _ => hm).ext e st.live hm⟩
      rw [List.getElem?_append_left (List.getElem?_eq_some_iff.mp e2).1]
      exact e2
  ext := st.ext.trans e
  live0 := st.live0
  mem := st.mem
  bl := st.bl
  nd := List.nodup_append.mpr ⟨st.nd, by simp, fun a ha b hb e => st.free n (List.mem_append_right _ (by
    have : b = p := by simpa using hb
    rw [← this, ← e]; exact ha))⟩
  out := fun m hm => (List.mem_append.mp hm).elim (st.out m) fun q => by
    have : m = p := by simpa using q
    rw [this]
    exact fun z => st.free n (List.mem_append_left _ z)
  new := fun m hm => (List.mem_append.mp hm).elim (st.new m) fun q => by
    have : m = p := by simpa using q
    rw [this]
    cases e0 : H0 p with
    | none => rfl
    | some o =>
      exfalso
      by_cases hp : p = S.a
      · obtain ⟨⟨o', e'⟩, _⟩ := st.live
        rw [← hp, n] at e'; cases e'
      · have := st.ext.keep p o hp e0
        rw [n] at this; cases this
  liv := fun m hm => (List.mem_append.mp hm).elim (fun q => let ⟨ys, h⟩ := st.liv m q; ⟨ys, e.keep _ _ (st.ne q) h⟩) fun q => by
    have : m = p := by simpa using q
    rw [this]; exact ⟨xs, hp⟩
/-- a place that may change changes -/
theorem RepAll.mutp {K S M H p o} (hm : p ∈ M) (h1 : S.a ≠ p) (h2 : S.l ≠ p) {vs ds} (r : RepAll K S M H vs ds) : RepAll K S M (upd H p o) vs ds := by
  have hr : ∀ a u, a ∉ M → Rd H a u → Rd (upd H p o) a u := fun a u n h => by
    have ne : a ≠ p := fun e => n (e ▸ hm)
    rcases h with h | ⟨z, h⟩
    · exact .inl (by rw [upd_ne ne]; exact h)
    · exact .inr ⟨z, by rw [upd_ne ne]; exact h⟩
  exact r.imp (fun a _ z => z.imp (fun z => ⟨z.1, hr _ _ z.1 z.2⟩) id) (fun a _ z => z.imp (fun z => ⟨z.1, hr _ _ z.1 z.2⟩) id) (fun ⟨i, c, s, t, ns, g1, g2, g3⟩ m => ⟨⟨i, c, s, t, ns, by rw [upd_ne h1]; exact g1, by rw [upd_ne h2]; exact g2, g3⟩, m⟩) fun a o n z => ⟨n, by have ne : a ≠ p := fun e => n (e ▸ hm); rw [upd_ne ne]; exact z⟩
theorem lc_read {elt iter : Expr} {ifs : List Expr} {scope : Scope} {own : List (Str × Nat)} {gt : TG} {Gd : GD} {js : List Nat} {P : D → Prop} (hc : X.calm = true) (hG : TgOk X.K gt Gd js) (hj : ∀ j ∈ js, j ∈ own.map (·.2)) (hl : ifs.length ≤ 1) (Γw : List E) (hw : wipeE Γ (own.map (·.2)) = Γw)
    (h : WX X tg iter Γ fun ds => ds.length ≤ 1000000 ∧ ∃ Acc : Nat → List D → Prop, Acc 0 [] ∧ (∀ i d es, ds[i]? = some d → Acc i es → Gd d Γw fun Γ' => TsB X scope ifs Γ' fun b =>
      if b then EB X scope elt Γ' fun y => Acc (i + 1) (es ++ [y]) else Acc (i + 1) es) ∧ ∀ es, Acc ds.length es → P (.lst es)) :
    ∀ S B O H0 H σ, StOk X.K S B O H0 H σ Γ → ∀ Q, KE X.K S (B ++ O) H P Q → tLc (semI X tg iter) gt (semTs X scope ifs) (semB X scope elt) (own.map (·.2)) σ H Q :=
  fun S B O H0 H σ st Q k => h S B O H0 H σ st _ fun J H1 ds e1 w p Dl nD => by
    subst hw
    obtain ⟨hsz, Acc, h0, ht, hd⟩ := p
    have st1 := st.to e1
    have hDB : Dl ∉ B ++ O := st1.free nD
    have hm : S.a ∈ B ++ (O ++ [Dl]) := List.mem_append_left _ st.mem
    have hDM : Dl ∈ B ++ (O ++ [Dl]) := by simp
    have hSa : S.a ≠ Dl := fun e => hDB (e ▸ st.m)
    have hSl : S.l ≠ Dl := by
      obtain ⟨_, ⟨o, e⟩, _⟩ := st1.live
      exact ne_of_none e nD
    let W := fun (i m : Nat) (H' : Hp) => m = ds.length - i ∧ i ≤ ds.length ∧ ∃ acc es, Ext X.K S H1 H' ∧ H' Dl = some (.lst acc) ∧ RepAll X.K S (B ++ (O ++ [Dl])) H' acc es ∧ es.length ≤ i ∧ Acc i es
    refine ⟨W, ⟨ds.length, rfl, Nat.zero_le _, [], [], .mut .refl st1.live nD, upd_same, .nil, Nat.le_refl _, h0⟩, ?_⟩
    rintro i m H2 ⟨rfl, hi, acc, es, e2, hD, ra, hle, ac⟩
    have st2 : StOk X.K S B (O ++ [Dl]) H0 H2 σ Γ := st1.with nD e2 hD
    have kp : Keeps (B ++ O) H1 H2 := fun b o n hb => e2.keep b o (fun q => n (q ▸ st.m)) hb
    by_cases hlt : i < ds.length
    · refine .inr ⟨w.go i H2 kp hlt, fun H' => ∃ m', m' < ds.length - i ∧ W (i + 1) m' H', fun H' z => z, fun x H3 y => ?_⟩
      obtain ⟨d, hd', y⟩ := w.yld i H2 x H3 kp hlt y
      have hn : ∀ a ∈ B ++ (O ++ [Dl]), a ∉ B ++ O → H1 a = none := fun a ha na => by
        rw [← List.append_assoc] at ha
        rcases List.mem_append.mp ha with q | q
        · exact absurd q na
        · have : a = Dl := by simpa using q
          rw [this]; exact nD
      have go : ∀ H3, Ext X.K S H2 H3 → Rep X.K S (B ++ (O ++ [Dl])) H3 x d → gt x (L2.wipe σ (own.map (·.2))) H3 fun σ2 H2 => L2.wipe σ2 (own.map (·.2)) = L2.wipe σ (own.map (·.2)) ∧ semTs X scope ifs σ2 H2 fun b H3 =>
          if b = true then semB X scope elt σ2 H3 fun y H4 => ∃ acc, H4 Dl = some (.lst acc) ∧ acc.length < sizeLine ∧ ∃ m', m' < ds.length - i ∧ W (i + 1) m' (upd H4 Dl (.lst (acc ++ [y]))) else ∃ m', m' < ds.length - i ∧ W (i + 1) m' H3 := fun H3 e3 r3 => by
        have st3 := (st2.to e3).wipe (own.map (·.2))
        refine hG.ok S B (O ++ [Dl]) H0 H3 _ _ x d _ _ st3 r3 (ht i d es hd' ac) fun σ4 Γ4 st4 p4 w4 => ⟨?_, ?_⟩
        · rw [w4 _ hj]
          have : ∀ (vs us : List Nat) (σ : L2.St), (∀ j ∈ us, j ∈ vs) → L2.wipe (L2.wipe σ us) vs = L2.wipe σ vs := by
            intro vs us
            induction us with
            | nil => intro σ _; rfl
            | cons u us ih =>
              intro σ hu
              show L2.wipe ((L2.wipe σ us).set u none) vs = _
              rw [wipe_set (hu u (List.mem_cons_self ..)), ih σ fun j hj => hu j (List.mem_cons_of_mem _ hj)]
          exact this _ _ _ fun _ h => h
        · have fin : ∀ H5, Ext X.K S H3 H5 → Acc (i + 1) es → ∃ m', m' < ds.length - i ∧ W (i + 1) m' H5 := fun H5 e5 a5 =>
            ⟨ds.length - (i + 1), by omega, rfl, hlt, acc, es, e2.trans (e3.trans e5), (e3.trans e5).keep _ _ (Ne.symm hSa) hD, ra.ext (e3.trans e5) st2.live hm, by omega, a5⟩
          have big : ∀ H5, Ext X.K S H3 H5 → EB X scope elt Γ4 (fun y => Acc (i + 1) (es ++ [y])) → semB X scope elt σ4 H5 fun y H4 => ∃ acc, H4 Dl = some (.lst acc) ∧ acc.length < sizeLine ∧ ∃ m', m' < ds.length - i ∧ W (i + 1) m' (upd H4 Dl (.lst (acc ++ [y]))) := fun H5 e5 pb s0 Hb C cl fp => by
            refine pb s0 Hb C cl fp S B (O ++ [Dl]) H0 H5 σ4 (st4.to e5) _ fun v y H6 e6 r6 p6 => ?_
            have e36 := e3.trans (e5.trans e6)
            have l6 : Live S H6 := e36.live st2.live
            refine ⟨acc, e36.keep _ _ (Ne.symm hSa) hD, ?_, ds.length - (i + 1), by omega, rfl, hlt, acc ++ [v], es ++ [y], (e2.trans e36).mut st1.live nD, upd_same, ?_, by simp; omega, p6⟩
            · rw [ra.length]
              exact Nat.lt_of_lt_of_le (show es.length < 2000000 by omega) (by decide)
            · exact RepAll.mutp hDM hSa hSl ((ra.ext e36 st2.live hm).append (.cons r6 .nil))
          match ifs, hl, p4 with
          | [], _, p4 =>
            have p4' : EB X scope elt Γ4 fun y => Acc (i + 1) (es ++ [y]) := by simpa [TsB] using p4
            have q := big H3 .refl p4'
            simp only [semTs, tYes, if_true]
            exact q
          | [c], _, p4 =>
            intro s0 Hb C cl fp
            refine (show TB X scope c Γ4 _ from p4) s0 Hb C cl fp S B (O ++ [Dl]) H0 H3 σ4 st4 _ fun b H5 e5 p5 => ?_
            cases b with
            | true => exact iteT (big H5 e5 (by simpa using p5))
            | false => exact iteF (fin H5 e5 (by simpa using p5))
          | _ :: _ :: _, hl, _ => simp at hl
      rcases y with ⟨rfl, r⟩ | ⟨p, vs, es', rfl, rfl, np, rfl, r⟩
      · exact go _ .refl ((r.more hn fun _ => hm).ext e2 st1.live hm)
      · exact go _ (.new np) (rep_tup st2 ((r.more hn fun _ => hm).ext e2 st1.live hm) np)
    · have e : i = ds.length := by omega
      subst e
      refine .inl ⟨w.stop H2 kp, k _ _ H2 (e1.trans e2) (.lst (.inl ⟨hDB, .inl hD⟩) (ra.less (fun a ha => ?_) st.m)) (hd es ac)⟩
      rcases List.mem_append.mp ha with q | q
      · exact List.mem_append_left _ q
      · exact List.mem_append_right _ (List.mem_append_left _ q)

theorem ex_lc {elt iter : Expr} {ifs : List Expr} {scope : Scope} {own : List (Str × Nat)} {gt : TG} {Gd : GD} {js : List Nat} {P : D → Prop} (hc : X.calm = true) (hnd : X.N.Nodup) (ok : BlkOk X.N X.env.scope scope own)
    (hg : ∀ (s : Shared) (H : Hp) (C : Addr) (cl : List (Str × Addr)) (fp : List Addr), PG (X.blk s H scope (compEnvC scope cl C X.env) fp) tg gt) (hG : TgOk X.K gt Gd js) (hj : ∀ j ∈ js, j ∈ own.map (·.2)) (hl : ifs.length ≤ 1) (Γw : List E) (hw : wipeE Γ (own.map (·.2)) = Γw)
    (h : WX X tg iter Γ fun ds => ds.length ≤ 1000000 ∧ ∃ Acc : Nat → List D → Prop, Acc 0 [] ∧ (∀ i d es, ds[i]? = some d → Acc i es → Gd d Γw fun Γ' => TsB X scope ifs Γ' fun b =>
      if b then EB X scope elt Γ' fun y => Acc (i + 1) (es ++ [y]) else Acc (i + 1) es) ∧ ∀ es, Acc ds.length es → P (.lst es))
    (hs : ∀ x, foldedSetIterable iter X.env x = pure x := by intro _; rfl) : EX X (.ListComp elt [⟨tg, iter, ifs, 0⟩] scope pos) Γ P :=
  ex_of (pe_lc hc hnd pi_sem ok hg (pts_sem hl) pe_semB hs) (lc_read hc hG hj hl Γw hw h)
theorem s_setLc (i : Nat) {N : List Str} {y : Str} {py spos : Pos} {elt iter : Expr} {ifs : List Expr} {scope : Scope} {own : List (Str × Nat)} {gt : TG} {Gd : GD} {js : List Nat} (hX : X.N = N) (hc : X.calm = true) (hnd : X.N.Nodup) (ok : BlkOk X.N X.env.scope scope own)
    (hg : ∀ (s : Shared) (H : Hp) (C : Addr) (cl : List (Str × Addr)) (fp : List Addr), PG (X.blk s H scope (compEnvC scope cl C X.env) fp) tg gt) (hG : TgOk X.K gt Gd js) (hj : ∀ j ∈ js, j ∈ own.map (·.2)) (hl : ifs.length ≤ 1) (Γw : List E) (hw : wipeE Γ (own.map (·.2)) = Γw)
    (h : WX X tg iter Γ fun ds => ds.length ≤ 1000000 ∧ ∃ Acc : Nat → List D → Prop, Acc 0 [] ∧ (∀ i d es, ds[i]? = some d → Acc i es → Gd d Γw fun Γ' => TsB X scope ifs Γ' fun b =>
      if b then EB X scope elt Γ' fun y => Acc (i + 1) (es ++ [y]) else Acc (i + 1) es) ∧ ∀ es, Acc ds.length es → po.nx (put Γ i (.is (.lst es))))
    (hN : nth N i = some y) (hyl : X.env.scope.names.lookup y = some .local) (hsw : swapsWith (.ListComp elt [⟨tg, iter, ifs, 0⟩] scope pos) (some (.Name y py)) spos.line X.env = pure true)
    (hs : ∀ x, foldedSetIterable iter X.env x = pure x := by intro _; rfl) : S1 X (.Assign [.Name y py] (.ListComp elt [⟨tg, iter, ifs, 0⟩] scope pos) spos) Γ po := by
  rw [nth_eq] at hN
  exact fun S B O H0 H σ st Dn kk => semS_of (ps_setLc (i := i) hc hnd (by rw [hX]; exact hN) hyl hsw pi_sem ok hg (pts_sem hl) pe_semB hs)
    (lc_read (P := fun d => po.nx (put Γ i (.is d))) hc hG hj hl Γw hw h S B O H0 H σ st _ fun v d H1 e1 r1 p1 => kk.nx O H1 _ _ (by rw [put_eq]; exact (st.to e1).set i r1) (st.adv e1) p1)
end
end G
set_option Elab.async false
set_option linter.all false
set_option maxRecDepth 100000
set_option maxHeartbeats 1000000
namespace G
open PySem PySem.Spec PyProof.Rows L2
section
variable {P : D → Prop}
theorem o_add {i j : Int} (h : P (.int (i + j))) : wAdd (.int i) (.int j) P := h
theorem o_adds {i j : Str} (h0 : i.length + j.length ≤ sizeLine) (h : P (.str (i ++ j))) : wAdd (.str i) (.str j) P := ⟨h0, h⟩
theorem o_addt {i j : List D} (h0 : i.length + j.length ≤ sizeLine) (h : P (.tup (i ++ j))) : wAdd (.tup i) (.tup j) P := ⟨h0, h⟩
theorem o_sub {i j : Int} (h : P (.int (i - j))) : wSub (.int i) (.int j) P := ⟨trivial, h⟩
theorem o_mul {i j : Int} (h0 : CBig i j) (h : P (.int (i * j))) : wMul (.int i) (.int j) P := ⟨h0, h⟩
theorem o_mod {i j : Int} (h0 : j ≠ 0) (h : P (.int (i.fmod j))) : wMod (.int i) (.int j) P := ⟨h0, h⟩
theorem o_fdiv {i j : Int} (h0 : CDv i j) (h : P (.int (i.fdiv j))) : wFdiv (.int i) (.int j) P := ⟨h0, h⟩
theorem o_pow {i j : Int} (h0 : CPow i j) (h : P (.int (i ^ j.toNat))) : wPow (.int i) (.int j) P := ⟨h0, h⟩
theorem o_lt {i j : Int} (h : P (.bl (decide (i < j)))) : wLt (.int i) (.int j) P := ⟨trivial, h⟩
theorem o_le {i j : Int} (h : P (.bl (decide (i ≤ j)))) : wLe (.int i) (.int j) P := ⟨trivial, h⟩
theorem o_gt {i j : Int} (h : P (.bl (decide (j < i)))) : wGt (.int i) (.int j) P := ⟨trivial, h⟩
theorem o_ge {i j : Int} (h : P (.bl (decide (j ≤ i)))) : wGe (.int i) (.int j) P := ⟨trivial, h⟩
theorem o_eq {a b : D} {k : Bool} (e : sEq a b = some k) (h : P (.bl k)) : wEq a b P := by
  unfold wEq
  rw [e]
  exact h
theorem o_ne {a b : D} {k : Bool} (e : sEq a b = some k) (h : P (.bl (!k))) : wNe a b P := by
  unfold wNe
  rw [e]
  exact h
theorem o_is {a : D} (h : P (.bl (isNon a))) : wIs a .non P := h
theorem o_isnot {a : D} (h : P (.bl (!isNon a))) : wIsNot a .non P := h
theorem o_ixl {l : List D} {k : Int} {d : D} (e : atI l k = some d) (h : P d) : wIx (.lst l) (.int k) P := ⟨d, e, h⟩
theorem o_ixt {l : List D} {k : Int} {d : D} (e : atI l k = some d) (h : P d) : wIx (.tup l) (.int k) P := ⟨d, e, h⟩
theorem o_lenl {l : List D} (h : P (.int l.length)) : wLen [.lst l] P := h
theorem o_lent {l : List D} (h : P (.int l.length)) : wLen [.tup l] P := h
theorem o_lens {z : Str} (h0 : z.length ≤ sizeLine) (h : P (.int z.length)) : wLen [.str z] P := ⟨h0, h⟩
theorem o_abs {i : Int} (h : P (.int (if i < 0 then -i else i))) : wAbs [.int i] P := h
theorem o_int {i : Int} (h : P (.int i)) : wInt [.int i] P := h
theorem o_str {i : Int} (h0 : i.natAbs.log2 < 1920) (h : P (.str (toString i))) : wStr [.int i] P := ⟨h0, h⟩
theorem o_listl {l : List D} (h : P (.lst l)) : wList [.lst l] P := h
theorem o_listt {l : List D} (h : P (.lst l)) : wList [.tup l] P := h
theorem o_tupl {l : List D} (h : P (.tup l)) : wTuple [.lst l] P := h
theorem o_tupt {l : List D} (h : P (.tup l)) : wTuple [.tup l] P := h
theorem o_all {bs : List Bool} (h : P (.bl (bs.all id))) : wAll [.lst (bs.map D.bl)] P := ⟨bs, rfl, h⟩
theorem o_gcd {i j : Int} (h : P (.int ((Nat.gcd i.natAbs j.natAbs : Nat) : Int))) : wGcd [.int i, .int j] P := h
theorem o_isi {d : D} {n t : String} {b : Bool} (e1 : tyD d = some t) (e2 : kitB t n = some b) (h : P (.bl b)) : wIsi [d, .ty n] P := ⟨t, b, e1, e2, h⟩
theorem o_isi2 {d : D} {n1 n2 t : String} {b1 b2 : Bool} (e1 : tyD d = some t) (e2 : kitB t n1 = some b1) (e3 : kitB t n2 = some b2) (h : P (.bl (b1 || b2))) :
    ∃ n1' n2' t k1 k2, D.ty n1 = .ty n1' ∧ D.ty n2 = .ty n2' ∧ tyD d = some t ∧ kitB t n1' = some k1 ∧ kitB t n2' = some k2 ∧ P (.bl (k1 || k2)) := ⟨n1, n2, t, b1, b2, rfl, rfl, e1, e2, e3, h⟩
theorem o_asB {P : Bool → Prop} {b : Bool} (h : P b) : asB P (.bl b) := h
theorem o_asI {P : Int → Prop} {b : Int} (h : P b) : asI P (.int b) := h
theorem o_asL {P : List D → Prop} {b : List D} (h : P b) : asL P (.lst b) := h
theorem o_asT {P : List D → Prop} {b : List D} (h : P b) : asT P (.tup b) := h
theorem o_truB {P : Bool → Prop} {b : Bool} (h : P b) : asTru P (.bl b) := h
theorem o_truN {P : Bool → Prop} (h : P false) : asTru P .non := h
theorem o_truL {P : Bool → Prop} {l : List D} (h : P (!l.isEmpty)) : asTru P (.lst l) := h
theorem o_truT {P : Bool → Prop} {l : List D} (h : P (!l.isEmpty)) : asTru P (.tup l) := h
theorem if_t {p q : Prop} (h : p) : if true = true then p else q := iteT h
theorem if_f {p q : Prop} (h : q) : if false = true then p else q := iteF h
theorem if_d {p q : Prop} {b : Bool} (h1 : b = true → p) (h2 : b = false → q) : if b = true then p else q := by
  cases b with
  | true => exact iteT (h1 rfl)
  | false => exact iteF (h2 rfl)
theorem if_nf {p q : Prop} (h : p) : if (!false) = true then p else q := iteT h
theorem if_nt {p q : Prop} (h : q) : if (!true) = true then p else q := iteF h
theorem if_ev_t {p q : Prop} {b : Bool} (e : b = true) (h : p) : if b = true then p else q := by
  rw [e]
  exact iteT h
theorem if_ev_f {p q : Prop} {b : Bool} (e : b = false) (h : q) : if b = true then p else q := by
  rw [e]
  exact iteF h
/-- the arms of a test of truth, by the proposition -/
theorem if_dec {p q c : Prop} [Decidable c] (h1 : c → p) (h2 : ¬ c → q) : if decide c = true then p else q := by
  by_cases h : c
  · rw [decide_eq_true h]; exact iteT (h1 h)
  · rw [decide_eq_false h]; exact iteF (h2 h)
theorem if_ndec {p q c : Prop} [Decidable c] (h1 : ¬ c → p) (h2 : c → q) : if (!decide c) = true then p else q := by
  by_cases h : c
  · rw [decide_eq_true h]; exact iteF (h2 h)
  · rw [decide_eq_false h]; exact iteT (h1 h)
end
section
variable {X : Cx} {x : Str} {W : WA}
theorem CallOk.blk (h : CallOk X x W) {s H sc env fp} : CallOk (X.blk s H sc env fp) x W := ⟨h.ex⟩
theorem CallOkK.blk {np ks} {W : List D → WA} (h : CallOkK X x np ks W) {s H sc env fp} : CallOkK (X.blk s H sc env fp) x np ks W := ⟨h.ex⟩
theorem ConstOk.blk {d} (h : ConstOk X x d) {s H sc env fp} : ConstOk (X.blk s H sc env fp) x d := ⟨h.ex⟩
end
theorem bt_isi : bootBuiltins "isinstance" = some (.builtin "isinstance") := by decide +kernel
theorem bt_len : bootBuiltins "len" = some (.builtin "len") := by decide +kernel
theorem bt_all : bootBuiltins "all" = some (.builtin "all") := by decide +kernel
theorem bt_abs : bootBuiltins "abs" = some (.builtin "abs") := by decide +kernel
theorem bt_int : bootBuiltins "int" = some (.type "int") := by decide +kernel
theorem bt_str : bootBuiltins "str" = some (.type "str") := by decide +kernel
theorem bt_bool : bootBuiltins "bool" = some (.type "bool") := by decide +kernel
theorem bt_list : bootBuiltins "list" = some (.type "list") := by decide +kernel
theorem bt_tuple : bootBuiltins "tuple" = some (.type "tuple") := by decide +kernel
theorem kb0 : kitB "NoneType" "int" = some false := by decide +kernel
theorem kb1 : kitB "NoneType" "bool" = some false := by decide +kernel
theorem kb2 : kitB "NoneType" "str" = some false := by decide +kernel
theorem kb3 : kitB "NoneType" "list" = some false := by decide +kernel
theorem kb4 : kitB "NoneType" "tuple" = some false := by decide +kernel
theorem kb5 : kitB "bool" "int" = some true := by decide +kernel
theorem kb6 : kitB "bool" "bool" = some true := by decide +kernel
theorem kb7 : kitB "bool" "str" = some false := by decide +kernel
theorem kb8 : kitB "bool" "list" = some false := by decide +kernel
theorem kb9 : kitB "bool" "tuple" = some false := by decide +kernel
theorem kb10 : kitB "int" "int" = some true := by decide +kernel
theorem kb11 : kitB "int" "bool" = some false := by decide +kernel
theorem kb12 : kitB "int" "str" = some false := by decide +kernel
theorem kb13 : kitB "int" "list" = some false := by decide +kernel
theorem kb14 : kitB "int" "tuple" = some false := by decide +kernel
theorem kb15 : kitB "str" "int" = some false := by decide +kernel
theorem kb16 : kitB "str" "bool" = some false := by decide +kernel
theorem kb17 : kitB "str" "str" = some true := by decide +kernel
theorem kb18 : kitB "str" "list" = some false := by decide +kernel
theorem kb19 : kitB "str" "tuple" = some false := by decide +kernel
theorem kb20 : kitB "tuple" "int" = some false := by decide +kernel
theorem kb21 : kitB "tuple" "bool" = some false := by decide +kernel
theorem kb22 : kitB "tuple" "str" = some false := by decide +kernel
theorem kb23 : kitB "tuple" "list" = some false := by decide +kernel
theorem kb24 : kitB "tuple" "tuple" = some true := by decide +kernel
theorem kb25 : kitB "list" "int" = some false := by decide +kernel
theorem kb26 : kitB "list" "bool" = some false := by decide +kernel
theorem kb27 : kitB "list" "str" = some false := by decide +kernel
theorem kb28 : kitB "list" "list" = some true := by decide +kernel
theorem kb29 : kitB "list" "tuple" = some false := by decide +kernel
end G
set_option Elab.async false
set_option linter.all false
set_option maxRecDepth 100000
set_option maxHeartbeats 4000000
namespace G
open PySem PySem.Spec PyProof.Rows L2
/-! ### own exception classes, their instances as data -/
/-- what is asked of an own exception class -/
structure ExK (K : PySem.W.Frag) (C : Addr) : Prop where
  base : ∃ B newId initId bmB, ExcBaseFacts B newId initId bmB ∧ StoreFacts B bmB "object.__setattr__" "object" ∧ PySem.W.excInitIn K C bmB newId = true ∧ PySem.W.excOver K C bmB = true
  sa : PySem.W.findIn K (.ref C) "__setattr__" = some (some (.builtin "object.__setattr__"))
  kC : PySem.W.keepIn K (.ref C) = true
  c : ExcC K C
theorem ExK.hasDict {K C} (T : ExK K C) : PySem.W.hasDictIn K C = true := T.c.hd
theorem taker_of {K : PySem.W.Frag} {C : Addr} {f : Str} (h : PySem.W.findIn K (.ref C) f = some none) : PySem.W.takerIn K C f = some none := by
  unfold PySem.W.takerIn
  rw [h]
  rfl
section
variable {X : Cx} {pins : List (Addr × Obj)} {σ : L2.St} {H : Hp} {s : Shared} {a C dx : Addr} {f : Str} {y : V} {u : Value} {fs : List (Str × V)} {Q : Unit → Shared → Prop} {E : Value → Shared → Prop} {A : Around}
theorem inv_first {hp h' : Heap} {g : Array GenState} {d : Drawn} {t t' : Nat} {os : OsState} {m1 : Str → Option Value} (I : Inv X pins σ H ⟨hp, g, d, t, os⟩) (e : H a = some (exo a C none)) (k : ∀ b o, b ≠ a → hp.get? b = some o → h'.get? b = some o)
    (big : hp.objs.size ≤ dx) (dne : dx ≠ a) {t1 : Addr} (hx : h'.get? a = some ({ cls := .ref C, dict := some dx, data := .fields #[.ref t1, .none, .none, .none, .bool false, .none] } : Obj)) (hn : h'.Ns1 dx m1) (rel : ∀ z, RelO (List.lookup z fs) (m1 z)) :
    Inv X pins σ (upd (upd H dx (exd dx fs)) a (exo a C (some dx))) ⟨h', g, d, t', os⟩ := by
  have free : H dx = none := I.hok.fresh big
  have old : ∀ {b : Addr} {o : Obj}, hp.get? b = some o → b ≠ dx := fun {b o} q => Nat.ne_of_lt (Nat.lt_of_lt_of_le (Heap.lt_size q) big)
  have nota : ∀ {b : Addr}, H b = none → b ≠ a := fun {b} n z => by rw [z, e] at n; cases n
  have two : ∀ {b : Addr} {o : HO}, H b = some o → exo a C none ≠ o → upd (upd H dx (exd dx fs)) a (exo a C (some dx)) b = some o := fun {b o} q z => by
    rw [upd_ne (at_ne e q z), upd_ne (ne_of_none q free)]; exact q
  have step : Un X.fs [] H (upd (upd H dx (exd dx fs)) a (exo a C (some dx))) hp h' := {
    keep := fun b o q n _ _ => k b o (nota n) q
    slot := fun b o q n _ _ => ⟨o.slots, k b o (nota n) q⟩
    free := fun b o q n _ => by rw [upd_ne (nota n), upd_ne (old q)]; exact n
    there := fun b o q _ => if hb : b = a then hb ▸ ⟨_, hx⟩ else ⟨o, k b o hb q⟩
    tups := fun b xs q => two q exo_tup
    frzs := fun b o v q => two q exo_frz
    tbls := fun b ps q => ⟨#[], by rw [two q exo_tbl]; simp⟩ }
  refine I.un (t' := t') step fun b o q => ?_
  by_cases hb : b = a
  · rw [hb, upd_same] at q
    cases q
    rw [hb]
    exact exo_ok hx
  · rw [upd_ne hb] at q
    by_cases hd : b = dx
    · rw [hd, upd_same] at q
      cases q
      rw [hd]
      exact exd_ok hn rel
    · rw [upd_ne hd] at q
      refine (I.hok b o q).stay (fun c v hc z => k c v ?_ z) (fun c hc => two hc exo_own) fun c xs hc => two hc exo_tup
      exact hc.elim (fun hc => hc ▸ hb) fun hc => at_ne e hc exo_own
/-- the first field of an instance -/
theorem set_first (T : ExK X.K C) (I : Inv X pins σ H s) (e : H a = some (exo a C none)) (hno : PySem.W.findIn X.K (.ref C) f = some none) (ry : RelV y u)
    (h : ∀ dx s', H dx = none → dx ≠ a → Inv X pins σ (upd (upd H dx (exd dx [(f, y)])) a (exo a C (some dx))) s' → Q () s') : wpAny (model X.prog X.w) A (setAttr (.ref a) f u) Q E s := by
  obtain ⟨B, newId, initId, bmB, F, SF, q1, q2⟩ := T.base
  obtain ⟨t1, ho⟩ := exo_at I.hok e
  obtain ⟨cd, hc, hd'⟩ := PySem.W.any_some T.hasDict
  obtain ⟨hp, g, d, t, os⟩ := s
  have LC := PySem.W.looks_clsIn (M := model X.prog X.w) I.kIn hc
  refine PySem.W.set_plain I.kIn (ox := { cls := .ref C, dict := none, data := .fields #[.ref t1, .none, .none, .none, .bool false, .none] }) (od := none) ⟨ho, rfl, rfl, trivial⟩ T.sa ?_
  refine PySem.W.osa_openX (od := none) SF (show X.K.In _ from I.kIn) ⟨ho, rfl, rfl, trivial⟩ q2 (taker_of hno) fun b => ?_
  refine wpAny_bind (wpAny_pure (wpAny_bind (PySem.W.instanceDict_exc (t := t1) ho LC hd' ?_)))
  have ne : a ≠ hp.objs.size := Nat.ne_of_lt (Heap.lt_size ho)
  refine PySem.HandSPX.store_in_new ⟨_, #[], _, (Heap.get?_update_ne _ _ _ _ ne.symm).trans (Heap.get?_push_at rfl rfl), rfl, fun e he => absurd he (by simp), fun _ => rfl⟩ fun h' tk' hn' hs => ?_
  have hx : (hp.push { cls := .type "dict", data := .dict #[] }).get? a = _ := Heap.get?_push_of_some _ ho
  have hx' : h'.get? a = some ({ cls := .ref C, dict := some hp.objs.size, data := .fields #[.ref t1, .none, .none, .none, .bool false, .none] } : Obj) := (hs.2 a ne).trans (Heap.get?_update_self _ hx rfl)
  have k : ∀ b o, b ≠ a → hp.get? b = some o → h'.get? b = some o := fun b o hb hq => (hs.2 b (Nat.ne_of_lt (Heap.lt_size hq))).trans ((Heap.get?_update_ne _ _ _ _ hb).trans (Heap.get?_push_of_some _ hq))
  exact h hp.objs.size _ (I.hok.fresh (Nat.le_refl _)) ne.symm (inv_first (t' := tk') I e k (Nat.le_refl _) ne.symm hx' hn' (relO_put (fs := []) ry fun _ => True.intro))
/-- a further field -/
theorem set_more (T : ExK X.K C) (I : Inv X pins σ H s) (e : H a = some (exo a C (some dx))) (ed : H dx = some (exd dx fs)) (hl : fs.length ≤ 900) (hno : PySem.W.findIn X.K (.ref C) f = some none) (ry : RelV y u)
    (h : ∀ s', Inv X pins σ (upd H dx (exd dx ((f, y) :: fs))) s' → Q () s') : wpAny (model X.prog X.w) A (setAttr (.ref a) f u) Q E s := by
  obtain ⟨B, newId, initId, bmB, F, SF, q1, q2⟩ := T.base
  obtain ⟨t1, ho⟩ := exo_at I.hok e
  obtain ⟨mA, hns, rel⟩ := exd_at I.hok ed
  obtain ⟨cd, hc, hd'⟩ := PySem.W.any_some T.hasDict
  have hw := within_of rel
  obtain ⟨hp, g, d, t, os⟩ := s
  obtain ⟨oD, _, _, hoD, _, _⟩ := hns.count hw
  have LC := PySem.W.looks_clsIn (M := model X.prog X.w) I.kIn hc
  refine PySem.W.set_plain I.kIn (ox := { cls := .ref C, dict := some dx, data := .fields #[.ref t1, .none, .none, .none, .bool false, .none] }) (od := some oD) ⟨ho, rfl, rfl, hoD⟩ T.sa ?_
  refine PySem.W.osa_openX (od := some oD) SF (show X.K.In _ from I.kIn) ⟨ho, rfl, rfl, hoD⟩ q2 (taker_of hno) fun b => ?_
  refine wpAny_bind (wpAny_pure (wpAny_bind (wpAny_bind (wpAny_loadPart ho (wpAny_bind (LC.at ?_))))))
  rw [hd']
  refine wpAny_pure (a := some dx) ?_
  refine PySem.OEX.store_in_old hns hw (by rw [List.length_map]; omega) fun h' tk' hn hs => ?_
  have there : ∃ o, h'.get? dx = some o := by
    obtain ⟨o, _, _, e', _⟩ := hn
    exact ⟨o, e'⟩
  exact h _ (I.write (t' := tk') (x := dx) (e := dx) (o := exd dx ((f, y) :: fs)) (by rw [ed]; exact True.intro) (.inl rfl) (fun b o hb hq => (hs.2 b hb).trans hq) there (exd_ok hn (relO_put ry rel)))
end
end G
set_option Elab.async false
set_option linter.all false
set_option maxRecDepth 100000
set_option maxHeartbeats 4000000
namespace G
open PySem PySem.Spec PyProof.Rows L2
/-! ### isinstance of an instance with its dict -/
section
open PySem.W PySem.Calls
theorem find_class {K : PySem.W.Frag} {C : Addr} (c : ExcC K C) (od : Option Obj) : findObj K C od "__class__" = some (.bind (.builtin "getset_descriptor.__get__") (.builtin "object.__class__")) := by
  obtain ⟨cd, hc, _⟩ := any_some c.hd
  unfold findObj
  rw [hc, Option.bind_some, c.ha, Option.bind_some]; simp [c.hn, c.ht]
theorem read_class {prog : Program} {w : World} {A : Around} {E : Value → Shared → Prop} {s : Shared} {K : PySem.W.Frag} {x C : Addr} {ox : Obj} {od : Option Obj} {Q : Option Value → Shared → Prop} (c : ExcC K C) (X : K.In s.heap) (I : InstAt s.heap x ox C od)
    (h : Q (some (.ref C)) { s with toks := s.toks + 1 }) : wpAny (model prog w) A (getAttr? (.ref x) "__class__") Q E s := by
  obtain ⟨hp, g, d, t, os⟩ := s
  have lt := I.type (M := model prog w); have la := looks_findIn (M := model prog w) X c.hg; have lk := looks_findIn (M := model prog w) X c.hk; have lf := looks_find (M := model prog w) X I (find_class c od)
  have sub : Looks (model prog w) hp (isInstance (.ref x) (.type "BaseException")) true := lt.andThen (looks_subIn X c.hs)
  have n2 : (Value.builtin "BaseException.__getattribute__" == Value.builtin "object.__getattribute__") = false := by decide +kernel
  have n1 : (onTheHeap (Value.ref C) && Value.builtin "BaseException.__getattribute__" == Value.builtin "object.__getattribute__") = false := by rw [n2]; rfl
  have n0 : (false && onTheHeap (Value.builtin "BaseException.__getattribute__")) = false := rfl
  unfold getAttr? getAttrBy? getAttrBy; refine wpAny_bind (wpAny_mkText (wpAny_bind (wpAny_attempt (wpAny_holding (wpAny_bind (lt.at (wpAny_bind (la.at ?_))))))))
  show wpAny _ _ (if (onTheHeap (Value.ref C) && Value.builtin "BaseException.__getattribute__" == Value.builtin "object.__getattribute__") = true then _ else _) _ _ _; rw [n1, if_neg Bool.false_ne_true]
  unfold getAttrByItsOwn hookBefore; refine wpAny_bind ?_; rw [if_pos (show onTheHeap (Value.ref C) = true from rfl)]; refine lk.at (wpAny_bind (wpAny_attempt (wpAny_holding ?_)))
  unfold callGetattribute; rw [n0, if_neg Bool.false_ne_true]; unfold boundAndCalled; rw [PySem.F.excAttr_ValueError.ga.bind (.ref x)]; refine wpAny_bind (wpAny_pure ?_)
  show wpAny _ _ (call (.builtin "BaseException.__getattribute__") [.ref x, .str "__class__" t]) _ _ _; refine wpAny_call (codeAny_call_builtin PySem.F.excAttr_ValueError.ga.plain PySem.F.entry_bexc_ga (@check_slot (model prog w) _ _ ⟨hp, g, d, t + 1, os⟩ "BaseException.__getattribute__" "BaseException" "__getattribute__" (.ref x) [.str "__class__" t] [] _ (by decide +kernel) (by decide +kernel) sub (PySem.F.args_bexc_ga (.ref x) (.str "__class__" t)) ?_))
  unfold Builtin.«object.__getattribute__»; refine wpAny_bind (wpAny_of_eq (a := ((Value.ref x : Value), [Value.str "__class__" t])) (by first | rfl | (simp only [slotArgs]; rfl)) (wpAny_bind (wpAny_pure (wpAny_bind (lt.at (wpAny_bind (lf.at ?_)))))))
  show wpAny _ _ (holding [Value.builtin "object.__class__"] (call (.builtin "getset_descriptor.__get__") [.builtin "object.__class__", .ref x, .ref C]) >>= ret) _ _ _; refine wpAny_bind (wpAny_holding (wpAny_call (class_get (s := ⟨hp, g, d, t + 1, os⟩) (ox := ox) (od := od) X I c.hm (wpAny_pure ?_))))
  show wpAny _ _ (handedOut (.ref C)) _ _ _; rw [handedOut_of (v := .ref C) rfl]
  first
    | exact wpAny_pure (wpAny_pure h)
    | exact wpAny_pure h
    | exact wpAny_pure (wpAny_bind (wpAny_pure (wpAny_pure h)))
theorem kit_inst {K : PySem.W.Frag} {x C : Addr} (c : ExcC K C) : KitX K (.ref x) (.ref C) (fun h => ∃ ox od, InstAt h x ox C od) where
  ty := fun _ _ _ ⟨_, _, I⟩ => I.type
  it := fun _ _ X _ => by
    obtain ⟨cd, hc, _⟩ := any_some c.hd; unfold clsIn at hc
    split at hc
    · rename_i ho
      exact fun A' Q' E' s' k q => by unfold isType loadHead; exact wpAny_bind (wpAny_loadPart (k _ _ (X _ _ ho)) (wpAny_pure q))
    · cases hc
  ne := fun h tp dd its n sl X htp => by
    obtain ⟨cd, hc, _⟩ := any_some c.hd
    refine Bool.eq_false_iff.mpr fun q => ?_
    obtain rfl : C = tp := Value.ref.inj (beq_iff_eq.mp q)
    unfold clsIn at hc
    split at hc
    · rename_i ho
      cases (X _ _ ho).symm.trans htp
    · cases hc
  ca := fun X ⟨_, _, I⟩ k => read_class c X I k
end
section
variable {X : Cx} {Γ : List E} {P : D → Prop} {pos : Pos} {C : Addr}
theorem inst_at {P : Program} {w : World} {H : Hp} {h : Heap} {a dx : Addr} {fs : List (Str × V)} (ok : HOk P w H h) (e : H a = some (exo a C (some dx))) (ed : H dx = some (exd dx fs)) : ∃ (ox od : Obj) (mA : Str → Option Value), PySem.W.InstAt h a ox C (some od) ∧ (∀ n, PySem.W.lookIn n od = some (mA n)) ∧ ∀ n, RelO (fs.lookup n) (mA n) := by
  obtain ⟨t1, ho⟩ := exo_at ok e
  obtain ⟨mA, hns, rel⟩ := exd_at ok ed
  obtain ⟨od, hd, hl⟩ := lookIn_ns hns
  exact ⟨_, od, mA, ⟨ho, rfl, rfl, hd⟩, hl, rel⟩
/-- isinstance(e, c) -/
def rIsX (K : PySem.W.Frag) : List V → Hp → VK → Prop := fun xs H Q => ∃ (a C dx : Addr) (fs : List (Str × V)) (c : V) (cv : Value) (b : Bool), xs = [.ref a, c] ∧ ExcC K C ∧ H a = some (exo a C (some dx)) ∧ H dx = some (exd dx fs) ∧ (∀ u, RelV c u → u = cv) ∧ PySem.W.kitOne K (.ref C) cv = some b ∧ Q (.bl b) H
theorem call_isX : CallR X (.builtin "isinstance") (rIsX X.K) := by
  intro pins s σ H xs us Q I r h
  obtain ⟨a, C, dx, fs, c, cv, b, rfl, T, ha, hd, hcv, e, q⟩ := h
  cases r with
  | cons rx rr =>
    cases rr with
    | cons rt rr =>
      cases rr
      cases rx
      obtain rfl := hcv _ rt
      obtain ⟨ox, od, _, J, _⟩ := inst_at I.hok ha hd
      exact PySem.W.kia_one (kit_inst T) I.kIn ⟨ox, _, J⟩ e (fun z => nomatch z) fun tk => ⟨.bl b, H, I.kept (t' := tk) fun _ _ z => z, rfl, q⟩
def wIsiX (K : PySem.W.Frag) : WA := fun ds P => match ds with
  | [.exc C _ _, .cls c] => ∃ b, ExcC K C ∧ PySem.W.kitOne K (.ref C) (.ref c) = some b ∧ P (.bl b)
  | [.exc C _ _, .ty n] => ∃ b, ExcC K C ∧ PySem.W.kitOne K (.ref C) (.type n) = some b ∧ P (.bl b)
  | _ => False
theorem bi_isiX : BiD X (.builtin "isinstance") (wIsiX X.K) := by
  intro S B O H0 H σ Γ P vs ds st r h
  match ds, r, h with
  | [.exc C ns fs, .cls c], r, h =>
    obtain ⟨v, w, rfl, r1, r2⟩ := r.two
    obtain ⟨b, T, e, p⟩ := h
    cases r2
    cases r1 with
    | exc h1 ha h2 hd rr => exact ⟨_, call_isX, fun Q k => ⟨_, _, _, _, _, _, b, rfl, T, ha, hd, fun u ru => ru, e, k _ _ H .refl (.bl b) p⟩⟩
  | [.exc C ns fs, .ty n], r, h =>
    obtain ⟨v, w, rfl, r1, r2⟩ := r.two
    obtain ⟨b, T, e, p⟩ := h
    cases r2
    cases r1 with
    | exc h1 ha h2 hd rr => exact ⟨_, call_isX, fun Q k => ⟨_, _, _, _, _, _, b, rfl, T, ha, hd, fun u ru => ru, e, k _ _ H .refl (.bl b) p⟩⟩
/-- e.f -/
theorem RepAll.look {K S M H} {n : Str} : ∀ {ns : List Str} {vs : List V} {ds : List D} {d : D}, RepAll K S M H vs ds → (ns.zip ds).lookup n = some d → ∃ v, (ns.zip vs).lookup n = some v ∧ Rep K S M H v d
  | [], _, _, _, _, h => by simp [List.lookup] at h
  | _ :: _, _, _, _, .nil, h => by simp [List.lookup] at h
  | m :: ns, _, _, d, .cons (v := v) (d := d0) hv t, h => by
    have lk : ∀ {α : Type} (z : α) (l : List (Str × α)), ((m, z) :: l).lookup n = if n = m then some z else l.lookup n := fun z l => by
      by_cases e : n = m
      · subst e
        simp [List.lookup]
      · have e' : (n == m) = false := by simpa using e
        rw [if_neg e]
        simp [List.lookup, e']
    rw [List.zip_cons_cons, lk] at h ⊢
    by_cases e : n = m
    · rw [if_pos e] at h ⊢
      cases h
      exact ⟨v, rfl, hv⟩
    · rw [if_neg e] at h ⊢
      exact t.look h
structure FldOk (K : PySem.W.Frag) (C : Addr) (n : Str) : Prop where
  c : ExcC K C
  no : PySem.W.findIn K (.ref C) n = some none
theorem pe_fld {e : Expr} {te : TE} {n : Str} (he : PE X e te) (hb : attributeBase e n X.env (eval e X.env) = eval e X.env := by rfl) :
    PE X (.Attribute e n pos) (fun σ H Q => te σ H fun x H1 => ∃ (a C dx : Addr) (fs : List (Str × V)) (v : V), x = .ref a ∧ FldOk X.K C n ∧ H1 a = some (exo a C (some dx)) ∧ H1 dx = some (exd dx fs) ∧ fs.lookup n = some v ∧ Q v H1) := by
  refine ⟨fun pins s σ H Q I h => ?_⟩
  refine attr_of hb (thn (he.run pins s σ H _ I h) fun u s1 ⟨x, H1, I1, rx, a, C, dx, fs, v, ex, T, ha, hd, l, q⟩ => ?_)
  subst ex
  obtain rfl : u = Value.ref a := rx
  obtain ⟨ox, od, mA, J, hl, rel⟩ := inst_at I1.hok ha hd
  obtain ⟨u, hu, ru⟩ := RelO.some_of (v := v) (o := mA n) (by rw [← l]; exact rel n)
  exact HandSPX.exc_get I1.kIn J T.c.hg T.c.hk T.c.hs (PySem.W.findObj_own T.c.hd T.no rfl (by rw [hl, hu])) (handed_of ru) ⟨v, H1, I1.tok _, ru, q⟩
theorem ex_fld {e : Expr} {n : Str} (h : EX X e Γ fun d => ∃ C ns ds y, d = .exc C ns ds ∧ FldOk X.K C n ∧ (List.zip ns ds).lookup n = some y ∧ P y) (hb : attributeBase e n X.env (eval e X.env) = eval e X.env := by rfl) : EX X (.Attribute e n pos) Γ P :=
  ex_of (pe_fld pe_sem hb) fun S B O H0 H σ st Q k => h S B O H0 H σ st _ fun v d H1 e1 r1 ⟨C, ns, ds, y, ed, T, l, p⟩ => by
    subst ed
    cases r1 with
    | exc h1 ha h2 hd rr =>
      obtain ⟨z, hz, rz⟩ := rr.look l
      exact ⟨_, C, _, _, z, rfl, T, ha, hd, hz, k z y H1 e1 rz p⟩

/-! ### making one -/
/-- C's own __init__: told data ds, the instance gets the fields ns with the data rs -/
def spInit (K : PySem.W.Frag) (C : Addr) (n : Nat) (ns : List Str) (R : List D → List D → Prop) : Sp := fun vs H Q _ => vs.length = n + 1 ∧ ∃ (S : Sr) (B : List Addr) (a : Addr) (ws : List V) (ds rs : List D), vs = .ref a :: ws ∧ H a = some (exo a C none) ∧ a ∈ B ∧ a ≠ S.a ∧ S.a ∈ B ∧ Live S H ∧ (∀ m ∈ B, ∃ o, H m = some o) ∧
  RepAll K S B H ws ds ∧ R ds rs ∧ ∀ (dx : Addr) (ys : List V) (H' : Hp), (∀ b o, b ≠ S.a → b ≠ a → H b = some o → H' b = some o) → (SrcOk K S H → SrcOk K S H') → Live S H' → H dx = none → H' a = some (exo a C (some dx)) → H' dx = some (exd dx (ns.zip ys)) → RepAll K S B H' ys rs → Q .non H'
theorem run_make {pins : List (Addr × Obj)} {σ : L2.St} {H : Hp} {s : Shared} {Q : VK} {us : List Value} {ws : List V} {k : Nat} {fI : Addr} {fd : FuncData} {ps : List Str} {sp : Sp} (T : ExK X.K C) (iC : PySem.W.findIn X.K (.ref C) "__init__" = some (some (.ref fI))) (tI : PySem.W.typeIn X.K (.ref fI) = some (.type "function"))
    (F1 : FnOk X.prog X.w X.K X.mg X.base CX0 k fI fd ps sp) (hr : Room (k + 1) X.A) (hb : Binds X.K fd ps []) (I : Inv X pins σ H s) (r : Vals ws us) (hz : ws.length ≤ 1000)
    (h : ∀ a, H a = none → sp (.ref a :: ws) (upd H a (exo a C none)) (fun v H2 => v = .non ∧ Q (.ref a) H2) (fun _ _ _ => False)) : wpAny (model X.prog X.w) X.A (call (.ref C) us) (EP X pins σ Q) X.xe s := by
  obtain ⟨B, newId, initId, bmB, F, SF, q1, q2⟩ := T.base
  obtain ⟨hp, g, dr, tk, os⟩ := s
  obtain ⟨nm, N', qn, bs, bm, hdct, sn, sub, ab, col, dd, k0, k1, k2, k3, k5, hC, hT⟩ := PySem.W.excInit_of I.kIn q1
  have hsz : hp.objs.size ≤ hp.objs.size + 1 := Nat.le_succ _
  have hn : H (hp.objs.size + 1) = none := I.hok.fresh hsz
  have hq := h (hp.objs.size + 1) hn
  have keeps : ∀ b o, hp.get? b = some o → ((hp.push (PySem.W.kdv_tup us)).push (PySem.HandSPX.excO C hp.objs.size)).get? b = some o := fun b o e => Heap.get?_push_of_some _ (Heap.get?_push_of_some _ e)
  have new : ((hp.push (PySem.W.kdv_tup us)).push (PySem.HandSPX.excO C hp.objs.size)).get? (hp.objs.size + 1) = some (PySem.HandSPX.excO C hp.objs.size) := by heap_get
  have I2 : Inv X pins σ (upd H (hp.objs.size + 1) (exo (hp.objs.size + 1) C none)) ⟨(hp.push (PySem.W.kdv_tup us)).push (PySem.HandSPX.excO C hp.objs.size), g, dr, tk, os⟩ := I.laid (t' := tk) (a := hp.objs.size + 1) (o := exo (hp.objs.size + 1) C none) keeps hsz (exo_ok new)
  have r2 : Vals (V.ref (hp.objs.size + 1) :: ws) (Value.ref (hp.objs.size + 1) :: us) := .cons rfl r
  have hl : (Value.ref (hp.objs.size + 1) :: us ++ []).length = ps.length := by
    rw [List.append_nil, ← F1.len _ _ _ _ hq]
    exact r2.length.symm
  have hus : us.length ≤ sizeLine := by
    rw [← Paired.length r, sizeLine_eq]
    omega
  have bnd := hb _ (Value.ref (hp.objs.size + 1) :: us) I2.kIn hl
  rw [List.append_nil] at bnd
  refine wpAny_call (PySem.HandSPX.call_own F hT hC (PySem.W.looks_findIn I.kIn iC) (fun self => PySem.W.bind_fn I.kIn self tI) hus (codeAny_mono (F1.run _ X.stack _ _ ⟨Value.ref (hp.objs.size + 1) :: us, []⟩ _ _ _ (fun _ _ _ => False) (hr.make C us []) (I2.env0.make C us []) bnd r2 hq) fun r s' hq' => ?_))
  cases r with
  | error er => exact pass0 pins σ _ _ er s' I2 hq'
  | ok fl =>
    cases fl with
    | ret u =>
      obtain ⟨v, H2, os2, bare2, un2, hok2, rv, ev, q⟩ := hq'
      subst ev
      exact ⟨rv, .ref (hp.objs.size + 1), H2, I2.call' (ch := []) os2 un2 hok2 bare2 (fun b z => absurd z (by simp)), rfl, q⟩
    | next => exact False.elim hq'
    | brk => exact False.elim hq'
    | cont => exact False.elim hq'
structure MkOk (X : Cx) (x : Str) (C : Addr) (n : Nat) (ns : List Str) (R : List D → List D → Prop) : Prop where
  ex : ∃ (k : Nat) (fI : Addr) (fd : FuncData) (ps : List Str), ExK X.K C ∧ PySem.W.findIn X.K (.ref C) "__init__" = some (some (.ref fI)) ∧ PySem.W.typeIn X.K (.ref fI) = some (.type "function") ∧ FnOk X.prog X.w X.K X.mg X.base CX0 k fI fd ps (spInit X.K C n ns R) ∧ Room (k + 1) X.A ∧ Binds X.K fd ps [] ∧ X.mg x = some (.ref C) ∧ n ≤ 900
theorem made {S B O H0 H σ n ns R vs ds rs Q} (st : StOk X.K S B O H0 H σ Γ) (r : RepAll X.K S (B ++ O) H vs ds) (hl : ds.length = n) (hR : R ds rs) (p : P (.exc C ns rs)) (k : KE X.K S (B ++ O) H P Q) :
    ∀ a, H a = none → spInit X.K C n ns R (.ref a :: vs) (upd H a (exo a C none)) (fun v H2 => v = .non ∧ Q (.ref a) H2) (fun _ _ _ => False) := fun a ha => by
  have ea : Ext X.K S H (upd H a (exo a C none)) := .new ha
  refine ⟨by rw [List.length_cons, r.length, hl], S, a :: (B ++ O), a, vs, ds, rs, rfl, upd_same, List.mem_cons_self, (let ⟨⟨o, e⟩, _⟩ := st.live; Ne.symm (ne_of_none e ha)), List.mem_cons_of_mem _ st.m, ea.live st.live, fun m hm => (List.mem_cons.mp hm).elim (fun e => by subst e; exact ⟨_, upd_same⟩) fun q => (st.to ea).bo m q,
    (r.more (M' := a :: (B ++ O)) (fun x hx n => (List.mem_cons.mp hx).elim (fun e => e ▸ ha) fun q => absurd q n) (List.mem_cons_of_mem _)).ext ea st.live (List.mem_cons_of_mem _ st.m), hR, fun dx ys H' keep src live hd h1 h2 rr => ⟨rfl, ?_⟩⟩
  have ne : dx ≠ a := fun e => by rw [e, upd_same] at hd; cases hd
  rw [upd_ne ne] at hd
  exact k _ _ H' ⟨fun b o n1 h => keep b o n1 (ne_of_none h ha) (by rw [upd_ne (ne_of_none h ha)]; exact h), fun l s => src (ea.src l s), fun _ => live⟩ (.exc (st.free ha) h1 (st.free hd) h2 (rr.less (fun _ => List.mem_cons_of_mem _) st.m)) p
theorem ex_make {x : Str} {n : Nat} {ns : List Str} {R : List D → List D → Prop} {p : Pos} {e : Expr} {es : List Expr} (c : MkOk X x C n ns R) (hg : Gl X x) (h : AX X (e :: es) Γ fun ds => ds.length = n ∧ ∃ rs, R ds rs ∧ P (.exc C ns rs)) (hdb : (x == ("__debug__" : Str)) = false := by decide)
    (he : starEach (e :: es) X.env = (false, eval e X.env) :: starEach es X.env := by rfl) (hpl : (backTo pos (starEach es X.env)).any (·.1) = false := by rfl) : EX X (.Call (.Name x p) (e :: es) [] pos) Γ P := by
  obtain ⟨k, fI, fd, ps, T, iC, tI, F1, hr, hb, hm, hn⟩ := c.ex
  refine ex_of (t := fun σ H Q => semA X (e :: es) σ H fun ws H1 => ws.length ≤ 1000 ∧ ∀ a, H1 a = none → spInit X.K C n ns R (.ref a :: ws) (upd H1 a (exo a C none)) (fun v H2 => v = .non ∧ Q (.ref a) H2) (fun _ _ _ => False))
    ⟨fun pins s σ H Q I q => wpAny_Call_Name_kw (ld_glob I hg hm (PySem.W.callWith_K (h₀ := X.base) I.ok.mod.kin T.kC (thn (pa_sem.run pos pins s σ H _ I q) fun us s1 ⟨vs, H1, I1, r, hz, q1⟩ => ⟨I1.kIn, run_make T iC tI F1 hr hb I1 r hz q1⟩) he hpl) hdb)⟩
    fun S B O H0 H σ st Q kk => h S B O H0 H σ st _ fun vs ds H1 e1 r1 ⟨hl, rs, hR, p⟩ => ⟨by rw [r1.length, hl]; omega, made (st.to e1) r1 hl hR p (kk.to e1)⟩
theorem ex_make0 {x : Str} {ns : List Str} {R : List D → List D → Prop} {p : Pos} (c : MkOk X x C 0 ns R) (hg : Gl X x) (h : ∃ rs, R [] rs ∧ P (.exc C ns rs)) (hdb : (x == ("__debug__" : Str)) = false := by decide) : EX X (.Call (.Name x p) [] [] pos) Γ P := by
  obtain ⟨k, fI, fd, ps, T, iC, tI, F1, hr, hb, hm, hn⟩ := c.ex
  obtain ⟨rs, hR, p⟩ := h
  refine ex_of (t := fun σ H Q => ∀ a, H a = none → spInit X.K C 0 ns R [.ref a] (upd H a (exo a C none)) (fun v H2 => v = .non ∧ Q (.ref a) H2) (fun _ _ _ => False))
    ⟨fun pins s σ H Q I q => wpAny_Call_Name_kw (ld_glob I hg hm (PySem.W.callWith_K0 I.kIn T.kC (run_make (us := []) T iC tI F1 hr hb I .nil (by simp) q)) hdb)⟩
    fun S B O H0 H σ st Q kk => made st .nil rfl hR p kk
end
end G
set_option Elab.async false
set_option linter.all false
set_option maxRecDepth 100000
set_option maxHeartbeats 4000000
namespace G
open PySem PySem.Spec PyProof.Rows L2
section
variable {X : Cx} {Γ : List E} {P : D → Prop} {pos : Pos} {po : Po}
/-- f() -/
theorem ex_call0 {x : Str} {W : WA} {p : Pos} (c : CallOk X x W) (hg : Gl X x) (h : W [] P) (hdb : (x == ("__debug__" : Str)) = false := by decide) : EX X (.Call (.Name x p) [] [] pos) Γ P := by
  obtain ⟨k, f, fd, ps, n, W0, dvs, dds, us, F, hr, hm, hk, hb, hd, hdd, hW⟩ := c.ex
  refine ex_of (pe_call0 F hr hg hm hk hb hd pass0 hdb) fun S B O H0 H σ st Q k => ?_
  obtain ⟨h1, h2⟩ := hW _ _ h
  have r2 := hdd S (B ++ O) H
  exact ⟨by show ([] ++ dvs).length = _; rw [List.nil_append, r2.length]; exact h1, S, B ++ O, dds, P, st.m, st.live, st.bo, r2, h2, fun v d H' e r p => k v d H' e r p⟩
/-- a text in a list of texts -/
def txts : List D → Option (List Str)
  | [] => some []
  | .str z :: r => (txts r).map (z :: ·)
  | _ :: _ => none
theorem strs_map : ∀ {l : List D} {ss : List Str}, txts l = some ss → l = ss.map D.str
  | [], _, h => by cases h; rfl
  | .str z :: r, ss, h => by
    obtain ⟨t, ht, rfl⟩ := Option.map_eq_some_iff.mp h
    rw [strs_map ht]; rfl
  | .non :: _, _, h => nomatch h
  | .bl _ :: _, _, h => nomatch h
  | .int _ :: _, _, h => nomatch h
  | .ty _ :: _, _, h => nomatch h
  | .tup _ :: _, _, h => nomatch h
  | .lst _ :: _, _, h => nomatch h
  | .src :: _, _, h => nomatch h
  | .exc _ _ _ :: _, _, h => nomatch h
  | .cls _ :: _, _, h => nomatch h
def wIn : W2 := fun a b P => ∃ z l ss, a = .str z ∧ b = .lst l ∧ txts l = some ss ∧ P (.bl (decide (z ∈ ss)))
theorem o_in {z : Str} {l : List D} {ss : List Str} (e : txts l = some ss) (h : P (.bl (decide (z ∈ ss)))) : wIn (.str z) (.lst l) P := ⟨z, l, ss, rfl, rfl, e, h⟩
theorem in_strs (z : Str) : ∀ ss : List Str, inV (.str z) (ss.map V.str) = decide (z ∈ ss)
  | [] => rfl
  | s :: r => by
    have ih := in_strs z r
    unfold inV at ih ⊢
    rw [List.map_cons, List.any_cons, ih]
    have : eqV (V.str s) (V.str z) = decide (z = s) := by
      by_cases h : z = s
      · subst h; simp [eqV]
      · have h' : ¬ s = z := fun e => h e.symm
        simp [eqV, h, h']
    rw [this]
    simp
theorem flat_strs : ∀ ss : List Str, (ss.map V.str).all flatV = true
  | [] => rfl
  | _ :: r => by rw [List.map_cons, List.all_cons, flat_strs r]; rfl
theorem od_in : OpD X (compareOp .In) wIn := by
  intro S B O H0 H σ Γ P x y a b st r1 r2 ⟨z, l, ss, ea, eb, e, h⟩
  subst ea eb
  cases strs_map e
  cases r1
  cases r2 with
  | @lst a vs _ ha ra =>
    cases ra.strs
    exact ⟨_, op_in_seq, fun Q k => ⟨a, _, rfl, .inl ha.sq, rfl, flat_strs ss, by
      rw [if_neg Bool.false_ne_true, in_strs]
      exact k _ _ H .refl (.bl _) h⟩⟩
/-- equal lists of booleans -/
def wNeE : W2 := fun a b P => ∃ bs : List Bool, bs.length ≤ 1000 ∧ a = .lst (bs.map D.bl) ∧ b = .lst (bs.map D.bl) ∧ P (.bl false)
theorem dp_bls {K H} : ∀ bs : List Bool, DpAll K H (bs.map V.bl) (bs.map PyData.bool)
  | [] => .nil
  | b :: r => .cons (.bl b) (dp_bls r)
theorem eqv_bls : ∀ bs : List Bool, PyData.eqvAll (bs.map PyData.bool) (bs.map PyData.bool) = true
  | [] => rfl
  | b :: r => by
    rw [List.map_cons]
    unfold PyData.eqvAll
    rw [eqv_bls r]
    simp [PyData.eqv]
theorem lay_bls : ∀ bs : List Bool, PyData.canLayAll0 (bs.map PyData.bool) = true
  | [] => rfl
  | b :: r => by rw [List.map_cons]; unfold PyData.canLayAll0; rw [lay_bls r]; rfl
theorem dep_bls : ∀ bs : List Bool, PyData.depthAll (bs.map PyData.bool) = 0
  | [] => rfl
  | b :: r => by rw [List.map_cons]; unfold PyData.depthAll; rw [dep_bls r]; rfl
theorem shaped_bls (bs : List Bool) : SeqAt.shaped (.list (bs.map PyData.bool)) = true := by
  unfold SeqAt.shaped PyData.canLay0 PyData.depth
  rw [lay_bls, dep_bls]
  rfl
theorem od_neE (hu : X.A.units + 64 < cLine) : OpD X (compareOp .NotEq) wNeE := by
  intro S B O H0 H σ Γ P x y a b st r1 r2 ⟨bs, hl, ea, eb, h⟩
  subst ea eb
  cases r1 with
  | @lst a1 vs _ ha ra =>
    cases r2 with
    | @lst a2 ws _ hb rb =>
      cases ra.bls
      cases rb.bls
      refine ⟨_, op_neD hu, fun Q k => ⟨_, _, .lst ha.sq (dp_bls bs), .lst hb.sq (dp_bls bs), shaped_bls bs, shaped_bls bs, ?_⟩⟩
      have : PyData.eqv (.list (bs.map PyData.bool)) (.list (bs.map PyData.bool)) = true := by unfold PyData.eqv; exact eqv_bls bs
      rw [this]
      exact k _ _ H .refl (.bl _) h
/-- a target = e, any target -/
theorem s_asg {e tg : Expr} {gt : TG} {Gd : GD} {js : List Nat} (hg : PG X tg gt) (hG : TgOk X.K gt Gd js) (h : EX X e Γ fun d => Gd d Γ po.nx) (hs : swapsWithSole [tg] e pos.line X.env = pure false := by rfl) (hw : swappedStores [tg] e X.env = pure none := by rfl)
    (h1 : (assignEach [tg] X.env).map (·.2) = [assign tg X.env] := by rfl) : S1 X (.Assign [tg] e pos) Γ po :=
  fun S B O H0 H σ st Dn k => semS_of (ps_asg pe_sem hg hs hw h1) (h S B O H0 H σ st _ fun v d H1 e1 r1 p1 =>
    hG.ok S B O H0 H1 σ Γ v d _ _ (st.to e1) r1 p1 fun σ' Γ' st' p' _ => k.nx O H1 σ' Γ' st' (st.adv e1) p')
end
/-! ### an own __init__ -/
/-- self.f = e -/
def tSet (K : PySem.W.Frag) (f : Str) (to te : TE) : TS := fun Dn σ H => te σ H fun y H1 => to σ H1 fun x H2 => ∃ a C : Addr, x = .ref a ∧ ExK K C ∧ PySem.W.findIn K (.ref C) f = some none ∧
  ((H2 a = some (exo a C none) ∧ ∀ dx, H2 dx = none → dx ≠ a → Dn.nx σ (upd (upd H2 dx (exd dx [(f, y)])) a (exo a C (some dx)))) ∨
    ∃ (dx : Addr) (fs : List (Str × V)), H2 a = some (exo a C (some dx)) ∧ H2 dx = some (exd dx fs) ∧ fs.length ≤ 900 ∧ Dn.nx σ (upd H2 dx (exd dx ((f, y) :: fs))))
section
variable {X : Cx} {pos : Pos}
theorem ps_set_at {o e : Expr} {to te : TE} {f : Str} {p' : Pos} (ho : PE X o to) (he : PE X e te) (hs : swapsWith e (some (.Attribute o f p')) pos.line X.env = pure false) : PS X (.Assign [.Attribute o f p'] e pos) (tSet X.K f to te) := by
  refine ⟨fun pins s σ H Dn I h => ?_⟩
  refine plainObj_wpAny_Assign_Attribute (thn (he.run pins s σ H _ I h) fun v s1 ⟨y, H1, I1, r1, q1⟩ => thn (ho.run pins s1 σ H1 _ I1 q1) fun u s2 ⟨x, H2, I2, r2, a, C, ex, T, hno, q⟩ => ?_) hs
  subst ex
  obtain rfl : u = Value.ref a := r2
  rcases q with ⟨ea, q⟩ | ⟨dx, fs, ea, ed, hl, q⟩
  · exact set_first T I2 ea hno r1 fun dx s' n ne J => ⟨σ, _, J, q dx n ne⟩
  · exact set_more T I2 ea ed hl hno r1 fun s' J => ⟨σ, _, J, q⟩
theorem src_keep {K : PySem.W.Frag} {S : Sr} {H H' : Hp} (k : ∀ b xs, H b = some (.lst xs) → H' b = some (.lst xs)) (h : SrcOk K S H) : SrcOk K S H' := by
  obtain ⟨i, c, s, t, ns, h1, h2, h3⟩ := h
  exact ⟨i, c, s, t, ns, k _ _ h1, k _ _ h2, h3⟩
theorem exo_lst {e C : Addr} {d : Option Addr} {xs : List V} : exo e C d ≠ .lst xs := fun z => by
  have z' : HO.ext _ = HO.lst xs := z
  cases z'
/-- __init__ of two rows -/
theorem init_two {C : Addr} {fld code : Str} {o1 o2 e : Expr} {p2 p3 p5 p6 p7 : Pos} {j} {R : D → Prop} {vs : List V} {H : Hp} {Q : VK} {Ex : XK} (T : ExK X.K C) (h1 : PySem.W.findIn X.K (.ref C) fld = some none) (h2 : PySem.W.findIn X.K (.ref C) "code" = some none)
    (he : ∀ d, R d → EX X e [.no, .is d] fun d' => d' = d) (ho1 : PE X o1 (tVar 0)) (ho2 : PE X o2 (tVar 0)) (hs1 : swapsWith e (some (.Attribute o1 fld p2)) p3.line X.env = pure false) (hs2 : swapsWith (.Constant (.str code) j p6) (some (.Attribute o2 "code" p5)) p7.line X.env = pure false)
    (hs : spInit X.K C 1 ["code", fld] (fun ds rs => ∃ d, ds = [d] ∧ R d ∧ rs = [.str code, d]) vs H Q Ex) :
    ∃ t, PSs X [.Assign [.Attribute o1 fld p2] e p3, .Assign [.Attribute o2 "code" p5] (.Constant (.str code) j p6) p7] t ∧ t { nx := fun _ H' => Q .non H', rt := Q } (L2.start ["self", fld] vs) H := by
  obtain ⟨hl, S, B, a, ws, ds, rs, rfl, ha, mB, hS, mS, lv, hB, rr, ⟨d, rfl, hR, rfl⟩, q⟩ := hs
  obtain ⟨v, rfl, r1⟩ := rr.one
  have st : StOk X.K S B [] H H [some (.ref a), some v] [.no, .is d] := {
    len := rfl
    ent := fun i g hg => by
      match i, hg with
      | 0, hg => cases hg; exact ⟨_, rfl, trivial⟩
      | 1, hg => cases hg; exact ⟨_, rfl, v, rfl, by rw [List.append_nil]; exact r1⟩
      | _ + 2, hg => exact absurd hg (by simp)
    ext := .refl
    live0 := lv
    mem := mS
    bl := hB
    nd := List.nodup_nil
    out := fun _ h => absurd h (by simp)
    new := fun _ h => absurd h (by simp)
    liv := fun _ h => absurd h (by simp) }
  refine ⟨_, pss_cons (ps_set_at ho1 pe_sem hs1) (pss_one (ps_set_at ho2 pe_str hs2)), ?_⟩
  refine he d hR S B [] H H _ st _ fun v' d' H1 e1 r1' p1 => ?_
  subst p1
  have ha1 : H1 a = some (exo a C none) := e1.keep a _ hS ha
  refine ⟨.ref a, rfl, a, C, rfl, T, h1, .inl ⟨ha1, fun dx hd ne => ?_⟩⟩
  refine ⟨.ref a, rfl, a, C, rfl, T, h2, .inr ⟨dx, [(fld, v')], upd_same, (upd_ne ne).trans upd_same, by simp, ?_⟩⟩
  have hx : ∀ b o, b ≠ a → H1 b = some o → upd (upd (upd H1 dx (exd dx [(fld, v')])) a (exo a C (some dx))) dx (exd dx [("code", .str code), (fld, v')]) b = some o := fun b o n h => by
    have nd : b ≠ dx := ne_of_none h hd
    rw [upd_ne nd, upd_ne n, upd_ne nd]; exact h
  have hl : ∀ b xs, H1 b = some (.lst xs) → upd (upd (upd H1 dx (exd dx [(fld, v')])) a (exo a C (some dx))) dx (exd dx [("code", .str code), (fld, v')]) b = some (.lst xs) := fun b xs h => hx b _ (at_ne ha1 h exo_lst) h
  have lv1 := e1.live lv
  have ex : ∀ b, (∃ o, H1 b = some o) → ∃ o, upd (upd (upd H1 dx (exd dx [(fld, v')])) a (exo a C (some dx))) dx (exd dx [("code", .str code), (fld, v')]) b = some o := fun b ⟨o, h⟩ => by
    by_cases hb : b = a
    · rw [hb, upd_ne (Ne.symm ne), upd_same]; exact ⟨_, rfl⟩
    · exact ⟨o, hx b o hb h⟩
  have dn : H dx = none := by
    cases e : H dx with
    | none => rfl
    | some o =>
      by_cases hz : dx = S.a
      · obtain ⟨⟨o', h'⟩, _⟩ := lv1
        rw [← hz, hd] at h'; cases h'
      · have := e1.keep dx o hz e
        rw [hd] at this; cases this
  refine q dx [.str code, v'] _ (fun b o n1 n2 h => hx b o n2 (e1.keep b o n1 h)) (fun s => src_keep hl (e1.src lv s)) ⟨ex _ lv1.1, ex _ lv1.2.1, lv1.2.2⟩ dn ?_ upd_same ?_
  · rw [upd_ne (Ne.symm ne), upd_same]
  · rw [List.append_nil] at r1'
    exact .cons (.str code) (.cons (r1'.keeps (fun b o n h => hx b o (fun z => n (z ▸ mB)) h) (src_keep hl)) .nil)
/-- __init__ of one row -/
theorem init_one {C : Addr} {code : Str} {o2 : Expr} {p5 p6 p7 : Pos} {j} {vs : List V} {H : Hp} {Q : VK} {Ex : XK} (T : ExK X.K C) (h2 : PySem.W.findIn X.K (.ref C) "code" = some none) (ho2 : PE X o2 (tVar 0))
    (hs2 : swapsWith (.Constant (.str code) j p6) (some (.Attribute o2 "code" p5)) p7.line X.env = pure false) (hs : spInit X.K C 0 ["code"] (fun ds rs => ds = [] ∧ rs = [.str code]) vs H Q Ex) :
    ∃ t, PSs X [.Assign [.Attribute o2 "code" p5] (.Constant (.str code) j p6) p7] t ∧ t { nx := fun _ H' => Q .non H', rt := Q } (L2.start ["self"] vs) H := by
  obtain ⟨hl, S, B, a, ws, ds, rs, rfl, ha, mB, hS, mS, lv, hB, rr, ⟨rfl, rfl⟩, q⟩ := hs
  cases rr
  refine ⟨_, pss_one (ps_set_at ho2 pe_str hs2), ?_⟩
  refine ⟨.ref a, rfl, a, C, rfl, T, h2, .inl ⟨ha, fun dx hd ne => ?_⟩⟩
  have hx : ∀ b o, b ≠ a → H b = some o → upd (upd H dx (exd dx [("code", .str code)])) a (exo a C (some dx)) b = some o := fun b o n h => by
    rw [upd_ne n, upd_ne (ne_of_none h hd)]; exact h
  have hl : ∀ b xs, H b = some (.lst xs) → upd (upd H dx (exd dx [("code", .str code)])) a (exo a C (some dx)) b = some (.lst xs) := fun b xs h => hx b _ (at_ne ha h exo_lst) h
  have ex : ∀ b, (∃ o, H b = some o) → ∃ o, upd (upd H dx (exd dx [("code", .str code)])) a (exo a C (some dx)) b = some o := fun b ⟨o, h⟩ => by
    by_cases hb : b = a
    · rw [hb, upd_same]; exact ⟨_, rfl⟩
    · exact ⟨o, hx b o hb h⟩
  refine q dx [.str code] _ (fun b o n1 n2 h => hx b o n2 h) (src_keep hl) ⟨ex _ lv.1, ex _ lv.2.1, lv.2.2⟩ hd upd_same ?_ (.cons (.str code) .nil)
  rw [upd_ne ne, upd_same]
  rfl
end
end G
set_option Elab.async false
set_option linter.all false
set_option maxRecDepth 100000
set_option maxHeartbeats 4000000
namespace G
open PySem PySem.Spec PyProof.Rows L2
/-! ### lists of a def's own: begun, grown, asked, given back -/
def isOwn : E → Bool
  | .own _ _ => true
  | _ => false
/-- no name but the i-th holds a list of the def's own -/
def lone (Γ : List E) (i : Nat) : Bool := (put Γ i .no).all fun g => !isOwn g
theorem lone_at {Γ : List E} {i j : Nat} {k : Nat} {ds : List D} (h : lone Γ i = true) (hg : Γ[j]? = some (.own k ds)) : j = i := by
  by_cases e : j = i
  · exact e
  · exfalso
    have h' := List.all_eq_true.mp h (.own k ds) (by
      rw [put_eq]
      refine List.mem_of_getElem? (i := j) ?_
      rw [List.getElem?_set_ne (Ne.symm e)]
      exact hg)
    exact Bool.noConfusion h'
theorem Rep.mutp {K : PySem.W.Frag} {S : Sr} {M : List Addr} {H : Hp} {p : Addr} {o : HO} (hm : p ∈ M) (h1 : S.a ≠ p) (h2 : S.l ≠ p) {v : V} {d : D} (r : Rep K S M H v d) : Rep K S M (upd H p o) v d := by
  have q := RepAll.mutp (o := o) hm h1 h2 (.cons r .nil)
  cases q with
  | cons r _ => exact r
section
variable {X : Cx} {Γ : List E} {pos : Pos} {po : Po} {K : PySem.W.Frag} {S : Sr} {B O : List Addr} {H0 H : Hp} {σ : L2.St}
theorem StOk.ne_l (st : StOk K S B O H0 H σ Γ) {m : Addr} (h : m ∈ O) : m ≠ S.l := fun e => by
  obtain ⟨_, ⟨o, ho⟩, _⟩ := st.live0
  rw [← e, st.new m h] at ho
  cases ho
/-- the i-th name's own list becomes another -/
theorem StOk.rewrite (st : StOk K S B O H0 H σ Γ) {i k : Nat} {es : List D} {m : Addr} {ws : List V} (hi : i < Γ.length) (hl : lone Γ i = true) (hk : O[k]? = some m) (hs : σ[i]? = some (some (.ref m))) (r : RepAll K S (B ++ O) (upd H m (.lst ws)) ws es) :
    StOk K S B O H0 (upd H m (.lst ws)) σ (put Γ i (.own k es)) := by
  have mO := List.mem_of_getElem? hk
  have n1 : S.a ≠ m := (st.ne mO).symm
  have n2 : S.l ≠ m := (st.ne_l mO).symm
  exact {
    len := by rw [put_eq, List.length_set]; exact st.len
    ent := fun j g hg => by
      rw [put_eq] at hg
      by_cases e : i = j
      · subst e
        rw [List.getElem?_set_self hi] at hg
        cases hg
        exact ⟨_, hs, m, ws, rfl, hk, upd_same, r⟩
      · rw [List.getElem?_set_ne e] at hg
        obtain ⟨x, hx, o⟩ := st.ent j g hg
        refine ⟨x, hx, ?_⟩
        cases g with
        | no => trivial
        | is d =>
          obtain ⟨v, e1, r⟩ := o
          exact ⟨v, e1, r.mutp (List.mem_append_right _ mO) n1 n2⟩
        | own k' ds' => exact absurd (lone_at hl hg).symm e
    ext := st.ext.mut st.live0 (st.new m mO)
    live0 := st.live0
    mem := st.mem
    bl := st.bl
    nd := st.nd
    out := st.out
    new := st.new
    liv := fun m' hm' => by
      by_cases e : m' = m
      · rw [e]; exact ⟨_, upd_same⟩
      · obtain ⟨xs, h⟩ := st.liv m' hm'
        exact ⟨xs, by rw [upd_ne e]; exact h⟩ }
theorem StOk.advw (st : StOk K S B O H0 H σ Γ) {m : Addr} {o : HO} (mO : m ∈ O) : Adv K S B O H O (upd H m o) where
  src := fun ⟨i, c, s, t, ns, h1, h2, h3⟩ => ⟨i, c, s, t, ns, by rw [upd_ne (st.ne mO).symm]; exact h1, by rw [upd_ne (st.ne_l mO).symm]; exact h2, h3⟩
  keep := fun b o n h => by
    have ne : b ≠ m := fun e => n (List.mem_append_right _ (e ▸ mO))
    rw [upd_ne ne]; exact h
  new := fun m a b => absurd a b
  out := st.out
theorem append_ps {x : V} {l : Addr} {xs : List V} {y : V} {Q : VK} {H : Hp} (ex : x = .ref l) (h : H l = some (.lst xs)) (hz : xs.length < sizeLine) (q : Q .non (upd H l (.lst (xs ++ [y])))) : rAppend x [y] H Q := ⟨l, xs, y, ex, rfl, h, hz, q⟩
/-- x.append(e) -/
theorem s_append (i : Nat) {N : List Str} {x : Str} {e : Expr} {k : Nat} {ds : List D} {p apos cpos : Pos} (hX : X.N = N) (hN : nth N i = some x) (hΓ : nth Γ i = some (.own k ds)) (hv : Vis X.env.scope x) (hl : lone Γ i = true) (hlen : ds.length < 100000)
    (h : EX X e Γ fun d => po.nx (put Γ i (.own k (ds ++ [d])))) (hd : (x == ("__debug__" : Str)) = false := by decide) (hcd : (x == ("__classdict__" : Str)) = false := by decide)
    (hbase : attributeBase (.Name x p) "append" X.env (eval (.Name x p) X.env) = eval (.Name x p) X.env := by rfl)
    (hfew : ((backTo cpos (starEach (e :: []) X.env)).all (fun x => !x.1) && (backToKw cpos (keywordEach [] X.env)).all (fun x => x.1.isSome)
      && decide ((e :: []).length + ([] : List Keyword).length + (if ([] : List Keyword).isEmpty then 0 else 1) < 30)) = true := by rfl)
    (hline : (apos.endLine == cpos.line) = true := by rfl) (hs : starEach (e :: []) X.env = (false, eval e X.env) :: starEach [] X.env := by rfl) (hplain : (backTo cpos (starEach [] X.env)).any (·.1) = false := by rfl)
    (hsw : swapsWith (.Call (.Attribute (.Name x p) "append" apos) [e] [] cpos) none pos.line X.env = pure false := by rfl) :
    S1 X (.Expr (.Call (.Attribute (.Name x p) "append" apos) [e] [] cpos) pos) Γ po := by
  rw [nth_eq] at hN hΓ
  intro S B O H0 H σ st Dn kk
  refine semS_of (ps_expr (pe_bm PySem.F.plainAttrs_list PySem.F.slot_list_append PySem.F.type_list_append mt_append (pe_var (i := i) (by rw [hX]; exact hN) hv hd hcd) (pa_cons pe_sem pa_nil hs) hbase hfew hline hs hplain) hsw) ?_
  obtain ⟨y, hy, m, vs, rfl, hk, hm, rr⟩ := st.ent i _ hΓ
  have mO := List.mem_of_getElem? hk
  refine ⟨.ref m, hy, .inl ⟨rfl, _, SqL.of hm⟩, ?_⟩
  refine h S B O H0 H σ st _ fun v d H1 e1 r1 p1 => ?_
  have st1 := st.to e1
  have hm1 : H1 m = some (.lst vs) := e1.keep _ _ (st.ne mO) hm
  have rr1 := rr.ext e1 st.live st.m
  have n1 : S.a ≠ m := (st.ne mO).symm
  have n2 : S.l ≠ m := (st.ne_l mO).symm
  have hi : i < Γ.length := (List.getElem?_eq_some_iff.mp hΓ).1
  have hmM : m ∈ B ++ O := List.mem_append_right _ mO
  have ap : RepAll X.K S (B ++ O) (upd H1 m (.lst (vs ++ [v]))) (vs ++ [v]) (ds ++ [d]) := (rr1.append (.cons r1 .nil)).mutp hmM n1 n2
  unfold tNil
  refine append_ps rfl hm1 (by rw [rr.length]; exact Nat.lt_of_lt_of_le hlen (by decide)) ?_
  exact kk.nx O _ σ _ (st1.rewrite hi hl hk hy ap) ((st.adv e1).trans (st1.advw mO)) p1
/-- x = [] -/
theorem s_setNil (i : Nat) {N : List Str} {x : Str} {p' lp : Pos} (hX : X.N = N) (hnd : N.Nodup) (hN : nth N i = some x) (hx : Loc X.env.scope x) (h : ∀ k, po.nx (put Γ i (.own k [])))
    (hs : swapsWith (.List [] lp) (some (.Name x p')) pos.line X.env = pure false := by rfl) (hf : X.fn x = true ∨ X.env.scope.names.lookup x = some .local := by first | exact .inl rfl | exact .inr rfl | assumption) : S1 X (.Assign [.Name x p'] (.List [] lp) pos) Γ po := by
  rw [nth_eq] at hN
  intro S B O H0 H σ st Dn kk
  refine semS_of (ps_set (i := i) (by rw [hX]; exact hnd) (by rw [hX]; exact hN) hx (pe_lst pa_nil) hs hf) ?_
  refine ⟨small (n := 0) (by decide), fun m nm => ?_⟩
  have e : Ext X.K S H (upd H m (.lst [])) := .new nm
  have st1 := st.with nm e (xs := []) upd_same
  refine kk.nx (O ++ [m]) _ _ _ ?_ ?_ (h O.length)
  · have st2 := st1.no i (some (.ref m))
    have hlen := st.len
    exact { st2 with
      len := by rw [put_eq, List.length_set, List.length_set]; exact hlen
      ent := fun j g hg => by
        rw [put_eq] at hg
        by_cases ej : i = j
        · subst ej
          have hi : i < Γ.length := by
            have := (List.getElem?_eq_some_iff.mp hg).1
            rwa [List.length_set] at this
          rw [List.getElem?_set_self hi] at hg
          cases hg
          exact ⟨_, by rw [List.getElem?_set_self (by rw [hlen]; exact hi)], m, [], rfl, by simp, upd_same, .nil⟩
        · rw [List.getElem?_set_ne ej] at hg
          obtain ⟨x, hx, o⟩ := st1.ent j g hg
          exact ⟨x, by rw [List.getElem?_set_ne ej]; exact hx, o⟩ }
  · have a := st.adv e
    exact ⟨a.src, a.keep, fun x hx n => (List.mem_append.mp hx).elim (fun q => absurd q n) fun q => by
      have : x = m := by simpa using q
      rw [this]; exact nm, st1.out⟩
/-- return x, x a list of its own -/
theorem s_retOwn (i : Nat) {N : List Str} {x : Str} {k : Nat} {ds : List D} {p : Pos} (hX : X.N = N) (hN : nth N i = some x) (hΓ : nth Γ i = some (.own k ds)) (hv : Vis X.env.scope x) (h : po.rt (.lst ds)) (hc : (Γ.all fun g => match g with | .own _ _ => true | _ => true) = true := by rfl)
    (hd : (x == ("__debug__" : Str)) = false := by decide) (hcd : (x == ("__classdict__" : Str)) = false := by decide) : S1 X (.Return (some (.Name x p)) pos) Γ po := by
  rw [nth_eq] at hN hΓ
  intro S B O H0 H σ st Dn kk
  refine semS_of (ps_ret (pe_var (i := i) (by rw [hX]; exact hN) hv hd hcd)) ?_
  obtain ⟨y, hy, m, vs, rfl, hk, hm, rr⟩ := st.ent i _ hΓ
  have mO := List.mem_of_getElem? hk
  exact ⟨.ref m, hy, kk.rt _ _ H st.ext (.lst (.inl ⟨st.out m mO, .inl hm⟩) (rr.less (fun _ => List.mem_append_left _) st.mem)) h⟩
end
end G
set_option Elab.async false
set_option linter.all false
set_option maxRecDepth 100000
set_option maxHeartbeats 4000000
namespace G
open PySem PySem.Spec PyProof.Rows L2
section
variable {X : Cx} {Γ : List E} {P : D → Prop} {pos : Pos} {po : Po}
/-! ### enumerate, a def that a name holds, a text in a list of one's own -/
def enumD (l : List D) : List D := l.mapIdx fun i d => .tup [.int (i : Int), d]
theorem enumD_len (l : List D) : (enumD l).length = l.length := by simp [enumD]
theorem enumD_get {l : List D} {i : Nat} {d : D} (h : l[i]? = some d) : (enumD l)[i]? = some (.tup [.int (i : Int), d]) := by
  unfold enumD
  rw [List.getElem?_mapIdx, h]
  rfl
theorem enumD_at {l : List D} {i : Nat} {d : D} (h : (enumD l)[i]? = some d) : ∃ x, l[i]? = some x ∧ d = .tup [.int (i : Int), x] := by
  unfold enumD at h
  rw [List.getElem?_mapIdx] at h
  obtain ⟨x, hx, e⟩ := Option.map_eq_some_iff.mp h
  exact ⟨x, hx, e.symm⟩
theorem wx_enum {elts : List Expr} {kk : Nat} {tpos p pr : Pos} {e : Expr} {P : List D → Prop} (hm : X.mg "enumerate" = none) (hg : Gl X "enumerate") (h : AX X [e] Γ fun ds => ∃ l, ds = [.lst l] ∧ P (enumD l)) (hs : starEach [e] X.env = [(false, eval e X.env)] := by rfl) :
    WX X (.Tuple elts kk tpos) (.Call (.Name "enumerate" p) [e] [] pr) Γ P :=
  fun S B O H0 H σ st R k => semI_of (pi_enum hg hm pa_sem hs) (h S B O H0 H σ st _ fun vs ds H1 e1 r1 p1 => by
    obtain ⟨l, rfl, p⟩ := p1
    obtain ⟨v, rfl, q1⟩ := r1.one
    cases q1 with
    | @lst a xs _ ha ra =>
    refine ⟨a, xs, rfl, ha.sq, k _ H1 (enumD l) e1 ⟨fun i H kp hi => ?_, fun H kp => ⟨xs, (ha.keeps kp).sq, by rw [enumD_len, ra.length]; exact Nat.le_refl _⟩, fun i H x H' kp hi y => ?_⟩ p⟩
    · rw [enumD_len] at hi
      have i1 : i < xs.length := by rw [ra.length]; exact hi
      exact ⟨xs, xs[i], (ha.keeps kp).sq, List.getElem?_eq_getElem _⟩
    · obtain ⟨T, x1, rfl, nT, rfl, f1⟩ := y
      obtain ⟨d, h1, h2⟩ := ra.getV (f1 xs (ha.keeps kp).sq)
      exact ⟨_, enumD_get h1, .inr ⟨T, [.int (i : Nat), x1], [.int (i : Int), d], rfl, rfl, nT, rfl, .cons (.int _) (.cons h2 .nil)⟩⟩)
/-- a def that keeps W, at an address -/
structure HeldOk (X : Cx) (f : Addr) (W : WA) : Prop where
  ex : ∃ k fd ps n, FnOk X.prog X.w X.K X.mg X.base CX0 k f fd ps (spW X.K W n) ∧ Room k X.A ∧ PySem.W.keepIn X.K (.ref f) = true ∧ Binds X.K fd ps [] ∧ ∀ es P, W es P → es.length = n
/-- x(e, ..), the i-th name holding a def -/
theorem ex_callL (i : Nat) {N : List Str} {x : Str} {f : Addr} {W : WA} {p : Pos} {e : Expr} {es : List Expr} (hX : X.N = N) (hN : nth N i = some x) (hΓ : nth Γ i = some (.is (.cls f))) (hv : Vis X.env.scope x) (c : HeldOk X f W) (h : AX X (e :: es) Γ fun ds => W ds P)
    (hdb : (x == ("__debug__" : Str)) = false := by decide) (hcd : (x == ("__classdict__" : Str)) = false := by decide)
    (he : starEach (e :: es) X.env = (false, eval e X.env) :: starEach es X.env := by rfl) (hpl : (backTo pos (starEach es X.env)).any (·.1) = false := by rfl) : EX X (.Call (.Name x p) (e :: es) [] pos) Γ P := by
  obtain ⟨k, fd, ps, n, F, hr, hk, hb, hW⟩ := c.ex
  rw [nth_eq] at hN hΓ
  refine ex_of (pe_callL (i := i) F hr (by rw [hX]; exact hN) hv hk hb .nil pass0 pa_sem hdb hcd he hpl) fun S B O H0 H σ st Q k => ?_
  obtain ⟨y, hy, v, rfl, r⟩ := st.ent i _ hΓ
  cases r
  refine ⟨hy, h S B O H0 H σ st _ fun vs ds H1 e1 r1 p1 => ?_⟩
  have st1 := st.to e1
  rw [List.append_nil]
  exact ⟨by rw [r1.length]; exact hW _ _ p1, S, B ++ O, ds, P, st.m, st1.live, st1.bo, r1, p1, fun v d H' e r p => k v d H' (e1.trans e) r p⟩
/-- z in x, x a list of texts of one's own -/
theorem ex_inOwn (i : Nat) {N : List Str} {x : Str} {a : Expr} {k : Nat} {ss : List Str} {p : Pos} (hX : X.N = N) (hN : nth N i = some x) (hΓ : nth Γ i = some (.own k (ss.map D.str))) (hv : Vis X.env.scope x) (h : EX X a Γ fun d => ∃ z, d = .str z ∧ P (.bl (decide (z ∈ ss))))
    (hd : (x == ("__debug__" : Str)) = false := by decide) (hcd : (x == ("__classdict__" : Str)) = false := by decide) (hm : behindInMarks .In (.Name x p) = false := by first | exact nomark _ | rfl) : EX X (.Compare a [.In] [.Name x p] pos) Γ P := by
  rw [nth_eq] at hN hΓ
  refine ex_of (pe_cmpR op_in_seq pe_sem (pe_var (i := i) (by rw [hX]; exact hN) hv hd hcd) hm) fun S B O H0 H σ st Q kk => h S B O H0 H σ st _ fun v d H1 e1 r1 p1 => ?_
  obtain ⟨z, rfl, p1⟩ := p1
  cases r1
  obtain ⟨y, hy, m, vs, rfl, hk, hm, rr⟩ := (st.to e1).ent i _ hΓ
  cases rr.strs
  refine ⟨.ref m, hy, m, _, rfl, .inl (SqL.of hm), rfl, flat_strs ss, ?_⟩
  rw [if_neg Bool.false_ne_true, in_strs]
  exact kk _ _ H1 e1 (.bl _) p1
theorem tx_inOwn (i : Nat) {N : List Str} {x : Str} {a : Expr} {k : Nat} {ss : List Str} {p : Pos} {P : Bool → Prop} (hX : X.N = N) (hN : nth N i = some x) (hΓ : nth Γ i = some (.own k (ss.map D.str))) (hv : Vis X.env.scope x) (h : EX X a Γ fun d => ∃ z, d = .str z ∧ P (decide (z ∈ ss)))
    (hd : (x == ("__debug__" : Str)) = false := by decide) (hcd : (x == ("__classdict__" : Str)) = false := by decide) (hm : behindInMarks .In (.Name x p) = false := by first | exact nomark _ | rfl) : TX X (.Compare a [.In] [.Name x p] pos) Γ P := by
  rw [nth_eq] at hN hΓ
  refine tx_of (pt_cmpR op_in_seq pe_sem (pe_var (i := i) (by rw [hX]; exact hN) hv hd hcd) hm) fun S B O H0 H σ st Q kk => h S B O H0 H σ st _ fun v d H1 e1 r1 p1 => ?_
  obtain ⟨z, rfl, p1⟩ := p1
  cases r1
  obtain ⟨y, hy, m, vs, rfl, hk, hm, rr⟩ := (st.to e1).ent i _ hΓ
  cases rr.strs
  refine ⟨.ref m, hy, m, _, rfl, .inl (SqL.of hm), rfl, flat_strs ss, ?_⟩
  rw [if_neg Bool.false_ne_true, in_strs]
  exact ⟨_, rfl, kk _ H1 e1 p1⟩
end
end G
set_option Elab.async false
set_option linter.all false
set_option maxRecDepth 100000
set_option maxHeartbeats 4000000
namespace G
open PySem PySem.Spec PyProof.Rows L2
section
variable {X : Cx} {Γ : List E} {P : D → Prop} {pos : Pos}
/-- a.join(list of texts) -/
theorem ex_join {o e : Expr} {apos : Pos} (h : EX X o Γ fun d => ∃ a, d = .str a ∧ EX X e Γ fun d2 => ∃ ys : List Str, d2 = .lst (ys.map D.str) ∧ (ys.map (·.length)).sum + ys.length * a.length ≤ 16777216 ∧ P (.str (Txt.join a ys)))
    (hs : starEach [e] X.env = [(false, eval e X.env)] := by rfl) (hbase : attributeBase o "join" X.env (eval o X.env) = eval o X.env := by rfl) (hline : (apos.endLine == pos.line) = true := by rfl) : EX X (.Call (.Attribute o "join" apos) [e] [] pos) Γ P :=
  ex_of (pe_join pe_sem pe_sem hs hbase hline) fun S B O H0 H σ st Q k => h S B O H0 H σ st _ fun v d H1 e1 r1 p1 => by
    obtain ⟨a, rfl, p1⟩ := p1
    cases r1
    refine ⟨⟨a, rfl⟩, p1 S B O H0 H1 σ (st.to e1) _ fun v2 d2 H2 e2 r2 p2 => ?_⟩
    obtain ⟨ys, rfl, hz, p2⟩ := p2
    cases r2 with
    | @lst l vs _ ha ra =>
      cases ra.strs
      exact ⟨a, l, ys, rfl, rfl, .inl ha.sq, hz, k _ _ H2 (e1.trans e2) (.str _) p2⟩
theorem cps_app (a b : Str) : (a ++ b).cps = a.cps ++ b.cps := rfl
theorem join_chars : ∀ cs : List Nat, (Str.join "" (cs.map fun c => (⟨#[c]⟩ : Str))).cps.toList = cs
  | [] => rfl
  | [_] => rfl
  | c :: d :: r => by
    have ih := join_chars (d :: r)
    show ((⟨#[c]⟩ : Str) ++ "" ++ Str.join "" ((d :: r).map fun c => (⟨#[c]⟩ : Str))).cps.toList = _
    rw [cps_app, Array.toList_append, ih, cps_app, Array.toList_append]
    rfl
end
end G
set_option Elab.async false
set_option linter.all false
set_option maxRecDepth 100000
set_option maxHeartbeats 4000000
namespace G
open PySem PySem.Spec PyProof.Rows L2
/-! ### lists joined and repeated, texts in a tuple, slices of tuples, sum and max -/
section
variable {X : Cx}
def rCatS (K : PySem.W.Frag) : R2 := fun x y H Q => ∃ a b xs ys, x = .ref a ∧ y = .ref b ∧ SqL K H a xs ∧ SqL K H b ys ∧ xs.length + ys.length ≤ sizeLine ∧ ∀ p, H p = none → Q (.ref p) (upd H p (.lst (xs ++ ys)))
theorem op_catS : OpR X (binaryOp .Add) (rCatS X.K) := by
  intro pins s σ H x y v u Q I rx ry h
  obtain ⟨a, b, xs, ys, rfl, rfl, ha, hb, hz, q⟩ := h
  cases rx
  cases ry
  obtain ⟨its, r, p1, _⟩ := I.list ha
  obtain ⟨its2, r2, p2, _⟩ := I.list hb
  obtain ⟨⟨cls, dd, data, sl⟩, n, ho, hc, hdn, hd⟩ := p1
  obtain ⟨⟨cls2, dd2, data2, sl2⟩, n2, ho2, hc2, hdn2, hd2⟩ := p2
  simp only at hc hdn hd hc2 hdn2 hd2
  subst hc hdn hd hc2 hdn2 hd2
  have l1 := r.length
  have l2 := r2.length
  refine concat_meets ⟨_, ho, rfl⟩ ⟨_, ho2, rfl⟩ noFill_list_add seq_list_add PySem.F.slot_list_add PySem.F.entry_list_add (PySem.F.args_list_add_2 _ _) (list_addW a b its.toArray its2.toArray n n2 none none sl sl2 (by rw [List.size_toArray, List.size_toArray]; omega)) ⟨ho, ho2, ?_⟩
  have ea : its.toArray ++ its2.toArray = (its ++ its2).toArray := by simp
  rw [ea]
  exact ⟨.ref _, _, I.lnew (t' := s.toks) (r.append r2) (by rw [List.length_append]; omega), rfl, q _ I.fresh⟩
theorem int_rmul_listW (a : Int) (t : Tok) (l : Addr) (items : Array Value) (n : Nat) (dd : Option Addr) (sl : Array (Option Value)) :
    Meets (Builtin.«int.__rmul__» ⟨[.int a t, .ref l], []⟩) (fun _ R s => s.heap.get? l = some { cls := .type "list", dict := dd, data := .seq items n, slots := sl } ∧ R (.ok (.ret Value.notImplemented)) s) :=
  .of_wp fun prog w A R s h => by obtain ⟨hp, g, d, tk, os⟩ := s; obtain ⟨hl, h⟩ := h; wp_walk using wpAny_loadPart' hl; exact ⟨_, rfl, h⟩
theorem list_mulW (l : Addr) (items : Array Value) (n : Nat) (dd : Option Addr) (sl : Array (Option Value)) (x : Int) (u : Tok) (hc0 : ¬(!Builtin.List.listFitsIndex x) = true) (hc1 : ¬items.size * x.toNat > (2 ^ 63 - 1) / 8) (hc2 : ¬Builtin.List.listTooLong (items.size * x.toNat) = true) :
    Meets (Builtin.«list.__mul__» ⟨[.ref l, .int x u], []⟩) (fun _ R s => s.heap.get? l = some { cls := .type "list", dict := dd, data := .seq items n, slots := sl } ∧ R (.ok (.ret (Value.ref s.heap.objs.size))) { s with heap := s.heap.push { cls := Value.type "list", data := Data.seq (List.foldl (fun x1 x2 => x1 ++ x2) #[] (List.replicate (if items.isEmpty = true then 0 else x.toNat) items)) }, toks := s.toks }) :=
  .of_wp fun prog w A R s h => by
    obtain ⟨hp, g, d, tk, os⟩ := s; obtain ⟨hl, h⟩ := h
    have hsz := AutoListH.joined_fits hc2
    wp_walk using wpAny_loadPart' hl
    refine wpAny_ite_false (decide_eq_false (Nat.not_lt.mpr hsz)) ?_
    wp_walk using wpAny_loadPart' hl
    exact ⟨_, rfl, h⟩
def rRepS (K : PySem.W.Frag) : R2 := fun x y H Q => ∃ l k xs, x = .ref l ∧ y = .int k ∧ SqL K H l xs ∧ 0 ≤ k ∧ k ≤ 1000 ∧ xs.length ≤ 1000 ∧ ∀ p, H p = none → Q (.ref p) (upd H p (.lst (List.replicate k.toNat xs).flatten))
theorem op_repS : OpR X (binaryOp .Mult) (rRepS X.K) := by
  intro pins s σ H x y v u Q I rx ry h
  obtain ⟨l, k, xs, rfl, rfl, hL, h1, h2, hz0, q⟩ := h
  cases rx
  obtain ⟨t, rfl⟩ := ry
  obtain ⟨its, r, p1, _⟩ := I.list hL
  obtain ⟨⟨cls, dd, data, sl⟩, n, e, hc, hdn, hd⟩ := p1
  simp only at hc hdn hd
  subst hc hdn hd
  have hl := r.length
  have hz : xs.length * k.toNat ≤ sizeLine := Nat.le_trans (Nat.mul_le_mul hz0 (show k.toNat ≤ 1000 by omega)) (by decide)
  have hlen : its.toArray.size * k.toNat ≤ sizeLine := by rw [List.size_toArray, ← hl]; exact hz
  have hcap : ¬ its.toArray.size * k.toNat > (2 ^ 63 - 1) / 8 := by
    have : (sizeLine : Nat) ≤ (2 ^ 63 - 1) / 8 := by decide
    omega
  have hfit : ¬ (!Builtin.List.listFitsIndex k) = true := by
    rw [fitsIndex_both (by omega) (by omega)]
    exact Bool.false_ne_true
  have hlong : ¬ Builtin.List.listTooLong (its.toArray.size * k.toNat) = true := by
    rw [notLongL hlen]
    exact Bool.false_ne_true
  have hnew : List.foldl (fun x1 x2 => x1 ++ x2) #[] (List.replicate (if its.toArray.isEmpty = true then 0 else k.toNat) its.toArray) = (List.replicate k.toNat its).flatten.toArray := by
    have f0 : ∀ m : Nat, List.foldl (fun x1 x2 => x1 ++ x2) #[] (List.replicate m its.toArray) = (List.replicate m its).flatten.toArray := fun m => by
      have := foldl_rep its m []
      rw [List.nil_append] at this
      exact this
    rw [f0]
    cases its with
    | nil => simp
    | cons a r' => rw [if_neg (by simp)]
  refine wpAny_binaryOp_repeat_ref (T := "list") (U := "int") (by decide) ⟨_, e, rfl⟩ (fun s' => typeIs_int s' k t) noFill_list_mul F.fills_int_mul F.slot_int_rmul repeat_list F.slot_int_index.lookup
    (call_meets F.slot_int_rmul (typeIs_int s k t) F.entry_int_rmul (F.args_int_rmul_2 _ _) (int_rmul_listW k t l its.toArray n none sl)
      ⟨e, rfl, ⟨_, e, rfl⟩, call_meets F.slot_list_mul ⟨_, e, rfl⟩ F.entry_list_mul (F.args_list_mul_2 _ _) (list_mulW l its.toArray n none sl k t hfit hcap hlong) ⟨e, ?_⟩⟩)
  rw [hnew]
  exact ⟨.ref _, _, I.lnew (t' := s.toks) (r.rep k.toNat) (by rw [PyProof.Rows.lm_len_rep_flat, Nat.mul_comm]; exact hz), rfl, q _ I.fresh⟩
theorem RepAll.rep {K S M H} {vs : List V} {ds : List D} (r : RepAll K S M H vs ds) : ∀ n : Nat, RepAll K S M H (List.replicate n vs).flatten (List.replicate n ds).flatten
  | 0 => .nil
  | n + 1 => by
    rw [List.replicate_succ, List.replicate_succ, List.flatten_cons, List.flatten_cons]
    exact r.append (RepAll.rep r n)
def wCatL : W2 := fun a b P => ∃ l m, a = .lst l ∧ b = .lst m ∧ l.length + m.length ≤ sizeLine ∧ P (.lst (l ++ m))
theorem od_catL : OpD X (binaryOp .Add) wCatL := by
  intro S B O H0 H σ Γ P x y a b st r1 r2 ⟨l, m, ea, eb, hz, h⟩
  subst ea eb
  cases r1 with
  | @lst a vs _ ha ra =>
    cases r2 with
    | @lst b ws _ hb rb =>
      exact ⟨_, op_catS, fun Q k => ⟨a, b, vs, ws, rfl, rfl, ha.sq, hb.sq, by rw [ra.length, rb.length]; exact hz, fun p np => k _ _ _ (.new np) (rep_lst st (ra.append rb) np) h⟩⟩
def wRepL : W2 := fun a b P => ∃ l k, a = .lst l ∧ b = .int k ∧ 0 ≤ k ∧ k ≤ 1000 ∧ l.length ≤ 1000 ∧ P (.lst (List.replicate k.toNat l).flatten)
theorem od_repL : OpD X (binaryOp .Mult) wRepL := by
  intro S B O H0 H σ Γ P x y a b st r1 r2 ⟨l, k, ea, eb, h1, h2, hz, h⟩
  subst ea eb
  cases r1 with
  | @lst a vs _ ha ra =>
    cases r2
    exact ⟨_, op_repS, fun Q kk => ⟨a, k, vs, rfl, rfl, ha.sq, h1, h2, by rw [ra.length]; exact hz, fun p np => kk _ _ _ (.new np) (rep_lst st (ra.rep _) np) h⟩⟩
def wInT : W2 := fun a b P => ∃ z l ss, a = .str z ∧ b = .tup l ∧ txts l = some ss ∧ P (.bl (decide (z ∈ ss)))
theorem o_inT {P : D → Prop} {z : Str} {l : List D} {ss : List Str} (e : txts l = some ss) (h : P (.bl (decide (z ∈ ss)))) : wInT (.str z) (.tup l) P := ⟨z, l, ss, rfl, rfl, e, h⟩
theorem od_inT : OpD X (compareOp .In) wInT := by
  intro S B O H0 H σ Γ P x y a b st r1 r2 ⟨z, l, ss, ea, eb, e, h⟩
  subst ea eb
  cases strs_map e
  cases r1
  cases r2 with
  | @tup a vs _ ha ra =>
    cases ra.strs
    exact ⟨_, op_in_seq, fun Q k => ⟨a, _, rfl, .inr ha.sq, rfl, flat_strs ss, by
      rw [if_neg Bool.false_ne_true, in_strs]
      exact k _ _ H .refl (.bl _) h⟩⟩
def wSum : WA := fun ds P => ∃ ns : List Int, ds = [.lst (ns.map D.int)] ∧ P (.int ns.sum)
theorem bi_sum (hc : X.calm = true) : BiD X (.builtin "sum") wSum := by
  intro S B O H0 H σ Γ P vs ds st r ⟨ns, e, h⟩
  subst e
  obtain ⟨v, rfl, r1⟩ := r.one
  cases r1 with
  | @lst a vs _ ha ra =>
    cases ra.ints
    exact ⟨_, cr_sum hc, fun Q k => ⟨a, ns, rfl, ha.sq, k _ _ H .refl (.int _) h⟩⟩
def wMax : WA := fun ds P => ∃ ns : List Int, ds = [.lst (ns.map D.int)] ∧ 0 < ns.length ∧ ∀ m, m ∈ ns → (∀ y, y ∈ ns → y ≤ m) → P (.int m)
theorem bi_max (hc : X.calm = true) : BiD X (.builtin "max") wMax := by
  intro S B O H0 H σ Γ P vs ds st r ⟨ns, e, hne, h⟩
  subst e
  obtain ⟨v, rfl, r1⟩ := r.one
  cases r1 with
  | @lst a vs _ ha ra =>
    cases ra.ints
    exact ⟨_, cr_max hc, fun Q k => ⟨a, ns, rfl, ha.sq, hne, fun m h1 h2 => k _ _ H .refl (.int _) (h m h1 h2)⟩⟩
theorem bt_sum : bootBuiltins "sum" = some (.builtin "sum") := by decide +kernel
theorem bt_max : bootBuiltins "max" = some (.builtin "max") := by decide +kernel
theorem at0 {x : D} {l : List D} : atI (x :: l) 0 = some x := atI_nat (j := 0) rfl
def cutD (l : List D) (lo hi : Option Int) : List D := (l.drop (HT.sIx l.length 0 lo)).take (HT.sIx l.length l.length hi - HT.sIx l.length 0 lo)
theorem RepAll.cut {K S M H} {vs : List V} {ds : List D} (r : RepAll K S M H vs ds) (lo hi : Option Int) : RepAll K S M H (cutV vs lo hi) (cutD ds lo hi) := by
  unfold cutV cutD
  rw [r.length]
  exact (r.drop _).take _
def OL (X : Cx) (o : Option Expr) (v : Option Int) : Prop := ∃ t, PO X o t ∧ ∀ σ H Q, Q v H → t σ H Q
theorem ol_none : OL X none none := ⟨_, po_none, fun _ _ _ h => h⟩
theorem ol_lit {i : Int} {j pos} : OL X (some (.Constant (.int i) j pos)) (some i) := ⟨_, po_some pe_int, fun σ H Q h => ⟨i, rfl, h⟩⟩
theorem ex_slT {Γ : List E} {P : D → Prop} {pos p2 : Pos} {e : Expr} {lo hi : Option Expr} {vl vh : Option Int} (ol : OL X lo vl) (oh : OL X hi vh) (h : EX X e Γ (asT fun l => P (.tup (cutD l vl vh)))) : EX X (.Subscript e (.Slice lo hi none p2) pos) Γ P := by
  obtain ⟨tl, hl, ql⟩ := ol
  obtain ⟨th, hh, qh⟩ := oh
  refine ex_of (pe_slice sl_tupA pe_sem hl hh) fun S B O H0 H σ st Q k => h S B O H0 H σ st _ fun v d H1 e1 r1 p1 => ?_
  cases r1 <;> try exact p1.elim
  rename_i a vs ds ha ra
  have p1' : P (.tup (cutD ds vl vh)) := p1
  refine ql _ _ _ (qh _ _ _ ⟨a, vs, rfl, ha.sq, fun hw => ?_, fun hn p np => ?_⟩)
  · have e : cutD ds vl vh = ds := by
      unfold cutD
      rw [← ra.length, hw.1, hw.2, ra.length, List.drop_zero, Nat.sub_zero, List.take_length]
    rw [e] at p1'
    exact k _ _ H1 e1 (.tup ha ra) p1'
  · exact k _ _ _ (e1.trans (.new np)) (rep_tup (st.to e1) (ra.cut vl vh) np) p1'
end
end G
set_option Elab.async false
set_option linter.all false
set_option maxRecDepth 100000
set_option maxHeartbeats 4000000
namespace G
open PySem PySem.Spec PyProof.Rows L2
def topS (i : Nat) : Stmt := PySem.Challenge.pw_fewtell_k04_worlds_refused.main.body.getD i (.Pass ⟨0, 0, 0, 0⟩)
abbrev sSource : Stmt := topS 25
abbrev sDraw : Stmt := topS 26
theorem scSource : FnScope ["_law_script"] ["_law_script"] (defScope sSource) := ⟨rfl, rfl, rfl, by decide +kernel, rfl, by decide +kernel, by decide +kernel⟩
theorem scDraw : FnScope ["_law_src", "_law_many7", "_law_cell7", "_law_digit", "_law_seed"] ["_law_src", "_law_many7"] (defScope sDraw) := ⟨rfl, rfl, rfl, by decide +kernel, rfl, by decide +kernel, by decide +kernel⟩
def Wdraw : WA := fun ds P => ∃ n : Int, ds = [.src, .int n] ∧ 1 ≤ n ∧ n.natAbs < 2 ^ 8000 ∧ ∀ k, 0 ≤ k → k < n → P (.int k)
/-- the source's slots -/
structure Slots (K : PySem.W.Frag) (S : Sr) (H H' : Hp) (i c s t : Int) (ns : List Int) : Prop where
  at_ : H' S.a = some (.lst [.ref S.l, .int i, .int c, .int s, .int t])
  ls : H' S.l = some (.lst (ns.map V.int))
  keep : ∀ b o, b ≠ S.a → H b = some o → H' b = some o
  ne : S.l ≠ S.a
  i0 : 0 ≤ i
  c0 : 0 ≤ c
  s0 : 0 ≤ s
  s1 : s < 2147483629
  t0 : 0 ≤ t
theorem Slots.ext {K S H H' i c s t ns} (z : Slots K S H H' i c s t ns) : Ext K S H H' :=
  ⟨z.keep, fun _ _ => ⟨i, c, s, t, ns, z.at_, z.ls, z.i0, z.c0, z.s0, z.s1, z.t0⟩, fun _ => ⟨⟨_, z.at_⟩, ⟨_, z.ls⟩, z.ne⟩⟩
theorem Slots.put {K S H H' i c s t ns i' c' s' t'} (z : Slots K S H H' i c s t ns) (h1 : 0 ≤ i') (h2 : 0 ≤ c') (h3 : 0 ≤ s') (h4 : s' < 2147483629) (h5 : 0 ≤ t') :
    Slots K S H (upd H' S.a (.lst [.ref S.l, .int i', .int c', .int s', .int t'])) i' c' s' t' ns :=
  ⟨upd_same, by rw [upd_ne z.ne]; exact z.ls, fun b o n h => by rw [upd_ne n]; exact z.keep b o n h, z.ne, h1, h2, h3, h4, h5⟩
theorem dec0 {c : Int} : decide (V.int c = V.int 0) = decide (c = 0) := by
  by_cases h : c = 0
  · subst h; simp
  · rw [decide_eq_false h, decide_eq_false (fun e => h (V.int.inj e))]
section
variable {P : Program} {w : World} {K : PySem.W.Frag} {mg : Str → Option Value} {base : Heap}
theorem ok_draw {f : Addr} {fd : FuncData} {k : Nat} (F : Fun K "_law_draw" "_law_draw" sDraw f fd) (ml : mg "len" = none) (mi : mg "int" = none) : FnOk P w K mg base CX0 (k + 1) f fd ["_law_src", "_law_many7"] (spW K Wdraw 2) := by
  refine F.ok scDraw (fun vs H Q E h => h.1) (fun cdv A outer s H vs Q E hr h => ?_)
  obtain ⟨_, S, B, ds, P', hSB, hlive, hB, hrep, ⟨n, rfl, hn1, hn2, hP⟩, hQ⟩ := h
  obtain ⟨v1, v2, rfl, r1, r2⟩ := hrep.two
  cases r1 with
  | src hsrc hm =>
  cases r2
  obtain ⟨i, c, s, t, ns, hS, hL, hi, hc, hs0, hs1, ht⟩ := hsrc
  have z0 : Slots K S H H i c s t ns := ⟨hS, hL, fun _ _ _ h => h, hlive.2.2, hi, hc, hs0, hs1, ht⟩
  let cxc := scDraw.nd
  refine ⟨_, Evl.pss_cut (ps_if (PW.pt (pw_and (pt_cmpR op_eq (pe_ix ix_list (pv 0) pe_int (fun _ _ => rfl)) pe_int (nomark _)) (pw_and1 (pt_cmpR op_lt (pe_ix ix_list (pv 0) pe_int (fun _ _ => rfl)) (pe_callB call_len_seq (by rfl) ml PySem.boot_len (pa_cons (pe_ix ix_list (pv 0) pe_int (fun _ _ => rfl)) pa_nil)) (nomark _)))))
      (pss_cons (ps_set (i := 2) scDraw.nd rfl (.inl rfl) (pe_ix ix_list (pe_ix ix_list (pv 0) pe_int (fun _ _ => rfl)) (pe_ix ix_list (pv 0) pe_int (fun _ _ => rfl)) (fun _ _ => rfl)))
      (pss_cons (ps_asg (pe_op op_add (pe_ix ix_list (pv 0) pe_int (fun _ _ => rfl)) pe_int) (pg_sub (pv 0) pe_int set_list))
      (pss_one (ps_if (pt_cmpR op_ge (pv 2) (pe_op op_pow pe_int pe_int) (nomark _))
        (pss_one (ps_asg (pv 2) (pg_sub (pv 0) pe_int set_list)))
        (pss_one (ps_asg (pe_op op_mod (pe_callTy call_int1 (by rfl) mi bt_int (pa_cons (pe_op op_add (pe_op op_add (pe_op op_mul (pe_ix ix_list (pv 0) pe_int (fun _ _ => rfl)) pe_int) (pe_op op_mul (pe_op op_mod (pe_callTy call_int1 (by rfl) mi bt_int (pa_cons (pv 2) pa_nil)) pe_int) pe_int)) pe_int) pa_nil)) pe_int) (pg_sub (pv 0) pe_int set_list)))))))
      pss_nil)
    (Evl.pss_cut (ps_if (pt_cmpR op_gt (pe_ix ix_list (pv 0) pe_int (fun _ _ => rfl)) pe_int (nomark _))
      (pss_cons (ps_set (i := 3) scDraw.nd rfl (.inl rfl) (pe_op op_mod (pe_callTy call_int1 (by rfl) mi bt_int (pa_cons (pe_ix ix_list (pv 0) pe_int (fun _ _ => rfl)) pa_nil)) (pv 1)))
      (pss_cons (ps_asg (pe_op op_fdivG (pe_ix ix_list (pv 0) pe_int (fun _ _ => rfl)) (pv 1)) (pg_sub (pv 0) pe_int set_list))
      (pss_one (ps_ret (pv 3))))) pss_nil)
    (pss_cons (ps_asg (pe_op op_add (pe_ix ix_list (pv 0) pe_int (fun _ _ => rfl)) pe_int) (pg_sub (pv 0) pe_int set_list))
    (pss_cons (ps_set (i := 4) scDraw.nd rfl (.inl rfl) (pe_ix ix_list (pv 0) pe_int (fun _ _ => rfl)))
    (pss_cons (ps_asg (pe_op op_mod (pe_callTy call_int1 (by rfl) mi bt_int (pa_cons (pe_op op_add (pe_op op_add (pe_op op_add (pe_op op_mul (pv 4) (pv 4)) (pe_op op_mul (pv 4) pe_int)) (pe_op op_mul (pe_ix ix_list (pv 0) pe_int (fun _ _ => rfl)) pe_int)) pe_int) pa_nil)) pe_int) (pg_sub (pv 0) pe_int set_list))
    (pss_one (ps_ret (pe_op op_mod (pe_callTy call_int1 (by rfl) mi bt_int (pa_cons (pe_op op_add (pe_op op_fdiv (pe_ix ix_list (pv 0) pe_int (fun _ _ => rfl)) pe_int) (pe_op op_mul (pe_op op_mod (pe_callTy call_int1 (by rfl) mi bt_int (pa_cons (pe_ix ix_list (pv 0) pe_int (fun _ _ => rfl)) pa_nil)) pe_int) pe_int)) pa_nil)) (pv 1)))))))), ?_⟩
  -- the first if
  refine ⟨fun σ H' => ∃ y i c s t, σ = [some (.ref S.a), some (.int n), y, none, none] ∧ Slots K S H H' i c s t ns, ?_, ?_⟩
  · refine ⟨_, rfl, S.a, _, 2, _, rfl, rfl, SqL.of z0.at_, rfl, rfl, _, rfl, ?_⟩
    rw [dec0]
    refine ite2 (fun hc0 => ?_) fun _ => iteF ⟨_, i, c, s, t, rfl, z0⟩
    refine ⟨_, rfl, S.a, _, 1, _, rfl, rfl, SqL.of z0.at_, rfl, ?_⟩
    refine ⟨_, rfl, S.a, _, 0, _, rfl, rfl, SqL.of z0.at_, rfl, S.l, _, rfl, .inl (SqL.of z0.ls), _, _, rfl, rfl, _, rfl, ?_⟩
    refine ite2 (fun hi1 => ?_) fun _ => ⟨_, i, c, s, t, rfl, z0⟩
    have hi2 : i < ((ns.map V.int).length : Int) := of_decide_eq_true hi1
    rw [List.length_map] at hi2
    have hi3 : i.toNat < ns.length := by omega
    obtain ⟨cell, g⟩ : ∃ cell, atI (ns.map V.int) i = some (.int cell) := by
      obtain ⟨j, rfl⟩ : ∃ j : Nat, i = (j : Int) := ⟨i.toNat, by omega⟩
      have hj : j < ns.length := by omega
      exact ⟨ns[j], atI_nat (by rw [List.getElem?_map]; simp [hj])⟩
    -- cell = src[0][src[1]]
    refine ⟨_, rfl, S.a, _, 0, _, rfl, rfl, SqL.of z0.at_, rfl, ?_⟩
    refine ⟨_, rfl, S.a, _, 1, _, rfl, rfl, SqL.of z0.at_, rfl, S.l, _, i, _, rfl, rfl, SqL.of z0.ls, g, ?_⟩
    -- src[1] = src[1] + 1
    refine ⟨_, rfl, S.a, _, 1, _, rfl, rfl, SqL.of z0.at_, rfl, i, 1, rfl, rfl, _, rfl, S.a, _, 1, 1, rfl, rfl, z0.at_, rfl, ?_⟩
    have z1 := z0.put (i' := i + 1) (c' := c) (s' := s) (t' := t) (by omega) hc hs0 hs1 ht
    -- if cell >= 10 ** 18
    refine ⟨.int cell, rfl, 10, 18, rfl, rfl, ⟨by decide, by decide, by decide⟩, cell, 10 ^ 18, rfl, rfl, _, rfl, ite2 (fun hb => ?_) fun hb => ?_⟩
    · have hb' : (10 : Int) ^ 18 ≤ cell := of_decide_eq_true hb
      refine ⟨.int cell, rfl, _, rfl, S.a, _, 2, 2, rfl, rfl, z1.at_, rfl, ?_⟩
      have z2 := z1.put (i' := i + 1) (c' := cell) (s' := s) (t' := t) (by omega) (Int.le_trans (by decide) hb') hs0 hs1 ht
      exact ⟨_, _, _, _, _, rfl, z2⟩
    · refine ⟨_, rfl, S.a, _, 3, _, rfl, rfl, SqL.of z1.at_, rfl, s, 40487, rfl, rfl, .inr (by decide), ?_⟩
      refine ⟨.int cell, rfl, .inl ⟨cell, rfl, cell, 2147483587, rfl, rfl, (show (0 : Int) < 2147483587 by decide), cell % 2147483587, 6113, rfl, rfl, .inr (by decide), _, _, rfl, rfl, _, 97, rfl, rfl, .inl ⟨_, rfl, _, 2147483629, rfl, rfl, (show (0 : Int) < 2147483629 by decide), ?_⟩⟩⟩
      refine ⟨_, rfl, S.a, _, 3, 3, rfl, rfl, z1.at_, rfl, ?_⟩
      have z2 := z1.put (i' := i + 1) (c' := c) (s' := (s * 40487 + cell % 2147483587 * 6113 + 97) % 2147483629) (t' := t) (by omega) hc (Int.emod_nonneg _ (by decide)) (Int.emod_lt_of_pos _ (by decide)) ht
      exact ⟨_, _, _, _, _, rfl, z2⟩
  rintro σ H1 ⟨y, i1, c1, s1, t1, rfl, z1⟩
  refine ⟨fun σ H' => ∃ y i c s t, σ = [some (.ref S.a), some (.int n), y, none, none] ∧ Slots K S H H' i c s t ns, ?_, ?_⟩
  · refine ⟨_, rfl, S.a, _, 2, _, rfl, rfl, SqL.of z1.at_, rfl, c1, 0, rfl, rfl, _, rfl, ite2 (fun hb => ?_) fun _ => ⟨_, i1, c1, s1, t1, rfl, z1⟩⟩
    refine ⟨_, rfl, S.a, _, 2, _, rfl, rfl, SqL.of z1.at_, rfl, .inl ⟨c1, rfl, .int n, rfl, c1, n, rfl, rfl, by omega, ?_⟩⟩
    refine ⟨_, rfl, S.a, _, 2, _, rfl, rfl, SqL.of z1.at_, rfl, .int n, rfl, c1, n, rfl, rfl, ⟨by omega, hn2⟩, _, rfl, S.a, _, 2, 2, rfl, rfl, z1.at_, rfl, ?_⟩
    have z2 := z1.put (i' := i1) (c' := c1.fdiv n) (s' := s1) (t' := t1) z1.i0 (by rw [Int.fdiv_eq_ediv_of_nonneg _ (by omega)]; exact Int.ediv_nonneg z1.c0 (by omega)) z1.s0 z1.s1 z1.t0
    exact ⟨.int (c1 % n), rfl, hQ _ _ _ z2.ext (.int _) (hP _ (Int.emod_nonneg _ (by omega)) (Int.emod_lt_of_pos _ (by omega)))⟩
  rintro σ H2 ⟨y2, i2, c2, s2, t2, rfl, z2⟩
  refine ⟨_, rfl, S.a, _, 4, _, rfl, rfl, SqL.of z2.at_, rfl, t2, 1, rfl, rfl, _, rfl, S.a, _, 4, 4, rfl, rfl, z2.at_, rfl, ?_⟩
  have z3 := z2.put (i' := i2) (c' := c2) (s' := s2) (t' := t2 + 1) z2.i0 z2.c0 z2.s0 z2.s1 (by have := z2.t0; omega)
  refine ⟨_, rfl, S.a, _, 3, _, rfl, rfl, SqL.of z3.at_, rfl, ?_⟩
  have b0 := z2.s0
  have b1 := z2.s1
  refine ⟨.int s2, rfl, .int s2, rfl, s2, s2, rfl, rfl, .inr ⟨by omega, by omega⟩, .int s2, rfl, s2, 26399, rfl, rfl, .inr (by decide), _, _, rfl, rfl, ?_⟩
  refine ⟨_, rfl, S.a, _, 4, _, rfl, rfl, SqL.of z3.at_, rfl, t2 + 1, 1000931, rfl, rfl, .inr (by decide), _, _, rfl, rfl, _, 80671, rfl, rfl, .inl ⟨_, rfl, _, 2147483629, rfl, rfl, (show (0 : Int) < 2147483629 by decide), ?_⟩⟩
  refine ⟨_, rfl, S.a, _, 3, 3, rfl, rfl, z3.at_, rfl, ?_⟩
  have z4 := z3.put (i' := i2) (c' := c2) (s' := (s2 * s2 + s2 * 26399 + (t2 + 1) * 1000931 + 80671) % 2147483629) (t' := t2 + 1) z2.i0 z2.c0 (Int.emod_nonneg _ (by decide)) (Int.emod_lt_of_pos _ (by decide)) (by have := z2.t0; omega)
  refine ⟨_, rfl, S.a, _, 3, _, rfl, rfl, SqL.of z4.at_, rfl, _, 71, rfl, rfl, ⟨by decide, by decide⟩, ?_⟩
  refine ⟨_, rfl, S.a, _, 3, _, rfl, rfl, SqL.of z4.at_, rfl, .inl ⟨_, rfl, _, 7919, rfl, rfl, (show (0 : Int) < 7919 by decide), _, 43, rfl, rfl, .inr (by decide), _, _, rfl, rfl, .inl ⟨_, rfl, .int n, rfl, _, n, rfl, rfl, (show (0 : Int) < n by omega), ?_⟩⟩⟩
  exact hQ _ _ _ z4.ext (.int _) (hP _ (Int.emod_nonneg _ (by omega)) (Int.emod_lt_of_pos _ (by omega)))
end

/-! ### the source made -/
def spSource (K : PySem.W.Frag) : Sp := fun vs H Q _ => ∃ (a : Addr) (ns : List Int), vs = [.ref a] ∧ SqL K H a (ns.map V.int) ∧ ns.length ≤ 63 ∧
  ∀ (p l : Addr) (ms : List Int) H', Same H H' → H p = none → H l = none → l ≠ p → H' p = some (.lst [.ref l, .int 0, .int 0, .int 12023, .int 0]) → H' l = some (.lst (ms.map V.int)) → Q (.ref p) H'
section
variable {P : Program} {w : World} {K : PySem.W.Frag} {mg : Str → Option Value} {base : Heap}
theorem cut_map (ns : List Int) (lo hi : Option Int) : ∃ ms : List Int, cutV (ns.map V.int) lo hi = ms.map V.int := by
  unfold cutV
  rw [List.length_map]
  exact ⟨_, by rw [← List.map_drop, ← List.map_take]⟩
theorem ok_source {f : Addr} {fd : FuncData} {k : Nat} (F : Fun K "_law_source" "_law_source" sSource f fd) (ml : mg "list" = none) : FnOk P w K mg base CX0 (k + 1) f fd ["_law_script"] (spSource K) := by
  refine F.ok scSource (fun vs H Q E h => ?_) (fun cdv A outer s H vs Q E hr h => ?_)
  · obtain ⟨a, ns, rfl, _⟩ := h
    rfl
  · obtain ⟨a, ns, rfl, hS, hlen, q⟩ := h
    refine ⟨_, pss_one (ps_ret (pe_lst (pa_cons (pe_callTy call_list_of (by rfl) ml bt_list (pa_cons (pe_slice sl_list (pv 0) po_none (po_some pe_int)) pa_nil)) (pa_cons pe_int (pa_cons pe_int (pa_cons pe_int (pa_cons pe_int pa_nil))))))), ?_⟩
    obtain ⟨ms, hms⟩ := cut_map ns none (some 63)
    refine ⟨.ref a, rfl, 63, rfl, a, _, rfl, hS, fun c nc => ?_⟩
    rw [hms]
    refine ⟨c, _, rfl, .inl (SqL.of upd_same), fun l nl => ?_⟩
    have ncl : c ≠ l := ne_of_none (o := .lst (ms.map V.int)) upd_same nl
    refine ⟨small (n := 5) (by decide), fun p np => ?_⟩
    have npl : l ≠ p := ne_of_none (o := .lst (ms.map V.int)) upd_same np
    have s1 := same_upd (o := .lst (ms.map V.int)) nc
    have s2 := same_upd (o := .lst (ms.map V.int)) nl
    have s3 := same_upd (o := .lst [.ref l, .int 0, .int 0, .int 12023, .int 0]) np
    exact q p l ms _ ((s1.trans s2).trans s3) ((s1.trans s2).free np) (s1.free nl) npl upd_same (by rw [upd_ne npl]; exact upd_same)
end
end G
set_option Elab.async false
set_option linter.all false
set_option maxRecDepth 100000
set_option maxHeartbeats 4000000
namespace G
open PySem PySem.Spec PyProof.Rows L2
local macro_rules | `(tactic| wtm_at "vis") => `(tactic| first | exact Or.inl rfl | exact Or.inr (Or.inl rfl) | exact Or.inr (Or.inr rfl))
local macro_rules | `(tactic| wtm_at "cal") => `(tactic| first | assumption | exact CallOk.blk (by assumption) | exact CallOkK.blk (by assumption) | exact ConstOk.blk (by assumption))
local macro_rules | `(tactic| wtm_at "nm") => `(tactic| first
  | refine ex_name 0 (by assumption) (by with_reducible rfl) (by with_reducible rfl) (by wtm_at "vis") ?_
  | refine ex_name 1 (by assumption) (by with_reducible rfl) (by with_reducible rfl) (by wtm_at "vis") ?_
  | refine ex_name 2 (by assumption) (by with_reducible rfl) (by with_reducible rfl) (by wtm_at "vis") ?_
  | refine ex_name 3 (by assumption) (by with_reducible rfl) (by with_reducible rfl) (by wtm_at "vis") ?_
  | refine ex_name 4 (by assumption) (by with_reducible rfl) (by with_reducible rfl) (by wtm_at "vis") ?_
  | refine ex_name 5 (by assumption) (by with_reducible rfl) (by with_reducible rfl) (by wtm_at "vis") ?_
  | refine ex_name 6 (by assumption) (by with_reducible rfl) (by with_reducible rfl) (by wtm_at "vis") ?_
  | refine ex_name 7 (by assumption) (by with_reducible rfl) (by with_reducible rfl) (by wtm_at "vis") ?_
  | refine ex_name 8 (by assumption) (by with_reducible rfl) (by with_reducible rfl) (by wtm_at "vis") ?_
  | refine ex_name 9 (by assumption) (by with_reducible rfl) (by with_reducible rfl) (by wtm_at "vis") ?_
  | refine ex_name 10 (by assumption) (by with_reducible rfl) (by with_reducible rfl) (by wtm_at "vis") ?_
  | refine ex_name 11 (by assumption) (by with_reducible rfl) (by with_reducible rfl) (by wtm_at "vis") ?_
  | refine ex_name 12 (by assumption) (by with_reducible rfl) (by with_reducible rfl) (by wtm_at "vis") ?_
  | refine ex_name 13 (by assumption) (by with_reducible rfl) (by with_reducible rfl) (by wtm_at "vis") ?_
  | refine ex_name 14 (by assumption) (by with_reducible rfl) (by with_reducible rfl) (by wtm_at "vis") ?_
  | refine ex_name 15 (by assumption) (by with_reducible rfl) (by with_reducible rfl) (by wtm_at "vis") ?_
  | refine ex_name 16 (by assumption) (by with_reducible rfl) (by with_reducible rfl) (by wtm_at "vis") ?_
  | refine ex_name 17 (by assumption) (by with_reducible rfl) (by with_reducible rfl) (by wtm_at "vis") ?_
  | refine ex_name 18 (by assumption) (by with_reducible rfl) (by with_reducible rfl) (by wtm_at "vis") ?_
  | refine ex_name 19 (by assumption) (by with_reducible rfl) (by with_reducible rfl) (by wtm_at "vis") ?_
  | refine ex_name 20 (by assumption) (by with_reducible rfl) (by with_reducible rfl) (by wtm_at "vis") ?_
  | refine ex_name 21 (by assumption) (by with_reducible rfl) (by with_reducible rfl) (by wtm_at "vis") ?_
  | refine ex_name 22 (by assumption) (by with_reducible rfl) (by with_reducible rfl) (by wtm_at "vis") ?_
  | refine ex_name 23 (by assumption) (by with_reducible rfl) (by with_reducible rfl) (by wtm_at "vis") ?_)
local macro_rules | `(tactic| wtm_at "kb") => `(tactic| first | exact kb0 | exact kb1 | exact kb2 | exact kb3 | exact kb4 | exact kb5 | exact kb6 | exact kb7 | exact kb8 | exact kb9 | exact kb10 | exact kb11 | exact kb12 | exact kb13 | exact kb14 | exact kb15 | exact kb16 | exact kb17 | exact kb18 | exact kb19 | exact kb20 | exact kb21 | exact kb22 | exact kb23 | exact kb24 | exact kb25 | exact kb26 | exact kb27 | exact kb28 | exact kb29)
local macro_rules | `(tactic| wtm_at "loc") => `(tactic| first | exact Or.inl rfl | exact Or.inr rfl)
local macro_rules | `(tactic| wtm_at "set") => `(tactic| first
  | refine s_set 0 (by assumption) (by assumption) (by with_reducible rfl) (by wtm_at "loc") ?_
  | refine s_set 1 (by assumption) (by assumption) (by with_reducible rfl) (by wtm_at "loc") ?_
  | refine s_set 2 (by assumption) (by assumption) (by with_reducible rfl) (by wtm_at "loc") ?_
  | refine s_set 3 (by assumption) (by assumption) (by with_reducible rfl) (by wtm_at "loc") ?_
  | refine s_set 4 (by assumption) (by assumption) (by with_reducible rfl) (by wtm_at "loc") ?_
  | refine s_set 5 (by assumption) (by assumption) (by with_reducible rfl) (by wtm_at "loc") ?_
  | refine s_set 6 (by assumption) (by assumption) (by with_reducible rfl) (by wtm_at "loc") ?_
  | refine s_set 7 (by assumption) (by assumption) (by with_reducible rfl) (by wtm_at "loc") ?_
  | refine s_set 8 (by assumption) (by assumption) (by with_reducible rfl) (by wtm_at "loc") ?_
  | refine s_set 9 (by assumption) (by assumption) (by with_reducible rfl) (by wtm_at "loc") ?_
  | refine s_set 10 (by assumption) (by assumption) (by with_reducible rfl) (by wtm_at "loc") ?_
  | refine s_set 11 (by assumption) (by assumption) (by with_reducible rfl) (by wtm_at "loc") ?_
  | refine s_set 12 (by assumption) (by assumption) (by with_reducible rfl) (by wtm_at "loc") ?_
  | refine s_set 13 (by assumption) (by assumption) (by with_reducible rfl) (by wtm_at "loc") ?_
  | refine s_set 14 (by assumption) (by assumption) (by with_reducible rfl) (by wtm_at "loc") ?_
  | refine s_set 15 (by assumption) (by assumption) (by with_reducible rfl) (by wtm_at "loc") ?_
  | refine s_set 16 (by assumption) (by assumption) (by with_reducible rfl) (by wtm_at "loc") ?_
  | refine s_set 17 (by assumption) (by assumption) (by with_reducible rfl) (by wtm_at "loc") ?_
  | refine s_set 18 (by assumption) (by assumption) (by with_reducible rfl) (by wtm_at "loc") ?_
  | refine s_set 19 (by assumption) (by assumption) (by with_reducible rfl) (by wtm_at "loc") ?_
  | refine s_set 20 (by assumption) (by assumption) (by with_reducible rfl) (by wtm_at "loc") ?_
  | refine s_set 21 (by assumption) (by assumption) (by with_reducible rfl) (by wtm_at "loc") ?_
  | refine s_set 22 (by assumption) (by assumption) (by with_reducible rfl) (by wtm_at "loc") ?_
  | refine s_set 23 (by assumption) (by assumption) (by with_reducible rfl) (by wtm_at "loc") ?_)
local macro_rules | `(tactic| wtm_at "ex") => `(tactic| first
  | ((with_reducible show EX _ (PySem.Expr.Name "int" _) _ _); refine ex_ty (by assumption) (by rfl) bt_int ?_)
  | ((with_reducible show EX _ (PySem.Expr.Name "str" _) _ _); refine ex_ty (by assumption) (by rfl) bt_str ?_)
  | ((with_reducible show EX _ (PySem.Expr.Name "bool" _) _ _); refine ex_ty (by assumption) (by rfl) bt_bool ?_)
  | ((with_reducible show EX _ (PySem.Expr.Name "list" _) _ _); refine ex_ty (by assumption) (by rfl) bt_list ?_)
  | ((with_reducible show EX _ (PySem.Expr.Name "tuple" _) _ _); refine ex_ty (by assumption) (by rfl) bt_tuple ?_)
  | ((with_reducible show EX _ (PySem.Expr.Name _ _) _ _); first | wtm_at "nm" | refine ex_glob (by wtm_at "cal") (by rfl) ?_)
  | ((with_reducible show EX _ (PySem.Expr.Constant (PySem.Const.int _) _ _) _ _); refine ex_int ?_)
  | ((with_reducible show EX _ (PySem.Expr.Constant (PySem.Const.str _) _ _) _ _); refine ex_str ?_)
  | ((with_reducible show EX _ (PySem.Expr.Constant (PySem.Const.bool _) _ _) _ _); refine ex_bl ?_)
  | ((with_reducible show EX _ (PySem.Expr.Constant PySem.Const.none _ _) _ _); refine ex_non ?_)
  | ((with_reducible show EX _ (PySem.Expr.BinOp _ PySem.Operator.Add _ _) _ _); refine ex_bin od_add ?_)
  | ((with_reducible show EX _ (PySem.Expr.BinOp _ PySem.Operator.Sub _ _) _ _); refine ex_bin od_sub ?_)
  | ((with_reducible show EX _ (PySem.Expr.BinOp _ PySem.Operator.Mult _ _) _ _); refine ex_bin od_mul ?_)
  | ((with_reducible show EX _ (PySem.Expr.BinOp _ PySem.Operator.Mod _ _) _ _); refine ex_bin od_mod ?_)
  | ((with_reducible show EX _ (PySem.Expr.BinOp _ PySem.Operator.FloorDiv _ _) _ _); refine ex_bin od_fdiv ?_)
  | ((with_reducible show EX _ (PySem.Expr.BinOp _ PySem.Operator.Pow _ _) _ _); refine ex_bin od_pow ?_)
  | ((with_reducible show EX _ (PySem.Expr.Compare _ [PySem.CmpOp.Eq] _ _) _ _); refine ex_cmp od_eq ?_)
  | ((with_reducible show EX _ (PySem.Expr.Compare _ [PySem.CmpOp.NotEq] _ _) _ _); refine ex_cmp od_ne ?_)
  | ((with_reducible show EX _ (PySem.Expr.Compare _ [PySem.CmpOp.Lt] _ _) _ _); refine ex_cmp od_lt ?_)
  | ((with_reducible show EX _ (PySem.Expr.Compare _ [PySem.CmpOp.LtE] _ _) _ _); refine ex_cmp od_le ?_)
  | ((with_reducible show EX _ (PySem.Expr.Compare _ [PySem.CmpOp.Gt] _ _) _ _); refine ex_cmp od_gt ?_)
  | ((with_reducible show EX _ (PySem.Expr.Compare _ [PySem.CmpOp.GtE] _ _) _ _); refine ex_cmp od_ge ?_)
  | ((with_reducible show EX _ (PySem.Expr.Compare _ [PySem.CmpOp.Is] _ _) _ _); refine ex_cmp od_is ?_)
  | ((with_reducible show EX _ (PySem.Expr.Compare _ [PySem.CmpOp.IsNot] _ _) _ _); refine ex_cmp od_isnot ?_)
  | ((with_reducible show EX _ (PySem.Expr.Compare _ [PySem.CmpOp.LtE, PySem.CmpOp.LtE] _ _) _ _); refine ex_chain od_le od_le ?_)
  | ((with_reducible show EX _ (PySem.Expr.UnaryOp PySem.UnaryOp.USub _ _) _ _); refine ex_neg ?_)
  | ((with_reducible show EX _ (PySem.Expr.UnaryOp PySem.UnaryOp.Not _ _) _ _); refine ex_not ?_)
  | ((with_reducible show EX _ (PySem.Expr.BoolOp PySem.BoolOp.And (_ :: _ :: _) _) _ _); refine ex_and ?_)
  | ((with_reducible show EX _ (PySem.Expr.BoolOp PySem.BoolOp.Or (_ :: _ :: _) _) _ _); refine ex_or ?_)
  | ((with_reducible show EX _ (PySem.Expr.BoolOp _ [_] _) _ _); refine ex_one ?_)
  | ((with_reducible show EX _ (PySem.Expr.IfExp _ _ _ _) _ _); refine ex_ifExp ?_)
  | ((with_reducible show EX _ (PySem.Expr.Tuple _ _ _) _ _); refine ex_tup ?_)
  | ((with_reducible show EX _ (PySem.Expr.List _ _) _ _); refine ex_lst ?_)
  | ((with_reducible show AX _ (_ :: _) _ _); refine ax_cons ?_)
  | ((with_reducible show AX _ [] _ _); refine ax_nil ?_)
  | ((with_reducible show KX _ (_ :: _) _ _); refine kx_cons ?_)
  | ((with_reducible show KX _ [] _ _); refine kx_nil ?_)
  | ((with_reducible show EX _ (PySem.Expr.Call (PySem.Expr.Name "isinstance" _) [_, PySem.Expr.Tuple [_, _] _ _] [] _) _ _); refine ex_isi2 (by assumption) (by rfl) bt_isi ?_)
  | ((with_reducible show EX _ (PySem.Expr.Call (PySem.Expr.Name "isinstance" _) _ [] _) _ _); refine ex_bi bi_isi (by assumption) (by rfl) bt_isi ?_)
  | ((with_reducible show EX _ (PySem.Expr.Call (PySem.Expr.Name "len" _) _ [] _) _ _); refine ex_bi bi_len (by assumption) (by rfl) bt_len ?_)
  | ((with_reducible show EX _ (PySem.Expr.Call (PySem.Expr.Name "abs" _) _ [] _) _ _); refine ex_bi bi_abs (by assumption) (by rfl) bt_abs ?_)
  | ((with_reducible show EX _ (PySem.Expr.Call (PySem.Expr.Name "all" _) _ [] _) _ _); refine ex_bi (bi_all rfl) (by assumption) (by rfl) bt_all ?_)
  | ((with_reducible show EX _ (PySem.Expr.Call (PySem.Expr.Name "int" _) _ [] _) _ _); refine ex_bt bi_int (by assumption) (by rfl) bt_int ?_)
  | ((with_reducible show EX _ (PySem.Expr.Call (PySem.Expr.Name "str" _) _ [] _) _ _); refine ex_bt bi_str (by assumption) (by rfl) bt_str ?_)
  | ((with_reducible show EX _ (PySem.Expr.Call (PySem.Expr.Name "list" _) _ [] _) _ _); refine ex_bt bi_list (by assumption) (by rfl) bt_list ?_)
  | ((with_reducible show EX _ (PySem.Expr.Call (PySem.Expr.Name "tuple" _) _ [] _) _ _); refine ex_bt bi_tuple (by assumption) (by rfl) bt_tuple ?_)
  | ((with_reducible show EX _ (PySem.Expr.Call (PySem.Expr.Name "gcd" _) _ [] _) _ _); refine ex_bf bi_gcd (by assumption) (by rfl) ?_)
  | ((with_reducible show EX _ (PySem.Expr.Call (PySem.Expr.Name _ _) (_ :: _) [] _) _ _); refine ex_call (by wtm_at "cal") (by rfl) ?_)
  | ((with_reducible show EX _ (PySem.Expr.Call (PySem.Expr.Name _ _) [] (_ :: _) _) _ _); refine ex_callK0 (by wtm_at "cal") (by rfl) ?_)
  | ((with_reducible show EX _ (PySem.Expr.Call (PySem.Expr.Name _ _) (_ :: _) (_ :: _) _) _ _); refine ex_callK (by wtm_at "cal") (by rfl) ?_)
  | ((with_reducible show EX _ (PySem.Expr.Subscript _ _ _) _ _); refine ex_ix ?_))
local macro_rules | `(tactic| wtm_at "tx") => `(tactic| first
  | ((with_reducible show TX _ (PySem.Expr.Compare _ [PySem.CmpOp.Eq] _ _) _ _); refine tx_cmp od_eq ?_)
  | ((with_reducible show TX _ (PySem.Expr.Compare _ [PySem.CmpOp.NotEq] _ _) _ _); refine tx_cmp od_ne ?_)
  | ((with_reducible show TX _ (PySem.Expr.Compare _ [PySem.CmpOp.Lt] _ _) _ _); refine tx_cmp od_lt ?_)
  | ((with_reducible show TX _ (PySem.Expr.Compare _ [PySem.CmpOp.LtE] _ _) _ _); refine tx_cmp od_le ?_)
  | ((with_reducible show TX _ (PySem.Expr.Compare _ [PySem.CmpOp.Gt] _ _) _ _); refine tx_cmp od_gt ?_)
  | ((with_reducible show TX _ (PySem.Expr.Compare _ [PySem.CmpOp.GtE] _ _) _ _); refine tx_cmp od_ge ?_)
  | ((with_reducible show TX _ (PySem.Expr.Compare _ [PySem.CmpOp.Is] _ _) _ _); refine tx_cmp od_is ?_)
  | ((with_reducible show TX _ (PySem.Expr.Compare _ [PySem.CmpOp.IsNot] _ _) _ _); refine tx_cmp od_isnot ?_)
  | ((with_reducible show TX _ (PySem.Expr.Compare _ [PySem.CmpOp.LtE, PySem.CmpOp.LtE] _ _) _ _); refine tx_chain od_le od_le ?_)
  | ((with_reducible show TX _ (PySem.Expr.UnaryOp PySem.UnaryOp.Not _ _) _ _); refine tx_not ?_)
  | ((with_reducible show TX _ (PySem.Expr.BoolOp _ _ _) _ _); refine tx_w ?_)
  | ((with_reducible show TW _ (PySem.Expr.BoolOp PySem.BoolOp.And (_ :: _ :: _) _) _ _); refine tw_and ?_)
  | ((with_reducible show TW _ (PySem.Expr.BoolOp PySem.BoolOp.Or (_ :: _ :: _) _) _ _); refine tw_or ?_)
  | ((with_reducible show TW _ (PySem.Expr.BoolOp PySem.BoolOp.And [_] _) _ _); refine tw_and1 ?_)
  | ((with_reducible show TW _ (PySem.Expr.BoolOp PySem.BoolOp.Or [_] _) _ _); refine tw_or1 ?_)
  | ((with_reducible show TX _ _ _ _); refine tx_truth ?_))
local macro_rules | `(tactic| wtm_at "st") => `(tactic| first
  | ((with_reducible show SX _ [_] _ _); refine sx_one ?_)
  | ((with_reducible show SX _ (_ :: _) _ _); refine sx_cons ?_)
  | ((with_reducible show SX _ [] _ _); refine sx_nil ?_)
  | ((with_reducible show S1 _ (PySem.Stmt.Return (some _) _) _ _); refine s_ret ?_)
  | ((with_reducible show S1 _ (PySem.Stmt.If _ _ _ _) _ _); refine s_if ?_)
  | ((with_reducible show S1 _ (PySem.Stmt.Expr _ _) _ _); refine s_expr ?_)
  | ((with_reducible show S1 _ (PySem.Stmt.Pass _) _ _); refine s_pass ?_)
  | ((with_reducible show S1 _ (PySem.Stmt.Assign [PySem.Expr.Name _ _] _ _) _ _); wtm_at "set"))
local macro_rules | `(tactic| wtm_at "op") => `(tactic| with_reducible first
  | refine o_add ?_
  | refine o_sub ?_
  | refine o_lt ?_
  | refine o_le ?_
  | refine o_gt ?_
  | refine o_ge ?_
  | refine o_is ?_
  | refine o_isnot ?_
  | refine o_lenl ?_
  | refine o_lent ?_
  | refine o_abs ?_
  | refine o_int ?_
  | refine o_listl ?_
  | refine o_listt ?_
  | refine o_tupl ?_
  | refine o_tupt ?_
  | refine o_all ?_
  | refine o_gcd ?_
  | refine o_asB ?_
  | refine o_asI ?_
  | refine o_asL ?_
  | refine o_asT ?_
  | refine o_truB ?_
  | refine o_truN ?_
  | refine o_truL ?_
  | refine o_truT ?_
  | refine if_t ?_
  | refine if_f ?_
  | refine if_nf ?_
  | refine if_nt ?_)
local macro_rules | `(tactic| wtm_at "op2") => `(tactic| first
  | ((with_reducible show if _ = true then _ else _); first | refine if_ev_t rfl ?_ | refine if_ev_f rfl ?_)
  | ((with_reducible show wIsi [_, D.ty _] _); refine o_isi rfl (by wtm_at "kb") ?_)
  | ((with_reducible show wEq _ _ _); refine o_eq rfl ?_)
  | ((with_reducible show wNe _ _ _); refine o_ne rfl ?_)
  | ((with_reducible show wIx (D.lst _) (D.int _) _); refine o_ixl rfl ?_)
  | ((with_reducible show wIx (D.tup _) (D.int _) _); refine o_ixt rfl ?_)
  | ((with_reducible show wPow _ _ _); refine o_pow ⟨by decide, by decide, by decide⟩ ?_)
  | ((with_reducible show (_ ≤ 100000) ∧ _); refine ⟨Nat.le_of_ble_eq_true rfl, ?_⟩)
  | ((with_reducible show ∃ n1 n2 t k1 k2, _); refine o_isi2 rfl (by wtm_at "kb") (by wtm_at "kb") ?_))
local macro_rules | `(tactic| wtm_at "go") => `(tactic| first | wtm_at "ex" | wtm_at "op" | wtm_at "op2" | wtm_at "tx" | wtm_at "st")
local macro_rules | `(tactic| wtm_at "ex") => `(tactic| first
  | ((with_reducible show EX _ (PySem.Expr.Compare _ [PySem.CmpOp.In] _ _) _ _); refine ex_cmp od_in ?_)
  | ((with_reducible show EX _ (PySem.Expr.Attribute _ _ _) _ _); refine ex_fld ?_)
  | ((with_reducible show EX _ (PySem.Expr.Call (PySem.Expr.Name _ _) (_ :: _) [] _) _ _); refine ex_make (by assumption) (by rfl) ?_)
  | ((with_reducible show EX _ (PySem.Expr.Call (PySem.Expr.Name _ _) [] [] _) _ _); first | refine ex_make0 (by assumption) (by rfl) ?_ | refine ex_call0 (by wtm_at "cal") (by rfl) ?_))
local macro_rules | `(tactic| wtm_at "op2") => `(tactic| first
  | ((with_reducible show wIn (D.str _) (D.lst _) _); refine o_in rfl ?_))
local macro_rules | `(tactic| wtm_at "tx") => `(tactic| first
  | ((with_reducible show TX _ (PySem.Expr.Compare _ [PySem.CmpOp.In] _ _) _ _); refine tx_cmp od_in ?_))
/-! ### the defs of the text -/
def FdAt (K : PySem.W.Frag) (f : Addr) (fd : FuncData) : Prop := ∃ oc od sl, K.lookup f = some ⟨oc, od, .func fd, sl⟩
theorem FdAt.eq {K f fd fd'} (h : FdAt K f fd) (h' : FdAt K f fd') : fd = fd' := by
  obtain ⟨_, _, _, h⟩ := h
  obtain ⟨_, _, _, h'⟩ := h'
  rw [h] at h'
  injection h' with h'
  injection h' with _ _ h'
  injection h'
theorem _root_.L2.Fun.at {K x q st f fd} (F : Fun K x q st f fd) : FdAt K f fd := by
  obtain ⟨oc, od, _, _, _, _, _, _, sl, _, h, _⟩ := F.ex
  exact ⟨oc, od, sl, h⟩
structure Df (P : Program) (w : World) (K : PySem.W.Frag) (mg : Str → Option Value) (base : Heap) (x : Str) (W : WA) (k : Nat) : Prop where
  ex : ∃ (f : Addr) (fd : FuncData) (ps : List Str) (n : Nat), FnOk P w K mg base CX0 k f fd ps (spW K W n) ∧ mg x = some (.ref f) ∧ PySem.W.keepIn K (.ref f) = true ∧ Binds K fd ps [] ∧ FdAt K f fd ∧ fd.params.args.map (·.arg) = ps ∧ ∀ es Po', W es Po' → es.length = n
theorem Df.call {X : Cx} {x : Str} {W : WA} {k j : Nat} (d : Df X.prog X.w X.K X.mg X.base x W j) (hr : Room k X.A) (h : j ≤ k := by decide) : CallOk X x W := by
  obtain ⟨f, fd, ps, n, F, hm, hk, hb, _, _, hn⟩ := d.ex
  exact ⟨_, f, fd, ps, n, W, [], [], [], F, hr.mono h, hm, hk, hb, .nil, fun _ _ _ => .nil, fun es P h => by rw [List.append_nil]; exact ⟨hn es P h, h⟩⟩
/-- a def of the top, as it stands -/
structure Top (K : PySem.W.Frag) (mg : Str → Option Value) (x : Str) (st : Stmt) (ps : List Str) : Prop where
  ex : ∃ (f : Addr) (fd : FuncData), Fun K x x st f fd ∧ mg x = some (.ref f) ∧ Binds K fd ps []
section
variable {P : Program} {w : World} {K : PySem.W.Frag} {mg : Str → Option Value} {base : Heap}
/-- a def keeps W if its body does, whatever stands around -/
theorem Top.df {x : Str} {st : Stmt} {ps N : List Str} {W : WA} {k : Nat} (T : Top K mg x st ps) (S : FnScope N ps (defScope st)) (hn : ∀ es Po', W es Po' → es.length = ps.length)
    (h : ∀ (f : Addr) (cdv : Value) (A : Around) (outer : List Env) (s : Shared) (H : Hp) (E : XK), Room k (A.deeper (envOfC x (defScope st) s.heap.objs.size f cdv)) → N.Nodup → ∀ ds Po', W ds Po' → ds.length = ps.length →
      SX (cxOf CX0 P w K mg base N x (defScope st) f cdv A outer s H E).nox (defBody st) (startE N ds) { nx := fun _ => Po' .non, rt := Po' }) (hps : (defArgs st).args.map (·.arg) = ps := by rfl) : Df P w K mg base x W (k + 1) := by
  obtain ⟨f, fd, F, hm, hb⟩ := T.ex
  exact ⟨f, fd, ps, ps.length, F.ok S (fun vs H Q E h => h.1) fun cdv A outer s H vs Q E hr hs => fn_body hs fun ds Po' hw hl => h f cdv A outer s H E hr S.nd ds Po' hw hl, hm, F.kp, hb, F.at, by obtain ⟨oc, od, kV, doc, pm, an, cdv, ct, osl, rfl, _⟩ := F.ex; exact hps, hn⟩
end
/-- plain data: what isinstance tells of it -/
def plain : D → Bool
  | .non | .bl _ | .int _ | .str _ | .tup _ | .lst _ => true
  | _ => false
abbrev sOf : Stmt := topS 27
abbrev sSame : Stmt := topS 30
theorem scOf : FnScope ["_law_src", "_law_things7"] ["_law_src", "_law_things7"] (defScope sOf) := ⟨rfl, rfl, rfl, by decide +kernel, rfl, by decide +kernel, by decide +kernel⟩
theorem scSame : FnScope ["_law_found", "_law_due", "_law_part7", "_law_late7"] ["_law_found", "_law_due"] (defScope sSame) := ⟨rfl, rfl, rfl, by decide +kernel, rfl, by decide +kernel, by decide +kernel⟩
/-- one of a list's items -/
def Wof : WA := fun ds P => ∃ l, ds = [.src, .lst l] ∧ l ≠ [] ∧ l.length ≤ 100000 ∧ ∀ d ∈ l, P d
/-- plain data of a depth -/
def shp : Nat → D → Bool
  | _, .non | _, .bl _ | _, .int _ | _, .str _ => true
  | n + 1, .tup l => decide (l.length ≤ 100000) && l.all (shp n)
  | n + 1, .lst l => decide (l.length ≤ 100000) && l.all (shp n)
  | _, _ => false
def Wsame (n : Nat) : WA := fun ds P => ∃ d, ds = [d, d] ∧ shp n d = true ∧ P (.bl true)
section
variable {P : Program} {w : World} {K : PySem.W.Frag} {mg : Str → Option Value} {base : Heap}
theorem df_draw (T : Top K mg "_law_draw" sDraw ["_law_src", "_law_many7"]) (ml : mg "len" = none) (mi : mg "int" = none) : Df P w K mg base "_law_draw" Wdraw 1 := by
  obtain ⟨f, fd, F, hm, hb⟩ := T.ex
  exact ⟨f, fd, _, 2, ok_draw F ml mi, hm, F.kp, hb, F.at, by obtain ⟨oc, od, kV, doc, pm, an, cdv, ct, osl, rfl, _⟩ := F.ex; rfl, fun _ _ ⟨_, h, _⟩ => by rw [h]; rfl⟩
theorem df_of (T : Top K mg "_law_of" sOf ["_law_src", "_law_things7"]) (m1 : mg "len" = none) (d1 : Df P w K mg base "_law_draw" Wdraw 1) : Df P w K mg base "_law_of" Wof 2 :=
  T.df scOf (fun _ _ ⟨_, h, _⟩ => by rw [h]; rfl) fun f cdv A outer s H E hr hnd ds Po' hw hl => by
  obtain ⟨l, rfl, hne, hlen, hP⟩ := hw
  have hX : (cxOf CX0 P w K mg base ["_law_src", "_law_things7"] "_law_of" (defScope sOf) f cdv A outer s H E).nox.N = (["_law_src", "_law_things7"] : List Str) := rfl
  have c1 : CallOk (cxOf CX0 P w K mg base ["_law_src", "_law_things7"] "_law_of" (defScope sOf) f cdv A outer s H E).nox "_law_draw" Wdraw := d1.call hr
  show SX _ (_ :: _) [_, _] _
  repeat wtm_at "go"
  have h0 : 0 < l.length := List.length_pos_iff.mpr hne
  refine ⟨_, rfl, by omega, ?_, fun k h1 h2 => ?_⟩
  · exact Nat.lt_of_le_of_lt (show ((l.length : Int)).natAbs ≤ 100000 by omega) (Nat.lt_of_lt_of_le (show 100000 < 2 ^ 20 by decide) (Nat.pow_le_pow_right (by decide) (by decide)))
  · obtain ⟨j, rfl⟩ : ∃ j : Nat, k = (j : Int) := ⟨k.toNat, by omega⟩
    have hj : j < l.length := by omega
    exact ⟨l[j], atI_nat (List.getElem?_eq_getElem hj), hP _ (List.getElem_mem hj)⟩
end
section
variable {P : Program} {w : World} {K : PySem.W.Frag} {mg : Str → Option Value} {base : Heap}
theorem zip_self {l : List D} {i : Nat} {d : D} (h : (zipD l l)[i]? = some d) : ∃ x ∈ l, d = .tup [x, x] := by
  unfold zipD at h
  rw [List.getElem?_map] at h
  cases e : (l.zip l)[i]? with
  | none => rw [e] at h; cases h
  | some q =>
    rw [e] at h
    obtain ⟨a, b⟩ := q
    obtain ⟨h1, h2⟩ := (List.getElem?_zip_eq_some (z := (a, b))).mp e
    have e' : a = b := Option.some.inj (h1.symm.trans h2)
    subst e'
    exact ⟨a, List.mem_of_getElem? h1, (Option.some.inj h).symm⟩
abbrev nSame : List Str := ["_law_found", "_law_due", "_law_part7", "_law_late7"]
abbrev oSame : List (Str × Nat) := [("_law_part7", 2), ("_law_late7", 3)]
theorem two_len : ∀ (ds : List D) (Γ : List G.E) (P : List G.E → Prop), gdCons (gdN 2) (gdCons (gdN 3) gdNil) ds Γ P → ds.length = 2 := fun ds Γ P h => by
  obtain ⟨a, r, rfl, b, r2, rfl, rfl, _⟩ := h
  rfl
theorem shp_plain {n : Nat} {d : D} (h : shp n d = true) : plain d = true := by
  cases n <;> cases d <;> first | rfl | exact Bool.noConfusion h
set_option maxHeartbeats 16000000 in
theorem df_same (T : Top K mg "_law_same" sSame ["_law_found", "_law_due"]) (m1 : mg "isinstance" = none) (m2 : mg "list" = none) (m3 : mg "tuple" = none) (m4 : mg "len" = none) (m5 : mg "all" = none) (m6 : mg "zip" = none)
    (m7 : mg "bool" = none) (m8 : mg "int" = none) (m9 : mg "str" = none) : ∀ n, Df P w K mg base "_law_same" (Wsame n) (n + 1) := by
  intro n
  induction n with
  | zero =>
    refine T.df scSame (fun _ _ ⟨_, h, _⟩ => by rw [h]; rfl) fun f cdv A outer s H E hr hnd ds Po' hw hl => ?_
    obtain ⟨d, rfl, hs, hP⟩ := hw
    have hX : (cxOf CX0 P w K mg base nSame "_law_same" (defScope sSame) f cdv A outer s H E).nox.N = nSame := rfl
    show SX _ (_ :: _) [_, _, _, _] _
    cases d <;> try exact Bool.noConfusion hs
    all_goals (repeat wtm_at "go")
    all_goals first | exact hP | simpa using hP
  | succ n ih =>
    refine T.df scSame (fun _ _ ⟨_, h, _⟩ => by rw [h]; rfl) fun f cdv A outer s H E hr hnd ds Po' hw hl => ?_
    obtain ⟨d, rfl, hs, hP⟩ := hw
    have hX : (cxOf CX0 P w K mg base nSame "_law_same" (defScope sSame) f cdv A outer s H E).nox.N = nSame := rfl
    have c1 : CallOk (cxOf CX0 P w K mg base nSame "_law_same" (defScope sSame) f cdv A outer s H E).nox "_law_same" (Wsame n) := ih.call hr (Nat.le_refl _)
    show SX _ (_ :: _) [_, _, _, _] _
    cases d <;> try exact Bool.noConfusion hs
    all_goals (repeat wtm_at "go")
    case tup l =>
      have hs' : l.length ≤ 100000 ∧ ∀ x ∈ l, shp n x = true := by simpa [shp] using hs
      refine if_dec (fun _ => ?_) fun h => absurd rfl h
      repeat wtm_at "go"
      refine ex_lc (own := oSame) (js := [2, 3]) rfl hnd (blkOk_by (N := nSame) (sc := defScope sSame) (by decide +kernel)) (fun _ _ _ _ _ => pg_tup rfl (pgs_cons (pg_name (i := 2) hnd rfl (Or.inl rfl)) (pgs_cons (pg_name (i := 3) hnd rfl (Or.inl rfl)) pgs_nil)))
        (tg_tup (tgs_cons (tg_name 2) (tgs_cons (tg_name 3) tgs_nil)) two_len) (by decide) (by decide) [.is (.tup l), .is (.tup l), .no, .no] rfl ?_
      refine wx_zipT (by assumption) (by rfl) ?_
      repeat wtm_at "go"
      refine ⟨l, l, rfl, ?_, fun i es => es = List.replicate i (.bl true), rfl, fun i d es hd he => ?_, fun es he => ?_⟩
      · rw [zipD_len]; omega
      · obtain ⟨x, hx, rfl⟩ := zip_self hd
        subst he
        refine ⟨[x, x], rfl, x, [x], rfl, x, [], rfl, rfl, ?_⟩
        show EB _ _ _ _ _
        intro s0 H0 C cl fp
        repeat wtm_at "go"
        refine ⟨x, rfl, hs'.2 x hx, ?_⟩
        show List.replicate i (D.bl true) ++ [D.bl true] = _
        rw [List.replicate_succ']
      · subst he
        repeat wtm_at "go"
        refine ⟨List.replicate _ true, by rw [List.map_replicate], ?_⟩
        simpa using hP
    case lst l =>
      have hs' : l.length ≤ 100000 ∧ ∀ x ∈ l, shp n x = true := by simpa [shp] using hs
      refine if_dec (fun _ => ?_) fun h => absurd rfl h
      repeat wtm_at "go"
      refine ex_lc (own := oSame) (js := [2, 3]) rfl hnd (blkOk_by (N := nSame) (sc := defScope sSame) (by decide +kernel)) (fun _ _ _ _ _ => pg_tup rfl (pgs_cons (pg_name (i := 2) hnd rfl (Or.inl rfl)) (pgs_cons (pg_name (i := 3) hnd rfl (Or.inl rfl)) pgs_nil)))
        (tg_tup (tgs_cons (tg_name 2) (tgs_cons (tg_name 3) tgs_nil)) two_len) (by decide) (by decide) [.is (.lst l), .is (.lst l), .no, .no] rfl ?_
      refine wx_zipL (by assumption) (by rfl) ?_
      repeat wtm_at "go"
      refine ⟨l, l, rfl, ?_, fun i es => es = List.replicate i (.bl true), rfl, fun i d es hd he => ?_, fun es he => ?_⟩
      · rw [zipD_len]; omega
      · obtain ⟨x, hx, rfl⟩ := zip_self hd
        subst he
        refine ⟨[x, x], rfl, x, [x], rfl, x, [], rfl, rfl, ?_⟩
        show EB _ _ _ _ _
        intro s0 H0 C cl fp
        repeat wtm_at "go"
        refine ⟨x, rfl, hs'.2 x hx, ?_⟩
        show List.replicate i (D.bl true) ++ [D.bl true] = _
        rw [List.replicate_succ']
      · subst he
        repeat wtm_at "go"
        refine ⟨List.replicate _ true, by rw [List.map_replicate], ?_⟩
        simpa using hP
    all_goals first | exact hP | simpa using hP
end
end G
set_option Elab.async false
set_option linter.all false
set_option maxRecDepth 100000
set_option maxHeartbeats 4000000
namespace G
open PySem PySem.Spec PyProof.Rows L2
local macro_rules | `(tactic| wtm_at "vis") => `(tactic| first | exact Or.inl rfl | exact Or.inr (Or.inl rfl) | exact Or.inr (Or.inr rfl))
local macro_rules | `(tactic| wtm_at "cal") => `(tactic| first | assumption | exact CallOk.blk (by assumption) | exact CallOkK.blk (by assumption) | exact ConstOk.blk (by assumption))
local macro_rules | `(tactic| wtm_at "nm") => `(tactic| first
  | refine ex_name 0 (by assumption) (by with_reducible rfl) (by with_reducible rfl) (by wtm_at "vis") ?_
  | refine ex_name 1 (by assumption) (by with_reducible rfl) (by with_reducible rfl) (by wtm_at "vis") ?_
  | refine ex_name 2 (by assumption) (by with_reducible rfl) (by with_reducible rfl) (by wtm_at "vis") ?_
  | refine ex_name 3 (by assumption) (by with_reducible rfl) (by with_reducible rfl) (by wtm_at "vis") ?_
  | refine ex_name 4 (by assumption) (by with_reducible rfl) (by with_reducible rfl) (by wtm_at "vis") ?_
  | refine ex_name 5 (by assumption) (by with_reducible rfl) (by with_reducible rfl) (by wtm_at "vis") ?_
  | refine ex_name 6 (by assumption) (by with_reducible rfl) (by with_reducible rfl) (by wtm_at "vis") ?_
  | refine ex_name 7 (by assumption) (by with_reducible rfl) (by with_reducible rfl) (by wtm_at "vis") ?_
  | refine ex_name 8 (by assumption) (by with_reducible rfl) (by with_reducible rfl) (by wtm_at "vis") ?_
  | refine ex_name 9 (by assumption) (by with_reducible rfl) (by with_reducible rfl) (by wtm_at "vis") ?_
  | refine ex_name 10 (by assumption) (by with_reducible rfl) (by with_reducible rfl) (by wtm_at "vis") ?_
  | refine ex_name 11 (by assumption) (by with_reducible rfl) (by with_reducible rfl) (by wtm_at "vis") ?_
  | refine ex_name 12 (by assumption) (by with_reducible rfl) (by with_reducible rfl) (by wtm_at "vis") ?_
  | refine ex_name 13 (by assumption) (by with_reducible rfl) (by with_reducible rfl) (by wtm_at "vis") ?_
  | refine ex_name 14 (by assumption) (by with_reducible rfl) (by with_reducible rfl) (by wtm_at "vis") ?_
  | refine ex_name 15 (by assumption) (by with_reducible rfl) (by with_reducible rfl) (by wtm_at "vis") ?_
  | refine ex_name 16 (by assumption) (by with_reducible rfl) (by with_reducible rfl) (by wtm_at "vis") ?_
  | refine ex_name 17 (by assumption) (by with_reducible rfl) (by with_reducible rfl) (by wtm_at "vis") ?_
  | refine ex_name 18 (by assumption) (by with_reducible rfl) (by with_reducible rfl) (by wtm_at "vis") ?_
  | refine ex_name 19 (by assumption) (by with_reducible rfl) (by with_reducible rfl) (by wtm_at "vis") ?_
  | refine ex_name 20 (by assumption) (by with_reducible rfl) (by with_reducible rfl) (by wtm_at "vis") ?_
  | refine ex_name 21 (by assumption) (by with_reducible rfl) (by with_reducible rfl) (by wtm_at "vis") ?_
  | refine ex_name 22 (by assumption) (by with_reducible rfl) (by with_reducible rfl) (by wtm_at "vis") ?_
  | refine ex_name 23 (by assumption) (by with_reducible rfl) (by with_reducible rfl) (by wtm_at "vis") ?_)
local macro_rules | `(tactic| wtm_at "kb") => `(tactic| first | exact kb0 | exact kb1 | exact kb2 | exact kb3 | exact kb4 | exact kb5 | exact kb6 | exact kb7 | exact kb8 | exact kb9 | exact kb10 | exact kb11 | exact kb12 | exact kb13 | exact kb14 | exact kb15 | exact kb16 | exact kb17 | exact kb18 | exact kb19 | exact kb20 | exact kb21 | exact kb22 | exact kb23 | exact kb24 | exact kb25 | exact kb26 | exact kb27 | exact kb28 | exact kb29)
local macro_rules | `(tactic| wtm_at "loc") => `(tactic| first | exact Or.inl rfl | exact Or.inr rfl)
local macro_rules | `(tactic| wtm_at "set") => `(tactic| first
  | refine s_set 0 (by assumption) (by assumption) (by with_reducible rfl) (by wtm_at "loc") ?_
  | refine s_set 1 (by assumption) (by assumption) (by with_reducible rfl) (by wtm_at "loc") ?_
  | refine s_set 2 (by assumption) (by assumption) (by with_reducible rfl) (by wtm_at "loc") ?_
  | refine s_set 3 (by assumption) (by assumption) (by with_reducible rfl) (by wtm_at "loc") ?_
  | refine s_set 4 (by assumption) (by assumption) (by with_reducible rfl) (by wtm_at "loc") ?_
  | refine s_set 5 (by assumption) (by assumption) (by with_reducible rfl) (by wtm_at "loc") ?_
  | refine s_set 6 (by assumption) (by assumption) (by with_reducible rfl) (by wtm_at "loc") ?_
  | refine s_set 7 (by assumption) (by assumption) (by with_reducible rfl) (by wtm_at "loc") ?_
  | refine s_set 8 (by assumption) (by assumption) (by with_reducible rfl) (by wtm_at "loc") ?_
  | refine s_set 9 (by assumption) (by assumption) (by with_reducible rfl) (by wtm_at "loc") ?_
  | refine s_set 10 (by assumption) (by assumption) (by with_reducible rfl) (by wtm_at "loc") ?_
  | refine s_set 11 (by assumption) (by assumption) (by with_reducible rfl) (by wtm_at "loc") ?_
  | refine s_set 12 (by assumption) (by assumption) (by with_reducible rfl) (by wtm_at "loc") ?_
  | refine s_set 13 (by assumption) (by assumption) (by with_reducible rfl) (by wtm_at "loc") ?_
  | refine s_set 14 (by assumption) (by assumption) (by with_reducible rfl) (by wtm_at "loc") ?_
  | refine s_set 15 (by assumption) (by assumption) (by with_reducible rfl) (by wtm_at "loc") ?_
  | refine s_set 16 (by assumption) (by assumption) (by with_reducible rfl) (by wtm_at "loc") ?_
  | refine s_set 17 (by assumption) (by assumption) (by with_reducible rfl) (by wtm_at "loc") ?_
  | refine s_set 18 (by assumption) (by assumption) (by with_reducible rfl) (by wtm_at "loc") ?_
  | refine s_set 19 (by assumption) (by assumption) (by with_reducible rfl) (by wtm_at "loc") ?_
  | refine s_set 20 (by assumption) (by assumption) (by with_reducible rfl) (by wtm_at "loc") ?_
  | refine s_set 21 (by assumption) (by assumption) (by with_reducible rfl) (by wtm_at "loc") ?_
  | refine s_set 22 (by assumption) (by assumption) (by with_reducible rfl) (by wtm_at "loc") ?_
  | refine s_set 23 (by assumption) (by assumption) (by with_reducible rfl) (by wtm_at "loc") ?_)
local macro_rules | `(tactic| wtm_at "ex") => `(tactic| first
  | ((with_reducible show EX _ (PySem.Expr.Name "int" _) _ _); refine ex_ty (by assumption) (by rfl) bt_int ?_)
  | ((with_reducible show EX _ (PySem.Expr.Name "str" _) _ _); refine ex_ty (by assumption) (by rfl) bt_str ?_)
  | ((with_reducible show EX _ (PySem.Expr.Name "bool" _) _ _); refine ex_ty (by assumption) (by rfl) bt_bool ?_)
  | ((with_reducible show EX _ (PySem.Expr.Name "list" _) _ _); refine ex_ty (by assumption) (by rfl) bt_list ?_)
  | ((with_reducible show EX _ (PySem.Expr.Name "tuple" _) _ _); refine ex_ty (by assumption) (by rfl) bt_tuple ?_)
  | ((with_reducible show EX _ (PySem.Expr.Name _ _) _ _); first | wtm_at "nm" | refine ex_glob (by wtm_at "cal") (by rfl) ?_)
  | ((with_reducible show EX _ (PySem.Expr.Constant (PySem.Const.int _) _ _) _ _); refine ex_int ?_)
  | ((with_reducible show EX _ (PySem.Expr.Constant (PySem.Const.str _) _ _) _ _); refine ex_str ?_)
  | ((with_reducible show EX _ (PySem.Expr.Constant (PySem.Const.bool _) _ _) _ _); refine ex_bl ?_)
  | ((with_reducible show EX _ (PySem.Expr.Constant PySem.Const.none _ _) _ _); refine ex_non ?_)
  | ((with_reducible show EX _ (PySem.Expr.BinOp _ PySem.Operator.Add _ _) _ _); refine ex_bin od_add ?_)
  | ((with_reducible show EX _ (PySem.Expr.BinOp _ PySem.Operator.Sub _ _) _ _); refine ex_bin od_sub ?_)
  | ((with_reducible show EX _ (PySem.Expr.BinOp _ PySem.Operator.Mult _ _) _ _); refine ex_bin od_mul ?_)
  | ((with_reducible show EX _ (PySem.Expr.BinOp _ PySem.Operator.Mod _ _) _ _); refine ex_bin od_mod ?_)
  | ((with_reducible show EX _ (PySem.Expr.BinOp _ PySem.Operator.FloorDiv _ _) _ _); refine ex_bin od_fdiv ?_)
  | ((with_reducible show EX _ (PySem.Expr.BinOp _ PySem.Operator.Pow _ _) _ _); refine ex_bin od_pow ?_)
  | ((with_reducible show EX _ (PySem.Expr.Compare _ [PySem.CmpOp.Eq] _ _) _ _); refine ex_cmp od_eq ?_)
  | ((with_reducible show EX _ (PySem.Expr.Compare _ [PySem.CmpOp.NotEq] _ _) _ _); refine ex_cmp od_ne ?_)
  | ((with_reducible show EX _ (PySem.Expr.Compare _ [PySem.CmpOp.Lt] _ _) _ _); refine ex_cmp od_lt ?_)
  | ((with_reducible show EX _ (PySem.Expr.Compare _ [PySem.CmpOp.LtE] _ _) _ _); refine ex_cmp od_le ?_)
  | ((with_reducible show EX _ (PySem.Expr.Compare _ [PySem.CmpOp.Gt] _ _) _ _); refine ex_cmp od_gt ?_)
  | ((with_reducible show EX _ (PySem.Expr.Compare _ [PySem.CmpOp.GtE] _ _) _ _); refine ex_cmp od_ge ?_)
  | ((with_reducible show EX _ (PySem.Expr.Compare _ [PySem.CmpOp.Is] _ _) _ _); refine ex_cmp od_is ?_)
  | ((with_reducible show EX _ (PySem.Expr.Compare _ [PySem.CmpOp.IsNot] _ _) _ _); refine ex_cmp od_isnot ?_)
  | ((with_reducible show EX _ (PySem.Expr.Compare _ [PySem.CmpOp.LtE, PySem.CmpOp.LtE] _ _) _ _); refine ex_chain od_le od_le ?_)
  | ((with_reducible show EX _ (PySem.Expr.UnaryOp PySem.UnaryOp.USub _ _) _ _); refine ex_neg ?_)
  | ((with_reducible show EX _ (PySem.Expr.UnaryOp PySem.UnaryOp.Not _ _) _ _); refine ex_not ?_)
  | ((with_reducible show EX _ (PySem.Expr.BoolOp PySem.BoolOp.And (_ :: _ :: _) _) _ _); refine ex_and ?_)
  | ((with_reducible show EX _ (PySem.Expr.BoolOp PySem.BoolOp.Or (_ :: _ :: _) _) _ _); refine ex_or ?_)
  | ((with_reducible show EX _ (PySem.Expr.BoolOp _ [_] _) _ _); refine ex_one ?_)
  | ((with_reducible show EX _ (PySem.Expr.IfExp _ _ _ _) _ _); refine ex_ifExp ?_)
  | ((with_reducible show EX _ (PySem.Expr.Tuple _ _ _) _ _); refine ex_tup ?_)
  | ((with_reducible show EX _ (PySem.Expr.List _ _) _ _); refine ex_lst ?_)
  | ((with_reducible show AX _ (_ :: _) _ _); refine ax_cons ?_)
  | ((with_reducible show AX _ [] _ _); refine ax_nil ?_)
  | ((with_reducible show KX _ (_ :: _) _ _); refine kx_cons ?_)
  | ((with_reducible show KX _ [] _ _); refine kx_nil ?_)
  | ((with_reducible show EX _ (PySem.Expr.Call (PySem.Expr.Name "isinstance" _) [_, PySem.Expr.Tuple [_, _] _ _] [] _) _ _); refine ex_isi2 (by assumption) (by rfl) bt_isi ?_)
  | ((with_reducible show EX _ (PySem.Expr.Call (PySem.Expr.Name "isinstance" _) _ [] _) _ _); refine ex_bi bi_isi (by assumption) (by rfl) bt_isi ?_)
  | ((with_reducible show EX _ (PySem.Expr.Call (PySem.Expr.Name "len" _) _ [] _) _ _); refine ex_bi bi_len (by assumption) (by rfl) bt_len ?_)
  | ((with_reducible show EX _ (PySem.Expr.Call (PySem.Expr.Name "abs" _) _ [] _) _ _); refine ex_bi bi_abs (by assumption) (by rfl) bt_abs ?_)
  | ((with_reducible show EX _ (PySem.Expr.Call (PySem.Expr.Name "all" _) _ [] _) _ _); refine ex_bi (bi_all rfl) (by assumption) (by rfl) bt_all ?_)
  | ((with_reducible show EX _ (PySem.Expr.Call (PySem.Expr.Name "int" _) _ [] _) _ _); refine ex_bt bi_int (by assumption) (by rfl) bt_int ?_)
  | ((with_reducible show EX _ (PySem.Expr.Call (PySem.Expr.Name "str" _) _ [] _) _ _); refine ex_bt bi_str (by assumption) (by rfl) bt_str ?_)
  | ((with_reducible show EX _ (PySem.Expr.Call (PySem.Expr.Name "list" _) _ [] _) _ _); refine ex_bt bi_list (by assumption) (by rfl) bt_list ?_)
  | ((with_reducible show EX _ (PySem.Expr.Call (PySem.Expr.Name "tuple" _) _ [] _) _ _); refine ex_bt bi_tuple (by assumption) (by rfl) bt_tuple ?_)
  | ((with_reducible show EX _ (PySem.Expr.Call (PySem.Expr.Name "gcd" _) _ [] _) _ _); refine ex_bf bi_gcd (by assumption) (by rfl) ?_)
  | ((with_reducible show EX _ (PySem.Expr.Call (PySem.Expr.Name _ _) (_ :: _) [] _) _ _); refine ex_call (by wtm_at "cal") (by rfl) ?_)
  | ((with_reducible show EX _ (PySem.Expr.Call (PySem.Expr.Name _ _) [] (_ :: _) _) _ _); refine ex_callK0 (by wtm_at "cal") (by rfl) ?_)
  | ((with_reducible show EX _ (PySem.Expr.Call (PySem.Expr.Name _ _) (_ :: _) (_ :: _) _) _ _); refine ex_callK (by wtm_at "cal") (by rfl) ?_)
  | ((with_reducible show EX _ (PySem.Expr.Subscript _ _ _) _ _); refine ex_ix ?_))
local macro_rules | `(tactic| wtm_at "tx") => `(tactic| first
  | ((with_reducible show TX _ (PySem.Expr.Compare _ [PySem.CmpOp.Eq] _ _) _ _); refine tx_cmp od_eq ?_)
  | ((with_reducible show TX _ (PySem.Expr.Compare _ [PySem.CmpOp.NotEq] _ _) _ _); refine tx_cmp od_ne ?_)
  | ((with_reducible show TX _ (PySem.Expr.Compare _ [PySem.CmpOp.Lt] _ _) _ _); refine tx_cmp od_lt ?_)
  | ((with_reducible show TX _ (PySem.Expr.Compare _ [PySem.CmpOp.LtE] _ _) _ _); refine tx_cmp od_le ?_)
  | ((with_reducible show TX _ (PySem.Expr.Compare _ [PySem.CmpOp.Gt] _ _) _ _); refine tx_cmp od_gt ?_)
  | ((with_reducible show TX _ (PySem.Expr.Compare _ [PySem.CmpOp.GtE] _ _) _ _); refine tx_cmp od_ge ?_)
  | ((with_reducible show TX _ (PySem.Expr.Compare _ [PySem.CmpOp.Is] _ _) _ _); refine tx_cmp od_is ?_)
  | ((with_reducible show TX _ (PySem.Expr.Compare _ [PySem.CmpOp.IsNot] _ _) _ _); refine tx_cmp od_isnot ?_)
  | ((with_reducible show TX _ (PySem.Expr.Compare _ [PySem.CmpOp.LtE, PySem.CmpOp.LtE] _ _) _ _); refine tx_chain od_le od_le ?_)
  | ((with_reducible show TX _ (PySem.Expr.UnaryOp PySem.UnaryOp.Not _ _) _ _); refine tx_not ?_)
  | ((with_reducible show TX _ (PySem.Expr.BoolOp _ _ _) _ _); refine tx_w ?_)
  | ((with_reducible show TW _ (PySem.Expr.BoolOp PySem.BoolOp.And (_ :: _ :: _) _) _ _); refine tw_and ?_)
  | ((with_reducible show TW _ (PySem.Expr.BoolOp PySem.BoolOp.Or (_ :: _ :: _) _) _ _); refine tw_or ?_)
  | ((with_reducible show TW _ (PySem.Expr.BoolOp PySem.BoolOp.And [_] _) _ _); refine tw_and1 ?_)
  | ((with_reducible show TW _ (PySem.Expr.BoolOp PySem.BoolOp.Or [_] _) _ _); refine tw_or1 ?_)
  | ((with_reducible show TX _ _ _ _); refine tx_truth ?_))
local macro_rules | `(tactic| wtm_at "st") => `(tactic| first
  | ((with_reducible show SX _ [_] _ _); refine sx_one ?_)
  | ((with_reducible show SX _ (_ :: _) _ _); refine sx_cons ?_)
  | ((with_reducible show SX _ [] _ _); refine sx_nil ?_)
  | ((with_reducible show S1 _ (PySem.Stmt.Return (some _) _) _ _); refine s_ret ?_)
  | ((with_reducible show S1 _ (PySem.Stmt.If _ _ _ _) _ _); refine s_if ?_)
  | ((with_reducible show S1 _ (PySem.Stmt.Expr _ _) _ _); refine s_expr ?_)
  | ((with_reducible show S1 _ (PySem.Stmt.Pass _) _ _); refine s_pass ?_)
  | ((with_reducible show S1 _ (PySem.Stmt.Assign [PySem.Expr.Name _ _] _ _) _ _); wtm_at "set"))
local macro_rules | `(tactic| wtm_at "op") => `(tactic| with_reducible first
  | refine o_add ?_
  | refine o_sub ?_
  | refine o_lt ?_
  | refine o_le ?_
  | refine o_gt ?_
  | refine o_ge ?_
  | refine o_is ?_
  | refine o_isnot ?_
  | refine o_lenl ?_
  | refine o_lent ?_
  | refine o_abs ?_
  | refine o_int ?_
  | refine o_listl ?_
  | refine o_listt ?_
  | refine o_tupl ?_
  | refine o_tupt ?_
  | refine o_all ?_
  | refine o_gcd ?_
  | refine o_asB ?_
  | refine o_asI ?_
  | refine o_asL ?_
  | refine o_asT ?_
  | refine o_truB ?_
  | refine o_truN ?_
  | refine o_truL ?_
  | refine o_truT ?_
  | refine if_t ?_
  | refine if_f ?_
  | refine if_nf ?_
  | refine if_nt ?_)
local macro_rules | `(tactic| wtm_at "op2") => `(tactic| first
  | ((with_reducible show if _ = true then _ else _); first | refine if_ev_t rfl ?_ | refine if_ev_f rfl ?_)
  | ((with_reducible show wIsi [_, D.ty _] _); refine o_isi rfl (by wtm_at "kb") ?_)
  | ((with_reducible show wEq _ _ _); refine o_eq rfl ?_)
  | ((with_reducible show wNe _ _ _); refine o_ne rfl ?_)
  | ((with_reducible show wIx (D.lst _) (D.int _) _); refine o_ixl rfl ?_)
  | ((with_reducible show wIx (D.tup _) (D.int _) _); refine o_ixt rfl ?_)
  | ((with_reducible show wPow _ _ _); refine o_pow ⟨by decide, by decide, by decide⟩ ?_)
  | ((with_reducible show (_ ≤ 100000) ∧ _); refine ⟨Nat.le_of_ble_eq_true rfl, ?_⟩)
  | ((with_reducible show ∃ n1 n2 t k1 k2, _); refine o_isi2 rfl (by wtm_at "kb") (by wtm_at "kb") ?_))
local macro_rules | `(tactic| wtm_at "go") => `(tactic| first | wtm_at "ex" | wtm_at "op" | wtm_at "op2" | wtm_at "tx" | wtm_at "st")
local macro_rules | `(tactic| wtm_at "ex") => `(tactic| first
  | ((with_reducible show EX _ (PySem.Expr.Compare _ [PySem.CmpOp.In] _ _) _ _); refine ex_cmp od_in ?_)
  | ((with_reducible show EX _ (PySem.Expr.Attribute _ _ _) _ _); refine ex_fld ?_)
  | ((with_reducible show EX _ (PySem.Expr.Call (PySem.Expr.Name _ _) (_ :: _) [] _) _ _); refine ex_make (by assumption) (by rfl) ?_)
  | ((with_reducible show EX _ (PySem.Expr.Call (PySem.Expr.Name _ _) [] [] _) _ _); first | refine ex_make0 (by assumption) (by rfl) ?_ | refine ex_call0 (by wtm_at "cal") (by rfl) ?_))
local macro_rules | `(tactic| wtm_at "op2") => `(tactic| first
  | ((with_reducible show wIn (D.str _) (D.lst _) _); refine o_in rfl ?_))
local macro_rules | `(tactic| wtm_at "tx") => `(tactic| first
  | ((with_reducible show TX _ (PySem.Expr.Compare _ [PySem.CmpOp.In] _ _) _ _); refine tx_cmp od_in ?_))
abbrev sIsNumber : Stmt := topS 2
abbrev sIsList : Stmt := topS 5
theorem scIsList : FnScope ["value"] ["value"] (defScope sIsList) := ⟨rfl, rfl, rfl, by decide +kernel, rfl, by decide +kernel, by decide +kernel⟩
abbrev sIsBetween : Stmt := topS 3
abbrev sIsTuple : Stmt := topS 4
abbrev sIsName : Stmt := topS 19
abbrev sIsPart : Stmt := topS 20
abbrev sIsTrait : Stmt := topS 21
theorem scIsNumber : FnScope ["value"] ["value"] (defScope sIsNumber) := ⟨rfl, rfl, rfl, by decide +kernel, rfl, by decide +kernel, by decide +kernel⟩
theorem scIsBetween : FnScope ["value", "least", "most"] ["value", "least", "most"] (defScope sIsBetween) := ⟨rfl, rfl, rfl, by decide +kernel, rfl, by decide +kernel, by decide +kernel⟩
theorem scIsTuple : FnScope ["value", "many"] ["value", "many"] (defScope sIsTuple) := ⟨rfl, rfl, rfl, by decide +kernel, rfl, by decide +kernel, by decide +kernel⟩
abbrev nName : List Str := ["value", "letter"]
abbrev nPart : List Str := ["row", "sizes", "size"]
abbrev nTrait : List Str := ["row", "_", "ends", "is_flag", "is_even"]
theorem scIsName : FnScope nName ["value"] (defScope sIsName) := ⟨rfl, rfl, rfl, by decide +kernel, rfl, by decide +kernel, by decide +kernel⟩
theorem scIsPart : FnScope nPart ["row"] (defScope sIsPart) := ⟨rfl, rfl, rfl, by decide +kernel, rfl, by decide +kernel, by decide +kernel⟩
theorem scIsTrait : FnScope nTrait ["row"] (defScope sIsTrait) := ⟨rfl, rfl, rfl, by decide +kernel, rfl, by decide +kernel, by decide +kernel⟩
def isInt : D → Bool
  | .int _ => true
  | _ => false
def isTupOf : D → Int → Bool
  | .tup l, n => decide ((l.length : Int) = n)
  | _, _ => false
def wholeB : D → Int → Int → Bool
  | .int i, lo, hi => decide (lo ≤ i) && decide (i ≤ hi)
  | _, _, _ => false
def lettersS : Str := "abcdefghijklmnopqrstuvwxyz"
def isNameD : D → Bool
  | .str s => (decide (1 ≤ (s.length : Int)) && decide ((s.length : Int) ≤ 8)) && s.cps.toList.all fun c => decide (c ∈ lettersS.cps.toList)
  | _ => false
/-- plain data of a depth, no text long -/
def shs : Nat → D → Bool
  | _, .non | _, .bl _ | _, .int _ => true
  | _, .str s => decide (s.length ≤ 1000)
  | n + 1, .tup l => decide (l.length ≤ 1000) && l.all (shs n)
  | n + 1, .lst l => decide (l.length ≤ 1000) && l.all (shs n)
  | _, _ => false
theorem shs_plain {n : Nat} {d : D} (h : shs n d = true) : plain d = true := by
  cases n <;> cases d <;> first | rfl | exact Bool.noConfusion h
theorem shs_str {n : Nat} {s : Str} (h : shs n (.str s) = true) : s.length ≤ 1000 := by
  cases n <;> simpa [shs] using h
def WisNumber : WA := fun ds P => ∃ d, ds = [d] ∧ plain d = true ∧ P (.bl (isInt d))
def WisTuple : WA := fun ds P => ∃ d n, ds = [d, .int n] ∧ plain d = true ∧ P (.bl (isTupOf d n))
def WisBetween : WA := fun ds P => ∃ d lo hi, ds = [d, .int lo, .int hi] ∧ plain d = true ∧ P (.bl (wholeB d lo hi))
def WisName : WA := fun ds P => ∃ n d, ds = [d] ∧ shs n d = true ∧ P (.bl (isNameD d))
def wInS : W2 := fun a b P => ∃ c z, a = .str ⟨#[c]⟩ ∧ b = .str z ∧ P (.bl (decide (c ∈ z.cps.toList)))
theorem od_inS {X : Cx} : OpD X (compareOp .In) wInS := by
  intro S B O H0 H σ Γ P x y a b st r1 r2 ⟨c, z, ea, eb, h⟩
  subst ea eb
  cases r1
  cases r2
  exact ⟨_, op_in_sign, fun Q k => ⟨c, z, rfl, rfl, k _ _ H .refl (.bl _) h⟩⟩
section
variable {P : Program} {w : World} {K : PySem.W.Frag} {mg : Str → Option Value} {base : Heap}
theorem df_isNumber (T : Top K mg "is_number" sIsNumber ["value"]) (m1 : mg "isinstance" = none) (m2 : mg "int" = none) (m3 : mg "bool" = none) : Df P w K mg base "is_number" WisNumber 1 :=
  T.df scIsNumber (fun _ _ ⟨_, h, _⟩ => by rw [h]; rfl) fun f cdv A outer s H E hr hnd ds Po' hw hl => by
  obtain ⟨d, rfl, hp, hP⟩ := hw
  have hX : (cxOf CX0 P w K mg base ["value"] "is_number" (defScope sIsNumber) f cdv A outer s H E).nox.N = (["value"] : List Str) := rfl
  show SX _ (_ :: _) [_] _
  cases d <;> try exact Bool.noConfusion hp
  all_goals (repeat wtm_at "go")
  all_goals exact hP
theorem df_isTuple (T : Top K mg "is_tuple_of" sIsTuple ["value", "many"]) (m1 : mg "isinstance" = none) (m2 : mg "tuple" = none) (m3 : mg "len" = none) : Df P w K mg base "is_tuple_of" WisTuple 1 :=
  T.df scIsTuple (fun _ _ ⟨_, _, h, _⟩ => by rw [h]; rfl) fun f cdv A outer s H E hr hnd ds Po' hw hl => by
  obtain ⟨d, n, rfl, hp, hP⟩ := hw
  have hX : (cxOf CX0 P w K mg base ["value", "many"] "is_tuple_of" (defScope sIsTuple) f cdv A outer s H E).nox.N = (["value", "many"] : List Str) := rfl
  show SX _ (_ :: _) [_, _] _
  cases d <;> try exact Bool.noConfusion hp
  all_goals (repeat wtm_at "go")
  all_goals exact hP
theorem df_isBetween (T : Top K mg "is_between" sIsBetween ["value", "least", "most"]) (d1 : Df P w K mg base "is_number" WisNumber 1) : Df P w K mg base "is_between" WisBetween 2 :=
  T.df scIsBetween (fun _ _ ⟨_, _, _, h, _⟩ => by rw [h]; rfl) fun f cdv A outer s H E hr hnd ds Po' hw hl => by
  obtain ⟨d, lo, hi, rfl, hp, hP⟩ := hw
  have hX : (cxOf CX0 P w K mg base ["value", "least", "most"] "is_between" (defScope sIsBetween) f cdv A outer s H E).nox.N = (["value", "least", "most"] : List Str) := rfl
  have c1 : CallOk (cxOf CX0 P w K mg base ["value", "least", "most"] "is_between" (defScope sIsBetween) f cdv A outer s H E).nox "is_number" WisNumber := d1.call hr
  show SX _ (_ :: _) [_, _, _] _
  repeat wtm_at "go"
  refine ⟨d, rfl, hp, ?_⟩
  cases d <;> try exact Bool.noConfusion hp
  all_goals (repeat wtm_at "go")
  case int i =>
    have hP' : Po' (.bl (decide (lo ≤ i) && decide (i ≤ hi))) := hP
    refine if_d (fun h => ?_) fun h => ?_
    · repeat wtm_at "go"
      rw [h, Bool.true_and] at hP'
      exact hP'
    · rw [h, Bool.false_and] at hP'
      exact hP'
  all_goals exact hP
section
local macro_rules | `(tactic| wtm_at "ex") => `(tactic| first
  | ((with_reducible show EX _ (PySem.Expr.Compare _ [PySem.CmpOp.In] _ _) _ _); refine ex_cmp od_inS ?_))
theorem df_isName (T : Top K mg "is_name" sIsName ["value"]) (m1 : mg "isinstance" = none) (m2 : mg "str" = none) (m3 : mg "len" = none) (m4 : mg "all" = none) (z1 : ∃ v u, mg "LONGEST_NAME" = some u ∧ RelV v u ∧ ∀ S M H, Rep K S M H v (.int 8)) (z2 : ∃ v u, mg "LETTERS" = some u ∧ RelV v u ∧ ∀ S M H, Rep K S M H v (.str lettersS)) : Df P w K mg base "is_name" WisName 1 :=
  T.df scIsName (fun _ _ ⟨_, _, h, _⟩ => by rw [h]; rfl) fun f cdv A outer s H E hr hnd ds Po' hw hl => by
  obtain ⟨n, d, rfl, hp, hP⟩ := hw
  have hX : (cxOf CX0 P w K mg base nName "is_name" (defScope sIsName) f cdv A outer s H E).nox.N = nName := rfl
  have c1 : ConstOk (cxOf CX0 P w K mg base nName "is_name" (defScope sIsName) f cdv A outer s H E).nox "LONGEST_NAME" (.int 8) := ⟨z1⟩
  have c2 : ConstOk (cxOf CX0 P w K mg base nName "is_name" (defScope sIsName) f cdv A outer s H E).nox "LETTERS" (.str lettersS) := ⟨z2⟩
  show SX _ (_ :: _) [_, _] _
  have hp' := shs_plain hp
  cases d <;> try exact Bool.noConfusion hp'
  all_goals (repeat wtm_at "go")
  case str z =>
    have hz := shs_str hp
    have hP' : Po' (.bl ((decide (1 ≤ (z.length : Int)) && decide ((z.length : Int) ≤ 8)) && z.cps.toList.all fun c => decide (c ∈ lettersS.cps.toList))) := hP
    refine o_lens (Nat.le_trans hz (by decide)) ?_
    repeat wtm_at "go"
    refine if_d (fun h1 => ?_) fun h1 => ?_
    · rw [h1, Bool.true_and] at hP'
      repeat wtm_at "go"
      refine if_d (fun h2 => ?_) fun h2 => ?_
      · have h2' : decide ((z.length : Int) ≤ 8) = false := by simpa using h2
        rw [h2', Bool.false_and] at hP'
        repeat wtm_at "go"
        exact hP'
      · have h2' : decide ((z.length : Int) ≤ 8) = true := by simpa using h2
        rw [h2', Bool.true_and] at hP'
        repeat wtm_at "go"
        refine ex_lc (own := [("letter", 1)]) (js := [1]) rfl hnd (blkOk_by (N := nName) (sc := defScope sIsName) (by decide +kernel)) (fun _ _ _ _ _ => pg_name (i := 1) hnd rfl (Or.inl rfl)) (tg_name 1) (by decide) (by decide) [.is (.str z), .no] rfl ?_
        refine wx_str ?_
        repeat wtm_at "go"
        refine ⟨z, rfl, by simp only [strD, List.length_map]; exact Nat.le_trans (show z.cps.toList.length ≤ 1000 by rw [Array.length_toList]; exact hz) (by decide), fun i es => es = (z.cps.toList.take i).map fun c => D.bl (decide (c ∈ lettersS.cps.toList)), rfl, fun i d es hd he => ?_, fun es he => ?_⟩
        · subst he
          obtain ⟨c, hc, rfl⟩ : ∃ c, z.cps.toList[i]? = some c ∧ d = .str ⟨#[c]⟩ := by
            unfold strD at hd
            rw [List.getElem?_map] at hd
            obtain ⟨c, hc, e⟩ := Option.map_eq_some_iff.mp hd
            exact ⟨c, hc, e.symm⟩
          show EB _ _ _ _ _
          intro s0 H0 C cl fp
          repeat wtm_at "go"
          refine ⟨c, lettersS, rfl, rfl, ?_⟩
          show _ ++ [_] = _
          rw [List.take_add_one, hc, List.map_append]
          rfl
        · subst he
          rw [List.take_of_length_le (by simp [strD])]
          repeat wtm_at "go"
          refine ⟨z.cps.toList.map fun c => decide (c ∈ lettersS.cps.toList), by rw [List.map_map]; rfl, ?_⟩
          rw [List.all_map]
          exact hP'
    · rw [h1, Bool.false_and, Bool.false_and] at hP'
      repeat wtm_at "go"
      exact hP'
  all_goals exact hP
end
theorem len2 : ∀ {l : List D}, (l.length : Int) = 2 → ∃ a b, l = [a, b]
  | [a, b], _ => ⟨a, b, rfl⟩
  | [], h => by simp at h
  | [_], h => by simp at h
  | _ :: _ :: _ :: _, h => by simp at h; omega
theorem tup_two {d : D} (h : isTupOf d 2 = true) : ∃ a b, d = .tup [a, b] := by
  unfold isTupOf at h
  split at h
  · obtain ⟨a, b, rfl⟩ := len2 (of_decide_eq_true h)
    exact ⟨a, b, rfl⟩
  · cases h
/-- all is_between of a list's items -/
def isPartD : D → Bool
  | .tup [n, .tup zs] => isNameD n && ((decide (1 ≤ (zs.length : Int)) && decide ((zs.length : Int) ≤ 3)) && zs.all fun z => wholeB z 1 (10 ^ 30))
  | _ => false
def WisPart : WA := fun ds P => ∃ d, ds = [d] ∧ shs 2 d = true ∧ P (.bl (isPartD d))
theorem df_isPart (T : Top K mg "is_part" sIsPart ["row"]) (d1 : Df P w K mg base "is_tuple_of" WisTuple 1) (d2 : Df P w K mg base "is_name" WisName 1) (d3 : Df P w K mg base "is_between" WisBetween 2) (m1 : mg "isinstance" = none) (m2 : mg "tuple" = none) (m3 : mg "len" = none) (m4 : mg "all" = none)
    (z1 : ∃ v u, mg "MOST_SIZES" = some u ∧ RelV v u ∧ ∀ S M H, Rep K S M H v (.int 3)) (z2 : ∃ v u, mg "GREATEST_SIZE" = some u ∧ RelV v u ∧ ∀ S M H, Rep K S M H v (.int (10 ^ 30))) : Df P w K mg base "is_part" WisPart 3 :=
  T.df (k := 2) scIsPart (fun _ _ ⟨_, h, _⟩ => by rw [h]; rfl) fun f cdv A outer s H E hr hnd ds Po' hw hl => by
  obtain ⟨d, rfl, hp, hP⟩ := hw
  have hX : (cxOf CX0 P w K mg base nPart "is_part" (defScope sIsPart) f cdv A outer s H E).nox.N = nPart := rfl
  have c1 : ConstOk (cxOf CX0 P w K mg base nPart "is_part" (defScope sIsPart) f cdv A outer s H E).nox "MOST_SIZES" (.int 3) := ⟨z1⟩
  have c2 : ConstOk (cxOf CX0 P w K mg base nPart "is_part" (defScope sIsPart) f cdv A outer s H E).nox "GREATEST_SIZE" (.int (10 ^ 30)) := ⟨z2⟩
  have c3 : CallOk (cxOf CX0 P w K mg base nPart "is_part" (defScope sIsPart) f cdv A outer s H E).nox "is_tuple_of" WisTuple := d1.call hr
  have c4 : CallOk (cxOf CX0 P w K mg base nPart "is_part" (defScope sIsPart) f cdv A outer s H E).nox "is_name" WisName := d2.call hr
  have c5 : CallOk (cxOf CX0 P w K mg base nPart "is_part" (defScope sIsPart) f cdv A outer s H E).nox "is_between" WisBetween := d3.call hr
  show SX _ (_ :: _) [_, _, _] _
  repeat wtm_at "go"
  refine ⟨d, 2, rfl, shs_plain hp, ?_⟩
  repeat wtm_at "go"
  refine if_d (fun h1 => ?_) fun h1 => ?_
  · have : isPartD d = false := by
      unfold isPartD
      split
      · simp [isTupOf] at h1
      · rfl
    rw [this] at hP
    repeat wtm_at "go"
    exact hP
  · obtain ⟨a, b, rfl⟩ := tup_two (d := d) (by simpa using h1)
    have hab : shs 1 a = true ∧ shs 1 b = true := by simpa [shs] using hp
    repeat wtm_at "go"
    refine ⟨1, a, rfl, hab.1, ?_⟩
    repeat wtm_at "go"
    refine if_d (fun h2 => ?_) fun h2 => ?_
    · have h2' : isNameD a = false := by simpa using h2
      have : isPartD (.tup [a, b]) = false := by
        cases b <;> simp [isPartD, h2']
      rw [this] at hP
      repeat wtm_at "go"
      exact hP
    · have h2' : isNameD a = true := by simpa using h2
      have hb := shs_plain hab.2
      cases b <;> try exact Bool.noConfusion hb
      all_goals (repeat wtm_at "go")
      case tup zs =>
        have hzs : zs.length ≤ 1000 ∧ ∀ x ∈ zs, shs 0 x = true := by simpa [shs] using hab.2
        have hP' : Po' (.bl (isNameD a && ((decide (1 ≤ (zs.length : Int)) && decide ((zs.length : Int) ≤ 3)) && zs.all fun z => wholeB z 1 (10 ^ 30)))) := hP
        rw [h2', Bool.true_and] at hP'
        refine if_d (fun h3 => ?_) fun h3 => ?_
        · rw [h3, Bool.true_and] at hP'
          repeat wtm_at "go"
          refine if_d (fun h4 => ?_) fun h4 => ?_
          · have h4' : decide ((zs.length : Int) ≤ 3) = false := by simpa using h4
            rw [h4', Bool.false_and] at hP'
            repeat wtm_at "go"
            exact hP'
          · have h4' : decide ((zs.length : Int) ≤ 3) = true := by simpa using h4
            rw [h4', Bool.true_and] at hP'
            repeat wtm_at "go"
            refine ex_lc (own := [("size", 2)]) (js := [2]) rfl hnd (blkOk_by (N := nPart) (sc := defScope sIsPart) (by decide +kernel)) (fun _ _ _ _ _ => pg_name (i := 2) hnd rfl (Or.inl rfl)) (tg_name 2) (by decide) (by decide) [.is (.tup [a, .tup zs]), .is (.tup zs), .no] rfl ?_
            refine wx_tup ?_
            repeat wtm_at "go"
            refine ⟨Nat.le_trans hzs.1 (by decide), fun i es => es = (zs.take i).map fun z => D.bl (wholeB z 1 (10 ^ 30)), rfl, fun i d es hd he => ?_, fun es he => ?_⟩
            · subst he
              show EB _ _ _ _ _
              intro s0 H0 C cl fp
              repeat wtm_at "go"
              refine ⟨d, 1, 10 ^ 30, rfl, shs_plain (hzs.2 d (List.mem_of_getElem? hd)), ?_⟩
              show _ ++ [_] = _
              rw [List.take_add_one, hd, List.map_append]
              rfl
            · subst he
              rw [List.take_length]
              repeat wtm_at "go"
              refine ⟨zs.map fun z => wholeB z 1 (10 ^ 30), by rw [List.map_map]; rfl, ?_⟩
              rw [List.all_map]
              exact hP'
        · rw [h3, Bool.false_and, Bool.false_and] at hP'
          repeat wtm_at "go"
          exact hP'
      all_goals exact hP
theorem len4 : ∀ {l : List D}, (l.length : Int) = 4 → ∃ a b c d, l = [a, b, c, d]
  | [a, b, c, d], _ => ⟨a, b, c, d, rfl⟩
  | [], h => by simp at h
  | [_], h => by simp at h
  | [_, _], h => by simp at h
  | [_, _, _], h => by simp at h
  | _ :: _ :: _ :: _ :: _ :: _, h => by simp at h; omega
theorem tup_four {d : D} (h : isTupOf d 4 = true) : ∃ a b c e, d = .tup [a, b, c, e] := by
  unfold isTupOf at h
  split at h
  · obtain ⟨a, b, c, e, rfl⟩ := len4 (of_decide_eq_true h)
    exact ⟨a, b, c, e, rfl⟩
  · cases h
def isBl : D → Bool
  | .bl _ => true
  | _ => false
def isTraitD : D → Bool
  | .tup [n, e, f, g] => isNameD n && (wholeB e 1 3 && (isBl f && isBl g))
  | _ => false
def WisTrait : WA := fun ds P => ∃ d, ds = [d] ∧ shs 2 d = true ∧ P (.bl (isTraitD d))
theorem df_isTrait (T : Top K mg "is_trait" sIsTrait ["row"]) (d1 : Df P w K mg base "is_tuple_of" WisTuple 1) (d2 : Df P w K mg base "is_name" WisName 1) (d3 : Df P w K mg base "is_between" WisBetween 2) (m1 : mg "isinstance" = none) (m2 : mg "bool" = none)
    (z1 : ∃ v u, mg "MOST_ENDS" = some u ∧ RelV v u ∧ ∀ S M H, Rep K S M H v (.int 3)) : Df P w K mg base "is_trait" WisTrait 3 :=
  T.df (k := 2) scIsTrait (fun _ _ ⟨_, h, _⟩ => by rw [h]; rfl) fun f cdv A outer s H E hr hnd ds Po' hw hl => by
  obtain ⟨d, rfl, hp, hP⟩ := hw
  have hX : (cxOf CX0 P w K mg base nTrait "is_trait" (defScope sIsTrait) f cdv A outer s H E).nox.N = nTrait := rfl
  have c1 : ConstOk (cxOf CX0 P w K mg base nTrait "is_trait" (defScope sIsTrait) f cdv A outer s H E).nox "MOST_ENDS" (.int 3) := ⟨z1⟩
  have c3 : CallOk (cxOf CX0 P w K mg base nTrait "is_trait" (defScope sIsTrait) f cdv A outer s H E).nox "is_tuple_of" WisTuple := d1.call hr
  have c4 : CallOk (cxOf CX0 P w K mg base nTrait "is_trait" (defScope sIsTrait) f cdv A outer s H E).nox "is_name" WisName := d2.call hr
  have c5 : CallOk (cxOf CX0 P w K mg base nTrait "is_trait" (defScope sIsTrait) f cdv A outer s H E).nox "is_between" WisBetween := d3.call hr
  show SX _ (_ :: _) [_, _, _, _, _] _
  repeat wtm_at "go"
  refine ⟨d, 4, rfl, shs_plain hp, ?_⟩
  repeat wtm_at "go"
  refine if_d (fun h1 => ?_) fun h1 => ?_
  · have : isTraitD d = false := by
      unfold isTraitD
      split
      · simp [isTupOf] at h1
      · rfl
    rw [this] at hP
    repeat wtm_at "go"
    exact hP
  · obtain ⟨a, b, c, e, rfl⟩ := tup_four (d := d) (by simpa using h1)
    have hab : shs 1 a = true ∧ shs 1 b = true ∧ shs 1 c = true ∧ shs 1 e = true := by simpa [shs] using hp
    have hP' : Po' (.bl (isNameD a && (wholeB b 1 3 && (isBl c && isBl e)))) := hP
    repeat wtm_at "go"
    refine ⟨1, a, rfl, hab.1, ?_⟩
    repeat wtm_at "go"
    refine if_d (fun h2 => ?_) fun h2 => ?_
    · have h2' : isNameD a = false := by simpa using h2
      rw [h2', Bool.false_and] at hP'
      repeat wtm_at "go"
      exact hP'
    · have h2' : isNameD a = true := by simpa using h2
      rw [h2', Bool.true_and] at hP'
      repeat wtm_at "go"
      refine s_asg (pg_tup rfl (pgs_cons (pg_name (i := 1) hnd rfl (Or.inl rfl)) (pgs_cons (pg_name (i := 2) hnd rfl (Or.inl rfl)) (pgs_cons (pg_name (i := 3) hnd rfl (Or.inl rfl)) (pgs_cons (pg_name (i := 4) hnd rfl (Or.inl rfl)) pgs_nil))))) (tg_tup (tgs_cons (tg_name 1) (tgs_cons (tg_name 2) (tgs_cons (tg_name 3) (tgs_cons (tg_name 4) tgs_nil)))) (fun ds Γ P h => by obtain ⟨a, r, rfl, b, r2, rfl, c, r3, rfl, d, r4, rfl, rfl, _⟩ := h; rfl)) ?_
      repeat wtm_at "go"
      refine ⟨_, rfl, _, _, rfl, _, _, rfl, _, _, rfl, _, _, rfl, rfl, ?_⟩
      show SX _ (_ :: _) [.is (.tup [a, b, c, e]), .is a, .is b, .is c, .is e] _
      repeat wtm_at "go"
      refine ⟨b, 1, 3, rfl, shs_plain hab.2.1, ?_⟩
      repeat wtm_at "go"
      refine if_d (fun h3 => ?_) fun h3 => ?_
      · rw [h3, Bool.true_and] at hP'
        have hc := shs_plain hab.2.2.1
        have he := shs_plain hab.2.2.2
        cases c <;> try exact Bool.noConfusion hc
        all_goals (repeat wtm_at "go")
        case bl q =>
          have hP2 : Po' (.bl (isBl e)) := by
            have e0 : (isBl (D.bl q) && isBl e) = isBl e := Bool.true_and _
            rw [e0] at hP'
            exact hP'
          cases e <;> try exact Bool.noConfusion he
          all_goals (repeat wtm_at "go")
          all_goals exact hP2
        all_goals exact hP'
      · rw [h3, Bool.false_and] at hP'
        exact hP'
end
end G
set_option Elab.async false
set_option linter.all false
set_option maxRecDepth 100000
set_option maxHeartbeats 4000000
namespace G
open PySem PySem.Spec PyProof.Rows L2
local macro_rules | `(tactic| wtm_at "vis") => `(tactic| first | exact Or.inl rfl | exact Or.inr (Or.inl rfl) | exact Or.inr (Or.inr rfl))
local macro_rules | `(tactic| wtm_at "cal") => `(tactic| first | assumption | exact CallOk.blk (by assumption) | exact CallOkK.blk (by assumption) | exact ConstOk.blk (by assumption))
local macro_rules | `(tactic| wtm_at "nm") => `(tactic| first
  | refine ex_name 0 (by assumption) (by with_reducible rfl) (by with_reducible rfl) (by wtm_at "vis") ?_
  | refine ex_name 1 (by assumption) (by with_reducible rfl) (by with_reducible rfl) (by wtm_at "vis") ?_
  | refine ex_name 2 (by assumption) (by with_reducible rfl) (by with_reducible rfl) (by wtm_at "vis") ?_
  | refine ex_name 3 (by assumption) (by with_reducible rfl) (by with_reducible rfl) (by wtm_at "vis") ?_
  | refine ex_name 4 (by assumption) (by with_reducible rfl) (by with_reducible rfl) (by wtm_at "vis") ?_
  | refine ex_name 5 (by assumption) (by with_reducible rfl) (by with_reducible rfl) (by wtm_at "vis") ?_
  | refine ex_name 6 (by assumption) (by with_reducible rfl) (by with_reducible rfl) (by wtm_at "vis") ?_
  | refine ex_name 7 (by assumption) (by with_reducible rfl) (by with_reducible rfl) (by wtm_at "vis") ?_
  | refine ex_name 8 (by assumption) (by with_reducible rfl) (by with_reducible rfl) (by wtm_at "vis") ?_
  | refine ex_name 9 (by assumption) (by with_reducible rfl) (by with_reducible rfl) (by wtm_at "vis") ?_
  | refine ex_name 10 (by assumption) (by with_reducible rfl) (by with_reducible rfl) (by wtm_at "vis") ?_
  | refine ex_name 11 (by assumption) (by with_reducible rfl) (by with_reducible rfl) (by wtm_at "vis") ?_
  | refine ex_name 12 (by assumption) (by with_reducible rfl) (by with_reducible rfl) (by wtm_at "vis") ?_
  | refine ex_name 13 (by assumption) (by with_reducible rfl) (by with_reducible rfl) (by wtm_at "vis") ?_
  | refine ex_name 14 (by assumption) (by with_reducible rfl) (by with_reducible rfl) (by wtm_at "vis") ?_
  | refine ex_name 15 (by assumption) (by with_reducible rfl) (by with_reducible rfl) (by wtm_at "vis") ?_
  | refine ex_name 16 (by assumption) (by with_reducible rfl) (by with_reducible rfl) (by wtm_at "vis") ?_
  | refine ex_name 17 (by assumption) (by with_reducible rfl) (by with_reducible rfl) (by wtm_at "vis") ?_
  | refine ex_name 18 (by assumption) (by with_reducible rfl) (by with_reducible rfl) (by wtm_at "vis") ?_
  | refine ex_name 19 (by assumption) (by with_reducible rfl) (by with_reducible rfl) (by wtm_at "vis") ?_
  | refine ex_name 20 (by assumption) (by with_reducible rfl) (by with_reducible rfl) (by wtm_at "vis") ?_
  | refine ex_name 21 (by assumption) (by with_reducible rfl) (by with_reducible rfl) (by wtm_at "vis") ?_
  | refine ex_name 22 (by assumption) (by with_reducible rfl) (by with_reducible rfl) (by wtm_at "vis") ?_
  | refine ex_name 23 (by assumption) (by with_reducible rfl) (by with_reducible rfl) (by wtm_at "vis") ?_)
local macro_rules | `(tactic| wtm_at "kb") => `(tactic| first | exact kb0 | exact kb1 | exact kb2 | exact kb3 | exact kb4 | exact kb5 | exact kb6 | exact kb7 | exact kb8 | exact kb9 | exact kb10 | exact kb11 | exact kb12 | exact kb13 | exact kb14 | exact kb15 | exact kb16 | exact kb17 | exact kb18 | exact kb19 | exact kb20 | exact kb21 | exact kb22 | exact kb23 | exact kb24 | exact kb25 | exact kb26 | exact kb27 | exact kb28 | exact kb29)
local macro_rules | `(tactic| wtm_at "loc") => `(tactic| first | exact Or.inl rfl | exact Or.inr rfl)
local macro_rules | `(tactic| wtm_at "set") => `(tactic| first
  | refine s_set 0 (by assumption) (by assumption) (by with_reducible rfl) (by wtm_at "loc") ?_
  | refine s_set 1 (by assumption) (by assumption) (by with_reducible rfl) (by wtm_at "loc") ?_
  | refine s_set 2 (by assumption) (by assumption) (by with_reducible rfl) (by wtm_at "loc") ?_
  | refine s_set 3 (by assumption) (by assumption) (by with_reducible rfl) (by wtm_at "loc") ?_
  | refine s_set 4 (by assumption) (by assumption) (by with_reducible rfl) (by wtm_at "loc") ?_
  | refine s_set 5 (by assumption) (by assumption) (by with_reducible rfl) (by wtm_at "loc") ?_
  | refine s_set 6 (by assumption) (by assumption) (by with_reducible rfl) (by wtm_at "loc") ?_
  | refine s_set 7 (by assumption) (by assumption) (by with_reducible rfl) (by wtm_at "loc") ?_
  | refine s_set 8 (by assumption) (by assumption) (by with_reducible rfl) (by wtm_at "loc") ?_
  | refine s_set 9 (by assumption) (by assumption) (by with_reducible rfl) (by wtm_at "loc") ?_
  | refine s_set 10 (by assumption) (by assumption) (by with_reducible rfl) (by wtm_at "loc") ?_
  | refine s_set 11 (by assumption) (by assumption) (by with_reducible rfl) (by wtm_at "loc") ?_
  | refine s_set 12 (by assumption) (by assumption) (by with_reducible rfl) (by wtm_at "loc") ?_
  | refine s_set 13 (by assumption) (by assumption) (by with_reducible rfl) (by wtm_at "loc") ?_
  | refine s_set 14 (by assumption) (by assumption) (by with_reducible rfl) (by wtm_at "loc") ?_
  | refine s_set 15 (by assumption) (by assumption) (by with_reducible rfl) (by wtm_at "loc") ?_
  | refine s_set 16 (by assumption) (by assumption) (by with_reducible rfl) (by wtm_at "loc") ?_
  | refine s_set 17 (by assumption) (by assumption) (by with_reducible rfl) (by wtm_at "loc") ?_
  | refine s_set 18 (by assumption) (by assumption) (by with_reducible rfl) (by wtm_at "loc") ?_
  | refine s_set 19 (by assumption) (by assumption) (by with_reducible rfl) (by wtm_at "loc") ?_
  | refine s_set 20 (by assumption) (by assumption) (by with_reducible rfl) (by wtm_at "loc") ?_
  | refine s_set 21 (by assumption) (by assumption) (by with_reducible rfl) (by wtm_at "loc") ?_
  | refine s_set 22 (by assumption) (by assumption) (by with_reducible rfl) (by wtm_at "loc") ?_
  | refine s_set 23 (by assumption) (by assumption) (by with_reducible rfl) (by wtm_at "loc") ?_)
local macro_rules | `(tactic| wtm_at "ex") => `(tactic| first
  | ((with_reducible show EX _ (PySem.Expr.Name "int" _) _ _); refine ex_ty (by assumption) (by rfl) bt_int ?_)
  | ((with_reducible show EX _ (PySem.Expr.Name "str" _) _ _); refine ex_ty (by assumption) (by rfl) bt_str ?_)
  | ((with_reducible show EX _ (PySem.Expr.Name "bool" _) _ _); refine ex_ty (by assumption) (by rfl) bt_bool ?_)
  | ((with_reducible show EX _ (PySem.Expr.Name "list" _) _ _); refine ex_ty (by assumption) (by rfl) bt_list ?_)
  | ((with_reducible show EX _ (PySem.Expr.Name "tuple" _) _ _); refine ex_ty (by assumption) (by rfl) bt_tuple ?_)
  | ((with_reducible show EX _ (PySem.Expr.Name _ _) _ _); first | wtm_at "nm" | refine ex_glob (by wtm_at "cal") (by rfl) ?_)
  | ((with_reducible show EX _ (PySem.Expr.Constant (PySem.Const.int _) _ _) _ _); refine ex_int ?_)
  | ((with_reducible show EX _ (PySem.Expr.Constant (PySem.Const.str _) _ _) _ _); refine ex_str ?_)
  | ((with_reducible show EX _ (PySem.Expr.Constant (PySem.Const.bool _) _ _) _ _); refine ex_bl ?_)
  | ((with_reducible show EX _ (PySem.Expr.Constant PySem.Const.none _ _) _ _); refine ex_non ?_)
  | ((with_reducible show EX _ (PySem.Expr.BinOp _ PySem.Operator.Add _ _) _ _); refine ex_bin od_add ?_)
  | ((with_reducible show EX _ (PySem.Expr.BinOp _ PySem.Operator.Sub _ _) _ _); refine ex_bin od_sub ?_)
  | ((with_reducible show EX _ (PySem.Expr.BinOp _ PySem.Operator.Mult _ _) _ _); refine ex_bin od_mul ?_)
  | ((with_reducible show EX _ (PySem.Expr.BinOp _ PySem.Operator.Mod _ _) _ _); refine ex_bin od_mod ?_)
  | ((with_reducible show EX _ (PySem.Expr.BinOp _ PySem.Operator.FloorDiv _ _) _ _); refine ex_bin od_fdiv ?_)
  | ((with_reducible show EX _ (PySem.Expr.BinOp _ PySem.Operator.Pow _ _) _ _); refine ex_bin od_pow ?_)
  | ((with_reducible show EX _ (PySem.Expr.Compare _ [PySem.CmpOp.Eq] _ _) _ _); refine ex_cmp od_eq ?_)
  | ((with_reducible show EX _ (PySem.Expr.Compare _ [PySem.CmpOp.NotEq] _ _) _ _); refine ex_cmp od_ne ?_)
  | ((with_reducible show EX _ (PySem.Expr.Compare _ [PySem.CmpOp.Lt] _ _) _ _); refine ex_cmp od_lt ?_)
  | ((with_reducible show EX _ (PySem.Expr.Compare _ [PySem.CmpOp.LtE] _ _) _ _); refine ex_cmp od_le ?_)
  | ((with_reducible show EX _ (PySem.Expr.Compare _ [PySem.CmpOp.Gt] _ _) _ _); refine ex_cmp od_gt ?_)
  | ((with_reducible show EX _ (PySem.Expr.Compare _ [PySem.CmpOp.GtE] _ _) _ _); refine ex_cmp od_ge ?_)
  | ((with_reducible show EX _ (PySem.Expr.Compare _ [PySem.CmpOp.Is] _ _) _ _); refine ex_cmp od_is ?_)
  | ((with_reducible show EX _ (PySem.Expr.Compare _ [PySem.CmpOp.IsNot] _ _) _ _); refine ex_cmp od_isnot ?_)
  | ((with_reducible show EX _ (PySem.Expr.Compare _ [PySem.CmpOp.LtE, PySem.CmpOp.LtE] _ _) _ _); refine ex_chain od_le od_le ?_)
  | ((with_reducible show EX _ (PySem.Expr.UnaryOp PySem.UnaryOp.USub _ _) _ _); refine ex_neg ?_)
  | ((with_reducible show EX _ (PySem.Expr.UnaryOp PySem.UnaryOp.Not _ _) _ _); refine ex_not ?_)
  | ((with_reducible show EX _ (PySem.Expr.BoolOp PySem.BoolOp.And (_ :: _ :: _) _) _ _); refine ex_and ?_)
  | ((with_reducible show EX _ (PySem.Expr.BoolOp PySem.BoolOp.Or (_ :: _ :: _) _) _ _); refine ex_or ?_)
  | ((with_reducible show EX _ (PySem.Expr.BoolOp _ [_] _) _ _); refine ex_one ?_)
  | ((with_reducible show EX _ (PySem.Expr.IfExp _ _ _ _) _ _); refine ex_ifExp ?_)
  | ((with_reducible show EX _ (PySem.Expr.Tuple _ _ _) _ _); refine ex_tup ?_)
  | ((with_reducible show EX _ (PySem.Expr.List _ _) _ _); refine ex_lst ?_)
  | ((with_reducible show AX _ (_ :: _) _ _); refine ax_cons ?_)
  | ((with_reducible show AX _ [] _ _); refine ax_nil ?_)
  | ((with_reducible show KX _ (_ :: _) _ _); refine kx_cons ?_)
  | ((with_reducible show KX _ [] _ _); refine kx_nil ?_)
  | ((with_reducible show EX _ (PySem.Expr.Call (PySem.Expr.Name "isinstance" _) [_, PySem.Expr.Tuple [_, _] _ _] [] _) _ _); refine ex_isi2 (by assumption) (by rfl) bt_isi ?_)
  | ((with_reducible show EX _ (PySem.Expr.Call (PySem.Expr.Name "isinstance" _) _ [] _) _ _); refine ex_bi bi_isi (by assumption) (by rfl) bt_isi ?_)
  | ((with_reducible show EX _ (PySem.Expr.Call (PySem.Expr.Name "len" _) _ [] _) _ _); refine ex_bi bi_len (by assumption) (by rfl) bt_len ?_)
  | ((with_reducible show EX _ (PySem.Expr.Call (PySem.Expr.Name "abs" _) _ [] _) _ _); refine ex_bi bi_abs (by assumption) (by rfl) bt_abs ?_)
  | ((with_reducible show EX _ (PySem.Expr.Call (PySem.Expr.Name "all" _) _ [] _) _ _); refine ex_bi (bi_all rfl) (by assumption) (by rfl) bt_all ?_)
  | ((with_reducible show EX _ (PySem.Expr.Call (PySem.Expr.Name "int" _) _ [] _) _ _); refine ex_bt bi_int (by assumption) (by rfl) bt_int ?_)
  | ((with_reducible show EX _ (PySem.Expr.Call (PySem.Expr.Name "str" _) _ [] _) _ _); refine ex_bt bi_str (by assumption) (by rfl) bt_str ?_)
  | ((with_reducible show EX _ (PySem.Expr.Call (PySem.Expr.Name "list" _) _ [] _) _ _); refine ex_bt bi_list (by assumption) (by rfl) bt_list ?_)
  | ((with_reducible show EX _ (PySem.Expr.Call (PySem.Expr.Name "tuple" _) _ [] _) _ _); refine ex_bt bi_tuple (by assumption) (by rfl) bt_tuple ?_)
  | ((with_reducible show EX _ (PySem.Expr.Call (PySem.Expr.Name "gcd" _) _ [] _) _ _); refine ex_bf bi_gcd (by assumption) (by rfl) ?_)
  | ((with_reducible show EX _ (PySem.Expr.Call (PySem.Expr.Name _ _) (_ :: _) [] _) _ _); refine ex_call (by wtm_at "cal") (by rfl) ?_)
  | ((with_reducible show EX _ (PySem.Expr.Call (PySem.Expr.Name _ _) [] (_ :: _) _) _ _); refine ex_callK0 (by wtm_at "cal") (by rfl) ?_)
  | ((with_reducible show EX _ (PySem.Expr.Call (PySem.Expr.Name _ _) (_ :: _) (_ :: _) _) _ _); refine ex_callK (by wtm_at "cal") (by rfl) ?_)
  | ((with_reducible show EX _ (PySem.Expr.Subscript _ _ _) _ _); refine ex_ix ?_))
local macro_rules | `(tactic| wtm_at "tx") => `(tactic| first
  | ((with_reducible show TX _ (PySem.Expr.Compare _ [PySem.CmpOp.Eq] _ _) _ _); refine tx_cmp od_eq ?_)
  | ((with_reducible show TX _ (PySem.Expr.Compare _ [PySem.CmpOp.NotEq] _ _) _ _); refine tx_cmp od_ne ?_)
  | ((with_reducible show TX _ (PySem.Expr.Compare _ [PySem.CmpOp.Lt] _ _) _ _); refine tx_cmp od_lt ?_)
  | ((with_reducible show TX _ (PySem.Expr.Compare _ [PySem.CmpOp.LtE] _ _) _ _); refine tx_cmp od_le ?_)
  | ((with_reducible show TX _ (PySem.Expr.Compare _ [PySem.CmpOp.Gt] _ _) _ _); refine tx_cmp od_gt ?_)
  | ((with_reducible show TX _ (PySem.Expr.Compare _ [PySem.CmpOp.GtE] _ _) _ _); refine tx_cmp od_ge ?_)
  | ((with_reducible show TX _ (PySem.Expr.Compare _ [PySem.CmpOp.Is] _ _) _ _); refine tx_cmp od_is ?_)
  | ((with_reducible show TX _ (PySem.Expr.Compare _ [PySem.CmpOp.IsNot] _ _) _ _); refine tx_cmp od_isnot ?_)
  | ((with_reducible show TX _ (PySem.Expr.Compare _ [PySem.CmpOp.LtE, PySem.CmpOp.LtE] _ _) _ _); refine tx_chain od_le od_le ?_)
  | ((with_reducible show TX _ (PySem.Expr.UnaryOp PySem.UnaryOp.Not _ _) _ _); refine tx_not ?_)
  | ((with_reducible show TX _ (PySem.Expr.BoolOp _ _ _) _ _); refine tx_w ?_)
  | ((with_reducible show TW _ (PySem.Expr.BoolOp PySem.BoolOp.And (_ :: _ :: _) _) _ _); refine tw_and ?_)
  | ((with_reducible show TW _ (PySem.Expr.BoolOp PySem.BoolOp.Or (_ :: _ :: _) _) _ _); refine tw_or ?_)
  | ((with_reducible show TW _ (PySem.Expr.BoolOp PySem.BoolOp.And [_] _) _ _); refine tw_and1 ?_)
  | ((with_reducible show TW _ (PySem.Expr.BoolOp PySem.BoolOp.Or [_] _) _ _); refine tw_or1 ?_)
  | ((with_reducible show TX _ _ _ _); refine tx_truth ?_))
local macro_rules | `(tactic| wtm_at "st") => `(tactic| first
  | ((with_reducible show SX _ [_] _ _); refine sx_one ?_)
  | ((with_reducible show SX _ (_ :: _) _ _); refine sx_cons ?_)
  | ((with_reducible show SX _ [] _ _); refine sx_nil ?_)
  | ((with_reducible show S1 _ (PySem.Stmt.Return (some _) _) _ _); refine s_ret ?_)
  | ((with_reducible show S1 _ (PySem.Stmt.If _ _ _ _) _ _); refine s_if ?_)
  | ((with_reducible show S1 _ (PySem.Stmt.Expr _ _) _ _); refine s_expr ?_)
  | ((with_reducible show S1 _ (PySem.Stmt.Pass _) _ _); refine s_pass ?_)
  | ((with_reducible show S1 _ (PySem.Stmt.Assign [PySem.Expr.Name _ _] _ _) _ _); wtm_at "set"))
local macro_rules | `(tactic| wtm_at "op") => `(tactic| with_reducible first
  | refine o_add ?_
  | refine o_sub ?_
  | refine o_lt ?_
  | refine o_le ?_
  | refine o_gt ?_
  | refine o_ge ?_
  | refine o_is ?_
  | refine o_isnot ?_
  | refine o_lenl ?_
  | refine o_lent ?_
  | refine o_abs ?_
  | refine o_int ?_
  | refine o_listl ?_
  | refine o_listt ?_
  | refine o_tupl ?_
  | refine o_tupt ?_
  | refine o_all ?_
  | refine o_gcd ?_
  | refine o_asB ?_
  | refine o_asI ?_
  | refine o_asL ?_
  | refine o_asT ?_
  | refine o_truB ?_
  | refine o_truN ?_
  | refine o_truL ?_
  | refine o_truT ?_
  | refine if_t ?_
  | refine if_f ?_
  | refine if_nf ?_
  | refine if_nt ?_)
local macro_rules | `(tactic| wtm_at "op2") => `(tactic| first
  | ((with_reducible show if _ = true then _ else _); first | refine if_ev_t rfl ?_ | refine if_ev_f rfl ?_)
  | ((with_reducible show wIsi [_, D.ty _] _); refine o_isi rfl (by wtm_at "kb") ?_)
  | ((with_reducible show wEq _ _ _); refine o_eq rfl ?_)
  | ((with_reducible show wNe _ _ _); refine o_ne rfl ?_)
  | ((with_reducible show wIx (D.lst _) (D.int _) _); refine o_ixl rfl ?_)
  | ((with_reducible show wIx (D.tup _) (D.int _) _); refine o_ixt rfl ?_)
  | ((with_reducible show wPow _ _ _); refine o_pow ⟨by decide, by decide, by decide⟩ ?_)
  | ((with_reducible show (_ ≤ 100000) ∧ _); refine ⟨Nat.le_of_ble_eq_true rfl, ?_⟩)
  | ((with_reducible show ∃ n1 n2 t k1 k2, _); refine o_isi2 rfl (by wtm_at "kb") (by wtm_at "kb") ?_))
local macro_rules | `(tactic| wtm_at "go") => `(tactic| first | wtm_at "ex" | wtm_at "op" | wtm_at "op2" | wtm_at "tx" | wtm_at "st")
local macro_rules | `(tactic| wtm_at "ex") => `(tactic| first
  | ((with_reducible show EX _ (PySem.Expr.Compare _ [PySem.CmpOp.In] _ _) _ _); refine ex_cmp od_in ?_)
  | ((with_reducible show EX _ (PySem.Expr.Attribute _ _ _) _ _); refine ex_fld ?_)
  | ((with_reducible show EX _ (PySem.Expr.Call (PySem.Expr.Name _ _) (_ :: _) [] _) _ _); refine ex_make (by assumption) (by rfl) ?_)
  | ((with_reducible show EX _ (PySem.Expr.Call (PySem.Expr.Name _ _) [] [] _) _ _); first | refine ex_make0 (by assumption) (by rfl) ?_ | refine ex_call0 (by wtm_at "cal") (by rfl) ?_))
local macro_rules | `(tactic| wtm_at "op2") => `(tactic| first
  | ((with_reducible show wIn (D.str _) (D.lst _) _); refine o_in rfl ?_))
local macro_rules | `(tactic| wtm_at "tx") => `(tactic| first
  | ((with_reducible show TX _ (PySem.Expr.Compare _ [PySem.CmpOp.In] _ _) _ _); refine tx_cmp od_in ?_))
abbrev sFirst : Stmt := topS 22
abbrev nFirst : List Str := ["rows", "most", "is_right", "names", "index", "row"]
theorem scFirst : FnScope nFirst ["rows", "most", "is_right"] (defScope sFirst) := ⟨rfl, rfl, rfl, by decide +kernel, rfl, by decide +kernel, by decide +kernel⟩
def Wright (p : D → Bool) : WA := fun ds P => ∃ d, ds = [d] ∧ shs 2 d = true ∧ P (.bl (p d))
/-- the def at f keeps W -/
structure HeldA (P : Program) (w : World) (K : PySem.W.Frag) (mg : Str → Option Value) (base : Heap) (k : Nat) (f : Addr) (W : WA) : Prop where
  ex : ∃ fd ps n, FnOk P w K mg base CX0 k f fd ps (spW K W n) ∧ PySem.W.keepIn K (.ref f) = true ∧ Binds K fd ps [] ∧ ∀ es Po', W es Po' → es.length = n
theorem HeldA.at {X : Cx} {j k : Nat} {f : Addr} {W : WA} (h : HeldA X.prog X.w X.K X.mg X.base j f W) (hr : Room k X.A) (hj : j ≤ k := by decide) : HeldOk X f W := by
  obtain ⟨fd, ps, n, F, hk, hb, hn⟩ := h.ex
  exact ⟨j, fd, ps, n, F, hr.mono hj, hk, hb, hn⟩
def nameD : D → Str
  | .tup (.str n :: _) => n
  | _ => ""
/-- where the first wrong row stands -/
def fwAt (p : D → Bool) (most : Int) : List Str → Nat → List D → D
  | _, _, [] => .non
  | names, i, r :: rs => if ((decide ((i : Int) = most) || !p r) || decide (nameD r ∈ names)) = true then .int (i : Int) else fwAt p most (names ++ [nameD r]) (i + 1) rs
def fwD (p : D → Bool) (most : Int) (l : List D) : D := if l.isEmpty = true then .int 0 else fwAt p most [] 0 l
def Wfirst (P : Program) (w : World) (K : PySem.W.Frag) (mg : Str → Option Value) (base : Heap) : WA := fun ds Po' => ∃ l most f p, ds = [.lst l, .int most, .cls f] ∧ l.length ≤ 1000 ∧ (∀ r ∈ l, shs 2 r = true) ∧ HeldA P w K mg base 3 f (Wright p) ∧ (∀ r, p r = true → ∃ n rest, r = .tup (.str n :: rest)) ∧ Po' (fwD p most l)
def WisList : WA := fun ds P => ∃ l, ds = [.lst l] ∧ P (.bl true)
theorem df_isList {P : Program} {w : World} {K : PySem.W.Frag} {mg : Str → Option Value} {base : Heap} (T : Top K mg "is_list" sIsList ["value"]) (m1 : mg "isinstance" = none) (m2 : mg "list" = none) (m3 : mg "tuple" = none) : Df P w K mg base "is_list" WisList 1 :=
  T.df (k := 0) scIsList (fun _ _ ⟨_, h, _⟩ => by rw [h]; rfl) fun f cdv A outer s H E hr hnd ds Po' hw hl => by
  obtain ⟨l, rfl, hP⟩ := hw
  have hX : (cxOf CX0 P w K mg base ["value"] "is_list" (defScope sIsList) f cdv A outer s H E).nox.N = (["value"] : List Str) := rfl
  show SX _ (_ :: _) [_] _
  repeat wtm_at "go"
  exact hP
section
local macro_rules | `(tactic| wtm_at "tx") => `(tactic| first
  | ((with_reducible show TX _ (PySem.Expr.Compare _ [PySem.CmpOp.In] [PySem.Expr.Name "names" _] _) _ _); refine tx_inOwn 3 (by assumption) (by rfl) (by rfl) (by wtm_at "vis") ?_))
local macro_rules | `(tactic| wtm_at "st") => `(tactic| first
  | ((with_reducible show S1 _ (PySem.Stmt.Expr (PySem.Expr.Call (PySem.Expr.Attribute (PySem.Expr.Name "names" _) "append" _) _ _ _) _) _ _); refine s_append 3 (by assumption) (by rfl) (by rfl) (by wtm_at "vis") (by rfl) (by simp only [List.length_map, List.length_take]; omega) ?_))
variable {P : Program} {w : World} {K : PySem.W.Frag} {mg : Str → Option Value} {base : Heap}
theorem df_first (T : Top K mg "first_wrong" sFirst ["rows", "most", "is_right"]) (m4 : mg "enumerate" = none) (dl : Df P w K mg base "is_list" WisList 1) : Df P w K mg base "first_wrong" (Wfirst P w K mg base) 4 :=
  T.df (k := 3) scFirst (fun _ _ ⟨_, _, _, _, h, _⟩ => by rw [h]; rfl) fun f cdv A outer s H E hr hnd ds Po' hw hl => by
  obtain ⟨l, most, fp, p, rfl, hlen, hrows, hh, hname, hP⟩ := hw
  have hX : (cxOf CX0 P w K mg base nFirst "first_wrong" (defScope sFirst) f cdv A outer s H E).nox.N = nFirst := rfl
  have held : HeldOk (cxOf CX0 P w K mg base nFirst "first_wrong" (defScope sFirst) f cdv A outer s H E).nox fp (Wright p) := hh.at hr
  have cl : CallOk (cxOf CX0 P w K mg base nFirst "first_wrong" (defScope sFirst) f cdv A outer s H E).nox "is_list" WisList := dl.call hr
  show SX _ (_ :: _) [_, _, _, _, _, _] _
  repeat wtm_at "go"
  refine ⟨l, rfl, ?_⟩
  repeat wtm_at "go"
  refine if_d (fun h0 => ?_) fun h0 => ?_
  · have : fwD p most l = .int 0 := by
      unfold fwD
      rw [if_pos (by simpa using h0)]
    rw [this] at hP
    repeat wtm_at "go"
    exact hP
  · have e0 : fwD p most l = fwAt p most [] 0 l := by
      unfold fwD
      rw [if_neg (by simpa using h0)]
    rw [e0] at hP
    wtm_at "go"
    wtm_at "go"
    refine s_setNil 3 hX hnd rfl (.inl rfl) fun k => ?_
    show SX _ (_ :: _) [.is (.lst l), .is (.int most), .is (.cls fp), .own k [], .no, .no] _
    wtm_at "st"
    refine s_for .never rfl (pg_tup rfl (pgs_cons (pg_name (i := 4) hnd rfl (Or.inl rfl)) (pgs_cons (pg_name (i := 5) hnd rfl (Or.inl rfl)) pgs_nil))) (tg_tup (tgs_cons (tg_name 4) (tgs_cons (tg_name 5) tgs_nil)) (fun ds Γ P h => by obtain ⟨a, r, rfl, b, r2, rfl, rfl, _⟩ := h; rfl)) ?_
    refine wx_enum (by assumption) (by rfl) ?_
    repeat wtm_at "go"
    refine ⟨l, rfl, fun i Γ => Γ = [.is (.lst l), .is (.int most), .is (.cls fp), .own k (((l.take i).map nameD).map D.str), .no, .no] ∧ Po' (fwAt p most ((l.take i).map nameD) i (l.drop i)), ⟨rfl, hP⟩, ?_, ?_⟩
    · rintro i d Γ hd ⟨rfl, hI⟩
      obtain ⟨r, hr1, rfl⟩ := enumD_at hd
      have hrs := hrows r (List.mem_of_getElem? hr1)
      have hdrop : l.drop i = r :: l.drop (i + 1) := by
        obtain ⟨hi, e⟩ := List.getElem?_eq_some_iff.mp hr1
        rw [← e]
        exact List.drop_eq_getElem_cons hi
      rw [hdrop] at hI
      unfold fwAt at hI
      refine ⟨_, rfl, _, _, rfl, _, _, rfl, rfl, ?_⟩
      show SX _ (_ :: _) [.is (.lst l), .is (.int most), .is (.cls fp), .own k (((l.take i).map nameD).map D.str), .is (.int (i : Int)), .is r] _
      repeat wtm_at "go"
      refine if_d (fun h1 => ?_) fun h1 => ?_
      · rw [h1, Bool.true_or, Bool.true_or, if_pos rfl] at hI
        repeat wtm_at "go"
        exact hI
      · rw [h1, Bool.false_or] at hI
        repeat wtm_at "go"
        refine ex_callL 2 hX (by rfl) (by rfl) (by exact .inl rfl) held ?_
        repeat wtm_at "go"
        refine ⟨r, rfl, hrs, ?_⟩
        repeat wtm_at "go"
        refine if_d (fun h2 => ?_) fun h2 => ?_
        · rw [h2, Bool.true_or, if_pos rfl] at hI
          repeat wtm_at "go"
          exact hI
        · rw [h2, Bool.false_or] at hI
          obtain ⟨n, rest, rfl⟩ := hname r (by simpa using h2)
          repeat wtm_at "go"
          have at0 : atI (D.str n :: rest) 0 = some (.str n) := atI_nat (j := 0) rfl
          refine o_ixt at0 ?_
          refine ⟨n, rfl, ?_⟩
          have nd : nameD (.tup (.str n :: rest)) = n := rfl
          rw [nd] at hI
          refine if_d (fun h3 => ?_) fun h3 => ?_
          · rw [if_pos h3] at hI
            repeat wtm_at "go"
            exact hI
          · rw [if_neg (by rw [h3]; exact Bool.false_ne_true)] at hI
            repeat wtm_at "go"
            refine o_ixt at0 ?_
            refine ⟨[.is (.lst l), .is (.int most), .is (.cls fp), .own k (((l.take (i + 1)).map nameD).map D.str), .no, .no], ?_, rfl, ?_⟩
            · have e1 : (((l.take (i + 1)).map nameD).map D.str) = ((l.take i).map nameD).map D.str ++ [D.str n] := by
                rw [List.take_add_one, hr1, List.map_append, List.map_append]
                rfl
              rw [e1]
              exact ⟨.refl _, .refl _, .refl _, .refl _, .no _, .no _, trivial⟩
            · have e1 : (l.take (i + 1)).map nameD = (l.take i).map nameD ++ [n] := by
                rw [List.take_add_one, hr1, List.map_append]
                rfl
              rw [e1]
              exact hI
    · rintro Γ ⟨rfl, hI⟩
      rw [enumD_len, List.drop_length] at hI
      show SX _ (_ :: _) [.is (.lst l), .is (.int most), .is (.cls fp), .own k _, .no, .no] _
      repeat wtm_at "go"
      exact hI
end
end G
set_option Elab.async false
set_option linter.all false
set_option maxRecDepth 100000
set_option maxHeartbeats 4000000
namespace G
open PySem PySem.Spec PyProof.Rows L2
local macro_rules | `(tactic| wtm_at "vis") => `(tactic| first | exact Or.inl rfl | exact Or.inr (Or.inl rfl) | exact Or.inr (Or.inr rfl))
local macro_rules | `(tactic| wtm_at "cal") => `(tactic| first | assumption | exact CallOk.blk (by assumption) | exact CallOkK.blk (by assumption) | exact ConstOk.blk (by assumption))
local macro_rules | `(tactic| wtm_at "nm") => `(tactic| first
  | refine ex_name 0 (by assumption) (by with_reducible rfl) (by with_reducible rfl) (by wtm_at "vis") ?_
  | refine ex_name 1 (by assumption) (by with_reducible rfl) (by with_reducible rfl) (by wtm_at "vis") ?_
  | refine ex_name 2 (by assumption) (by with_reducible rfl) (by with_reducible rfl) (by wtm_at "vis") ?_
  | refine ex_name 3 (by assumption) (by with_reducible rfl) (by with_reducible rfl) (by wtm_at "vis") ?_
  | refine ex_name 4 (by assumption) (by with_reducible rfl) (by with_reducible rfl) (by wtm_at "vis") ?_
  | refine ex_name 5 (by assumption) (by with_reducible rfl) (by with_reducible rfl) (by wtm_at "vis") ?_
  | refine ex_name 6 (by assumption) (by with_reducible rfl) (by with_reducible rfl) (by wtm_at "vis") ?_
  | refine ex_name 7 (by assumption) (by with_reducible rfl) (by with_reducible rfl) (by wtm_at "vis") ?_
  | refine ex_name 8 (by assumption) (by with_reducible rfl) (by with_reducible rfl) (by wtm_at "vis") ?_
  | refine ex_name 9 (by assumption) (by with_reducible rfl) (by with_reducible rfl) (by wtm_at "vis") ?_
  | refine ex_name 10 (by assumption) (by with_reducible rfl) (by with_reducible rfl) (by wtm_at "vis") ?_
  | refine ex_name 11 (by assumption) (by with_reducible rfl) (by with_reducible rfl) (by wtm_at "vis") ?_
  | refine ex_name 12 (by assumption) (by with_reducible rfl) (by with_reducible rfl) (by wtm_at "vis") ?_
  | refine ex_name 13 (by assumption) (by with_reducible rfl) (by with_reducible rfl) (by wtm_at "vis") ?_
  | refine ex_name 14 (by assumption) (by with_reducible rfl) (by with_reducible rfl) (by wtm_at "vis") ?_
  | refine ex_name 15 (by assumption) (by with_reducible rfl) (by with_reducible rfl) (by wtm_at "vis") ?_
  | refine ex_name 16 (by assumption) (by with_reducible rfl) (by with_reducible rfl) (by wtm_at "vis") ?_
  | refine ex_name 17 (by assumption) (by with_reducible rfl) (by with_reducible rfl) (by wtm_at "vis") ?_
  | refine ex_name 18 (by assumption) (by with_reducible rfl) (by with_reducible rfl) (by wtm_at "vis") ?_
  | refine ex_name 19 (by assumption) (by with_reducible rfl) (by with_reducible rfl) (by wtm_at "vis") ?_
  | refine ex_name 20 (by assumption) (by with_reducible rfl) (by with_reducible rfl) (by wtm_at "vis") ?_
  | refine ex_name 21 (by assumption) (by with_reducible rfl) (by with_reducible rfl) (by wtm_at "vis") ?_
  | refine ex_name 22 (by assumption) (by with_reducible rfl) (by with_reducible rfl) (by wtm_at "vis") ?_
  | refine ex_name 23 (by assumption) (by with_reducible rfl) (by with_reducible rfl) (by wtm_at "vis") ?_)
local macro_rules | `(tactic| wtm_at "kb") => `(tactic| first | exact kb0 | exact kb1 | exact kb2 | exact kb3 | exact kb4 | exact kb5 | exact kb6 | exact kb7 | exact kb8 | exact kb9 | exact kb10 | exact kb11 | exact kb12 | exact kb13 | exact kb14 | exact kb15 | exact kb16 | exact kb17 | exact kb18 | exact kb19 | exact kb20 | exact kb21 | exact kb22 | exact kb23 | exact kb24 | exact kb25 | exact kb26 | exact kb27 | exact kb28 | exact kb29)
local macro_rules | `(tactic| wtm_at "loc") => `(tactic| first | exact Or.inl rfl | exact Or.inr rfl)
local macro_rules | `(tactic| wtm_at "set") => `(tactic| first
  | refine s_set 0 (by assumption) (by assumption) (by with_reducible rfl) (by wtm_at "loc") ?_
  | refine s_set 1 (by assumption) (by assumption) (by with_reducible rfl) (by wtm_at "loc") ?_
  | refine s_set 2 (by assumption) (by assumption) (by with_reducible rfl) (by wtm_at "loc") ?_
  | refine s_set 3 (by assumption) (by assumption) (by with_reducible rfl) (by wtm_at "loc") ?_
  | refine s_set 4 (by assumption) (by assumption) (by with_reducible rfl) (by wtm_at "loc") ?_
  | refine s_set 5 (by assumption) (by assumption) (by with_reducible rfl) (by wtm_at "loc") ?_
  | refine s_set 6 (by assumption) (by assumption) (by with_reducible rfl) (by wtm_at "loc") ?_
  | refine s_set 7 (by assumption) (by assumption) (by with_reducible rfl) (by wtm_at "loc") ?_
  | refine s_set 8 (by assumption) (by assumption) (by with_reducible rfl) (by wtm_at "loc") ?_
  | refine s_set 9 (by assumption) (by assumption) (by with_reducible rfl) (by wtm_at "loc") ?_
  | refine s_set 10 (by assumption) (by assumption) (by with_reducible rfl) (by wtm_at "loc") ?_
  | refine s_set 11 (by assumption) (by assumption) (by with_reducible rfl) (by wtm_at "loc") ?_
  | refine s_set 12 (by assumption) (by assumption) (by with_reducible rfl) (by wtm_at "loc") ?_
  | refine s_set 13 (by assumption) (by assumption) (by with_reducible rfl) (by wtm_at "loc") ?_
  | refine s_set 14 (by assumption) (by assumption) (by with_reducible rfl) (by wtm_at "loc") ?_
  | refine s_set 15 (by assumption) (by assumption) (by with_reducible rfl) (by wtm_at "loc") ?_
  | refine s_set 16 (by assumption) (by assumption) (by with_reducible rfl) (by wtm_at "loc") ?_
  | refine s_set 17 (by assumption) (by assumption) (by with_reducible rfl) (by wtm_at "loc") ?_
  | refine s_set 18 (by assumption) (by assumption) (by with_reducible rfl) (by wtm_at "loc") ?_
  | refine s_set 19 (by assumption) (by assumption) (by with_reducible rfl) (by wtm_at "loc") ?_
  | refine s_set 20 (by assumption) (by assumption) (by with_reducible rfl) (by wtm_at "loc") ?_
  | refine s_set 21 (by assumption) (by assumption) (by with_reducible rfl) (by wtm_at "loc") ?_
  | refine s_set 22 (by assumption) (by assumption) (by with_reducible rfl) (by wtm_at "loc") ?_
  | refine s_set 23 (by assumption) (by assumption) (by with_reducible rfl) (by wtm_at "loc") ?_)
local macro_rules | `(tactic| wtm_at "ex") => `(tactic| first
  | ((with_reducible show EX _ (PySem.Expr.Name "int" _) _ _); refine ex_ty (by assumption) (by rfl) bt_int ?_)
  | ((with_reducible show EX _ (PySem.Expr.Name "str" _) _ _); refine ex_ty (by assumption) (by rfl) bt_str ?_)
  | ((with_reducible show EX _ (PySem.Expr.Name "bool" _) _ _); refine ex_ty (by assumption) (by rfl) bt_bool ?_)
  | ((with_reducible show EX _ (PySem.Expr.Name "list" _) _ _); refine ex_ty (by assumption) (by rfl) bt_list ?_)
  | ((with_reducible show EX _ (PySem.Expr.Name "tuple" _) _ _); refine ex_ty (by assumption) (by rfl) bt_tuple ?_)
  | ((with_reducible show EX _ (PySem.Expr.Name _ _) _ _); first | wtm_at "nm" | refine ex_glob (by wtm_at "cal") (by rfl) ?_)
  | ((with_reducible show EX _ (PySem.Expr.Constant (PySem.Const.int _) _ _) _ _); refine ex_int ?_)
  | ((with_reducible show EX _ (PySem.Expr.Constant (PySem.Const.str _) _ _) _ _); refine ex_str ?_)
  | ((with_reducible show EX _ (PySem.Expr.Constant (PySem.Const.bool _) _ _) _ _); refine ex_bl ?_)
  | ((with_reducible show EX _ (PySem.Expr.Constant PySem.Const.none _ _) _ _); refine ex_non ?_)
  | ((with_reducible show EX _ (PySem.Expr.BinOp _ PySem.Operator.Add _ _) _ _); refine ex_bin od_add ?_)
  | ((with_reducible show EX _ (PySem.Expr.BinOp _ PySem.Operator.Sub _ _) _ _); refine ex_bin od_sub ?_)
  | ((with_reducible show EX _ (PySem.Expr.BinOp _ PySem.Operator.Mult _ _) _ _); refine ex_bin od_mul ?_)
  | ((with_reducible show EX _ (PySem.Expr.BinOp _ PySem.Operator.Mod _ _) _ _); refine ex_bin od_mod ?_)
  | ((with_reducible show EX _ (PySem.Expr.BinOp _ PySem.Operator.FloorDiv _ _) _ _); refine ex_bin od_fdiv ?_)
  | ((with_reducible show EX _ (PySem.Expr.BinOp _ PySem.Operator.Pow _ _) _ _); refine ex_bin od_pow ?_)
  | ((with_reducible show EX _ (PySem.Expr.Compare _ [PySem.CmpOp.Eq] _ _) _ _); refine ex_cmp od_eq ?_)
  | ((with_reducible show EX _ (PySem.Expr.Compare _ [PySem.CmpOp.NotEq] _ _) _ _); refine ex_cmp od_ne ?_)
  | ((with_reducible show EX _ (PySem.Expr.Compare _ [PySem.CmpOp.Lt] _ _) _ _); refine ex_cmp od_lt ?_)
  | ((with_reducible show EX _ (PySem.Expr.Compare _ [PySem.CmpOp.LtE] _ _) _ _); refine ex_cmp od_le ?_)
  | ((with_reducible show EX _ (PySem.Expr.Compare _ [PySem.CmpOp.Gt] _ _) _ _); refine ex_cmp od_gt ?_)
  | ((with_reducible show EX _ (PySem.Expr.Compare _ [PySem.CmpOp.GtE] _ _) _ _); refine ex_cmp od_ge ?_)
  | ((with_reducible show EX _ (PySem.Expr.Compare _ [PySem.CmpOp.Is] _ _) _ _); refine ex_cmp od_is ?_)
  | ((with_reducible show EX _ (PySem.Expr.Compare _ [PySem.CmpOp.IsNot] _ _) _ _); refine ex_cmp od_isnot ?_)
  | ((with_reducible show EX _ (PySem.Expr.Compare _ [PySem.CmpOp.LtE, PySem.CmpOp.LtE] _ _) _ _); refine ex_chain od_le od_le ?_)
  | ((with_reducible show EX _ (PySem.Expr.UnaryOp PySem.UnaryOp.USub _ _) _ _); refine ex_neg ?_)
  | ((with_reducible show EX _ (PySem.Expr.UnaryOp PySem.UnaryOp.Not _ _) _ _); refine ex_not ?_)
  | ((with_reducible show EX _ (PySem.Expr.BoolOp PySem.BoolOp.And (_ :: _ :: _) _) _ _); refine ex_and ?_)
  | ((with_reducible show EX _ (PySem.Expr.BoolOp PySem.BoolOp.Or (_ :: _ :: _) _) _ _); refine ex_or ?_)
  | ((with_reducible show EX _ (PySem.Expr.BoolOp _ [_] _) _ _); refine ex_one ?_)
  | ((with_reducible show EX _ (PySem.Expr.IfExp _ _ _ _) _ _); refine ex_ifExp ?_)
  | ((with_reducible show EX _ (PySem.Expr.Tuple _ _ _) _ _); refine ex_tup ?_)
  | ((with_reducible show EX _ (PySem.Expr.List _ _) _ _); refine ex_lst ?_)
  | ((with_reducible show AX _ (_ :: _) _ _); refine ax_cons ?_)
  | ((with_reducible show AX _ [] _ _); refine ax_nil ?_)
  | ((with_reducible show KX _ (_ :: _) _ _); refine kx_cons ?_)
  | ((with_reducible show KX _ [] _ _); refine kx_nil ?_)
  | ((with_reducible show EX _ (PySem.Expr.Call (PySem.Expr.Name "isinstance" _) [_, PySem.Expr.Tuple [_, _] _ _] [] _) _ _); refine ex_isi2 (by assumption) (by rfl) bt_isi ?_)
  | ((with_reducible show EX _ (PySem.Expr.Call (PySem.Expr.Name "isinstance" _) _ [] _) _ _); refine ex_bi bi_isi (by assumption) (by rfl) bt_isi ?_)
  | ((with_reducible show EX _ (PySem.Expr.Call (PySem.Expr.Name "len" _) _ [] _) _ _); refine ex_bi bi_len (by assumption) (by rfl) bt_len ?_)
  | ((with_reducible show EX _ (PySem.Expr.Call (PySem.Expr.Name "abs" _) _ [] _) _ _); refine ex_bi bi_abs (by assumption) (by rfl) bt_abs ?_)
  | ((with_reducible show EX _ (PySem.Expr.Call (PySem.Expr.Name "all" _) _ [] _) _ _); refine ex_bi (bi_all rfl) (by assumption) (by rfl) bt_all ?_)
  | ((with_reducible show EX _ (PySem.Expr.Call (PySem.Expr.Name "int" _) _ [] _) _ _); refine ex_bt bi_int (by assumption) (by rfl) bt_int ?_)
  | ((with_reducible show EX _ (PySem.Expr.Call (PySem.Expr.Name "str" _) _ [] _) _ _); refine ex_bt bi_str (by assumption) (by rfl) bt_str ?_)
  | ((with_reducible show EX _ (PySem.Expr.Call (PySem.Expr.Name "list" _) _ [] _) _ _); refine ex_bt bi_list (by assumption) (by rfl) bt_list ?_)
  | ((with_reducible show EX _ (PySem.Expr.Call (PySem.Expr.Name "tuple" _) _ [] _) _ _); refine ex_bt bi_tuple (by assumption) (by rfl) bt_tuple ?_)
  | ((with_reducible show EX _ (PySem.Expr.Call (PySem.Expr.Name "gcd" _) _ [] _) _ _); refine ex_bf bi_gcd (by assumption) (by rfl) ?_)
  | ((with_reducible show EX _ (PySem.Expr.Call (PySem.Expr.Name _ _) (_ :: _) [] _) _ _); refine ex_call (by wtm_at "cal") (by rfl) ?_)
  | ((with_reducible show EX _ (PySem.Expr.Call (PySem.Expr.Name _ _) [] (_ :: _) _) _ _); refine ex_callK0 (by wtm_at "cal") (by rfl) ?_)
  | ((with_reducible show EX _ (PySem.Expr.Call (PySem.Expr.Name _ _) (_ :: _) (_ :: _) _) _ _); refine ex_callK (by wtm_at "cal") (by rfl) ?_)
  | ((with_reducible show EX _ (PySem.Expr.Subscript _ _ _) _ _); refine ex_ix ?_))
local macro_rules | `(tactic| wtm_at "tx") => `(tactic| first
  | ((with_reducible show TX _ (PySem.Expr.Compare _ [PySem.CmpOp.Eq] _ _) _ _); refine tx_cmp od_eq ?_)
  | ((with_reducible show TX _ (PySem.Expr.Compare _ [PySem.CmpOp.NotEq] _ _) _ _); refine tx_cmp od_ne ?_)
  | ((with_reducible show TX _ (PySem.Expr.Compare _ [PySem.CmpOp.Lt] _ _) _ _); refine tx_cmp od_lt ?_)
  | ((with_reducible show TX _ (PySem.Expr.Compare _ [PySem.CmpOp.LtE] _ _) _ _); refine tx_cmp od_le ?_)
  | ((with_reducible show TX _ (PySem.Expr.Compare _ [PySem.CmpOp.Gt] _ _) _ _); refine tx_cmp od_gt ?_)
  | ((with_reducible show TX _ (PySem.Expr.Compare _ [PySem.CmpOp.GtE] _ _) _ _); refine tx_cmp od_ge ?_)
  | ((with_reducible show TX _ (PySem.Expr.Compare _ [PySem.CmpOp.Is] _ _) _ _); refine tx_cmp od_is ?_)
  | ((with_reducible show TX _ (PySem.Expr.Compare _ [PySem.CmpOp.IsNot] _ _) _ _); refine tx_cmp od_isnot ?_)
  | ((with_reducible show TX _ (PySem.Expr.Compare _ [PySem.CmpOp.LtE, PySem.CmpOp.LtE] _ _) _ _); refine tx_chain od_le od_le ?_)
  | ((with_reducible show TX _ (PySem.Expr.UnaryOp PySem.UnaryOp.Not _ _) _ _); refine tx_not ?_)
  | ((with_reducible show TX _ (PySem.Expr.BoolOp _ _ _) _ _); refine tx_w ?_)
  | ((with_reducible show TW _ (PySem.Expr.BoolOp PySem.BoolOp.And (_ :: _ :: _) _) _ _); refine tw_and ?_)
  | ((with_reducible show TW _ (PySem.Expr.BoolOp PySem.BoolOp.Or (_ :: _ :: _) _) _ _); refine tw_or ?_)
  | ((with_reducible show TW _ (PySem.Expr.BoolOp PySem.BoolOp.And [_] _) _ _); refine tw_and1 ?_)
  | ((with_reducible show TW _ (PySem.Expr.BoolOp PySem.BoolOp.Or [_] _) _ _); refine tw_or1 ?_)
  | ((with_reducible show TX _ _ _ _); refine tx_truth ?_))
local macro_rules | `(tactic| wtm_at "st") => `(tactic| first
  | ((with_reducible show SX _ [_] _ _); refine sx_one ?_)
  | ((with_reducible show SX _ (_ :: _) _ _); refine sx_cons ?_)
  | ((with_reducible show SX _ [] _ _); refine sx_nil ?_)
  | ((with_reducible show S1 _ (PySem.Stmt.Return (some _) _) _ _); refine s_ret ?_)
  | ((with_reducible show S1 _ (PySem.Stmt.If _ _ _ _) _ _); refine s_if ?_)
  | ((with_reducible show S1 _ (PySem.Stmt.Expr _ _) _ _); refine s_expr ?_)
  | ((with_reducible show S1 _ (PySem.Stmt.Pass _) _ _); refine s_pass ?_)
  | ((with_reducible show S1 _ (PySem.Stmt.Assign [PySem.Expr.Name _ _] _ _) _ _); wtm_at "set"))
local macro_rules | `(tactic| wtm_at "op") => `(tactic| with_reducible first
  | refine o_add ?_
  | refine o_sub ?_
  | refine o_lt ?_
  | refine o_le ?_
  | refine o_gt ?_
  | refine o_ge ?_
  | refine o_is ?_
  | refine o_isnot ?_
  | refine o_lenl ?_
  | refine o_lent ?_
  | refine o_abs ?_
  | refine o_int ?_
  | refine o_listl ?_
  | refine o_listt ?_
  | refine o_tupl ?_
  | refine o_tupt ?_
  | refine o_all ?_
  | refine o_gcd ?_
  | refine o_asB ?_
  | refine o_asI ?_
  | refine o_asL ?_
  | refine o_asT ?_
  | refine o_truB ?_
  | refine o_truN ?_
  | refine o_truL ?_
  | refine o_truT ?_
  | refine if_t ?_
  | refine if_f ?_
  | refine if_nf ?_
  | refine if_nt ?_)
local macro_rules | `(tactic| wtm_at "op2") => `(tactic| first
  | ((with_reducible show if _ = true then _ else _); first | refine if_ev_t rfl ?_ | refine if_ev_f rfl ?_)
  | ((with_reducible show wIsi [_, D.ty _] _); refine o_isi rfl (by wtm_at "kb") ?_)
  | ((with_reducible show wEq _ _ _); refine o_eq rfl ?_)
  | ((with_reducible show wNe _ _ _); refine o_ne rfl ?_)
  | ((with_reducible show wIx (D.lst _) (D.int _) _); refine o_ixl rfl ?_)
  | ((with_reducible show wIx (D.tup _) (D.int _) _); refine o_ixt rfl ?_)
  | ((with_reducible show wPow _ _ _); refine o_pow ⟨by decide, by decide, by decide⟩ ?_)
  | ((with_reducible show (_ ≤ 100000) ∧ _); refine ⟨Nat.le_of_ble_eq_true rfl, ?_⟩)
  | ((with_reducible show ∃ n1 n2 t k1 k2, _); refine o_isi2 rfl (by wtm_at "kb") (by wtm_at "kb") ?_))
local macro_rules | `(tactic| wtm_at "go") => `(tactic| first | wtm_at "ex" | wtm_at "op" | wtm_at "op2" | wtm_at "tx" | wtm_at "st")
local macro_rules | `(tactic| wtm_at "ex") => `(tactic| first
  | ((with_reducible show EX _ (PySem.Expr.Compare _ [PySem.CmpOp.In] _ _) _ _); refine ex_cmp od_in ?_)
  | ((with_reducible show EX _ (PySem.Expr.Attribute _ _ _) _ _); refine ex_fld ?_)
  | ((with_reducible show EX _ (PySem.Expr.Call (PySem.Expr.Name _ _) (_ :: _) [] _) _ _); refine ex_make (by assumption) (by rfl) ?_)
  | ((with_reducible show EX _ (PySem.Expr.Call (PySem.Expr.Name _ _) [] [] _) _ _); first | refine ex_make0 (by assumption) (by rfl) ?_ | refine ex_call0 (by wtm_at "cal") (by rfl) ?_))
local macro_rules | `(tactic| wtm_at "op2") => `(tactic| first
  | ((with_reducible show wIn (D.str _) (D.lst _) _); refine o_in rfl ?_))
local macro_rules | `(tactic| wtm_at "tx") => `(tactic| first
  | ((with_reducible show TX _ (PySem.Expr.Compare _ [PySem.CmpOp.In] _ _) _ _); refine tx_cmp od_in ?_))
abbrev sGreatSizes : Stmt := topS 34
abbrev nGs : List Str := ["_law_src", "_law_k"]
theorem scGreatSizes : FnScope nGs ["_law_src"] (defScope sGreatSizes) := ⟨rfl, rfl, rfl, by decide +kernel, rfl, by decide +kernel, by decide +kernel⟩
def Size1 (d : D) : Prop := ∃ z : Int, d = .int z ∧ 1 ≤ z ∧ z ≤ 10 ^ 30
def Wgs : WA := fun ds P => ds = [.src] ∧ ∀ zs : List D, 1 ≤ zs.length → zs.length ≤ 3 → (∀ z ∈ zs, Size1 z) → P (.tup zs)
theorem range_int' {n i : Nat} {d : D} (h : (rangeD n)[i]? = some d) : d = .int (i : Int) := by
  have hi : i < n := by
    have := (List.getElem?_eq_some_iff.mp h).1
    rwa [rangeD_len] at this
  rw [rangeD_get hi] at h
  exact (Option.some.inj h).symm
section
variable {P : Program} {w : World} {K : PySem.W.Frag} {mg : Str → Option Value} {base : Heap}
theorem df_greatSizes (T : Top K mg "_law_great_sizes" sGreatSizes ["_law_src"]) (m1 : mg "tuple" = none) (m2 : mg "range" = none) (d1 : Df P w K mg base "_law_draw" Wdraw 1) (d2 : Df P w K mg base "_law_of" Wof 2) : Df P w K mg base "_law_great_sizes" Wgs 3 :=
  T.df (k := 2) scGreatSizes (fun _ _ ⟨h, _⟩ => by rw [h]; rfl) fun f cdv A outer s H E hr hnd ds Po' hw hl => by
  obtain ⟨rfl, hP⟩ := hw
  have hX : (cxOf CX0 P w K mg base nGs "_law_great_sizes" (defScope sGreatSizes) f cdv A outer s H E).nox.N = nGs := rfl
  have c1 : CallOk (cxOf CX0 P w K mg base nGs "_law_great_sizes" (defScope sGreatSizes) f cdv A outer s H E).nox "_law_draw" Wdraw := d1.call hr
  have c2 : CallOk (cxOf CX0 P w K mg base nGs "_law_great_sizes" (defScope sGreatSizes) f cdv A outer s H E).nox "_law_of" Wof := d2.call hr
  show SX _ (_ :: _) [_, _] _
  repeat wtm_at "go"
  refine ex_lc (own := [("_law_k", 1)]) (js := [1]) rfl hnd (blkOk_by (N := nGs) (sc := defScope sGreatSizes) (by decide +kernel)) (fun _ _ _ _ _ => pg_name (i := 1) hnd rfl (Or.inl rfl)) (tg_name 1) (by decide) (by decide) [.is .src, .no] rfl ?_
  refine wx_range (by assumption) (by rfl) ?_
  repeat wtm_at "go"
  refine ⟨3, rfl, by decide, by decide, fun n h1 h2 => ?_⟩
  repeat wtm_at "go"
  have hn : (1 + n).toNat = 1 + n.toNat := by omega
  refine ⟨by omega, by omega, by rw [rangeD_len]; omega, fun i es => es.length = i ∧ ∀ x ∈ es, Size1 x, ⟨rfl, by simp⟩, fun i d es hd ha => ?_, fun es ha => ?_⟩
  · have ei := range_int' hd
    subst ei
    show EB _ _ _ _ _
    intro s0 H0 C cl fp
    repeat wtm_at "go"
    refine ⟨_, rfl, by decide, by decide, fun k h3 h4 => ?_⟩
    repeat wtm_at "go"
    refine ⟨_, rfl, by simp, (by show (5 : Nat) ≤ 100000; decide), fun d hd => ?_⟩
    obtain ⟨hl, hall⟩ := ha
    have hs : Size1 d := by
      simp only [List.mem_cons, List.not_mem_nil, or_false] at hd
      rcases hd with rfl | rfl | rfl | rfl | rfl
      · exact ⟨1, rfl, by decide, by decide⟩
      · exact ⟨2, rfl, by decide, by decide⟩
      · exact ⟨7, rfl, by decide, by decide⟩
      · exact ⟨_, rfl, by decide, by decide⟩
      · exact ⟨_, rfl, by omega, by
          have h4' : k < 10 ^ 30 := h4
          omega⟩
    exact ⟨by rw [List.length_append, hl]; rfl, fun x hx => (List.mem_append.mp hx).elim (hall x) fun q => by
      have : x = d := by simpa using q
      rw [this]; exact hs⟩
  · obtain ⟨hl, hall⟩ := ha
    rw [rangeD_len] at hl
    repeat wtm_at "go"
    exact hP es (by omega) (by omega) hall
end
end G
set_option Elab.async false
set_option linter.all false
set_option maxRecDepth 100000
set_option maxHeartbeats 4000000
namespace G
open PySem PySem.Spec PyProof.Rows L2
local macro_rules | `(tactic| wtm_at "vis") => `(tactic| first | exact Or.inl rfl | exact Or.inr (Or.inl rfl) | exact Or.inr (Or.inr rfl))
local macro_rules | `(tactic| wtm_at "cal") => `(tactic| first | assumption | exact CallOk.blk (by assumption) | exact CallOkK.blk (by assumption) | exact ConstOk.blk (by assumption))
local macro_rules | `(tactic| wtm_at "nm") => `(tactic| first
  | refine ex_name 0 (by assumption) (by with_reducible rfl) (by with_reducible rfl) (by wtm_at "vis") ?_
  | refine ex_name 1 (by assumption) (by with_reducible rfl) (by with_reducible rfl) (by wtm_at "vis") ?_
  | refine ex_name 2 (by assumption) (by with_reducible rfl) (by with_reducible rfl) (by wtm_at "vis") ?_
  | refine ex_name 3 (by assumption) (by with_reducible rfl) (by with_reducible rfl) (by wtm_at "vis") ?_
  | refine ex_name 4 (by assumption) (by with_reducible rfl) (by with_reducible rfl) (by wtm_at "vis") ?_
  | refine ex_name 5 (by assumption) (by with_reducible rfl) (by with_reducible rfl) (by wtm_at "vis") ?_
  | refine ex_name 6 (by assumption) (by with_reducible rfl) (by with_reducible rfl) (by wtm_at "vis") ?_
  | refine ex_name 7 (by assumption) (by with_reducible rfl) (by with_reducible rfl) (by wtm_at "vis") ?_
  | refine ex_name 8 (by assumption) (by with_reducible rfl) (by with_reducible rfl) (by wtm_at "vis") ?_
  | refine ex_name 9 (by assumption) (by with_reducible rfl) (by with_reducible rfl) (by wtm_at "vis") ?_
  | refine ex_name 10 (by assumption) (by with_reducible rfl) (by with_reducible rfl) (by wtm_at "vis") ?_
  | refine ex_name 11 (by assumption) (by with_reducible rfl) (by with_reducible rfl) (by wtm_at "vis") ?_
  | refine ex_name 12 (by assumption) (by with_reducible rfl) (by with_reducible rfl) (by wtm_at "vis") ?_
  | refine ex_name 13 (by assumption) (by with_reducible rfl) (by with_reducible rfl) (by wtm_at "vis") ?_
  | refine ex_name 14 (by assumption) (by with_reducible rfl) (by with_reducible rfl) (by wtm_at "vis") ?_
  | refine ex_name 15 (by assumption) (by with_reducible rfl) (by with_reducible rfl) (by wtm_at "vis") ?_
  | refine ex_name 16 (by assumption) (by with_reducible rfl) (by with_reducible rfl) (by wtm_at "vis") ?_
  | refine ex_name 17 (by assumption) (by with_reducible rfl) (by with_reducible rfl) (by wtm_at "vis") ?_
  | refine ex_name 18 (by assumption) (by with_reducible rfl) (by with_reducible rfl) (by wtm_at "vis") ?_
  | refine ex_name 19 (by assumption) (by with_reducible rfl) (by with_reducible rfl) (by wtm_at "vis") ?_
  | refine ex_name 20 (by assumption) (by with_reducible rfl) (by with_reducible rfl) (by wtm_at "vis") ?_
  | refine ex_name 21 (by assumption) (by with_reducible rfl) (by with_reducible rfl) (by wtm_at "vis") ?_
  | refine ex_name 22 (by assumption) (by with_reducible rfl) (by with_reducible rfl) (by wtm_at "vis") ?_
  | refine ex_name 23 (by assumption) (by with_reducible rfl) (by with_reducible rfl) (by wtm_at "vis") ?_)
local macro_rules | `(tactic| wtm_at "kb") => `(tactic| first | exact kb0 | exact kb1 | exact kb2 | exact kb3 | exact kb4 | exact kb5 | exact kb6 | exact kb7 | exact kb8 | exact kb9 | exact kb10 | exact kb11 | exact kb12 | exact kb13 | exact kb14 | exact kb15 | exact kb16 | exact kb17 | exact kb18 | exact kb19 | exact kb20 | exact kb21 | exact kb22 | exact kb23 | exact kb24 | exact kb25 | exact kb26 | exact kb27 | exact kb28 | exact kb29)
local macro_rules | `(tactic| wtm_at "loc") => `(tactic| first | exact Or.inl rfl | exact Or.inr rfl)
local macro_rules | `(tactic| wtm_at "set") => `(tactic| first
  | refine s_set 0 (by assumption) (by assumption) (by with_reducible rfl) (by wtm_at "loc") ?_
  | refine s_set 1 (by assumption) (by assumption) (by with_reducible rfl) (by wtm_at "loc") ?_
  | refine s_set 2 (by assumption) (by assumption) (by with_reducible rfl) (by wtm_at "loc") ?_
  | refine s_set 3 (by assumption) (by assumption) (by with_reducible rfl) (by wtm_at "loc") ?_
  | refine s_set 4 (by assumption) (by assumption) (by with_reducible rfl) (by wtm_at "loc") ?_
  | refine s_set 5 (by assumption) (by assumption) (by with_reducible rfl) (by wtm_at "loc") ?_
  | refine s_set 6 (by assumption) (by assumption) (by with_reducible rfl) (by wtm_at "loc") ?_
  | refine s_set 7 (by assumption) (by assumption) (by with_reducible rfl) (by wtm_at "loc") ?_
  | refine s_set 8 (by assumption) (by assumption) (by with_reducible rfl) (by wtm_at "loc") ?_
  | refine s_set 9 (by assumption) (by assumption) (by with_reducible rfl) (by wtm_at "loc") ?_
  | refine s_set 10 (by assumption) (by assumption) (by with_reducible rfl) (by wtm_at "loc") ?_
  | refine s_set 11 (by assumption) (by assumption) (by with_reducible rfl) (by wtm_at "loc") ?_
  | refine s_set 12 (by assumption) (by assumption) (by with_reducible rfl) (by wtm_at "loc") ?_
  | refine s_set 13 (by assumption) (by assumption) (by with_reducible rfl) (by wtm_at "loc") ?_
  | refine s_set 14 (by assumption) (by assumption) (by with_reducible rfl) (by wtm_at "loc") ?_
  | refine s_set 15 (by assumption) (by assumption) (by with_reducible rfl) (by wtm_at "loc") ?_
  | refine s_set 16 (by assumption) (by assumption) (by with_reducible rfl) (by wtm_at "loc") ?_
  | refine s_set 17 (by assumption) (by assumption) (by with_reducible rfl) (by wtm_at "loc") ?_
  | refine s_set 18 (by assumption) (by assumption) (by with_reducible rfl) (by wtm_at "loc") ?_
  | refine s_set 19 (by assumption) (by assumption) (by with_reducible rfl) (by wtm_at "loc") ?_
  | refine s_set 20 (by assumption) (by assumption) (by with_reducible rfl) (by wtm_at "loc") ?_
  | refine s_set 21 (by assumption) (by assumption) (by with_reducible rfl) (by wtm_at "loc") ?_
  | refine s_set 22 (by assumption) (by assumption) (by with_reducible rfl) (by wtm_at "loc") ?_
  | refine s_set 23 (by assumption) (by assumption) (by with_reducible rfl) (by wtm_at "loc") ?_)
local macro_rules | `(tactic| wtm_at "ex") => `(tactic| first
  | ((with_reducible show EX _ (PySem.Expr.Name "int" _) _ _); refine ex_ty (by assumption) (by rfl) bt_int ?_)
  | ((with_reducible show EX _ (PySem.Expr.Name "str" _) _ _); refine ex_ty (by assumption) (by rfl) bt_str ?_)
  | ((with_reducible show EX _ (PySem.Expr.Name "bool" _) _ _); refine ex_ty (by assumption) (by rfl) bt_bool ?_)
  | ((with_reducible show EX _ (PySem.Expr.Name "list" _) _ _); refine ex_ty (by assumption) (by rfl) bt_list ?_)
  | ((with_reducible show EX _ (PySem.Expr.Name "tuple" _) _ _); refine ex_ty (by assumption) (by rfl) bt_tuple ?_)
  | ((with_reducible show EX _ (PySem.Expr.Name _ _) _ _); first | wtm_at "nm" | refine ex_glob (by wtm_at "cal") (by rfl) ?_)
  | ((with_reducible show EX _ (PySem.Expr.Constant (PySem.Const.int _) _ _) _ _); refine ex_int ?_)
  | ((with_reducible show EX _ (PySem.Expr.Constant (PySem.Const.str _) _ _) _ _); refine ex_str ?_)
  | ((with_reducible show EX _ (PySem.Expr.Constant (PySem.Const.bool _) _ _) _ _); refine ex_bl ?_)
  | ((with_reducible show EX _ (PySem.Expr.Constant PySem.Const.none _ _) _ _); refine ex_non ?_)
  | ((with_reducible show EX _ (PySem.Expr.BinOp _ PySem.Operator.Add _ _) _ _); refine ex_bin od_add ?_)
  | ((with_reducible show EX _ (PySem.Expr.BinOp _ PySem.Operator.Sub _ _) _ _); refine ex_bin od_sub ?_)
  | ((with_reducible show EX _ (PySem.Expr.BinOp _ PySem.Operator.Mult _ _) _ _); refine ex_bin od_mul ?_)
  | ((with_reducible show EX _ (PySem.Expr.BinOp _ PySem.Operator.Mod _ _) _ _); refine ex_bin od_mod ?_)
  | ((with_reducible show EX _ (PySem.Expr.BinOp _ PySem.Operator.FloorDiv _ _) _ _); refine ex_bin od_fdiv ?_)
  | ((with_reducible show EX _ (PySem.Expr.BinOp _ PySem.Operator.Pow _ _) _ _); refine ex_bin od_pow ?_)
  | ((with_reducible show EX _ (PySem.Expr.Compare _ [PySem.CmpOp.Eq] _ _) _ _); refine ex_cmp od_eq ?_)
  | ((with_reducible show EX _ (PySem.Expr.Compare _ [PySem.CmpOp.NotEq] _ _) _ _); refine ex_cmp od_ne ?_)
  | ((with_reducible show EX _ (PySem.Expr.Compare _ [PySem.CmpOp.Lt] _ _) _ _); refine ex_cmp od_lt ?_)
  | ((with_reducible show EX _ (PySem.Expr.Compare _ [PySem.CmpOp.LtE] _ _) _ _); refine ex_cmp od_le ?_)
  | ((with_reducible show EX _ (PySem.Expr.Compare _ [PySem.CmpOp.Gt] _ _) _ _); refine ex_cmp od_gt ?_)
  | ((with_reducible show EX _ (PySem.Expr.Compare _ [PySem.CmpOp.GtE] _ _) _ _); refine ex_cmp od_ge ?_)
  | ((with_reducible show EX _ (PySem.Expr.Compare _ [PySem.CmpOp.Is] _ _) _ _); refine ex_cmp od_is ?_)
  | ((with_reducible show EX _ (PySem.Expr.Compare _ [PySem.CmpOp.IsNot] _ _) _ _); refine ex_cmp od_isnot ?_)
  | ((with_reducible show EX _ (PySem.Expr.Compare _ [PySem.CmpOp.LtE, PySem.CmpOp.LtE] _ _) _ _); refine ex_chain od_le od_le ?_)
  | ((with_reducible show EX _ (PySem.Expr.UnaryOp PySem.UnaryOp.USub _ _) _ _); refine ex_neg ?_)
  | ((with_reducible show EX _ (PySem.Expr.UnaryOp PySem.UnaryOp.Not _ _) _ _); refine ex_not ?_)
  | ((with_reducible show EX _ (PySem.Expr.BoolOp PySem.BoolOp.And (_ :: _ :: _) _) _ _); refine ex_and ?_)
  | ((with_reducible show EX _ (PySem.Expr.BoolOp PySem.BoolOp.Or (_ :: _ :: _) _) _ _); refine ex_or ?_)
  | ((with_reducible show EX _ (PySem.Expr.BoolOp _ [_] _) _ _); refine ex_one ?_)
  | ((with_reducible show EX _ (PySem.Expr.IfExp _ _ _ _) _ _); refine ex_ifExp ?_)
  | ((with_reducible show EX _ (PySem.Expr.Tuple _ _ _) _ _); refine ex_tup ?_)
  | ((with_reducible show EX _ (PySem.Expr.List _ _) _ _); refine ex_lst ?_)
  | ((with_reducible show AX _ (_ :: _) _ _); refine ax_cons ?_)
  | ((with_reducible show AX _ [] _ _); refine ax_nil ?_)
  | ((with_reducible show KX _ (_ :: _) _ _); refine kx_cons ?_)
  | ((with_reducible show KX _ [] _ _); refine kx_nil ?_)
  | ((with_reducible show EX _ (PySem.Expr.Call (PySem.Expr.Name "isinstance" _) [_, PySem.Expr.Tuple [_, _] _ _] [] _) _ _); refine ex_isi2 (by assumption) (by rfl) bt_isi ?_)
  | ((with_reducible show EX _ (PySem.Expr.Call (PySem.Expr.Name "isinstance" _) _ [] _) _ _); refine ex_bi bi_isi (by assumption) (by rfl) bt_isi ?_)
  | ((with_reducible show EX _ (PySem.Expr.Call (PySem.Expr.Name "len" _) _ [] _) _ _); refine ex_bi bi_len (by assumption) (by rfl) bt_len ?_)
  | ((with_reducible show EX _ (PySem.Expr.Call (PySem.Expr.Name "abs" _) _ [] _) _ _); refine ex_bi bi_abs (by assumption) (by rfl) bt_abs ?_)
  | ((with_reducible show EX _ (PySem.Expr.Call (PySem.Expr.Name "all" _) _ [] _) _ _); refine ex_bi (bi_all rfl) (by assumption) (by rfl) bt_all ?_)
  | ((with_reducible show EX _ (PySem.Expr.Call (PySem.Expr.Name "int" _) _ [] _) _ _); refine ex_bt bi_int (by assumption) (by rfl) bt_int ?_)
  | ((with_reducible show EX _ (PySem.Expr.Call (PySem.Expr.Name "str" _) _ [] _) _ _); refine ex_bt bi_str (by assumption) (by rfl) bt_str ?_)
  | ((with_reducible show EX _ (PySem.Expr.Call (PySem.Expr.Name "list" _) _ [] _) _ _); refine ex_bt bi_list (by assumption) (by rfl) bt_list ?_)
  | ((with_reducible show EX _ (PySem.Expr.Call (PySem.Expr.Name "tuple" _) _ [] _) _ _); refine ex_bt bi_tuple (by assumption) (by rfl) bt_tuple ?_)
  | ((with_reducible show EX _ (PySem.Expr.Call (PySem.Expr.Name "gcd" _) _ [] _) _ _); refine ex_bf bi_gcd (by assumption) (by rfl) ?_)
  | ((with_reducible show EX _ (PySem.Expr.Call (PySem.Expr.Name _ _) (_ :: _) [] _) _ _); refine ex_call (by wtm_at "cal") (by rfl) ?_)
  | ((with_reducible show EX _ (PySem.Expr.Call (PySem.Expr.Name _ _) [] (_ :: _) _) _ _); refine ex_callK0 (by wtm_at "cal") (by rfl) ?_)
  | ((with_reducible show EX _ (PySem.Expr.Call (PySem.Expr.Name _ _) (_ :: _) (_ :: _) _) _ _); refine ex_callK (by wtm_at "cal") (by rfl) ?_)
  | ((with_reducible show EX _ (PySem.Expr.Subscript _ _ _) _ _); refine ex_ix ?_))
local macro_rules | `(tactic| wtm_at "tx") => `(tactic| first
  | ((with_reducible show TX _ (PySem.Expr.Compare _ [PySem.CmpOp.Eq] _ _) _ _); refine tx_cmp od_eq ?_)
  | ((with_reducible show TX _ (PySem.Expr.Compare _ [PySem.CmpOp.NotEq] _ _) _ _); refine tx_cmp od_ne ?_)
  | ((with_reducible show TX _ (PySem.Expr.Compare _ [PySem.CmpOp.Lt] _ _) _ _); refine tx_cmp od_lt ?_)
  | ((with_reducible show TX _ (PySem.Expr.Compare _ [PySem.CmpOp.LtE] _ _) _ _); refine tx_cmp od_le ?_)
  | ((with_reducible show TX _ (PySem.Expr.Compare _ [PySem.CmpOp.Gt] _ _) _ _); refine tx_cmp od_gt ?_)
  | ((with_reducible show TX _ (PySem.Expr.Compare _ [PySem.CmpOp.GtE] _ _) _ _); refine tx_cmp od_ge ?_)
  | ((with_reducible show TX _ (PySem.Expr.Compare _ [PySem.CmpOp.Is] _ _) _ _); refine tx_cmp od_is ?_)
  | ((with_reducible show TX _ (PySem.Expr.Compare _ [PySem.CmpOp.IsNot] _ _) _ _); refine tx_cmp od_isnot ?_)
  | ((with_reducible show TX _ (PySem.Expr.Compare _ [PySem.CmpOp.LtE, PySem.CmpOp.LtE] _ _) _ _); refine tx_chain od_le od_le ?_)
  | ((with_reducible show TX _ (PySem.Expr.UnaryOp PySem.UnaryOp.Not _ _) _ _); refine tx_not ?_)
  | ((with_reducible show TX _ (PySem.Expr.BoolOp _ _ _) _ _); refine tx_w ?_)
  | ((with_reducible show TW _ (PySem.Expr.BoolOp PySem.BoolOp.And (_ :: _ :: _) _) _ _); refine tw_and ?_)
  | ((with_reducible show TW _ (PySem.Expr.BoolOp PySem.BoolOp.Or (_ :: _ :: _) _) _ _); refine tw_or ?_)
  | ((with_reducible show TW _ (PySem.Expr.BoolOp PySem.BoolOp.And [_] _) _ _); refine tw_and1 ?_)
  | ((with_reducible show TW _ (PySem.Expr.BoolOp PySem.BoolOp.Or [_] _) _ _); refine tw_or1 ?_)
  | ((with_reducible show TX _ _ _ _); refine tx_truth ?_))
local macro_rules | `(tactic| wtm_at "st") => `(tactic| first
  | ((with_reducible show SX _ [_] _ _); refine sx_one ?_)
  | ((with_reducible show SX _ (_ :: _) _ _); refine sx_cons ?_)
  | ((with_reducible show SX _ [] _ _); refine sx_nil ?_)
  | ((with_reducible show S1 _ (PySem.Stmt.Return (some _) _) _ _); refine s_ret ?_)
  | ((with_reducible show S1 _ (PySem.Stmt.If _ _ _ _) _ _); refine s_if ?_)
  | ((with_reducible show S1 _ (PySem.Stmt.Expr _ _) _ _); refine s_expr ?_)
  | ((with_reducible show S1 _ (PySem.Stmt.Pass _) _ _); refine s_pass ?_)
  | ((with_reducible show S1 _ (PySem.Stmt.Assign [PySem.Expr.Name _ _] _ _) _ _); wtm_at "set"))
local macro_rules | `(tactic| wtm_at "op") => `(tactic| with_reducible first
  | refine o_add ?_
  | refine o_sub ?_
  | refine o_lt ?_
  | refine o_le ?_
  | refine o_gt ?_
  | refine o_ge ?_
  | refine o_is ?_
  | refine o_isnot ?_
  | refine o_lenl ?_
  | refine o_lent ?_
  | refine o_abs ?_
  | refine o_int ?_
  | refine o_listl ?_
  | refine o_listt ?_
  | refine o_tupl ?_
  | refine o_tupt ?_
  | refine o_all ?_
  | refine o_gcd ?_
  | refine o_asB ?_
  | refine o_asI ?_
  | refine o_asL ?_
  | refine o_asT ?_
  | refine o_truB ?_
  | refine o_truN ?_
  | refine o_truL ?_
  | refine o_truT ?_
  | refine if_t ?_
  | refine if_f ?_
  | refine if_nf ?_
  | refine if_nt ?_)
local macro_rules | `(tactic| wtm_at "op2") => `(tactic| first
  | ((with_reducible show if _ = true then _ else _); first | refine if_ev_t rfl ?_ | refine if_ev_f rfl ?_)
  | ((with_reducible show wIsi [_, D.ty _] _); refine o_isi rfl (by wtm_at "kb") ?_)
  | ((with_reducible show wEq _ _ _); refine o_eq rfl ?_)
  | ((with_reducible show wNe _ _ _); refine o_ne rfl ?_)
  | ((with_reducible show wIx (D.lst _) (D.int _) _); refine o_ixl rfl ?_)
  | ((with_reducible show wIx (D.tup _) (D.int _) _); refine o_ixt rfl ?_)
  | ((with_reducible show wPow _ _ _); refine o_pow ⟨by decide, by decide, by decide⟩ ?_)
  | ((with_reducible show (_ ≤ 100000) ∧ _); refine ⟨Nat.le_of_ble_eq_true rfl, ?_⟩)
  | ((with_reducible show ∃ n1 n2 t k1 k2, _); refine o_isi2 rfl (by wtm_at "kb") (by wtm_at "kb") ?_))
local macro_rules | `(tactic| wtm_at "go") => `(tactic| first | wtm_at "ex" | wtm_at "op" | wtm_at "op2" | wtm_at "tx" | wtm_at "st")
local macro_rules | `(tactic| wtm_at "ex") => `(tactic| first
  | ((with_reducible show EX _ (PySem.Expr.Compare _ [PySem.CmpOp.In] _ _) _ _); refine ex_cmp od_in ?_)
  | ((with_reducible show EX _ (PySem.Expr.Attribute _ _ _) _ _); refine ex_fld ?_)
  | ((with_reducible show EX _ (PySem.Expr.Call (PySem.Expr.Name _ _) (_ :: _) [] _) _ _); refine ex_make (by assumption) (by rfl) ?_)
  | ((with_reducible show EX _ (PySem.Expr.Call (PySem.Expr.Name _ _) [] [] _) _ _); first | refine ex_make0 (by assumption) (by rfl) ?_ | refine ex_call0 (by wtm_at "cal") (by rfl) ?_))
local macro_rules | `(tactic| wtm_at "op2") => `(tactic| first
  | ((with_reducible show wIn (D.str _) (D.lst _) _); refine o_in rfl ?_))
local macro_rules | `(tactic| wtm_at "tx") => `(tactic| first
  | ((with_reducible show TX _ (PySem.Expr.Compare _ [PySem.CmpOp.In] _ _) _ _); refine tx_cmp od_in ?_))
def WofA : WA := fun ds P => Wof ds P ∨ ∃ z : Str, ds = [.src, .str z] ∧ 1 ≤ z.length ∧ z.length ≤ 1000 ∧ ∀ c ∈ z.cps.toList, P (.str ⟨#[c]⟩)
section
variable {P : Program} {w : World} {K : PySem.W.Frag} {mg : Str → Option Value} {base : Heap}
theorem df_ofA (T : Top K mg "_law_of" sOf ["_law_src", "_law_things7"]) (m1 : mg "len" = none) (d1 : Df P w K mg base "_law_draw" Wdraw 1) : Df P w K mg base "_law_of" WofA 2 :=
  T.df scOf (fun _ _ h => by rcases h with ⟨_, h, _⟩ | ⟨_, h, _⟩ <;> (rw [h]; rfl)) fun f cdv A outer s H E hr hnd ds Po' hw hl => by
  have hX : (cxOf CX0 P w K mg base ["_law_src", "_law_things7"] "_law_of" (defScope sOf) f cdv A outer s H E).nox.N = (["_law_src", "_law_things7"] : List Str) := rfl
  have c1 : CallOk (cxOf CX0 P w K mg base ["_law_src", "_law_things7"] "_law_of" (defScope sOf) f cdv A outer s H E).nox "_law_draw" Wdraw := d1.call hr
  show SX _ (_ :: _) (startE _ ds) _
  rcases hw with ⟨l, rfl, hne, hlen, hP⟩ | ⟨z, rfl, hz1, hz2, hP⟩
  · show SX _ (_ :: _) [_, _] _
    repeat wtm_at "go"
    have h0 : 0 < l.length := List.length_pos_iff.mpr hne
    refine ⟨_, rfl, by omega, ?_, fun k h1 h2 => ?_⟩
    · exact Nat.lt_of_le_of_lt (show ((l.length : Int)).natAbs ≤ 100000 by omega) (Nat.lt_of_lt_of_le (show 100000 < 2 ^ 20 by decide) (Nat.pow_le_pow_right (by decide) (by decide)))
    · obtain ⟨j, rfl⟩ : ∃ j : Nat, k = (j : Int) := ⟨k.toNat, by omega⟩
      have hj : j < l.length := by omega
      exact ⟨l[j], atI_nat (List.getElem?_eq_getElem hj), hP _ (List.getElem_mem hj)⟩
  · show SX _ (_ :: _) [_, _] _
    repeat wtm_at "go"
    refine o_lens (Nat.le_trans hz2 (by decide)) ?_
    repeat wtm_at "go"
    refine ⟨_, rfl, by omega, ?_, fun k h1 h2 => ?_⟩
    · exact Nat.lt_of_le_of_lt (show ((z.length : Int)).natAbs ≤ 1000 by omega) (Nat.lt_of_lt_of_le (show 1000 < 2 ^ 20 by decide) (Nat.pow_le_pow_right (by decide) (by decide)))
    · obtain ⟨j, rfl⟩ : ∃ j : Nat, k = (j : Int) := ⟨k.toNat, by omega⟩
      have hj : j < z.cps.toList.length := by
        rw [Array.length_toList]
        have : (j : Int) < (z.length : Int) := h2
        exact Int.ofNat_lt.mp this
      exact ⟨z.cps.toList[j], Nat.le_trans hz2 (by decide), atI_nat (List.getElem?_eq_getElem hj), hP _ (List.getElem_mem hj)⟩
end
end G
set_option Elab.async false
set_option linter.all false
set_option maxRecDepth 100000
set_option maxHeartbeats 4000000
namespace G
open PySem PySem.Spec PyProof.Rows L2
local macro_rules | `(tactic| wtm_at "vis") => `(tactic| first | exact Or.inl rfl | exact Or.inr (Or.inl rfl) | exact Or.inr (Or.inr rfl))
local macro_rules | `(tactic| wtm_at "cal") => `(tactic| first | assumption | exact CallOk.blk (by assumption) | exact CallOkK.blk (by assumption) | exact ConstOk.blk (by assumption))
local macro_rules | `(tactic| wtm_at "nm") => `(tactic| first
  | refine ex_name 0 (by assumption) (by with_reducible rfl) (by with_reducible rfl) (by wtm_at "vis") ?_
  | refine ex_name 1 (by assumption) (by with_reducible rfl) (by with_reducible rfl) (by wtm_at "vis") ?_
  | refine ex_name 2 (by assumption) (by with_reducible rfl) (by with_reducible rfl) (by wtm_at "vis") ?_
  | refine ex_name 3 (by assumption) (by with_reducible rfl) (by with_reducible rfl) (by wtm_at "vis") ?_
  | refine ex_name 4 (by assumption) (by with_reducible rfl) (by with_reducible rfl) (by wtm_at "vis") ?_
  | refine ex_name 5 (by assumption) (by with_reducible rfl) (by with_reducible rfl) (by wtm_at "vis") ?_
  | refine ex_name 6 (by assumption) (by with_reducible rfl) (by with_reducible rfl) (by wtm_at "vis") ?_
  | refine ex_name 7 (by assumption) (by with_reducible rfl) (by with_reducible rfl) (by wtm_at "vis") ?_
  | refine ex_name 8 (by assumption) (by with_reducible rfl) (by with_reducible rfl) (by wtm_at "vis") ?_
  | refine ex_name 9 (by assumption) (by with_reducible rfl) (by with_reducible rfl) (by wtm_at "vis") ?_
  | refine ex_name 10 (by assumption) (by with_reducible rfl) (by with_reducible rfl) (by wtm_at "vis") ?_
  | refine ex_name 11 (by assumption) (by with_reducible rfl) (by with_reducible rfl) (by wtm_at "vis") ?_
  | refine ex_name 12 (by assumption) (by with_reducible rfl) (by with_reducible rfl) (by wtm_at "vis") ?_
  | refine ex_name 13 (by assumption) (by with_reducible rfl) (by with_reducible rfl) (by wtm_at "vis") ?_
  | refine ex_name 14 (by assumption) (by with_reducible rfl) (by with_reducible rfl) (by wtm_at "vis") ?_
  | refine ex_name 15 (by assumption) (by with_reducible rfl) (by with_reducible rfl) (by wtm_at "vis") ?_
  | refine ex_name 16 (by assumption) (by with_reducible rfl) (by with_reducible rfl) (by wtm_at "vis") ?_
  | refine ex_name 17 (by assumption) (by with_reducible rfl) (by with_reducible rfl) (by wtm_at "vis") ?_
  | refine ex_name 18 (by assumption) (by with_reducible rfl) (by with_reducible rfl) (by wtm_at "vis") ?_
  | refine ex_name 19 (by assumption) (by with_reducible rfl) (by with_reducible rfl) (by wtm_at "vis") ?_
  | refine ex_name 20 (by assumption) (by with_reducible rfl) (by with_reducible rfl) (by wtm_at "vis") ?_
  | refine ex_name 21 (by assumption) (by with_reducible rfl) (by with_reducible rfl) (by wtm_at "vis") ?_
  | refine ex_name 22 (by assumption) (by with_reducible rfl) (by with_reducible rfl) (by wtm_at "vis") ?_
  | refine ex_name 23 (by assumption) (by with_reducible rfl) (by with_reducible rfl) (by wtm_at "vis") ?_)
local macro_rules | `(tactic| wtm_at "kb") => `(tactic| first | exact kb0 | exact kb1 | exact kb2 | exact kb3 | exact kb4 | exact kb5 | exact kb6 | exact kb7 | exact kb8 | exact kb9 | exact kb10 | exact kb11 | exact kb12 | exact kb13 | exact kb14 | exact kb15 | exact kb16 | exact kb17 | exact kb18 | exact kb19 | exact kb20 | exact kb21 | exact kb22 | exact kb23 | exact kb24 | exact kb25 | exact kb26 | exact kb27 | exact kb28 | exact kb29)
local macro_rules | `(tactic| wtm_at "loc") => `(tactic| first | exact Or.inl rfl | exact Or.inr rfl)
local macro_rules | `(tactic| wtm_at "set") => `(tactic| first
  | refine s_set 0 (by assumption) (by assumption) (by with_reducible rfl) (by wtm_at "loc") ?_
  | refine s_set 1 (by assumption) (by assumption) (by with_reducible rfl) (by wtm_at "loc") ?_
  | refine s_set 2 (by assumption) (by assumption) (by with_reducible rfl) (by wtm_at "loc") ?_
  | refine s_set 3 (by assumption) (by assumption) (by with_reducible rfl) (by wtm_at "loc") ?_
  | refine s_set 4 (by assumption) (by assumption) (by with_reducible rfl) (by wtm_at "loc") ?_
  | refine s_set 5 (by assumption) (by assumption) (by with_reducible rfl) (by wtm_at "loc") ?_
  | refine s_set 6 (by assumption) (by assumption) (by with_reducible rfl) (by wtm_at "loc") ?_
  | refine s_set 7 (by assumption) (by assumption) (by with_reducible rfl) (by wtm_at "loc") ?_
  | refine s_set 8 (by assumption) (by assumption) (by with_reducible rfl) (by wtm_at "loc") ?_
  | refine s_set 9 (by assumption) (by assumption) (by with_reducible rfl) (by wtm_at "loc") ?_
  | refine s_set 10 (by assumption) (by assumption) (by with_reducible rfl) (by wtm_at "loc") ?_
  | refine s_set 11 (by assumption) (by assumption) (by with_reducible rfl) (by wtm_at "loc") ?_
  | refine s_set 12 (by assumption) (by assumption) (by with_reducible rfl) (by wtm_at "loc") ?_
  | refine s_set 13 (by assumption) (by assumption) (by with_reducible rfl) (by wtm_at "loc") ?_
  | refine s_set 14 (by assumption) (by assumption) (by with_reducible rfl) (by wtm_at "loc") ?_
  | refine s_set 15 (by assumption) (by assumption) (by with_reducible rfl) (by wtm_at "loc") ?_
  | refine s_set 16 (by assumption) (by assumption) (by with_reducible rfl) (by wtm_at "loc") ?_
  | refine s_set 17 (by assumption) (by assumption) (by with_reducible rfl) (by wtm_at "loc") ?_
  | refine s_set 18 (by assumption) (by assumption) (by with_reducible rfl) (by wtm_at "loc") ?_
  | refine s_set 19 (by assumption) (by assumption) (by with_reducible rfl) (by wtm_at "loc") ?_
  | refine s_set 20 (by assumption) (by assumption) (by with_reducible rfl) (by wtm_at "loc") ?_
  | refine s_set 21 (by assumption) (by assumption) (by with_reducible rfl) (by wtm_at "loc") ?_
  | refine s_set 22 (by assumption) (by assumption) (by with_reducible rfl) (by wtm_at "loc") ?_
  | refine s_set 23 (by assumption) (by assumption) (by with_reducible rfl) (by wtm_at "loc") ?_)
local macro_rules | `(tactic| wtm_at "ex") => `(tactic| first
  | ((with_reducible show EX _ (PySem.Expr.Name "int" _) _ _); refine ex_ty (by assumption) (by rfl) bt_int ?_)
  | ((with_reducible show EX _ (PySem.Expr.Name "str" _) _ _); refine ex_ty (by assumption) (by rfl) bt_str ?_)
  | ((with_reducible show EX _ (PySem.Expr.Name "bool" _) _ _); refine ex_ty (by assumption) (by rfl) bt_bool ?_)
  | ((with_reducible show EX _ (PySem.Expr.Name "list" _) _ _); refine ex_ty (by assumption) (by rfl) bt_list ?_)
  | ((with_reducible show EX _ (PySem.Expr.Name "tuple" _) _ _); refine ex_ty (by assumption) (by rfl) bt_tuple ?_)
  | ((with_reducible show EX _ (PySem.Expr.Name _ _) _ _); first | wtm_at "nm" | refine ex_glob (by wtm_at "cal") (by rfl) ?_)
  | ((with_reducible show EX _ (PySem.Expr.Constant (PySem.Const.int _) _ _) _ _); refine ex_int ?_)
  | ((with_reducible show EX _ (PySem.Expr.Constant (PySem.Const.str _) _ _) _ _); refine ex_str ?_)
  | ((with_reducible show EX _ (PySem.Expr.Constant (PySem.Const.bool _) _ _) _ _); refine ex_bl ?_)
  | ((with_reducible show EX _ (PySem.Expr.Constant PySem.Const.none _ _) _ _); refine ex_non ?_)
  | ((with_reducible show EX _ (PySem.Expr.BinOp _ PySem.Operator.Add _ _) _ _); refine ex_bin od_add ?_)
  | ((with_reducible show EX _ (PySem.Expr.BinOp _ PySem.Operator.Sub _ _) _ _); refine ex_bin od_sub ?_)
  | ((with_reducible show EX _ (PySem.Expr.BinOp _ PySem.Operator.Mult _ _) _ _); refine ex_bin od_mul ?_)
  | ((with_reducible show EX _ (PySem.Expr.BinOp _ PySem.Operator.Mod _ _) _ _); refine ex_bin od_mod ?_)
  | ((with_reducible show EX _ (PySem.Expr.BinOp _ PySem.Operator.FloorDiv _ _) _ _); refine ex_bin od_fdiv ?_)
  | ((with_reducible show EX _ (PySem.Expr.BinOp _ PySem.Operator.Pow _ _) _ _); refine ex_bin od_pow ?_)
  | ((with_reducible show EX _ (PySem.Expr.Compare _ [PySem.CmpOp.Eq] _ _) _ _); refine ex_cmp od_eq ?_)
  | ((with_reducible show EX _ (PySem.Expr.Compare _ [PySem.CmpOp.NotEq] _ _) _ _); refine ex_cmp od_ne ?_)
  | ((with_reducible show EX _ (PySem.Expr.Compare _ [PySem.CmpOp.Lt] _ _) _ _); refine ex_cmp od_lt ?_)
  | ((with_reducible show EX _ (PySem.Expr.Compare _ [PySem.CmpOp.LtE] _ _) _ _); refine ex_cmp od_le ?_)
  | ((with_reducible show EX _ (PySem.Expr.Compare _ [PySem.CmpOp.Gt] _ _) _ _); refine ex_cmp od_gt ?_)
  | ((with_reducible show EX _ (PySem.Expr.Compare _ [PySem.CmpOp.GtE] _ _) _ _); refine ex_cmp od_ge ?_)
  | ((with_reducible show EX _ (PySem.Expr.Compare _ [PySem.CmpOp.Is] _ _) _ _); refine ex_cmp od_is ?_)
  | ((with_reducible show EX _ (PySem.Expr.Compare _ [PySem.CmpOp.IsNot] _ _) _ _); refine ex_cmp od_isnot ?_)
  | ((with_reducible show EX _ (PySem.Expr.Compare _ [PySem.CmpOp.LtE, PySem.CmpOp.LtE] _ _) _ _); refine ex_chain od_le od_le ?_)
  | ((with_reducible show EX _ (PySem.Expr.UnaryOp PySem.UnaryOp.USub _ _) _ _); refine ex_neg ?_)
  | ((with_reducible show EX _ (PySem.Expr.UnaryOp PySem.UnaryOp.Not _ _) _ _); refine ex_not ?_)
  | ((with_reducible show EX _ (PySem.Expr.BoolOp PySem.BoolOp.And (_ :: _ :: _) _) _ _); refine ex_and ?_)
  | ((with_reducible show EX _ (PySem.Expr.BoolOp PySem.BoolOp.Or (_ :: _ :: _) _) _ _); refine ex_or ?_)
  | ((with_reducible show EX _ (PySem.Expr.BoolOp _ [_] _) _ _); refine ex_one ?_)
  | ((with_reducible show EX _ (PySem.Expr.IfExp _ _ _ _) _ _); refine ex_ifExp ?_)
  | ((with_reducible show EX _ (PySem.Expr.Tuple _ _ _) _ _); refine ex_tup ?_)
  | ((with_reducible show EX _ (PySem.Expr.List _ _) _ _); refine ex_lst ?_)
  | ((with_reducible show AX _ (_ :: _) _ _); refine ax_cons ?_)
  | ((with_reducible show AX _ [] _ _); refine ax_nil ?_)
  | ((with_reducible show KX _ (_ :: _) _ _); refine kx_cons ?_)
  | ((with_reducible show KX _ [] _ _); refine kx_nil ?_)
  | ((with_reducible show EX _ (PySem.Expr.Call (PySem.Expr.Name "isinstance" _) [_, PySem.Expr.Tuple [_, _] _ _] [] _) _ _); refine ex_isi2 (by assumption) (by rfl) bt_isi ?_)
  | ((with_reducible show EX _ (PySem.Expr.Call (PySem.Expr.Name "isinstance" _) _ [] _) _ _); refine ex_bi bi_isi (by assumption) (by rfl) bt_isi ?_)
  | ((with_reducible show EX _ (PySem.Expr.Call (PySem.Expr.Name "len" _) _ [] _) _ _); refine ex_bi bi_len (by assumption) (by rfl) bt_len ?_)
  | ((with_reducible show EX _ (PySem.Expr.Call (PySem.Expr.Name "abs" _) _ [] _) _ _); refine ex_bi bi_abs (by assumption) (by rfl) bt_abs ?_)
  | ((with_reducible show EX _ (PySem.Expr.Call (PySem.Expr.Name "all" _) _ [] _) _ _); refine ex_bi (bi_all rfl) (by assumption) (by rfl) bt_all ?_)
  | ((with_reducible show EX _ (PySem.Expr.Call (PySem.Expr.Name "int" _) _ [] _) _ _); refine ex_bt bi_int (by assumption) (by rfl) bt_int ?_)
  | ((with_reducible show EX _ (PySem.Expr.Call (PySem.Expr.Name "str" _) _ [] _) _ _); refine ex_bt bi_str (by assumption) (by rfl) bt_str ?_)
  | ((with_reducible show EX _ (PySem.Expr.Call (PySem.Expr.Name "list" _) _ [] _) _ _); refine ex_bt bi_list (by assumption) (by rfl) bt_list ?_)
  | ((with_reducible show EX _ (PySem.Expr.Call (PySem.Expr.Name "tuple" _) _ [] _) _ _); refine ex_bt bi_tuple (by assumption) (by rfl) bt_tuple ?_)
  | ((with_reducible show EX _ (PySem.Expr.Call (PySem.Expr.Name "gcd" _) _ [] _) _ _); refine ex_bf bi_gcd (by assumption) (by rfl) ?_)
  | ((with_reducible show EX _ (PySem.Expr.Call (PySem.Expr.Name _ _) (_ :: _) [] _) _ _); refine ex_call (by wtm_at "cal") (by rfl) ?_)
  | ((with_reducible show EX _ (PySem.Expr.Call (PySem.Expr.Name _ _) [] (_ :: _) _) _ _); refine ex_callK0 (by wtm_at "cal") (by rfl) ?_)
  | ((with_reducible show EX _ (PySem.Expr.Call (PySem.Expr.Name _ _) (_ :: _) (_ :: _) _) _ _); refine ex_callK (by wtm_at "cal") (by rfl) ?_)
  | ((with_reducible show EX _ (PySem.Expr.Subscript _ _ _) _ _); refine ex_ix ?_))
local macro_rules | `(tactic| wtm_at "tx") => `(tactic| first
  | ((with_reducible show TX _ (PySem.Expr.Compare _ [PySem.CmpOp.Eq] _ _) _ _); refine tx_cmp od_eq ?_)
  | ((with_reducible show TX _ (PySem.Expr.Compare _ [PySem.CmpOp.NotEq] _ _) _ _); refine tx_cmp od_ne ?_)
  | ((with_reducible show TX _ (PySem.Expr.Compare _ [PySem.CmpOp.Lt] _ _) _ _); refine tx_cmp od_lt ?_)
  | ((with_reducible show TX _ (PySem.Expr.Compare _ [PySem.CmpOp.LtE] _ _) _ _); refine tx_cmp od_le ?_)
  | ((with_reducible show TX _ (PySem.Expr.Compare _ [PySem.CmpOp.Gt] _ _) _ _); refine tx_cmp od_gt ?_)
  | ((with_reducible show TX _ (PySem.Expr.Compare _ [PySem.CmpOp.GtE] _ _) _ _); refine tx_cmp od_ge ?_)
  | ((with_reducible show TX _ (PySem.Expr.Compare _ [PySem.CmpOp.Is] _ _) _ _); refine tx_cmp od_is ?_)
  | ((with_reducible show TX _ (PySem.Expr.Compare _ [PySem.CmpOp.IsNot] _ _) _ _); refine tx_cmp od_isnot ?_)
  | ((with_reducible show TX _ (PySem.Expr.Compare _ [PySem.CmpOp.LtE, PySem.CmpOp.LtE] _ _) _ _); refine tx_chain od_le od_le ?_)
  | ((with_reducible show TX _ (PySem.Expr.UnaryOp PySem.UnaryOp.Not _ _) _ _); refine tx_not ?_)
  | ((with_reducible show TX _ (PySem.Expr.BoolOp _ _ _) _ _); refine tx_w ?_)
  | ((with_reducible show TW _ (PySem.Expr.BoolOp PySem.BoolOp.And (_ :: _ :: _) _) _ _); refine tw_and ?_)
  | ((with_reducible show TW _ (PySem.Expr.BoolOp PySem.BoolOp.Or (_ :: _ :: _) _) _ _); refine tw_or ?_)
  | ((with_reducible show TW _ (PySem.Expr.BoolOp PySem.BoolOp.And [_] _) _ _); refine tw_and1 ?_)
  | ((with_reducible show TW _ (PySem.Expr.BoolOp PySem.BoolOp.Or [_] _) _ _); refine tw_or1 ?_)
  | ((with_reducible show TX _ _ _ _); refine tx_truth ?_))
local macro_rules | `(tactic| wtm_at "st") => `(tactic| first
  | ((with_reducible show SX _ [_] _ _); refine sx_one ?_)
  | ((with_reducible show SX _ (_ :: _) _ _); refine sx_cons ?_)
  | ((with_reducible show SX _ [] _ _); refine sx_nil ?_)
  | ((with_reducible show S1 _ (PySem.Stmt.Return (some _) _) _ _); refine s_ret ?_)
  | ((with_reducible show S1 _ (PySem.Stmt.If _ _ _ _) _ _); refine s_if ?_)
  | ((with_reducible show S1 _ (PySem.Stmt.Expr _ _) _ _); refine s_expr ?_)
  | ((with_reducible show S1 _ (PySem.Stmt.Pass _) _ _); refine s_pass ?_)
  | ((with_reducible show S1 _ (PySem.Stmt.Assign [PySem.Expr.Name _ _] _ _) _ _); wtm_at "set"))
local macro_rules | `(tactic| wtm_at "op") => `(tactic| with_reducible first
  | refine o_add ?_
  | refine o_sub ?_
  | refine o_lt ?_
  | refine o_le ?_
  | refine o_gt ?_
  | refine o_ge ?_
  | refine o_is ?_
  | refine o_isnot ?_
  | refine o_lenl ?_
  | refine o_lent ?_
  | refine o_abs ?_
  | refine o_int ?_
  | refine o_listl ?_
  | refine o_listt ?_
  | refine o_tupl ?_
  | refine o_tupt ?_
  | refine o_all ?_
  | refine o_gcd ?_
  | refine o_asB ?_
  | refine o_asI ?_
  | refine o_asL ?_
  | refine o_asT ?_
  | refine o_truB ?_
  | refine o_truN ?_
  | refine o_truL ?_
  | refine o_truT ?_
  | refine if_t ?_
  | refine if_f ?_
  | refine if_nf ?_
  | refine if_nt ?_)
local macro_rules | `(tactic| wtm_at "op2") => `(tactic| first
  | ((with_reducible show if _ = true then _ else _); first | refine if_ev_t rfl ?_ | refine if_ev_f rfl ?_)
  | ((with_reducible show wIsi [_, D.ty _] _); refine o_isi rfl (by wtm_at "kb") ?_)
  | ((with_reducible show wEq _ _ _); refine o_eq rfl ?_)
  | ((with_reducible show wNe _ _ _); refine o_ne rfl ?_)
  | ((with_reducible show wIx (D.lst _) (D.int _) _); refine o_ixl rfl ?_)
  | ((with_reducible show wIx (D.tup _) (D.int _) _); refine o_ixt rfl ?_)
  | ((with_reducible show wPow _ _ _); refine o_pow ⟨by decide, by decide, by decide⟩ ?_)
  | ((with_reducible show (_ ≤ 100000) ∧ _); refine ⟨Nat.le_of_ble_eq_true rfl, ?_⟩)
  | ((with_reducible show ∃ n1 n2 t k1 k2, _); refine o_isi2 rfl (by wtm_at "kb") (by wtm_at "kb") ?_))
local macro_rules | `(tactic| wtm_at "go") => `(tactic| first | wtm_at "ex" | wtm_at "op" | wtm_at "op2" | wtm_at "tx" | wtm_at "st")
local macro_rules | `(tactic| wtm_at "ex") => `(tactic| first
  | ((with_reducible show EX _ (PySem.Expr.Compare _ [PySem.CmpOp.In] _ _) _ _); refine ex_cmp od_in ?_)
  | ((with_reducible show EX _ (PySem.Expr.Attribute _ _ _) _ _); refine ex_fld ?_)
  | ((with_reducible show EX _ (PySem.Expr.Call (PySem.Expr.Name _ _) (_ :: _) [] _) _ _); refine ex_make (by assumption) (by rfl) ?_)
  | ((with_reducible show EX _ (PySem.Expr.Call (PySem.Expr.Name _ _) [] [] _) _ _); first | refine ex_make0 (by assumption) (by rfl) ?_ | refine ex_call0 (by wtm_at "cal") (by rfl) ?_))
local macro_rules | `(tactic| wtm_at "op2") => `(tactic| first
  | ((with_reducible show wIn (D.str _) (D.lst _) _); refine o_in rfl ?_))
local macro_rules | `(tactic| wtm_at "tx") => `(tactic| first
  | ((with_reducible show TX _ (PySem.Expr.Compare _ [PySem.CmpOp.In] _ _) _ _); refine tx_cmp od_in ?_))
abbrev sWord : Stmt := topS 28
abbrev nWord : List Str := ["_law_src", "_law_most", "_law_k"]
theorem scWord : FnScope nWord ["_law_src", "_law_most"] (defScope sWord) := ⟨rfl, rfl, rfl, by decide +kernel, rfl, by decide +kernel, by decide +kernel⟩
/-- a text of small letters, at most so many -/
def Small (m : Nat) (z : Str) : Prop := 1 ≤ z.length ∧ z.length ≤ m ∧ ∀ c ∈ z.cps.toList, c ∈ lettersS.cps.toList
def Wword : WA := fun ds P => ∃ m : Nat, ds = [.src, .int (m : Int)] ∧ 1 ≤ m ∧ m ≤ 100 ∧ ∀ z, Small m z → P (.str z)
section
variable {P : Program} {w : World} {K : PySem.W.Frag} {mg : Str → Option Value} {base : Heap}
theorem df_word (T : Top K mg "_law_word" sWord ["_law_src", "_law_most"]) (m2 : mg "range" = none) (d1 : Df P w K mg base "_law_draw" Wdraw 1) (d2 : Df P w K mg base "_law_of" WofA 2) : Df P w K mg base "_law_word" Wword 3 :=
  T.df (k := 2) scWord (fun _ _ ⟨_, h, _⟩ => by rw [h]; rfl) fun f cdv A outer s H E hr hnd ds Po' hw hl => by
  obtain ⟨m, rfl, hm1, hm2, hP⟩ := hw
  have hX : (cxOf CX0 P w K mg base nWord "_law_word" (defScope sWord) f cdv A outer s H E).nox.N = nWord := rfl
  have c1 : CallOk (cxOf CX0 P w K mg base nWord "_law_word" (defScope sWord) f cdv A outer s H E).nox "_law_draw" Wdraw := d1.call hr
  have c2 : CallOk (cxOf CX0 P w K mg base nWord "_law_word" (defScope sWord) f cdv A outer s H E).nox "_law_of" WofA := d2.call hr
  show SX _ (_ :: _) [_, _, _] _
  wtm_at "st"
  wtm_at "st"
  refine ex_join ?_
  repeat wtm_at "go"
  refine ⟨"", rfl, ?_⟩
  refine ex_lc (own := [("_law_k", 2)]) (js := [2]) rfl hnd (blkOk_by (N := nWord) (sc := defScope sWord) (by decide +kernel)) (fun _ _ _ _ _ => pg_name (i := 2) hnd rfl (Or.inl rfl)) (tg_name 2) (by decide) (by decide) [.is .src, .is (.int (m : Int)), .no] rfl ?_
  refine wx_range (by assumption) (by rfl) ?_
  repeat wtm_at "go"
  refine ⟨_, rfl, by omega, Nat.lt_of_le_of_lt (show ((m : Int)).natAbs ≤ 100 by omega) (Nat.lt_of_lt_of_le (show 100 < 2 ^ 20 by decide) (Nat.pow_le_pow_right (by decide) (by decide))), fun n h1 h2 => ?_⟩
  repeat wtm_at "go"
  refine ⟨by omega, by omega, by rw [rangeD_len]; omega, fun i es => ∃ cs : List Nat, cs.length = i ∧ (∀ c ∈ cs, c ∈ lettersS.cps.toList) ∧ es = (cs.map fun c => (⟨#[c]⟩ : Str)).map D.str, ⟨[], rfl, by simp, rfl⟩, fun i d es hd ha => ?_, fun es ha => ?_⟩
  · have ei := range_int' hd
    subst ei
    obtain ⟨cs, hl, hall, rfl⟩ := ha
    show EB _ _ _ _ _
    intro s0 H0 C cl fp
    repeat wtm_at "go"
    refine .inr ⟨lettersS, rfl, by decide, by decide, fun c hc => ?_⟩
    refine ⟨cs ++ [c], by rw [List.length_append, hl]; rfl, fun x hx => (List.mem_append.mp hx).elim (hall x) fun q => ?_, ?_⟩
    · have : x = c := by simpa using q
      rw [this]; exact hc
    · rw [List.map_append, List.map_append]
      rfl
  · obtain ⟨cs, hl, hall, rfl⟩ := ha
    rw [rangeD_len] at hl
    refine ⟨cs.map fun c => (⟨#[c]⟩ : Str), rfl, ?_, ?_⟩
    · have h1 : ((cs.map fun c => (⟨#[c]⟩ : Str)).map fun z => z.length).sum = cs.length := by
        rw [List.map_map]
        clear hl hall
        induction cs with
        | nil => rfl
        | cons c r ih => rw [List.map_cons, List.sum_cons, ih, List.length_cons]; show 1 + r.length = _; omega
      rw [h1, List.length_map, hl]
      show (1 + n).toNat + (1 + n).toNat * 0 ≤ _
      omega
    · have e := join_chars cs
      refine hP _ ⟨?_, ?_, fun c hc => ?_⟩
      · show 1 ≤ Array.size _
        rw [← Array.length_toList, TL.join_eq, e, hl]; omega
      · show Array.size _ ≤ m
        rw [← Array.length_toList, TL.join_eq, e, hl]; omega
      · rw [TL.join_eq, e] at hc
        exact hall c hc
end
end G
set_option Elab.async false
set_option linter.all false
set_option maxRecDepth 100000
set_option maxHeartbeats 4000000
namespace G
open PySem PySem.Spec PyProof.Rows L2
/-! ### lists of texts, slices of any kind, not in a list of one's own, x, y = a, [], deep equality -/
section
variable {X : Cx} {Γ : List E} {P : D → Prop} {pos : Pos} {po : Po}
theorem RepAll.strsMk {K S M H} : ∀ ss : List Str, RepAll K S M H (ss.map V.str) (ss.map D.str)
  | [] => .nil
  | s :: r => .cons (.str s) (RepAll.strsMk r)
def signsOf (z : Str) : List Str := z.cps.toList.map fun c => (⟨#[c]⟩ : Str)
theorem strD_signs (z : Str) : strD z = (signsOf z).map D.str := by unfold strD signsOf; rw [List.map_map]; rfl
def rListS : List V → Hp → VK → Prop := fun vs H Q => ∃ z : Str, vs = [.str z] ∧ z.length ≤ sizeLine ∧ ∀ q, H q = none → Q (.ref q) (upd H q (.lst ((signsOf z).map V.str)))
theorem call_listS (hc : X.calm = true) : CallR X (.type "list") rListS := by
  intro pins s σ H vs us Q I r h
  obtain ⟨z, rfl, hz, q⟩ := h
  obtain ⟨u, rfl, ru⟩ := vals1 r
  obtain ⟨t, rfl⟩ := ru
  have ls : (signsOf z).length = z.cps.size := by unfold signsOf; rw [List.length_map, Array.length_toList]
  refine PySem.call_list_str (I.ok.hd hc) z t (fun h' tk acc c' hk e hi => ?_) hz
  refine ⟨.ref s.heap.objs.size, upd H s.heap.objs.size (.lst ((signsOf z).map V.str)), I.laid hk (Nat.le_refl _) ⟨by rw [List.length_map, ls]; exact hz, acc.toList, c', ?_, by rw [Array.toArray_toList]; exact e⟩, rfl, q _ (I.hok.fresh (Nat.le_refl _))⟩
  refine L2.vals_of_idx _ _ (by rw [List.length_map, ls, Array.length_toList]; exact hi.1) fun j u hj => ?_
  obtain ⟨c, t', hc, rfl⟩ := hi.2 j u (by rw [← Array.getElem?_toList]; exact hj)
  exact ⟨.str ⟨#[c]⟩, by simp [signsOf, hc], ⟨_, rfl⟩⟩
def wListS : WA := fun ds P => ∃ z : Str, ds = [.str z] ∧ z.length ≤ sizeLine ∧ P (.lst ((signsOf z).map D.str))
theorem bi_listS (hc : X.calm = true) : BiD X (.type "list") wListS := by
  intro S B O H0 H σ Γ P vs ds st r ⟨z, e, hz, h⟩
  subst e
  obtain ⟨v, rfl, r1⟩ := r.one
  cases r1
  exact ⟨_, call_listS hc, fun Q k => ⟨z, rfl, hz, fun p np => k _ _ _ (.new np) (rep_lst st (RepAll.strsMk _) np) h⟩⟩
/-! slices -/
def PX (X : Cx) (o : Option Expr) (Γ : List E) (P : Option Int → Prop) : Prop := match o with
  | none => P none
  | some e => EX X e Γ (asI fun i => P (some i))
def poS (X : Cx) : Option Expr → TO
  | none => tNoPart
  | some e => tPart (semE X e)
theorem po_sem : ∀ o, PO X o (poS X o)
  | none => po_none
  | some _ => po_some pe_sem
theorem px_run {o : Option Expr} {P : Option Int → Prop} (h : PX X o Γ P) {S B O H0 H σ} (st : StOk X.K S B O H0 H σ Γ) {Q : Option Int → Hp → Prop} (k : ∀ l H', Ext X.K S H H' → P l → Q l H') : poS X o σ H Q := by
  cases o with
  | none => exact k none H .refl h
  | some e =>
    refine (show EX X e Γ _ from h) S B O H0 H σ st _ fun v d H1 e1 r1 p1 => ?_
    obtain ⟨i, rfl, rfl, p⟩ := asI_use r1 p1
    exact ⟨i, rfl, k _ H1 e1 p⟩
def wSl (d : D) (lo hi : Option Int) (P : D → Prop) : Prop := match d with
  | .tup l => P (.tup (cutD l lo hi))
  | .lst l => P (.lst (cutD l lo hi))
  | .str z => z.length ≤ sizeLine ∧ P (.str (cutS z lo hi))
  | _ => False
theorem ex_sl {p2 : Pos} {e : Expr} {lo hi : Option Expr} (h : EX X e Γ fun d => PX X lo Γ fun l => PX X hi Γ fun u => wSl d l u P) : EX X (.Subscript e (.Slice lo hi none p2) pos) Γ P := by
  refine ex_of (pe_slice ((sl_tupA.or sl_list).or sl_str) pe_sem (po_sem lo) (po_sem hi)) fun S B O H0 H σ st Q k => h S B O H0 H σ st _ fun v d H1 e1 r1 p1 => px_run p1 (st.to e1) fun vl H2 e2 p2 => px_run p2 (st.to (e1.trans e2)) fun vh H3 e3 p3 => ?_
  have r3 := r1.ext (e2.trans e3) (st.to e1).live st.m
  have e123 := e1.trans (e2.trans e3)
  cases r3 with
  | @tup a vs ds ha ra =>
    have p' : P (.tup (cutD ds vl vh)) := p3
    refine .inl (.inl ⟨a, vs, rfl, ha.sq, fun hw => ?_, fun hn p np => ?_⟩)
    · have e : cutD ds vl vh = ds := by
        unfold cutD
        rw [← ra.length, hw.1, hw.2, ra.length, List.drop_zero, Nat.sub_zero, List.take_length]
      rw [e] at p'
      exact k _ _ H3 e123 (.tup ha ra) p'
    · exact k _ _ _ (e123.trans (.new np)) (rep_tup (st.to e123) (ra.cut vl vh) np) p'
  | @lst a vs ds ha ra => exact .inl (.inr ⟨a, vs, rfl, ha.sq, fun p np => k _ _ _ (e123.trans (.new np)) (rep_lst (st.to e123) (ra.cut vl vh) np) p3⟩)
  | str z => exact .inr ⟨z, rfl, p3.1, k _ _ H3 e123 (.str _) p3.2⟩
  | _ => exact p3.elim
/-! not in -/
theorem lay_strs : ∀ ss : List Str, (∀ s ∈ ss, PyData.canLay0 (.str s) = true) → PyData.canLayAll0 (ss.map PyData.str) = true
  | [], _ => rfl
  | b :: r, h => by rw [List.map_cons]; unfold PyData.canLayAll0; rw [lay_strs r fun s hs => h s (List.mem_cons_of_mem _ hs), h b (List.mem_cons_self ..)]; rfl
theorem dep_strs : ∀ ss : List Str, PyData.depthAll (ss.map PyData.str) = 0
  | [] => rfl
  | b :: r => by rw [List.map_cons]; unfold PyData.depthAll; rw [dep_strs r]; rfl
theorem shaped_strs (ss : List Str) (h : ∀ s ∈ ss, PyData.canLay0 (.str s) = true) : SeqAt.shaped (.list (ss.map PyData.str)) = true := by
  unfold SeqAt.shaped PyData.depth
  rw [show PyData.canLay0 (.list (ss.map PyData.str)) = PyData.canLayAll0 (ss.map PyData.str) by unfold PyData.canLay0; rfl, lay_strs ss h, dep_strs]
  rfl
theorem shaped_str {z : Str} (h : PyData.canLay0 (.str z) = true) : SeqAt.shaped (.str z) = true := by
  unfold SeqAt.shaped
  rw [h]
  rfl
theorem dp_strs {K H} : ∀ ss : List Str, DpAll K H (ss.map V.str) (ss.map PyData.str)
  | [] => .nil
  | b :: r => .cons (.str b) (dp_strs r)
theorem any_strs (z : Str) : ∀ ss : List Str, ((ss.map PyData.str).any fun y => PyData.eqv y (.str z)) = decide (z ∈ ss)
  | [] => rfl
  | s :: r => by
    rw [List.map_cons, List.any_cons, any_strs z r]
    have : PyData.eqv (.str s) (.str z) = decide (z = s) := by
      show (s == z) = _
      by_cases h : z = s
      · subst h; simp
      · have h' : ¬ s = z := fun e => h e.symm
        simp [h, h']
    rw [this]
    simp
theorem tx_notInOwn (i : Nat) {N : List Str} {x : Str} {a : Expr} {k : Nat} {ss : List Str} {p : Pos} {P : Bool → Prop} (hu : X.A.units + 65 < cLine) (hX : X.N = N) (hN : nth N i = some x) (hΓ : nth Γ i = some (.own k (ss.map D.str))) (hv : Vis X.env.scope x) (hss : ∀ s ∈ ss, PyData.canLay0 (.str s) = true) (h : EX X a Γ fun d => ∃ z, d = .str z ∧ PyData.canLay0 (.str z) = true ∧ P (!decide (z ∈ ss)))
    (hd : (x == ("__debug__" : Str)) = false := by decide) (hcd : (x == ("__classdict__" : Str)) = false := by decide) (hm : behindInMarks .NotIn (.Name x p) = false := by rfl) : TX X (.Compare a [.NotIn] [.Name x p] pos) Γ P := by
  rw [nth_eq] at hN hΓ
  refine tx_of (pt_cmpR (op_notInD hu) pe_sem (pe_var (i := i) (by rw [hX]; exact hN) hv hd hcd) hm) fun S B O H0 H σ st Q kk => h S B O H0 H σ st _ fun v d H1 e1 r1 p1 => ?_
  obtain ⟨z, rfl, hz, p1⟩ := p1
  cases r1
  obtain ⟨y, hy, m, vs, rfl, hk, hm, rr⟩ := (st.to e1).ent i _ hΓ
  cases rr.strs
  refine ⟨.ref m, hy, .str z, ss.map PyData.str, .str z, .lst (SqL.of hm) (dp_strs ss), shaped_str hz, shaped_strs ss hss, ?_⟩
  rw [any_strs]
  exact ⟨_, rfl, kk _ H1 e1 p1⟩
/-! x, y = a, [] where y is captured -/
theorem StOk.own1 {K : PySem.W.Frag} {S : Sr} {B O : List Addr} {H0 H : Hp} {σ : L2.St} (st : StOk K S B O H0 H σ Γ) (j : Nat) {k : Nat} {m : Addr} {vs : List V} {ds : List D} (hk : O[k]? = some m) (hm : H m = some (.lst vs)) (r : RepAll K S (B ++ O) H vs ds) :
    StOk K S B O H0 H (σ.set j (some (.ref m))) (put Γ j (.own k ds)) := by
  have st2 := st.no j (some (.ref m))
  have hlen := st.len
  exact { st2 with
    len := by rw [put_eq, List.length_set, List.length_set]; exact hlen
    ent := fun i g hg => by
      rw [put_eq] at hg
      by_cases ej : j = i
      · subst ej
        have hi : j < Γ.length := by
          have := (List.getElem?_eq_some_iff.mp hg).1
          rwa [List.length_set] at this
        rw [List.getElem?_set_self hi] at hg
        cases hg
        exact ⟨_, by rw [List.getElem?_set_self (by rw [hlen]; exact hi)], m, vs, rfl, hk, hm, r⟩
      · rw [List.getElem?_set_ne ej] at hg
        obtain ⟨x, hx, o⟩ := st.ent i g hg
        exact ⟨x, by rw [List.getElem?_set_ne ej]; exact hx, o⟩ }
theorem s_asgNil2 (i j : Nat) (hc : X.calm = true) {N : List Str} {x y : Str} {a : Expr} {px py pt lp : Pos} {kt k2 pt2} (hX : X.N = N) (hnd : N.Nodup) (hN : nth N i = some x) (hM : nth N j = some y) (hx : Loc X.env.scope x) (hy : Loc X.env.scope y)
    (h : EX X a Γ fun d => ∀ k, po.nx (put (put Γ i (.is d)) j (.own k [])))
    (hs : swapsWithSole [.Tuple [.Name x px, .Name y py] kt pt] (.Tuple [a, .List [] lp] k2 pt2) pos.line X.env = pure false := by rfl) (hw : swappedStores [.Tuple [.Name x px, .Name y py] kt pt] (.Tuple [a, .List [] lp] k2 pt2) X.env = pure none := by rfl)
    (h1 : (assignEach [.Tuple [.Name x px, .Name y py] kt pt] X.env).map (·.2) = [assign (.Tuple [.Name x px, .Name y py] kt pt) X.env] := by rfl)
    (hs2 : starEach [a, .List [] lp] X.env = (false, eval a X.env) :: starEach [.List [] lp] X.env := by rfl)
    (hf : X.fn x = true ∨ X.env.scope.names.lookup x = some .local := by first | exact .inl rfl | exact .inr rfl | assumption) (hf2 : X.fn y = true ∨ X.env.scope.names.lookup y = some .local := by first | exact .inl rfl | exact .inr rfl | assumption) :
    S1 X (.Assign [.Tuple [.Name x px, .Name y py] kt pt] (.Tuple [a, .List [] lp] k2 pt2) pos) Γ po := by
  rw [nth_eq] at hN hM
  intro S B O H0 H σ st Dn kk
  refine semS_of (ps_asg (pe_tup (pa_cons pe_sem (pa_cons (pe_lst pa_nil) pa_nil) hs2)) (pg_tup hc (pgs_cons (pg_name (i := i) (by rw [hX]; exact hnd) (by rw [hX]; exact hN) hx hf) (pgs_cons (pg_name (i := j) (by rw [hX]; exact hnd) (by rw [hX]; exact hM) hy hf2) pgs_nil))) hs hw h1) ?_
  refine h S B O H0 H σ st _ fun v d H1 e1 r1 p1 => ?_
  refine ⟨small (n := 0) (by decide), fun m nm => ?_⟩
  refine ⟨small (n := 2) (by decide), fun p np => ?_⟩
  have em : Ext X.K S H1 (upd H1 m (.lst [])) := .new nm
  have ep : Ext X.K S (upd H1 m (.lst [])) (upd (upd H1 m (.lst [])) p (.tup [v, .ref m])) := .new np
  have nmp : m ≠ p := ne_of_none (o := .lst []) upd_same np
  have st1 := st.to e1
  have st2 := (st1.set i r1).with nm em (xs := []) upd_same
  have st3 := st2.to ep
  have st4 := st3.own1 j (k := O.length) (m := m) (vs := []) (ds := []) (by simp) (by rw [upd_ne nmp]; exact upd_same) .nil
  refine ⟨p, [v, .ref m], rfl, SqT.of upd_same, rfl, v, [.ref m], rfl, .ref m, [], rfl, rfl, ?_⟩
  refine kk.nx (O ++ [m]) _ _ _ ?_ ?_ (p1 O.length)
  · rw [← put_eq] at st4
    exact st4
  · have a := st.adv (e1.trans (em.trans ep))
    exact ⟨a.src, a.keep, fun x hx n => (List.mem_append.mp hx).elim (fun q => absurd q n) fun q => by
      have : x = m := by simpa using q
      rw [this]
      cases e : H m with
      | none => rfl
      | some o =>
        by_cases hm : m = S.a
        · obtain ⟨⟨o', e'⟩, _⟩ := st1.live
          rw [← hm, nm] at e'
          cases e'
        · have := e1.keep m o hm e
          rw [nm] at this
          exact (nomatch this), st3.out⟩
/-! deep equality -/
mutual
def py : D → Option PyData
  | .non => some .none
  | .bl b => some (.bool b)
  | .int i => some (.int i)
  | .str s => some (.str s)
  | .tup l => (pyAll l).map .tuple
  | .lst l => (pyAll l).map .list
  | _ => none
def pyAll : List D → Option (List PyData)
  | [] => some []
  | d :: r => match py d, pyAll r with
    | some p, some q => some (p :: q)
    | _, _ => none
end
mutual
theorem dp_of {K S M H} : ∀ {v : V} {d : D} {p : PyData}, Rep K S M H v d → py d = some p → Dp K H v p
  | _, _, _, .non, e => by cases e; exact .non
  | _, _, _, .bl b, e => by cases e; exact .bl b
  | _, _, _, .int b, e => by cases e; exact .int b
  | _, _, _, .str b, e => by cases e; exact .str b
  | _, _, _, .ty n, e => by cases e
  | _, _, _, .tup h r, e => by
    unfold py at e
    obtain ⟨q, hq, rfl⟩ := Option.map_eq_some_iff.mp e
    exact .tup h.sq (dp_all r hq)
  | _, _, _, .lst h r, e => by
    unfold py at e
    obtain ⟨q, hq, rfl⟩ := Option.map_eq_some_iff.mp e
    exact .lst h.sq (dp_all r hq)
  | _, _, _, .src h m, e => by cases e
  | _, _, _, .exc _ _ _ _ _, e => by cases e
  | _, _, _, .cls _, e => by cases e
theorem dp_all {K S M H} : ∀ {vs : List V} {ds : List D} {ps : List PyData}, RepAll K S M H vs ds → pyAll ds = some ps → DpAll K H vs ps
  | _, _, _, .nil, e => by
    unfold pyAll at e
    cases e; exact .nil
  | _, _, _, .cons h t, e => by
    unfold pyAll at e
    split at e
    · rename_i p q e1 e2
      cases e
      exact .cons (dp_of h e1) (dp_all t e2)
    · cases e
end
def wNeD : W2 := fun a b P => ∃ p q, py a = some p ∧ py b = some q ∧ SeqAt.shaped p = true ∧ SeqAt.shaped q = true ∧ P (.bl (!PyData.eqv p q))
theorem od_neD (hu : X.A.units + 64 < cLine) : OpD X (compareOp .NotEq) wNeD := by
  intro S B O H0 H σ Γ P x y a b st r1 r2 ⟨p, q, e1, e2, s1, s2, h⟩
  exact ⟨_, op_neD hu, fun Q k => ⟨p, q, dp_of r1 e1, dp_of r2 e2, s1, s2, k _ _ H .refl (.bl _) h⟩⟩
end
end G
set_option Elab.async false
set_option linter.all false
set_option maxRecDepth 100000
set_option maxHeartbeats 4000000
namespace G
open PySem PySem.Spec PyProof.Rows L2
local macro_rules | `(tactic| wtm_at "vis") => `(tactic| first | exact Or.inl rfl | exact Or.inr (Or.inl rfl) | exact Or.inr (Or.inr rfl))
local macro_rules | `(tactic| wtm_at "cal") => `(tactic| first | assumption | exact CallOk.blk (by assumption) | exact CallOkK.blk (by assumption) | exact ConstOk.blk (by assumption))
local macro_rules | `(tactic| wtm_at "nm") => `(tactic| first
  | refine ex_name 0 (by assumption) (by with_reducible rfl) (by with_reducible rfl) (by wtm_at "vis") ?_
  | refine ex_name 1 (by assumption) (by with_reducible rfl) (by with_reducible rfl) (by wtm_at "vis") ?_
  | refine ex_name 2 (by assumption) (by with_reducible rfl) (by with_reducible rfl) (by wtm_at "vis") ?_
  | refine ex_name 3 (by assumption) (by with_reducible rfl) (by with_reducible rfl) (by wtm_at "vis") ?_
  | refine ex_name 4 (by assumption) (by with_reducible rfl) (by with_reducible rfl) (by wtm_at "vis") ?_
  | refine ex_name 5 (by assumption) (by with_reducible rfl) (by with_reducible rfl) (by wtm_at "vis") ?_
  | refine ex_name 6 (by assumption) (by with_reducible rfl) (by with_reducible rfl) (by wtm_at "vis") ?_
  | refine ex_name 7 (by assumption) (by with_reducible rfl) (by with_reducible rfl) (by wtm_at "vis") ?_
  | refine ex_name 8 (by assumption) (by with_reducible rfl) (by with_reducible rfl) (by wtm_at "vis") ?_
  | refine ex_name 9 (by assumption) (by with_reducible rfl) (by with_reducible rfl) (by wtm_at "vis") ?_
  | refine ex_name 10 (by assumption) (by with_reducible rfl) (by with_reducible rfl) (by wtm_at "vis") ?_
  | refine ex_name 11 (by assumption) (by with_reducible rfl) (by with_reducible rfl) (by wtm_at "vis") ?_
  | refine ex_name 12 (by assumption) (by with_reducible rfl) (by with_reducible rfl) (by wtm_at "vis") ?_
  | refine ex_name 13 (by assumption) (by with_reducible rfl) (by with_reducible rfl) (by wtm_at "vis") ?_
  | refine ex_name 14 (by assumption) (by with_reducible rfl) (by with_reducible rfl) (by wtm_at "vis") ?_
  | refine ex_name 15 (by assumption) (by with_reducible rfl) (by with_reducible rfl) (by wtm_at "vis") ?_
  | refine ex_name 16 (by assumption) (by with_reducible rfl) (by with_reducible rfl) (by wtm_at "vis") ?_
  | refine ex_name 17 (by assumption) (by with_reducible rfl) (by with_reducible rfl) (by wtm_at "vis") ?_
  | refine ex_name 18 (by assumption) (by with_reducible rfl) (by with_reducible rfl) (by wtm_at "vis") ?_
  | refine ex_name 19 (by assumption) (by with_reducible rfl) (by with_reducible rfl) (by wtm_at "vis") ?_
  | refine ex_name 20 (by assumption) (by with_reducible rfl) (by with_reducible rfl) (by wtm_at "vis") ?_
  | refine ex_name 21 (by assumption) (by with_reducible rfl) (by with_reducible rfl) (by wtm_at "vis") ?_
  | refine ex_name 22 (by assumption) (by with_reducible rfl) (by with_reducible rfl) (by wtm_at "vis") ?_
  | refine ex_name 23 (by assumption) (by with_reducible rfl) (by with_reducible rfl) (by wtm_at "vis") ?_)
local macro_rules | `(tactic| wtm_at "kb") => `(tactic| first | exact kb0 | exact kb1 | exact kb2 | exact kb3 | exact kb4 | exact kb5 | exact kb6 | exact kb7 | exact kb8 | exact kb9 | exact kb10 | exact kb11 | exact kb12 | exact kb13 | exact kb14 | exact kb15 | exact kb16 | exact kb17 | exact kb18 | exact kb19 | exact kb20 | exact kb21 | exact kb22 | exact kb23 | exact kb24 | exact kb25 | exact kb26 | exact kb27 | exact kb28 | exact kb29)
local macro_rules | `(tactic| wtm_at "loc") => `(tactic| first | exact Or.inl rfl | exact Or.inr rfl)
local macro_rules | `(tactic| wtm_at "set") => `(tactic| first
  | refine s_set 0 (by assumption) (by assumption) (by with_reducible rfl) (by wtm_at "loc") ?_
  | refine s_set 1 (by assumption) (by assumption) (by with_reducible rfl) (by wtm_at "loc") ?_
  | refine s_set 2 (by assumption) (by assumption) (by with_reducible rfl) (by wtm_at "loc") ?_
  | refine s_set 3 (by assumption) (by assumption) (by with_reducible rfl) (by wtm_at "loc") ?_
  | refine s_set 4 (by assumption) (by assumption) (by with_reducible rfl) (by wtm_at "loc") ?_
  | refine s_set 5 (by assumption) (by assumption) (by with_reducible rfl) (by wtm_at "loc") ?_
  | refine s_set 6 (by assumption) (by assumption) (by with_reducible rfl) (by wtm_at "loc") ?_
  | refine s_set 7 (by assumption) (by assumption) (by with_reducible rfl) (by wtm_at "loc") ?_
  | refine s_set 8 (by assumption) (by assumption) (by with_reducible rfl) (by wtm_at "loc") ?_
  | refine s_set 9 (by assumption) (by assumption) (by with_reducible rfl) (by wtm_at "loc") ?_
  | refine s_set 10 (by assumption) (by assumption) (by with_reducible rfl) (by wtm_at "loc") ?_
  | refine s_set 11 (by assumption) (by assumption) (by with_reducible rfl) (by wtm_at "loc") ?_
  | refine s_set 12 (by assumption) (by assumption) (by with_reducible rfl) (by wtm_at "loc") ?_
  | refine s_set 13 (by assumption) (by assumption) (by with_reducible rfl) (by wtm_at "loc") ?_
  | refine s_set 14 (by assumption) (by assumption) (by with_reducible rfl) (by wtm_at "loc") ?_
  | refine s_set 15 (by assumption) (by assumption) (by with_reducible rfl) (by wtm_at "loc") ?_
  | refine s_set 16 (by assumption) (by assumption) (by with_reducible rfl) (by wtm_at "loc") ?_
  | refine s_set 17 (by assumption) (by assumption) (by with_reducible rfl) (by wtm_at "loc") ?_
  | refine s_set 18 (by assumption) (by assumption) (by with_reducible rfl) (by wtm_at "loc") ?_
  | refine s_set 19 (by assumption) (by assumption) (by with_reducible rfl) (by wtm_at "loc") ?_
  | refine s_set 20 (by assumption) (by assumption) (by with_reducible rfl) (by wtm_at "loc") ?_
  | refine s_set 21 (by assumption) (by assumption) (by with_reducible rfl) (by wtm_at "loc") ?_
  | refine s_set 22 (by assumption) (by assumption) (by with_reducible rfl) (by wtm_at "loc") ?_
  | refine s_set 23 (by assumption) (by assumption) (by with_reducible rfl) (by wtm_at "loc") ?_)
local macro_rules | `(tactic| wtm_at "ex") => `(tactic| first
  | ((with_reducible show EX _ (PySem.Expr.Name "int" _) _ _); refine ex_ty (by assumption) (by rfl) bt_int ?_)
  | ((with_reducible show EX _ (PySem.Expr.Name "str" _) _ _); refine ex_ty (by assumption) (by rfl) bt_str ?_)
  | ((with_reducible show EX _ (PySem.Expr.Name "bool" _) _ _); refine ex_ty (by assumption) (by rfl) bt_bool ?_)
  | ((with_reducible show EX _ (PySem.Expr.Name "list" _) _ _); refine ex_ty (by assumption) (by rfl) bt_list ?_)
  | ((with_reducible show EX _ (PySem.Expr.Name "tuple" _) _ _); refine ex_ty (by assumption) (by rfl) bt_tuple ?_)
  | ((with_reducible show EX _ (PySem.Expr.Name _ _) _ _); first | wtm_at "nm" | refine ex_glob (by wtm_at "cal") (by rfl) ?_)
  | ((with_reducible show EX _ (PySem.Expr.Constant (PySem.Const.int _) _ _) _ _); refine ex_int ?_)
  | ((with_reducible show EX _ (PySem.Expr.Constant (PySem.Const.str _) _ _) _ _); refine ex_str ?_)
  | ((with_reducible show EX _ (PySem.Expr.Constant (PySem.Const.bool _) _ _) _ _); refine ex_bl ?_)
  | ((with_reducible show EX _ (PySem.Expr.Constant PySem.Const.none _ _) _ _); refine ex_non ?_)
  | ((with_reducible show EX _ (PySem.Expr.BinOp _ PySem.Operator.Add _ _) _ _); refine ex_bin od_add ?_)
  | ((with_reducible show EX _ (PySem.Expr.BinOp _ PySem.Operator.Sub _ _) _ _); refine ex_bin od_sub ?_)
  | ((with_reducible show EX _ (PySem.Expr.BinOp _ PySem.Operator.Mult _ _) _ _); refine ex_bin od_mul ?_)
  | ((with_reducible show EX _ (PySem.Expr.BinOp _ PySem.Operator.Mod _ _) _ _); refine ex_bin od_mod ?_)
  | ((with_reducible show EX _ (PySem.Expr.BinOp _ PySem.Operator.FloorDiv _ _) _ _); refine ex_bin od_fdiv ?_)
  | ((with_reducible show EX _ (PySem.Expr.BinOp _ PySem.Operator.Pow _ _) _ _); refine ex_bin od_pow ?_)
  | ((with_reducible show EX _ (PySem.Expr.Compare _ [PySem.CmpOp.Eq] _ _) _ _); refine ex_cmp od_eq ?_)
  | ((with_reducible show EX _ (PySem.Expr.Compare _ [PySem.CmpOp.NotEq] _ _) _ _); refine ex_cmp od_ne ?_)
  | ((with_reducible show EX _ (PySem.Expr.Compare _ [PySem.CmpOp.Lt] _ _) _ _); refine ex_cmp od_lt ?_)
  | ((with_reducible show EX _ (PySem.Expr.Compare _ [PySem.CmpOp.LtE] _ _) _ _); refine ex_cmp od_le ?_)
  | ((with_reducible show EX _ (PySem.Expr.Compare _ [PySem.CmpOp.Gt] _ _) _ _); refine ex_cmp od_gt ?_)
  | ((with_reducible show EX _ (PySem.Expr.Compare _ [PySem.CmpOp.GtE] _ _) _ _); refine ex_cmp od_ge ?_)
  | ((with_reducible show EX _ (PySem.Expr.Compare _ [PySem.CmpOp.Is] _ _) _ _); refine ex_cmp od_is ?_)
  | ((with_reducible show EX _ (PySem.Expr.Compare _ [PySem.CmpOp.IsNot] _ _) _ _); refine ex_cmp od_isnot ?_)
  | ((with_reducible show EX _ (PySem.Expr.Compare _ [PySem.CmpOp.LtE, PySem.CmpOp.LtE] _ _) _ _); refine ex_chain od_le od_le ?_)
  | ((with_reducible show EX _ (PySem.Expr.UnaryOp PySem.UnaryOp.USub _ _) _ _); refine ex_neg ?_)
  | ((with_reducible show EX _ (PySem.Expr.UnaryOp PySem.UnaryOp.Not _ _) _ _); refine ex_not ?_)
  | ((with_reducible show EX _ (PySem.Expr.BoolOp PySem.BoolOp.And (_ :: _ :: _) _) _ _); refine ex_and ?_)
  | ((with_reducible show EX _ (PySem.Expr.BoolOp PySem.BoolOp.Or (_ :: _ :: _) _) _ _); refine ex_or ?_)
  | ((with_reducible show EX _ (PySem.Expr.BoolOp _ [_] _) _ _); refine ex_one ?_)
  | ((with_reducible show EX _ (PySem.Expr.IfExp _ _ _ _) _ _); refine ex_ifExp ?_)
  | ((with_reducible show EX _ (PySem.Expr.Tuple _ _ _) _ _); refine ex_tup ?_)
  | ((with_reducible show EX _ (PySem.Expr.List _ _) _ _); refine ex_lst ?_)
  | ((with_reducible show AX _ (_ :: _) _ _); refine ax_cons ?_)
  | ((with_reducible show AX _ [] _ _); refine ax_nil ?_)
  | ((with_reducible show KX _ (_ :: _) _ _); refine kx_cons ?_)
  | ((with_reducible show KX _ [] _ _); refine kx_nil ?_)
  | ((with_reducible show EX _ (PySem.Expr.Call (PySem.Expr.Name "isinstance" _) [_, PySem.Expr.Tuple [_, _] _ _] [] _) _ _); refine ex_isi2 (by assumption) (by rfl) bt_isi ?_)
  | ((with_reducible show EX _ (PySem.Expr.Call (PySem.Expr.Name "isinstance" _) _ [] _) _ _); refine ex_bi bi_isi (by assumption) (by rfl) bt_isi ?_)
  | ((with_reducible show EX _ (PySem.Expr.Call (PySem.Expr.Name "len" _) _ [] _) _ _); refine ex_bi bi_len (by assumption) (by rfl) bt_len ?_)
  | ((with_reducible show EX _ (PySem.Expr.Call (PySem.Expr.Name "abs" _) _ [] _) _ _); refine ex_bi bi_abs (by assumption) (by rfl) bt_abs ?_)
  | ((with_reducible show EX _ (PySem.Expr.Call (PySem.Expr.Name "all" _) _ [] _) _ _); refine ex_bi (bi_all rfl) (by assumption) (by rfl) bt_all ?_)
  | ((with_reducible show EX _ (PySem.Expr.Call (PySem.Expr.Name "int" _) _ [] _) _ _); refine ex_bt bi_int (by assumption) (by rfl) bt_int ?_)
  | ((with_reducible show EX _ (PySem.Expr.Call (PySem.Expr.Name "str" _) _ [] _) _ _); refine ex_bt bi_str (by assumption) (by rfl) bt_str ?_)
  | ((with_reducible show EX _ (PySem.Expr.Call (PySem.Expr.Name "list" _) _ [] _) _ _); refine ex_bt bi_list (by assumption) (by rfl) bt_list ?_)
  | ((with_reducible show EX _ (PySem.Expr.Call (PySem.Expr.Name "tuple" _) _ [] _) _ _); refine ex_bt bi_tuple (by assumption) (by rfl) bt_tuple ?_)
  | ((with_reducible show EX _ (PySem.Expr.Call (PySem.Expr.Name "gcd" _) _ [] _) _ _); refine ex_bf bi_gcd (by assumption) (by rfl) ?_)
  | ((with_reducible show EX _ (PySem.Expr.Call (PySem.Expr.Name _ _) (_ :: _) [] _) _ _); refine ex_call (by wtm_at "cal") (by rfl) ?_)
  | ((with_reducible show EX _ (PySem.Expr.Call (PySem.Expr.Name _ _) [] (_ :: _) _) _ _); refine ex_callK0 (by wtm_at "cal") (by rfl) ?_)
  | ((with_reducible show EX _ (PySem.Expr.Call (PySem.Expr.Name _ _) (_ :: _) (_ :: _) _) _ _); refine ex_callK (by wtm_at "cal") (by rfl) ?_)
  | ((with_reducible show EX _ (PySem.Expr.Subscript _ _ _) _ _); refine ex_ix ?_))
local macro_rules | `(tactic| wtm_at "tx") => `(tactic| first
  | ((with_reducible show TX _ (PySem.Expr.Compare _ [PySem.CmpOp.Eq] _ _) _ _); refine tx_cmp od_eq ?_)
  | ((with_reducible show TX _ (PySem.Expr.Compare _ [PySem.CmpOp.NotEq] _ _) _ _); refine tx_cmp od_ne ?_)
  | ((with_reducible show TX _ (PySem.Expr.Compare _ [PySem.CmpOp.Lt] _ _) _ _); refine tx_cmp od_lt ?_)
  | ((with_reducible show TX _ (PySem.Expr.Compare _ [PySem.CmpOp.LtE] _ _) _ _); refine tx_cmp od_le ?_)
  | ((with_reducible show TX _ (PySem.Expr.Compare _ [PySem.CmpOp.Gt] _ _) _ _); refine tx_cmp od_gt ?_)
  | ((with_reducible show TX _ (PySem.Expr.Compare _ [PySem.CmpOp.GtE] _ _) _ _); refine tx_cmp od_ge ?_)
  | ((with_reducible show TX _ (PySem.Expr.Compare _ [PySem.CmpOp.Is] _ _) _ _); refine tx_cmp od_is ?_)
  | ((with_reducible show TX _ (PySem.Expr.Compare _ [PySem.CmpOp.IsNot] _ _) _ _); refine tx_cmp od_isnot ?_)
  | ((with_reducible show TX _ (PySem.Expr.Compare _ [PySem.CmpOp.LtE, PySem.CmpOp.LtE] _ _) _ _); refine tx_chain od_le od_le ?_)
  | ((with_reducible show TX _ (PySem.Expr.UnaryOp PySem.UnaryOp.Not _ _) _ _); refine tx_not ?_)
  | ((with_reducible show TX _ (PySem.Expr.BoolOp _ _ _) _ _); refine tx_w ?_)
  | ((with_reducible show TW _ (PySem.Expr.BoolOp PySem.BoolOp.And (_ :: _ :: _) _) _ _); refine tw_and ?_)
  | ((with_reducible show TW _ (PySem.Expr.BoolOp PySem.BoolOp.Or (_ :: _ :: _) _) _ _); refine tw_or ?_)
  | ((with_reducible show TW _ (PySem.Expr.BoolOp PySem.BoolOp.And [_] _) _ _); refine tw_and1 ?_)
  | ((with_reducible show TW _ (PySem.Expr.BoolOp PySem.BoolOp.Or [_] _) _ _); refine tw_or1 ?_)
  | ((with_reducible show TX _ _ _ _); refine tx_truth ?_))
local macro_rules | `(tactic| wtm_at "st") => `(tactic| first
  | ((with_reducible show SX _ [_] _ _); refine sx_one ?_)
  | ((with_reducible show SX _ (_ :: _) _ _); refine sx_cons ?_)
  | ((with_reducible show SX _ [] _ _); refine sx_nil ?_)
  | ((with_reducible show S1 _ (PySem.Stmt.Return (some _) _) _ _); refine s_ret ?_)
  | ((with_reducible show S1 _ (PySem.Stmt.If _ _ _ _) _ _); refine s_if ?_)
  | ((with_reducible show S1 _ (PySem.Stmt.Expr _ _) _ _); refine s_expr ?_)
  | ((with_reducible show S1 _ (PySem.Stmt.Pass _) _ _); refine s_pass ?_)
  | ((with_reducible show S1 _ (PySem.Stmt.Assign [PySem.Expr.Name _ _] _ _) _ _); wtm_at "set"))
local macro_rules | `(tactic| wtm_at "op") => `(tactic| with_reducible first
  | refine o_add ?_
  | refine o_sub ?_
  | refine o_lt ?_
  | refine o_le ?_
  | refine o_gt ?_
  | refine o_ge ?_
  | refine o_is ?_
  | refine o_isnot ?_
  | refine o_lenl ?_
  | refine o_lent ?_
  | refine o_abs ?_
  | refine o_int ?_
  | refine o_listl ?_
  | refine o_listt ?_
  | refine o_tupl ?_
  | refine o_tupt ?_
  | refine o_all ?_
  | refine o_gcd ?_
  | refine o_asB ?_
  | refine o_asI ?_
  | refine o_asL ?_
  | refine o_asT ?_
  | refine o_truB ?_
  | refine o_truN ?_
  | refine o_truL ?_
  | refine o_truT ?_
  | refine if_t ?_
  | refine if_f ?_
  | refine if_nf ?_
  | refine if_nt ?_)
local macro_rules | `(tactic| wtm_at "op2") => `(tactic| first
  | ((with_reducible show if _ = true then _ else _); first | refine if_ev_t rfl ?_ | refine if_ev_f rfl ?_)
  | ((with_reducible show wIsi [_, D.ty _] _); refine o_isi rfl (by wtm_at "kb") ?_)
  | ((with_reducible show wEq _ _ _); refine o_eq rfl ?_)
  | ((with_reducible show wNe _ _ _); refine o_ne rfl ?_)
  | ((with_reducible show wIx (D.lst _) (D.int _) _); refine o_ixl rfl ?_)
  | ((with_reducible show wIx (D.tup _) (D.int _) _); refine o_ixt rfl ?_)
  | ((with_reducible show wPow _ _ _); refine o_pow ⟨by decide, by decide, by decide⟩ ?_)
  | ((with_reducible show (_ ≤ 100000) ∧ _); refine ⟨Nat.le_of_ble_eq_true rfl, ?_⟩)
  | ((with_reducible show ∃ n1 n2 t k1 k2, _); refine o_isi2 rfl (by wtm_at "kb") (by wtm_at "kb") ?_))
local macro_rules | `(tactic| wtm_at "go") => `(tactic| first | wtm_at "ex" | wtm_at "op" | wtm_at "op2" | wtm_at "tx" | wtm_at "st")
local macro_rules | `(tactic| wtm_at "ex") => `(tactic| first
  | ((with_reducible show EX _ (PySem.Expr.Compare _ [PySem.CmpOp.In] _ _) _ _); refine ex_cmp od_in ?_)
  | ((with_reducible show EX _ (PySem.Expr.Attribute _ _ _) _ _); refine ex_fld ?_)
  | ((with_reducible show EX _ (PySem.Expr.Call (PySem.Expr.Name _ _) (_ :: _) [] _) _ _); refine ex_make (by assumption) (by rfl) ?_)
  | ((with_reducible show EX _ (PySem.Expr.Call (PySem.Expr.Name _ _) [] [] _) _ _); first | refine ex_make0 (by assumption) (by rfl) ?_ | refine ex_call0 (by wtm_at "cal") (by rfl) ?_))
local macro_rules | `(tactic| wtm_at "op2") => `(tactic| first
  | ((with_reducible show wIn (D.str _) (D.lst _) _); refine o_in rfl ?_))
local macro_rules | `(tactic| wtm_at "tx") => `(tactic| first
  | ((with_reducible show TX _ (PySem.Expr.Compare _ [PySem.CmpOp.In] _ _) _ _); refine tx_cmp od_in ?_))
abbrev sWords : Stmt := topS 29
abbrev sKinds : Stmt := topS 33
abbrev sGp : Stmt := topS 35
abbrev nWords : List Str := ["_law_src", "_law_many", "_law_stem", "_law_found", "_law_at", "_law_k", "_law_like", "_law_pool", "_law_one"]
abbrev oWords : List (Str × Nat) := [("_law_one", 8)]
theorem scWords : FnScope nWords ["_law_src", "_law_many"] (defScope sWords) := ⟨rfl, rfl, rfl, by decide +kernel, rfl, by decide +kernel, by decide +kernel⟩
abbrev nKinds : List Str := ["_law_src", "_law_many", "_law_found", "_law_k", "_law_name", "_law_ends"]
theorem scKinds : FnScope nKinds ["_law_src", "_law_many"] (defScope sKinds) := ⟨rfl, rfl, rfl, by decide +kernel, rfl, by decide +kernel, by decide +kernel⟩
abbrev nGp : List Str := ["_law_src", "_law_name"]
abbrev oGp : List (Str × Nat) := [("_law_name", 1)]
theorem scGp : FnScope nGp ["_law_src"] (defScope sGp) := ⟨rfl, rfl, rfl, by decide +kernel, rfl, by decide +kernel, by decide +kernel⟩
/-- a name of the law's -/
abbrev Nm (z : Str) : Prop := Small 8 z
def lowS : Str := "abcdefghijklmnop"
theorem low_in : ∀ c ∈ lowS.cps.toList, c ∈ lettersS.cps.toList := by decide
theorem low_nd : (signsOf lowS).Nodup := by decide
theorem low_len : (signsOf lowS).length = 16 := by decide
theorem ok_small {m : Nat} {z : Str} (h : ∀ c ∈ z.cps.toList, c ∈ lettersS.cps.toList) : PyData.canLay0 (.str z) = true := by
  unfold PyData.canLay0 PyData.strOk
  rw [Array.all_eq_true']
  intro c hc
  have := h c (Array.mem_def.mp hc)
  have key : ∀ c ∈ lettersS.cps.toList, decide (c < 0x110000) = true := by decide
  exact key c this
theorem len_of_sub {α : Type} [DecidableEq α] : ∀ {l m : List α}, l.Nodup → (∀ x ∈ l, x ∈ m) → l.length ≤ m.length
  | [], _, _, _ => Nat.zero_le _
  | x :: l, m, hn, hs => by
    have hx := hs x (List.mem_cons_self ..)
    have hn' := List.nodup_cons.mp hn
    have h := len_of_sub (l := l) (m := m.erase x) hn'.2 fun y hy => by
      have ne : y ≠ x := fun e => hn'.1 (e ▸ hy)
      exact (List.mem_erase_of_ne ne).mpr (hs y (List.mem_cons_of_mem _ hy))
    rw [List.length_erase_of_mem hx] at h
    have : 0 < m.length := List.length_pos_of_mem hx
    rw [List.length_cons]
    omega
theorem some_low {ns : List Str} (h : ns.length ≤ 15) : ∃ z ∈ signsOf lowS, z ∉ ns := by
  refine Classical.byContradiction fun hc => ?_
  have hs : ∀ z ∈ signsOf lowS, z ∈ ns := fun z hz => Classical.byContradiction fun hn => hc ⟨z, hz, hn⟩
  have := len_of_sub low_nd hs
  rw [low_len] at this
  omega
theorem cps_cut (z : Str) (lo hi : Option Int) : ∀ c ∈ (cutS z lo hi).cps.toList, c ∈ z.cps.toList := fun c hc => by
  unfold cutS at hc
  exact List.mem_of_mem_drop (List.mem_of_mem_take (by simpa using hc))
theorem len_cps (z : Str) : z.length = z.cps.toList.length := by rw [Array.length_toList]; rfl
theorem cut_len (z : Str) (lo hi : Option Int) : (cutS z lo hi).length = min (HT.sIx z.length z.length hi - HT.sIx z.length 0 lo) (z.length - HT.sIx z.length 0 lo) := by
  rw [len_cps]
  unfold cutS
  rw [List.toList_toArray, List.length_take, List.length_drop, ← len_cps]
theorem app_len (a b : Str) : (a ++ b).length = a.length + b.length := by
  show (a.cps ++ b.cps).size = _
  rw [Array.size_append]
  rfl
def Wwords : WA := fun ds P => ∃ m : Nat, ds = [.src, .int (m : Int)] ∧ m ≤ 12 ∧ ∀ ns : List Str, ns.length = m → ns.Nodup → (∀ n ∈ ns, Nm n) → P (.lst (ns.map D.str))
section
local macro_rules | `(tactic| wtm_at "st") => `(tactic| first
  | ((with_reducible show S1 _ (PySem.Stmt.Expr (PySem.Expr.Call (PySem.Expr.Attribute (PySem.Expr.Name "_law_found" _) "append" _) _ _ _) _) _ _); refine s_append 3 (by assumption) (by rfl) (by rfl) (by wtm_at "vis") (by rfl) (by simp only [List.length_map]; omega) ?_))
local macro_rules | `(tactic| wtm_at "ex") => `(tactic| first
  | ((with_reducible show EX _ (PySem.Expr.Subscript _ (PySem.Expr.Slice _ _ _ _) _) _ _); refine ex_sl ?_)
  | ((with_reducible show EX _ (PySem.Expr.Call (PySem.Expr.Name "list" _) [PySem.Expr.Constant _ _ _] [] _) _ _); refine ex_bt (bi_listS rfl) (by assumption) (by rfl) bt_list ?_))
local macro_rules | `(tactic| wtm_at "op2") => `(tactic| first
  | ((with_reducible show PX _ none _ _); show PX _ none _ _; unfold PX; show _)
  | ((with_reducible show PX _ (some _) _ _); show EX _ _ _ _))
variable {P : Program} {w : World} {K : PySem.W.Frag} {mg : Str → Option Value} {base : Heap}
set_option maxHeartbeats 16000000 in
theorem df_words (T : Top K mg "_law_words" sWords ["_law_src", "_law_many"]) (m1 : mg "len" = none) (m2 : mg "range" = none) (m3 : mg "list" = none) (d1 : Df P w K mg base "_law_draw" Wdraw 1) (d2 : Df P w K mg base "_law_of" WofA 2) (d3 : Df P w K mg base "_law_word" Wword 3) : Df P w K mg base "_law_words" Wwords 4 :=
  T.df (k := 3) scWords (fun _ _ ⟨_, h, _⟩ => by rw [h]; rfl) fun f cdv A outer s H E hr hnd ds Po' hw hl => by
  obtain ⟨m, rfl, hm, hP⟩ := hw
  have hX : (cxOf CX0 P w K mg base nWords "_law_words" (defScope sWords) f cdv A outer s H E).nox.N = nWords := rfl
  have c1 : CallOk (cxOf CX0 P w K mg base nWords "_law_words" (defScope sWords) f cdv A outer s H E).nox "_law_draw" Wdraw := d1.call hr
  have c2 : CallOk (cxOf CX0 P w K mg base nWords "_law_words" (defScope sWords) f cdv A outer s H E).nox "_law_of" WofA := d2.call hr
  have c3 : CallOk (cxOf CX0 P w K mg base nWords "_law_words" (defScope sWords) f cdv A outer s H E).nox "_law_word" Wword := d3.call hr
  have hu : (cxOf CX0 P w K mg base nWords "_law_words" (defScope sWords) f cdv A outer s H E).nox.A.units + 65 < cLine := by
    have := hr.un
    show (A.deeper _).units + 65 < _
    omega
  show SX _ (_ :: _) [_, _, _, _, _, _, _, _, _] _
  wtm_at "st"
  refine s_asgNil2 2 3 rfl hX hnd (by with_reducible rfl) (by with_reducible rfl) (by wtm_at "loc") (by wtm_at "loc") ?_
  refine ex_sl ?_
  repeat wtm_at "go"
  refine ⟨8, rfl, by decide, by decide, fun z hz => ?_⟩
  show EX _ _ _ _
  repeat wtm_at "go"
  refine ⟨Nat.le_trans hz.2.1 (by decide), fun k => ?_⟩
  obtain ⟨stem, hstem⟩ : ∃ stem, stem = cutS z none (some 7) := ⟨_, rfl⟩
  have s7 : stem.length ≤ 7 := by
    rw [hstem, cut_len, HT.sIx_none, show (some (7 : Int)) = some (((7 : Nat) : Int)) from rfl, HT.sIx_nat]
    omega
  have sL : ∀ c ∈ stem.cps.toList, c ∈ lettersS.cps.toList := fun c hc => by rw [hstem] at hc; exact hz.2.2 c (cps_cut _ _ _ c hc)
  rw [← hstem]
  show SX _ (_ :: _) [.is .src, .is (.int (m : Int)), .is (.str stem), .own k [], .no, .no, .no, .no, .no] _
  repeat wtm_at "go"
  refine o_lens (Nat.le_trans s7 (by decide)) ?_
  repeat wtm_at "go"
  refine ⟨_, rfl, by omega, Nat.lt_of_le_of_lt (show ((stem.length : Int) + 1).natAbs ≤ 8 by omega) (Nat.lt_of_lt_of_le (show 8 < 2 ^ 20 by decide) (Nat.pow_le_pow_right (by decide) (by decide))), fun at_ a1 a2 => ?_⟩
  obtain ⟨a, rfl⟩ : ∃ a : Nat, at_ = (a : Int) := ⟨at_.toNat, by omega⟩
  have ha : a ≤ stem.length := by omega
  show SX _ (_ :: _) [.is .src, .is (.int (m : Int)), .is (.str stem), .own k [], .is (.int (a : Int)), .no, .no, .no, .no] _
  wtm_at "st"
  refine s_for .never rfl (pg_name (i := 5) hnd rfl (Or.inl rfl)) (tg_name 5) ?_
  refine wx_range (by assumption) (by rfl) ?_
  repeat wtm_at "go"
  refine ⟨by omega, by omega, fun i Γ => ∃ ns : List Str, ns.length = i ∧ ns.Nodup ∧ (∀ n ∈ ns, Nm n) ∧ Γ = [.is .src, .is (.int (m : Int)), .is (.str stem), .own k (ns.map D.str), .is (.int (a : Int)), .no, .no, .no, .no], ⟨[], rfl, List.nodup_nil, by simp, rfl⟩, ?_, ?_⟩
  · rintro i d Γ hd ⟨ns, hl, hnodup, hNm, rfl⟩
    have hi : i < m := by
      have := (List.getElem?_eq_some_iff.mp hd).1
      rw [rangeD_len] at this
      omega
    have hok : ∀ s ∈ ns, PyData.canLay0 (.str s) = true := fun s hs => ok_small (m := 8) (hNm s hs).2.2
    show SX _ (_ :: _) [.is .src, .is (.int (m : Int)), .is (.str stem), .own k (ns.map D.str), .is (.int (a : Int)), .is _, .no, .no, .no] _
    repeat wtm_at "go"
    refine ⟨Nat.le_trans s7 (by decide), ?_⟩
    repeat wtm_at "go"
    refine .inr ⟨lettersS, rfl, by decide, by decide, fun c hc => ?_⟩
    have hc1 : (⟨#[c]⟩ : Str).length = 1 := rfl
    have l1 := cut_len stem none (some (a : Int))
    have l2 := cut_len stem (some (a : Int)) none
    rw [HT.sIx_none, HT.sIx_nat] at l1 l2
    refine o_adds (Nat.le_trans (show _ ≤ 100 by omega) (by decide)) ?_
    repeat wtm_at "go"
    refine ⟨Nat.le_trans s7 (by decide), ?_⟩
    have l3 := app_len (cutS stem none (some (a : Int))) ⟨#[c]⟩
    refine o_adds (Nat.le_trans (show _ ≤ 100 by omega) (by decide)) ?_
    obtain ⟨like, hlike⟩ : ∃ like, like = cutS stem none (some (a : Int)) ++ (⟨#[c]⟩ : Str) ++ cutS stem (some (a : Int)) none := ⟨_, rfl⟩
    rw [← hlike]
    have nlike : Nm like := by
      refine ⟨?_, ?_, fun x hx => ?_⟩
      · rw [hlike, app_len, app_len, hc1]; omega
      · rw [hlike, app_len, app_len, hc1]; omega
      · rw [hlike, cps_app, Array.toList_append, cps_app, Array.toList_append] at hx
        rcases List.mem_append.mp hx with hx | hx
        · rcases List.mem_append.mp hx with hx | hx
          · exact sL x (cps_cut _ _ _ x hx)
          · have : x = c := by simpa using hx
            rw [this]; exact hc
        · exact sL x (cps_cut _ _ _ x hx)
    clear hlike
    show SX _ (_ :: _) [.is .src, .is (.int (m : Int)), .is (.str stem), .own k (ns.map D.str), .is (.int (a : Int)), .is _, .is (.str like), .no, .no] _
    wtm_at "st"
    refine s_setLc 7 (own := oWords) (js := [8]) hX rfl hnd (blkOk_by (N := nWords) (sc := defScope sWords) (by decide +kernel)) (fun _ _ _ _ _ => pg_name (i := 8) hnd rfl (Or.inl rfl)) (tg_name 8) (by decide) (by decide) [.is .src, .is (.int (m : Int)), .is (.str stem), .own k (ns.map D.str), .is (.int (a : Int)), .is d, .is (.str like), .no, .no] rfl ?_ (by with_reducible rfl) rfl (sw_true rfl rfl rfl (by decide +kernel))
    refine wx_list ?_
    refine ex_bin od_catL ?_
    repeat wtm_at "go"
    refine ⟨8, rfl, by decide, by decide, fun w8 hw8 => ?_⟩
    repeat wtm_at "go"
    refine ⟨lowS, rfl, by decide, ?_⟩
    have ecat : [D.str like, D.str w8] ++ (signsOf lowS).map D.str = (like :: w8 :: signsOf lowS).map D.str := rfl
    refine ⟨_, _, rfl, rfl, by rw [List.length_map, low_len]; show 2 + 16 ≤ sizeLine; decide, ?_⟩
    rw [ecat]
    obtain ⟨cands, hcands⟩ : ∃ cands, cands = like :: w8 :: signsOf lowS := ⟨_, rfl⟩
    have cNm : ∀ z ∈ cands, Nm z := fun z hz => by
      rw [hcands] at hz
      rcases List.mem_cons.mp hz with rfl | hz
      · exact nlike
      rcases List.mem_cons.mp hz with rfl | hz
      · exact hw8
      · have key : ∀ z ∈ signsOf lowS, 1 ≤ z.length ∧ z.length ≤ 8 ∧ ∀ c ∈ z.cps.toList, c ∈ lettersS.cps.toList := by decide
        exact key z hz
    have clow : ∀ z ∈ signsOf lowS, z ∈ cands := fun z hz => by rw [hcands]; exact List.mem_cons_of_mem _ (List.mem_cons_of_mem _ hz)
    have clen : cands.length = 18 := by rw [hcands, List.length_cons, List.length_cons, low_len]
    rw [← hcands]
    clear hcands ecat
    repeat wtm_at "go"
    refine ⟨by rw [List.length_map]; omega, fun i es => es = ((cands.take i).filter fun z => !decide (z ∈ ns)).map D.str, by simp, fun i y es hd ha => ?_, fun es ha => ?_⟩
    · obtain ⟨z, hz, rfl⟩ : ∃ z, cands[i]? = some z ∧ D.str z = y := by rw [List.getElem?_map] at hd; exact Option.map_eq_some_iff.mp hd
      subst ha
      show TB _ _ _ _ _
      intro s0 H0 C cl fp
      refine tx_notInOwn 3 (ss := ns) (by exact hu) (by assumption) (by rfl) (by rfl) (by wtm_at "vis") hok ?_
      repeat wtm_at "go"
      refine ⟨z, rfl, ok_small (m := 8) (cNm z (List.mem_of_getElem? hz)).2.2, ?_⟩
      refine if_d (fun hb => ?_) fun hb => ?_
      · show EB _ _ _ _ _
        intro s0 H0 C cl fp
        repeat wtm_at "go"
        show List.map D.str _ ++ [_] = _
        rw [List.take_add_one, hz, List.filter_append, List.map_append]
        show _ = _ ++ List.map D.str (List.filter (fun z => !decide (z ∈ ns)) [z])
        rw [List.filter_cons_of_pos (p := fun z => !decide (z ∈ ns)) hb]
        rfl
      · show List.map D.str _ = List.map D.str (List.filter (fun z => !decide (z ∈ ns)) (List.take (i + 1) cands))
        rw [List.take_add_one, hz, List.filter_append, List.map_append]
        show _ = _ ++ List.map D.str (List.filter (fun z => !decide (z ∈ ns)) [z])
        rw [List.filter_cons_of_neg (p := fun z => !decide (z ∈ ns)) (by rw [hb]; exact Bool.false_ne_true)]
        simp
    rw [List.length_map, List.take_length] at ha
    subst ha
    obtain ⟨h0, t0, e0⟩ : ∃ h0 t0, cands.filter (fun z => !decide (z ∈ ns)) = h0 :: t0 := by
      obtain ⟨z, hz1, hz2⟩ := some_low (ns := ns) (by omega)
      have hz3 : z ∈ cands.filter (fun z => !decide (z ∈ ns)) := List.mem_filter.mpr ⟨clow z hz1, by rw [decide_eq_false hz2]; rfl⟩
      cases e : cands.filter (fun z => !decide (z ∈ ns)) with
      | nil => rw [e] at hz3; cases hz3
      | cons h t => exact ⟨h, t, rfl⟩
    have hm0 : h0 ∈ cands.filter (fun z => !decide (z ∈ ns)) := by rw [e0]; exact List.mem_cons_self ..
    obtain ⟨hm1, hm2⟩ := List.mem_filter.mp hm0
    rw [e0]
    repeat wtm_at "go"
    refine o_ixl at0 ?_
    refine ⟨[.is .src, .is (.int (m : Int)), .is (.str stem), .own k ((ns ++ [h0]).map D.str), .is (.int (a : Int)), .no, .no, .no, .no], ?_, ns ++ [h0], by rw [List.length_append, hl]; rfl, ?_, ?_, rfl⟩
    · rw [List.map_append]
      exact ⟨.refl _, .refl _, .refl _, .refl _, .refl _, .no _, .no _, .no _, .no _, trivial⟩
    · refine List.nodup_append.mpr ⟨hnodup, List.nodup_cons.mpr ⟨by simp, List.nodup_nil⟩, fun x hx y hy e => ?_⟩
      have : y = h0 := by simpa using hy
      have hx' : h0 ∈ ns := by rw [← this, ← e]; exact hx
      simp [hx'] at hm2
    · intro n hn
      rcases List.mem_append.mp hn with hn | hn
      · exact hNm n hn
      · rw [List.mem_singleton.mp hn]; exact cNm h0 hm1
  · rintro Γ ⟨ns, hl, hnodup, hNm, rfl⟩
    rw [rangeD_len] at hl
    show SX _ (_ :: _) [.is .src, .is (.int (m : Int)), .is (.str stem), .own k (ns.map D.str), .is (.int (a : Int)), .no, .no, .no, .no] _
    wtm_at "st"
    refine s_retOwn 3 hX (by with_reducible rfl) (by rfl) (by wtm_at "vis") ?_
    exact hP ns (by omega) hnodup hNm
end
end G
set_option Elab.async false
set_option linter.all false
set_option maxRecDepth 100000
set_option maxHeartbeats 4000000
namespace G
open PySem PySem.Spec PyProof.Rows L2
local macro_rules | `(tactic| wtm_at "vis") => `(tactic| first | exact Or.inl rfl | exact Or.inr (Or.inl rfl) | exact Or.inr (Or.inr rfl))
local macro_rules | `(tactic| wtm_at "cal") => `(tactic| first | assumption | exact CallOk.blk (by assumption) | exact CallOkK.blk (by assumption) | exact ConstOk.blk (by assumption))
local macro_rules | `(tactic| wtm_at "nm") => `(tactic| first
  | refine ex_name 0 (by assumption) (by with_reducible rfl) (by with_reducible rfl) (by wtm_at "vis") ?_
  | refine ex_name 1 (by assumption) (by with_reducible rfl) (by with_reducible rfl) (by wtm_at "vis") ?_
  | refine ex_name 2 (by assumption) (by with_reducible rfl) (by with_reducible rfl) (by wtm_at "vis") ?_
  | refine ex_name 3 (by assumption) (by with_reducible rfl) (by with_reducible rfl) (by wtm_at "vis") ?_
  | refine ex_name 4 (by assumption) (by with_reducible rfl) (by with_reducible rfl) (by wtm_at "vis") ?_
  | refine ex_name 5 (by assumption) (by with_reducible rfl) (by with_reducible rfl) (by wtm_at "vis") ?_
  | refine ex_name 6 (by assumption) (by with_reducible rfl) (by with_reducible rfl) (by wtm_at "vis") ?_
  | refine ex_name 7 (by assumption) (by with_reducible rfl) (by with_reducible rfl) (by wtm_at "vis") ?_
  | refine ex_name 8 (by assumption) (by with_reducible rfl) (by with_reducible rfl) (by wtm_at "vis") ?_
  | refine ex_name 9 (by assumption) (by with_reducible rfl) (by with_reducible rfl) (by wtm_at "vis") ?_
  | refine ex_name 10 (by assumption) (by with_reducible rfl) (by with_reducible rfl) (by wtm_at "vis") ?_
  | refine ex_name 11 (by assumption) (by with_reducible rfl) (by with_reducible rfl) (by wtm_at "vis") ?_
  | refine ex_name 12 (by assumption) (by with_reducible rfl) (by with_reducible rfl) (by wtm_at "vis") ?_
  | refine ex_name 13 (by assumption) (by with_reducible rfl) (by with_reducible rfl) (by wtm_at "vis") ?_
  | refine ex_name 14 (by assumption) (by with_reducible rfl) (by with_reducible rfl) (by wtm_at "vis") ?_
  | refine ex_name 15 (by assumption) (by with_reducible rfl) (by with_reducible rfl) (by wtm_at "vis") ?_
  | refine ex_name 16 (by assumption) (by with_reducible rfl) (by with_reducible rfl) (by wtm_at "vis") ?_
  | refine ex_name 17 (by assumption) (by with_reducible rfl) (by with_reducible rfl) (by wtm_at "vis") ?_
  | refine ex_name 18 (by assumption) (by with_reducible rfl) (by with_reducible rfl) (by wtm_at "vis") ?_
  | refine ex_name 19 (by assumption) (by with_reducible rfl) (by with_reducible rfl) (by wtm_at "vis") ?_
  | refine ex_name 20 (by assumption) (by with_reducible rfl) (by with_reducible rfl) (by wtm_at "vis") ?_
  | refine ex_name 21 (by assumption) (by with_reducible rfl) (by with_reducible rfl) (by wtm_at "vis") ?_
  | refine ex_name 22 (by assumption) (by with_reducible rfl) (by with_reducible rfl) (by wtm_at "vis") ?_
  | refine ex_name 23 (by assumption) (by with_reducible rfl) (by with_reducible rfl) (by wtm_at "vis") ?_)
local macro_rules | `(tactic| wtm_at "kb") => `(tactic| first | exact kb0 | exact kb1 | exact kb2 | exact kb3 | exact kb4 | exact kb5 | exact kb6 | exact kb7 | exact kb8 | exact kb9 | exact kb10 | exact kb11 | exact kb12 | exact kb13 | exact kb14 | exact kb15 | exact kb16 | exact kb17 | exact kb18 | exact kb19 | exact kb20 | exact kb21 | exact kb22 | exact kb23 | exact kb24 | exact kb25 | exact kb26 | exact kb27 | exact kb28 | exact kb29)
local macro_rules | `(tactic| wtm_at "loc") => `(tactic| first | exact Or.inl rfl | exact Or.inr rfl)
local macro_rules | `(tactic| wtm_at "set") => `(tactic| first
  | refine s_set 0 (by assumption) (by assumption) (by with_reducible rfl) (by wtm_at "loc") ?_
  | refine s_set 1 (by assumption) (by assumption) (by with_reducible rfl) (by wtm_at "loc") ?_
  | refine s_set 2 (by assumption) (by assumption) (by with_reducible rfl) (by wtm_at "loc") ?_
  | refine s_set 3 (by assumption) (by assumption) (by with_reducible rfl) (by wtm_at "loc") ?_
  | refine s_set 4 (by assumption) (by assumption) (by with_reducible rfl) (by wtm_at "loc") ?_
  | refine s_set 5 (by assumption) (by assumption) (by with_reducible rfl) (by wtm_at "loc") ?_
  | refine s_set 6 (by assumption) (by assumption) (by with_reducible rfl) (by wtm_at "loc") ?_
  | refine s_set 7 (by assumption) (by assumption) (by with_reducible rfl) (by wtm_at "loc") ?_
  | refine s_set 8 (by assumption) (by assumption) (by with_reducible rfl) (by wtm_at "loc") ?_
  | refine s_set 9 (by assumption) (by assumption) (by with_reducible rfl) (by wtm_at "loc") ?_
  | refine s_set 10 (by assumption) (by assumption) (by with_reducible rfl) (by wtm_at "loc") ?_
  | refine s_set 11 (by assumption) (by assumption) (by with_reducible rfl) (by wtm_at "loc") ?_
  | refine s_set 12 (by assumption) (by assumption) (by with_reducible rfl) (by wtm_at "loc") ?_
  | refine s_set 13 (by assumption) (by assumption) (by with_reducible rfl) (by wtm_at "loc") ?_
  | refine s_set 14 (by assumption) (by assumption) (by with_reducible rfl) (by wtm_at "loc") ?_
  | refine s_set 15 (by assumption) (by assumption) (by with_reducible rfl) (by wtm_at "loc") ?_
  | refine s_set 16 (by assumption) (by assumption) (by with_reducible rfl) (by wtm_at "loc") ?_
  | refine s_set 17 (by assumption) (by assumption) (by with_reducible rfl) (by wtm_at "loc") ?_
  | refine s_set 18 (by assumption) (by assumption) (by with_reducible rfl) (by wtm_at "loc") ?_
  | refine s_set 19 (by assumption) (by assumption) (by with_reducible rfl) (by wtm_at "loc") ?_
  | refine s_set 20 (by assumption) (by assumption) (by with_reducible rfl) (by wtm_at "loc") ?_
  | refine s_set 21 (by assumption) (by assumption) (by with_reducible rfl) (by wtm_at "loc") ?_
  | refine s_set 22 (by assumption) (by assumption) (by with_reducible rfl) (by wtm_at "loc") ?_
  | refine s_set 23 (by assumption) (by assumption) (by with_reducible rfl) (by wtm_at "loc") ?_)
local macro_rules | `(tactic| wtm_at "ex") => `(tactic| first
  | ((with_reducible show EX _ (PySem.Expr.Name "int" _) _ _); refine ex_ty (by assumption) (by rfl) bt_int ?_)
  | ((with_reducible show EX _ (PySem.Expr.Name "str" _) _ _); refine ex_ty (by assumption) (by rfl) bt_str ?_)
  | ((with_reducible show EX _ (PySem.Expr.Name "bool" _) _ _); refine ex_ty (by assumption) (by rfl) bt_bool ?_)
  | ((with_reducible show EX _ (PySem.Expr.Name "list" _) _ _); refine ex_ty (by assumption) (by rfl) bt_list ?_)
  | ((with_reducible show EX _ (PySem.Expr.Name "tuple" _) _ _); refine ex_ty (by assumption) (by rfl) bt_tuple ?_)
  | ((with_reducible show EX _ (PySem.Expr.Name _ _) _ _); first | wtm_at "nm" | refine ex_glob (by wtm_at "cal") (by rfl) ?_)
  | ((with_reducible show EX _ (PySem.Expr.Constant (PySem.Const.int _) _ _) _ _); refine ex_int ?_)
  | ((with_reducible show EX _ (PySem.Expr.Constant (PySem.Const.str _) _ _) _ _); refine ex_str ?_)
  | ((with_reducible show EX _ (PySem.Expr.Constant (PySem.Const.bool _) _ _) _ _); refine ex_bl ?_)
  | ((with_reducible show EX _ (PySem.Expr.Constant PySem.Const.none _ _) _ _); refine ex_non ?_)
  | ((with_reducible show EX _ (PySem.Expr.BinOp _ PySem.Operator.Add _ _) _ _); refine ex_bin od_add ?_)
  | ((with_reducible show EX _ (PySem.Expr.BinOp _ PySem.Operator.Sub _ _) _ _); refine ex_bin od_sub ?_)
  | ((with_reducible show EX _ (PySem.Expr.BinOp _ PySem.Operator.Mult _ _) _ _); refine ex_bin od_mul ?_)
  | ((with_reducible show EX _ (PySem.Expr.BinOp _ PySem.Operator.Mod _ _) _ _); refine ex_bin od_mod ?_)
  | ((with_reducible show EX _ (PySem.Expr.BinOp _ PySem.Operator.FloorDiv _ _) _ _); refine ex_bin od_fdiv ?_)
  | ((with_reducible show EX _ (PySem.Expr.BinOp _ PySem.Operator.Pow _ _) _ _); refine ex_bin od_pow ?_)
  | ((with_reducible show EX _ (PySem.Expr.Compare _ [PySem.CmpOp.Eq] _ _) _ _); refine ex_cmp od_eq ?_)
  | ((with_reducible show EX _ (PySem.Expr.Compare _ [PySem.CmpOp.NotEq] _ _) _ _); refine ex_cmp od_ne ?_)
  | ((with_reducible show EX _ (PySem.Expr.Compare _ [PySem.CmpOp.Lt] _ _) _ _); refine ex_cmp od_lt ?_)
  | ((with_reducible show EX _ (PySem.Expr.Compare _ [PySem.CmpOp.LtE] _ _) _ _); refine ex_cmp od_le ?_)
  | ((with_reducible show EX _ (PySem.Expr.Compare _ [PySem.CmpOp.Gt] _ _) _ _); refine ex_cmp od_gt ?_)
  | ((with_reducible show EX _ (PySem.Expr.Compare _ [PySem.CmpOp.GtE] _ _) _ _); refine ex_cmp od_ge ?_)
  | ((with_reducible show EX _ (PySem.Expr.Compare _ [PySem.CmpOp.Is] _ _) _ _); refine ex_cmp od_is ?_)
  | ((with_reducible show EX _ (PySem.Expr.Compare _ [PySem.CmpOp.IsNot] _ _) _ _); refine ex_cmp od_isnot ?_)
  | ((with_reducible show EX _ (PySem.Expr.Compare _ [PySem.CmpOp.LtE, PySem.CmpOp.LtE] _ _) _ _); refine ex_chain od_le od_le ?_)
  | ((with_reducible show EX _ (PySem.Expr.UnaryOp PySem.UnaryOp.USub _ _) _ _); refine ex_neg ?_)
  | ((with_reducible show EX _ (PySem.Expr.UnaryOp PySem.UnaryOp.Not _ _) _ _); refine ex_not ?_)
  | ((with_reducible show EX _ (PySem.Expr.BoolOp PySem.BoolOp.And (_ :: _ :: _) _) _ _); refine ex_and ?_)
  | ((with_reducible show EX _ (PySem.Expr.BoolOp PySem.BoolOp.Or (_ :: _ :: _) _) _ _); refine ex_or ?_)
  | ((with_reducible show EX _ (PySem.Expr.BoolOp _ [_] _) _ _); refine ex_one ?_)
  | ((with_reducible show EX _ (PySem.Expr.IfExp _ _ _ _) _ _); refine ex_ifExp ?_)
  | ((with_reducible show EX _ (PySem.Expr.Tuple _ _ _) _ _); refine ex_tup ?_)
  | ((with_reducible show EX _ (PySem.Expr.List _ _) _ _); refine ex_lst ?_)
  | ((with_reducible show AX _ (_ :: _) _ _); refine ax_cons ?_)
  | ((with_reducible show AX _ [] _ _); refine ax_nil ?_)
  | ((with_reducible show KX _ (_ :: _) _ _); refine kx_cons ?_)
  | ((with_reducible show KX _ [] _ _); refine kx_nil ?_)
  | ((with_reducible show EX _ (PySem.Expr.Call (PySem.Expr.Name "isinstance" _) [_, PySem.Expr.Tuple [_, _] _ _] [] _) _ _); refine ex_isi2 (by assumption) (by rfl) bt_isi ?_)
  | ((with_reducible show EX _ (PySem.Expr.Call (PySem.Expr.Name "isinstance" _) _ [] _) _ _); refine ex_bi bi_isi (by assumption) (by rfl) bt_isi ?_)
  | ((with_reducible show EX _ (PySem.Expr.Call (PySem.Expr.Name "len" _) _ [] _) _ _); refine ex_bi bi_len (by assumption) (by rfl) bt_len ?_)
  | ((with_reducible show EX _ (PySem.Expr.Call (PySem.Expr.Name "abs" _) _ [] _) _ _); refine ex_bi bi_abs (by assumption) (by rfl) bt_abs ?_)
  | ((with_reducible show EX _ (PySem.Expr.Call (PySem.Expr.Name "all" _) _ [] _) _ _); refine ex_bi (bi_all rfl) (by assumption) (by rfl) bt_all ?_)
  | ((with_reducible show EX _ (PySem.Expr.Call (PySem.Expr.Name "int" _) _ [] _) _ _); refine ex_bt bi_int (by assumption) (by rfl) bt_int ?_)
  | ((with_reducible show EX _ (PySem.Expr.Call (PySem.Expr.Name "str" _) _ [] _) _ _); refine ex_bt bi_str (by assumption) (by rfl) bt_str ?_)
  | ((with_reducible show EX _ (PySem.Expr.Call (PySem.Expr.Name "list" _) _ [] _) _ _); refine ex_bt bi_list (by assumption) (by rfl) bt_list ?_)
  | ((with_reducible show EX _ (PySem.Expr.Call (PySem.Expr.Name "tuple" _) _ [] _) _ _); refine ex_bt bi_tuple (by assumption) (by rfl) bt_tuple ?_)
  | ((with_reducible show EX _ (PySem.Expr.Call (PySem.Expr.Name "gcd" _) _ [] _) _ _); refine ex_bf bi_gcd (by assumption) (by rfl) ?_)
  | ((with_reducible show EX _ (PySem.Expr.Call (PySem.Expr.Name _ _) (_ :: _) [] _) _ _); refine ex_call (by wtm_at "cal") (by rfl) ?_)
  | ((with_reducible show EX _ (PySem.Expr.Call (PySem.Expr.Name _ _) [] (_ :: _) _) _ _); refine ex_callK0 (by wtm_at "cal") (by rfl) ?_)
  | ((with_reducible show EX _ (PySem.Expr.Call (PySem.Expr.Name _ _) (_ :: _) (_ :: _) _) _ _); refine ex_callK (by wtm_at "cal") (by rfl) ?_)
  | ((with_reducible show EX _ (PySem.Expr.Subscript _ _ _) _ _); refine ex_ix ?_))
local macro_rules | `(tactic| wtm_at "tx") => `(tactic| first
  | ((with_reducible show TX _ (PySem.Expr.Compare _ [PySem.CmpOp.Eq] _ _) _ _); refine tx_cmp od_eq ?_)
  | ((with_reducible show TX _ (PySem.Expr.Compare _ [PySem.CmpOp.NotEq] _ _) _ _); refine tx_cmp od_ne ?_)
  | ((with_reducible show TX _ (PySem.Expr.Compare _ [PySem.CmpOp.Lt] _ _) _ _); refine tx_cmp od_lt ?_)
  | ((with_reducible show TX _ (PySem.Expr.Compare _ [PySem.CmpOp.LtE] _ _) _ _); refine tx_cmp od_le ?_)
  | ((with_reducible show TX _ (PySem.Expr.Compare _ [PySem.CmpOp.Gt] _ _) _ _); refine tx_cmp od_gt ?_)
  | ((with_reducible show TX _ (PySem.Expr.Compare _ [PySem.CmpOp.GtE] _ _) _ _); refine tx_cmp od_ge ?_)
  | ((with_reducible show TX _ (PySem.Expr.Compare _ [PySem.CmpOp.Is] _ _) _ _); refine tx_cmp od_is ?_)
  | ((with_reducible show TX _ (PySem.Expr.Compare _ [PySem.CmpOp.IsNot] _ _) _ _); refine tx_cmp od_isnot ?_)
  | ((with_reducible show TX _ (PySem.Expr.Compare _ [PySem.CmpOp.LtE, PySem.CmpOp.LtE] _ _) _ _); refine tx_chain od_le od_le ?_)
  | ((with_reducible show TX _ (PySem.Expr.UnaryOp PySem.UnaryOp.Not _ _) _ _); refine tx_not ?_)
  | ((with_reducible show TX _ (PySem.Expr.BoolOp _ _ _) _ _); refine tx_w ?_)
  | ((with_reducible show TW _ (PySem.Expr.BoolOp PySem.BoolOp.And (_ :: _ :: _) _) _ _); refine tw_and ?_)
  | ((with_reducible show TW _ (PySem.Expr.BoolOp PySem.BoolOp.Or (_ :: _ :: _) _) _ _); refine tw_or ?_)
  | ((with_reducible show TW _ (PySem.Expr.BoolOp PySem.BoolOp.And [_] _) _ _); refine tw_and1 ?_)
  | ((with_reducible show TW _ (PySem.Expr.BoolOp PySem.BoolOp.Or [_] _) _ _); refine tw_or1 ?_)
  | ((with_reducible show TX _ _ _ _); refine tx_truth ?_))
local macro_rules | `(tactic| wtm_at "st") => `(tactic| first
  | ((with_reducible show SX _ [_] _ _); refine sx_one ?_)
  | ((with_reducible show SX _ (_ :: _) _ _); refine sx_cons ?_)
  | ((with_reducible show SX _ [] _ _); refine sx_nil ?_)
  | ((with_reducible show S1 _ (PySem.Stmt.Return (some _) _) _ _); refine s_ret ?_)
  | ((with_reducible show S1 _ (PySem.Stmt.If _ _ _ _) _ _); refine s_if ?_)
  | ((with_reducible show S1 _ (PySem.Stmt.Expr _ _) _ _); refine s_expr ?_)
  | ((with_reducible show S1 _ (PySem.Stmt.Pass _) _ _); refine s_pass ?_)
  | ((with_reducible show S1 _ (PySem.Stmt.Assign [PySem.Expr.Name _ _] _ _) _ _); wtm_at "set"))
local macro_rules | `(tactic| wtm_at "op") => `(tactic| with_reducible first
  | refine o_add ?_
  | refine o_sub ?_
  | refine o_lt ?_
  | refine o_le ?_
  | refine o_gt ?_
  | refine o_ge ?_
  | refine o_is ?_
  | refine o_isnot ?_
  | refine o_lenl ?_
  | refine o_lent ?_
  | refine o_abs ?_
  | refine o_int ?_
  | refine o_listl ?_
  | refine o_listt ?_
  | refine o_tupl ?_
  | refine o_tupt ?_
  | refine o_all ?_
  | refine o_gcd ?_
  | refine o_asB ?_
  | refine o_asI ?_
  | refine o_asL ?_
  | refine o_asT ?_
  | refine o_truB ?_
  | refine o_truN ?_
  | refine o_truL ?_
  | refine o_truT ?_
  | refine if_t ?_
  | refine if_f ?_
  | refine if_nf ?_
  | refine if_nt ?_)
local macro_rules | `(tactic| wtm_at "op2") => `(tactic| first
  | ((with_reducible show if _ = true then _ else _); first | refine if_ev_t rfl ?_ | refine if_ev_f rfl ?_)
  | ((with_reducible show wIsi [_, D.ty _] _); refine o_isi rfl (by wtm_at "kb") ?_)
  | ((with_reducible show wEq _ _ _); refine o_eq rfl ?_)
  | ((with_reducible show wNe _ _ _); refine o_ne rfl ?_)
  | ((with_reducible show wIx (D.lst _) (D.int _) _); refine o_ixl rfl ?_)
  | ((with_reducible show wIx (D.tup _) (D.int _) _); refine o_ixt rfl ?_)
  | ((with_reducible show wPow _ _ _); refine o_pow ⟨by decide, by decide, by decide⟩ ?_)
  | ((with_reducible show (_ ≤ 100000) ∧ _); refine ⟨Nat.le_of_ble_eq_true rfl, ?_⟩)
  | ((with_reducible show ∃ n1 n2 t k1 k2, _); refine o_isi2 rfl (by wtm_at "kb") (by wtm_at "kb") ?_))
local macro_rules | `(tactic| wtm_at "go") => `(tactic| first | wtm_at "ex" | wtm_at "op" | wtm_at "op2" | wtm_at "tx" | wtm_at "st")
local macro_rules | `(tactic| wtm_at "ex") => `(tactic| first
  | ((with_reducible show EX _ (PySem.Expr.Compare _ [PySem.CmpOp.In] _ _) _ _); refine ex_cmp od_in ?_)
  | ((with_reducible show EX _ (PySem.Expr.Attribute _ _ _) _ _); refine ex_fld ?_)
  | ((with_reducible show EX _ (PySem.Expr.Call (PySem.Expr.Name _ _) (_ :: _) [] _) _ _); refine ex_make (by assumption) (by rfl) ?_)
  | ((with_reducible show EX _ (PySem.Expr.Call (PySem.Expr.Name _ _) [] [] _) _ _); first | refine ex_make0 (by assumption) (by rfl) ?_ | refine ex_call0 (by wtm_at "cal") (by rfl) ?_))
local macro_rules | `(tactic| wtm_at "op2") => `(tactic| first
  | ((with_reducible show wIn (D.str _) (D.lst _) _); refine o_in rfl ?_))
local macro_rules | `(tactic| wtm_at "tx") => `(tactic| first
  | ((with_reducible show TX _ (PySem.Expr.Compare _ [PySem.CmpOp.In] _ _) _ _); refine tx_cmp od_in ?_))
def KRow (r : D) : Prop := ∃ n e b1 b2, r = .tup [.str n, .int e, .bl b1, .bl b2] ∧ Nm n ∧ 1 ≤ e ∧ e ≤ 3
def PRow (r : D) : Prop := ∃ n zs, r = .tup [.str n, .tup zs] ∧ Nm n ∧ 1 ≤ zs.length ∧ zs.length ≤ 3 ∧ ∀ z ∈ zs, Size1 z
def Wkinds : WA := fun ds P => ∃ m : Nat, ds = [.src, .int (m : Int)] ∧ m ≤ 12 ∧ ∀ rows : List D, rows.length = m → (∀ r ∈ rows, KRow r) → (rows.map nameD).Nodup → P (.lst rows)
def Wgp : WA := fun ds P => ds = [.src] ∧ ∀ rows : List D, 1 ≤ rows.length → rows.length ≤ 3 → (∀ r ∈ rows, PRow r) → (rows.map nameD).Nodup → P (.lst rows)
theorem sm3 (n : Int) (h : n.natAbs ≤ 100 := by decide) : n.natAbs < 2 ^ 8000 := Nat.lt_of_le_of_lt h (Nat.lt_of_lt_of_le (show 100 < 2 ^ 20 by decide) (Nat.pow_le_pow_right (by decide) (by decide)))
section
local macro_rules | `(tactic| wtm_at "st") => `(tactic| first
  | ((with_reducible show S1 _ (PySem.Stmt.Expr (PySem.Expr.Call (PySem.Expr.Attribute (PySem.Expr.Name "_law_found" _) "append" _) _ _ _) _) _ _); refine s_append 2 (by assumption) (by rfl) (by rfl) (by wtm_at "vis") (by rfl) (by omega) ?_))
variable {P : Program} {w : World} {K : PySem.W.Frag} {mg : Str → Option Value} {base : Heap}
set_option maxHeartbeats 16000000 in
theorem df_kinds (T : Top K mg "_law_kinds" sKinds ["_law_src", "_law_many"]) (m1 : mg "enumerate" = none) (d1 : Df P w K mg base "_law_draw" Wdraw 1) (d4 : Df P w K mg base "_law_words" Wwords 4) : Df P w K mg base "_law_kinds" Wkinds 5 :=
  T.df (k := 4) scKinds (fun _ _ ⟨_, h, _⟩ => by rw [h]; rfl) fun f cdv A outer s H E hr hnd ds Po' hw hl => by
  obtain ⟨m, rfl, hm, hP⟩ := hw
  have hX : (cxOf CX0 P w K mg base nKinds "_law_kinds" (defScope sKinds) f cdv A outer s H E).nox.N = nKinds := rfl
  have c1 : CallOk (cxOf CX0 P w K mg base nKinds "_law_kinds" (defScope sKinds) f cdv A outer s H E).nox "_law_draw" Wdraw := d1.call hr
  have c4 : CallOk (cxOf CX0 P w K mg base nKinds "_law_kinds" (defScope sKinds) f cdv A outer s H E).nox "_law_words" Wwords := d4.call hr
  show SX _ (_ :: _) [_, _, _, _, _, _] _
  wtm_at "st"
  refine s_setNil 2 hX hnd (by with_reducible rfl) (.inl rfl) fun k => ?_
  show SX _ (_ :: _) [.is .src, .is (.int (m : Int)), .own k [], .no, .no, .no] _
  wtm_at "st"
  refine s_for .never rfl (pg_tup rfl (pgs_cons (pg_name (i := 3) hnd rfl (Or.inl rfl)) (pgs_cons (pg_name (i := 4) hnd rfl (Or.inl rfl)) pgs_nil))) (tg_tup (tgs_cons (tg_name 3) (tgs_cons (tg_name 4) tgs_nil)) (fun ds Γ P h => by obtain ⟨a, r, rfl, b, r2, rfl, rfl, _⟩ := h; rfl)) ?_
  refine wx_enum (by assumption) (by rfl) ?_
  repeat wtm_at "go"
  refine ⟨m, rfl, hm, fun ns hlen hnodup hNm => ?_⟩
  repeat wtm_at "go"
  refine ⟨_, rfl, fun i Γ => ∃ rows : List D, Γ = [.is .src, .is (.int (m : Int)), .own k rows, .no, .no, .no] ∧ rows.length = i ∧ (∀ r ∈ rows, KRow r) ∧ rows.map nameD = ns.take i, ⟨[], rfl, rfl, by simp, rfl⟩, ?_, ?_⟩
  · rintro i d Γ hd ⟨rows, rfl, hl, hrows, hnames⟩
    obtain ⟨r, hr1, rfl⟩ := enumD_at hd
    obtain ⟨z, hz, rfl⟩ : ∃ z, ns[i]? = some z ∧ D.str z = r := by rw [List.getElem?_map] at hr1; exact Option.map_eq_some_iff.mp hr1
    have hi : i < ns.length := (List.getElem?_eq_some_iff.mp hz).1
    refine ⟨_, rfl, _, _, rfl, _, _, rfl, rfl, ?_⟩
    show SX _ (_ :: _) [.is .src, .is (.int (m : Int)), .own k rows, .is (.int (i : Int)), .is (.str z), .no] _
    repeat wtm_at "go"
    refine if_dec (fun h => ?_) fun h => ?_
    · repeat wtm_at "go"
      refine ⟨3, rfl, by decide, sm3 3, fun j1 j1a j1b => ?_⟩
      repeat wtm_at "go"
      refine ⟨2, rfl, by decide, sm3 2, fun j2 j2a j2b => ?_⟩
      repeat wtm_at "go"
      refine ⟨[.is .src, .is (.int (m : Int)), .own k (rows ++ [_]), .no, .no, .no], ⟨.refl _, .refl _, .refl _, .no _, .no _, .no _, trivial⟩, rows ++ [_], rfl, by rw [List.length_append, hl]; rfl, fun r hr => ?_, ?_⟩
      · rcases List.mem_append.mp hr with hr | hr
        · exact hrows r hr
        · rw [List.mem_singleton.mp hr]
          exact ⟨z, _, _, _, rfl, hNm z (List.mem_of_getElem? hz), by omega, by omega⟩
      · rw [List.map_append, hnames, List.take_add_one, hz]; rfl
    · repeat wtm_at "go"
      refine ⟨3, rfl, by decide, sm3 3, fun j0 j0a j0b => ?_⟩
      repeat wtm_at "go"
      refine ⟨3, rfl, by decide, sm3 3, fun j1 j1a j1b => ?_⟩
      repeat wtm_at "go"
      refine ⟨2, rfl, by decide, sm3 2, fun j2 j2a j2b => ?_⟩
      repeat wtm_at "go"
      refine ⟨[.is .src, .is (.int (m : Int)), .own k (rows ++ [_]), .no, .no, .no], ⟨.refl _, .refl _, .refl _, .no _, .no _, .no _, trivial⟩, rows ++ [_], rfl, by rw [List.length_append, hl]; rfl, fun r hr => ?_, ?_⟩
      · rcases List.mem_append.mp hr with hr | hr
        · exact hrows r hr
        · rw [List.mem_singleton.mp hr]
          exact ⟨z, _, _, _, rfl, hNm z (List.mem_of_getElem? hz), by omega, by omega⟩
      · rw [List.map_append, hnames, List.take_add_one, hz]; rfl
  · rintro Γ ⟨rows, rfl, hl, hrows, hnames⟩
    rw [enumD_len, List.length_map] at hl
    rw [enumD_len, List.length_map, List.take_length] at hnames
    show SX _ (_ :: _) [.is .src, .is (.int (m : Int)), .own k rows, .no, .no, .no] _
    wtm_at "st"
    refine s_retOwn 2 hX (by with_reducible rfl) (by rfl) (by wtm_at "vis") ?_
    exact hP rows (by omega) hrows (by rw [hnames]; exact hnodup)
theorem df_gp (T : Top K mg "_law_great_parts" sGp ["_law_src"]) (d1 : Df P w K mg base "_law_draw" Wdraw 1) (d3 : Df P w K mg base "_law_great_sizes" Wgs 3) (d4 : Df P w K mg base "_law_words" Wwords 4) : Df P w K mg base "_law_great_parts" Wgp 5 :=
  T.df (k := 4) scGp (fun _ _ ⟨h, _⟩ => by rw [h]; rfl) fun f cdv A outer s H E hr hnd ds Po' hw hl => by
  obtain ⟨rfl, hP⟩ := hw
  have hX : (cxOf CX0 P w K mg base nGp "_law_great_parts" (defScope sGp) f cdv A outer s H E).nox.N = nGp := rfl
  have c1 : CallOk (cxOf CX0 P w K mg base nGp "_law_great_parts" (defScope sGp) f cdv A outer s H E).nox "_law_draw" Wdraw := d1.call hr
  have c3 : CallOk (cxOf CX0 P w K mg base nGp "_law_great_parts" (defScope sGp) f cdv A outer s H E).nox "_law_great_sizes" Wgs := d3.call hr
  have c4 : CallOk (cxOf CX0 P w K mg base nGp "_law_great_parts" (defScope sGp) f cdv A outer s H E).nox "_law_words" Wwords := d4.call hr
  show SX _ (_ :: _) [_, _] _
  wtm_at "st"
  wtm_at "st"
  refine ex_lc (own := oGp) (js := [1]) rfl hnd (blkOk_by (N := nGp) (sc := defScope sGp) (by decide +kernel)) (fun _ _ _ _ _ => pg_name (i := 1) hnd rfl (Or.inl rfl)) (tg_name 1) (by decide) (by decide) [.is .src, .no] rfl ?_
  refine wx_list ?_
  repeat wtm_at "go"
  refine ⟨3, rfl, by decide, sm3 3, fun j ja jb => ?_⟩
  repeat wtm_at "go"
  obtain ⟨q, rfl⟩ : ∃ q : Nat, j = (q : Int) := ⟨j.toNat, by omega⟩
  refine ⟨1 + q, by rw [Int.natCast_add]; rfl, by omega, fun ns hlen hnodup hNm => ?_⟩
  repeat wtm_at "go"
  refine ⟨by rw [List.length_map]; omega, fun i es => es.length = i ∧ (∀ r ∈ es, PRow r) ∧ es.map nameD = ns.take i, ⟨rfl, by simp, rfl⟩, fun i y es hd ha => ?_, fun es ha => ?_⟩
  · obtain ⟨z, hz, rfl⟩ : ∃ z, ns[i]? = some z ∧ D.str z = y := by rw [List.getElem?_map] at hd; exact Option.map_eq_some_iff.mp hd
    obtain ⟨hl, hrows, hnames⟩ := ha
    show EB _ _ _ _ _
    intro s0 H0 C cl fp
    repeat wtm_at "go"
    refine ⟨rfl, fun zs z1 z2 z3 => ?_⟩
    repeat wtm_at "go"
    refine ⟨by rw [List.length_append, hl]; rfl, fun r hr => ?_, ?_⟩
    · rcases List.mem_append.mp hr with hr | hr
      · exact hrows r hr
      · rw [List.mem_singleton.mp hr]
        exact ⟨z, zs, rfl, hNm z (List.mem_of_getElem? hz), z1, z2, z3⟩
    · rw [List.map_append, hnames, List.take_add_one, hz]; rfl
  · obtain ⟨hl, hrows, hnames⟩ := ha
    rw [List.length_map] at hl
    rw [List.length_map, List.take_length] at hnames
    exact hP es (by omega) (by omega) hrows (by rw [hnames]; exact hnodup)
end
end G
set_option Elab.async false
set_option linter.all false
set_option maxRecDepth 100000
set_option maxHeartbeats 4000000
namespace G
open PySem PySem.Spec PyProof.Rows L2
/-! ### try: .. except (A, B) as n: .. (and clauses behind it that are not come to) -/
def wTup (K : PySem.W.Frag) (c1 c2 : Value) (i : Nat) (ts : Addr → Value → Option Addr → TS) (D : Ends) : L2.WX := fun cls d σ H =>
  PySem.W.exmAny K cls [c1, c2] = some true ∧ ∀ a, H a = none → ts a cls d { nx := fun σ' H' => D.nx (σ'.set i none) H', rt := D.rt, bk := fun σ' H' => D.bk (σ'.set i none) H', ct := fun σ' H' => D.ct (σ'.set i none) H' } (σ.set i (some (.ref a))) H
theorem flying_push {B : Heap} {l : List Env} {a : Addr} {Z : Obj → Prop} {h : Heap} (o : Obj) (x : HandSPX.FlyingZ B l a Z h) : HandSPX.FlyingZ B l a Z (h.push o) := by
  obtain ⟨f1, f2, f3, oe, vs, T, oT, ts, he, hz, hd, h1, hnT, hTe, hT, hdT, h3⟩ := x
  exact ⟨fun b q e => Heap.get?_push_of_some _ (f1 b q e), f2, Heap.FunFrames.of_keeps (fun b q e _ => ⟨q, Heap.get?_push_of_some _ e, rfl⟩) f3, oe, vs, T, oT, ts, Heap.get?_push_of_some _ he, hz, hd, h1, hnT, hTe, Heap.get?_push_of_some _ hT, hdT, h3⟩
section
variable {X : Cx} {x1 x2 n : Str} {c1 c2 : Value} {i kk : Nat} {body suite : List Stmt} {b₀ : Stmt} {np1 np2 tpos pos pos' : Pos} {tb : L2.WX → TS} {ts : Addr → Value → Option Addr → TS} {rest : List ExceptHandler}
theorem ps_try_tup (hs : X.stack = X.env :: X.outer) (hf : X.env.frame = some X.env.locals) (hN : X.N.Nodup) (hi : X.N[i]? = some n) (hln : X.env.kindOf n = some .local) (hc1 : Names X x1 c1) (hc2 : Names X x2 c2)
    (hb : ∀ (W : L2.WX) (pn : List (Addr × Obj)) (xe : Value → Shared → Prop), Takes (X.tr pn xe) W → PassesOwn (model X.prog X.w) X.A X.env xe → PSs (X.tr pn xe) body (tb W))
    (hsu : ∀ (a : Addr) (oe : Obj) (cls : Value) (d : Option Addr) (pn : List (Addr × Obj)), Zc cls d oe → (∃ vs, oe.data = .fields vs) → PSs (X.suite a ((a, oe) :: pn)) (b₀ :: suite) (ts a cls d)) :
    PS X (.Try body (.ExceptHandler (some (.Tuple [.Name x1 np1, .Name x2 np2] kk tpos)) (some n) (b₀ :: suite) pos' :: rest) [] [] pos) (fun D σ H => tb (wTup X.K c1 c2 i ts D) D σ H) := by
  refine ⟨fun pins s σ H D I h => ?_⟩
  have ok := I.ok
  have hfr : X.A.frames = some (X.env :: X.outer) := by rw [ok.frames, hs]
  have hloc : Loc X.env.scope n := .inl hln
  refine wpAny_Try_except ?_
  refine wpAny_mono ((hb (wTup X.K c1 c2 i ts D) (X.pn ++ pins) (fun e s₁ => wpAny (model X.prog X.w) X.A (noteFrame e X.env) (fun _ s₂ => wpAny (model X.prog X.w) X.A (setFlight e none) (fun _ s₃ =>
    wpAny (model X.prog X.w) X.A (handleBy e X.env (.ExceptHandler (some (.Tuple [.Name x1 np1, .Name x2 np2] kk tpos)) (some n) (b₀ :: suite) pos' :: rest)) (SP X pins D) X.xe s₃) X.xe s₂) X.xe s₁) (fun u s' xx => ?_) PassesOwn.looking).run [] s σ H D (I.toTry _) h) (fun f s1 hsp => ?_) (fun e s1 he => he)
  · obtain ⟨a, B, sI, pins', σ', H', cls, d, rfl, J', nb, up, sky, na, os, ag, hb1, hyes⟩ := xx
    have J : Inv X pins σ' H' sI := J'.ofTry ok
    have sky' : Sky B (X.env :: X.outer) a (Zc cls d) X.env.locals s'.heap := by rw [← hs]; exact sky
    show wpAny (model X.prog X.w) X.A (noteFrame (.ref a) X.env) _ _ _
    refine Sky.land Zc.steady hfr hf sky' fun h3 fl3 up3 => ?_
    have J3 : Inv X pins σ' H' { s' with heap := h3 } := J.landed nb fl3.1 (up.trans up3) os ag
    obtain ⟨oe3, vs3, he3, hz3, hd3⟩ := fl3.there
    have notFr : ∀ {h : Heap} {o : Obj} {vs : Array Value}, h.FunFrames B (X.env :: X.outer) → h.get? a = some o → o.data = .fields vs → a ∉ frs (X.env :: X.outer) := fun {h o vs} ff e dd hm => by
      obtain ⟨_, o', e', hnf⟩ := ff.mem hm
      rw [e] at e'; cases e'
      exact hnf _ dd
    have nfr := notFr fl3.2.2.1 he3 hd3
    have nL : a ≠ X.env.locals := fun z => nfr (List.mem_filterMap.mpr ⟨X.env, List.mem_cons_self, by rw [hf, z]⟩)
    have nF : a ∉ X.fs := fun hm => by
      obtain ⟨e, he, q⟩ := List.mem_filterMap.mp hm
      exact nfr (List.mem_filterMap.mpr ⟨e, List.mem_cons_of_mem _ he, q⟩)
    have S3 := J3.suite he3 hd3 na nL nF
    refine wpAny_handleBy_cons (codeAny_handlers_test ?_) (by intro q; cases q)
    have one : ∀ {x : Str} {c : Value} {np : Pos} {Q : Value → Shared → Prop} {E : Value → Shared → Prop}, Names X x c → Q c { s' with heap := h3 } → wpAny (model X.prog X.w) (X.A.mark (some (.ref a))) (eval (.Name x np) X.env) Q E { s' with heap := h3 } := fun {x c np Q E} hc q => by
      obtain ⟨hg, hdbg, hm | ⟨hm, hv, hnn⟩⟩ := hc
      · exact ld_glob (X := X.suite a ((a, oe3) :: (X.pn ++ pins))) S3 hg hm q hdbg
      · exact ld_blt (X := X.suite a ((a, oe3) :: (X.pn ++ pins))) S3 hg hm hv q hnn hdbg
    refine Tuple_ (spliced_more (one hc1 (spliced_more (one hc2 (spliced_none ?_)) rfl)) rfl)
    refine wpAny_newObj_type ?_
    have fl4 := flying_push { cls := .type "tuple", dict := none, data := .seq [c1, c2].toArray } fl3
    have J4 : Inv X pins σ' H' { s' with heap := h3.push { cls := .type "tuple", dict := none, data := .seq [c1, c2].toArray } } := J3.kept (t' := s'.toks) fun b u e => Heap.get?_push_of_some _ e
    obtain ⟨oe4, vs4, he4, hz4, hd4⟩ := fl4.there
    have LT : PySem.W.Looks (model X.prog X.w) (h3.push { cls := .type "tuple", dict := none, data := .seq [c1, c2].toArray }) (typeOf (.ref a)) cls := fun A Q E s k q => wpAny_typeOf_ref (k _ _ he4) (by rw [hz4.1]; exact q)
    have LM := PySem.W.exm_tup2 (M := model X.prog X.w) (J4.kIn) LT (tp := h3.objs.size) (Heap.get?_push_size _ rfl) hb1
    refine LM.here ?_
    refine codeAny_handlers_suite_as ?_
    refine HandSPX.lands_againZ fl4 fun h5 fl5 up5 => ?_
    have J5 : Inv X pins σ' H' { s' with heap := h5 } := J.landed nb fl5.1 ((up.trans up3).trans ((Heap.UpToSlots.of_keeps fun b o e => Heap.get?_push_of_some _ e).trans up5)) os ag
    obtain ⟨oe5, vs5, he5, hz5, hd5⟩ := fl5.there
    have S5 := J5.suite he5 hd5 na nL nF
    refine store_ok (X := X.suite a ((a, oe5) :: (X.pn ++ pins))) (v := .ref a) S5 hN hi hloc rfl (fun s5 S5 => ?_) (.inr hln)
    refine wpAny_mono ((hsu a oe5 cls d (X.pn ++ pins) hz5 ⟨_, hd5⟩).run [] s5 _ H' _ S5 (hyes a na)) (fun f s6 hsp => ?_) (fun _ _ z => False.elim z)
    have end_ : ∀ {σ6 : L2.St} {H6 : Hp} {Q : Shared → Prop}, Inv (X.suite a ((a, oe5) :: (X.pn ++ pins))) [] σ6 H6 s6 → (∀ s7, Inv X pins (σ6.set i none) H6 s7 → Q s7) →
        wpAny (model X.prog X.w) X.A (do bindName X.env n .none; unbindBehindTheSuite X.env n pos') (fun _ s7 => Q s7) X.xe s6 := fun {σ6 H6 Q} S6 hq => gone_ok (S6.unsuite ok) hN hi hln hq
    cases f with
    | next =>
      obtain ⟨σ6, H6, S6, q6⟩ := hsp
      exact end_ S6 fun s7 J7 => ⟨_, _, J7, q6⟩
    | brk =>
      obtain ⟨σ6, H6, S6, q6⟩ := hsp
      exact end_ S6 fun s7 J7 => ⟨_, _, J7, q6⟩
    | cont =>
      obtain ⟨σ6, H6, S6, q6⟩ := hsp
      exact end_ S6 fun s7 J7 => ⟨_, _, J7, q6⟩
    | ret u =>
      obtain ⟨v6, σ6, H6, S6, r6, q6⟩ := hsp
      exact end_ S6 fun s7 J7 => ⟨_, _, _, J7, r6, q6⟩
  · cases f with
    | next =>
      obtain ⟨σ', H', J', q⟩ := hsp
      exact wpAny_execs_nil ⟨σ', H', J'.ofTry ok, q⟩
    | brk =>
      obtain ⟨σ', H', J', q⟩ := hsp
      exact ⟨σ', H', J'.ofTry ok, q⟩
    | cont =>
      obtain ⟨σ', H', J', q⟩ := hsp
      exact ⟨σ', H', J'.ofTry ok, q⟩
    | ret u =>
      obtain ⟨v, σ', H', J', r, q⟩ := hsp
      exact ⟨v, σ', H', J'.ofTry ok, r, q⟩
end
end G
set_option Elab.async false
set_option linter.all false
set_option maxRecDepth 100000
set_option maxHeartbeats 4000000
namespace G
open PySem PySem.Spec PyProof.Rows L2
/-! ### raise X(e, ..), an own class with an __init__ of its own -/
section
variable {X : Cx} {Γ : List E} {po : Po} {C : Addr} {pos : Pos}
theorem pmk_mine {x : Str} {p : Pos} {e : Expr} {es : List Expr} {ta : TA} {k : Nat} {fI : Addr} {fd : FuncData} {ps : List Str} {sp : Sp} (T : ExK X.K C) (hR : Raises X (.ref C)) (iC : PySem.W.findIn X.K (.ref C) "__init__" = some (some (.ref fI))) (tI : PySem.W.typeIn X.K (.ref fI) = some (.type "function"))
    (F1 : FnOk X.prog X.w X.K X.mg X.base CX0 k fI fd ps sp) (hr : Room (k + 1) X.A) (hb : Binds X.K fd ps []) (hg : Gl X x) (hm : X.mg x = some (.ref C)) (ha : PA X (e :: es) ta)
    (hdb : (x == ("__debug__" : Str)) = false := by decide) (he : starEach (e :: es) X.env = (false, eval e X.env) :: starEach es X.env := by rfl) (hpl : (backTo pos (starEach es X.env)).any (·.1) = false := by rfl) :
    PMk X (.Call (.Name x p) (e :: es) [] pos) (fun σ H Q => ta σ H fun vs H1 => vs.length ≤ 1000 ∧ ∀ a, H1 a = none → sp (.ref a :: vs) (upd H1 a (exo a C none))
      (fun v H2 => v = .non ∧ ∃ (d : Addr) (fs : List (Str × V)), H2 a = some (exo a C (some d)) ∧ H2 d = some (exd d fs) ∧ H1 d = none ∧ Q (.ref C) (some d) (upd (del H2 a) d (.xd fs))) (fun _ _ _ => False)) := by
  intro pins s σ H Q I h
  obtain ⟨B, newId, initId, bmB, F, SF, q1, q2⟩ := T.base
  refine wpAny_Call_Name_kw (ld_glob I hg hm ?_ hdb)
  refine PySem.W.callWith_K (h₀ := X.base) I.ok.mod.kin T.kC (thn (ha.run pos pins s σ H _ I h) fun us s1 ⟨vs, H1, I1, r1, hz, qq⟩ => ⟨I1.kIn, ?_⟩) he hpl
  show wpAny _ _ (call (.ref C) us) _ _ _
  obtain ⟨hp, g, dr, tk, os⟩ := s1
  obtain ⟨nm, N', qn, bs, bm, hdct, sn, sub, ab, col, dd, k0, k1, k2, k3, k5, hC, hT⟩ := PySem.W.excInit_of I1.kIn q1
  have hsz : hp.objs.size ≤ hp.objs.size + 1 := Nat.le_succ _
  have hn : H1 (hp.objs.size + 1) = none := I1.hok.fresh hsz
  have hq := qq (hp.objs.size + 1) hn
  have keeps : ∀ b o, hp.get? b = some o → ((hp.push (PySem.W.kdv_tup us)).push (PySem.HandSPX.excO C hp.objs.size)).get? b = some o := fun b o e => Heap.get?_push_of_some _ (Heap.get?_push_of_some _ e)
  have new : ((hp.push (PySem.W.kdv_tup us)).push (PySem.HandSPX.excO C hp.objs.size)).get? (hp.objs.size + 1) = some (PySem.HandSPX.excO C hp.objs.size) := by heap_get
  have I2 : Inv X pins σ (upd H1 (hp.objs.size + 1) (exo (hp.objs.size + 1) C none)) ⟨(hp.push (PySem.W.kdv_tup us)).push (PySem.HandSPX.excO C hp.objs.size), g, dr, tk, os⟩ := I1.laid (t' := tk) (a := hp.objs.size + 1) (o := exo (hp.objs.size + 1) C none) keeps hsz (exo_ok new)
  have r2 : Vals (V.ref (hp.objs.size + 1) :: vs) (Value.ref (hp.objs.size + 1) :: us) := .cons rfl r1
  have hl : (Value.ref (hp.objs.size + 1) :: us ++ []).length = ps.length := by
    rw [List.append_nil, ← F1.len _ _ _ _ hq]
    exact r2.length.symm
  have hus : us.length ≤ sizeLine := by
    rw [← Paired.length r1, sizeLine_eq]
    omega
  have bnd := hb _ (Value.ref (hp.objs.size + 1) :: us) I2.kIn hl
  rw [List.append_nil] at bnd
  refine wpAny_call (PySem.HandSPX.call_own F hT hC (PySem.W.looks_findIn I1.kIn iC) (fun self => PySem.W.bind_fn I1.kIn self tI) hus (codeAny_mono (F1.run _ X.stack _ _ ⟨Value.ref (hp.objs.size + 1) :: us, []⟩ _ _ _ (fun _ _ _ => False) (hr.make C us []) (I2.env0.make C us []) bnd r2 hq) fun r s' hq' => ?_))
  cases r with
  | error er => exact pass0 pins σ _ _ er s' I2 hq'
  | ok fl =>
    cases fl with
    | ret u =>
      obtain ⟨v, H2, os2, bare2, un2, hok2, rv, ev, d, fs, ea, ed, hd1, qf⟩ := hq'
      subst ev
      obtain ⟨h2, g2, d2, t2, os'⟩ := s'
      exact ⟨rv, mk_end hR I1 hsz keeps un2 hok2 os2 bare2 ea ed hd1 qf⟩
    | next => exact False.elim hq'
    | brk => exact False.elim hq'
    | cont => exact False.elim hq'
/-- the class may be raised -/
structure RaOk (X : Cx) (x : Str) (C : Addr) (n : Nat) (ns : List Str) (R : List D → List D → Prop) : Prop where
  mkd : MkOk X x C n ns R
  ra : Raises X (.ref C)
/-- what is left of a raised one: its dict -/
theorem raised_ends {K S B O H0 H σ n ns R vs ds rs ws} {Ex : XK} (st : StOk K S B O H0 H σ Γ) (r : RepAll K S (B ++ O) H vs ds) (hl : ds.length = n) (hR : R ds rs) (hw : ∀ S M H' ys, RepAll K S M H' ys rs → ys = ws)
    (k : ∀ d H', Ext K S H H' → d ≠ S.a → H d = none → H' d = some (.xd (ns.zip ws)) → Ex (.ref C) (some d) H') :
    ∀ a, H a = none → spInit K C n ns R (.ref a :: vs) (upd H a (exo a C none))
      (fun v H2 => v = .non ∧ ∃ (d : Addr) (fs : List (Str × V)), H2 a = some (exo a C (some d)) ∧ H2 d = some (exd d fs) ∧ H d = none ∧ Ex (.ref C) (some d) (upd (del H2 a) d (.xd fs))) (fun _ _ _ => False) := fun a ha => by
  have ea : Ext K S H (upd H a (exo a C none)) := .new ha
  have naS : S.a ≠ a := (let ⟨⟨o, e⟩, _⟩ := st.live; ne_of_none e ha)
  have nlS : S.l ≠ a := (let ⟨_, ⟨o, e⟩, _⟩ := st.live; ne_of_none e ha)
  refine ⟨by rw [List.length_cons, r.length, hl], S, a :: (B ++ O), a, vs, ds, rs, rfl, upd_same, List.mem_cons_self, naS.symm, List.mem_cons_of_mem _ st.m, ea.live st.live, fun m hm => (List.mem_cons.mp hm).elim (fun e => by subst e; exact ⟨_, upd_same⟩) fun q => (st.to ea).bo m q,
    (r.more (M' := a :: (B ++ O)) (fun x hx n => (List.mem_cons.mp hx).elim (fun e => e ▸ ha) fun q => absurd q n) (List.mem_cons_of_mem _)).ext ea st.live (List.mem_cons_of_mem _ st.m), hR, fun dx ys H' keep src live hd h1 h2 rr => ?_⟩
  have ne : dx ≠ a := fun e => by rw [e, upd_same] at hd; cases hd
  rw [upd_ne ne] at hd
  cases hw _ _ _ _ rr
  have nS : S.a ≠ dx := (let ⟨⟨o, e⟩, _⟩ := st.live; ne_of_none e hd)
  have nL : S.l ≠ dx := (let ⟨_, ⟨o, e⟩, _⟩ := st.live; ne_of_none e hd)
  refine ⟨rfl, dx, _, h1, h2, hd, ?_⟩
  have at_ : ∀ b, b ≠ a → b ≠ dx → upd (del H' a) dx (.xd (ns.zip ws)) b = H' b := fun b n1 n2 => by rw [upd_ne n2, del_ne n1]
  refine k dx _ ⟨fun b o n1 h => ?_, fun l s => ?_, fun _ => ?_⟩ nS.symm hd upd_same
  · rw [at_ b (ne_of_none h ha) (ne_of_none h hd)]
    exact keep b o n1 (ne_of_none h ha) (by rw [upd_ne (ne_of_none h ha)]; exact h)
  · obtain ⟨i, c, s', t, ms, g1, g2, g3⟩ := src (ea.src l s)
    exact ⟨i, c, s', t, ms, by rw [at_ _ naS nS]; exact g1, by rw [at_ _ nlS nL]; exact g2, g3⟩
  · obtain ⟨⟨o1, h1⟩, ⟨o2, h2⟩, n⟩ := live
    exact ⟨⟨o1, by rw [at_ _ naS nS]; exact h1⟩, ⟨o2, by rw [at_ _ nlS nL]; exact h2⟩, n⟩
theorem s_raise {x : Str} {n : Nat} {ns : List Str} {R : List D → List D → Prop} {p p2 : Pos} {e : Expr} {es : List Expr} {Ex : XK} (c : RaOk X x C n ns R) (hc : X.calm = true) (hg : Gl X x) (tk : Takes X (fun cls d _ H => Ex cls d H))
    (h : AX X (e :: es) Γ fun ds => ds.length = n ∧ ∃ rs ws, R ds rs ∧ (∀ S M H' ys, RepAll X.K S M H' ys rs → ys = ws) ∧
      ∀ S B O H0 H σ, StOk X.K S B O H0 H σ Γ → ∀ d H', Ext X.K S H H' → d ≠ S.a → H d = none → H' d = some (.xd (ns.zip ws)) → Ex (.ref C) (some d) H')
    (hdb : (x == ("__debug__" : Str)) = false := by decide) (he : starEach (e :: es) X.env = (false, eval e X.env) :: starEach es X.env := by rfl) (hpl : (backTo p2 (starEach es X.env)).any (·.1) = false := by rfl) :
    S1 X (.Raise (some (.Call (.Name x p) (e :: es) [] p2)) none pos) Γ po := by
  obtain ⟨k, fI, fd, ps, T, iC, tI, F1, hr, hb, hm, hn⟩ := c.mkd.ex
  intro S B O H0 H σ st Dn kk
  refine semS_of (ps_raise hc tk (pmk_mine T c.ra iC tI F1 hr hb hg hm pa_sem hdb he hpl)) ?_
  refine h S B O H0 H σ st _ fun vs ds H1 e1 r1 p1 => ?_
  obtain ⟨hl, rs, ws, hR, hw, hE⟩ := p1
  exact ⟨by rw [r1.length, hl]; omega, raised_ends (st.to e1) r1 hl hR hw fun d H' e n1 n2 hd => hE S B O H0 H1 σ (st.to e1) d H' e n1 n2 hd⟩
theorem raise_at {x : Str} {n : Nat} {ns : List Str} {R : List D → List D → Prop} {p p2 : Pos} {e : Expr} {es : List Expr} {Ex : XK} {S : Sr} {B O : List Addr} {H0 H : Hp} {σ : L2.St} {Dn : Ends} {rs : List D} {ws : List V} (c : RaOk X x C n ns R) (hc : X.calm = true) (hg : Gl X x) (tk : Takes X (fun cls d _ H => Ex cls d H)) (st : StOk X.K S B O H0 H σ Γ)
    (hw : ∀ S M H' ys, RepAll X.K S M H' ys rs → ys = ws) (h : AX X (e :: es) Γ fun ds => ds.length = n ∧ R ds rs) (hE : ∀ d H', Ext X.K S H H' → d ≠ S.a → H d = none → H' d = some (.xd (ns.zip ws)) → Ex (.ref C) (some d) H')
    (hdb : (x == ("__debug__" : Str)) = false := by decide) (he : starEach (e :: es) X.env = (false, eval e X.env) :: starEach es X.env := by rfl) (hpl : (backTo p2 (starEach es X.env)).any (·.1) = false := by rfl) :
    semS X (.Raise (some (.Call (.Name x p) (e :: es) [] p2)) none pos) Dn σ H := by
  obtain ⟨k, fI, fd, ps, T, iC, tI, F1, hr, hb, hm, hn⟩ := c.mkd.ex
  refine semS_of (ps_raise hc tk (pmk_mine T c.ra iC tI F1 hr hb hg hm pa_sem hdb he hpl)) ?_
  refine h S B O H0 H σ st _ fun vs ds H1 e1 r1 p1 => ?_
  obtain ⟨hl, hR⟩ := p1
  refine ⟨by rw [r1.length, hl]; omega, raised_ends (st.to e1) r1 hl hR hw fun d H' e n1 n2 hd => hE d H' (e1.trans e) n1 ?_ hd⟩
  cases q : H d with
  | none => rfl
  | some o =>
    have := e1.keep d o n1 q
    rw [n2] at this
    cases this
end
end G
set_option Elab.async false
set_option linter.all false
set_option maxRecDepth 100000
set_option maxHeartbeats 4000000
namespace G
open PySem PySem.Spec PyProof.Rows L2
local macro_rules | `(tactic| wtm_at "vis") => `(tactic| first | exact Or.inl rfl | exact Or.inr (Or.inl rfl) | exact Or.inr (Or.inr rfl))
local macro_rules | `(tactic| wtm_at "cal") => `(tactic| first | assumption | exact CallOk.blk (by assumption) | exact CallOkK.blk (by assumption) | exact ConstOk.blk (by assumption))
local macro_rules | `(tactic| wtm_at "nm") => `(tactic| first
  | refine ex_name 0 (by assumption) (by with_reducible rfl) (by with_reducible rfl) (by wtm_at "vis") ?_
  | refine ex_name 1 (by assumption) (by with_reducible rfl) (by with_reducible rfl) (by wtm_at "vis") ?_
  | refine ex_name 2 (by assumption) (by with_reducible rfl) (by with_reducible rfl) (by wtm_at "vis") ?_
  | refine ex_name 3 (by assumption) (by with_reducible rfl) (by with_reducible rfl) (by wtm_at "vis") ?_
  | refine ex_name 4 (by assumption) (by with_reducible rfl) (by with_reducible rfl) (by wtm_at "vis") ?_
  | refine ex_name 5 (by assumption) (by with_reducible rfl) (by with_reducible rfl) (by wtm_at "vis") ?_
  | refine ex_name 6 (by assumption) (by with_reducible rfl) (by with_reducible rfl) (by wtm_at "vis") ?_
  | refine ex_name 7 (by assumption) (by with_reducible rfl) (by with_reducible rfl) (by wtm_at "vis") ?_
  | refine ex_name 8 (by assumption) (by with_reducible rfl) (by with_reducible rfl) (by wtm_at "vis") ?_
  | refine ex_name 9 (by assumption) (by with_reducible rfl) (by with_reducible rfl) (by wtm_at "vis") ?_
  | refine ex_name 10 (by assumption) (by with_reducible rfl) (by with_reducible rfl) (by wtm_at "vis") ?_
  | refine ex_name 11 (by assumption) (by with_reducible rfl) (by with_reducible rfl) (by wtm_at "vis") ?_
  | refine ex_name 12 (by assumption) (by with_reducible rfl) (by with_reducible rfl) (by wtm_at "vis") ?_
  | refine ex_name 13 (by assumption) (by with_reducible rfl) (by with_reducible rfl) (by wtm_at "vis") ?_
  | refine ex_name 14 (by assumption) (by with_reducible rfl) (by with_reducible rfl) (by wtm_at "vis") ?_
  | refine ex_name 15 (by assumption) (by with_reducible rfl) (by with_reducible rfl) (by wtm_at "vis") ?_
  | refine ex_name 16 (by assumption) (by with_reducible rfl) (by with_reducible rfl) (by wtm_at "vis") ?_
  | refine ex_name 17 (by assumption) (by with_reducible rfl) (by with_reducible rfl) (by wtm_at "vis") ?_
  | refine ex_name 18 (by assumption) (by with_reducible rfl) (by with_reducible rfl) (by wtm_at "vis") ?_
  | refine ex_name 19 (by assumption) (by with_reducible rfl) (by with_reducible rfl) (by wtm_at "vis") ?_
  | refine ex_name 20 (by assumption) (by with_reducible rfl) (by with_reducible rfl) (by wtm_at "vis") ?_
  | refine ex_name 21 (by assumption) (by with_reducible rfl) (by with_reducible rfl) (by wtm_at "vis") ?_
  | refine ex_name 22 (by assumption) (by with_reducible rfl) (by with_reducible rfl) (by wtm_at "vis") ?_
  | refine ex_name 23 (by assumption) (by with_reducible rfl) (by with_reducible rfl) (by wtm_at "vis") ?_)
local macro_rules | `(tactic| wtm_at "kb") => `(tactic| first | exact kb0 | exact kb1 | exact kb2 | exact kb3 | exact kb4 | exact kb5 | exact kb6 | exact kb7 | exact kb8 | exact kb9 | exact kb10 | exact kb11 | exact kb12 | exact kb13 | exact kb14 | exact kb15 | exact kb16 | exact kb17 | exact kb18 | exact kb19 | exact kb20 | exact kb21 | exact kb22 | exact kb23 | exact kb24 | exact kb25 | exact kb26 | exact kb27 | exact kb28 | exact kb29)
local macro_rules | `(tactic| wtm_at "loc") => `(tactic| first | exact Or.inl rfl | exact Or.inr rfl)
local macro_rules | `(tactic| wtm_at "set") => `(tactic| first
  | refine s_set 0 (by assumption) (by assumption) (by with_reducible rfl) (by wtm_at "loc") ?_
  | refine s_set 1 (by assumption) (by assumption) (by with_reducible rfl) (by wtm_at "loc") ?_
  | refine s_set 2 (by assumption) (by assumption) (by with_reducible rfl) (by wtm_at "loc") ?_
  | refine s_set 3 (by assumption) (by assumption) (by with_reducible rfl) (by wtm_at "loc") ?_
  | refine s_set 4 (by assumption) (by assumption) (by with_reducible rfl) (by wtm_at "loc") ?_
  | refine s_set 5 (by assumption) (by assumption) (by with_reducible rfl) (by wtm_at "loc") ?_
  | refine s_set 6 (by assumption) (by assumption) (by with_reducible rfl) (by wtm_at "loc") ?_
  | refine s_set 7 (by assumption) (by assumption) (by with_reducible rfl) (by wtm_at "loc") ?_
  | refine s_set 8 (by assumption) (by assumption) (by with_reducible rfl) (by wtm_at "loc") ?_
  | refine s_set 9 (by assumption) (by assumption) (by with_reducible rfl) (by wtm_at "loc") ?_
  | refine s_set 10 (by assumption) (by assumption) (by with_reducible rfl) (by wtm_at "loc") ?_
  | refine s_set 11 (by assumption) (by assumption) (by with_reducible rfl) (by wtm_at "loc") ?_
  | refine s_set 12 (by assumption) (by assumption) (by with_reducible rfl) (by wtm_at "loc") ?_
  | refine s_set 13 (by assumption) (by assumption) (by with_reducible rfl) (by wtm_at "loc") ?_
  | refine s_set 14 (by assumption) (by assumption) (by with_reducible rfl) (by wtm_at "loc") ?_
  | refine s_set 15 (by assumption) (by assumption) (by with_reducible rfl) (by wtm_at "loc") ?_
  | refine s_set 16 (by assumption) (by assumption) (by with_reducible rfl) (by wtm_at "loc") ?_
  | refine s_set 17 (by assumption) (by assumption) (by with_reducible rfl) (by wtm_at "loc") ?_
  | refine s_set 18 (by assumption) (by assumption) (by with_reducible rfl) (by wtm_at "loc") ?_
  | refine s_set 19 (by assumption) (by assumption) (by with_reducible rfl) (by wtm_at "loc") ?_
  | refine s_set 20 (by assumption) (by assumption) (by with_reducible rfl) (by wtm_at "loc") ?_
  | refine s_set 21 (by assumption) (by assumption) (by with_reducible rfl) (by wtm_at "loc") ?_
  | refine s_set 22 (by assumption) (by assumption) (by with_reducible rfl) (by wtm_at "loc") ?_
  | refine s_set 23 (by assumption) (by assumption) (by with_reducible rfl) (by wtm_at "loc") ?_)
local macro_rules | `(tactic| wtm_at "ex") => `(tactic| first
  | ((with_reducible show EX _ (PySem.Expr.Name "int" _) _ _); refine ex_ty (by assumption) (by rfl) bt_int ?_)
  | ((with_reducible show EX _ (PySem.Expr.Name "str" _) _ _); refine ex_ty (by assumption) (by rfl) bt_str ?_)
  | ((with_reducible show EX _ (PySem.Expr.Name "bool" _) _ _); refine ex_ty (by assumption) (by rfl) bt_bool ?_)
  | ((with_reducible show EX _ (PySem.Expr.Name "list" _) _ _); refine ex_ty (by assumption) (by rfl) bt_list ?_)
  | ((with_reducible show EX _ (PySem.Expr.Name "tuple" _) _ _); refine ex_ty (by assumption) (by rfl) bt_tuple ?_)
  | ((with_reducible show EX _ (PySem.Expr.Name _ _) _ _); first | wtm_at "nm" | refine ex_glob (by wtm_at "cal") (by rfl) ?_)
  | ((with_reducible show EX _ (PySem.Expr.Constant (PySem.Const.int _) _ _) _ _); refine ex_int ?_)
  | ((with_reducible show EX _ (PySem.Expr.Constant (PySem.Const.str _) _ _) _ _); refine ex_str ?_)
  | ((with_reducible show EX _ (PySem.Expr.Constant (PySem.Const.bool _) _ _) _ _); refine ex_bl ?_)
  | ((with_reducible show EX _ (PySem.Expr.Constant PySem.Const.none _ _) _ _); refine ex_non ?_)
  | ((with_reducible show EX _ (PySem.Expr.BinOp _ PySem.Operator.Add _ _) _ _); refine ex_bin od_add ?_)
  | ((with_reducible show EX _ (PySem.Expr.BinOp _ PySem.Operator.Sub _ _) _ _); refine ex_bin od_sub ?_)
  | ((with_reducible show EX _ (PySem.Expr.BinOp _ PySem.Operator.Mult _ _) _ _); refine ex_bin od_mul ?_)
  | ((with_reducible show EX _ (PySem.Expr.BinOp _ PySem.Operator.Mod _ _) _ _); refine ex_bin od_mod ?_)
  | ((with_reducible show EX _ (PySem.Expr.BinOp _ PySem.Operator.FloorDiv _ _) _ _); refine ex_bin od_fdiv ?_)
  | ((with_reducible show EX _ (PySem.Expr.BinOp _ PySem.Operator.Pow _ _) _ _); refine ex_bin od_pow ?_)
  | ((with_reducible show EX _ (PySem.Expr.Compare _ [PySem.CmpOp.Eq] _ _) _ _); refine ex_cmp od_eq ?_)
  | ((with_reducible show EX _ (PySem.Expr.Compare _ [PySem.CmpOp.NotEq] _ _) _ _); refine ex_cmp od_ne ?_)
  | ((with_reducible show EX _ (PySem.Expr.Compare _ [PySem.CmpOp.Lt] _ _) _ _); refine ex_cmp od_lt ?_)
  | ((with_reducible show EX _ (PySem.Expr.Compare _ [PySem.CmpOp.LtE] _ _) _ _); refine ex_cmp od_le ?_)
  | ((with_reducible show EX _ (PySem.Expr.Compare _ [PySem.CmpOp.Gt] _ _) _ _); refine ex_cmp od_gt ?_)
  | ((with_reducible show EX _ (PySem.Expr.Compare _ [PySem.CmpOp.GtE] _ _) _ _); refine ex_cmp od_ge ?_)
  | ((with_reducible show EX _ (PySem.Expr.Compare _ [PySem.CmpOp.Is] _ _) _ _); refine ex_cmp od_is ?_)
  | ((with_reducible show EX _ (PySem.Expr.Compare _ [PySem.CmpOp.IsNot] _ _) _ _); refine ex_cmp od_isnot ?_)
  | ((with_reducible show EX _ (PySem.Expr.Compare _ [PySem.CmpOp.LtE, PySem.CmpOp.LtE] _ _) _ _); refine ex_chain od_le od_le ?_)
  | ((with_reducible show EX _ (PySem.Expr.UnaryOp PySem.UnaryOp.USub _ _) _ _); refine ex_neg ?_)
  | ((with_reducible show EX _ (PySem.Expr.UnaryOp PySem.UnaryOp.Not _ _) _ _); refine ex_not ?_)
  | ((with_reducible show EX _ (PySem.Expr.BoolOp PySem.BoolOp.And (_ :: _ :: _) _) _ _); refine ex_and ?_)
  | ((with_reducible show EX _ (PySem.Expr.BoolOp PySem.BoolOp.Or (_ :: _ :: _) _) _ _); refine ex_or ?_)
  | ((with_reducible show EX _ (PySem.Expr.BoolOp _ [_] _) _ _); refine ex_one ?_)
  | ((with_reducible show EX _ (PySem.Expr.IfExp _ _ _ _) _ _); refine ex_ifExp ?_)
  | ((with_reducible show EX _ (PySem.Expr.Tuple _ _ _) _ _); refine ex_tup ?_)
  | ((with_reducible show EX _ (PySem.Expr.List _ _) _ _); refine ex_lst ?_)
  | ((with_reducible show AX _ (_ :: _) _ _); refine ax_cons ?_)
  | ((with_reducible show AX _ [] _ _); refine ax_nil ?_)
  | ((with_reducible show KX _ (_ :: _) _ _); refine kx_cons ?_)
  | ((with_reducible show KX _ [] _ _); refine kx_nil ?_)
  | ((with_reducible show EX _ (PySem.Expr.Call (PySem.Expr.Name "isinstance" _) [_, PySem.Expr.Tuple [_, _] _ _] [] _) _ _); refine ex_isi2 (by assumption) (by rfl) bt_isi ?_)
  | ((with_reducible show EX _ (PySem.Expr.Call (PySem.Expr.Name "isinstance" _) _ [] _) _ _); refine ex_bi bi_isi (by assumption) (by rfl) bt_isi ?_)
  | ((with_reducible show EX _ (PySem.Expr.Call (PySem.Expr.Name "len" _) _ [] _) _ _); refine ex_bi bi_len (by assumption) (by rfl) bt_len ?_)
  | ((with_reducible show EX _ (PySem.Expr.Call (PySem.Expr.Name "abs" _) _ [] _) _ _); refine ex_bi bi_abs (by assumption) (by rfl) bt_abs ?_)
  | ((with_reducible show EX _ (PySem.Expr.Call (PySem.Expr.Name "all" _) _ [] _) _ _); refine ex_bi (bi_all rfl) (by assumption) (by rfl) bt_all ?_)
  | ((with_reducible show EX _ (PySem.Expr.Call (PySem.Expr.Name "int" _) _ [] _) _ _); refine ex_bt bi_int (by assumption) (by rfl) bt_int ?_)
  | ((with_reducible show EX _ (PySem.Expr.Call (PySem.Expr.Name "str" _) _ [] _) _ _); refine ex_bt bi_str (by assumption) (by rfl) bt_str ?_)
  | ((with_reducible show EX _ (PySem.Expr.Call (PySem.Expr.Name "list" _) _ [] _) _ _); refine ex_bt bi_list (by assumption) (by rfl) bt_list ?_)
  | ((with_reducible show EX _ (PySem.Expr.Call (PySem.Expr.Name "tuple" _) _ [] _) _ _); refine ex_bt bi_tuple (by assumption) (by rfl) bt_tuple ?_)
  | ((with_reducible show EX _ (PySem.Expr.Call (PySem.Expr.Name "gcd" _) _ [] _) _ _); refine ex_bf bi_gcd (by assumption) (by rfl) ?_)
  | ((with_reducible show EX _ (PySem.Expr.Call (PySem.Expr.Name _ _) (_ :: _) [] _) _ _); refine ex_call (by wtm_at "cal") (by rfl) ?_)
  | ((with_reducible show EX _ (PySem.Expr.Call (PySem.Expr.Name _ _) [] (_ :: _) _) _ _); refine ex_callK0 (by wtm_at "cal") (by rfl) ?_)
  | ((with_reducible show EX _ (PySem.Expr.Call (PySem.Expr.Name _ _) (_ :: _) (_ :: _) _) _ _); refine ex_callK (by wtm_at "cal") (by rfl) ?_)
  | ((with_reducible show EX _ (PySem.Expr.Subscript _ _ _) _ _); refine ex_ix ?_))
local macro_rules | `(tactic| wtm_at "tx") => `(tactic| first
  | ((with_reducible show TX _ (PySem.Expr.Compare _ [PySem.CmpOp.Eq] _ _) _ _); refine tx_cmp od_eq ?_)
  | ((with_reducible show TX _ (PySem.Expr.Compare _ [PySem.CmpOp.NotEq] _ _) _ _); refine tx_cmp od_ne ?_)
  | ((with_reducible show TX _ (PySem.Expr.Compare _ [PySem.CmpOp.Lt] _ _) _ _); refine tx_cmp od_lt ?_)
  | ((with_reducible show TX _ (PySem.Expr.Compare _ [PySem.CmpOp.LtE] _ _) _ _); refine tx_cmp od_le ?_)
  | ((with_reducible show TX _ (PySem.Expr.Compare _ [PySem.CmpOp.Gt] _ _) _ _); refine tx_cmp od_gt ?_)
  | ((with_reducible show TX _ (PySem.Expr.Compare _ [PySem.CmpOp.GtE] _ _) _ _); refine tx_cmp od_ge ?_)
  | ((with_reducible show TX _ (PySem.Expr.Compare _ [PySem.CmpOp.Is] _ _) _ _); refine tx_cmp od_is ?_)
  | ((with_reducible show TX _ (PySem.Expr.Compare _ [PySem.CmpOp.IsNot] _ _) _ _); refine tx_cmp od_isnot ?_)
  | ((with_reducible show TX _ (PySem.Expr.Compare _ [PySem.CmpOp.LtE, PySem.CmpOp.LtE] _ _) _ _); refine tx_chain od_le od_le ?_)
  | ((with_reducible show TX _ (PySem.Expr.UnaryOp PySem.UnaryOp.Not _ _) _ _); refine tx_not ?_)
  | ((with_reducible show TX _ (PySem.Expr.BoolOp _ _ _) _ _); refine tx_w ?_)
  | ((with_reducible show TW _ (PySem.Expr.BoolOp PySem.BoolOp.And (_ :: _ :: _) _) _ _); refine tw_and ?_)
  | ((with_reducible show TW _ (PySem.Expr.BoolOp PySem.BoolOp.Or (_ :: _ :: _) _) _ _); refine tw_or ?_)
  | ((with_reducible show TW _ (PySem.Expr.BoolOp PySem.BoolOp.And [_] _) _ _); refine tw_and1 ?_)
  | ((with_reducible show TW _ (PySem.Expr.BoolOp PySem.BoolOp.Or [_] _) _ _); refine tw_or1 ?_)
  | ((with_reducible show TX _ _ _ _); refine tx_truth ?_))
local macro_rules | `(tactic| wtm_at "st") => `(tactic| first
  | ((with_reducible show SX _ [_] _ _); refine sx_one ?_)
  | ((with_reducible show SX _ (_ :: _) _ _); refine sx_cons ?_)
  | ((with_reducible show SX _ [] _ _); refine sx_nil ?_)
  | ((with_reducible show S1 _ (PySem.Stmt.Return (some _) _) _ _); refine s_ret ?_)
  | ((with_reducible show S1 _ (PySem.Stmt.If _ _ _ _) _ _); refine s_if ?_)
  | ((with_reducible show S1 _ (PySem.Stmt.Expr _ _) _ _); refine s_expr ?_)
  | ((with_reducible show S1 _ (PySem.Stmt.Pass _) _ _); refine s_pass ?_)
  | ((with_reducible show S1 _ (PySem.Stmt.Assign [PySem.Expr.Name _ _] _ _) _ _); wtm_at "set"))
local macro_rules | `(tactic| wtm_at "op") => `(tactic| with_reducible first
  | refine o_add ?_
  | refine o_sub ?_
  | refine o_lt ?_
  | refine o_le ?_
  | refine o_gt ?_
  | refine o_ge ?_
  | refine o_is ?_
  | refine o_isnot ?_
  | refine o_lenl ?_
  | refine o_lent ?_
  | refine o_abs ?_
  | refine o_int ?_
  | refine o_listl ?_
  | refine o_listt ?_
  | refine o_tupl ?_
  | refine o_tupt ?_
  | refine o_all ?_
  | refine o_gcd ?_
  | refine o_asB ?_
  | refine o_asI ?_
  | refine o_asL ?_
  | refine o_asT ?_
  | refine o_truB ?_
  | refine o_truN ?_
  | refine o_truL ?_
  | refine o_truT ?_
  | refine if_t ?_
  | refine if_f ?_
  | refine if_nf ?_
  | refine if_nt ?_)
local macro_rules | `(tactic| wtm_at "op2") => `(tactic| first
  | ((with_reducible show if _ = true then _ else _); first | refine if_ev_t rfl ?_ | refine if_ev_f rfl ?_)
  | ((with_reducible show wIsi [_, D.ty _] _); refine o_isi rfl (by wtm_at "kb") ?_)
  | ((with_reducible show wEq _ _ _); refine o_eq rfl ?_)
  | ((with_reducible show wNe _ _ _); refine o_ne rfl ?_)
  | ((with_reducible show wIx (D.lst _) (D.int _) _); refine o_ixl rfl ?_)
  | ((with_reducible show wIx (D.tup _) (D.int _) _); refine o_ixt rfl ?_)
  | ((with_reducible show wPow _ _ _); refine o_pow ⟨by decide, by decide, by decide⟩ ?_)
  | ((with_reducible show (_ ≤ 100000) ∧ _); refine ⟨Nat.le_of_ble_eq_true rfl, ?_⟩)
  | ((with_reducible show ∃ n1 n2 t k1 k2, _); refine o_isi2 rfl (by wtm_at "kb") (by wtm_at "kb") ?_))
local macro_rules | `(tactic| wtm_at "go") => `(tactic| first | wtm_at "ex" | wtm_at "op" | wtm_at "op2" | wtm_at "tx" | wtm_at "st")
local macro_rules | `(tactic| wtm_at "ex") => `(tactic| first
  | ((with_reducible show EX _ (PySem.Expr.Compare _ [PySem.CmpOp.In] _ _) _ _); refine ex_cmp od_in ?_)
  | ((with_reducible show EX _ (PySem.Expr.Attribute _ _ _) _ _); refine ex_fld ?_)
  | ((with_reducible show EX _ (PySem.Expr.Call (PySem.Expr.Name _ _) (_ :: _) [] _) _ _); refine ex_make (by assumption) (by rfl) ?_)
  | ((with_reducible show EX _ (PySem.Expr.Call (PySem.Expr.Name _ _) [] [] _) _ _); first | refine ex_make0 (by assumption) (by rfl) ?_ | refine ex_call0 (by wtm_at "cal") (by rfl) ?_))
local macro_rules | `(tactic| wtm_at "op2") => `(tactic| first
  | ((with_reducible show wIn (D.str _) (D.lst _) _); refine o_in rfl ?_))
local macro_rules | `(tactic| wtm_at "tx") => `(tactic| first
  | ((with_reducible show TX _ (PySem.Expr.Compare _ [PySem.CmpOp.In] _ _) _ _); refine tx_cmp od_in ?_))
def clsAt (i j : Nat) : Stmt := match topS i with
  | .ClassDef _ _ _ body _ _ _ _ _ _ _ => body.getD j (.Pass ⟨0, 0, 0, 0⟩)
  | s => s
abbrev sCopied : Stmt := topS 6
abbrev sInP : Stmt := clsAt 9 0
abbrev sInT : Stmt := clsAt 10 0
abbrev sWI : Stmt := clsAt 23 2
abbrev sPlain : Stmt := clsAt 23 3
theorem scCopied : FnScope ["value", "item"] ["value"] (defScope sCopied) := ⟨rfl, rfl, rfl, by decide +kernel, rfl, by decide +kernel, by decide +kernel⟩
theorem scInP : FnScope ["self", "index"] ["self", "index"] (defScope sInP) := ⟨rfl, rfl, rfl, by decide +kernel, rfl, by decide +kernel, by decide +kernel⟩
theorem scInT : FnScope ["self", "index"] ["self", "index"] (defScope sInT) := ⟨rfl, rfl, rfl, by decide +kernel, rfl, by decide +kernel, by decide +kernel⟩
abbrev nWI : List Str := ["self", "parts", "traits", "index"]
theorem scWI : FnScope nWI ["self", "parts", "traits"] (defScope sWI) := ⟨rfl, rfl, rfl, by decide +kernel, rfl, by decide +kernel, by decide +kernel⟩
def WcopiedI : WA := fun ds P => ∃ i : Int, ds = [.int i] ∧ P (.int i)
/-- a class of the text -/
structure ClsA (K : PySem.W.Frag) (nm : Str) (a : Addr) : Prop where
  T : ExK K a
  ns : PySem.W.nsIn K mainGlobals nm = some (some (.ref a))
  ra : PySem.W.subIn K (.ref a) (.type "BaseException") = some true ∧ PySem.W.typeIn K (.ref a) = some (.type "type")
/-- its own __init__ -/
structure IniA (K : PySem.W.Frag) (a : Addr) (q : Str) (st : Stmt) (ps : List Str) : Prop where
  ex : ∃ (f : Addr) (fd : FuncData), PySem.W.findIn K (.ref a) "__init__" = some (some (.ref f)) ∧ PySem.W.typeIn K (.ref f) = some (.type "function") ∧ Fun K "__init__" q st f fd ∧ Binds K fd ps []
abbrev RI (code : Str) : List D → List D → Prop := fun ds rs => ∃ i : Int, ds = [.int i] ∧ rs = [.str code, .int i]
structure MkA (P : Program) (w : World) (K : PySem.W.Frag) (mg : Str → Option Value) (base : Heap) (x : Str) (C : Addr) (n : Nat) (ns : List Str) (R : List D → List D → Prop) (k : Nat) : Prop where
  ex : ∃ (fI : Addr) (fd : FuncData) (ps : List Str), ExK K C ∧ PySem.W.findIn K (.ref C) "__init__" = some (some (.ref fI)) ∧ PySem.W.typeIn K (.ref fI) = some (.type "function") ∧ FnOk P w K mg base CX0 k fI fd ps (spInit K C n ns R) ∧ Binds K fd ps [] ∧ mg x = some (.ref C) ∧ n ≤ 900
theorem MkA.at {X : Cx} {x C n ns R j k} (m : MkA X.prog X.w X.K X.mg X.base x C n ns R j) (hr : Room k X.A) (h : j + 1 ≤ k := by decide) : MkOk X x C n ns R := by
  obtain ⟨fI, fd, ps, T, h1, h2, F, hb, hm, hn⟩ := m.ex
  exact ⟨j, fI, fd, ps, T, h1, h2, F, hr.mono h, hb, hm, hn⟩
section
variable {P : Program} {w : World} {K : PySem.W.Frag} {mg : Str → Option Value} {base : Heap}
theorem df_copiedI (T : Top K mg "copied" sCopied ["value"]) (m1 : mg "isinstance" = none) (m2 : mg "list" = none) (m3 : mg "tuple" = none) : Df P w K mg base "copied" WcopiedI 1 :=
  T.df (k := 0) scCopied (fun _ _ ⟨_, h, _⟩ => by rw [h]; rfl) fun f cdv A outer s H E hr hnd ds Po' hw hl => by
  obtain ⟨i, rfl, hP⟩ := hw
  have hX : (cxOf CX0 P w K mg base ["value", "item"] "copied" (defScope sCopied) f cdv A outer s H E).nox.N = (["value", "item"] : List Str) := rfl
  show SX _ (_ :: _) [_, _] _
  repeat wtm_at "go"
  exact hP
theorem mkPart {a : Addr} (A : ClsA K "InvalidPart" a) (I : IniA K a "InvalidPart.__init__" sInP ["self", "index"]) (hm : mg "InvalidPart" = some (.ref a)) (h1 : PySem.W.findIn K (.ref a) "index" = some none) (h2 : PySem.W.findIn K (.ref a) "code" = some none) (dc : Df P w K mg base "copied" WcopiedI 1) : MkA P w K mg base "InvalidPart" a 1 ["code", "index"] (RI "InvalidPart") 2 := by
  obtain ⟨fI, fd, i1, i2, F, hb⟩ := I.ex
  refine ⟨fI, fd, _, A.T, i1, i2, F.ok (k := 1) scInP (fun vs H Q E h => h.1) fun cdv AA outer s H vs Q Ex hr hs => ?_, hb, hm, by decide⟩
  have c1 : CallOk (cxOf CX0 P w K mg base ["self", "index"] "InvalidPart.__init__" (defScope sInP) fI cdv AA outer s H Ex).nox "copied" WcopiedI := dc.call hr (Nat.le_refl _)
  have hX : (cxOf CX0 P w K mg base ["self", "index"] "InvalidPart.__init__" (defScope sInP) fI cdv AA outer s H Ex).nox.N = (["self", "index"] : List Str) := rfl
  exact init_two (Ex := Ex) (R := fun d => ∃ i : Int, d = .int i) A.T h1 h2 (fun d hd => by obtain ⟨i, rfl⟩ := hd; (repeat wtm_at "go"); exact ⟨i, rfl, rfl⟩) (pe_var (i := 0) rfl (.inl rfl)) (pe_var (i := 0) rfl (.inl rfl)) rfl rfl (by
    obtain ⟨q1, S, B, a', ws, ds, rs, q2, q3, q4, q5, q6, q7, q8, q9, ⟨i, e1, e2⟩, q10⟩ := hs
    exact ⟨q1, S, B, a', ws, ds, rs, q2, q3, q4, q5, q6, q7, q8, q9, ⟨.int i, e1, ⟨i, rfl⟩, e2⟩, q10⟩)
theorem mkTrait {a : Addr} (A : ClsA K "InvalidTrait" a) (I : IniA K a "InvalidTrait.__init__" sInT ["self", "index"]) (hm : mg "InvalidTrait" = some (.ref a)) (h1 : PySem.W.findIn K (.ref a) "index" = some none) (h2 : PySem.W.findIn K (.ref a) "code" = some none) (dc : Df P w K mg base "copied" WcopiedI 1) : MkA P w K mg base "InvalidTrait" a 1 ["code", "index"] (RI "InvalidTrait") 2 := by
  obtain ⟨fI, fd, i1, i2, F, hb⟩ := I.ex
  refine ⟨fI, fd, _, A.T, i1, i2, F.ok (k := 1) scInT (fun vs H Q E h => h.1) fun cdv AA outer s H vs Q Ex hr hs => ?_, hb, hm, by decide⟩
  have c1 : CallOk (cxOf CX0 P w K mg base ["self", "index"] "InvalidTrait.__init__" (defScope sInT) fI cdv AA outer s H Ex).nox "copied" WcopiedI := dc.call hr (Nat.le_refl _)
  have hX : (cxOf CX0 P w K mg base ["self", "index"] "InvalidTrait.__init__" (defScope sInT) fI cdv AA outer s H Ex).nox.N = (["self", "index"] : List Str) := rfl
  exact init_two (Ex := Ex) (R := fun d => ∃ i : Int, d = .int i) A.T h1 h2 (fun d hd => by obtain ⟨i, rfl⟩ := hd; (repeat wtm_at "go"); exact ⟨i, rfl, rfl⟩) (pe_var (i := 0) rfl (.inl rfl)) (pe_var (i := 0) rfl (.inl rfl)) rfl rfl (by
    obtain ⟨q1, S, B, a', ws, ds, rs, q2, q3, q4, q5, q6, q7, q8, q9, ⟨i, e1, e2⟩, q10⟩ := hs
    exact ⟨q1, S, B, a', ws, ds, rs, q2, q3, q4, q5, q6, q7, q8, q9, ⟨.int i, e1, ⟨i, rfl⟩, e2⟩, q10⟩)
end
end G
set_option Elab.async false
set_option linter.all false
set_option maxRecDepth 100000
set_option maxHeartbeats 4000000
namespace G
open PySem PySem.Spec PyProof.Rows L2
local macro_rules | `(tactic| wtm_at "vis") => `(tactic| first | exact Or.inl rfl | exact Or.inr (Or.inl rfl) | exact Or.inr (Or.inr rfl))
local macro_rules | `(tactic| wtm_at "cal") => `(tactic| first | assumption | exact CallOk.blk (by assumption) | exact CallOkK.blk (by assumption) | exact ConstOk.blk (by assumption))
local macro_rules | `(tactic| wtm_at "nm") => `(tactic| first
  | refine ex_name 0 (by assumption) (by with_reducible rfl) (by with_reducible rfl) (by wtm_at "vis") ?_
  | refine ex_name 1 (by assumption) (by with_reducible rfl) (by with_reducible rfl) (by wtm_at "vis") ?_
  | refine ex_name 2 (by assumption) (by with_reducible rfl) (by with_reducible rfl) (by wtm_at "vis") ?_
  | refine ex_name 3 (by assumption) (by with_reducible rfl) (by with_reducible rfl) (by wtm_at "vis") ?_
  | refine ex_name 4 (by assumption) (by with_reducible rfl) (by with_reducible rfl) (by wtm_at "vis") ?_
  | refine ex_name 5 (by assumption) (by with_reducible rfl) (by with_reducible rfl) (by wtm_at "vis") ?_
  | refine ex_name 6 (by assumption) (by with_reducible rfl) (by with_reducible rfl) (by wtm_at "vis") ?_
  | refine ex_name 7 (by assumption) (by with_reducible rfl) (by with_reducible rfl) (by wtm_at "vis") ?_
  | refine ex_name 8 (by assumption) (by with_reducible rfl) (by with_reducible rfl) (by wtm_at "vis") ?_
  | refine ex_name 9 (by assumption) (by with_reducible rfl) (by with_reducible rfl) (by wtm_at "vis") ?_
  | refine ex_name 10 (by assumption) (by with_reducible rfl) (by with_reducible rfl) (by wtm_at "vis") ?_
  | refine ex_name 11 (by assumption) (by with_reducible rfl) (by with_reducible rfl) (by wtm_at "vis") ?_
  | refine ex_name 12 (by assumption) (by with_reducible rfl) (by with_reducible rfl) (by wtm_at "vis") ?_
  | refine ex_name 13 (by assumption) (by with_reducible rfl) (by with_reducible rfl) (by wtm_at "vis") ?_
  | refine ex_name 14 (by assumption) (by with_reducible rfl) (by with_reducible rfl) (by wtm_at "vis") ?_
  | refine ex_name 15 (by assumption) (by with_reducible rfl) (by with_reducible rfl) (by wtm_at "vis") ?_
  | refine ex_name 16 (by assumption) (by with_reducible rfl) (by with_reducible rfl) (by wtm_at "vis") ?_
  | refine ex_name 17 (by assumption) (by with_reducible rfl) (by with_reducible rfl) (by wtm_at "vis") ?_
  | refine ex_name 18 (by assumption) (by with_reducible rfl) (by with_reducible rfl) (by wtm_at "vis") ?_
  | refine ex_name 19 (by assumption) (by with_reducible rfl) (by with_reducible rfl) (by wtm_at "vis") ?_
  | refine ex_name 20 (by assumption) (by with_reducible rfl) (by with_reducible rfl) (by wtm_at "vis") ?_
  | refine ex_name 21 (by assumption) (by with_reducible rfl) (by with_reducible rfl) (by wtm_at "vis") ?_
  | refine ex_name 22 (by assumption) (by with_reducible rfl) (by with_reducible rfl) (by wtm_at "vis") ?_
  | refine ex_name 23 (by assumption) (by with_reducible rfl) (by with_reducible rfl) (by wtm_at "vis") ?_)
local macro_rules | `(tactic| wtm_at "kb") => `(tactic| first | exact kb0 | exact kb1 | exact kb2 | exact kb3 | exact kb4 | exact kb5 | exact kb6 | exact kb7 | exact kb8 | exact kb9 | exact kb10 | exact kb11 | exact kb12 | exact kb13 | exact kb14 | exact kb15 | exact kb16 | exact kb17 | exact kb18 | exact kb19 | exact kb20 | exact kb21 | exact kb22 | exact kb23 | exact kb24 | exact kb25 | exact kb26 | exact kb27 | exact kb28 | exact kb29)
local macro_rules | `(tactic| wtm_at "loc") => `(tactic| first | exact Or.inl rfl | exact Or.inr rfl)
local macro_rules | `(tactic| wtm_at "set") => `(tactic| first
  | refine s_set 0 (by assumption) (by assumption) (by with_reducible rfl) (by wtm_at "loc") ?_
  | refine s_set 1 (by assumption) (by assumption) (by with_reducible rfl) (by wtm_at "loc") ?_
  | refine s_set 2 (by assumption) (by assumption) (by with_reducible rfl) (by wtm_at "loc") ?_
  | refine s_set 3 (by assumption) (by assumption) (by with_reducible rfl) (by wtm_at "loc") ?_
  | refine s_set 4 (by assumption) (by assumption) (by with_reducible rfl) (by wtm_at "loc") ?_
  | refine s_set 5 (by assumption) (by assumption) (by with_reducible rfl) (by wtm_at "loc") ?_
  | refine s_set 6 (by assumption) (by assumption) (by with_reducible rfl) (by wtm_at "loc") ?_
  | refine s_set 7 (by assumption) (by assumption) (by with_reducible rfl) (by wtm_at "loc") ?_
  | refine s_set 8 (by assumption) (by assumption) (by with_reducible rfl) (by wtm_at "loc") ?_
  | refine s_set 9 (by assumption) (by assumption) (by with_reducible rfl) (by wtm_at "loc") ?_
  | refine s_set 10 (by assumption) (by assumption) (by with_reducible rfl) (by wtm_at "loc") ?_
  | refine s_set 11 (by assumption) (by assumption) (by with_reducible rfl) (by wtm_at "loc") ?_
  | refine s_set 12 (by assumption) (by assumption) (by with_reducible rfl) (by wtm_at "loc") ?_
  | refine s_set 13 (by assumption) (by assumption) (by with_reducible rfl) (by wtm_at "loc") ?_
  | refine s_set 14 (by assumption) (by assumption) (by with_reducible rfl) (by wtm_at "loc") ?_
  | refine s_set 15 (by assumption) (by assumption) (by with_reducible rfl) (by wtm_at "loc") ?_
  | refine s_set 16 (by assumption) (by assumption) (by with_reducible rfl) (by wtm_at "loc") ?_
  | refine s_set 17 (by assumption) (by assumption) (by with_reducible rfl) (by wtm_at "loc") ?_
  | refine s_set 18 (by assumption) (by assumption) (by with_reducible rfl) (by wtm_at "loc") ?_
  | refine s_set 19 (by assumption) (by assumption) (by with_reducible rfl) (by wtm_at "loc") ?_
  | refine s_set 20 (by assumption) (by assumption) (by with_reducible rfl) (by wtm_at "loc") ?_
  | refine s_set 21 (by assumption) (by assumption) (by with_reducible rfl) (by wtm_at "loc") ?_
  | refine s_set 22 (by assumption) (by assumption) (by with_reducible rfl) (by wtm_at "loc") ?_
  | refine s_set 23 (by assumption) (by assumption) (by with_reducible rfl) (by wtm_at "loc") ?_)
local macro_rules | `(tactic| wtm_at "ex") => `(tactic| first
  | ((with_reducible show EX _ (PySem.Expr.Name "int" _) _ _); refine ex_ty (by assumption) (by rfl) bt_int ?_)
  | ((with_reducible show EX _ (PySem.Expr.Name "str" _) _ _); refine ex_ty (by assumption) (by rfl) bt_str ?_)
  | ((with_reducible show EX _ (PySem.Expr.Name "bool" _) _ _); refine ex_ty (by assumption) (by rfl) bt_bool ?_)
  | ((with_reducible show EX _ (PySem.Expr.Name "list" _) _ _); refine ex_ty (by assumption) (by rfl) bt_list ?_)
  | ((with_reducible show EX _ (PySem.Expr.Name "tuple" _) _ _); refine ex_ty (by assumption) (by rfl) bt_tuple ?_)
  | ((with_reducible show EX _ (PySem.Expr.Name _ _) _ _); first | wtm_at "nm" | refine ex_glob (by wtm_at "cal") (by rfl) ?_)
  | ((with_reducible show EX _ (PySem.Expr.Constant (PySem.Const.int _) _ _) _ _); refine ex_int ?_)
  | ((with_reducible show EX _ (PySem.Expr.Constant (PySem.Const.str _) _ _) _ _); refine ex_str ?_)
  | ((with_reducible show EX _ (PySem.Expr.Constant (PySem.Const.bool _) _ _) _ _); refine ex_bl ?_)
  | ((with_reducible show EX _ (PySem.Expr.Constant PySem.Const.none _ _) _ _); refine ex_non ?_)
  | ((with_reducible show EX _ (PySem.Expr.BinOp _ PySem.Operator.Add _ _) _ _); refine ex_bin od_add ?_)
  | ((with_reducible show EX _ (PySem.Expr.BinOp _ PySem.Operator.Sub _ _) _ _); refine ex_bin od_sub ?_)
  | ((with_reducible show EX _ (PySem.Expr.BinOp _ PySem.Operator.Mult _ _) _ _); refine ex_bin od_mul ?_)
  | ((with_reducible show EX _ (PySem.Expr.BinOp _ PySem.Operator.Mod _ _) _ _); refine ex_bin od_mod ?_)
  | ((with_reducible show EX _ (PySem.Expr.BinOp _ PySem.Operator.FloorDiv _ _) _ _); refine ex_bin od_fdiv ?_)
  | ((with_reducible show EX _ (PySem.Expr.BinOp _ PySem.Operator.Pow _ _) _ _); refine ex_bin od_pow ?_)
  | ((with_reducible show EX _ (PySem.Expr.Compare _ [PySem.CmpOp.Eq] _ _) _ _); refine ex_cmp od_eq ?_)
  | ((with_reducible show EX _ (PySem.Expr.Compare _ [PySem.CmpOp.NotEq] _ _) _ _); refine ex_cmp od_ne ?_)
  | ((with_reducible show EX _ (PySem.Expr.Compare _ [PySem.CmpOp.Lt] _ _) _ _); refine ex_cmp od_lt ?_)
  | ((with_reducible show EX _ (PySem.Expr.Compare _ [PySem.CmpOp.LtE] _ _) _ _); refine ex_cmp od_le ?_)
  | ((with_reducible show EX _ (PySem.Expr.Compare _ [PySem.CmpOp.Gt] _ _) _ _); refine ex_cmp od_gt ?_)
  | ((with_reducible show EX _ (PySem.Expr.Compare _ [PySem.CmpOp.GtE] _ _) _ _); refine ex_cmp od_ge ?_)
  | ((with_reducible show EX _ (PySem.Expr.Compare _ [PySem.CmpOp.Is] _ _) _ _); refine ex_cmp od_is ?_)
  | ((with_reducible show EX _ (PySem.Expr.Compare _ [PySem.CmpOp.IsNot] _ _) _ _); refine ex_cmp od_isnot ?_)
  | ((with_reducible show EX _ (PySem.Expr.Compare _ [PySem.CmpOp.LtE, PySem.CmpOp.LtE] _ _) _ _); refine ex_chain od_le od_le ?_)
  | ((with_reducible show EX _ (PySem.Expr.UnaryOp PySem.UnaryOp.USub _ _) _ _); refine ex_neg ?_)
  | ((with_reducible show EX _ (PySem.Expr.UnaryOp PySem.UnaryOp.Not _ _) _ _); refine ex_not ?_)
  | ((with_reducible show EX _ (PySem.Expr.BoolOp PySem.BoolOp.And (_ :: _ :: _) _) _ _); refine ex_and ?_)
  | ((with_reducible show EX _ (PySem.Expr.BoolOp PySem.BoolOp.Or (_ :: _ :: _) _) _ _); refine ex_or ?_)
  | ((with_reducible show EX _ (PySem.Expr.BoolOp _ [_] _) _ _); refine ex_one ?_)
  | ((with_reducible show EX _ (PySem.Expr.IfExp _ _ _ _) _ _); refine ex_ifExp ?_)
  | ((with_reducible show EX _ (PySem.Expr.Tuple _ _ _) _ _); refine ex_tup ?_)
  | ((with_reducible show EX _ (PySem.Expr.List _ _) _ _); refine ex_lst ?_)
  | ((with_reducible show AX _ (_ :: _) _ _); refine ax_cons ?_)
  | ((with_reducible show AX _ [] _ _); refine ax_nil ?_)
  | ((with_reducible show KX _ (_ :: _) _ _); refine kx_cons ?_)
  | ((with_reducible show KX _ [] _ _); refine kx_nil ?_)
  | ((with_reducible show EX _ (PySem.Expr.Call (PySem.Expr.Name "isinstance" _) [_, PySem.Expr.Tuple [_, _] _ _] [] _) _ _); refine ex_isi2 (by assumption) (by rfl) bt_isi ?_)
  | ((with_reducible show EX _ (PySem.Expr.Call (PySem.Expr.Name "isinstance" _) _ [] _) _ _); refine ex_bi bi_isi (by assumption) (by rfl) bt_isi ?_)
  | ((with_reducible show EX _ (PySem.Expr.Call (PySem.Expr.Name "len" _) _ [] _) _ _); refine ex_bi bi_len (by assumption) (by rfl) bt_len ?_)
  | ((with_reducible show EX _ (PySem.Expr.Call (PySem.Expr.Name "abs" _) _ [] _) _ _); refine ex_bi bi_abs (by assumption) (by rfl) bt_abs ?_)
  | ((with_reducible show EX _ (PySem.Expr.Call (PySem.Expr.Name "all" _) _ [] _) _ _); refine ex_bi (bi_all rfl) (by assumption) (by rfl) bt_all ?_)
  | ((with_reducible show EX _ (PySem.Expr.Call (PySem.Expr.Name "int" _) _ [] _) _ _); refine ex_bt bi_int (by assumption) (by rfl) bt_int ?_)
  | ((with_reducible show EX _ (PySem.Expr.Call (PySem.Expr.Name "str" _) _ [] _) _ _); refine ex_bt bi_str (by assumption) (by rfl) bt_str ?_)
  | ((with_reducible show EX _ (PySem.Expr.Call (PySem.Expr.Name "list" _) _ [] _) _ _); refine ex_bt bi_list (by assumption) (by rfl) bt_list ?_)
  | ((with_reducible show EX _ (PySem.Expr.Call (PySem.Expr.Name "tuple" _) _ [] _) _ _); refine ex_bt bi_tuple (by assumption) (by rfl) bt_tuple ?_)
  | ((with_reducible show EX _ (PySem.Expr.Call (PySem.Expr.Name "gcd" _) _ [] _) _ _); refine ex_bf bi_gcd (by assumption) (by rfl) ?_)
  | ((with_reducible show EX _ (PySem.Expr.Call (PySem.Expr.Name _ _) (_ :: _) [] _) _ _); refine ex_call (by wtm_at "cal") (by rfl) ?_)
  | ((with_reducible show EX _ (PySem.Expr.Call (PySem.Expr.Name _ _) [] (_ :: _) _) _ _); refine ex_callK0 (by wtm_at "cal") (by rfl) ?_)
  | ((with_reducible show EX _ (PySem.Expr.Call (PySem.Expr.Name _ _) (_ :: _) (_ :: _) _) _ _); refine ex_callK (by wtm_at "cal") (by rfl) ?_)
  | ((with_reducible show EX _ (PySem.Expr.Subscript _ _ _) _ _); refine ex_ix ?_))
local macro_rules | `(tactic| wtm_at "tx") => `(tactic| first
  | ((with_reducible show TX _ (PySem.Expr.Compare _ [PySem.CmpOp.Eq] _ _) _ _); refine tx_cmp od_eq ?_)
  | ((with_reducible show TX _ (PySem.Expr.Compare _ [PySem.CmpOp.NotEq] _ _) _ _); refine tx_cmp od_ne ?_)
  | ((with_reducible show TX _ (PySem.Expr.Compare _ [PySem.CmpOp.Lt] _ _) _ _); refine tx_cmp od_lt ?_)
  | ((with_reducible show TX _ (PySem.Expr.Compare _ [PySem.CmpOp.LtE] _ _) _ _); refine tx_cmp od_le ?_)
  | ((with_reducible show TX _ (PySem.Expr.Compare _ [PySem.CmpOp.Gt] _ _) _ _); refine tx_cmp od_gt ?_)
  | ((with_reducible show TX _ (PySem.Expr.Compare _ [PySem.CmpOp.GtE] _ _) _ _); refine tx_cmp od_ge ?_)
  | ((with_reducible show TX _ (PySem.Expr.Compare _ [PySem.CmpOp.Is] _ _) _ _); refine tx_cmp od_is ?_)
  | ((with_reducible show TX _ (PySem.Expr.Compare _ [PySem.CmpOp.IsNot] _ _) _ _); refine tx_cmp od_isnot ?_)
  | ((with_reducible show TX _ (PySem.Expr.Compare _ [PySem.CmpOp.LtE, PySem.CmpOp.LtE] _ _) _ _); refine tx_chain od_le od_le ?_)
  | ((with_reducible show TX _ (PySem.Expr.UnaryOp PySem.UnaryOp.Not _ _) _ _); refine tx_not ?_)
  | ((with_reducible show TX _ (PySem.Expr.BoolOp _ _ _) _ _); refine tx_w ?_)
  | ((with_reducible show TW _ (PySem.Expr.BoolOp PySem.BoolOp.And (_ :: _ :: _) _) _ _); refine tw_and ?_)
  | ((with_reducible show TW _ (PySem.Expr.BoolOp PySem.BoolOp.Or (_ :: _ :: _) _) _ _); refine tw_or ?_)
  | ((with_reducible show TW _ (PySem.Expr.BoolOp PySem.BoolOp.And [_] _) _ _); refine tw_and1 ?_)
  | ((with_reducible show TW _ (PySem.Expr.BoolOp PySem.BoolOp.Or [_] _) _ _); refine tw_or1 ?_)
  | ((with_reducible show TX _ _ _ _); refine tx_truth ?_))
local macro_rules | `(tactic| wtm_at "st") => `(tactic| first
  | ((with_reducible show SX _ [_] _ _); refine sx_one ?_)
  | ((with_reducible show SX _ (_ :: _) _ _); refine sx_cons ?_)
  | ((with_reducible show SX _ [] _ _); refine sx_nil ?_)
  | ((with_reducible show S1 _ (PySem.Stmt.Return (some _) _) _ _); refine s_ret ?_)
  | ((with_reducible show S1 _ (PySem.Stmt.If _ _ _ _) _ _); refine s_if ?_)
  | ((with_reducible show S1 _ (PySem.Stmt.Expr _ _) _ _); refine s_expr ?_)
  | ((with_reducible show S1 _ (PySem.Stmt.Pass _) _ _); refine s_pass ?_)
  | ((with_reducible show S1 _ (PySem.Stmt.Assign [PySem.Expr.Name _ _] _ _) _ _); wtm_at "set"))
local macro_rules | `(tactic| wtm_at "op") => `(tactic| with_reducible first
  | refine o_add ?_
  | refine o_sub ?_
  | refine o_lt ?_
  | refine o_le ?_
  | refine o_gt ?_
  | refine o_ge ?_
  | refine o_is ?_
  | refine o_isnot ?_
  | refine o_lenl ?_
  | refine o_lent ?_
  | refine o_abs ?_
  | refine o_int ?_
  | refine o_listl ?_
  | refine o_listt ?_
  | refine o_tupl ?_
  | refine o_tupt ?_
  | refine o_all ?_
  | refine o_gcd ?_
  | refine o_asB ?_
  | refine o_asI ?_
  | refine o_asL ?_
  | refine o_asT ?_
  | refine o_truB ?_
  | refine o_truN ?_
  | refine o_truL ?_
  | refine o_truT ?_
  | refine if_t ?_
  | refine if_f ?_
  | refine if_nf ?_
  | refine if_nt ?_)
local macro_rules | `(tactic| wtm_at "op2") => `(tactic| first
  | ((with_reducible show if _ = true then _ else _); first | refine if_ev_t rfl ?_ | refine if_ev_f rfl ?_)
  | ((with_reducible show wIsi [_, D.ty _] _); refine o_isi rfl (by wtm_at "kb") ?_)
  | ((with_reducible show wEq _ _ _); refine o_eq rfl ?_)
  | ((with_reducible show wNe _ _ _); refine o_ne rfl ?_)
  | ((with_reducible show wIx (D.lst _) (D.int _) _); refine o_ixl rfl ?_)
  | ((with_reducible show wIx (D.tup _) (D.int _) _); refine o_ixt rfl ?_)
  | ((with_reducible show wPow _ _ _); refine o_pow ⟨by decide, by decide, by decide⟩ ?_)
  | ((with_reducible show (_ ≤ 100000) ∧ _); refine ⟨Nat.le_of_ble_eq_true rfl, ?_⟩)
  | ((with_reducible show ∃ n1 n2 t k1 k2, _); refine o_isi2 rfl (by wtm_at "kb") (by wtm_at "kb") ?_))
local macro_rules | `(tactic| wtm_at "go") => `(tactic| first | wtm_at "ex" | wtm_at "op" | wtm_at "op2" | wtm_at "tx" | wtm_at "st")
local macro_rules | `(tactic| wtm_at "ex") => `(tactic| first
  | ((with_reducible show EX _ (PySem.Expr.Compare _ [PySem.CmpOp.In] _ _) _ _); refine ex_cmp od_in ?_)
  | ((with_reducible show EX _ (PySem.Expr.Attribute _ _ _) _ _); refine ex_fld ?_)
  | ((with_reducible show EX _ (PySem.Expr.Call (PySem.Expr.Name _ _) (_ :: _) [] _) _ _); refine ex_make (by assumption) (by rfl) ?_)
  | ((with_reducible show EX _ (PySem.Expr.Call (PySem.Expr.Name _ _) [] [] _) _ _); first | refine ex_make0 (by assumption) (by rfl) ?_ | refine ex_call0 (by wtm_at "cal") (by rfl) ?_))
local macro_rules | `(tactic| wtm_at "op2") => `(tactic| first
  | ((with_reducible show wIn (D.str _) (D.lst _) _); refine o_in rfl ?_))
local macro_rules | `(tactic| wtm_at "tx") => `(tactic| first
  | ((with_reducible show TX _ (PySem.Expr.Compare _ [PySem.CmpOp.In] _ _) _ _); refine tx_cmp od_in ?_))
/-- C.NAME, a constant of the class -/
theorem ex_cval {X : Cx} {Γ : List E} {P : D → Prop} {e : Expr} {f : Str} {pos : Pos} {C : Addr} {mc : Value} {v : V} {u : Value} {d0 : D} (r : ClX.CRead X.K C mc) (k : ClX.CVal X.K C mc f v u) (hd : ∀ S M H, Rep X.K S M H v d0) (h : EX X e Γ fun d => d = .cls C ∧ P d0) (hb : attributeBase e f X.env (eval e X.env) = eval e X.env := by rfl) : EX X (.Attribute e f pos) Γ P :=
  ex_of (ClX.pe_cval pe_sem hb) fun S B O H0 H σ st Q kk => h S B O H0 H σ st _ fun v1 d1 H1 e1 r1 p1 => by
    obtain ⟨rfl, p1⟩ := p1
    cases r1
    exact ⟨C, mc, v, u, rfl, r, k, kk v d0 H1 e1 (hd S _ H1) p1⟩
theorem ex_cvalI {X : Cx} {Γ : List E} {P : D → Prop} {e : Expr} {f : Str} {pos : Pos} {C : Addr} {mc : Value} {n : Int} {u : Value} (r : ClX.CRead X.K C mc) (k : ClX.CVal X.K C mc f (.int n) u) (h : EX X e Γ fun d => d = .cls C ∧ P (.int n)) (hb : attributeBase e f X.env (eval e X.env) = eval e X.env := by rfl) : EX X (.Attribute e f pos) Γ P :=
  ex_cval r k (fun _ _ _ => .int n) h hb
/-- what World(parts, traits) does: the code and the place of the error, if one is due -/
def worldErr (ps ks : List D) : Option (Str × Int) := match fwD isPartD 3 ps with
  | .int i => some ("InvalidPart", i)
  | _ => match fwD isTraitD 6 ks with
    | .int i => some ("InvalidTrait", i)
    | _ => none
theorem fwAt_or (p : D → Bool) (most : Int) : ∀ (l : List D) (ns : List Str) (i : Nat), fwAt p most ns i l = .non ∨ ∃ j : Int, fwAt p most ns i l = .int j
  | [], ns, i => .inl rfl
  | r :: rs, ns, i => by
    unfold fwAt
    split
    · exact .inr ⟨_, rfl⟩
    · exact fwAt_or p most rs _ _
theorem fwD_or (p : D → Bool) (most : Int) (l : List D) : fwD p most l = .non ∨ ∃ j : Int, fwD p most l = .int j := by
  unfold fwD
  split
  · exact .inr ⟨_, rfl⟩
  · exact fwAt_or p most l _ _
/-- the instance x is being made -/
def spWI (K : PySem.W.Frag) (CW CP CT : Addr) : Sp := fun vs H Q Ex => vs.length = 3 ∧ ∃ (S : Sr) (B : List Addr) (x dx : Addr) (vp vk : V) (ps ks : List D), vs = [.ref x, vp, vk] ∧ H x = some (.ins CW dx []) ∧ (x ∈ B ∧ x ≠ S.a ∧ x ≠ S.l) ∧ S.a ∈ B ∧ Live S H ∧ (∀ m ∈ B, ∃ o, H m = some o) ∧
  Rep K S B H vp (.lst ps) ∧ Rep K S B H vk (.lst ks) ∧ ps.length ≤ 1000 ∧ ks.length ≤ 1000 ∧ (∀ r ∈ ps, shs 2 r = true) ∧ (∀ r ∈ ks, shs 2 r = true) ∧
  (∀ c i, worldErr ps ks = some (c, i) → ∀ d H', Ext K S H H' → d ≠ S.a → H d = none → H' d = some (.xd [("code", .str c), ("index", .int i)]) → Ex (.ref (if c = "InvalidPart" then CP else CT)) (some d) H') ∧
  (worldErr ps ks = none → ∀ H', (∀ b o, b ≠ S.a → b ≠ x → H b = some o → H' b = some o) → (SrcOk K S H → SrcOk K S H') → Live S H' → Q .non H')
structure WorldK (K : PySem.W.Frag) (CW : Addr) : Prop where
  c : Cls K CW
  rd : ∃ mc u3 u6, ClX.CRead K CW mc ∧ ClX.CVal K CW mc "MOST_PARTS" (.int 3) u3 ∧ ClX.CVal K CW mc "MOST_TRAITS" (.int 6) u6
  n1 : NoAttr K CW "_parts"
  n2 : NoAttr K CW "_traits"
def ifC : Stmt → Expr
  | .If c _ _ _ => c
  | _ => .Constant .none 0 ⟨0, 0, 0, 0⟩
def asV : Stmt → Expr
  | .Assign _ v _ => v
  | _ => .Constant .none 0 ⟨0, 0, 0, 0⟩
/-- a place that may change is written: data stand -/
theorem Rep.wr {K : PySem.W.Frag} {S : Sr} {M : List Addr} {H : Hp} {x : Addr} {o : HO} (hx : x ∈ M) (n1 : x ≠ S.a) (n2 : x ≠ S.l) {v : V} {d : D} (r : Rep K S M H v d) : Rep K S M (upd H x o) v d := by
  have k : ∀ a u, a ∉ M → Rd H a u → Rd (upd H x o) a u := fun a u n h => by
    have ne : a ≠ x := fun e => n (by rw [e]; exact hx)
    rcases h with h | ⟨o', h⟩
    · exact .inl (by rw [upd_ne ne]; exact h)
    · exact .inr ⟨o', by rw [upd_ne ne]; exact h⟩
  refine r.imp (fun a xs h => h.imp (fun z => ⟨z.1, k _ _ z.1 z.2⟩) id) (fun a xs h => h.imp (fun z => ⟨z.1, k _ _ z.1 z.2⟩) id) (fun h m => ⟨?_, m⟩) fun a u n h => ⟨n, by rw [upd_ne (fun e => n (by rw [e]; exact hx))]; exact h⟩
  obtain ⟨i, c, s, t, ns, h1, h2, h3⟩ := h
  exact ⟨i, c, s, t, ns, by rw [upd_ne n1.symm]; exact h1, by rw [upd_ne n2.symm]; exact h2, h3⟩
theorem isPart_row {r : D} (h : isPartD r = true) : ∃ n rest, r = .tup (.str n :: rest) := by
  unfold isPartD at h
  split at h
  · rename_i n zs
    rw [Bool.and_eq_true] at h
    cases n <;> simp [isNameD] at h
    exact ⟨_, _, rfl⟩
  · cases h
theorem isTrait_row {r : D} (h : isTraitD r = true) : ∃ n rest, r = .tup (.str n :: rest) := by
  unfold isTraitD at h
  split at h
  · rename_i n e f g
    rw [Bool.and_eq_true] at h
    cases n <;> simp [isNameD] at h
    exact ⟨_, _, rfl⟩
  · cases h
section
local macro_rules | `(tactic| wtm_at "ex") => `(tactic| first
  | ((with_reducible show EX _ (PySem.Expr.Attribute (PySem.Expr.Name "World" _) _ _) _ _); refine ex_cvalI (by assumption) (by assumption) ?_))
variable {P : Program} {w : World} {K : PySem.W.Frag} {mg : Str → Option Value} {base : Heap} {CW CP CT : Addr}
abbrev XWI (P : Program) (w : World) (K : PySem.W.Frag) (mg : Str → Option Value) (base : Heap) (f : Addr) (cdv : Value) (A : Around) (outer : List Env) (s : Shared) (H : Hp) (Ex : XK) : Cx := cxOf (L2.CX P w) P w K mg base nWI "World.__init__" (defScope sWI) f cdv A outer s H Ex
set_option maxHeartbeats 16000000 in
theorem ok_WI {f : Addr} {fd : FuncData} (F : Fun K "__init__" "World.__init__" sWI f fd) (W : WorldK K CW) (hP : MkA P w K mg base "InvalidPart" CP 1 ["code", "index"] (RI "InvalidPart") 2) (hT : MkA P w K mg base "InvalidTrait" CT 1 ["code", "index"] (RI "InvalidTrait") 2)
    (rP : PySem.W.subIn K (.ref CP) (.type "BaseException") = some true ∧ PySem.W.typeIn K (.ref CP) = some (.type "type")) (rT : PySem.W.subIn K (.ref CT) (.type "BaseException") = some true ∧ PySem.W.typeIn K (.ref CT) = some (.type "type")) (gW : mg "World" = some (.ref CW))
    (m1 : mg "list" = none) (d1 : Df P w K mg base "first_wrong" (Wfirst P w K mg base) 4) {fp ft : Addr} (gp : mg "is_part" = some (.ref fp)) (gt : mg "is_trait" = some (.ref ft)) (Hp_ : HeldA P w K mg base 3 fp (Wright isPartD)) (Ht_ : HeldA P w K mg base 3 ft (Wright isTraitD)) :
    FnOk P w K mg base (L2.CX P w) 5 f fd ["self", "parts", "traits"] (spWI K CW CP CT) := by
  refine F.okX (k := 4) scWI (fun vs H Q E h => h.1) fun cdv A outer s H vs Q Ex hr hs => ?_
  obtain ⟨_, S, B, x, dx, vp, vk, ps, ks, rfl, hx, ⟨xB, xs, xl⟩, mS, lv, hB, rp, rk, lp, lk, sp, sk, hE, hQ⟩ := hs
  obtain ⟨mc, u3, u6, hrd, hv3, hv6⟩ := W.rd
  have hX : (XWI P w K mg base f cdv A outer s H Ex).N = nWI := rfl
  have hnd : nWI.Nodup := scWI.nd
  have hc : (XWI P w K mg base f cdv A outer s H Ex).calm = true := rfl
  have tk : Takes (XWI P w K mg base f cdv A outer s H Ex) (fun cls d _ H => Ex cls d H) := takes_of rfl rfl rfl rfl
  have c1 : CallOk (XWI P w K mg base f cdv A outer s H Ex) "first_wrong" (Wfirst P w K mg base) := d1.call hr
  have kP : RaOk (XWI P w K mg base f cdv A outer s H Ex) "InvalidPart" CP 1 ["code", "index"] (RI "InvalidPart") := ⟨hP.at hr, raises_own rP.1 rP.2⟩
  have kT : RaOk (XWI P w K mg base f cdv A outer s H Ex) "InvalidTrait" CT 1 ["code", "index"] (RI "InvalidTrait") := ⟨hT.at hr, raises_own rT.1 rT.2⟩
  have gw : ConstOk (XWI P w K mg base f cdv A outer s H Ex) "World" (.cls CW) := ⟨.ref CW, .ref CW, gW, rfl, fun _ _ _ => .cls CW⟩
  have g1 : ConstOk (XWI P w K mg base f cdv A outer s H Ex) "is_part" (.cls fp) := ⟨.ref fp, .ref fp, gp, rfl, fun _ _ _ => .cls fp⟩
  have g2 : ConstOk (XWI P w K mg base f cdv A outer s H Ex) "is_trait" (.cls ft) := ⟨.ref ft, .ref ft, gt, rfl, fun _ _ _ => .cls ft⟩
  have st : StOk K S B [] H H [some (.ref x), some vp, some vk, none] [.is (.cls x), .is (.lst ps), .is (.lst ks), .no] := {
    len := rfl
    ent := fun i g hg => by
      match i, hg with
      | 0, hg => cases hg; exact ⟨_, rfl, .ref x, rfl, .cls x⟩
      | 1, hg => cases hg; exact ⟨_, rfl, vp, rfl, by rw [List.append_nil]; exact rp⟩
      | 2, hg => cases hg; exact ⟨_, rfl, vk, rfl, by rw [List.append_nil]; exact rk⟩
      | 3, hg => cases hg; exact ⟨_, rfl, trivial⟩
      | _ + 4, hg => exact absurd hg (by simp)
    ext := .refl
    live0 := lv
    mem := mS
    bl := hB
    nd := List.nodup_nil
    out := fun _ h => absurd h (by simp)
    new := fun _ h => absurd h (by simp)
    liv := fun _ h => absurd h (by simp) }
  refine ⟨_, pss_cons ps_sem (pss_cons ps_sem (pss_cons ps_sem (pss_cons ps_sem (pss_cons (ps_fld (pv 0) pe_sem rfl) (pss_one (ps_fld (pv 0) pe_sem rfl)))))), ?_⟩
  -- index = first_wrong(parts, World.MOST_PARTS, is_part)
  have j1 : S1 (XWI P w K mg base f cdv A outer s H Ex) ((defBody sWI).getD 0 (.Pass ⟨0, 0, 0, 0⟩)) [.is (.cls x), .is (.lst ps), .is (.lst ks), .no] { nx := fun Γ => Γ = [.is (.cls x), .is (.lst ps), .is (.lst ks), .is (fwD isPartD 3 ps)], rt := fun _ => False } := by
    show S1 _ (.Assign _ _ _) _ _
    repeat wtm_at "go"
    refine ⟨rfl, ?_⟩
    repeat wtm_at "go"
    exact ⟨ps, 3, fp, isPartD, rfl, lp, sp, Hp_, fun r h => isPart_row h, rfl⟩
  refine j1 S B [] H H _ st _ ⟨fun O1 H1 σ1 Γ1 st1 a1 q1 => ?_, fun _ _ _ _ _ z => z.elim, fun _ _ _ _ _ _ z => z.elim, fun _ _ _ _ _ _ z => z.elim⟩
  subst q1
  have e1 := st1.ext
  have wsP : ∀ (c : Str) (i : Int) S M H' ys, RepAll K S M H' ys [.str c, .int i] → ys = [.str c, .int i] := fun c i S M H' ys r => by
    obtain ⟨a, b, rfl, ra, rb⟩ := r.two
    cases ra
    cases rb
    rfl
  -- a place that was none then was none at the entry
  have back : ∀ {H1 : Hp} {d : Addr}, Ext K S H H1 → d ≠ S.a → H1 d = none → H d = none := fun {H1 d} e n h => by
    cases q : H d with
    | none => rfl
    | some o =>
      have := e.keep d o n q
      rw [h] at this
      cases this
  have ifN : ∀ (p : D → Bool) (most : Int) (l : List D) (j : Nat), (j = 1 ∨ j = 3) → TX (XWI P w K mg base f cdv A outer s H Ex) (ifC ((defBody sWI).getD j (.Pass ⟨0, 0, 0, 0⟩))) [.is (.cls x), .is (.lst ps), .is (.lst ks), .is (fwD p most l)] (fun b => b = !isNon (fwD p most l)) := fun p most l j hj => by
    rcases hj with rfl | rfl <;>
    · show TX _ (.Compare _ _ _ _) _ _
      repeat wtm_at "go"
      rfl
  refine semS_of (ps_if pt_sem pss_sem pss_sem) ?_
  refine ifN isPartD 3 ps 1 (.inl rfl) S B O1 H H1 σ1 st1 _ fun b H2 e2 p2 => ?_
  subst p2
  have st2 := st1.to e2
  rcases fwD_or isPartD 3 ps with hp0 | ⟨i, hp0⟩
  case inr =>
    rw [hp0] at st2 ⊢
    refine iteT (semSs_of (pss_one ps_sem) ?_)
    refine raise_at kP hc (by rfl) tk st2 (wsP "InvalidPart" i) (by (repeat wtm_at "go"); exact ⟨rfl, i, rfl, rfl⟩) fun d H' e n1 n2 hd => ?_
    exact hE "InvalidPart" i (by unfold worldErr; rw [hp0]) d H' (st2.ext.trans e) n1 (back st2.ext n1 n2) hd
  rw [hp0] at st2 ⊢
  refine iteF (semSs_of pss_nil ?_)
  have j3 : S1 (XWI P w K mg base f cdv A outer s H Ex) ((defBody sWI).getD 2 (.Pass ⟨0, 0, 0, 0⟩)) [.is (.cls x), .is (.lst ps), .is (.lst ks), .is .non] { nx := fun Γ => Γ = [.is (.cls x), .is (.lst ps), .is (.lst ks), .is (fwD isTraitD 6 ks)], rt := fun _ => False } := by
    show S1 _ (.Assign _ _ _) _ _
    repeat wtm_at "go"
    refine ⟨rfl, ?_⟩
    repeat wtm_at "go"
    exact ⟨ks, 6, ft, isTraitD, rfl, lk, sk, Ht_, fun r h => isTrait_row h, rfl⟩
  refine j3 S B O1 H H2 σ1 st2 _ ⟨fun O3 H3 σ3 Γ3 st3 a3 q3 => ?_, fun _ _ _ _ _ z => z.elim, fun _ _ _ _ _ _ z => z.elim, fun _ _ _ _ _ _ z => z.elim⟩
  subst q3
  refine semS_of (ps_if pt_sem pss_sem pss_sem) ?_
  refine ifN isTraitD 6 ks 3 (.inr rfl) S B O3 H H3 σ3 st3 _ fun b H4 e4 p4 => ?_
  subst p4
  have st4 := st3.to e4
  rcases fwD_or isTraitD 6 ks with ht0 | ⟨i, ht0⟩
  case inr =>
    rw [ht0] at st4 ⊢
    refine iteT (semSs_of (pss_one ps_sem) ?_)
    refine raise_at kT hc (by rfl) tk st4 (wsP "InvalidTrait" i) (by (repeat wtm_at "go"); exact ⟨rfl, i, rfl, rfl⟩) fun d H' e n1 n2 hd => ?_
    exact hE "InvalidTrait" i (by unfold worldErr; rw [hp0, ht0]) d H' (st4.ext.trans e) n1 (back st4.ext n1 n2) hd
  rw [ht0] at st4 ⊢
  refine iteF (semSs_of pss_nil ?_)
  have hq := hQ (by unfold worldErr; rw [hp0, ht0])
  have v5 : EX (XWI P w K mg base f cdv A outer s H Ex) (asV ((defBody sWI).getD 4 (.Pass ⟨0, 0, 0, 0⟩))) [.is (.cls x), .is (.lst ps), .is (.lst ks), .is .non] (fun d => d = .lst ps) := by
    show EX _ (.Call _ _ _ _) _ _
    repeat wtm_at "go"
    rfl
  refine v5 S B O3 H H4 σ3 st4 _ fun y5 d5 H5 e5 r5 p5 => ?_
  have st5 := st4.to e5
  have hx5 : H5 x = some (.ins CW dx []) := st5.ext.keep x _ xs hx
  obtain ⟨y0, hy0, w0, rfl, r0⟩ := st5.ent 0 _ rfl
  cases r0
  refine ⟨.ref x, hy0, x, CW, dx, [], rfl, hx5, W.c, W.n1, by decide, ?_⟩
  obtain ⟨y2, hy2, w2, rfl, r2⟩ := st5.ent 2 _ rfl
  have lv5 := st5.live
  have at_ : ∀ {o : HO} b, b ≠ x → upd H5 x o b = H5 b := fun b n => upd_ne n
  have hB6 : ∀ {o : HO}, ∀ m ∈ B, ∃ u, upd H5 x o m = some u := fun {o} m hm => by
    by_cases e : m = x
    · rw [e]; exact ⟨_, upd_same⟩
    · rw [upd_ne e]
      obtain ⟨u, hu⟩ := hB m hm
      by_cases e2 : m = S.a
      · rw [e2]; exact lv5.1
      · exact ⟨u, st5.ext.keep m u e2 hu⟩
  have lv6 : ∀ {o : HO}, Live S (upd H5 x o) := fun {o} => by
    obtain ⟨⟨o1, h1⟩, ⟨o2, h2⟩, n⟩ := lv5
    exact ⟨⟨o1, by rw [upd_ne xs.symm]; exact h1⟩, ⟨o2, by rw [upd_ne xl.symm]; exact h2⟩, n⟩
  have len3 : σ3.length = 4 := st5.len
  have r2B : Rep K S B H5 w2 (.lst ks) := rep_out st5 r2
  have st6 : StOk K S B [] (upd H5 x (.ins CW dx (putF "_parts" y5 []))) (upd H5 x (.ins CW dx (putF "_parts" y5 []))) σ3 [.no, .no, .is (.lst ks), .no] := {
    len := len3
    ent := fun i g hg => by
      match i, hg with
      | 0, hg => cases hg; exact ⟨_, hy0, trivial⟩
      | 1, hg => cases hg; exact ⟨_, List.getElem?_eq_getElem (by omega), trivial⟩
      | 2, hg => cases hg; exact ⟨_, hy2, w2, rfl, by rw [List.append_nil]; exact r2B.wr xB xs xl⟩
      | 3, hg => cases hg; exact ⟨_, List.getElem?_eq_getElem (by omega), trivial⟩
      | _ + 4, hg => exact absurd hg (by simp)
    ext := .refl
    live0 := lv6
    mem := mS
    bl := hB6
    nd := List.nodup_nil
    out := fun _ h => absurd h (by simp)
    new := fun _ h => absurd h (by simp)
    liv := fun _ h => absurd h (by simp) }
  have v6 : EX (XWI P w K mg base f cdv A outer s H Ex) (asV ((defBody sWI).getD 5 (.Pass ⟨0, 0, 0, 0⟩))) [.no, .no, .is (.lst ks), .no] (fun d => d = .lst ks) := by
    show EX _ (.Call _ _ _ _) _ _
    repeat wtm_at "go"
    rfl
  refine v6 S B [] _ _ σ3 st6 _ fun y7 d7 H7 e7 r7 p7 => ?_
  have hx7 : H7 x = some (.ins CW dx (putF "_parts" y5 [])) := e7.keep x _ xs upd_same
  refine ⟨.ref x, hy0, x, CW, dx, _, rfl, hx7, W.c, W.n2, (by show (1 : Nat) < 1000; decide), ?_⟩
  refine hq _ (fun b o n1 n2 h => ?_) (fun hs => ?_) ?_
  · rw [upd_ne n2]
    exact e7.keep b o n1 (by rw [upd_ne n2]; exact st5.ext.keep b o n1 h)
  · have s5 := st5.ext.src lv hs
    have s6 : SrcOk K S (upd H5 x (.ins CW dx (putF "_parts" y5 []))) := by
      obtain ⟨i, c, s, t, ns, h1, h2, h3⟩ := s5
      exact ⟨i, c, s, t, ns, by rw [upd_ne xs.symm]; exact h1, by rw [upd_ne xl.symm]; exact h2, h3⟩
    obtain ⟨i, c, s, t, ns, h1, h2, h3⟩ := e7.src lv6 s6
    exact ⟨i, c, s, t, ns, by rw [upd_ne xs.symm]; exact h1, by rw [upd_ne xl.symm]; exact h2, h3⟩
  · obtain ⟨⟨o1, h1⟩, ⟨o2, h2⟩, n⟩ := e7.live lv6
    exact ⟨⟨o1, by rw [upd_ne xs.symm]; exact h1⟩, ⟨o2, by rw [upd_ne xl.symm]; exact h2⟩, n⟩
end
end G
set_option Elab.async false
set_option linter.all false
set_option maxRecDepth 100000
set_option maxHeartbeats 4000000
namespace G
open PySem PySem.Spec PyProof.Rows L2
local macro_rules | `(tactic| wtm_at "vis") => `(tactic| first | exact Or.inl rfl | exact Or.inr (Or.inl rfl) | exact Or.inr (Or.inr rfl))
local macro_rules | `(tactic| wtm_at "cal") => `(tactic| first | assumption | exact CallOk.blk (by assumption) | exact CallOkK.blk (by assumption) | exact ConstOk.blk (by assumption))
local macro_rules | `(tactic| wtm_at "nm") => `(tactic| first
  | refine ex_name 0 (by assumption) (by with_reducible rfl) (by with_reducible rfl) (by wtm_at "vis") ?_
  | refine ex_name 1 (by assumption) (by with_reducible rfl) (by with_reducible rfl) (by wtm_at "vis") ?_
  | refine ex_name 2 (by assumption) (by with_reducible rfl) (by with_reducible rfl) (by wtm_at "vis") ?_
  | refine ex_name 3 (by assumption) (by with_reducible rfl) (by with_reducible rfl) (by wtm_at "vis") ?_
  | refine ex_name 4 (by assumption) (by with_reducible rfl) (by with_reducible rfl) (by wtm_at "vis") ?_
  | refine ex_name 5 (by assumption) (by with_reducible rfl) (by with_reducible rfl) (by wtm_at "vis") ?_
  | refine ex_name 6 (by assumption) (by with_reducible rfl) (by with_reducible rfl) (by wtm_at "vis") ?_
  | refine ex_name 7 (by assumption) (by with_reducible rfl) (by with_reducible rfl) (by wtm_at "vis") ?_
  | refine ex_name 8 (by assumption) (by with_reducible rfl) (by with_reducible rfl) (by wtm_at "vis") ?_
  | refine ex_name 9 (by assumption) (by with_reducible rfl) (by with_reducible rfl) (by wtm_at "vis") ?_
  | refine ex_name 10 (by assumption) (by with_reducible rfl) (by with_reducible rfl) (by wtm_at "vis") ?_
  | refine ex_name 11 (by assumption) (by with_reducible rfl) (by with_reducible rfl) (by wtm_at "vis") ?_
  | refine ex_name 12 (by assumption) (by with_reducible rfl) (by with_reducible rfl) (by wtm_at "vis") ?_
  | refine ex_name 13 (by assumption) (by with_reducible rfl) (by with_reducible rfl) (by wtm_at "vis") ?_
  | refine ex_name 14 (by assumption) (by with_reducible rfl) (by with_reducible rfl) (by wtm_at "vis") ?_
  | refine ex_name 15 (by assumption) (by with_reducible rfl) (by with_reducible rfl) (by wtm_at "vis") ?_
  | refine ex_name 16 (by assumption) (by with_reducible rfl) (by with_reducible rfl) (by wtm_at "vis") ?_
  | refine ex_name 17 (by assumption) (by with_reducible rfl) (by with_reducible rfl) (by wtm_at "vis") ?_
  | refine ex_name 18 (by assumption) (by with_reducible rfl) (by with_reducible rfl) (by wtm_at "vis") ?_
  | refine ex_name 19 (by assumption) (by with_reducible rfl) (by with_reducible rfl) (by wtm_at "vis") ?_
  | refine ex_name 20 (by assumption) (by with_reducible rfl) (by with_reducible rfl) (by wtm_at "vis") ?_
  | refine ex_name 21 (by assumption) (by with_reducible rfl) (by with_reducible rfl) (by wtm_at "vis") ?_
  | refine ex_name 22 (by assumption) (by with_reducible rfl) (by with_reducible rfl) (by wtm_at "vis") ?_
  | refine ex_name 23 (by assumption) (by with_reducible rfl) (by with_reducible rfl) (by wtm_at "vis") ?_)
local macro_rules | `(tactic| wtm_at "kb") => `(tactic| first | exact kb0 | exact kb1 | exact kb2 | exact kb3 | exact kb4 | exact kb5 | exact kb6 | exact kb7 | exact kb8 | exact kb9 | exact kb10 | exact kb11 | exact kb12 | exact kb13 | exact kb14 | exact kb15 | exact kb16 | exact kb17 | exact kb18 | exact kb19 | exact kb20 | exact kb21 | exact kb22 | exact kb23 | exact kb24 | exact kb25 | exact kb26 | exact kb27 | exact kb28 | exact kb29)
local macro_rules | `(tactic| wtm_at "loc") => `(tactic| first | exact Or.inl rfl | exact Or.inr rfl)
local macro_rules | `(tactic| wtm_at "set") => `(tactic| first
  | refine s_set 0 (by assumption) (by assumption) (by with_reducible rfl) (by wtm_at "loc") ?_
  | refine s_set 1 (by assumption) (by assumption) (by with_reducible rfl) (by wtm_at "loc") ?_
  | refine s_set 2 (by assumption) (by assumption) (by with_reducible rfl) (by wtm_at "loc") ?_
  | refine s_set 3 (by assumption) (by assumption) (by with_reducible rfl) (by wtm_at "loc") ?_
  | refine s_set 4 (by assumption) (by assumption) (by with_reducible rfl) (by wtm_at "loc") ?_
  | refine s_set 5 (by assumption) (by assumption) (by with_reducible rfl) (by wtm_at "loc") ?_
  | refine s_set 6 (by assumption) (by assumption) (by with_reducible rfl) (by wtm_at "loc") ?_
  | refine s_set 7 (by assumption) (by assumption) (by with_reducible rfl) (by wtm_at "loc") ?_
  | refine s_set 8 (by assumption) (by assumption) (by with_reducible rfl) (by wtm_at "loc") ?_
  | refine s_set 9 (by assumption) (by assumption) (by with_reducible rfl) (by wtm_at "loc") ?_
  | refine s_set 10 (by assumption) (by assumption) (by with_reducible rfl) (by wtm_at "loc") ?_
  | refine s_set 11 (by assumption) (by assumption) (by with_reducible rfl) (by wtm_at "loc") ?_
  | refine s_set 12 (by assumption) (by assumption) (by with_reducible rfl) (by wtm_at "loc") ?_
  | refine s_set 13 (by assumption) (by assumption) (by with_reducible rfl) (by wtm_at "loc") ?_
  | refine s_set 14 (by assumption) (by assumption) (by with_reducible rfl) (by wtm_at "loc") ?_
  | refine s_set 15 (by assumption) (by assumption) (by with_reducible rfl) (by wtm_at "loc") ?_
  | refine s_set 16 (by assumption) (by assumption) (by with_reducible rfl) (by wtm_at "loc") ?_
  | refine s_set 17 (by assumption) (by assumption) (by with_reducible rfl) (by wtm_at "loc") ?_
  | refine s_set 18 (by assumption) (by assumption) (by with_reducible rfl) (by wtm_at "loc") ?_
  | refine s_set 19 (by assumption) (by assumption) (by with_reducible rfl) (by wtm_at "loc") ?_
  | refine s_set 20 (by assumption) (by assumption) (by with_reducible rfl) (by wtm_at "loc") ?_
  | refine s_set 21 (by assumption) (by assumption) (by with_reducible rfl) (by wtm_at "loc") ?_
  | refine s_set 22 (by assumption) (by assumption) (by with_reducible rfl) (by wtm_at "loc") ?_
  | refine s_set 23 (by assumption) (by assumption) (by with_reducible rfl) (by wtm_at "loc") ?_)
local macro_rules | `(tactic| wtm_at "ex") => `(tactic| first
  | ((with_reducible show EX _ (PySem.Expr.Name "int" _) _ _); refine ex_ty (by assumption) (by rfl) bt_int ?_)
  | ((with_reducible show EX _ (PySem.Expr.Name "str" _) _ _); refine ex_ty (by assumption) (by rfl) bt_str ?_)
  | ((with_reducible show EX _ (PySem.Expr.Name "bool" _) _ _); refine ex_ty (by assumption) (by rfl) bt_bool ?_)
  | ((with_reducible show EX _ (PySem.Expr.Name "list" _) _ _); refine ex_ty (by assumption) (by rfl) bt_list ?_)
  | ((with_reducible show EX _ (PySem.Expr.Name "tuple" _) _ _); refine ex_ty (by assumption) (by rfl) bt_tuple ?_)
  | ((with_reducible show EX _ (PySem.Expr.Name _ _) _ _); first | wtm_at "nm" | refine ex_glob (by wtm_at "cal") (by rfl) ?_)
  | ((with_reducible show EX _ (PySem.Expr.Constant (PySem.Const.int _) _ _) _ _); refine ex_int ?_)
  | ((with_reducible show EX _ (PySem.Expr.Constant (PySem.Const.str _) _ _) _ _); refine ex_str ?_)
  | ((with_reducible show EX _ (PySem.Expr.Constant (PySem.Const.bool _) _ _) _ _); refine ex_bl ?_)
  | ((with_reducible show EX _ (PySem.Expr.Constant PySem.Const.none _ _) _ _); refine ex_non ?_)
  | ((with_reducible show EX _ (PySem.Expr.BinOp _ PySem.Operator.Add _ _) _ _); refine ex_bin od_add ?_)
  | ((with_reducible show EX _ (PySem.Expr.BinOp _ PySem.Operator.Sub _ _) _ _); refine ex_bin od_sub ?_)
  | ((with_reducible show EX _ (PySem.Expr.BinOp _ PySem.Operator.Mult _ _) _ _); refine ex_bin od_mul ?_)
  | ((with_reducible show EX _ (PySem.Expr.BinOp _ PySem.Operator.Mod _ _) _ _); refine ex_bin od_mod ?_)
  | ((with_reducible show EX _ (PySem.Expr.BinOp _ PySem.Operator.FloorDiv _ _) _ _); refine ex_bin od_fdiv ?_)
  | ((with_reducible show EX _ (PySem.Expr.BinOp _ PySem.Operator.Pow _ _) _ _); refine ex_bin od_pow ?_)
  | ((with_reducible show EX _ (PySem.Expr.Compare _ [PySem.CmpOp.Eq] _ _) _ _); refine ex_cmp od_eq ?_)
  | ((with_reducible show EX _ (PySem.Expr.Compare _ [PySem.CmpOp.NotEq] _ _) _ _); refine ex_cmp od_ne ?_)
  | ((with_reducible show EX _ (PySem.Expr.Compare _ [PySem.CmpOp.Lt] _ _) _ _); refine ex_cmp od_lt ?_)
  | ((with_reducible show EX _ (PySem.Expr.Compare _ [PySem.CmpOp.LtE] _ _) _ _); refine ex_cmp od_le ?_)
  | ((with_reducible show EX _ (PySem.Expr.Compare _ [PySem.CmpOp.Gt] _ _) _ _); refine ex_cmp od_gt ?_)
  | ((with_reducible show EX _ (PySem.Expr.Compare _ [PySem.CmpOp.GtE] _ _) _ _); refine ex_cmp od_ge ?_)
  | ((with_reducible show EX _ (PySem.Expr.Compare _ [PySem.CmpOp.Is] _ _) _ _); refine ex_cmp od_is ?_)
  | ((with_reducible show EX _ (PySem.Expr.Compare _ [PySem.CmpOp.IsNot] _ _) _ _); refine ex_cmp od_isnot ?_)
  | ((with_reducible show EX _ (PySem.Expr.Compare _ [PySem.CmpOp.LtE, PySem.CmpOp.LtE] _ _) _ _); refine ex_chain od_le od_le ?_)
  | ((with_reducible show EX _ (PySem.Expr.UnaryOp PySem.UnaryOp.USub _ _) _ _); refine ex_neg ?_)
  | ((with_reducible show EX _ (PySem.Expr.UnaryOp PySem.UnaryOp.Not _ _) _ _); refine ex_not ?_)
  | ((with_reducible show EX _ (PySem.Expr.BoolOp PySem.BoolOp.And (_ :: _ :: _) _) _ _); refine ex_and ?_)
  | ((with_reducible show EX _ (PySem.Expr.BoolOp PySem.BoolOp.Or (_ :: _ :: _) _) _ _); refine ex_or ?_)
  | ((with_reducible show EX _ (PySem.Expr.BoolOp _ [_] _) _ _); refine ex_one ?_)
  | ((with_reducible show EX _ (PySem.Expr.IfExp _ _ _ _) _ _); refine ex_ifExp ?_)
  | ((with_reducible show EX _ (PySem.Expr.Tuple _ _ _) _ _); refine ex_tup ?_)
  | ((with_reducible show EX _ (PySem.Expr.List _ _) _ _); refine ex_lst ?_)
  | ((with_reducible show AX _ (_ :: _) _ _); refine ax_cons ?_)
  | ((with_reducible show AX _ [] _ _); refine ax_nil ?_)
  | ((with_reducible show KX _ (_ :: _) _ _); refine kx_cons ?_)
  | ((with_reducible show KX _ [] _ _); refine kx_nil ?_)
  | ((with_reducible show EX _ (PySem.Expr.Call (PySem.Expr.Name "isinstance" _) [_, PySem.Expr.Tuple [_, _] _ _] [] _) _ _); refine ex_isi2 (by assumption) (by rfl) bt_isi ?_)
  | ((with_reducible show EX _ (PySem.Expr.Call (PySem.Expr.Name "isinstance" _) _ [] _) _ _); refine ex_bi bi_isi (by assumption) (by rfl) bt_isi ?_)
  | ((with_reducible show EX _ (PySem.Expr.Call (PySem.Expr.Name "len" _) _ [] _) _ _); refine ex_bi bi_len (by assumption) (by rfl) bt_len ?_)
  | ((with_reducible show EX _ (PySem.Expr.Call (PySem.Expr.Name "abs" _) _ [] _) _ _); refine ex_bi bi_abs (by assumption) (by rfl) bt_abs ?_)
  | ((with_reducible show EX _ (PySem.Expr.Call (PySem.Expr.Name "all" _) _ [] _) _ _); refine ex_bi (bi_all rfl) (by assumption) (by rfl) bt_all ?_)
  | ((with_reducible show EX _ (PySem.Expr.Call (PySem.Expr.Name "int" _) _ [] _) _ _); refine ex_bt bi_int (by assumption) (by rfl) bt_int ?_)
  | ((with_reducible show EX _ (PySem.Expr.Call (PySem.Expr.Name "str" _) _ [] _) _ _); refine ex_bt bi_str (by assumption) (by rfl) bt_str ?_)
  | ((with_reducible show EX _ (PySem.Expr.Call (PySem.Expr.Name "list" _) _ [] _) _ _); refine ex_bt bi_list (by assumption) (by rfl) bt_list ?_)
  | ((with_reducible show EX _ (PySem.Expr.Call (PySem.Expr.Name "tuple" _) _ [] _) _ _); refine ex_bt bi_tuple (by assumption) (by rfl) bt_tuple ?_)
  | ((with_reducible show EX _ (PySem.Expr.Call (PySem.Expr.Name "gcd" _) _ [] _) _ _); refine ex_bf bi_gcd (by assumption) (by rfl) ?_)
  | ((with_reducible show EX _ (PySem.Expr.Call (PySem.Expr.Name _ _) (_ :: _) [] _) _ _); refine ex_call (by wtm_at "cal") (by rfl) ?_)
  | ((with_reducible show EX _ (PySem.Expr.Call (PySem.Expr.Name _ _) [] (_ :: _) _) _ _); refine ex_callK0 (by wtm_at "cal") (by rfl) ?_)
  | ((with_reducible show EX _ (PySem.Expr.Call (PySem.Expr.Name _ _) (_ :: _) (_ :: _) _) _ _); refine ex_callK (by wtm_at "cal") (by rfl) ?_)
  | ((with_reducible show EX _ (PySem.Expr.Subscript _ _ _) _ _); refine ex_ix ?_))
local macro_rules | `(tactic| wtm_at "tx") => `(tactic| first
  | ((with_reducible show TX _ (PySem.Expr.Compare _ [PySem.CmpOp.Eq] _ _) _ _); refine tx_cmp od_eq ?_)
  | ((with_reducible show TX _ (PySem.Expr.Compare _ [PySem.CmpOp.NotEq] _ _) _ _); refine tx_cmp od_ne ?_)
  | ((with_reducible show TX _ (PySem.Expr.Compare _ [PySem.CmpOp.Lt] _ _) _ _); refine tx_cmp od_lt ?_)
  | ((with_reducible show TX _ (PySem.Expr.Compare _ [PySem.CmpOp.LtE] _ _) _ _); refine tx_cmp od_le ?_)
  | ((with_reducible show TX _ (PySem.Expr.Compare _ [PySem.CmpOp.Gt] _ _) _ _); refine tx_cmp od_gt ?_)
  | ((with_reducible show TX _ (PySem.Expr.Compare _ [PySem.CmpOp.GtE] _ _) _ _); refine tx_cmp od_ge ?_)
  | ((with_reducible show TX _ (PySem.Expr.Compare _ [PySem.CmpOp.Is] _ _) _ _); refine tx_cmp od_is ?_)
  | ((with_reducible show TX _ (PySem.Expr.Compare _ [PySem.CmpOp.IsNot] _ _) _ _); refine tx_cmp od_isnot ?_)
  | ((with_reducible show TX _ (PySem.Expr.Compare _ [PySem.CmpOp.LtE, PySem.CmpOp.LtE] _ _) _ _); refine tx_chain od_le od_le ?_)
  | ((with_reducible show TX _ (PySem.Expr.UnaryOp PySem.UnaryOp.Not _ _) _ _); refine tx_not ?_)
  | ((with_reducible show TX _ (PySem.Expr.BoolOp _ _ _) _ _); refine tx_w ?_)
  | ((with_reducible show TW _ (PySem.Expr.BoolOp PySem.BoolOp.And (_ :: _ :: _) _) _ _); refine tw_and ?_)
  | ((with_reducible show TW _ (PySem.Expr.BoolOp PySem.BoolOp.Or (_ :: _ :: _) _) _ _); refine tw_or ?_)
  | ((with_reducible show TW _ (PySem.Expr.BoolOp PySem.BoolOp.And [_] _) _ _); refine tw_and1 ?_)
  | ((with_reducible show TW _ (PySem.Expr.BoolOp PySem.BoolOp.Or [_] _) _ _); refine tw_or1 ?_)
  | ((with_reducible show TX _ _ _ _); refine tx_truth ?_))
local macro_rules | `(tactic| wtm_at "st") => `(tactic| first
  | ((with_reducible show SX _ [_] _ _); refine sx_one ?_)
  | ((with_reducible show SX _ (_ :: _) _ _); refine sx_cons ?_)
  | ((with_reducible show SX _ [] _ _); refine sx_nil ?_)
  | ((with_reducible show S1 _ (PySem.Stmt.Return (some _) _) _ _); refine s_ret ?_)
  | ((with_reducible show S1 _ (PySem.Stmt.If _ _ _ _) _ _); refine s_if ?_)
  | ((with_reducible show S1 _ (PySem.Stmt.Expr _ _) _ _); refine s_expr ?_)
  | ((with_reducible show S1 _ (PySem.Stmt.Pass _) _ _); refine s_pass ?_)
  | ((with_reducible show S1 _ (PySem.Stmt.Assign [PySem.Expr.Name _ _] _ _) _ _); wtm_at "set"))
local macro_rules | `(tactic| wtm_at "op") => `(tactic| with_reducible first
  | refine o_add ?_
  | refine o_sub ?_
  | refine o_lt ?_
  | refine o_le ?_
  | refine o_gt ?_
  | refine o_ge ?_
  | refine o_is ?_
  | refine o_isnot ?_
  | refine o_lenl ?_
  | refine o_lent ?_
  | refine o_abs ?_
  | refine o_int ?_
  | refine o_listl ?_
  | refine o_listt ?_
  | refine o_tupl ?_
  | refine o_tupt ?_
  | refine o_all ?_
  | refine o_gcd ?_
  | refine o_asB ?_
  | refine o_asI ?_
  | refine o_asL ?_
  | refine o_asT ?_
  | refine o_truB ?_
  | refine o_truN ?_
  | refine o_truL ?_
  | refine o_truT ?_
  | refine if_t ?_
  | refine if_f ?_
  | refine if_nf ?_
  | refine if_nt ?_)
local macro_rules | `(tactic| wtm_at "op2") => `(tactic| first
  | ((with_reducible show if _ = true then _ else _); first | refine if_ev_t rfl ?_ | refine if_ev_f rfl ?_)
  | ((with_reducible show wIsi [_, D.ty _] _); refine o_isi rfl (by wtm_at "kb") ?_)
  | ((with_reducible show wEq _ _ _); refine o_eq rfl ?_)
  | ((with_reducible show wNe _ _ _); refine o_ne rfl ?_)
  | ((with_reducible show wIx (D.lst _) (D.int _) _); refine o_ixl rfl ?_)
  | ((with_reducible show wIx (D.tup _) (D.int _) _); refine o_ixt rfl ?_)
  | ((with_reducible show wPow _ _ _); refine o_pow ⟨by decide, by decide, by decide⟩ ?_)
  | ((with_reducible show (_ ≤ 100000) ∧ _); refine ⟨Nat.le_of_ble_eq_true rfl, ?_⟩)
  | ((with_reducible show ∃ n1 n2 t k1 k2, _); refine o_isi2 rfl (by wtm_at "kb") (by wtm_at "kb") ?_))
local macro_rules | `(tactic| wtm_at "go") => `(tactic| first | wtm_at "ex" | wtm_at "op" | wtm_at "op2" | wtm_at "tx" | wtm_at "st")
local macro_rules | `(tactic| wtm_at "ex") => `(tactic| first
  | ((with_reducible show EX _ (PySem.Expr.Compare _ [PySem.CmpOp.In] _ _) _ _); refine ex_cmp od_in ?_)
  | ((with_reducible show EX _ (PySem.Expr.Attribute _ _ _) _ _); refine ex_fld ?_)
  | ((with_reducible show EX _ (PySem.Expr.Call (PySem.Expr.Name _ _) (_ :: _) [] _) _ _); refine ex_make (by assumption) (by rfl) ?_)
  | ((with_reducible show EX _ (PySem.Expr.Call (PySem.Expr.Name _ _) [] [] _) _ _); first | refine ex_make0 (by assumption) (by rfl) ?_ | refine ex_call0 (by wtm_at "cal") (by rfl) ?_))
local macro_rules | `(tactic| wtm_at "op2") => `(tactic| first
  | ((with_reducible show wIn (D.str _) (D.lst _) _); refine o_in rfl ?_))
local macro_rules | `(tactic| wtm_at "tx") => `(tactic| first
  | ((with_reducible show TX _ (PySem.Expr.Compare _ [PySem.CmpOp.In] _ _) _ _); refine tx_cmp od_in ?_))
/-! ### a def that is called while an exception is handled -/
structure FnQ (P : Program) (w : World) (K : PySem.W.Frag) (mg : Str → Option Value) (base : Heap) (k : Nat) (f : Addr) (fd : FuncData) (ps : List Str) (sp : Addr × Obj → Sp) : Prop where
  len : ∀ p vs H Q E, sp p vs H Q E → vs.length = ps.length
  run : ∀ (A : Around) (outer : List Env) (s : Shared) (H : Hp) (args : Args) (us : List Value) (vs : List V) (Q : VK) (E : XK) (p : Addr × Obj), L2H.RoomH k A → L2H.PinOk outer H s p → Env0 P w K mg base A outer s H → BindsTo s fd args (ps.zip us) → Vals vs us → sp p vs H Q E →
    codeAny (model P w) A (.call (.ref f) args) (CR CX0 outer P w H s Q E) s
theorem fn_ofQ {P : Program} {w : World} {K : PySem.W.Frag} {mg : Str → Option Value} {base : Heap} {k : Nat} {f : Addr} {name qual : Str} {params : Arguments} {body : List Stmt} {scope : Scope} {dV kV doc pm cdv ct oc : Value} {an od : Option Addr}
    {osl : Array (Option Value)} {N ps : List Str} {sp : Addr × Obj → Sp} (lk : K.lookup f = some ⟨oc, od, .func (PySem.W.fnOf name qual params body scope dV kV doc pm an cdv ct), osl⟩) (hcd : PySem.W.codeIn K cdv qual = true) (S : FnScope N ps scope)
    (len : ∀ p vs H Q E, sp p vs H Q E → vs.length = ps.length)
    (hbody : ∀ (A : Around) (outer : List Env) (s : Shared) (H : Hp) (vs : List V) (Q : VK) (E : XK) (p : Addr × Obj), L2H.RoomH k (A.deeper (envOfC qual scope s.heap.objs.size f cdv)) → sp p vs H Q E →
      ∃ t, PSs (L2H.cxH CX0 P w K mg base N qual scope f cdv A outer s H E p) body t ∧ t { nx := fun _ H' => Q .non H', rt := Q } (L2.start N vs) H) :
    FnQ P w K mg base (k + 1) f (PySem.W.fnOf name qual params body scope dV kV doc pm an cdv ct) ps sp := by
  refine ⟨len, fun A outer s H args us vs Q E p hr hpin e0 hb r hsp => ?_⟩
  have hl := len _ _ _ _ _ hsp
  have KX : K.In s.heap := e0.mod.kin.keeps fun b o e => (e0.bs b o e).1
  have lim : s.heap.NoLimit := e0.mod.nolimit.keeps fun b o e => (e0.bs b o e).1
  have hkind : ∀ y ∈ ps.zip us, scope.names.lookup y.1 = some .local ∨ (scope.names.lookup y.1 = some .cell ∧ ((cellsFrom (s.heap.objs.size + 1) scope.names []).lookup y.1).isSome = true) := fun ⟨n, v⟩ hy => by
    rcases S.par n (List.of_mem_zip hy).1 with q | q
    · exact .inl q
    · exact .inr ⟨q, PySem.W.cellsFrom_some _ _ _ (.inl q)⟩
  refine codeAny_call_function hr.depth (KX _ _ lk) rfl S.co S.gen rfl (PySem.W.codeRec_of KX hcd) (hb _ _ _ _ ?_)
  refine wpAny_newFunctionEnv_cells S.kind hkind fun env he s1 x => ?_
  subst he
  refine ⟨lim.keeps x.toInCall.keep, codeAny_func ?_⟩
  obtain ⟨t, ht, hq⟩ := hbody A outer s H vs Q E p (hr.deeper _) hsp
  have I : Inv (L2H.cxH CX0 P w K mg base N qual scope f cdv A outer s H E p) [] (L2.start N vs) H s1 := L2H.inv_startH S hpin e0 hl r x
  refine wpAny_mono (ht.run [] s1 (L2.start N vs) H _ I hq) (fun fl s' hs => ?_) fun e s' hs => hs
  have fin : ∀ {σ' : L2.St} {H' : Hp} {v : V} {u : Value}, Inv (L2H.cxH CX0 P w K mg base N qual scope f cdv A outer s H E p) [] σ' H' s' → RelV v u → Q v H' → CE outer P w H s Q u s' :=
    fun {σ' H' v u} J rv q => ⟨v, H', J.os, J.bare, J.base, J.hok, rv, q⟩
  cases fl with
  | ret u =>
    obtain ⟨v, σ', H', J, rv, q⟩ := hs
    exact fin J rv q
  | next =>
    obtain ⟨σ', H', J, q⟩ := hs
    exact fin (v := V.non) (u := Value.none) J rfl q
  | brk =>
    obtain ⟨_, _, _, q⟩ := hs
    exact False.elim q
  | cont =>
    obtain ⟨_, _, _, q⟩ := hs
    exact False.elim q
section
variable {X : Cx} {k : Nat} {f C : Addr} {fd : FuncData} {ps : List Str} {spq : Addr × Obj → Sp} {E : L2.St → XK} {x : Str} {q pos : Pos} {e : Expr} {es : List Expr} {t : TA}
theorem pe_callQ {p : Addr × Obj} (F : FnQ X.prog X.w X.K X.mg X.base k f fd ps spq) (hr : L2H.RoomH k X.A) (hp : p ∈ X.pn) (hg : Gl X x) (hm : X.mg x = some (.ref f)) (hk : PySem.W.keepIn X.K (.ref f) = true) (hb : Binds X.K fd ps [])
    (ha : PA X (e :: es) t) (hdb : (x == ("__debug__" : Str)) = false := by decide) (he : starEach (e :: es) X.env = (false, eval e X.env) :: starEach es X.env := by rfl) (hpl : (backTo pos (starEach es X.env)).any (·.1) = false := by rfl) :
    PE X (.Call (.Name x q) (e :: es) [] pos) (fun σ H Q => t σ H fun vs H1 => spq p vs H1 Q (E σ)) := by
  refine ⟨fun pins s σ H Q I h => ?_⟩
  refine wpAny_Call_Name_kw (ld_glob I hg hm ?_ hdb)
  refine PySem.W.callWith_K (h₀ := X.base) I.ok.mod.kin hk (thn (ha.run pos pins s σ H _ I h) fun us s1 ⟨vs, H1, I1, r, q⟩ => ⟨I1.kIn, ?_⟩) he hpl
  have hl : us.length = ps.length := by rw [← r.length]; exact F.len _ _ _ _ _ q
  have b := hb s1 us I1.kIn (by rw [List.append_nil]; exact hl)
  rw [List.append_nil] at b
  have P1 := I1.pin p (List.mem_append_left _ hp)
  have hpin : L2H.PinOk X.stack H1 s1 p := ⟨P1.1, P1.2.1, fun hm => (List.mem_cons.mp (I1.stkSub p.1 hm)).elim P1.2.2.1 P1.2.2.2.1, P1.2.2.2.2⟩
  refine wpAny_call (codeAny_mono (F.run X.A X.stack s1 H1 ⟨us, []⟩ us vs Q (E σ) p hr hpin I1.env0 b r q) fun r s' hq => ?_)
  cases r with
  | error e => exact (show False from hq).elim
  | ok fl =>
    cases fl with
    | ret u => exact I1.after hq
    | next => exact False.elim hq
    | brk => exact False.elim hq
    | cont => exact False.elim hq
/-- a field of an exception that is pinned -/
theorem pe_pin {a C : Addr} {oe : Obj} {cls : Value} {d : Option Addr} {e : Expr} {te : TE} {pos : Pos} {n : Str} (hp : (a, oe) ∈ X.pn) (T : XfC X.K C) (hno : PySem.W.findIn X.K (.ref C) n = some none)
    (hz : Zc cls d oe) (hf : ∃ vs, oe.data = .fields vs) (he : PE X e te) (hb : attributeBase e n X.env (eval e X.env) = eval e X.env := by rfl) :
    PE X (.Attribute e n pos) (tXf a cls d C n te) := by
  refine ⟨fun pins s σ H Q I h => ?_⟩
  refine attr_of hb (thn (he.run pins s σ H _ I h) fun u s1 hh => ?_)
  obtain ⟨x, H1, I1, rx, ex, ec, dd, fs, v, ed, ea, l, q⟩ := hh
  subst ex
  obtain rfl : u = Value.ref a := rx
  subst ec
  subst ed
  obtain ⟨ha, _⟩ := I1.pin (a, oe) (List.mem_append_left _ hp)
  obtain ⟨vs, hd⟩ := hf
  have hx : ObjOk X.prog X.w H1 s1.heap dd (.xd fs) := I1.hok dd _ ea
  obtain ⟨mA, hns, hr⟩ := hx
  obtain ⟨od, ho, hl⟩ := lookIn_ns hns
  obtain ⟨u, hu, ru⟩ := RelO.some_of (v := v) (o := mA n) (by rw [← l]; exact hr n)
  have J : PySem.W.InstAt s1.heap a oe C (some od) := ⟨ha, hz.1, by unfold PySem.W.notCls; rw [hd] <;> rfl, by rw [hz.2]; exact ho⟩
  exact HandSPX.exc_get I1.kIn J T.ga T.gg T.exC (PySem.W.findObj_own T.hdC hno rfl (by rw [hl, hu])) (handed_of ru) ⟨v, H1, I1.tok _, ru, q⟩
end
/-- a state of which only the source is known -/
theorem st_no {K : PySem.W.Frag} {S : Sr} {B : List Addr} {H : Hp} {σ : L2.St} (m : S.a ∈ B) (l : Live S H) (b : ∀ m ∈ B, ∃ o, H m = some o) : StOk K S B [] H H σ (List.replicate σ.length .no) where
  len := by rw [List.length_replicate]
  ent := fun i g hg => by
    rw [List.getElem?_replicate] at hg
    split at hg
    · rename_i h
      cases hg
      exact ⟨_, List.getElem?_eq_getElem h, trivial⟩
    · cases hg
  ext := .refl
  live0 := l
  mem := m
  bl := b
  nd := List.nodup_nil
  out := fun _ h => absurd h (by simp)
  new := fun _ h => absurd h (by simp)
  liv := fun _ h => absurd h (by simp)
abbrev sField : Stmt := topS 31
abbrev sWhy : Stmt := topS 32
theorem scField : FnScope ["_law_e"] ["_law_e"] (defScope sField) := ⟨rfl, rfl, rfl, by decide +kernel, rfl, by decide +kernel, by decide +kernel⟩
abbrev nWhy : List Str := ["_law_ask7", "_law_told", "_law_e"]
theorem scWhy : FnScope nWhy ["_law_ask7"] (defScope sWhy) := ⟨rfl, rfl, rfl, by decide +kernel, rfl, by decide +kernel, by decide +kernel⟩
abbrev xFs (c : Str) (i : Int) : List (Str × V) := [("code", .str c), ("index", .int i)]
/-- an exception class whose instances have code and index -/
structure XcI (K : PySem.W.Frag) (C : Addr) : Prop where
  x : XfC K C
  n1 : PySem.W.findIn K (.ref C) "code" = some none
  n2 : PySem.W.findIn K (.ref C) "index" = some none
def spField (K : PySem.W.Frag) : Addr × Obj → Sp := fun p vs H Q _ => vs = [.ref p.1] ∧ ∃ (S : Sr) (B : List Addr) (C dd : Addr) (c : Str) (i : Int), S.a ∈ B ∧ Live S H ∧ (∀ m ∈ B, ∃ o, H m = some o) ∧ XcI K C ∧ Zc (.ref C) (some dd) p.2 ∧ (∃ vs, p.2.data = .fields vs) ∧ dd ≠ S.a ∧
  H dd = some (.xd (xFs c i)) ∧ (c = "InvalidPart" ∨ c = "InvalidTrait") ∧ ∀ H', Ext K S H H' → Q (.int i) H'
def ifB : Stmt → List Stmt
  | .If _ b _ _ => b
  | _ => []
section
local macro_rules | `(tactic| wtm_at "ex") => `(tactic| fail)
theorem sem_pinIn {X : Cx} {S : Sr} {B O : List Addr} {H0 H : Hp} {σ : L2.St} {Γ : List E} {a C dd : Addr} {oe : Obj} {c : Str} {i : Int} {es : List Expr} {ss : List Str} {p1 p2 p3 p4 : Pos} {Q : Bool → Hp → Prop} (st : StOk X.K S B O H0 H σ Γ) (hp : (a, oe) ∈ X.pn) (T : XcI X.K C) (hz : Zc (.ref C) (some dd) oe) (hf : ∃ vs, oe.data = .fields vs)
    {j : Nat} {x : Str} (hN : X.N[j]? = some x) (hv : Vis X.env.scope x) (hσ : σ[j]? = some (some (.ref a))) (hd : H dd = some (.xd (xFs c i))) (ht : txts (ss.map D.str) = some ss) (hl : EX X (.List es p3) Γ fun d => d = .lst (ss.map D.str)) (k : ∀ H', Ext X.K S H H' → Q (decide (c ∈ ss)) H')
    (h1 : (x == ("__debug__" : Str)) = false := by decide) (h2 : (x == ("__classdict__" : Str)) = false := by decide) (hm : behindInMarks .In (.List es p3) = false := by first | exact nomark _ | rfl) (hb : attributeBase (.Name x p1) "code" X.env (eval (.Name x p1) X.env) = eval (.Name x p1) X.env := by rfl) : semT X (.Compare (.Attribute (.Name x p1) "code" p2) [.In] [.List es p3] p4) σ H Q := by
  refine semT_of (pt_cmpR op_sem (pe_pin hp T.x T.n1 hz hf (pe_var hN hv h1 h2) hb) pe_sem hm) ?_
  refine ⟨.ref a, hσ, rfl, rfl, dd, xFs c i, .str c, rfl, hd, rfl, ?_⟩
  refine hl S B O H0 H σ st _ fun v2 d2 H2 e2 r2 p2 => ?_
  subst p2
  obtain ⟨r, hr, hq⟩ := od_in (X := X) S B O H0 H2 σ Γ (asB fun b => b = decide (c ∈ ss)) (.str c) v2 (.str c) (.lst (ss.map D.str)) (st.to e2) (.str c) r2 (o_in ht rfl)
  refine semO_of hr (hq _ fun z dz H3 e3 r3 p3 => ?_)
  obtain ⟨b, rfl, rfl, p3⟩ := asB_use r3 p3
  exact ⟨b, rfl, by rw [p3]; exact k H3 (e2.trans e3)⟩
end
theorem txts_map : ∀ ss : List Str, txts (ss.map D.str) = some ss
  | [] => rfl
  | s :: r => by
    show (txts (r.map D.str)).map (s :: ·) = _
    rw [txts_map r]; rfl
def FieldOk (P : Program) (w : World) (K : PySem.W.Frag) (mg : Str → Option Value) (base : Heap) (k : Nat) : Prop := ∃ (f : Addr) (fd : FuncData), FnQ P w K mg base k f fd ["_law_e"] (spField K) ∧ mg "_law_field" = some (.ref f) ∧ PySem.W.keepIn K (.ref f) = true ∧ Binds K fd ["_law_e"] []
section
variable {P : Program} {w : World} {K : PySem.W.Frag} {mg : Str → Option Value} {base : Heap}
set_option maxHeartbeats 8000000 in
theorem ok_field (T : Top K mg "_law_field" sField ["_law_e"]) : FieldOk P w K mg base 1 := by
  obtain ⟨f, fd, F, hm, hb⟩ := T.ex
  refine ⟨f, fd, ?_, hm, F.kp, hb⟩
  obtain ⟨oc, od, kV, doc, pm, an, cdv, ct, osl, rfl, lk, hcd⟩ := F.ex
  refine fn_ofQ lk hcd scField (fun p vs H Q E h => by rw [h.1]; rfl) fun A outer s H vs Q Ex p hr hs => ?_
  obtain ⟨rfl, S, B, C, dd, c, i, mS, lv, hB, XC, hz, hf, nd, hd, hc, hQ⟩ := hs
  refine ⟨_, pss_cons ps_sem (pss_cons ps_sem pss_sem), ?_⟩
  have hX : (L2H.cxH CX0 P w K mg base ["_law_e"] "_law_field" (defScope sField) f cdv A outer s H Ex p).N = (["_law_e"] : List Str) := rfl
  have st : StOk K S B [] H H (L2.start ["_law_e"] [V.ref p.1]) [.no] := st_no (σ := L2.start ["_law_e"] [V.ref p.1]) mS lv hB
  have nm : p ∈ (L2H.cxH CX0 P w K mg base ["_law_e"] "_law_field" (defScope sField) f cdv A outer s H Ex p).pn := List.mem_singleton.mpr rfl
  refine semS_of (ps_if pt_sem pss_sem pss_sem) ?_
  refine sem_pinIn (i := i) (c := c) (dd := dd) (j := 0) (ss := ["InvalidName", "DuplicateName", "UnknownName"]) st (a := p.1) (oe := p.2) nm XC hz hf rfl (.inl rfl) rfl hd rfl (by (repeat wtm_at "go"); rfl) fun H1 e1 => ?_
  have st1 := st.to e1
  have hd1 : H1 dd = some (.xd (xFs c i)) := e1.keep dd _ nd hd
  have n1 : decide (c ∈ (["InvalidName", "DuplicateName", "UnknownName"] : List Str)) = false := by rcases hc with rfl | rfl <;> decide
  rw [n1]
  refine iteF (semSs_of pss_nil ?_)
  refine semS_of (ps_if pt_sem pss_sem pss_sem) ?_
  refine sem_pinIn (i := i) (c := c) (dd := dd) (j := 0) (ss := ["InvalidPart", "InvalidTrait", "InvalidRow", "InvalidWave", "InvalidSight", "InvalidDrawing"]) st1 (a := p.1) (oe := p.2) nm XC hz hf rfl (.inl rfl) rfl hd1 rfl (by (repeat wtm_at "go"); rfl) fun H2 e2 => ?_
  have hd2 : H2 dd = some (.xd (xFs c i)) := e2.keep dd _ nd hd1
  have n2 : decide (c ∈ (["InvalidPart", "InvalidTrait", "InvalidRow", "InvalidWave", "InvalidSight", "InvalidDrawing"] : List Str)) = true := by rcases hc with rfl | rfl <;> decide
  rw [n2]
  refine iteT (semSs_of (pss_one (ps_ret (pe_pin nm XC.x XC.n2 hz hf (pe_var (i := 0) rfl (.inl rfl))))) ?_)
  exact ⟨.ref p.1, rfl, rfl, rfl, dd, xFs c i, .int i, rfl, hd2, rfl, hQ H2 (e1.trans e2)⟩
end
end G
set_option Elab.async false
set_option linter.all false
set_option maxRecDepth 100000
set_option maxHeartbeats 4000000
namespace G
open PySem PySem.Spec PyProof.Rows L2
local macro_rules | `(tactic| wtm_at "vis") => `(tactic| first | exact Or.inl rfl | exact Or.inr (Or.inl rfl) | exact Or.inr (Or.inr rfl))
local macro_rules | `(tactic| wtm_at "cal") => `(tactic| first | assumption | exact CallOk.blk (by assumption) | exact CallOkK.blk (by assumption) | exact ConstOk.blk (by assumption))
local macro_rules | `(tactic| wtm_at "nm") => `(tactic| first
  | refine ex_name 0 (by assumption) (by with_reducible rfl) (by with_reducible rfl) (by wtm_at "vis") ?_
  | refine ex_name 1 (by assumption) (by with_reducible rfl) (by with_reducible rfl) (by wtm_at "vis") ?_
  | refine ex_name 2 (by assumption) (by with_reducible rfl) (by with_reducible rfl) (by wtm_at "vis") ?_
  | refine ex_name 3 (by assumption) (by with_reducible rfl) (by with_reducible rfl) (by wtm_at "vis") ?_
  | refine ex_name 4 (by assumption) (by with_reducible rfl) (by with_reducible rfl) (by wtm_at "vis") ?_
  | refine ex_name 5 (by assumption) (by with_reducible rfl) (by with_reducible rfl) (by wtm_at "vis") ?_
  | refine ex_name 6 (by assumption) (by with_reducible rfl) (by with_reducible rfl) (by wtm_at "vis") ?_
  | refine ex_name 7 (by assumption) (by with_reducible rfl) (by with_reducible rfl) (by wtm_at "vis") ?_
  | refine ex_name 8 (by assumption) (by with_reducible rfl) (by with_reducible rfl) (by wtm_at "vis") ?_
  | refine ex_name 9 (by assumption) (by with_reducible rfl) (by with_reducible rfl) (by wtm_at "vis") ?_
  | refine ex_name 10 (by assumption) (by with_reducible rfl) (by with_reducible rfl) (by wtm_at "vis") ?_
  | refine ex_name 11 (by assumption) (by with_reducible rfl) (by with_reducible rfl) (by wtm_at "vis") ?_
  | refine ex_name 12 (by assumption) (by with_reducible rfl) (by with_reducible rfl) (by wtm_at "vis") ?_
  | refine ex_name 13 (by assumption) (by with_reducible rfl) (by with_reducible rfl) (by wtm_at "vis") ?_
  | refine ex_name 14 (by assumption) (by with_reducible rfl) (by with_reducible rfl) (by wtm_at "vis") ?_
  | refine ex_name 15 (by assumption) (by with_reducible rfl) (by with_reducible rfl) (by wtm_at "vis") ?_
  | refine ex_name 16 (by assumption) (by with_reducible rfl) (by with_reducible rfl) (by wtm_at "vis") ?_
  | refine ex_name 17 (by assumption) (by with_reducible rfl) (by with_reducible rfl) (by wtm_at "vis") ?_
  | refine ex_name 18 (by assumption) (by with_reducible rfl) (by with_reducible rfl) (by wtm_at "vis") ?_
  | refine ex_name 19 (by assumption) (by with_reducible rfl) (by with_reducible rfl) (by wtm_at "vis") ?_
  | refine ex_name 20 (by assumption) (by with_reducible rfl) (by with_reducible rfl) (by wtm_at "vis") ?_
  | refine ex_name 21 (by assumption) (by with_reducible rfl) (by with_reducible rfl) (by wtm_at "vis") ?_
  | refine ex_name 22 (by assumption) (by with_reducible rfl) (by with_reducible rfl) (by wtm_at "vis") ?_
  | refine ex_name 23 (by assumption) (by with_reducible rfl) (by with_reducible rfl) (by wtm_at "vis") ?_)
local macro_rules | `(tactic| wtm_at "kb") => `(tactic| first | exact kb0 | exact kb1 | exact kb2 | exact kb3 | exact kb4 | exact kb5 | exact kb6 | exact kb7 | exact kb8 | exact kb9 | exact kb10 | exact kb11 | exact kb12 | exact kb13 | exact kb14 | exact kb15 | exact kb16 | exact kb17 | exact kb18 | exact kb19 | exact kb20 | exact kb21 | exact kb22 | exact kb23 | exact kb24 | exact kb25 | exact kb26 | exact kb27 | exact kb28 | exact kb29)
local macro_rules | `(tactic| wtm_at "loc") => `(tactic| first | exact Or.inl rfl | exact Or.inr rfl)
local macro_rules | `(tactic| wtm_at "set") => `(tactic| first
  | refine s_set 0 (by assumption) (by assumption) (by with_reducible rfl) (by wtm_at "loc") ?_
  | refine s_set 1 (by assumption) (by assumption) (by with_reducible rfl) (by wtm_at "loc") ?_
  | refine s_set 2 (by assumption) (by assumption) (by with_reducible rfl) (by wtm_at "loc") ?_
  | refine s_set 3 (by assumption) (by assumption) (by with_reducible rfl) (by wtm_at "loc") ?_
  | refine s_set 4 (by assumption) (by assumption) (by with_reducible rfl) (by wtm_at "loc") ?_
  | refine s_set 5 (by assumption) (by assumption) (by with_reducible rfl) (by wtm_at "loc") ?_
  | refine s_set 6 (by assumption) (by assumption) (by with_reducible rfl) (by wtm_at "loc") ?_
  | refine s_set 7 (by assumption) (by assumption) (by with_reducible rfl) (by wtm_at "loc") ?_
  | refine s_set 8 (by assumption) (by assumption) (by with_reducible rfl) (by wtm_at "loc") ?_
  | refine s_set 9 (by assumption) (by assumption) (by with_reducible rfl) (by wtm_at "loc") ?_
  | refine s_set 10 (by assumption) (by assumption) (by with_reducible rfl) (by wtm_at "loc") ?_
  | refine s_set 11 (by assumption) (by assumption) (by with_reducible rfl) (by wtm_at "loc") ?_
  | refine s_set 12 (by assumption) (by assumption) (by with_reducible rfl) (by wtm_at "loc") ?_
  | refine s_set 13 (by assumption) (by assumption) (by with_reducible rfl) (by wtm_at "loc") ?_
  | refine s_set 14 (by assumption) (by assumption) (by with_reducible rfl) (by wtm_at "loc") ?_
  | refine s_set 15 (by assumption) (by assumption) (by with_reducible rfl) (by wtm_at "loc") ?_
  | refine s_set 16 (by assumption) (by assumption) (by with_reducible rfl) (by wtm_at "loc") ?_
  | refine s_set 17 (by assumption) (by assumption) (by with_reducible rfl) (by wtm_at "loc") ?_
  | refine s_set 18 (by assumption) (by assumption) (by with_reducible rfl) (by wtm_at "loc") ?_
  | refine s_set 19 (by assumption) (by assumption) (by with_reducible rfl) (by wtm_at "loc") ?_
  | refine s_set 20 (by assumption) (by assumption) (by with_reducible rfl) (by wtm_at "loc") ?_
  | refine s_set 21 (by assumption) (by assumption) (by with_reducible rfl) (by wtm_at "loc") ?_
  | refine s_set 22 (by assumption) (by assumption) (by with_reducible rfl) (by wtm_at "loc") ?_
  | refine s_set 23 (by assumption) (by assumption) (by with_reducible rfl) (by wtm_at "loc") ?_)
local macro_rules | `(tactic| wtm_at "ex") => `(tactic| first
  | ((with_reducible show EX _ (PySem.Expr.Name "int" _) _ _); refine ex_ty (by assumption) (by rfl) bt_int ?_)
  | ((with_reducible show EX _ (PySem.Expr.Name "str" _) _ _); refine ex_ty (by assumption) (by rfl) bt_str ?_)
  | ((with_reducible show EX _ (PySem.Expr.Name "bool" _) _ _); refine ex_ty (by assumption) (by rfl) bt_bool ?_)
  | ((with_reducible show EX _ (PySem.Expr.Name "list" _) _ _); refine ex_ty (by assumption) (by rfl) bt_list ?_)
  | ((with_reducible show EX _ (PySem.Expr.Name "tuple" _) _ _); refine ex_ty (by assumption) (by rfl) bt_tuple ?_)
  | ((with_reducible show EX _ (PySem.Expr.Name _ _) _ _); first | wtm_at "nm" | refine ex_glob (by wtm_at "cal") (by rfl) ?_)
  | ((with_reducible show EX _ (PySem.Expr.Constant (PySem.Const.int _) _ _) _ _); refine ex_int ?_)
  | ((with_reducible show EX _ (PySem.Expr.Constant (PySem.Const.str _) _ _) _ _); refine ex_str ?_)
  | ((with_reducible show EX _ (PySem.Expr.Constant (PySem.Const.bool _) _ _) _ _); refine ex_bl ?_)
  | ((with_reducible show EX _ (PySem.Expr.Constant PySem.Const.none _ _) _ _); refine ex_non ?_)
  | ((with_reducible show EX _ (PySem.Expr.BinOp _ PySem.Operator.Add _ _) _ _); refine ex_bin od_add ?_)
  | ((with_reducible show EX _ (PySem.Expr.BinOp _ PySem.Operator.Sub _ _) _ _); refine ex_bin od_sub ?_)
  | ((with_reducible show EX _ (PySem.Expr.BinOp _ PySem.Operator.Mult _ _) _ _); refine ex_bin od_mul ?_)
  | ((with_reducible show EX _ (PySem.Expr.BinOp _ PySem.Operator.Mod _ _) _ _); refine ex_bin od_mod ?_)
  | ((with_reducible show EX _ (PySem.Expr.BinOp _ PySem.Operator.FloorDiv _ _) _ _); refine ex_bin od_fdiv ?_)
  | ((with_reducible show EX _ (PySem.Expr.BinOp _ PySem.Operator.Pow _ _) _ _); refine ex_bin od_pow ?_)
  | ((with_reducible show EX _ (PySem.Expr.Compare _ [PySem.CmpOp.Eq] _ _) _ _); refine ex_cmp od_eq ?_)
  | ((with_reducible show EX _ (PySem.Expr.Compare _ [PySem.CmpOp.NotEq] _ _) _ _); refine ex_cmp od_ne ?_)
  | ((with_reducible show EX _ (PySem.Expr.Compare _ [PySem.CmpOp.Lt] _ _) _ _); refine ex_cmp od_lt ?_)
  | ((with_reducible show EX _ (PySem.Expr.Compare _ [PySem.CmpOp.LtE] _ _) _ _); refine ex_cmp od_le ?_)
  | ((with_reducible show EX _ (PySem.Expr.Compare _ [PySem.CmpOp.Gt] _ _) _ _); refine ex_cmp od_gt ?_)
  | ((with_reducible show EX _ (PySem.Expr.Compare _ [PySem.CmpOp.GtE] _ _) _ _); refine ex_cmp od_ge ?_)
  | ((with_reducible show EX _ (PySem.Expr.Compare _ [PySem.CmpOp.Is] _ _) _ _); refine ex_cmp od_is ?_)
  | ((with_reducible show EX _ (PySem.Expr.Compare _ [PySem.CmpOp.IsNot] _ _) _ _); refine ex_cmp od_isnot ?_)
  | ((with_reducible show EX _ (PySem.Expr.Compare _ [PySem.CmpOp.LtE, PySem.CmpOp.LtE] _ _) _ _); refine ex_chain od_le od_le ?_)
  | ((with_reducible show EX _ (PySem.Expr.UnaryOp PySem.UnaryOp.USub _ _) _ _); refine ex_neg ?_)
  | ((with_reducible show EX _ (PySem.Expr.UnaryOp PySem.UnaryOp.Not _ _) _ _); refine ex_not ?_)
  | ((with_reducible show EX _ (PySem.Expr.BoolOp PySem.BoolOp.And (_ :: _ :: _) _) _ _); refine ex_and ?_)
  | ((with_reducible show EX _ (PySem.Expr.BoolOp PySem.BoolOp.Or (_ :: _ :: _) _) _ _); refine ex_or ?_)
  | ((with_reducible show EX _ (PySem.Expr.BoolOp _ [_] _) _ _); refine ex_one ?_)
  | ((with_reducible show EX _ (PySem.Expr.IfExp _ _ _ _) _ _); refine ex_ifExp ?_)
  | ((with_reducible show EX _ (PySem.Expr.Tuple _ _ _) _ _); refine ex_tup ?_)
  | ((with_reducible show EX _ (PySem.Expr.List _ _) _ _); refine ex_lst ?_)
  | ((with_reducible show AX _ (_ :: _) _ _); refine ax_cons ?_)
  | ((with_reducible show AX _ [] _ _); refine ax_nil ?_)
  | ((with_reducible show KX _ (_ :: _) _ _); refine kx_cons ?_)
  | ((with_reducible show KX _ [] _ _); refine kx_nil ?_)
  | ((with_reducible show EX _ (PySem.Expr.Call (PySem.Expr.Name "isinstance" _) [_, PySem.Expr.Tuple [_, _] _ _] [] _) _ _); refine ex_isi2 (by assumption) (by rfl) bt_isi ?_)
  | ((with_reducible show EX _ (PySem.Expr.Call (PySem.Expr.Name "isinstance" _) _ [] _) _ _); refine ex_bi bi_isi (by assumption) (by rfl) bt_isi ?_)
  | ((with_reducible show EX _ (PySem.Expr.Call (PySem.Expr.Name "len" _) _ [] _) _ _); refine ex_bi bi_len (by assumption) (by rfl) bt_len ?_)
  | ((with_reducible show EX _ (PySem.Expr.Call (PySem.Expr.Name "abs" _) _ [] _) _ _); refine ex_bi bi_abs (by assumption) (by rfl) bt_abs ?_)
  | ((with_reducible show EX _ (PySem.Expr.Call (PySem.Expr.Name "all" _) _ [] _) _ _); refine ex_bi (bi_all rfl) (by assumption) (by rfl) bt_all ?_)
  | ((with_reducible show EX _ (PySem.Expr.Call (PySem.Expr.Name "int" _) _ [] _) _ _); refine ex_bt bi_int (by assumption) (by rfl) bt_int ?_)
  | ((with_reducible show EX _ (PySem.Expr.Call (PySem.Expr.Name "str" _) _ [] _) _ _); refine ex_bt bi_str (by assumption) (by rfl) bt_str ?_)
  | ((with_reducible show EX _ (PySem.Expr.Call (PySem.Expr.Name "list" _) _ [] _) _ _); refine ex_bt bi_list (by assumption) (by rfl) bt_list ?_)
  | ((with_reducible show EX _ (PySem.Expr.Call (PySem.Expr.Name "tuple" _) _ [] _) _ _); refine ex_bt bi_tuple (by assumption) (by rfl) bt_tuple ?_)
  | ((with_reducible show EX _ (PySem.Expr.Call (PySem.Expr.Name "gcd" _) _ [] _) _ _); refine ex_bf bi_gcd (by assumption) (by rfl) ?_)
  | ((with_reducible show EX _ (PySem.Expr.Call (PySem.Expr.Name _ _) (_ :: _) [] _) _ _); refine ex_call (by wtm_at "cal") (by rfl) ?_)
  | ((with_reducible show EX _ (PySem.Expr.Call (PySem.Expr.Name _ _) [] (_ :: _) _) _ _); refine ex_callK0 (by wtm_at "cal") (by rfl) ?_)
  | ((with_reducible show EX _ (PySem.Expr.Call (PySem.Expr.Name _ _) (_ :: _) (_ :: _) _) _ _); refine ex_callK (by wtm_at "cal") (by rfl) ?_)
  | ((with_reducible show EX _ (PySem.Expr.Subscript _ _ _) _ _); refine ex_ix ?_))
local macro_rules | `(tactic| wtm_at "tx") => `(tactic| first
  | ((with_reducible show TX _ (PySem.Expr.Compare _ [PySem.CmpOp.Eq] _ _) _ _); refine tx_cmp od_eq ?_)
  | ((with_reducible show TX _ (PySem.Expr.Compare _ [PySem.CmpOp.NotEq] _ _) _ _); refine tx_cmp od_ne ?_)
  | ((with_reducible show TX _ (PySem.Expr.Compare _ [PySem.CmpOp.Lt] _ _) _ _); refine tx_cmp od_lt ?_)
  | ((with_reducible show TX _ (PySem.Expr.Compare _ [PySem.CmpOp.LtE] _ _) _ _); refine tx_cmp od_le ?_)
  | ((with_reducible show TX _ (PySem.Expr.Compare _ [PySem.CmpOp.Gt] _ _) _ _); refine tx_cmp od_gt ?_)
  | ((with_reducible show TX _ (PySem.Expr.Compare _ [PySem.CmpOp.GtE] _ _) _ _); refine tx_cmp od_ge ?_)
  | ((with_reducible show TX _ (PySem.Expr.Compare _ [PySem.CmpOp.Is] _ _) _ _); refine tx_cmp od_is ?_)
  | ((with_reducible show TX _ (PySem.Expr.Compare _ [PySem.CmpOp.IsNot] _ _) _ _); refine tx_cmp od_isnot ?_)
  | ((with_reducible show TX _ (PySem.Expr.Compare _ [PySem.CmpOp.LtE, PySem.CmpOp.LtE] _ _) _ _); refine tx_chain od_le od_le ?_)
  | ((with_reducible show TX _ (PySem.Expr.UnaryOp PySem.UnaryOp.Not _ _) _ _); refine tx_not ?_)
  | ((with_reducible show TX _ (PySem.Expr.BoolOp _ _ _) _ _); refine tx_w ?_)
  | ((with_reducible show TW _ (PySem.Expr.BoolOp PySem.BoolOp.And (_ :: _ :: _) _) _ _); refine tw_and ?_)
  | ((with_reducible show TW _ (PySem.Expr.BoolOp PySem.BoolOp.Or (_ :: _ :: _) _) _ _); refine tw_or ?_)
  | ((with_reducible show TW _ (PySem.Expr.BoolOp PySem.BoolOp.And [_] _) _ _); refine tw_and1 ?_)
  | ((with_reducible show TW _ (PySem.Expr.BoolOp PySem.BoolOp.Or [_] _) _ _); refine tw_or1 ?_)
  | ((with_reducible show TX _ _ _ _); refine tx_truth ?_))
local macro_rules | `(tactic| wtm_at "st") => `(tactic| first
  | ((with_reducible show SX _ [_] _ _); refine sx_one ?_)
  | ((with_reducible show SX _ (_ :: _) _ _); refine sx_cons ?_)
  | ((with_reducible show SX _ [] _ _); refine sx_nil ?_)
  | ((with_reducible show S1 _ (PySem.Stmt.Return (some _) _) _ _); refine s_ret ?_)
  | ((with_reducible show S1 _ (PySem.Stmt.If _ _ _ _) _ _); refine s_if ?_)
  | ((with_reducible show S1 _ (PySem.Stmt.Expr _ _) _ _); refine s_expr ?_)
  | ((with_reducible show S1 _ (PySem.Stmt.Pass _) _ _); refine s_pass ?_)
  | ((with_reducible show S1 _ (PySem.Stmt.Assign [PySem.Expr.Name _ _] _ _) _ _); wtm_at "set"))
local macro_rules | `(tactic| wtm_at "op") => `(tactic| with_reducible first
  | refine o_add ?_
  | refine o_sub ?_
  | refine o_lt ?_
  | refine o_le ?_
  | refine o_gt ?_
  | refine o_ge ?_
  | refine o_is ?_
  | refine o_isnot ?_
  | refine o_lenl ?_
  | refine o_lent ?_
  | refine o_abs ?_
  | refine o_int ?_
  | refine o_listl ?_
  | refine o_listt ?_
  | refine o_tupl ?_
  | refine o_tupt ?_
  | refine o_all ?_
  | refine o_gcd ?_
  | refine o_asB ?_
  | refine o_asI ?_
  | refine o_asL ?_
  | refine o_asT ?_
  | refine o_truB ?_
  | refine o_truN ?_
  | refine o_truL ?_
  | refine o_truT ?_
  | refine if_t ?_
  | refine if_f ?_
  | refine if_nf ?_
  | refine if_nt ?_)
local macro_rules | `(tactic| wtm_at "op2") => `(tactic| first
  | ((with_reducible show if _ = true then _ else _); first | refine if_ev_t rfl ?_ | refine if_ev_f rfl ?_)
  | ((with_reducible show wIsi [_, D.ty _] _); refine o_isi rfl (by wtm_at "kb") ?_)
  | ((with_reducible show wEq _ _ _); refine o_eq rfl ?_)
  | ((with_reducible show wNe _ _ _); refine o_ne rfl ?_)
  | ((with_reducible show wIx (D.lst _) (D.int _) _); refine o_ixl rfl ?_)
  | ((with_reducible show wIx (D.tup _) (D.int _) _); refine o_ixt rfl ?_)
  | ((with_reducible show wPow _ _ _); refine o_pow ⟨by decide, by decide, by decide⟩ ?_)
  | ((with_reducible show (_ ≤ 100000) ∧ _); refine ⟨Nat.le_of_ble_eq_true rfl, ?_⟩)
  | ((with_reducible show ∃ n1 n2 t k1 k2, _); refine o_isi2 rfl (by wtm_at "kb") (by wtm_at "kb") ?_))
local macro_rules | `(tactic| wtm_at "go") => `(tactic| first | wtm_at "ex" | wtm_at "op" | wtm_at "op2" | wtm_at "tx" | wtm_at "st")
local macro_rules | `(tactic| wtm_at "ex") => `(tactic| first
  | ((with_reducible show EX _ (PySem.Expr.Compare _ [PySem.CmpOp.In] _ _) _ _); refine ex_cmp od_in ?_)
  | ((with_reducible show EX _ (PySem.Expr.Attribute _ _ _) _ _); refine ex_fld ?_)
  | ((with_reducible show EX _ (PySem.Expr.Call (PySem.Expr.Name _ _) (_ :: _) [] _) _ _); refine ex_make (by assumption) (by rfl) ?_)
  | ((with_reducible show EX _ (PySem.Expr.Call (PySem.Expr.Name _ _) [] [] _) _ _); first | refine ex_make0 (by assumption) (by rfl) ?_ | refine ex_call0 (by wtm_at "cal") (by rfl) ?_))
local macro_rules | `(tactic| wtm_at "op2") => `(tactic| first
  | ((with_reducible show wIn (D.str _) (D.lst _) _); refine o_in rfl ?_))
local macro_rules | `(tactic| wtm_at "tx") => `(tactic| first
  | ((with_reducible show TX _ (PySem.Expr.Compare _ [PySem.CmpOp.In] _ _) _ _); refine tx_cmp od_in ?_))
/-- what the lambda that _law_why got may let out -/
def EchW (K : PySem.W.Frag) (CP CT : Addr) (S : Sr) (H1 : Hp) (PD : D → Prop) : XK := fun cls d H' => ∃ (dd : Addr) (c : Str) (i : Int), d = some dd ∧ Ext K S H1 H' ∧ dd ≠ S.a ∧ H' dd = some (.xd (xFs c i)) ∧ ((c = "InvalidPart" ∧ cls = .ref CP) ∨ (c = "InvalidTrait" ∧ cls = .ref CT)) ∧ PD (.tup [.str c, .int i])
/-- what _law_why makes of the lambda's reading -/
def TWhy (K : PySem.W.Frag) (CP CT : Addr) : (XK → Hp → VK → Prop) → Hp → VK → Prop := fun tl H Q => ∃ (S : Sr) (B : List Addr) (PD : D → Prop), S.a ∈ B ∧ Live S H ∧ SrcOk K S H ∧ (∀ m ∈ B, ∃ o, H m = some o) ∧ (∀ v d H', Ext K S H H' → Rep K S B H' v d → PD d → Q v H') ∧
  ∀ H1, Ext K S H H1 → ∀ Q1 : VK, (∀ v H', Ext K S H1 H' → PD (.tup [.str "value", .non]) → Q1 v H') → tl (EchW K CP CT S H1 PD) H1 Q1
theorem src_ne {K : PySem.W.Frag} {S : Sr} {H : Hp} {b : Addr} {o : HO} (h : SrcOk K S H) (e : H b = some o) (n : ∀ xs, o ≠ .lst xs) : b ≠ S.a := by
  obtain ⟨i, c, s, t, ns, h1, h2, h3⟩ := h
  intro z
  rw [z, h1] at e
  exact n _ (Option.some.inj e).symm
/-- the handler's suite -/
def tsWhy (K : PySem.W.Frag) (CP CT : Addr) : Addr → Value → Option Addr → TS := fun a cls d Dn σ H => σ.length = 3 → ∃ (S : Sr) (B : List Addr) (dd : Addr) (c : Str) (i : Int), S.a ∈ B ∧ Live S H ∧ (∀ m ∈ B, ∃ o, H m = some o) ∧ d = some dd ∧ dd ≠ S.a ∧ H dd = some (.xd (xFs c i)) ∧
  ((c = "InvalidPart" ∧ cls = .ref CP) ∨ (c = "InvalidTrait" ∧ cls = .ref CT)) ∧ σ[2]? = some (some (.ref a)) ∧ ∀ v H', Ext K S H H' → Rep K S B H' v (.tup [.str c, .int i]) → Dn.nx (σ.set 1 (some v)) H'
def hdB : List ExceptHandler → List Stmt
  | .ExceptHandler _ _ b _ :: _ => b
  | [] => []
def tryH : Stmt → List ExceptHandler
  | .Try _ h _ _ _ => h
  | _ => []
abbrev sHand : Stmt := (hdB (tryH ((defBody sWhy).getD 1 (.Pass ⟨0, 0, 0, 0⟩)))).getD 0 (.Pass ⟨0, 0, 0, 0⟩)
set_option maxHeartbeats 16000000 in
theorem suite_why {X : Cx} {CP CT : Addr} {k : Nat} (hf1 : FieldOk X.prog X.w X.K X.mg X.base k) (hr : Room k X.A) (XP : XcI X.K CP) (XT : XcI X.K CT) (hN : X.N = nWhy) (hs : X.env.scope = defScope sWhy) (a : Addr) (oe : Obj) (cls : Value) (d : Option Addr) (pn : List (Addr × Obj)) (hz : Zc cls d oe) (hd : ∃ vs, oe.data = .fields vs) :
    PSs (X.suite a ((a, oe) :: pn)) [sHand] (tsWhy X.K CP CT a cls d) := by
  obtain ⟨f, fd, F, hm, hk, hb⟩ := hf1
  refine ⟨fun pins s σ H Dn I h => ?_⟩
  have len : σ.length = 3 := by rw [I.len]; show X.N.length = 3; rw [hN]; rfl
  obtain ⟨S, B, dd, c, i, mS, lv, hB, rfl, nd, hdd, hc, hσ, hQ⟩ := h len
  have hv : Vis X.env.scope "_law_e" := by rw [hs]; exact .inl rfl
  have hN2 : X.N[2]? = some ("_law_e" : Str) := by rw [hN]; rfl
  have nm : (a, oe) ∈ (X.suite a ((a, oe) :: pn)).pn := List.mem_cons_self
  have main : ∀ C, cls = .ref C → XcI X.K C → (c = "InvalidPart" ∨ c = "InvalidTrait") → wpAny (model X.prog X.w) (X.suite a ((a, oe) :: pn)).A (execs [sHand] X.env) (SP (X.suite a ((a, oe) :: pn)) pins Dn) (X.suite a ((a, oe) :: pn)).xe s := fun C ec XC hc2 => by
    subst ec
    refine (pss_one (ps_set (X := X.suite a ((a, oe) :: pn)) (i := 1) (x := "_law_told") (by show X.N.Nodup; rw [hN]; decide) (by show X.N[1]? = _; rw [hN]; rfl) (by show Loc X.env.scope _; rw [hs]; exact .inl rfl)
      (pe_tup (pa_cons (pe_pin nm XC.x XC.n1 hz hd (pe_var (i := 2) hN2 hv)) (pa_cons (pe_callQ (E := fun _ _ _ _ => False) F ⟨(L2H.roomH_of hr).dp, (L2H.roomH_of hr).un⟩ nm (by show X.env.scope.names.lookup _ = _; rw [hs]; rfl) hm hk hb (pa_cons (pe_var (i := 2) hN2 hv) pa_nil)) pa_nil)))
      (hf := .inr (by show X.env.scope.names.lookup _ = _; rw [hs]; rfl)))).run pins s σ H Dn I ?_
    refine ⟨.ref a, hσ, rfl, rfl, dd, xFs c i, .str c, rfl, hdd, rfl, ?_⟩
    refine ⟨.ref a, hσ, rfl, S, B, C, dd, c, i, mS, lv, hB, XC, hz, hd, nd, hdd, hc2, fun H' e => ⟨(by show (2 : Nat) ≤ sizeLine; decide), fun p np => ?_⟩⟩
    have st : StOk X.K S B [] H H σ (List.replicate σ.length .no) := st_no mS lv hB
    refine hQ (.ref p) _ (e.trans (.new np)) ?_
    have r := rep_tup (p := p) (st.to e) (vs := [.str c, .int i]) (ds := [.str c, .int i]) (.cons (.str c) (.cons (.int i) .nil)) np
    rw [List.append_nil] at r
    exact r
  rcases hc with ⟨e1, e2⟩ | ⟨e1, e2⟩
  · exact main CP e2 XP (.inl e1)
  · exact main CT e2 XT (.inr e1)

theorem occ {K : PySem.W.Frag} {S : Sr} {B : List Addr} {H H' : Hp} (m : S.a ∈ B) (l : Live S H) (b : ∀ m ∈ B, ∃ o, H m = some o) (e : Ext K S H H') : ∀ m ∈ B, ∃ o, H' m = some o := fun x hx => by
  by_cases h : x = S.a
  · rw [h]
    exact (e.live l).1
  · obtain ⟨o, ho⟩ := b x hx
    exact ⟨o, e.keep x o h ho⟩
set_option maxHeartbeats 16000000 in
theorem why_gives {X : Cx} {g CP CT aF aM : Addr} {cdg : Value} {q : Str} {k : Nat} (hf1 : FieldOk X.prog X.w X.K X.mg X.base k) (hr : Room (k + 1) X.A) (XP : XcI X.K CP) (XT : XcI X.K CT) (gF : X.mg "FewError" = some (.ref aF)) (gM : X.mg "Missing" = some (.ref aM))
    (xP : PySem.W.exmAny X.K (.ref CP) [.ref aF, .ref aM] = some true) (xT : PySem.W.exmAny X.K (.ref CT) [.ref aF, .ref aM] = some true) : LamX.GivesTo X nWhy "_law_why" (defScope sWhy) g cdg (defBody sWhy) "_law_ask7" q (TWhy X.K CP CT) := by
  intro f c' s H Q tl act hc h
  obtain ⟨S, B, PD, mS, lv, so, hB, hQ, hT⟩ := h
  refine ⟨_, pss_cons ps_sem (pss_cons ps_sem (pss_one ps_sem)), ?_⟩
  have st : ∀ σ, StOk X.K S B [] H H σ (List.replicate σ.length .no) := fun σ => st_no mS lv hB
  have nc : c' ≠ S.a := src_ne so hc (fun xs z => by unfold LamX.CodeO at z; cases z)
  refine semS_of (ps_set (i := 1) scWhy.nd rfl (.inl rfl) (pe_tup (pa_cons pe_str (pa_cons pe_non pa_nil))) (hf := .inr rfl)) ?_
  refine ⟨(by show (2 : Nat) ≤ sizeLine; decide), fun p np => ?_⟩
  have e1 : Ext X.K S H (upd H p (.tup [.str "value", .non])) := .new np
  have r1 : Rep X.K S B (upd H p (.tup [.str "value", .non])) (.ref p) (.tup [.str "value", .non]) := by
    have r := rep_tup (p := p) (st []) (vs := [.str "value", .non]) (ds := [.str "value", .non]) (.cons (.str "value") (.cons .non .nil)) np
    rw [List.append_nil] at r
    exact r
  generalize upd H p (.tup [.str "value", .non]) = H1 at e1 r1
  have lv1 := e1.live lv
  have tell : ∀ (σ : L2.St) (v : V) (d : D) (H' : Hp), σ[1]? = some (some v) → Ext X.K S H H' → Rep X.K S B H' v d → PD d →
      semS ((cxOf C8.CX0 X.prog X.w X.K X.mg X.base nWhy "_law_why" (defScope sWhy) g cdg X.A X.stack s H C8.E0).nox) ((defBody sWhy).getD 2 (.Pass ⟨0, 0, 0, 0⟩)) { nx := fun _ H' => Q .non H', rt := Q } σ H' := fun σ v d H' hσ e r pd => by
    refine semS_of (ps_ret (pe_var (i := 1) rfl (.inl rfl))) ?_
    exact ⟨v, hσ, hQ v d H' e r pd⟩
  refine semS_of (ps_try_tup (X := (cxOf C8.CX0 X.prog X.w X.K X.mg X.base nWhy "_law_why" (defScope sWhy) g cdg X.A X.stack s H C8.E0).nox) (c1 := .ref aF) (c2 := .ref aM) (i := 2) rfl rfl scWhy.nd rfl rfl ⟨rfl, by decide, .inl gF⟩ ⟨rfl, by decide, .inl gM⟩
    (tb := fun W D σ H => ∃ Ech : XK, (∀ cls d σ' H', Ech cls d H' → W cls d σ' H') ∧ σ[0]? = some (some (.ref f)) ∧ H c' = some (LamX.CodeO c' q) ∧ tl Ech H (fun _ H' => D.nx σ H')) (ts := tsWhy X.K CP CT) (fun W pn xe tk _ => ?_) (fun a oe cls d pn hz hd => suite_why (X := (cxOf C8.CX0 X.prog X.w X.K X.mg X.base nWhy "_law_why" (defScope sWhy) g cdg X.A X.stack s H C8.E0).nox) hf1 (hr.deeper _) XP XT rfl rfl a oe cls d pn hz hd)) ?_
  · refine ⟨fun pins s' σ H' D I h' => ?_⟩
    obtain ⟨Ech, hW, h1, h2, h3⟩ := h'
    exact (pss_one (ps_expr (act W pn xe Ech _ _ tk hW))).run pins s' σ H' D I ⟨h1, h2, h3⟩
  · refine ⟨EchW X.K CP CT S H1 PD, fun cls d σ' H' hE => ?_, rfl, e1.keep c' _ nc hc, hT H1 e1 _ fun v H2 e2 pd => tell _ _ _ H2 rfl (e1.trans e2) (r1.ext e2 lv1 mS) pd⟩
    obtain ⟨dd, c, i, rfl, e2, nd, hdd, hcl, pd⟩ := hE
    refine ⟨by rcases hcl with ⟨_, rfl⟩ | ⟨_, rfl⟩ <;> assumption, fun a ha len => ?_⟩
    refine ⟨S, B, dd, c, i, mS, (e1.trans e2).live lv, occ mS lv hB (e1.trans e2), rfl, nd, hdd, hcl, ?_, fun v H2 e3 r3 => ?_⟩
    · rw [List.getElem?_set_self (by rw [List.length_set] at len; omega)]
    · refine tell _ v _ H2 ?_ ((e1.trans e2).trans e3) r3 pd
      rw [List.length_set] at len
      rw [List.getElem?_set_ne (by decide), List.getElem?_set_self (by rw [List.length_set]; omega)]
end G
set_option Elab.async false
set_option linter.all false
set_option maxRecDepth 100000
set_option maxHeartbeats 4000000
namespace G
open PySem PySem.Spec PyProof.Rows L2
local macro_rules | `(tactic| wtm_at "vis") => `(tactic| first | exact Or.inl rfl | exact Or.inr (Or.inl rfl) | exact Or.inr (Or.inr rfl))
local macro_rules | `(tactic| wtm_at "cal") => `(tactic| first | assumption | exact CallOk.blk (by assumption) | exact CallOkK.blk (by assumption) | exact ConstOk.blk (by assumption))
local macro_rules | `(tactic| wtm_at "nm") => `(tactic| first
  | refine ex_name 0 (by assumption) (by with_reducible rfl) (by with_reducible rfl) (by wtm_at "vis") ?_
  | refine ex_name 1 (by assumption) (by with_reducible rfl) (by with_reducible rfl) (by wtm_at "vis") ?_
  | refine ex_name 2 (by assumption) (by with_reducible rfl) (by with_reducible rfl) (by wtm_at "vis") ?_
  | refine ex_name 3 (by assumption) (by with_reducible rfl) (by with_reducible rfl) (by wtm_at "vis") ?_
  | refine ex_name 4 (by assumption) (by with_reducible rfl) (by with_reducible rfl) (by wtm_at "vis") ?_
  | refine ex_name 5 (by assumption) (by with_reducible rfl) (by with_reducible rfl) (by wtm_at "vis") ?_
  | refine ex_name 6 (by assumption) (by with_reducible rfl) (by with_reducible rfl) (by wtm_at "vis") ?_
  | refine ex_name 7 (by assumption) (by with_reducible rfl) (by with_reducible rfl) (by wtm_at "vis") ?_
  | refine ex_name 8 (by assumption) (by with_reducible rfl) (by with_reducible rfl) (by wtm_at "vis") ?_
  | refine ex_name 9 (by assumption) (by with_reducible rfl) (by with_reducible rfl) (by wtm_at "vis") ?_
  | refine ex_name 10 (by assumption) (by with_reducible rfl) (by with_reducible rfl) (by wtm_at "vis") ?_
  | refine ex_name 11 (by assumption) (by with_reducible rfl) (by with_reducible rfl) (by wtm_at "vis") ?_
  | refine ex_name 12 (by assumption) (by with_reducible rfl) (by with_reducible rfl) (by wtm_at "vis") ?_
  | refine ex_name 13 (by assumption) (by with_reducible rfl) (by with_reducible rfl) (by wtm_at "vis") ?_
  | refine ex_name 14 (by assumption) (by with_reducible rfl) (by with_reducible rfl) (by wtm_at "vis") ?_
  | refine ex_name 15 (by assumption) (by with_reducible rfl) (by with_reducible rfl) (by wtm_at "vis") ?_
  | refine ex_name 16 (by assumption) (by with_reducible rfl) (by with_reducible rfl) (by wtm_at "vis") ?_
  | refine ex_name 17 (by assumption) (by with_reducible rfl) (by with_reducible rfl) (by wtm_at "vis") ?_
  | refine ex_name 18 (by assumption) (by with_reducible rfl) (by with_reducible rfl) (by wtm_at "vis") ?_
  | refine ex_name 19 (by assumption) (by with_reducible rfl) (by with_reducible rfl) (by wtm_at "vis") ?_
  | refine ex_name 20 (by assumption) (by with_reducible rfl) (by with_reducible rfl) (by wtm_at "vis") ?_
  | refine ex_name 21 (by assumption) (by with_reducible rfl) (by with_reducible rfl) (by wtm_at "vis") ?_
  | refine ex_name 22 (by assumption) (by with_reducible rfl) (by with_reducible rfl) (by wtm_at "vis") ?_
  | refine ex_name 23 (by assumption) (by with_reducible rfl) (by with_reducible rfl) (by wtm_at "vis") ?_)
local macro_rules | `(tactic| wtm_at "kb") => `(tactic| first | exact kb0 | exact kb1 | exact kb2 | exact kb3 | exact kb4 | exact kb5 | exact kb6 | exact kb7 | exact kb8 | exact kb9 | exact kb10 | exact kb11 | exact kb12 | exact kb13 | exact kb14 | exact kb15 | exact kb16 | exact kb17 | exact kb18 | exact kb19 | exact kb20 | exact kb21 | exact kb22 | exact kb23 | exact kb24 | exact kb25 | exact kb26 | exact kb27 | exact kb28 | exact kb29)
local macro_rules | `(tactic| wtm_at "loc") => `(tactic| first | exact Or.inl rfl | exact Or.inr rfl)
local macro_rules | `(tactic| wtm_at "set") => `(tactic| first
  | refine s_set 0 (by assumption) (by assumption) (by with_reducible rfl) (by wtm_at "loc") ?_
  | refine s_set 1 (by assumption) (by assumption) (by with_reducible rfl) (by wtm_at "loc") ?_
  | refine s_set 2 (by assumption) (by assumption) (by with_reducible rfl) (by wtm_at "loc") ?_
  | refine s_set 3 (by assumption) (by assumption) (by with_reducible rfl) (by wtm_at "loc") ?_
  | refine s_set 4 (by assumption) (by assumption) (by with_reducible rfl) (by wtm_at "loc") ?_
  | refine s_set 5 (by assumption) (by assumption) (by with_reducible rfl) (by wtm_at "loc") ?_
  | refine s_set 6 (by assumption) (by assumption) (by with_reducible rfl) (by wtm_at "loc") ?_
  | refine s_set 7 (by assumption) (by assumption) (by with_reducible rfl) (by wtm_at "loc") ?_
  | refine s_set 8 (by assumption) (by assumption) (by with_reducible rfl) (by wtm_at "loc") ?_
  | refine s_set 9 (by assumption) (by assumption) (by with_reducible rfl) (by wtm_at "loc") ?_
  | refine s_set 10 (by assumption) (by assumption) (by with_reducible rfl) (by wtm_at "loc") ?_
  | refine s_set 11 (by assumption) (by assumption) (by with_reducible rfl) (by wtm_at "loc") ?_
  | refine s_set 12 (by assumption) (by assumption) (by with_reducible rfl) (by wtm_at "loc") ?_
  | refine s_set 13 (by assumption) (by assumption) (by with_reducible rfl) (by wtm_at "loc") ?_
  | refine s_set 14 (by assumption) (by assumption) (by with_reducible rfl) (by wtm_at "loc") ?_
  | refine s_set 15 (by assumption) (by assumption) (by with_reducible rfl) (by wtm_at "loc") ?_
  | refine s_set 16 (by assumption) (by assumption) (by with_reducible rfl) (by wtm_at "loc") ?_
  | refine s_set 17 (by assumption) (by assumption) (by with_reducible rfl) (by wtm_at "loc") ?_
  | refine s_set 18 (by assumption) (by assumption) (by with_reducible rfl) (by wtm_at "loc") ?_
  | refine s_set 19 (by assumption) (by assumption) (by with_reducible rfl) (by wtm_at "loc") ?_
  | refine s_set 20 (by assumption) (by assumption) (by with_reducible rfl) (by wtm_at "loc") ?_
  | refine s_set 21 (by assumption) (by assumption) (by with_reducible rfl) (by wtm_at "loc") ?_
  | refine s_set 22 (by assumption) (by assumption) (by with_reducible rfl) (by wtm_at "loc") ?_
  | refine s_set 23 (by assumption) (by assumption) (by with_reducible rfl) (by wtm_at "loc") ?_)
local macro_rules | `(tactic| wtm_at "ex") => `(tactic| first
  | ((with_reducible show EX _ (PySem.Expr.Name "int" _) _ _); refine ex_ty (by assumption) (by rfl) bt_int ?_)
  | ((with_reducible show EX _ (PySem.Expr.Name "str" _) _ _); refine ex_ty (by assumption) (by rfl) bt_str ?_)
  | ((with_reducible show EX _ (PySem.Expr.Name "bool" _) _ _); refine ex_ty (by assumption) (by rfl) bt_bool ?_)
  | ((with_reducible show EX _ (PySem.Expr.Name "list" _) _ _); refine ex_ty (by assumption) (by rfl) bt_list ?_)
  | ((with_reducible show EX _ (PySem.Expr.Name "tuple" _) _ _); refine ex_ty (by assumption) (by rfl) bt_tuple ?_)
  | ((with_reducible show EX _ (PySem.Expr.Name _ _) _ _); first | wtm_at "nm" | refine ex_glob (by wtm_at "cal") (by rfl) ?_)
  | ((with_reducible show EX _ (PySem.Expr.Constant (PySem.Const.int _) _ _) _ _); refine ex_int ?_)
  | ((with_reducible show EX _ (PySem.Expr.Constant (PySem.Const.str _) _ _) _ _); refine ex_str ?_)
  | ((with_reducible show EX _ (PySem.Expr.Constant (PySem.Const.bool _) _ _) _ _); refine ex_bl ?_)
  | ((with_reducible show EX _ (PySem.Expr.Constant PySem.Const.none _ _) _ _); refine ex_non ?_)
  | ((with_reducible show EX _ (PySem.Expr.BinOp _ PySem.Operator.Add _ _) _ _); refine ex_bin od_add ?_)
  | ((with_reducible show EX _ (PySem.Expr.BinOp _ PySem.Operator.Sub _ _) _ _); refine ex_bin od_sub ?_)
  | ((with_reducible show EX _ (PySem.Expr.BinOp _ PySem.Operator.Mult _ _) _ _); refine ex_bin od_mul ?_)
  | ((with_reducible show EX _ (PySem.Expr.BinOp _ PySem.Operator.Mod _ _) _ _); refine ex_bin od_mod ?_)
  | ((with_reducible show EX _ (PySem.Expr.BinOp _ PySem.Operator.FloorDiv _ _) _ _); refine ex_bin od_fdiv ?_)
  | ((with_reducible show EX _ (PySem.Expr.BinOp _ PySem.Operator.Pow _ _) _ _); refine ex_bin od_pow ?_)
  | ((with_reducible show EX _ (PySem.Expr.Compare _ [PySem.CmpOp.Eq] _ _) _ _); refine ex_cmp od_eq ?_)
  | ((with_reducible show EX _ (PySem.Expr.Compare _ [PySem.CmpOp.NotEq] _ _) _ _); refine ex_cmp od_ne ?_)
  | ((with_reducible show EX _ (PySem.Expr.Compare _ [PySem.CmpOp.Lt] _ _) _ _); refine ex_cmp od_lt ?_)
  | ((with_reducible show EX _ (PySem.Expr.Compare _ [PySem.CmpOp.LtE] _ _) _ _); refine ex_cmp od_le ?_)
  | ((with_reducible show EX _ (PySem.Expr.Compare _ [PySem.CmpOp.Gt] _ _) _ _); refine ex_cmp od_gt ?_)
  | ((with_reducible show EX _ (PySem.Expr.Compare _ [PySem.CmpOp.GtE] _ _) _ _); refine ex_cmp od_ge ?_)
  | ((with_reducible show EX _ (PySem.Expr.Compare _ [PySem.CmpOp.Is] _ _) _ _); refine ex_cmp od_is ?_)
  | ((with_reducible show EX _ (PySem.Expr.Compare _ [PySem.CmpOp.IsNot] _ _) _ _); refine ex_cmp od_isnot ?_)
  | ((with_reducible show EX _ (PySem.Expr.Compare _ [PySem.CmpOp.LtE, PySem.CmpOp.LtE] _ _) _ _); refine ex_chain od_le od_le ?_)
  | ((with_reducible show EX _ (PySem.Expr.UnaryOp PySem.UnaryOp.USub _ _) _ _); refine ex_neg ?_)
  | ((with_reducible show EX _ (PySem.Expr.UnaryOp PySem.UnaryOp.Not _ _) _ _); refine ex_not ?_)
  | ((with_reducible show EX _ (PySem.Expr.BoolOp PySem.BoolOp.And (_ :: _ :: _) _) _ _); refine ex_and ?_)
  | ((with_reducible show EX _ (PySem.Expr.BoolOp PySem.BoolOp.Or (_ :: _ :: _) _) _ _); refine ex_or ?_)
  | ((with_reducible show EX _ (PySem.Expr.BoolOp _ [_] _) _ _); refine ex_one ?_)
  | ((with_reducible show EX _ (PySem.Expr.IfExp _ _ _ _) _ _); refine ex_ifExp ?_)
  | ((with_reducible show EX _ (PySem.Expr.Tuple _ _ _) _ _); refine ex_tup ?_)
  | ((with_reducible show EX _ (PySem.Expr.List _ _) _ _); refine ex_lst ?_)
  | ((with_reducible show AX _ (_ :: _) _ _); refine ax_cons ?_)
  | ((with_reducible show AX _ [] _ _); refine ax_nil ?_)
  | ((with_reducible show KX _ (_ :: _) _ _); refine kx_cons ?_)
  | ((with_reducible show KX _ [] _ _); refine kx_nil ?_)
  | ((with_reducible show EX _ (PySem.Expr.Call (PySem.Expr.Name "isinstance" _) [_, PySem.Expr.Tuple [_, _] _ _] [] _) _ _); refine ex_isi2 (by assumption) (by rfl) bt_isi ?_)
  | ((with_reducible show EX _ (PySem.Expr.Call (PySem.Expr.Name "isinstance" _) _ [] _) _ _); refine ex_bi bi_isi (by assumption) (by rfl) bt_isi ?_)
  | ((with_reducible show EX _ (PySem.Expr.Call (PySem.Expr.Name "len" _) _ [] _) _ _); refine ex_bi bi_len (by assumption) (by rfl) bt_len ?_)
  | ((with_reducible show EX _ (PySem.Expr.Call (PySem.Expr.Name "abs" _) _ [] _) _ _); refine ex_bi bi_abs (by assumption) (by rfl) bt_abs ?_)
  | ((with_reducible show EX _ (PySem.Expr.Call (PySem.Expr.Name "all" _) _ [] _) _ _); refine ex_bi (bi_all rfl) (by assumption) (by rfl) bt_all ?_)
  | ((with_reducible show EX _ (PySem.Expr.Call (PySem.Expr.Name "int" _) _ [] _) _ _); refine ex_bt bi_int (by assumption) (by rfl) bt_int ?_)
  | ((with_reducible show EX _ (PySem.Expr.Call (PySem.Expr.Name "str" _) _ [] _) _ _); refine ex_bt bi_str (by assumption) (by rfl) bt_str ?_)
  | ((with_reducible show EX _ (PySem.Expr.Call (PySem.Expr.Name "list" _) _ [] _) _ _); refine ex_bt bi_list (by assumption) (by rfl) bt_list ?_)
  | ((with_reducible show EX _ (PySem.Expr.Call (PySem.Expr.Name "tuple" _) _ [] _) _ _); refine ex_bt bi_tuple (by assumption) (by rfl) bt_tuple ?_)
  | ((with_reducible show EX _ (PySem.Expr.Call (PySem.Expr.Name "gcd" _) _ [] _) _ _); refine ex_bf bi_gcd (by assumption) (by rfl) ?_)
  | ((with_reducible show EX _ (PySem.Expr.Call (PySem.Expr.Name _ _) (_ :: _) [] _) _ _); refine ex_call (by wtm_at "cal") (by rfl) ?_)
  | ((with_reducible show EX _ (PySem.Expr.Call (PySem.Expr.Name _ _) [] (_ :: _) _) _ _); refine ex_callK0 (by wtm_at "cal") (by rfl) ?_)
  | ((with_reducible show EX _ (PySem.Expr.Call (PySem.Expr.Name _ _) (_ :: _) (_ :: _) _) _ _); refine ex_callK (by wtm_at "cal") (by rfl) ?_)
  | ((with_reducible show EX _ (PySem.Expr.Subscript _ _ _) _ _); refine ex_ix ?_))
local macro_rules | `(tactic| wtm_at "tx") => `(tactic| first
  | ((with_reducible show TX _ (PySem.Expr.Compare _ [PySem.CmpOp.Eq] _ _) _ _); refine tx_cmp od_eq ?_)
  | ((with_reducible show TX _ (PySem.Expr.Compare _ [PySem.CmpOp.NotEq] _ _) _ _); refine tx_cmp od_ne ?_)
  | ((with_reducible show TX _ (PySem.Expr.Compare _ [PySem.CmpOp.Lt] _ _) _ _); refine tx_cmp od_lt ?_)
  | ((with_reducible show TX _ (PySem.Expr.Compare _ [PySem.CmpOp.LtE] _ _) _ _); refine tx_cmp od_le ?_)
  | ((with_reducible show TX _ (PySem.Expr.Compare _ [PySem.CmpOp.Gt] _ _) _ _); refine tx_cmp od_gt ?_)
  | ((with_reducible show TX _ (PySem.Expr.Compare _ [PySem.CmpOp.GtE] _ _) _ _); refine tx_cmp od_ge ?_)
  | ((with_reducible show TX _ (PySem.Expr.Compare _ [PySem.CmpOp.Is] _ _) _ _); refine tx_cmp od_is ?_)
  | ((with_reducible show TX _ (PySem.Expr.Compare _ [PySem.CmpOp.IsNot] _ _) _ _); refine tx_cmp od_isnot ?_)
  | ((with_reducible show TX _ (PySem.Expr.Compare _ [PySem.CmpOp.LtE, PySem.CmpOp.LtE] _ _) _ _); refine tx_chain od_le od_le ?_)
  | ((with_reducible show TX _ (PySem.Expr.UnaryOp PySem.UnaryOp.Not _ _) _ _); refine tx_not ?_)
  | ((with_reducible show TX _ (PySem.Expr.BoolOp _ _ _) _ _); refine tx_w ?_)
  | ((with_reducible show TW _ (PySem.Expr.BoolOp PySem.BoolOp.And (_ :: _ :: _) _) _ _); refine tw_and ?_)
  | ((with_reducible show TW _ (PySem.Expr.BoolOp PySem.BoolOp.Or (_ :: _ :: _) _) _ _); refine tw_or ?_)
  | ((with_reducible show TW _ (PySem.Expr.BoolOp PySem.BoolOp.And [_] _) _ _); refine tw_and1 ?_)
  | ((with_reducible show TW _ (PySem.Expr.BoolOp PySem.BoolOp.Or [_] _) _ _); refine tw_or1 ?_)
  | ((with_reducible show TX _ _ _ _); refine tx_truth ?_))
local macro_rules | `(tactic| wtm_at "st") => `(tactic| first
  | ((with_reducible show SX _ [_] _ _); refine sx_one ?_)
  | ((with_reducible show SX _ (_ :: _) _ _); refine sx_cons ?_)
  | ((with_reducible show SX _ [] _ _); refine sx_nil ?_)
  | ((with_reducible show S1 _ (PySem.Stmt.Return (some _) _) _ _); refine s_ret ?_)
  | ((with_reducible show S1 _ (PySem.Stmt.If _ _ _ _) _ _); refine s_if ?_)
  | ((with_reducible show S1 _ (PySem.Stmt.Expr _ _) _ _); refine s_expr ?_)
  | ((with_reducible show S1 _ (PySem.Stmt.Pass _) _ _); refine s_pass ?_)
  | ((with_reducible show S1 _ (PySem.Stmt.Assign [PySem.Expr.Name _ _] _ _) _ _); wtm_at "set"))
local macro_rules | `(tactic| wtm_at "op") => `(tactic| with_reducible first
  | refine o_add ?_
  | refine o_sub ?_
  | refine o_lt ?_
  | refine o_le ?_
  | refine o_gt ?_
  | refine o_ge ?_
  | refine o_is ?_
  | refine o_isnot ?_
  | refine o_lenl ?_
  | refine o_lent ?_
  | refine o_abs ?_
  | refine o_int ?_
  | refine o_listl ?_
  | refine o_listt ?_
  | refine o_tupl ?_
  | refine o_tupt ?_
  | refine o_all ?_
  | refine o_gcd ?_
  | refine o_asB ?_
  | refine o_asI ?_
  | refine o_asL ?_
  | refine o_asT ?_
  | refine o_truB ?_
  | refine o_truN ?_
  | refine o_truL ?_
  | refine o_truT ?_
  | refine if_t ?_
  | refine if_f ?_
  | refine if_nf ?_
  | refine if_nt ?_)
local macro_rules | `(tactic| wtm_at "op2") => `(tactic| first
  | ((with_reducible show if _ = true then _ else _); first | refine if_ev_t rfl ?_ | refine if_ev_f rfl ?_)
  | ((with_reducible show wIsi [_, D.ty _] _); refine o_isi rfl (by wtm_at "kb") ?_)
  | ((with_reducible show wEq _ _ _); refine o_eq rfl ?_)
  | ((with_reducible show wNe _ _ _); refine o_ne rfl ?_)
  | ((with_reducible show wIx (D.lst _) (D.int _) _); refine o_ixl rfl ?_)
  | ((with_reducible show wIx (D.tup _) (D.int _) _); refine o_ixt rfl ?_)
  | ((with_reducible show wPow _ _ _); refine o_pow ⟨by decide, by decide, by decide⟩ ?_)
  | ((with_reducible show (_ ≤ 100000) ∧ _); refine ⟨Nat.le_of_ble_eq_true rfl, ?_⟩)
  | ((with_reducible show ∃ n1 n2 t k1 k2, _); refine o_isi2 rfl (by wtm_at "kb") (by wtm_at "kb") ?_))
local macro_rules | `(tactic| wtm_at "go") => `(tactic| first | wtm_at "ex" | wtm_at "op" | wtm_at "op2" | wtm_at "tx" | wtm_at "st")
local macro_rules | `(tactic| wtm_at "ex") => `(tactic| first
  | ((with_reducible show EX _ (PySem.Expr.Compare _ [PySem.CmpOp.In] _ _) _ _); refine ex_cmp od_in ?_)
  | ((with_reducible show EX _ (PySem.Expr.Attribute _ _ _) _ _); refine ex_fld ?_)
  | ((with_reducible show EX _ (PySem.Expr.Call (PySem.Expr.Name _ _) (_ :: _) [] _) _ _); refine ex_make (by assumption) (by rfl) ?_)
  | ((with_reducible show EX _ (PySem.Expr.Call (PySem.Expr.Name _ _) [] [] _) _ _); first | refine ex_make0 (by assumption) (by rfl) ?_ | refine ex_call0 (by wtm_at "cal") (by rfl) ?_))
local macro_rules | `(tactic| wtm_at "op2") => `(tactic| first
  | ((with_reducible show wIn (D.str _) (D.lst _) _); refine o_in rfl ?_))
local macro_rules | `(tactic| wtm_at "tx") => `(tactic| first
  | ((with_reducible show TX _ (PySem.Expr.Compare _ [PySem.CmpOp.In] _ _) _ _); refine tx_cmp od_in ?_))
theorem worldErr_c {ps ks : List D} {c : Str} {i : Int} (h : worldErr ps ks = some (c, i)) : c = "InvalidPart" ∨ c = "InvalidTrait" := by
  unfold worldErr at h
  split at h
  · cases h; exact .inl rfl
  · split at h
    · cases h; exact .inr rfl
    · cases h
/-- what World(ps, ks) tells _law_why -/
def worldD (ps ks : List D) : D := match worldErr ps ks with
  | some (c, i) => .tup [.str c, .int i]
  | none => .tup [.str "value", .non]
/-- lists of rows that World looks at -/
def RowsOk (l : List D) : Prop := l.length ≤ 1000 ∧ ∀ r ∈ l, shs 2 r = true
/-- World as it stands -/
structure WorldF (P : Program) (w : World) (K : PySem.W.Frag) (mg : Str → Option Value) (base : Heap) (CW CP CT : Addr) : Prop where
  ex : ∃ (f : Addr) (fd : FuncData), Mk K CW f ∧ FnOk P w K mg base (L2.CX P w) 5 f fd ["self", "parts", "traits"] (spWI K CW CP CT) ∧ Binds K fd ["self", "parts", "traits"] []
  gW : mg "World" = some (.ref CW)
/-- the instance x and its dict dx are laid down: World.__init__ is asked -/
theorem world_sp {K : PySem.W.Frag} {CW CP CT : Addr} {S : Sr} {B O : List Addr} {H0 H H1 : Hp} {σ : L2.St} {Γ : List E} {vs : List V} {ps ks : List D} {x dx : Addr} {Ex : XK} {Q1 : VK} (st : StOk K S B O H0 H σ Γ) (e1 : Ext K S H H1) (r1 : RepAll K S (B ++ O) H1 vs [.lst ps, .lst ks]) (op : RowsOk ps) (ok : RowsOk ks)
    (nx : H1 x = none) (ndx : H1 dx = none) (hne : dx ≠ x)
    (hE : ∀ c i, worldErr ps ks = some (c, i) → ∀ d H', Ext K S H H' → d ≠ S.a → H' d = some (.xd (xFs c i)) → Ex (.ref (if c = "InvalidPart" then CP else CT)) (some d) H')
    (hQ : worldErr ps ks = none → ∀ H', Ext K S H H' → Q1 (.ref x) H') :
    spWI K CW CP CT (.ref x :: (vs ++ [])) (upd (upd H1 dx (.own x)) x (.ins CW dx [])) (fun v H2 => v = .non ∧ Q1 (.ref x) H2) Ex := by
  obtain ⟨vp, vk, rfl, rp, rk⟩ := r1.two
  have lv1 : Live S H1 := e1.live st.live
  have n2 : (upd H1 dx (.own x)) x = none := by rw [upd_ne (fun z => hne z.symm)]; exact nx
  have e12 : Ext K S H1 (upd (upd H1 dx (.own x)) x (.ins CW dx [])) := (Ext.new ndx).trans (.new n2)
  have lv2 := e12.live lv1
  have xs : x ≠ S.a := fun z => by
    obtain ⟨⟨o, h⟩, _, _⟩ := lv1
    rw [← z, nx] at h
    cases h
  have xl : x ≠ S.l := fun z => by
    obtain ⟨_, ⟨o, h⟩, _⟩ := lv1
    rw [← z, nx] at h
    cases h
  have mS : S.a ∈ (B ++ O) ++ [x] := List.mem_append_left _ st.m
  have bo := (st.to e1).bo
  refine ⟨rfl, S, (B ++ O) ++ [x], x, dx, vp, vk, ps, ks, rfl, upd_same, ⟨by simp, xs, xl⟩, mS, lv2, fun m hm => ?_, (rp.fresh nx).ext e12 lv1 mS, (rk.fresh nx).ext e12 lv1 mS, op.1, ok.1, op.2, ok.2, fun c i hw d H' e nd _ hd => ?_, fun hw H' hk hs hl => ⟨rfl, hQ hw H' ⟨fun b o nb hb => ?_, fun l s => ?_, fun _ => hl⟩⟩⟩
  · rcases List.mem_append.mp hm with h | h
    · obtain ⟨o, ho⟩ := bo m h
      by_cases z : m = S.a
      · rw [z]; exact lv2.1
      · exact ⟨o, e12.keep m o z ho⟩
    · rw [List.mem_singleton.mp h]
      exact ⟨_, upd_same⟩
  · exact hE c i hw d H' ((e1.trans e12).trans e) nd hd
  · have h1 := e1.keep b o nb hb
    have hx : b ≠ x := ne_of_none h1 nx
    exact hk b o nb hx (e12.keep b o nb h1)
  · exact hs (e12.src lv1 (e1.src l s))
/-- World(a, b) where it may raise, in a lambda that _law_why calls -/
theorem sem_world {Y : Cx} {CW CP CT : Addr} {S : Sr} {B O : List Addr} {H0 H : Hp} {σ : L2.St} {Γ : List E} {PD : D → Prop} {Q1 : VK} {a b : Expr} {p pos : Pos} {k : Nat} (st : StOk Y.K S B O H0 H σ Γ) (WF : WorldF Y.prog Y.w Y.K Y.mg Y.base CW CP CT) (hr : Room 6 Y.A) (hg : Gl Y "World") (tk : Takes Y (fun cls d _ H' => EchW Y.K CP CT S H PD cls d H'))
    (hQ : ∀ v H', Ext Y.K S H H' → PD (.tup [.str "value", .non]) → Q1 v H') (h : AX Y [a, b] Γ fun ds => ∃ ps ks, ds = [.lst ps, .lst ks] ∧ RowsOk ps ∧ RowsOk ks ∧ PD (worldD ps ks))
    (he : starEach [a, b] Y.env = (false, eval a Y.env) :: starEach [b] Y.env := by rfl) (hpl : (backTo pos (starEach [b] Y.env)).any (·.1) = false := by rfl) : semE Y (.Call (.Name "World" p) [a, b] [] pos) σ H Q1 := by
  obtain ⟨f, fd, M, F, hb⟩ := WF.ex
  refine semE_of (pe_make M F hr hg WF.gW hb .nil (passes_call tk fun _ _ _ _ h => h) pa_sem (by decide) he hpl) ?_
  refine h S B O H0 H σ st _ fun vs ds H1 e1 r1 p1 => fun x dx nx ndx hne => ?_
  obtain ⟨ps, ks, rfl, op, ok, pd⟩ := p1
  refine world_sp st e1 r1 op ok nx ndx hne (fun c i hw d H' e nd hd => ?_) (fun hw H' e => ?_)
  · unfold worldD at pd
    rw [hw] at pd
    refine ⟨d, c, i, rfl, e, nd, hd, ?_, pd⟩
    rcases worldErr_c hw with rfl | rfl
    · exact .inl ⟨rfl, by rw [if_pos rfl]⟩
    · exact .inr ⟨rfl, by rw [if_neg (by decide)]⟩
  · unfold worldD at pd
    rw [hw] at pd
    exact hQ _ H' e pd
end G
set_option Elab.async false
set_option linter.all false
set_option maxRecDepth 100000
set_option maxHeartbeats 4000000
namespace G
open PySem PySem.Spec PyProof.Rows L2
local macro_rules | `(tactic| wtm_at "vis") => `(tactic| first | exact Or.inl rfl | exact Or.inr (Or.inl rfl) | exact Or.inr (Or.inr rfl))
local macro_rules | `(tactic| wtm_at "cal") => `(tactic| first | assumption | exact CallOk.blk (by assumption) | exact CallOkK.blk (by assumption) | exact ConstOk.blk (by assumption))
local macro_rules | `(tactic| wtm_at "nm") => `(tactic| first
  | refine ex_name 0 (by assumption) (by with_reducible rfl) (by with_reducible rfl) (by wtm_at "vis") ?_
  | refine ex_name 1 (by assumption) (by with_reducible rfl) (by with_reducible rfl) (by wtm_at "vis") ?_
  | refine ex_name 2 (by assumption) (by with_reducible rfl) (by with_reducible rfl) (by wtm_at "vis") ?_
  | refine ex_name 3 (by assumption) (by with_reducible rfl) (by with_reducible rfl) (by wtm_at "vis") ?_
  | refine ex_name 4 (by assumption) (by with_reducible rfl) (by with_reducible rfl) (by wtm_at "vis") ?_
  | refine ex_name 5 (by assumption) (by with_reducible rfl) (by with_reducible rfl) (by wtm_at "vis") ?_
  | refine ex_name 6 (by assumption) (by with_reducible rfl) (by with_reducible rfl) (by wtm_at "vis") ?_
  | refine ex_name 7 (by assumption) (by with_reducible rfl) (by with_reducible rfl) (by wtm_at "vis") ?_
  | refine ex_name 8 (by assumption) (by with_reducible rfl) (by with_reducible rfl) (by wtm_at "vis") ?_
  | refine ex_name 9 (by assumption) (by with_reducible rfl) (by with_reducible rfl) (by wtm_at "vis") ?_
  | refine ex_name 10 (by assumption) (by with_reducible rfl) (by with_reducible rfl) (by wtm_at "vis") ?_
  | refine ex_name 11 (by assumption) (by with_reducible rfl) (by with_reducible rfl) (by wtm_at "vis") ?_
  | refine ex_name 12 (by assumption) (by with_reducible rfl) (by with_reducible rfl) (by wtm_at "vis") ?_
  | refine ex_name 13 (by assumption) (by with_reducible rfl) (by with_reducible rfl) (by wtm_at "vis") ?_
  | refine ex_name 14 (by assumption) (by with_reducible rfl) (by with_reducible rfl) (by wtm_at "vis") ?_
  | refine ex_name 15 (by assumption) (by with_reducible rfl) (by with_reducible rfl) (by wtm_at "vis") ?_
  | refine ex_name 16 (by assumption) (by with_reducible rfl) (by with_reducible rfl) (by wtm_at "vis") ?_
  | refine ex_name 17 (by assumption) (by with_reducible rfl) (by with_reducible rfl) (by wtm_at "vis") ?_
  | refine ex_name 18 (by assumption) (by with_reducible rfl) (by with_reducible rfl) (by wtm_at "vis") ?_
  | refine ex_name 19 (by assumption) (by with_reducible rfl) (by with_reducible rfl) (by wtm_at "vis") ?_
  | refine ex_name 20 (by assumption) (by with_reducible rfl) (by with_reducible rfl) (by wtm_at "vis") ?_
  | refine ex_name 21 (by assumption) (by with_reducible rfl) (by with_reducible rfl) (by wtm_at "vis") ?_
  | refine ex_name 22 (by assumption) (by with_reducible rfl) (by with_reducible rfl) (by wtm_at "vis") ?_
  | refine ex_name 23 (by assumption) (by with_reducible rfl) (by with_reducible rfl) (by wtm_at "vis") ?_)
local macro_rules | `(tactic| wtm_at "kb") => `(tactic| first | exact kb0 | exact kb1 | exact kb2 | exact kb3 | exact kb4 | exact kb5 | exact kb6 | exact kb7 | exact kb8 | exact kb9 | exact kb10 | exact kb11 | exact kb12 | exact kb13 | exact kb14 | exact kb15 | exact kb16 | exact kb17 | exact kb18 | exact kb19 | exact kb20 | exact kb21 | exact kb22 | exact kb23 | exact kb24 | exact kb25 | exact kb26 | exact kb27 | exact kb28 | exact kb29)
local macro_rules | `(tactic| wtm_at "loc") => `(tactic| first | exact Or.inl rfl | exact Or.inr rfl)
local macro_rules | `(tactic| wtm_at "set") => `(tactic| first
  | refine s_set 0 (by assumption) (by assumption) (by with_reducible rfl) (by wtm_at "loc") ?_
  | refine s_set 1 (by assumption) (by assumption) (by with_reducible rfl) (by wtm_at "loc") ?_
  | refine s_set 2 (by assumption) (by assumption) (by with_reducible rfl) (by wtm_at "loc") ?_
  | refine s_set 3 (by assumption) (by assumption) (by with_reducible rfl) (by wtm_at "loc") ?_
  | refine s_set 4 (by assumption) (by assumption) (by with_reducible rfl) (by wtm_at "loc") ?_
  | refine s_set 5 (by assumption) (by assumption) (by with_reducible rfl) (by wtm_at "loc") ?_
  | refine s_set 6 (by assumption) (by assumption) (by with_reducible rfl) (by wtm_at "loc") ?_
  | refine s_set 7 (by assumption) (by assumption) (by with_reducible rfl) (by wtm_at "loc") ?_
  | refine s_set 8 (by assumption) (by assumption) (by with_reducible rfl) (by wtm_at "loc") ?_
  | refine s_set 9 (by assumption) (by assumption) (by with_reducible rfl) (by wtm_at "loc") ?_
  | refine s_set 10 (by assumption) (by assumption) (by with_reducible rfl) (by wtm_at "loc") ?_
  | refine s_set 11 (by assumption) (by assumption) (by with_reducible rfl) (by wtm_at "loc") ?_
  | refine s_set 12 (by assumption) (by assumption) (by with_reducible rfl) (by wtm_at "loc") ?_
  | refine s_set 13 (by assumption) (by assumption) (by with_reducible rfl) (by wtm_at "loc") ?_
  | refine s_set 14 (by assumption) (by assumption) (by with_reducible rfl) (by wtm_at "loc") ?_
  | refine s_set 15 (by assumption) (by assumption) (by with_reducible rfl) (by wtm_at "loc") ?_
  | refine s_set 16 (by assumption) (by assumption) (by with_reducible rfl) (by wtm_at "loc") ?_
  | refine s_set 17 (by assumption) (by assumption) (by with_reducible rfl) (by wtm_at "loc") ?_
  | refine s_set 18 (by assumption) (by assumption) (by with_reducible rfl) (by wtm_at "loc") ?_
  | refine s_set 19 (by assumption) (by assumption) (by with_reducible rfl) (by wtm_at "loc") ?_
  | refine s_set 20 (by assumption) (by assumption) (by with_reducible rfl) (by wtm_at "loc") ?_
  | refine s_set 21 (by assumption) (by assumption) (by with_reducible rfl) (by wtm_at "loc") ?_
  | refine s_set 22 (by assumption) (by assumption) (by with_reducible rfl) (by wtm_at "loc") ?_
  | refine s_set 23 (by assumption) (by assumption) (by with_reducible rfl) (by wtm_at "loc") ?_)
local macro_rules | `(tactic| wtm_at "ex") => `(tactic| first
  | ((with_reducible show EX _ (PySem.Expr.Name "int" _) _ _); refine ex_ty (by assumption) (by rfl) bt_int ?_)
  | ((with_reducible show EX _ (PySem.Expr.Name "str" _) _ _); refine ex_ty (by assumption) (by rfl) bt_str ?_)
  | ((with_reducible show EX _ (PySem.Expr.Name "bool" _) _ _); refine ex_ty (by assumption) (by rfl) bt_bool ?_)
  | ((with_reducible show EX _ (PySem.Expr.Name "list" _) _ _); refine ex_ty (by assumption) (by rfl) bt_list ?_)
  | ((with_reducible show EX _ (PySem.Expr.Name "tuple" _) _ _); refine ex_ty (by assumption) (by rfl) bt_tuple ?_)
  | ((with_reducible show EX _ (PySem.Expr.Name _ _) _ _); first | wtm_at "nm" | refine ex_glob (by wtm_at "cal") (by rfl) ?_)
  | ((with_reducible show EX _ (PySem.Expr.Constant (PySem.Const.int _) _ _) _ _); refine ex_int ?_)
  | ((with_reducible show EX _ (PySem.Expr.Constant (PySem.Const.str _) _ _) _ _); refine ex_str ?_)
  | ((with_reducible show EX _ (PySem.Expr.Constant (PySem.Const.bool _) _ _) _ _); refine ex_bl ?_)
  | ((with_reducible show EX _ (PySem.Expr.Constant PySem.Const.none _ _) _ _); refine ex_non ?_)
  | ((with_reducible show EX _ (PySem.Expr.BinOp _ PySem.Operator.Add _ _) _ _); refine ex_bin od_add ?_)
  | ((with_reducible show EX _ (PySem.Expr.BinOp _ PySem.Operator.Sub _ _) _ _); refine ex_bin od_sub ?_)
  | ((with_reducible show EX _ (PySem.Expr.BinOp _ PySem.Operator.Mult _ _) _ _); refine ex_bin od_mul ?_)
  | ((with_reducible show EX _ (PySem.Expr.BinOp _ PySem.Operator.Mod _ _) _ _); refine ex_bin od_mod ?_)
  | ((with_reducible show EX _ (PySem.Expr.BinOp _ PySem.Operator.FloorDiv _ _) _ _); refine ex_bin od_fdiv ?_)
  | ((with_reducible show EX _ (PySem.Expr.BinOp _ PySem.Operator.Pow _ _) _ _); refine ex_bin od_pow ?_)
  | ((with_reducible show EX _ (PySem.Expr.Compare _ [PySem.CmpOp.Eq] _ _) _ _); refine ex_cmp od_eq ?_)
  | ((with_reducible show EX _ (PySem.Expr.Compare _ [PySem.CmpOp.NotEq] _ _) _ _); refine ex_cmp od_ne ?_)
  | ((with_reducible show EX _ (PySem.Expr.Compare _ [PySem.CmpOp.Lt] _ _) _ _); refine ex_cmp od_lt ?_)
  | ((with_reducible show EX _ (PySem.Expr.Compare _ [PySem.CmpOp.LtE] _ _) _ _); refine ex_cmp od_le ?_)
  | ((with_reducible show EX _ (PySem.Expr.Compare _ [PySem.CmpOp.Gt] _ _) _ _); refine ex_cmp od_gt ?_)
  | ((with_reducible show EX _ (PySem.Expr.Compare _ [PySem.CmpOp.GtE] _ _) _ _); refine ex_cmp od_ge ?_)
  | ((with_reducible show EX _ (PySem.Expr.Compare _ [PySem.CmpOp.Is] _ _) _ _); refine ex_cmp od_is ?_)
  | ((with_reducible show EX _ (PySem.Expr.Compare _ [PySem.CmpOp.IsNot] _ _) _ _); refine ex_cmp od_isnot ?_)
  | ((with_reducible show EX _ (PySem.Expr.Compare _ [PySem.CmpOp.LtE, PySem.CmpOp.LtE] _ _) _ _); refine ex_chain od_le od_le ?_)
  | ((with_reducible show EX _ (PySem.Expr.UnaryOp PySem.UnaryOp.USub _ _) _ _); refine ex_neg ?_)
  | ((with_reducible show EX _ (PySem.Expr.UnaryOp PySem.UnaryOp.Not _ _) _ _); refine ex_not ?_)
  | ((with_reducible show EX _ (PySem.Expr.BoolOp PySem.BoolOp.And (_ :: _ :: _) _) _ _); refine ex_and ?_)
  | ((with_reducible show EX _ (PySem.Expr.BoolOp PySem.BoolOp.Or (_ :: _ :: _) _) _ _); refine ex_or ?_)
  | ((with_reducible show EX _ (PySem.Expr.BoolOp _ [_] _) _ _); refine ex_one ?_)
  | ((with_reducible show EX _ (PySem.Expr.IfExp _ _ _ _) _ _); refine ex_ifExp ?_)
  | ((with_reducible show EX _ (PySem.Expr.Tuple _ _ _) _ _); refine ex_tup ?_)
  | ((with_reducible show EX _ (PySem.Expr.List _ _) _ _); refine ex_lst ?_)
  | ((with_reducible show AX _ (_ :: _) _ _); refine ax_cons ?_)
  | ((with_reducible show AX _ [] _ _); refine ax_nil ?_)
  | ((with_reducible show KX _ (_ :: _) _ _); refine kx_cons ?_)
  | ((with_reducible show KX _ [] _ _); refine kx_nil ?_)
  | ((with_reducible show EX _ (PySem.Expr.Call (PySem.Expr.Name "isinstance" _) [_, PySem.Expr.Tuple [_, _] _ _] [] _) _ _); refine ex_isi2 (by assumption) (by rfl) bt_isi ?_)
  | ((with_reducible show EX _ (PySem.Expr.Call (PySem.Expr.Name "isinstance" _) _ [] _) _ _); refine ex_bi bi_isi (by assumption) (by rfl) bt_isi ?_)
  | ((with_reducible show EX _ (PySem.Expr.Call (PySem.Expr.Name "len" _) _ [] _) _ _); refine ex_bi bi_len (by assumption) (by rfl) bt_len ?_)
  | ((with_reducible show EX _ (PySem.Expr.Call (PySem.Expr.Name "abs" _) _ [] _) _ _); refine ex_bi bi_abs (by assumption) (by rfl) bt_abs ?_)
  | ((with_reducible show EX _ (PySem.Expr.Call (PySem.Expr.Name "all" _) _ [] _) _ _); refine ex_bi (bi_all rfl) (by assumption) (by rfl) bt_all ?_)
  | ((with_reducible show EX _ (PySem.Expr.Call (PySem.Expr.Name "int" _) _ [] _) _ _); refine ex_bt bi_int (by assumption) (by rfl) bt_int ?_)
  | ((with_reducible show EX _ (PySem.Expr.Call (PySem.Expr.Name "str" _) _ [] _) _ _); refine ex_bt bi_str (by assumption) (by rfl) bt_str ?_)
  | ((with_reducible show EX _ (PySem.Expr.Call (PySem.Expr.Name "list" _) _ [] _) _ _); refine ex_bt bi_list (by assumption) (by rfl) bt_list ?_)
  | ((with_reducible show EX _ (PySem.Expr.Call (PySem.Expr.Name "tuple" _) _ [] _) _ _); refine ex_bt bi_tuple (by assumption) (by rfl) bt_tuple ?_)
  | ((with_reducible show EX _ (PySem.Expr.Call (PySem.Expr.Name "gcd" _) _ [] _) _ _); refine ex_bf bi_gcd (by assumption) (by rfl) ?_)
  | ((with_reducible show EX _ (PySem.Expr.Call (PySem.Expr.Name _ _) (_ :: _) [] _) _ _); refine ex_call (by wtm_at "cal") (by rfl) ?_)
  | ((with_reducible show EX _ (PySem.Expr.Call (PySem.Expr.Name _ _) [] (_ :: _) _) _ _); refine ex_callK0 (by wtm_at "cal") (by rfl) ?_)
  | ((with_reducible show EX _ (PySem.Expr.Call (PySem.Expr.Name _ _) (_ :: _) (_ :: _) _) _ _); refine ex_callK (by wtm_at "cal") (by rfl) ?_)
  | ((with_reducible show EX _ (PySem.Expr.Subscript _ _ _) _ _); refine ex_ix ?_))
local macro_rules | `(tactic| wtm_at "tx") => `(tactic| first
  | ((with_reducible show TX _ (PySem.Expr.Compare _ [PySem.CmpOp.Eq] _ _) _ _); refine tx_cmp od_eq ?_)
  | ((with_reducible show TX _ (PySem.Expr.Compare _ [PySem.CmpOp.NotEq] _ _) _ _); refine tx_cmp od_ne ?_)
  | ((with_reducible show TX _ (PySem.Expr.Compare _ [PySem.CmpOp.Lt] _ _) _ _); refine tx_cmp od_lt ?_)
  | ((with_reducible show TX _ (PySem.Expr.Compare _ [PySem.CmpOp.LtE] _ _) _ _); refine tx_cmp od_le ?_)
  | ((with_reducible show TX _ (PySem.Expr.Compare _ [PySem.CmpOp.Gt] _ _) _ _); refine tx_cmp od_gt ?_)
  | ((with_reducible show TX _ (PySem.Expr.Compare _ [PySem.CmpOp.GtE] _ _) _ _); refine tx_cmp od_ge ?_)
  | ((with_reducible show TX _ (PySem.Expr.Compare _ [PySem.CmpOp.Is] _ _) _ _); refine tx_cmp od_is ?_)
  | ((with_reducible show TX _ (PySem.Expr.Compare _ [PySem.CmpOp.IsNot] _ _) _ _); refine tx_cmp od_isnot ?_)
  | ((with_reducible show TX _ (PySem.Expr.Compare _ [PySem.CmpOp.LtE, PySem.CmpOp.LtE] _ _) _ _); refine tx_chain od_le od_le ?_)
  | ((with_reducible show TX _ (PySem.Expr.UnaryOp PySem.UnaryOp.Not _ _) _ _); refine tx_not ?_)
  | ((with_reducible show TX _ (PySem.Expr.BoolOp _ _ _) _ _); refine tx_w ?_)
  | ((with_reducible show TW _ (PySem.Expr.BoolOp PySem.BoolOp.And (_ :: _ :: _) _) _ _); refine tw_and ?_)
  | ((with_reducible show TW _ (PySem.Expr.BoolOp PySem.BoolOp.Or (_ :: _ :: _) _) _ _); refine tw_or ?_)
  | ((with_reducible show TW _ (PySem.Expr.BoolOp PySem.BoolOp.And [_] _) _ _); refine tw_and1 ?_)
  | ((with_reducible show TW _ (PySem.Expr.BoolOp PySem.BoolOp.Or [_] _) _ _); refine tw_or1 ?_)
  | ((with_reducible show TX _ _ _ _); refine tx_truth ?_))
local macro_rules | `(tactic| wtm_at "st") => `(tactic| first
  | ((with_reducible show SX _ [_] _ _); refine sx_one ?_)
  | ((with_reducible show SX _ (_ :: _) _ _); refine sx_cons ?_)
  | ((with_reducible show SX _ [] _ _); refine sx_nil ?_)
  | ((with_reducible show S1 _ (PySem.Stmt.Return (some _) _) _ _); refine s_ret ?_)
  | ((with_reducible show S1 _ (PySem.Stmt.If _ _ _ _) _ _); refine s_if ?_)
  | ((with_reducible show S1 _ (PySem.Stmt.Expr _ _) _ _); refine s_expr ?_)
  | ((with_reducible show S1 _ (PySem.Stmt.Pass _) _ _); refine s_pass ?_)
  | ((with_reducible show S1 _ (PySem.Stmt.Assign [PySem.Expr.Name _ _] _ _) _ _); wtm_at "set"))
local macro_rules | `(tactic| wtm_at "op") => `(tactic| with_reducible first
  | refine o_add ?_
  | refine o_sub ?_
  | refine o_lt ?_
  | refine o_le ?_
  | refine o_gt ?_
  | refine o_ge ?_
  | refine o_is ?_
  | refine o_isnot ?_
  | refine o_lenl ?_
  | refine o_lent ?_
  | refine o_abs ?_
  | refine o_int ?_
  | refine o_listl ?_
  | refine o_listt ?_
  | refine o_tupl ?_
  | refine o_tupt ?_
  | refine o_all ?_
  | refine o_gcd ?_
  | refine o_asB ?_
  | refine o_asI ?_
  | refine o_asL ?_
  | refine o_asT ?_
  | refine o_truB ?_
  | refine o_truN ?_
  | refine o_truL ?_
  | refine o_truT ?_
  | refine if_t ?_
  | refine if_f ?_
  | refine if_nf ?_
  | refine if_nt ?_)
local macro_rules | `(tactic| wtm_at "op2") => `(tactic| first
  | ((with_reducible show if _ = true then _ else _); first | refine if_ev_t rfl ?_ | refine if_ev_f rfl ?_)
  | ((with_reducible show wIsi [_, D.ty _] _); refine o_isi rfl (by wtm_at "kb") ?_)
  | ((with_reducible show wEq _ _ _); refine o_eq rfl ?_)
  | ((with_reducible show wNe _ _ _); refine o_ne rfl ?_)
  | ((with_reducible show wIx (D.lst _) (D.int _) _); refine o_ixl rfl ?_)
  | ((with_reducible show wIx (D.tup _) (D.int _) _); refine o_ixt rfl ?_)
  | ((with_reducible show wPow _ _ _); refine o_pow ⟨by decide, by decide, by decide⟩ ?_)
  | ((with_reducible show (_ ≤ 100000) ∧ _); refine ⟨Nat.le_of_ble_eq_true rfl, ?_⟩)
  | ((with_reducible show ∃ n1 n2 t k1 k2, _); refine o_isi2 rfl (by wtm_at "kb") (by wtm_at "kb") ?_))
local macro_rules | `(tactic| wtm_at "go") => `(tactic| first | wtm_at "ex" | wtm_at "op" | wtm_at "op2" | wtm_at "tx" | wtm_at "st")
local macro_rules | `(tactic| wtm_at "ex") => `(tactic| first
  | ((with_reducible show EX _ (PySem.Expr.Compare _ [PySem.CmpOp.In] _ _) _ _); refine ex_cmp od_in ?_)
  | ((with_reducible show EX _ (PySem.Expr.Attribute _ _ _) _ _); refine ex_fld ?_)
  | ((with_reducible show EX _ (PySem.Expr.Call (PySem.Expr.Name _ _) (_ :: _) [] _) _ _); refine ex_make (by assumption) (by rfl) ?_)
  | ((with_reducible show EX _ (PySem.Expr.Call (PySem.Expr.Name _ _) [] [] _) _ _); first | refine ex_make0 (by assumption) (by rfl) ?_ | refine ex_call0 (by wtm_at "cal") (by rfl) ?_))
local macro_rules | `(tactic| wtm_at "op2") => `(tactic| first
  | ((with_reducible show wIn (D.str _) (D.lst _) _); refine o_in rfl ?_))
local macro_rules | `(tactic| wtm_at "tx") => `(tactic| first
  | ((with_reducible show TX _ (PySem.Expr.Compare _ [PySem.CmpOp.In] _ _) _ _); refine tx_cmp od_in ?_))
/-! ### the loose layer: runs that may make lambdas -/
structure ExtL (K : PySem.W.Frag) (S : Sr) (T : List (Addr × Str)) (H H' : Hp) : Prop where
  keep : ∀ b o, b ≠ S.a → (∀ ps, o ≠ HO.tbl ps) → H b = some o → H' b = some o
  src : SrcOk K S H → SrcOk K S H'
  tabs : SrcOk K S H → LamX.Tabs T H → LamX.Tabs T H'
theorem ExtL.trans {K S T H H1 H2} (a : ExtL K S T H H1) (b : ExtL K S T H1 H2) : ExtL K S T H H2 :=
  ⟨fun c o n q h => b.keep c o n q (a.keep c o n q h), fun h => b.src (a.src h), fun h t => b.tabs (a.src h) (a.tabs h t)⟩
theorem tabs_ext {K S T H H'} (e : Ext K S H H') (so : SrcOk K S H) (t : LamX.Tabs T H) : LamX.Tabs T H' := fun p hp => by
  obtain ⟨ps, h1, h2, h3⟩ := t p hp
  refine ⟨ps, e.keep _ _ (src_ne so h1 (fun xs z => by cases z)) h1, h2, fun pos cv hc => ?_⟩
  obtain ⟨c, e1, e2⟩ := h3 pos cv hc
  exact ⟨c, e1, e.keep _ _ (src_ne so e2 (fun xs z => by unfold LamX.CodeO at z; cases z)) e2⟩
theorem ExtL.of {K S T H H'} (e : Ext K S H H') (lv : Live S H) : ExtL K S T H H' := ⟨fun b o n _ h => e.keep b o n h, e.src lv, fun so t => tabs_ext e so t⟩
theorem ExtL.lam {K S T H H'} (e : LamX.ExtN H H') (t : LamX.Tabs T H') : ExtL K S T H H' :=
  ⟨fun b o _ q h => e b o h q, fun ⟨i, c, s, t, ns, h1, h2, h3⟩ => ⟨i, c, s, t, ns, e _ _ h1 (fun ps z => by cases z), e _ _ h2 (fun ps z => by cases z), h3⟩, fun _ _ => t⟩
theorem live_of {K S H} (so : SrcOk K S H) (n : S.l ≠ S.a) : Live S H := by
  obtain ⟨i, c, s, t, ns, h1, h2, h3⟩ := so
  exact ⟨⟨_, h1⟩, ⟨_, h2⟩, n⟩
mutual
theorem Rep.impL {K : PySem.W.Frag} {S : Sr} {M M' : List Addr} {H H' : Hp} (ht : ∀ a xs, TAt K M H a xs → TAt K M' H' a xs) (hl : ∀ a xs, LAt K M H a xs → LAt K M' H' a xs) (hs : SrcOk K S H → S.a ∈ M → SrcOk K S H' ∧ S.a ∈ M') (hx : ∀ a o, (∀ ps, o ≠ HO.tbl ps) → a ∉ M → H a = some o → a ∉ M' ∧ H' a = some o) :
    ∀ {v : V} {d : D}, Rep K S M H v d → Rep K S M' H' v d
  | _, _, .non => .non
  | _, _, .bl b => .bl b
  | _, _, .int i => .int i
  | _, _, .str s => .str s
  | _, _, .ty n => .ty n
  | _, _, .tup h r => .tup (ht _ _ h) (RepAll.impL ht hl hs hx r)
  | _, _, .lst h r => .lst (hl _ _ h) (RepAll.impL ht hl hs hx r)
  | _, _, .src h m => .src (hs h m).1 (hs h m).2
  | _, _, .exc h ha h2 hd r => .exc (hx _ _ (fun ps z => by unfold exo at z; cases z) h ha).1 (hx _ _ (fun ps z => by unfold exo at z; cases z) h ha).2 (hx _ _ (fun ps z => by unfold exd at z; cases z) h2 hd).1 (hx _ _ (fun ps z => by unfold exd at z; cases z) h2 hd).2 (RepAll.impL ht hl hs hx r)
  | _, _, .cls C => .cls C
theorem RepAll.impL {K : PySem.W.Frag} {S : Sr} {M M' : List Addr} {H H' : Hp} (ht : ∀ a xs, TAt K M H a xs → TAt K M' H' a xs) (hl : ∀ a xs, LAt K M H a xs → LAt K M' H' a xs) (hs : SrcOk K S H → S.a ∈ M → SrcOk K S H' ∧ S.a ∈ M') (hx : ∀ a o, (∀ ps, o ≠ HO.tbl ps) → a ∉ M → H a = some o → a ∉ M' ∧ H' a = some o) :
    ∀ {vs : List V} {ds : List D}, RepAll K S M H vs ds → RepAll K S M' H' vs ds
  | _, _, .nil => .nil
  | _, _, .cons h t => .cons (Rep.impL ht hl hs hx h) (RepAll.impL ht hl hs hx t)
end
section
variable {K : PySem.W.Frag} {S : Sr} {T : List (Addr × Str)} {H H' : Hp} {v : V} {d : D} {vs : List V} {ds : List D}
theorem rd_extL (e : ExtL K S T H H') {a : Addr} {u : HO} (n : a ≠ S.a) (q : ∀ ps, u ≠ HO.tbl ps) (h : Rd H a u) : Rd H' a u := by
  rcases h with h | ⟨o, h⟩
  · exact .inl (e.keep a _ n q h)
  · exact .inr ⟨o, e.keep a _ n (fun ps z => by cases z) h⟩
theorem Rep.extL (e : ExtL K S T H H') (r : Rep K S [S.a] H v d) : Rep K S [S.a] H' v d :=
  r.impL (fun _ _ h => h.imp (fun z => ⟨z.1, rd_extL e (fun q => z.1 (by rw [q]; simp)) (fun ps z => by cases z) z.2⟩) id) (fun _ _ h => h.imp (fun z => ⟨z.1, rd_extL e (fun q => z.1 (by rw [q]; simp)) (fun ps z => by cases z) z.2⟩) id)
    (fun h q => ⟨e.src h, q⟩) fun a o q n h => ⟨n, e.keep a o (fun z => n (by rw [z]; simp)) q h⟩
theorem RepAll.extL (e : ExtL K S T H H') (r : RepAll K S [S.a] H vs ds) : RepAll K S [S.a] H' vs ds :=
  r.impL (fun _ _ h => h.imp (fun z => ⟨z.1, rd_extL e (fun q => z.1 (by rw [q]; simp)) (fun ps z => by cases z) z.2⟩) id) (fun _ _ h => h.imp (fun z => ⟨z.1, rd_extL e (fun q => z.1 (by rw [q]; simp)) (fun ps z => by cases z) z.2⟩) id)
    (fun h q => ⟨e.src h, q⟩) fun a o q n h => ⟨n, e.keep a o (fun z => n (by rw [z]; simp)) q h⟩
/-- the law's state -/
structure LSt (K : PySem.W.Frag) (S : Sr) (T : List (Addr × Str)) (H : Hp) (σ : L2.St) (Γ : List E) : Prop where
  st : StOk K S [S.a] [] H H σ Γ
  so : SrcOk K S H
  tb : LamX.Tabs T H
theorem LSt.lv {σ Γ} (s : LSt K S T H σ Γ) : Live S H := s.st.live0
theorem LSt.to {σ Γ} (s : LSt K S T H σ Γ) (e : ExtL K S T H H') : LSt K S T H' σ Γ where
  so := e.src s.so
  tb := e.tabs s.so s.tb
  st := {
    len := s.st.len
    ent := fun i g hg => by
      obtain ⟨x, hx, h⟩ := s.st.ent i g hg
      refine ⟨x, hx, ?_⟩
      cases g with
      | no => exact trivial
      | is d =>
        obtain ⟨v, rfl, r⟩ := h
        exact ⟨v, rfl, Rep.extL e r⟩
      | own k ds =>
        obtain ⟨m, vs, rfl, h, _⟩ := h
        simp at h
    ext := .refl
    live0 := live_of (e.src s.so) s.lv.2.2
    mem := by simp
    bl := fun m hm => by
      rw [List.mem_singleton.mp hm]
      exact (live_of (e.src s.so) s.lv.2.2).1
    nd := List.nodup_nil
    out := fun _ h => absurd h (by simp)
    new := fun _ h => absurd h (by simp)
    liv := fun _ h => absurd h (by simp) }
theorem LSt.le {σ Γ Γ'} (s : LSt K S T H σ Γ) (h : Le Γ Γ') : LSt K S T H σ Γ' := ⟨s.st.le h, s.so, s.tb⟩
theorem LSt.set {σ Γ} (s : LSt K S T H σ Γ) (i : Nat) (r : Rep K S [S.a] H v d) : LSt K S T H (σ.set i (some v)) (Γ.set i (.is d)) := ⟨s.st.set i r, s.so, s.tb⟩
end
def LE (X : Cx) (T : List (Addr × Str)) (e : Expr) (Γ : List E) (P : D → Prop) : Prop := ∀ S H σ, LSt X.K S T H σ Γ → ∀ Q : VK, (∀ v d H', ExtL X.K S T H H' → Rep X.K S [S.a] H' v d → P d → Q v H') → semE X e σ H Q
def LT (X : Cx) (T : List (Addr × Str)) (e : Expr) (Γ : List E) (P : Bool → Prop) : Prop := ∀ S H σ, LSt X.K S T H σ Γ → ∀ Q : Bool → Hp → Prop, (∀ b H', ExtL X.K S T H H' → P b → Q b H') → semT X e σ H Q
def LW (X : Cx) (T : List (Addr × Str)) (e : Expr) (Γ : List E) (P : Bool → Prop) : Prop := ∀ S H σ, LSt X.K S T H σ Γ → ∀ Q : Bool → Hp → Prop, (∀ b H', ExtL X.K S T H H' → P b → Q b H') → semW X e σ H Q
def LA (X : Cx) (T : List (Addr × Str)) (es : List Expr) (Γ : List E) (P : List D → Prop) : Prop := ∀ S H σ, LSt X.K S T H σ Γ → ∀ Q : List V → Hp → Prop, (∀ vs ds H', ExtL X.K S T H H' → RepAll X.K S [S.a] H' vs ds → P ds → Q vs H') → semA X es σ H Q
def L1 (X : Cx) (T : List (Addr × Str)) (s : Stmt) (Γ : List E) (po : List E → Prop) (rt : D → Prop) : Prop := ∀ S H σ, LSt X.K S T H σ Γ → ∀ Dn : Ends, (∀ H' σ' Γ', LSt X.K S T H' σ' Γ' → po Γ' → Dn.nx σ' H') → (∀ v d H', Rep X.K S [S.a] H' v d → rt d → Dn.rt v H') → semS X s Dn σ H
def LS (X : Cx) (T : List (Addr × Str)) (s : List Stmt) (Γ : List E) (po : List E → Prop) (rt : D → Prop) : Prop := ∀ S H σ, LSt X.K S T H σ Γ → ∀ Dn : Ends, (∀ H' σ' Γ', LSt X.K S T H' σ' Γ' → po Γ' → Dn.nx σ' H') → (∀ v d H', Rep X.K S [S.a] H' v d → rt d → Dn.rt v H') → semSs X s Dn σ H
section
variable {X : Cx} {T : List (Addr × Str)} {Γ : List E} {pos : Pos} {po : List E → Prop} {rt : D → Prop}
theorem le_ex {e : Expr} {P : D → Prop} (h : EX X e Γ P) : LE X T e Γ P := fun S H σ st Q k => h S [S.a] [] H H σ st.st Q fun v d H' e r p => k v d H' (.of e st.lv) r p
theorem lt_tx {e : Expr} {P : Bool → Prop} (h : TX X e Γ P) : LT X T e Γ P := fun S H σ st Q k => h S [S.a] [] H H σ st.st Q fun b H' e p => k b H' (.of e st.lv) p
theorem la_nil {P : List D → Prop} (h : P []) : LA X T [] Γ P := fun S H σ st Q k => semA_of pa_nil (k [] [] H (.of .refl st.lv) .nil h)
theorem la_cons {e : Expr} {es : List Expr} {P : List D → Prop} (h : LE X T e Γ fun d => LA X T es Γ fun ds => P (d :: ds)) (hs : starEach (e :: es) X.env = (false, eval e X.env) :: starEach es X.env := by rfl) : LA X T (e :: es) Γ P :=
  fun S H σ st Q k => semA_of (pa_cons pe_sem pa_sem hs) (h S H σ st _ fun v d H1 e1 r1 p1 => p1 S H1 σ (st.to e1) _ fun vs ds H2 e2 r2 p2 => k _ _ H2 (e1.trans e2) (.cons (Rep.extL e2 r1) r2) p2)
theorem le_call {x : Str} {W : WA} {P : D → Prop} {p : Pos} {e : Expr} {es : List Expr} (c : CallOk X x W) (hg : Gl X x) (h : LA X T (e :: es) Γ fun ds => W ds P) (hdb : (x == ("__debug__" : Str)) = false := by decide)
    (he : starEach (e :: es) X.env = (false, eval e X.env) :: starEach es X.env := by rfl) (hpl : (backTo pos (starEach es X.env)).any (·.1) = false := by rfl) : LE X T (.Call (.Name x p) (e :: es) [] pos) Γ P := by
  obtain ⟨k, f, fd, ps, n, W0, dvs, dds, us, F, hr, hm, hk, hb, hd, hdd, hW⟩ := c.ex
  refine fun S H σ st Q k => semE_of (pe_call F hr hg hm hk hb hd pass0 pa_sem hdb he hpl) (h S H σ st _ fun vs ds H1 e1 r1 p1 => ?_)
  obtain ⟨h1, h2⟩ := hW _ _ p1
  have st1 := st.to e1
  have r2 := r1.append (hdd S [S.a] H1)
  exact ⟨by rw [r2.length]; exact h1, S, [S.a], ds ++ dds, P, by simp, st1.lv, st1.st.bl, r2, h2, fun v d H' e r p => k v d H' (e1.trans (.of e st1.lv)) r p⟩
theorem le_lst {es : List Expr} {P : D → Prop} (h : LA X T es Γ fun ds => ds.length ≤ 100000 ∧ P (.lst ds)) : LE X T (.List es pos) Γ P :=
  fun S H σ st Q k => semE_of (pe_lst pa_sem) (h S H σ st _ fun vs ds H1 e1 r1 p1 => ⟨by rw [r1.length]; exact small p1.1, fun p np => k _ _ _ (e1.trans (.of (.new np) (st.to e1).lv)) (rep_lst (st.to e1).st r1 np) p1.2⟩)
theorem lt_truth {e : Expr} {P : Bool → Prop} (h : LE X T e Γ (asTru P)) (he : ∀ whole, isTrue e X.env whole = (do let v ← whole; standAt e.pos; holding [v] (truthy v)) := by intro _; rfl) : LT X T e Γ P :=
  fun S H σ st Q k => semT_of (pt_truth pe_sem he) (h S H σ st _ fun v d H1 e1 r1 p1 => let ⟨c, hc, pc⟩ := asTru_use r1 p1; ⟨c, hc, k c H1 e1 pc⟩)
theorem lt_not {e : Expr} {P : Bool → Prop} (h : LT X T e Γ fun b => P (!b)) : LT X T (.UnaryOp .Not e pos) Γ P :=
  fun S H σ st Q k => semT_of (pt_not pt_sem) (h S H σ st _ fun b H1 e1 p1 => k _ H1 e1 p1)
theorem lw_and1 {e : Expr} {P : Bool → Prop} (h : LT X T e Γ P) : LW X T (.BoolOp .And [e] pos) Γ P := fun S H σ st Q k => semW_of (pw_and1 pt_sem) (h S H σ st Q k)
theorem lw_and {e e2 : Expr} {es : List Expr} {P : Bool → Prop} (h : LT X T e Γ fun b => if b then LW X T (.BoolOp .And (e2 :: es) pos) Γ P else P false) : LW X T (.BoolOp .And (e :: e2 :: es) pos) Γ P :=
  fun S H σ st Q k => semW_of (pw_and pt_sem pw_sem) (h S H σ st _ fun b H1 e1 p1 => by
    cases b with
    | true => exact iteT (p1 S H1 σ (st.to e1) Q fun b H2 e2 p2 => k b H2 (e1.trans e2) p2)
    | false => exact iteF (k _ H1 e1 p1))
theorem lt_w {e : Expr} {P : Bool → Prop} (h : LW X T e Γ P) : LT X T e Γ P := fun S H σ st Q k => semT_of (PW.pt pw_sem) (h S H σ st Q k)
theorem lt_cmp {op : CmpOp} {a b : Expr} {w : W2} {P : Bool → Prop} (ho : OpD X (compareOp op) w) (h : LE X T a Γ fun x => LE X T b Γ fun y => w x y (asB P)) (hm : behindInMarks op b = false := by first | exact nomark _ | rfl) : LT X T (.Compare a [op] [b] pos) Γ P :=
  fun S H σ st Q k => semT_of (pt_cmpR op_sem pe_sem pe_sem hm) (h S H σ st _ fun v d H1 e1 r1 p1 => p1 S H1 σ (st.to e1) _ fun v2 d2 H2 e2 r2 p2 => by
    have st2 := st.to (e1.trans e2)
    obtain ⟨r, hr, hq⟩ := ho S [S.a] [] H2 H2 σ Γ _ v v2 d d2 st2.st (Rep.extL e2 r1) r2 p2
    refine semO_of hr (hq _ fun z dz H3 e3 r3 p3 => ?_)
    obtain ⟨b, rfl, rfl, p3⟩ := asB_use r3 p3
    exact ⟨b, rfl, k b H3 ((e1.trans e2).trans (.of e3 st2.lv)) p3⟩)
theorem ls_nil (h : po Γ) : LS X T [] Γ po rt := fun S H σ st Dn k _ => semSs_of pss_nil (k H σ Γ st h)
theorem ls_cons {s : Stmt} {ss : List Stmt} (h : L1 X T s Γ (fun Γ' => LS X T ss Γ' po rt) rt) : LS X T (s :: ss) Γ po rt :=
  fun S H σ st Dn k r => semSs_of (pss_cons ps_sem pss_sem) (h S H σ st _ (fun H' σ' Γ' st' p => p S H' σ' st' Dn k r) r)
theorem l_set (i : Nat) {N : List Str} {x : Str} {e : Expr} {pos' : Pos} (hX : X.N = N) (hnd : N.Nodup) (hN : nth N i = some x) (hx : Loc X.env.scope x) (h : LE X T e Γ fun d => po (put Γ i (.is d)))
    (hs : swapsWith e (some (.Name x pos')) pos.line X.env = pure false := by rfl) (hf : X.fn x = true ∨ X.env.scope.names.lookup x = some .local := by first | exact .inl rfl | exact .inr rfl | assumption) : L1 X T (.Assign [.Name x pos'] e pos) Γ po rt := by
  rw [nth_eq] at hN
  exact fun S H σ st Dn k r => semS_of (ps_set (i := i) (by rw [hX]; exact hnd) (by rw [hX]; exact hN) hx pe_sem hs hf) (h S H σ st _ fun v d H1 e1 r1 p1 => k H1 _ _ ((st.to e1).set i r1) (by rw [← put_eq]; exact p1))
theorem l_asg {e tg : Expr} {gt : TG} {Gd : GD} {js : List Nat} (hg : PG X tg gt) (hG : TgOk X.K gt Gd js) (h : LE X T e Γ fun d => Gd d Γ po) (hs : swapsWithSole [tg] e pos.line X.env = pure false := by rfl) (hw : swappedStores [tg] e X.env = pure none := by rfl)
    (h1 : (assignEach [tg] X.env).map (·.2) = [assign tg X.env] := by rfl) : L1 X T (.Assign [tg] e pos) Γ po rt :=
  fun S H σ st Dn k r => semS_of (ps_asg pe_sem hg hs hw h1) (h S H σ st _ fun v d H1 e1 r1 p1 =>
    hG.ok S [S.a] [] H1 H1 σ Γ v d _ _ (st.to e1).st r1 p1 fun σ' Γ' st' p' _ => k H1 σ' Γ' ⟨st', (st.to e1).so, (st.to e1).tb⟩ p')
/-- if c: ..., c False -/
theorem l_ifF {c : Expr} {a : List Stmt} (h : LT X T c Γ fun b => b = false ∧ po Γ) : L1 X T (.If c a [] pos) Γ po rt :=
  fun S H σ st Dn k r => semS_of (ps_if pt_sem pss_sem pss_sem) (h S H σ st _ fun b H1 e1 p1 => by
    obtain ⟨rfl, p⟩ := p1
    exact iteF (semSs_of pss_nil (k H1 σ Γ (st.to e1) p)))
theorem l_ret {e : Expr} (h : LE X T e Γ rt) : L1 X T (.Return (some e) pos) Γ po rt :=
  fun S H σ st Dn k r => semS_of (ps_ret pe_sem) (h S H σ st _ fun v d H1 e1 r1 p1 => r v d H1 r1 p1)
/-- for i in range(n): the names go back to what they were -/
theorem l_for (j : Nat) {x : Str} {n : Nat} {body : List Stmt} {px p p2 p3 : Pos} {jj} (hp : PassesOwn (model X.prog X.w) X.A X.env X.xe) (hc : X.calm = true) (hn : n ≤ 1000) (hg : Gl X "range") (hm : X.mg "range" = none) (ht : PG X (.Name x px) (gName j)) 
    (h : ∀ i : Nat, i < n → LS X T body (Γ.set j (.is (.int i))) (fun Γ' => Le Γ' Γ) rt) (hq : po Γ) : L1 X T (.For (.Name x px) (.Call (.Name "range" p) [.Constant (.int n) jj p2] [] p3) body [] pos) Γ po rt :=
  fun S H σ st Dn k r => semS_of (ps_for hp hc (pi_range1 hg hm (pa_cons pe_int pa_nil)) ht pss_sem) (by
    refine ⟨n, rfl, by omega, by omega, fun i m σ' H' => m = n - i ∧ i ≤ n ∧ LSt X.K S T H' σ' Γ, ⟨n, by omega, by omega, st⟩, ?_⟩
    rintro i m σ2 H2 ⟨rfl, hi, st2⟩
    by_cases hlt : i < n
    · refine .inr ⟨by show i < _; omega, fun σ' H' => LSt X.K S T H' σ' Γ, fun σ' H' s' => ⟨n - (i + 1), by omega, rfl, hlt, s'⟩, ?_⟩
      rintro v H3 ⟨rfl, rfl⟩
      have := st2.set j (d := .int i) (v := .int (0 + i)) (by rw [Int.zero_add]; exact .int i)
      exact h i hlt S _ _ this _ (fun H' σ' Γ' s' l => s'.le l) r
    · exact .inl ⟨by show _ ≤ i; omega, k H2 σ2 Γ st2 hq⟩)
end
/-- _law_why(lambda: World(a, b)) in the law's body -/
structure WhyOk (X : Cx) (CW CP CT : Addr) (T : List (Addr × Str)) : Prop where
  ex : ∃ (g c P aF aM : Addr) (dV kV doc pm cdv ct oc : Value) (an od : Option Addr) (osl : Array (Option Value)), X.mg "_law_why" = some (.ref g) ∧ PySem.W.keepIn X.K (.ref g) = true ∧ X.K.lookup g = some ⟨oc, od, .func (PySem.W.fnOf "_law_why" "_law_why" (defArgs sWhy) (defBody sWhy) (defScope sWhy) dV kV doc pm an cdv ct), osl⟩ ∧
    PySem.W.codeIn X.K cdv "_law_why" = true ∧ Binds X.K (PySem.W.fnOf "_law_why" "_law_why" (defArgs sWhy) (defBody sWhy) (defScope sWhy) dV kV doc pm an cdv ct) ["_law_ask7"] [] ∧
    LamX.TabB X.base X.mg c P ∧ X.env.code = .ref c ∧ T = [(P, X.env.qual ++ "<lambda>")] ∧ X.mg "FewError" = some (.ref aF) ∧ X.mg "Missing" = some (.ref aM) ∧
    PySem.W.exmAny X.K (.ref CP) [.ref aF, .ref aM] = some true ∧ PySem.W.exmAny X.K (.ref CT) [.ref aF, .ref aM] = some true
  fld : ∃ k, FieldOk X.prog X.w X.K X.mg X.base k ∧ k ≤ 8
  XP : XcI X.K CP
  XT : XcI X.K CT
  WF : WorldF X.prog X.w X.K X.mg X.base CW CP CT
  room : Room 10 X.A
theorem FieldOk.mono {P w K mg base j k} (h : FieldOk P w K mg base j) (l : j ≤ k) : FieldOk P w K mg base k := by
  obtain ⟨f, fd, F, h1, h2, h3⟩ := h
  exact ⟨f, fd, ⟨F.len, fun A outer s H args us vs Q E p hr => F.run A outer s H args us vs Q E p (hr.mono l)⟩, h1, h2, h3⟩
def lamArgs : Arguments := { posonlyargs := [], args := [], vararg := none, kwonlyargs := [], kw_defaults := [], kwarg := none, defaults := [] }
set_option maxHeartbeats 8000000 in
theorem le_whyG {X : Cx} {CW CP CT : Addr} {T : List (Addr × Str)} {Γ : List E} {P : D → Prop} {body : Expr} {scope : Scope} {p lpos pos : Pos} (W : WhyOk X CW CP CT T) (hg : Gl X "_law_why") (L : LamX.LamS X.env.scope scope)
    (h : ∀ (A : Around) (outer : List Env) (s : Shared) (H0 : Hp) (f c' : Addr) (S : Sr) (H : Hp) (σ : L2.St) (Q1 : VK), Room 8 (A.deeper (LamX.lamEnv X scope s.heap.objs.size f c')) → LSt X.K S T H σ Γ → (∀ v H', Ext X.K S H H' → P (.tup [.str "value", .non]) → Q1 v H') →
      semE (LamX.lamCx X A outer s H0 (EchW X.K CP CT S H P) scope f c') body σ H Q1) : LE X T (.Call (.Name "_law_why" p) [.Lambda lamArgs body scope lpos] [] pos) Γ P := by
  obtain ⟨⟨g, c, PT, aF, aM, dV, kV, doc, pm, cdv, ct, oc, an, od, osl, hm, hk, lk, hcd, hb, TB, hcode, rfl, gF, gM, xP, xT⟩, ⟨kf, hF, hkf⟩, XP, XT, WF, room⟩ := W
  refine fun S H σ st Q k => ?_
  have G := why_gives (X := X) (g := g) (CP := CP) (CT := CT) (cdg := cdv) (q := X.env.qual ++ "<lambda>") (k := 8) (hF.mono hkf) (room.mono (by decide)) XP XT gF gM xP xT
  refine semE_of (LamX.pe_lamcall (T := [(PT, X.env.qual ++ "<lambda>")]) (k := 8) (t := fun E σ H Q => ∀ (A : Around) (outer : List Env) (s : Shared) (H0 : Hp) (f c' : Addr), Room 8 (A.deeper (LamX.lamEnv X scope s.heap.objs.size f c')) → semE (LamX.lamCx X A outer s H0 E scope f c') body σ H Q)
    hg hm hk lk hcd hb scWhy rfl (.inl rfl) G TB hcode (by simp) (fun p hp _ => by rw [List.mem_singleton.mp hp]) room L rfl (fun _ _ _ _ _ => rfl) (fun A outer s H0 E f c' hr => ⟨fun pins s1 σ1 H1 Q1 I h1 => h1 A outer s H0 f c' hr pins s1 I⟩)) ?_
  refine ⟨st.tb, fun H1 eN T1 => ?_⟩
  have e1 : ExtL X.K S [(PT, X.env.qual ++ "<lambda>")] H H1 := .lam eN T1
  have st1 := st.to e1
  refine ⟨S, [S.a], P, by simp, st1.lv, st1.so, st1.st.bl, fun v d H' e r pd => k v d H' (e1.trans (.of e st1.lv)) r pd, fun H2 e2 Q1 hQ => fun A outer s H0 f c' hr => ?_⟩
  have st2 := st1.to (.of e2 st1.lv)
  exact h A outer s H0 f c' S H2 σ Q1 hr st2 hQ
end G
set_option Elab.async false
set_option linter.all false
set_option maxRecDepth 100000
set_option maxHeartbeats 4000000
namespace G
open PySem PySem.Spec PyProof.Rows L2
local macro_rules | `(tactic| wtm_at "vis") => `(tactic| first | exact Or.inl rfl | exact Or.inr (Or.inl rfl) | exact Or.inr (Or.inr rfl))
local macro_rules | `(tactic| wtm_at "cal") => `(tactic| first | assumption | exact CallOk.blk (by assumption) | exact CallOkK.blk (by assumption) | exact ConstOk.blk (by assumption))
local macro_rules | `(tactic| wtm_at "nm") => `(tactic| first
  | refine ex_name 0 (by assumption) (by with_reducible rfl) (by with_reducible rfl) (by wtm_at "vis") ?_
  | refine ex_name 1 (by assumption) (by with_reducible rfl) (by with_reducible rfl) (by wtm_at "vis") ?_
  | refine ex_name 2 (by assumption) (by with_reducible rfl) (by with_reducible rfl) (by wtm_at "vis") ?_
  | refine ex_name 3 (by assumption) (by with_reducible rfl) (by with_reducible rfl) (by wtm_at "vis") ?_
  | refine ex_name 4 (by assumption) (by with_reducible rfl) (by with_reducible rfl) (by wtm_at "vis") ?_
  | refine ex_name 5 (by assumption) (by with_reducible rfl) (by with_reducible rfl) (by wtm_at "vis") ?_
  | refine ex_name 6 (by assumption) (by with_reducible rfl) (by with_reducible rfl) (by wtm_at "vis") ?_
  | refine ex_name 7 (by assumption) (by with_reducible rfl) (by with_reducible rfl) (by wtm_at "vis") ?_
  | refine ex_name 8 (by assumption) (by with_reducible rfl) (by with_reducible rfl) (by wtm_at "vis") ?_
  | refine ex_name 9 (by assumption) (by with_reducible rfl) (by with_reducible rfl) (by wtm_at "vis") ?_
  | refine ex_name 10 (by assumption) (by with_reducible rfl) (by with_reducible rfl) (by wtm_at "vis") ?_
  | refine ex_name 11 (by assumption) (by with_reducible rfl) (by with_reducible rfl) (by wtm_at "vis") ?_
  | refine ex_name 12 (by assumption) (by with_reducible rfl) (by with_reducible rfl) (by wtm_at "vis") ?_
  | refine ex_name 13 (by assumption) (by with_reducible rfl) (by with_reducible rfl) (by wtm_at "vis") ?_
  | refine ex_name 14 (by assumption) (by with_reducible rfl) (by with_reducible rfl) (by wtm_at "vis") ?_
  | refine ex_name 15 (by assumption) (by with_reducible rfl) (by with_reducible rfl) (by wtm_at "vis") ?_
  | refine ex_name 16 (by assumption) (by with_reducible rfl) (by with_reducible rfl) (by wtm_at "vis") ?_
  | refine ex_name 17 (by assumption) (by with_reducible rfl) (by with_reducible rfl) (by wtm_at "vis") ?_
  | refine ex_name 18 (by assumption) (by with_reducible rfl) (by with_reducible rfl) (by wtm_at "vis") ?_
  | refine ex_name 19 (by assumption) (by with_reducible rfl) (by with_reducible rfl) (by wtm_at "vis") ?_
  | refine ex_name 20 (by assumption) (by with_reducible rfl) (by with_reducible rfl) (by wtm_at "vis") ?_
  | refine ex_name 21 (by assumption) (by with_reducible rfl) (by with_reducible rfl) (by wtm_at "vis") ?_
  | refine ex_name 22 (by assumption) (by with_reducible rfl) (by with_reducible rfl) (by wtm_at "vis") ?_
  | refine ex_name 23 (by assumption) (by with_reducible rfl) (by with_reducible rfl) (by wtm_at "vis") ?_)
local macro_rules | `(tactic| wtm_at "kb") => `(tactic| first | exact kb0 | exact kb1 | exact kb2 | exact kb3 | exact kb4 | exact kb5 | exact kb6 | exact kb7 | exact kb8 | exact kb9 | exact kb10 | exact kb11 | exact kb12 | exact kb13 | exact kb14 | exact kb15 | exact kb16 | exact kb17 | exact kb18 | exact kb19 | exact kb20 | exact kb21 | exact kb22 | exact kb23 | exact kb24 | exact kb25 | exact kb26 | exact kb27 | exact kb28 | exact kb29)
local macro_rules | `(tactic| wtm_at "loc") => `(tactic| first | exact Or.inl rfl | exact Or.inr rfl)
local macro_rules | `(tactic| wtm_at "set") => `(tactic| first
  | refine s_set 0 (by assumption) (by assumption) (by with_reducible rfl) (by wtm_at "loc") ?_
  | refine s_set 1 (by assumption) (by assumption) (by with_reducible rfl) (by wtm_at "loc") ?_
  | refine s_set 2 (by assumption) (by assumption) (by with_reducible rfl) (by wtm_at "loc") ?_
  | refine s_set 3 (by assumption) (by assumption) (by with_reducible rfl) (by wtm_at "loc") ?_
  | refine s_set 4 (by assumption) (by assumption) (by with_reducible rfl) (by wtm_at "loc") ?_
  | refine s_set 5 (by assumption) (by assumption) (by with_reducible rfl) (by wtm_at "loc") ?_
  | refine s_set 6 (by assumption) (by assumption) (by with_reducible rfl) (by wtm_at "loc") ?_
  | refine s_set 7 (by assumption) (by assumption) (by with_reducible rfl) (by wtm_at "loc") ?_
  | refine s_set 8 (by assumption) (by assumption) (by with_reducible rfl) (by wtm_at "loc") ?_
  | refine s_set 9 (by assumption) (by assumption) (by with_reducible rfl) (by wtm_at "loc") ?_
  | refine s_set 10 (by assumption) (by assumption) (by with_reducible rfl) (by wtm_at "loc") ?_
  | refine s_set 11 (by assumption) (by assumption) (by with_reducible rfl) (by wtm_at "loc") ?_
  | refine s_set 12 (by assumption) (by assumption) (by with_reducible rfl) (by wtm_at "loc") ?_
  | refine s_set 13 (by assumption) (by assumption) (by with_reducible rfl) (by wtm_at "loc") ?_
  | refine s_set 14 (by assumption) (by assumption) (by with_reducible rfl) (by wtm_at "loc") ?_
  | refine s_set 15 (by assumption) (by assumption) (by with_reducible rfl) (by wtm_at "loc") ?_
  | refine s_set 16 (by assumption) (by assumption) (by with_reducible rfl) (by wtm_at "loc") ?_
  | refine s_set 17 (by assumption) (by assumption) (by with_reducible rfl) (by wtm_at "loc") ?_
  | refine s_set 18 (by assumption) (by assumption) (by with_reducible rfl) (by wtm_at "loc") ?_
  | refine s_set 19 (by assumption) (by assumption) (by with_reducible rfl) (by wtm_at "loc") ?_
  | refine s_set 20 (by assumption) (by assumption) (by with_reducible rfl) (by wtm_at "loc") ?_
  | refine s_set 21 (by assumption) (by assumption) (by with_reducible rfl) (by wtm_at "loc") ?_
  | refine s_set 22 (by assumption) (by assumption) (by with_reducible rfl) (by wtm_at "loc") ?_
  | refine s_set 23 (by assumption) (by assumption) (by with_reducible rfl) (by wtm_at "loc") ?_)
local macro_rules | `(tactic| wtm_at "ex") => `(tactic| first
  | ((with_reducible show EX _ (PySem.Expr.Name "int" _) _ _); refine ex_ty (by assumption) (by rfl) bt_int ?_)
  | ((with_reducible show EX _ (PySem.Expr.Name "str" _) _ _); refine ex_ty (by assumption) (by rfl) bt_str ?_)
  | ((with_reducible show EX _ (PySem.Expr.Name "bool" _) _ _); refine ex_ty (by assumption) (by rfl) bt_bool ?_)
  | ((with_reducible show EX _ (PySem.Expr.Name "list" _) _ _); refine ex_ty (by assumption) (by rfl) bt_list ?_)
  | ((with_reducible show EX _ (PySem.Expr.Name "tuple" _) _ _); refine ex_ty (by assumption) (by rfl) bt_tuple ?_)
  | ((with_reducible show EX _ (PySem.Expr.Name _ _) _ _); first | wtm_at "nm" | refine ex_glob (by wtm_at "cal") (by rfl) ?_)
  | ((with_reducible show EX _ (PySem.Expr.Constant (PySem.Const.int _) _ _) _ _); refine ex_int ?_)
  | ((with_reducible show EX _ (PySem.Expr.Constant (PySem.Const.str _) _ _) _ _); refine ex_str ?_)
  | ((with_reducible show EX _ (PySem.Expr.Constant (PySem.Const.bool _) _ _) _ _); refine ex_bl ?_)
  | ((with_reducible show EX _ (PySem.Expr.Constant PySem.Const.none _ _) _ _); refine ex_non ?_)
  | ((with_reducible show EX _ (PySem.Expr.BinOp _ PySem.Operator.Add _ _) _ _); refine ex_bin od_add ?_)
  | ((with_reducible show EX _ (PySem.Expr.BinOp _ PySem.Operator.Sub _ _) _ _); refine ex_bin od_sub ?_)
  | ((with_reducible show EX _ (PySem.Expr.BinOp _ PySem.Operator.Mult _ _) _ _); refine ex_bin od_mul ?_)
  | ((with_reducible show EX _ (PySem.Expr.BinOp _ PySem.Operator.Mod _ _) _ _); refine ex_bin od_mod ?_)
  | ((with_reducible show EX _ (PySem.Expr.BinOp _ PySem.Operator.FloorDiv _ _) _ _); refine ex_bin od_fdiv ?_)
  | ((with_reducible show EX _ (PySem.Expr.BinOp _ PySem.Operator.Pow _ _) _ _); refine ex_bin od_pow ?_)
  | ((with_reducible show EX _ (PySem.Expr.Compare _ [PySem.CmpOp.Eq] _ _) _ _); refine ex_cmp od_eq ?_)
  | ((with_reducible show EX _ (PySem.Expr.Compare _ [PySem.CmpOp.NotEq] _ _) _ _); refine ex_cmp od_ne ?_)
  | ((with_reducible show EX _ (PySem.Expr.Compare _ [PySem.CmpOp.Lt] _ _) _ _); refine ex_cmp od_lt ?_)
  | ((with_reducible show EX _ (PySem.Expr.Compare _ [PySem.CmpOp.LtE] _ _) _ _); refine ex_cmp od_le ?_)
  | ((with_reducible show EX _ (PySem.Expr.Compare _ [PySem.CmpOp.Gt] _ _) _ _); refine ex_cmp od_gt ?_)
  | ((with_reducible show EX _ (PySem.Expr.Compare _ [PySem.CmpOp.GtE] _ _) _ _); refine ex_cmp od_ge ?_)
  | ((with_reducible show EX _ (PySem.Expr.Compare _ [PySem.CmpOp.Is] _ _) _ _); refine ex_cmp od_is ?_)
  | ((with_reducible show EX _ (PySem.Expr.Compare _ [PySem.CmpOp.IsNot] _ _) _ _); refine ex_cmp od_isnot ?_)
  | ((with_reducible show EX _ (PySem.Expr.Compare _ [PySem.CmpOp.LtE, PySem.CmpOp.LtE] _ _) _ _); refine ex_chain od_le od_le ?_)
  | ((with_reducible show EX _ (PySem.Expr.UnaryOp PySem.UnaryOp.USub _ _) _ _); refine ex_neg ?_)
  | ((with_reducible show EX _ (PySem.Expr.UnaryOp PySem.UnaryOp.Not _ _) _ _); refine ex_not ?_)
  | ((with_reducible show EX _ (PySem.Expr.BoolOp PySem.BoolOp.And (_ :: _ :: _) _) _ _); refine ex_and ?_)
  | ((with_reducible show EX _ (PySem.Expr.BoolOp PySem.BoolOp.Or (_ :: _ :: _) _) _ _); refine ex_or ?_)
  | ((with_reducible show EX _ (PySem.Expr.BoolOp _ [_] _) _ _); refine ex_one ?_)
  | ((with_reducible show EX _ (PySem.Expr.IfExp _ _ _ _) _ _); refine ex_ifExp ?_)
  | ((with_reducible show EX _ (PySem.Expr.Tuple _ _ _) _ _); refine ex_tup ?_)
  | ((with_reducible show EX _ (PySem.Expr.List _ _) _ _); refine ex_lst ?_)
  | ((with_reducible show AX _ (_ :: _) _ _); refine ax_cons ?_)
  | ((with_reducible show AX _ [] _ _); refine ax_nil ?_)
  | ((with_reducible show KX _ (_ :: _) _ _); refine kx_cons ?_)
  | ((with_reducible show KX _ [] _ _); refine kx_nil ?_)
  | ((with_reducible show EX _ (PySem.Expr.Call (PySem.Expr.Name "isinstance" _) [_, PySem.Expr.Tuple [_, _] _ _] [] _) _ _); refine ex_isi2 (by assumption) (by rfl) bt_isi ?_)
  | ((with_reducible show EX _ (PySem.Expr.Call (PySem.Expr.Name "isinstance" _) _ [] _) _ _); refine ex_bi bi_isi (by assumption) (by rfl) bt_isi ?_)
  | ((with_reducible show EX _ (PySem.Expr.Call (PySem.Expr.Name "len" _) _ [] _) _ _); refine ex_bi bi_len (by assumption) (by rfl) bt_len ?_)
  | ((with_reducible show EX _ (PySem.Expr.Call (PySem.Expr.Name "abs" _) _ [] _) _ _); refine ex_bi bi_abs (by assumption) (by rfl) bt_abs ?_)
  | ((with_reducible show EX _ (PySem.Expr.Call (PySem.Expr.Name "all" _) _ [] _) _ _); refine ex_bi (bi_all rfl) (by assumption) (by rfl) bt_all ?_)
  | ((with_reducible show EX _ (PySem.Expr.Call (PySem.Expr.Name "int" _) _ [] _) _ _); refine ex_bt bi_int (by assumption) (by rfl) bt_int ?_)
  | ((with_reducible show EX _ (PySem.Expr.Call (PySem.Expr.Name "str" _) _ [] _) _ _); refine ex_bt bi_str (by assumption) (by rfl) bt_str ?_)
  | ((with_reducible show EX _ (PySem.Expr.Call (PySem.Expr.Name "list" _) _ [] _) _ _); refine ex_bt bi_list (by assumption) (by rfl) bt_list ?_)
  | ((with_reducible show EX _ (PySem.Expr.Call (PySem.Expr.Name "tuple" _) _ [] _) _ _); refine ex_bt bi_tuple (by assumption) (by rfl) bt_tuple ?_)
  | ((with_reducible show EX _ (PySem.Expr.Call (PySem.Expr.Name "gcd" _) _ [] _) _ _); refine ex_bf bi_gcd (by assumption) (by rfl) ?_)
  | ((with_reducible show EX _ (PySem.Expr.Call (PySem.Expr.Name _ _) (_ :: _) [] _) _ _); refine ex_call (by wtm_at "cal") (by rfl) ?_)
  | ((with_reducible show EX _ (PySem.Expr.Call (PySem.Expr.Name _ _) [] (_ :: _) _) _ _); refine ex_callK0 (by wtm_at "cal") (by rfl) ?_)
  | ((with_reducible show EX _ (PySem.Expr.Call (PySem.Expr.Name _ _) (_ :: _) (_ :: _) _) _ _); refine ex_callK (by wtm_at "cal") (by rfl) ?_)
  | ((with_reducible show EX _ (PySem.Expr.Subscript _ _ _) _ _); refine ex_ix ?_))
local macro_rules | `(tactic| wtm_at "tx") => `(tactic| first
  | ((with_reducible show TX _ (PySem.Expr.Compare _ [PySem.CmpOp.Eq] _ _) _ _); refine tx_cmp od_eq ?_)
  | ((with_reducible show TX _ (PySem.Expr.Compare _ [PySem.CmpOp.NotEq] _ _) _ _); refine tx_cmp od_ne ?_)
  | ((with_reducible show TX _ (PySem.Expr.Compare _ [PySem.CmpOp.Lt] _ _) _ _); refine tx_cmp od_lt ?_)
  | ((with_reducible show TX _ (PySem.Expr.Compare _ [PySem.CmpOp.LtE] _ _) _ _); refine tx_cmp od_le ?_)
  | ((with_reducible show TX _ (PySem.Expr.Compare _ [PySem.CmpOp.Gt] _ _) _ _); refine tx_cmp od_gt ?_)
  | ((with_reducible show TX _ (PySem.Expr.Compare _ [PySem.CmpOp.GtE] _ _) _ _); refine tx_cmp od_ge ?_)
  | ((with_reducible show TX _ (PySem.Expr.Compare _ [PySem.CmpOp.Is] _ _) _ _); refine tx_cmp od_is ?_)
  | ((with_reducible show TX _ (PySem.Expr.Compare _ [PySem.CmpOp.IsNot] _ _) _ _); refine tx_cmp od_isnot ?_)
  | ((with_reducible show TX _ (PySem.Expr.Compare _ [PySem.CmpOp.LtE, PySem.CmpOp.LtE] _ _) _ _); refine tx_chain od_le od_le ?_)
  | ((with_reducible show TX _ (PySem.Expr.UnaryOp PySem.UnaryOp.Not _ _) _ _); refine tx_not ?_)
  | ((with_reducible show TX _ (PySem.Expr.BoolOp _ _ _) _ _); refine tx_w ?_)
  | ((with_reducible show TW _ (PySem.Expr.BoolOp PySem.BoolOp.And (_ :: _ :: _) _) _ _); refine tw_and ?_)
  | ((with_reducible show TW _ (PySem.Expr.BoolOp PySem.BoolOp.Or (_ :: _ :: _) _) _ _); refine tw_or ?_)
  | ((with_reducible show TW _ (PySem.Expr.BoolOp PySem.BoolOp.And [_] _) _ _); refine tw_and1 ?_)
  | ((with_reducible show TW _ (PySem.Expr.BoolOp PySem.BoolOp.Or [_] _) _ _); refine tw_or1 ?_)
  | ((with_reducible show TX _ _ _ _); refine tx_truth ?_))
local macro_rules | `(tactic| wtm_at "st") => `(tactic| first
  | ((with_reducible show SX _ [_] _ _); refine sx_one ?_)
  | ((with_reducible show SX _ (_ :: _) _ _); refine sx_cons ?_)
  | ((with_reducible show SX _ [] _ _); refine sx_nil ?_)
  | ((with_reducible show S1 _ (PySem.Stmt.Return (some _) _) _ _); refine s_ret ?_)
  | ((with_reducible show S1 _ (PySem.Stmt.If _ _ _ _) _ _); refine s_if ?_)
  | ((with_reducible show S1 _ (PySem.Stmt.Expr _ _) _ _); refine s_expr ?_)
  | ((with_reducible show S1 _ (PySem.Stmt.Pass _) _ _); refine s_pass ?_)
  | ((with_reducible show S1 _ (PySem.Stmt.Assign [PySem.Expr.Name _ _] _ _) _ _); wtm_at "set"))
local macro_rules | `(tactic| wtm_at "op") => `(tactic| with_reducible first
  | refine o_add ?_
  | refine o_sub ?_
  | refine o_lt ?_
  | refine o_le ?_
  | refine o_gt ?_
  | refine o_ge ?_
  | refine o_is ?_
  | refine o_isnot ?_
  | refine o_lenl ?_
  | refine o_lent ?_
  | refine o_abs ?_
  | refine o_int ?_
  | refine o_listl ?_
  | refine o_listt ?_
  | refine o_tupl ?_
  | refine o_tupt ?_
  | refine o_all ?_
  | refine o_gcd ?_
  | refine o_asB ?_
  | refine o_asI ?_
  | refine o_asL ?_
  | refine o_asT ?_
  | refine o_truB ?_
  | refine o_truN ?_
  | refine o_truL ?_
  | refine o_truT ?_
  | refine if_t ?_
  | refine if_f ?_
  | refine if_nf ?_
  | refine if_nt ?_)
local macro_rules | `(tactic| wtm_at "op2") => `(tactic| first
  | ((with_reducible show if _ = true then _ else _); first | refine if_ev_t rfl ?_ | refine if_ev_f rfl ?_)
  | ((with_reducible show wIsi [_, D.ty _] _); refine o_isi rfl (by wtm_at "kb") ?_)
  | ((with_reducible show wEq _ _ _); refine o_eq rfl ?_)
  | ((with_reducible show wNe _ _ _); refine o_ne rfl ?_)
  | ((with_reducible show wIx (D.lst _) (D.int _) _); refine o_ixl rfl ?_)
  | ((with_reducible show wIx (D.tup _) (D.int _) _); refine o_ixt rfl ?_)
  | ((with_reducible show wPow _ _ _); refine o_pow ⟨by decide, by decide, by decide⟩ ?_)
  | ((with_reducible show (_ ≤ 100000) ∧ _); refine ⟨Nat.le_of_ble_eq_true rfl, ?_⟩)
  | ((with_reducible show ∃ n1 n2 t k1 k2, _); refine o_isi2 rfl (by wtm_at "kb") (by wtm_at "kb") ?_))
local macro_rules | `(tactic| wtm_at "go") => `(tactic| first | wtm_at "ex" | wtm_at "op" | wtm_at "op2" | wtm_at "tx" | wtm_at "st")
local macro_rules | `(tactic| wtm_at "ex") => `(tactic| first
  | ((with_reducible show EX _ (PySem.Expr.Compare _ [PySem.CmpOp.In] _ _) _ _); refine ex_cmp od_in ?_)
  | ((with_reducible show EX _ (PySem.Expr.Attribute _ _ _) _ _); refine ex_fld ?_)
  | ((with_reducible show EX _ (PySem.Expr.Call (PySem.Expr.Name _ _) (_ :: _) [] _) _ _); refine ex_make (by assumption) (by rfl) ?_)
  | ((with_reducible show EX _ (PySem.Expr.Call (PySem.Expr.Name _ _) [] [] _) _ _); first | refine ex_make0 (by assumption) (by rfl) ?_ | refine ex_call0 (by wtm_at "cal") (by rfl) ?_))
local macro_rules | `(tactic| wtm_at "op2") => `(tactic| first
  | ((with_reducible show wIn (D.str _) (D.lst _) _); refine o_in rfl ?_))
local macro_rules | `(tactic| wtm_at "tx") => `(tactic| first
  | ((with_reducible show TX _ (PySem.Expr.Compare _ [PySem.CmpOp.In] _ _) _ _); refine tx_cmp od_in ?_))
/-! ### what World says of the law's lists -/
theorem fwAt_pre (p : D → Bool) (most : Int) : ∀ (pre rest : List D) (ns : List Str) (i : Nat), (∀ r ∈ pre, p r = true) → ((i + pre.length : Nat) : Int) ≤ most → (∀ r ∈ pre, nameD r ∉ ns) → (pre.map nameD).Nodup →
    fwAt p most ns i (pre ++ rest) = fwAt p most (ns ++ pre.map nameD) (i + pre.length) rest
  | [], rest, ns, i, _, _, _, _ => by simp
  | r :: pre, rest, ns, i, h, hl, hn, nd => by
    rw [List.map_cons, List.nodup_cons] at nd
    have h1 : ¬ ((i : Int) = most) := by rw [List.length_cons] at hl; omega
    have h2 : p r = true := h r (by simp)
    have h3 : nameD r ∉ ns := hn r (by simp)
    rw [List.cons_append]
    conv => lhs; unfold fwAt
    rw [if_neg (by simp [h1, h2, h3])]
    rw [fwAt_pre p most pre rest (ns ++ [nameD r]) (i + 1) (fun x hx => h x (by simp [hx])) (by rw [List.length_cons] at hl; omega) (fun x hx z => ?_) nd.2]
    · rw [List.map_cons, List.append_assoc, List.length_cons]
      congr 1
      omega
    · rcases List.mem_append.mp z with z | z
      · exact hn x (by simp [hx]) z
      · exact nd.1 (by rw [← List.mem_singleton.mp z]; exact List.mem_map_of_mem hx)
theorem fwD_bad {p : D → Bool} {most : Int} {pre rest : List D} {bad : D} (h : ∀ r ∈ pre, p r = true) (hl : (pre.length : Int) ≤ most) (nd : (pre.map nameD).Nodup) (hb : p bad = false ∨ (pre.length : Int) = most ∨ nameD bad ∈ pre.map nameD) : fwD p most (pre ++ bad :: rest) = .int (pre.length : Int) := by
  unfold fwD
  rw [if_neg (by simp), fwAt_pre p most pre (bad :: rest) [] 0 h (by rw [Nat.zero_add]; exact hl) (by simp) nd]
  unfold fwAt
  rw [if_pos (by
    rw [Nat.zero_add, List.nil_append]
    rcases hb with z | z | z
    · simp [z]
    · simp [z]
    · rw [Bool.or_eq_true, decide_eq_true_eq]; exact .inr z), Nat.zero_add]
theorem fwD_good {p : D → Bool} {most : Int} {l : List D} (h : ∀ r ∈ l, p r = true) (h1 : 1 ≤ l.length) (hl : (l.length : Int) ≤ most) (nd : (l.map nameD).Nodup) : fwD p most l = .non := by
  unfold fwD
  rw [if_neg (by cases l <;> simp at h1 ⊢)]
  have := fwAt_pre p most l [] [] 0 h (by rw [Nat.zero_add]; exact hl) (by simp) nd
  rw [List.append_nil] at this
  rw [this]
  rfl
theorem name_ok {n : Str} (h : Nm n) : isNameD (.str n) = true := by
  unfold isNameD
  rw [Bool.and_eq_true, Bool.and_eq_true]
  exact ⟨⟨decide_eq_true (by have := h.1; omega), decide_eq_true (by have := h.2.1; omega)⟩, List.all_eq_true.mpr fun c hc => decide_eq_true (h.2.2 c hc)⟩
theorem part_two (x : D) (zs : List D) : isPartD (.tup [x, .tup zs]) = (isNameD x && ((decide (1 ≤ (zs.length : Int)) && decide ((zs.length : Int) ≤ 3)) && zs.all fun z => wholeB z 1 (10 ^ 30))) := rfl
theorem shs_ints {zs : List D} (h : ∀ z ∈ zs, Size1 z) (n : Nat) : zs.all (shs n) = true := List.all_eq_true.mpr fun z hz => by
  obtain ⟨k, rfl, _⟩ := h z hz
  cases n <;> rfl
theorem shs_nm {s : Str} (h : s.length ≤ 1000) (n : Nat) : shs n (.str s) = true := by
  cases n <;> simp [shs, h]
theorem part_ok {r : D} (h : PRow r) : isPartD r = true ∧ shs 2 r = true := by
  obtain ⟨n, zs, rfl, hn, h1, h2, hz⟩ := h
  have hl := hn.2.1
  refine ⟨?_, ?_⟩
  · rw [part_two, name_ok hn, Bool.true_and, Bool.and_eq_true, Bool.and_eq_true]
    refine ⟨⟨decide_eq_true (by omega), decide_eq_true (by omega)⟩, List.all_eq_true.mpr fun z hz' => ?_⟩
    obtain ⟨k, rfl, a, b⟩ := hz z hz'
    unfold wholeB
    rw [Bool.and_eq_true]
    exact ⟨decide_eq_true a, decide_eq_true b⟩
  · simp [shs, shs_ints hz 0]
    omega
theorem trait_ok {r : D} (h : KRow r) : isTraitD r = true ∧ shs 2 r = true := by
  obtain ⟨n, e, b1, b2, rfl, hn, h1, h2⟩ := h
  have hl := hn.2.1
  refine ⟨?_, ?_⟩
  · show (isNameD (.str n) && (wholeB (.int e) 1 3 && (true && true))) = true
    rw [name_ok hn]
    simp [wholeB, h1, h2]
  · simp [shs]
    omega
def OddP (d : D) : Prop := isPartD d = false ∧ shs 2 d = true
def OddT (d : D) : Prop := isTraitD d = false ∧ shs 2 d = true
theorem odd_parts {n : Str} {zs : List D} (hn : Nm n) (h1 : 1 ≤ zs.length) (h2 : zs.length ≤ 3) (hz : ∀ z ∈ zs, Size1 z) : ∀ d ∈ ([.non, .lst [.str n, .tup zs], .tup [.str n], .tup [.str n, .lst zs], .tup [.str n, .tup []], .tup [.str n, .tup (zs ++ [.int 1, .int 1, .int 1])], .tup [.str "Name", .tup zs], .tup [.str "", .tup zs], .tup [.str "abcdefghi", .tup zs],
    .tup [.str n, .tup [.int 0]], .tup [.str n, .tup [.bl true]], .tup [.str n, .tup (cutD zs none (some (-1)) ++ [.int (10 ^ 30 + 1)])], .tup [.str n, .tup [.str "2"]], .tup [.str n, .tup zs, .int 1], .tup [.str n, .int 2], .tup [.int 3, .tup zs]] : List D), OddP d := by
  have hl := hn.2.1
  have a0 := shs_ints hz 0
  have a1 := shs_ints hz 1
  have b1 := shs_nm (s := n) (by omega) 1
  have bt : ∀ {l : List D} {k : Nat}, l.length ≤ 1000 → l.all (shs k) = true → shs (k + 1) (.tup l) = true := fun a b => by simp only [shs]; rw [b]; simp [a]
  have bl : ∀ {l : List D} {k : Nat}, l.length ≤ 1000 → l.all (shs k) = true → shs (k + 1) (.lst l) = true := fun a b => by simp only [shs]; rw [b]; simp [a]
  have zt : shs 1 (.tup zs) = true := bt (by omega) a0
  have zl : shs 1 (.lst zs) = true := bl (by omega) a0
  have two : ∀ {x y : D}, shs 1 x = true → shs 1 y = true → shs 2 (.tup [x, y]) = true := fun a b => bt (by simp) (by simp [a, b])
  have cut : ∀ z ∈ cutD zs none (some (-1)), Size1 z := fun z hz' => hz z (List.mem_of_mem_drop (List.mem_of_mem_take hz'))
  have cl : (cutD zs none (some (-1))).length ≤ 3 := by unfold cutD; rw [List.length_take, List.length_drop]; omega
  intro d hd
  simp only [List.mem_cons, List.not_mem_nil, or_false] at hd
  rcases hd with rfl | rfl | rfl | rfl | rfl | rfl | rfl | rfl | rfl | rfl | rfl | rfl | rfl | rfl | rfl | rfl
  · exact ⟨rfl, rfl⟩
  · exact ⟨rfl, bl (by simp) (by simp [b1, zt])⟩
  · exact ⟨rfl, bt (by simp) (by simp [b1])⟩
  · exact ⟨rfl, two b1 zl⟩
  · exact ⟨by rw [part_two]; simp, two b1 rfl⟩
  · refine ⟨?_, two b1 (bt (by simp; omega) (by rw [List.all_append, a0]; rfl))⟩
    rw [part_two, show decide ((((zs ++ [D.int 1, .int 1, .int 1] : List D)).length : Int) ≤ 3) = false from decide_eq_false (by rw [List.length_append]; simp; omega)]
    simp
  · exact ⟨by rw [part_two, show isNameD (.str "Name") = false from by decide +kernel]; rfl, two (by decide +kernel) zt⟩
  · exact ⟨by rw [part_two, show isNameD (.str "") = false from by decide +kernel]; rfl, two (by decide +kernel) zt⟩
  · exact ⟨by rw [part_two, show isNameD (.str "abcdefghi") = false from by decide +kernel]; rfl, two (by decide +kernel) zt⟩
  · exact ⟨by rw [part_two]; simp [wholeB], two b1 rfl⟩
  · exact ⟨by rw [part_two]; simp [wholeB], two b1 rfl⟩
  · refine ⟨?_, two b1 (bt (by simp; omega) (by rw [List.all_append, shs_ints cut 0]; rfl))⟩
    rw [part_two, show ((cutD zs none (some (-1)) ++ [D.int (10 ^ 30 + 1)]).all fun z => wholeB z 1 (10 ^ 30)) = false from by rw [List.all_append, show ([D.int (10 ^ 30 + 1)].all fun z => wholeB z 1 (10 ^ 30)) = false from by decide +kernel, Bool.and_false]]
    simp
  · exact ⟨by rw [part_two]; simp [wholeB], two b1 (by decide +kernel)⟩
  · exact ⟨rfl, bt (by simp) (by simp only [List.all_cons, List.all_nil, b1, zt]; rfl)⟩
  · exact ⟨rfl, two b1 rfl⟩
  · exact ⟨by rw [part_two]; simp [isNameD], two rfl zt⟩
theorem odd_traits {n : Str} {e : Int} {b1 b2 : Bool} (hn : Nm n) : ∀ d ∈ ([.non, .lst [.str n, .int e, .bl b1, .bl b2], .tup [.str n, .int e, .bl b1], .tup [.str n, .int e, .bl b1, .bl b2, .bl true], .tup [.str n, .int 0, .bl true, .bl true], .tup [.str n, .int 4, .bl true, .bl true], .tup [.str n, .bl true, .bl false, .bl false],
    .tup [.str n, .int 1, .int 0, .bl false], .tup [.str n, .int 1, .bl false, .non], .tup [.str "A", .int e, .bl b1, .bl b2], .tup [.str n, .str "1", .bl false, .bl false]] : List D), OddT d := by
  have hl := hn.2.1
  have hb := shs_nm (s := n) (by omega) 1
  intro d hd
  simp only [List.mem_cons, List.not_mem_nil, or_false] at hd
  have four : ∀ (x e f g : D), isTraitD (.tup [x, e, f, g]) = (isNameD x && (wholeB e 1 3 && (isBl f && isBl g))) := fun _ _ _ _ => rfl
  rcases hd with rfl | rfl | rfl | rfl | rfl | rfl | rfl | rfl | rfl | rfl | rfl
  · exact ⟨rfl, rfl⟩
  · exact ⟨rfl, by simp [shs]; omega⟩
  · exact ⟨rfl, by simp [shs]; omega⟩
  · exact ⟨rfl, by simp [shs]; omega⟩
  · exact ⟨by rw [four]; simp [wholeB], by simp [shs]; omega⟩
  · exact ⟨by rw [four]; simp [wholeB], by simp [shs]; omega⟩
  · exact ⟨by rw [four]; simp [wholeB], by simp [shs]; omega⟩
  · exact ⟨by rw [four]; simp [isBl], by simp [shs]; omega⟩
  · exact ⟨by rw [four]; simp [isBl], by simp [shs]; omega⟩
  · exact ⟨by rw [four, show isNameD (.str "A") = false from by decide +kernel]; rfl, by simp [shs]; decide +kernel⟩
  · exact ⟨by rw [four]; simp [wholeB], by simp [shs]; exact ⟨by omega, by decide +kernel⟩⟩
structure GoodP (rows : List D) : Prop where
  h1 : 1 ≤ rows.length
  h2 : rows.length ≤ 3
  h : ∀ r ∈ rows, PRow r
  nd : (rows.map nameD).Nodup
structure GoodK (rows : List D) : Prop where
  h1 : 1 ≤ rows.length
  h2 : rows.length ≤ 6
  h : ∀ r ∈ rows, KRow r
  nd : (rows.map nameD).Nodup
theorem GoodP.ok {l} (g : GoodP l) : RowsOk l := ⟨by have := g.h2; omega, fun r hr => (part_ok (g.h r hr)).2⟩
theorem GoodK.ok {l} (g : GoodK l) : RowsOk l := ⟨by have := g.h2; omega, fun r hr => (trait_ok (g.h r hr)).2⟩
theorem RowsOk.app {a b : List D} (h : RowsOk a) (h' : RowsOk b) (hl : a.length + b.length ≤ 1000) : RowsOk (a ++ b) := ⟨by rw [List.length_append]; exact hl, fun r hr => (List.mem_append.mp hr).elim (h.2 r) (h'.2 r)⟩
theorem RowsOk.cut {a : List D} (h : RowsOk a) (lo hi : Option Int) : RowsOk (cutD a lo hi) := ⟨by unfold cutD; rw [List.length_take, List.length_drop]; have := h.1; omega, fun r hr => h.2 r (List.mem_of_mem_drop (List.mem_of_mem_take hr))⟩
theorem RowsOk.one {d : D} (h : shs 2 d = true) : RowsOk [d] := ⟨by simp, fun r hr => by rw [List.mem_singleton.mp hr]; exact h⟩
theorem cut_pre {l : List D} {a : Nat} (h : a ≤ l.length) : cutD l none (some (a : Int)) = l.take a := by
  unfold cutD
  rw [HT.sIx_none, HT.sIx_nat, List.drop_zero, Nat.sub_zero, Nat.min_eq_left h]
theorem cut_suf {l : List D} {a : Nat} (h : a ≤ l.length) : cutD l (some (a : Int)) none = l.drop a := by
  unfold cutD
  rw [HT.sIx_none, HT.sIx_nat, Nat.min_eq_left h]
  exact List.take_of_length_le (by rw [List.length_drop]; exact Nat.le_refl _)
theorem take_nd {l : List D} (h : (l.map nameD).Nodup) (a : Nat) : ((l.take a).map nameD).Nodup := by
  rw [List.map_take]
  exact h.sublist (List.take_sublist _ _)
/-- a wrong part -/
theorem wd_part {rows rest ks : List D} {bad : D} {a : Nat} (g : GoodP rows) (ha : a ≤ rows.length) (hb : isPartD bad = false) : worldD (rows.take a ++ bad :: rest) ks = .tup [.str "InvalidPart", .int (a : Int)] := by
  have hl : (rows.take a).length = a := by rw [List.length_take]; omega
  have e := fwD_bad (p := isPartD) (most := 3) (pre := rows.take a) (rest := rest) (bad := bad) (fun r hr => (part_ok (g.h r (List.mem_of_mem_take hr))).1) (by rw [hl]; have := g.h2; omega) (take_nd g.nd a) (.inl hb)
  rw [hl] at e
  unfold worldD worldErr
  rw [e]
theorem wd_partN {rows ks : List D} {bad : D} (g : GoodP rows) (hb : nameD bad ∈ rows.map nameD ∨ rows.length = 3) : worldD (rows ++ [bad]) ks = .tup [.str "InvalidPart", .int (rows.length : Int)] := by
  have e := fwD_bad (p := isPartD) (most := 3) (pre := rows) (rest := []) (bad := bad) (fun r hr => (part_ok (g.h r hr)).1) (by have := g.h2; omega) g.nd (hb.elim (fun h => .inr (.inr h)) fun h => .inr (.inl (by rw [h]; rfl)))
  unfold worldD worldErr
  rw [e]
theorem fw_parts {rows : List D} (g : GoodP rows) : fwD isPartD 3 rows = .non := fwD_good (fun r hr => (part_ok (g.h r hr)).1) g.h1 (by have := g.h2; omega) g.nd
theorem wd_trait {rows ks rest : List D} {bad : D} {a : Nat} (g : GoodP rows) (k : GoodK ks) (ha : a ≤ ks.length) (hb : isTraitD bad = false) : worldD rows (ks.take a ++ bad :: rest) = .tup [.str "InvalidTrait", .int (a : Int)] := by
  have hl : (ks.take a).length = a := by rw [List.length_take]; omega
  have e := fwD_bad (p := isTraitD) (most := 6) (pre := ks.take a) (rest := rest) (bad := bad) (fun r hr => (trait_ok (k.h r (List.mem_of_mem_take hr))).1) (by rw [hl]; have := k.h2; omega) (take_nd k.nd a) (.inl hb)
  rw [hl] at e
  unfold worldD worldErr
  rw [fw_parts g, e]
theorem wd_traitN {rows ks : List D} {bad : D} (g : GoodP rows) (k : GoodK ks) (hb : nameD bad ∈ ks.map nameD) : worldD rows (ks ++ [bad]) = .tup [.str "InvalidTrait", .int (ks.length : Int)] := by
  have e := fwD_bad (p := isTraitD) (most := 6) (pre := ks) (rest := []) (bad := bad) (fun r hr => (trait_ok (k.h r hr)).1) (by have := k.h2; omega) k.nd (.inr (.inr hb))
  unfold worldD worldErr
  rw [fw_parts g, e]
theorem wd_good {rows ks : List D} (g : GoodP rows) (k : GoodK ks) : worldD rows ks = .tup [.str "value", .non] := by
  have e : fwD isTraitD 6 ks = .non := fwD_good (fun r hr => (trait_ok (k.h r hr)).1) k.h1 (by have := k.h2; omega) k.nd
  unfold worldD worldErr
  rw [fw_parts g, e]
end G
set_option Elab.async false
set_option linter.all false
set_option maxRecDepth 100000
set_option maxHeartbeats 4000000
namespace G
open PySem PySem.Spec PyProof.Rows L2
local macro_rules | `(tactic| wtm_at "vis") => `(tactic| first | exact Or.inl rfl | exact Or.inr (Or.inl rfl) | exact Or.inr (Or.inr rfl))
local macro_rules | `(tactic| wtm_at "cal") => `(tactic| first | assumption | exact CallOk.blk (by assumption) | exact CallOkK.blk (by assumption) | exact ConstOk.blk (by assumption))
local macro_rules | `(tactic| wtm_at "nm") => `(tactic| first
  | refine ex_name 0 (by assumption) (by with_reducible rfl) (by with_reducible rfl) (by wtm_at "vis") ?_
  | refine ex_name 1 (by assumption) (by with_reducible rfl) (by with_reducible rfl) (by wtm_at "vis") ?_
  | refine ex_name 2 (by assumption) (by with_reducible rfl) (by with_reducible rfl) (by wtm_at "vis") ?_
  | refine ex_name 3 (by assumption) (by with_reducible rfl) (by with_reducible rfl) (by wtm_at "vis") ?_
  | refine ex_name 4 (by assumption) (by with_reducible rfl) (by with_reducible rfl) (by wtm_at "vis") ?_
  | refine ex_name 5 (by assumption) (by with_reducible rfl) (by with_reducible rfl) (by wtm_at "vis") ?_
  | refine ex_name 6 (by assumption) (by with_reducible rfl) (by with_reducible rfl) (by wtm_at "vis") ?_
  | refine ex_name 7 (by assumption) (by with_reducible rfl) (by with_reducible rfl) (by wtm_at "vis") ?_
  | refine ex_name 8 (by assumption) (by with_reducible rfl) (by with_reducible rfl) (by wtm_at "vis") ?_
  | refine ex_name 9 (by assumption) (by with_reducible rfl) (by with_reducible rfl) (by wtm_at "vis") ?_
  | refine ex_name 10 (by assumption) (by with_reducible rfl) (by with_reducible rfl) (by wtm_at "vis") ?_
  | refine ex_name 11 (by assumption) (by with_reducible rfl) (by with_reducible rfl) (by wtm_at "vis") ?_
  | refine ex_name 12 (by assumption) (by with_reducible rfl) (by with_reducible rfl) (by wtm_at "vis") ?_
  | refine ex_name 13 (by assumption) (by with_reducible rfl) (by with_reducible rfl) (by wtm_at "vis") ?_
  | refine ex_name 14 (by assumption) (by with_reducible rfl) (by with_reducible rfl) (by wtm_at "vis") ?_
  | refine ex_name 15 (by assumption) (by with_reducible rfl) (by with_reducible rfl) (by wtm_at "vis") ?_
  | refine ex_name 16 (by assumption) (by with_reducible rfl) (by with_reducible rfl) (by wtm_at "vis") ?_
  | refine ex_name 17 (by assumption) (by with_reducible rfl) (by with_reducible rfl) (by wtm_at "vis") ?_
  | refine ex_name 18 (by assumption) (by with_reducible rfl) (by with_reducible rfl) (by wtm_at "vis") ?_
  | refine ex_name 19 (by assumption) (by with_reducible rfl) (by with_reducible rfl) (by wtm_at "vis") ?_
  | refine ex_name 20 (by assumption) (by with_reducible rfl) (by with_reducible rfl) (by wtm_at "vis") ?_
  | refine ex_name 21 (by assumption) (by with_reducible rfl) (by with_reducible rfl) (by wtm_at "vis") ?_
  | refine ex_name 22 (by assumption) (by with_reducible rfl) (by with_reducible rfl) (by wtm_at "vis") ?_
  | refine ex_name 23 (by assumption) (by with_reducible rfl) (by with_reducible rfl) (by wtm_at "vis") ?_)
local macro_rules | `(tactic| wtm_at "kb") => `(tactic| first | exact kb0 | exact kb1 | exact kb2 | exact kb3 | exact kb4 | exact kb5 | exact kb6 | exact kb7 | exact kb8 | exact kb9 | exact kb10 | exact kb11 | exact kb12 | exact kb13 | exact kb14 | exact kb15 | exact kb16 | exact kb17 | exact kb18 | exact kb19 | exact kb20 | exact kb21 | exact kb22 | exact kb23 | exact kb24 | exact kb25 | exact kb26 | exact kb27 | exact kb28 | exact kb29)
local macro_rules | `(tactic| wtm_at "loc") => `(tactic| first | exact Or.inl rfl | exact Or.inr rfl)
local macro_rules | `(tactic| wtm_at "set") => `(tactic| first
  | refine s_set 0 (by assumption) (by assumption) (by with_reducible rfl) (by wtm_at "loc") ?_
  | refine s_set 1 (by assumption) (by assumption) (by with_reducible rfl) (by wtm_at "loc") ?_
  | refine s_set 2 (by assumption) (by assumption) (by with_reducible rfl) (by wtm_at "loc") ?_
  | refine s_set 3 (by assumption) (by assumption) (by with_reducible rfl) (by wtm_at "loc") ?_
  | refine s_set 4 (by assumption) (by assumption) (by with_reducible rfl) (by wtm_at "loc") ?_
  | refine s_set 5 (by assumption) (by assumption) (by with_reducible rfl) (by wtm_at "loc") ?_
  | refine s_set 6 (by assumption) (by assumption) (by with_reducible rfl) (by wtm_at "loc") ?_
  | refine s_set 7 (by assumption) (by assumption) (by with_reducible rfl) (by wtm_at "loc") ?_
  | refine s_set 8 (by assumption) (by assumption) (by with_reducible rfl) (by wtm_at "loc") ?_
  | refine s_set 9 (by assumption) (by assumption) (by with_reducible rfl) (by wtm_at "loc") ?_
  | refine s_set 10 (by assumption) (by assumption) (by with_reducible rfl) (by wtm_at "loc") ?_
  | refine s_set 11 (by assumption) (by assumption) (by with_reducible rfl) (by wtm_at "loc") ?_
  | refine s_set 12 (by assumption) (by assumption) (by with_reducible rfl) (by wtm_at "loc") ?_
  | refine s_set 13 (by assumption) (by assumption) (by with_reducible rfl) (by wtm_at "loc") ?_
  | refine s_set 14 (by assumption) (by assumption) (by with_reducible rfl) (by wtm_at "loc") ?_
  | refine s_set 15 (by assumption) (by assumption) (by with_reducible rfl) (by wtm_at "loc") ?_
  | refine s_set 16 (by assumption) (by assumption) (by with_reducible rfl) (by wtm_at "loc") ?_
  | refine s_set 17 (by assumption) (by assumption) (by with_reducible rfl) (by wtm_at "loc") ?_
  | refine s_set 18 (by assumption) (by assumption) (by with_reducible rfl) (by wtm_at "loc") ?_
  | refine s_set 19 (by assumption) (by assumption) (by with_reducible rfl) (by wtm_at "loc") ?_
  | refine s_set 20 (by assumption) (by assumption) (by with_reducible rfl) (by wtm_at "loc") ?_
  | refine s_set 21 (by assumption) (by assumption) (by with_reducible rfl) (by wtm_at "loc") ?_
  | refine s_set 22 (by assumption) (by assumption) (by with_reducible rfl) (by wtm_at "loc") ?_
  | refine s_set 23 (by assumption) (by assumption) (by with_reducible rfl) (by wtm_at "loc") ?_)
local macro_rules | `(tactic| wtm_at "ex") => `(tactic| first
  | ((with_reducible show EX _ (PySem.Expr.Name "int" _) _ _); refine ex_ty (by assumption) (by rfl) bt_int ?_)
  | ((with_reducible show EX _ (PySem.Expr.Name "str" _) _ _); refine ex_ty (by assumption) (by rfl) bt_str ?_)
  | ((with_reducible show EX _ (PySem.Expr.Name "bool" _) _ _); refine ex_ty (by assumption) (by rfl) bt_bool ?_)
  | ((with_reducible show EX _ (PySem.Expr.Name "list" _) _ _); refine ex_ty (by assumption) (by rfl) bt_list ?_)
  | ((with_reducible show EX _ (PySem.Expr.Name "tuple" _) _ _); refine ex_ty (by assumption) (by rfl) bt_tuple ?_)
  | ((with_reducible show EX _ (PySem.Expr.Name _ _) _ _); first | wtm_at "nm" | refine ex_glob (by wtm_at "cal") (by rfl) ?_)
  | ((with_reducible show EX _ (PySem.Expr.Constant (PySem.Const.int _) _ _) _ _); refine ex_int ?_)
  | ((with_reducible show EX _ (PySem.Expr.Constant (PySem.Const.str _) _ _) _ _); refine ex_str ?_)
  | ((with_reducible show EX _ (PySem.Expr.Constant (PySem.Const.bool _) _ _) _ _); refine ex_bl ?_)
  | ((with_reducible show EX _ (PySem.Expr.Constant PySem.Const.none _ _) _ _); refine ex_non ?_)
  | ((with_reducible show EX _ (PySem.Expr.BinOp _ PySem.Operator.Add _ _) _ _); refine ex_bin od_add ?_)
  | ((with_reducible show EX _ (PySem.Expr.BinOp _ PySem.Operator.Sub _ _) _ _); refine ex_bin od_sub ?_)
  | ((with_reducible show EX _ (PySem.Expr.BinOp _ PySem.Operator.Mult _ _) _ _); refine ex_bin od_mul ?_)
  | ((with_reducible show EX _ (PySem.Expr.BinOp _ PySem.Operator.Mod _ _) _ _); refine ex_bin od_mod ?_)
  | ((with_reducible show EX _ (PySem.Expr.BinOp _ PySem.Operator.FloorDiv _ _) _ _); refine ex_bin od_fdiv ?_)
  | ((with_reducible show EX _ (PySem.Expr.BinOp _ PySem.Operator.Pow _ _) _ _); refine ex_bin od_pow ?_)
  | ((with_reducible show EX _ (PySem.Expr.Compare _ [PySem.CmpOp.Eq] _ _) _ _); refine ex_cmp od_eq ?_)
  | ((with_reducible show EX _ (PySem.Expr.Compare _ [PySem.CmpOp.NotEq] _ _) _ _); refine ex_cmp od_ne ?_)
  | ((with_reducible show EX _ (PySem.Expr.Compare _ [PySem.CmpOp.Lt] _ _) _ _); refine ex_cmp od_lt ?_)
  | ((with_reducible show EX _ (PySem.Expr.Compare _ [PySem.CmpOp.LtE] _ _) _ _); refine ex_cmp od_le ?_)
  | ((with_reducible show EX _ (PySem.Expr.Compare _ [PySem.CmpOp.Gt] _ _) _ _); refine ex_cmp od_gt ?_)
  | ((with_reducible show EX _ (PySem.Expr.Compare _ [PySem.CmpOp.GtE] _ _) _ _); refine ex_cmp od_ge ?_)
  | ((with_reducible show EX _ (PySem.Expr.Compare _ [PySem.CmpOp.Is] _ _) _ _); refine ex_cmp od_is ?_)
  | ((with_reducible show EX _ (PySem.Expr.Compare _ [PySem.CmpOp.IsNot] _ _) _ _); refine ex_cmp od_isnot ?_)
  | ((with_reducible show EX _ (PySem.Expr.Compare _ [PySem.CmpOp.LtE, PySem.CmpOp.LtE] _ _) _ _); refine ex_chain od_le od_le ?_)
  | ((with_reducible show EX _ (PySem.Expr.UnaryOp PySem.UnaryOp.USub _ _) _ _); refine ex_neg ?_)
  | ((with_reducible show EX _ (PySem.Expr.UnaryOp PySem.UnaryOp.Not _ _) _ _); refine ex_not ?_)
  | ((with_reducible show EX _ (PySem.Expr.BoolOp PySem.BoolOp.And (_ :: _ :: _) _) _ _); refine ex_and ?_)
  | ((with_reducible show EX _ (PySem.Expr.BoolOp PySem.BoolOp.Or (_ :: _ :: _) _) _ _); refine ex_or ?_)
  | ((with_reducible show EX _ (PySem.Expr.BoolOp _ [_] _) _ _); refine ex_one ?_)
  | ((with_reducible show EX _ (PySem.Expr.IfExp _ _ _ _) _ _); refine ex_ifExp ?_)
  | ((with_reducible show EX _ (PySem.Expr.Tuple _ _ _) _ _); refine ex_tup ?_)
  | ((with_reducible show EX _ (PySem.Expr.List _ _) _ _); refine ex_lst ?_)
  | ((with_reducible show AX _ (_ :: _) _ _); refine ax_cons ?_)
  | ((with_reducible show AX _ [] _ _); refine ax_nil ?_)
  | ((with_reducible show KX _ (_ :: _) _ _); refine kx_cons ?_)
  | ((with_reducible show KX _ [] _ _); refine kx_nil ?_)
  | ((with_reducible show EX _ (PySem.Expr.Call (PySem.Expr.Name "isinstance" _) [_, PySem.Expr.Tuple [_, _] _ _] [] _) _ _); refine ex_isi2 (by assumption) (by rfl) bt_isi ?_)
  | ((with_reducible show EX _ (PySem.Expr.Call (PySem.Expr.Name "isinstance" _) _ [] _) _ _); refine ex_bi bi_isi (by assumption) (by rfl) bt_isi ?_)
  | ((with_reducible show EX _ (PySem.Expr.Call (PySem.Expr.Name "len" _) _ [] _) _ _); refine ex_bi bi_len (by assumption) (by rfl) bt_len ?_)
  | ((with_reducible show EX _ (PySem.Expr.Call (PySem.Expr.Name "abs" _) _ [] _) _ _); refine ex_bi bi_abs (by assumption) (by rfl) bt_abs ?_)
  | ((with_reducible show EX _ (PySem.Expr.Call (PySem.Expr.Name "all" _) _ [] _) _ _); refine ex_bi (bi_all rfl) (by assumption) (by rfl) bt_all ?_)
  | ((with_reducible show EX _ (PySem.Expr.Call (PySem.Expr.Name "int" _) _ [] _) _ _); refine ex_bt bi_int (by assumption) (by rfl) bt_int ?_)
  | ((with_reducible show EX _ (PySem.Expr.Call (PySem.Expr.Name "str" _) _ [] _) _ _); refine ex_bt bi_str (by assumption) (by rfl) bt_str ?_)
  | ((with_reducible show EX _ (PySem.Expr.Call (PySem.Expr.Name "list" _) _ [] _) _ _); refine ex_bt bi_list (by assumption) (by rfl) bt_list ?_)
  | ((with_reducible show EX _ (PySem.Expr.Call (PySem.Expr.Name "tuple" _) _ [] _) _ _); refine ex_bt bi_tuple (by assumption) (by rfl) bt_tuple ?_)
  | ((with_reducible show EX _ (PySem.Expr.Call (PySem.Expr.Name "gcd" _) _ [] _) _ _); refine ex_bf bi_gcd (by assumption) (by rfl) ?_)
  | ((with_reducible show EX _ (PySem.Expr.Call (PySem.Expr.Name _ _) (_ :: _) [] _) _ _); refine ex_call (by wtm_at "cal") (by rfl) ?_)
  | ((with_reducible show EX _ (PySem.Expr.Call (PySem.Expr.Name _ _) [] (_ :: _) _) _ _); refine ex_callK0 (by wtm_at "cal") (by rfl) ?_)
  | ((with_reducible show EX _ (PySem.Expr.Call (PySem.Expr.Name _ _) (_ :: _) (_ :: _) _) _ _); refine ex_callK (by wtm_at "cal") (by rfl) ?_)
  | ((with_reducible show EX _ (PySem.Expr.Subscript _ _ _) _ _); refine ex_ix ?_))
local macro_rules | `(tactic| wtm_at "tx") => `(tactic| first
  | ((with_reducible show TX _ (PySem.Expr.Compare _ [PySem.CmpOp.Eq] _ _) _ _); refine tx_cmp od_eq ?_)
  | ((with_reducible show TX _ (PySem.Expr.Compare _ [PySem.CmpOp.NotEq] _ _) _ _); refine tx_cmp od_ne ?_)
  | ((with_reducible show TX _ (PySem.Expr.Compare _ [PySem.CmpOp.Lt] _ _) _ _); refine tx_cmp od_lt ?_)
  | ((with_reducible show TX _ (PySem.Expr.Compare _ [PySem.CmpOp.LtE] _ _) _ _); refine tx_cmp od_le ?_)
  | ((with_reducible show TX _ (PySem.Expr.Compare _ [PySem.CmpOp.Gt] _ _) _ _); refine tx_cmp od_gt ?_)
  | ((with_reducible show TX _ (PySem.Expr.Compare _ [PySem.CmpOp.GtE] _ _) _ _); refine tx_cmp od_ge ?_)
  | ((with_reducible show TX _ (PySem.Expr.Compare _ [PySem.CmpOp.Is] _ _) _ _); refine tx_cmp od_is ?_)
  | ((with_reducible show TX _ (PySem.Expr.Compare _ [PySem.CmpOp.IsNot] _ _) _ _); refine tx_cmp od_isnot ?_)
  | ((with_reducible show TX _ (PySem.Expr.Compare _ [PySem.CmpOp.LtE, PySem.CmpOp.LtE] _ _) _ _); refine tx_chain od_le od_le ?_)
  | ((with_reducible show TX _ (PySem.Expr.UnaryOp PySem.UnaryOp.Not _ _) _ _); refine tx_not ?_)
  | ((with_reducible show TX _ (PySem.Expr.BoolOp _ _ _) _ _); refine tx_w ?_)
  | ((with_reducible show TW _ (PySem.Expr.BoolOp PySem.BoolOp.And (_ :: _ :: _) _) _ _); refine tw_and ?_)
  | ((with_reducible show TW _ (PySem.Expr.BoolOp PySem.BoolOp.Or (_ :: _ :: _) _) _ _); refine tw_or ?_)
  | ((with_reducible show TW _ (PySem.Expr.BoolOp PySem.BoolOp.And [_] _) _ _); refine tw_and1 ?_)
  | ((with_reducible show TW _ (PySem.Expr.BoolOp PySem.BoolOp.Or [_] _) _ _); refine tw_or1 ?_)
  | ((with_reducible show TX _ _ _ _); refine tx_truth ?_))
local macro_rules | `(tactic| wtm_at "st") => `(tactic| first
  | ((with_reducible show SX _ [_] _ _); refine sx_one ?_)
  | ((with_reducible show SX _ (_ :: _) _ _); refine sx_cons ?_)
  | ((with_reducible show SX _ [] _ _); refine sx_nil ?_)
  | ((with_reducible show S1 _ (PySem.Stmt.Return (some _) _) _ _); refine s_ret ?_)
  | ((with_reducible show S1 _ (PySem.Stmt.If _ _ _ _) _ _); refine s_if ?_)
  | ((with_reducible show S1 _ (PySem.Stmt.Expr _ _) _ _); refine s_expr ?_)
  | ((with_reducible show S1 _ (PySem.Stmt.Pass _) _ _); refine s_pass ?_)
  | ((with_reducible show S1 _ (PySem.Stmt.Assign [PySem.Expr.Name _ _] _ _) _ _); wtm_at "set"))
local macro_rules | `(tactic| wtm_at "op") => `(tactic| with_reducible first
  | refine o_add ?_
  | refine o_sub ?_
  | refine o_lt ?_
  | refine o_le ?_
  | refine o_gt ?_
  | refine o_ge ?_
  | refine o_is ?_
  | refine o_isnot ?_
  | refine o_lenl ?_
  | refine o_lent ?_
  | refine o_abs ?_
  | refine o_int ?_
  | refine o_listl ?_
  | refine o_listt ?_
  | refine o_tupl ?_
  | refine o_tupt ?_
  | refine o_all ?_
  | refine o_gcd ?_
  | refine o_asB ?_
  | refine o_asI ?_
  | refine o_asL ?_
  | refine o_asT ?_
  | refine o_truB ?_
  | refine o_truN ?_
  | refine o_truL ?_
  | refine o_truT ?_
  | refine if_t ?_
  | refine if_f ?_
  | refine if_nf ?_
  | refine if_nt ?_)
local macro_rules | `(tactic| wtm_at "op2") => `(tactic| first
  | ((with_reducible show if _ = true then _ else _); first | refine if_ev_t rfl ?_ | refine if_ev_f rfl ?_)
  | ((with_reducible show wIsi [_, D.ty _] _); refine o_isi rfl (by wtm_at "kb") ?_)
  | ((with_reducible show wEq _ _ _); refine o_eq rfl ?_)
  | ((with_reducible show wNe _ _ _); refine o_ne rfl ?_)
  | ((with_reducible show wIx (D.lst _) (D.int _) _); refine o_ixl rfl ?_)
  | ((with_reducible show wIx (D.tup _) (D.int _) _); refine o_ixt rfl ?_)
  | ((with_reducible show wPow _ _ _); refine o_pow ⟨by decide, by decide, by decide⟩ ?_)
  | ((with_reducible show (_ ≤ 100000) ∧ _); refine ⟨Nat.le_of_ble_eq_true rfl, ?_⟩)
  | ((with_reducible show ∃ n1 n2 t k1 k2, _); refine o_isi2 rfl (by wtm_at "kb") (by wtm_at "kb") ?_))
local macro_rules | `(tactic| wtm_at "go") => `(tactic| first | wtm_at "ex" | wtm_at "op" | wtm_at "op2" | wtm_at "tx" | wtm_at "st")
local macro_rules | `(tactic| wtm_at "ex") => `(tactic| first
  | ((with_reducible show EX _ (PySem.Expr.Compare _ [PySem.CmpOp.In] _ _) _ _); refine ex_cmp od_in ?_)
  | ((with_reducible show EX _ (PySem.Expr.Attribute _ _ _) _ _); refine ex_fld ?_)
  | ((with_reducible show EX _ (PySem.Expr.Call (PySem.Expr.Name _ _) (_ :: _) [] _) _ _); refine ex_make (by assumption) (by rfl) ?_)
  | ((with_reducible show EX _ (PySem.Expr.Call (PySem.Expr.Name _ _) [] [] _) _ _); first | refine ex_make0 (by assumption) (by rfl) ?_ | refine ex_call0 (by wtm_at "cal") (by rfl) ?_))
local macro_rules | `(tactic| wtm_at "op2") => `(tactic| first
  | ((with_reducible show wIn (D.str _) (D.lst _) _); refine o_in rfl ?_))
local macro_rules | `(tactic| wtm_at "tx") => `(tactic| first
  | ((with_reducible show TX _ (PySem.Expr.Compare _ [PySem.CmpOp.In] _ _) _ _); refine tx_cmp od_in ?_))
abbrev sLaw : Stmt := topS 36
abbrev nLaw : List Str := ["_law_script", "_law_src", "_law_turn", "_law_spot", "_law_sizes", "_law_late", "_law_name", "_law_told", "_law_at", "_law_bent", "_law_four", "_law_kinds7", "_law_odd", "_law_parts", "_law_row", "_law_seven"]
theorem scLaw : FnScope nLaw ["_law_script"] (defScope sLaw) := ⟨rfl, rfl, rfl, by decide +kernel, rfl, by decide +kernel, by decide +kernel⟩
abbrev XL (P : Program) (w : World) (K : PySem.W.Frag) (mg : Str → Option Value) (base : Heap) (f : Addr) (cdv : Value) (A : Around) (outer : List Env) (s : Shared) (H : Hp) (Ex : XK) : Cx := (cxOf CX0 P w K mg base nLaw "law" (defScope sLaw) f cdv A outer s H Ex).nox
theorem le_world {X : Cx} {CW CP CT : Addr} {T : List (Addr × Str)} {Γ : List E} {P : D → Prop} {a b : Expr} {scope : Scope} {p lpos pos p2 pos2 : Pos} (W : WhyOk X CW CP CT T) (hg : Gl X "_law_why") (L : LamX.LamS X.env.scope scope) (hgW : scope.names.lookup ("World" : Str) = some NameKind.globalImplicit)
    (h : ∀ (A : Around) (outer : List Env) (s : Shared) (H0 : Hp) (f c' : Addr) (E : XK), AX (LamX.lamCx X A outer s H0 E scope f c') [a, b] Γ fun ds => ∃ ps ks, ds = [.lst ps, .lst ks] ∧ RowsOk ps ∧ RowsOk ks ∧ P (worldD ps ks))
    (he : ∀ env, starEach [a, b] env = (false, eval a env) :: starEach [b] env := by intro _; rfl) (hpl : ∀ env, (backTo pos2 (starEach [b] env)).any (·.1) = false := by intro _; rfl) : LE X T (.Call (.Name "_law_why" p) [.Lambda lamArgs (.Call (.Name "World" p2) [a, b] [] pos2) scope lpos] [] pos) Γ P :=
  le_whyG W hg L fun A outer s H0 f c' S H σ Q1 hr st hQ => sem_world (k := 8) st.st W.WF (hr.mono (by decide)) hgW (takes_of rfl rfl rfl rfl) hQ (h A outer s H0 f c' _) (he _) (hpl _)
def forB : Stmt → List Stmt
  | .For _ _ b _ _ => b
  | _ => []
abbrev lawB : List Stmt := forB ((defBody sLaw).getD 1 (.Pass ⟨0, 0, 0, 0⟩))
/-- the calls of the law's body -/
structure LE4 (X : Cx) (CW CP CT : Addr) (T : List (Addr × Str)) : Prop where
  w : WhyOk X CW CP CT T
  c1 : CallOk X "_law_great_parts" Wgp
  c2 : CallOk X "_law_kinds" Wkinds
  c3 : CallOk X "_law_draw" Wdraw
  c4 : CallOk X "_law_of" WofA
  c5 : CallOk X "_law_same" (Wsame 2)
  m1 : X.mg "range" = none
  m2 : X.mg "len" = none
  m3 : X.mg "list" = none
  u : X.A.units + 64 < cLine
theorem lt_same {X : Cx} {T : List (Addr × Str)} {Γ : List E} {a b : Expr} {r : D} {p pos pos2 : Pos} {Q : Prop} (c5 : CallOk X "_law_same" (Wsame 2)) (hg : Gl X "_law_same") (ha : LE X T a Γ fun d => d = r) (hb : EX X b Γ fun d => d = r) (hr : shp 2 r = true) (hq : Q)
    (h1 : starEach [a, b] X.env = (false, eval a X.env) :: starEach [b] X.env := by rfl) (h2 : starEach [b] X.env = (false, eval b X.env) :: starEach [] X.env := by rfl) (hpl : (backTo pos (starEach [b] X.env)).any (·.1) = false := by rfl) : LT X T (.UnaryOp .Not (.Call (.Name "_law_same" p) [a, b] [] pos) pos2) Γ fun b => b = false ∧ Q :=
  lt_not (lt_truth (le_call c5 hg (la_cons (fun S H σ st Q k => ha S H σ st Q fun v d H' e rr pd => k v d H' e rr (by
    subst pd
    exact la_cons (le_ex fun S B O H0 H σ st Q k => hb S B O H0 H σ st Q fun v d H' e r pd => k v d H' e r (by
      subst pd
      exact la_nil ⟨_, rfl, hr, ⟨rfl, hq⟩⟩)) h2)) h1) (by decide) h1 hpl))
theorem lt_neD {X : Cx} {T : List (Addr × Str)} {Γ : List E} {a b : Expr} {r : D} {p : PyData} {pos : Pos} {Q : Prop} (hu : X.A.units + 64 < cLine) (ha : LE X T a Γ fun d => d = r) (hb : EX X b Γ fun d => d = r) (hp : py r = some p) (hs : SeqAt.shaped p = true) (he : PyData.eqv p p = true) (hq : Q)
    (hm : behindInMarks .NotEq b = false := by first | exact nomark _ | rfl) : LT X T (.Compare a [.NotEq] [b] pos) Γ fun b => b = false ∧ Q :=
  lt_cmp (od_neD hu) (fun S H σ st Q k => ha S H σ st Q fun v d H' e rr pd => k v d H' e rr (by
    subst pd
    exact le_ex fun S B O H0 H σ st Q k => hb S B O H0 H σ st Q fun v d H' e r pd => k v d H' e r (by
      subst pd
      exact ⟨p, p, hp, hp, hs, hs, by rw [he]; exact ⟨rfl, hq⟩⟩))) hm
/-- one lambda of the law -/
theorem le_worldE {X : Cx} {CW CP CT : Addr} {T : List (Addr × Str)} {Γ : List E} {r : D} {a b : Expr} {scope : Scope} {p lpos pos p2 pos2 : Pos} (W : WhyOk X CW CP CT T) (hg : Gl X "_law_why") (L : LamX.LamS X.env.scope scope) (hgW : scope.names.lookup ("World" : Str) = some NameKind.globalImplicit)
    (h : ∀ (A : Around) (outer : List Env) (s : Shared) (H0 : Hp) (f c' : Addr) (E : XK), AX (LamX.lamCx X A outer s H0 E scope f c') [a, b] Γ fun ds => ∃ ps ks, ds = [.lst ps, .lst ks] ∧ RowsOk ps ∧ RowsOk ks ∧ worldD ps ks = r)
    (he : ∀ env, starEach [a, b] env = (false, eval a env) :: starEach [b] env := by intro _; rfl) (hpl : ∀ env, (backTo pos2 (starEach [b] env)).any (·.1) = false := by intro _; rfl) : LE X T (.Call (.Name "_law_why" p) [.Lambda lamArgs (.Call (.Name "World" p2) [a, b] [] pos2) scope lpos] [] pos) Γ fun d => d = r :=
  le_world W hg L hgW h he hpl
theorem px0 {X : Cx} {Γ : List E} {P : Option Int → Prop} (h : P none) : PX X none Γ P := h
theorem px1 {X : Cx} {Γ : List E} {P : Option Int → Prop} {e : Expr} (h : EX X e Γ (asI fun i => P (some i))) : PX X (some e) Γ P := h
theorem o_slt {l : List D} {lo hi : Option Int} {P : D → Prop} (h : P (.tup (cutD l lo hi))) : wSl (.tup l) lo hi P := h
theorem o_sll {l : List D} {lo hi : Option Int} {P : D → Prop} (h : P (.lst (cutD l lo hi))) : wSl (.lst l) lo hi P := h
theorem o_addT {l m : List D} {P : D → Prop} (h1 : l.length + m.length ≤ sizeLine) (h : P (.tup (l ++ m))) : wAdd (.tup l) (.tup m) P := ⟨h1, h⟩
theorem o_catL {l m : List D} {P : D → Prop} (h1 : l.length + m.length ≤ sizeLine) (h : P (.lst (l ++ m))) : wCatL (.lst l) (.lst m) P := ⟨l, m, rfl, rfl, h1, h⟩
section
local macro_rules | `(tactic| wtm_at "op") => `(tactic| with_reducible first
  | refine px0 ?_
  | refine px1 ?_
  | refine o_slt ?_
  | refine o_sll ?_)
local macro_rules | `(tactic| wtm_at "nm") => `(tactic| first
  | refine ex_name 0 (by first | assumption | rfl) (by with_reducible rfl) (by with_reducible rfl) (by wtm_at "vis") ?_
  | refine ex_name 1 (by first | assumption | rfl) (by with_reducible rfl) (by with_reducible rfl) (by wtm_at "vis") ?_
  | refine ex_name 2 (by first | assumption | rfl) (by with_reducible rfl) (by with_reducible rfl) (by wtm_at "vis") ?_
  | refine ex_name 3 (by first | assumption | rfl) (by with_reducible rfl) (by with_reducible rfl) (by wtm_at "vis") ?_
  | refine ex_name 4 (by first | assumption | rfl) (by with_reducible rfl) (by with_reducible rfl) (by wtm_at "vis") ?_
  | refine ex_name 5 (by first | assumption | rfl) (by with_reducible rfl) (by with_reducible rfl) (by wtm_at "vis") ?_
  | refine ex_name 6 (by first | assumption | rfl) (by with_reducible rfl) (by with_reducible rfl) (by wtm_at "vis") ?_
  | refine ex_name 7 (by first | assumption | rfl) (by with_reducible rfl) (by with_reducible rfl) (by wtm_at "vis") ?_
  | refine ex_name 8 (by first | assumption | rfl) (by with_reducible rfl) (by with_reducible rfl) (by wtm_at "vis") ?_
  | refine ex_name 9 (by first | assumption | rfl) (by with_reducible rfl) (by with_reducible rfl) (by wtm_at "vis") ?_
  | refine ex_name 10 (by first | assumption | rfl) (by with_reducible rfl) (by with_reducible rfl) (by wtm_at "vis") ?_
  | refine ex_name 11 (by first | assumption | rfl) (by with_reducible rfl) (by with_reducible rfl) (by wtm_at "vis") ?_
  | refine ex_name 12 (by first | assumption | rfl) (by with_reducible rfl) (by with_reducible rfl) (by wtm_at "vis") ?_
  | refine ex_name 13 (by first | assumption | rfl) (by with_reducible rfl) (by with_reducible rfl) (by wtm_at "vis") ?_
  | refine ex_name 14 (by first | assumption | rfl) (by with_reducible rfl) (by with_reducible rfl) (by wtm_at "vis") ?_
  | refine ex_name 15 (by first | assumption | rfl) (by with_reducible rfl) (by with_reducible rfl) (by wtm_at "vis") ?_)
local macro_rules | `(tactic| wtm_at "ex") => `(tactic| first
  | ((with_reducible show EX _ (PySem.Expr.Subscript _ (PySem.Expr.Slice _ _ _ _) _) _ _); refine ex_sl ?_)
  | ((with_reducible show EX _ (PySem.Expr.BinOp (PySem.Expr.Tuple _ _ _) PySem.Operator.Add _ _) _ _); refine ex_bin od_add ?_)
  | ((with_reducible show EX _ (PySem.Expr.BinOp _ PySem.Operator.Add (PySem.Expr.List _ _) _) _ _); refine ex_bin od_catL ?_)
  | ((with_reducible show EX _ (PySem.Expr.BinOp _ PySem.Operator.Add (PySem.Expr.Subscript _ (PySem.Expr.Slice _ _ _ _) _) _) _ _); refine ex_bin od_catL ?_))
variable {P : Program} {w : World} {K : PySem.W.Frag} {mg : Str → Option Value} {base : Heap} {f : Addr} {cdv : Value} {A : Around} {outer : List Env} {s : Shared} {H : Hp} {Ex : XK} {CW CP CT : Addr} {T : List (Addr × Str)}
theorem sm3N {n : Nat} (h : n ≤ 100) : ((n : Int)).natAbs < 2 ^ 8000 := Nat.lt_of_le_of_lt (by omega : ((n : Int)).natAbs ≤ 100) (Nat.lt_of_lt_of_le (show 100 < 2 ^ 20 by decide) (Nat.pow_le_pow_right (by decide) (by decide)))
abbrev Γ0 : List E := [.no, .is .src, .no, .no, .no, .no, .no, .no, .no, .no, .no, .no, .no, .no, .no, .no]
set_option maxHeartbeats 64000000 in
theorem law_turn (e : LE4 (XL P w K mg base f cdv A outer s H Ex) CW CP CT T) (i : Int) : LS (XL P w K mg base f cdv A outer s H Ex) T lawB [.no, .is .src, .is (.int i), .no, .no, .no, .no, .no, .no, .no, .no, .no, .no, .no, .no, .no] (fun Γ' => Le Γ' Γ0) (fun d => d = .bl true) := by
  obtain ⟨W, c1, c2, c3, c4, c5, m1, m2, m3, hu⟩ := e
  have hX : (XL P w K mg base f cdv A outer s H Ex).N = nLaw := rfl
  have hnd : nLaw.Nodup := scLaw.nd
  show LS _ _ (_ :: _) _ _ _
  refine ls_cons ?_
  refine l_asg (pg_tup rfl (pgs_cons (pg_name (i := 13) hnd rfl (Or.inr rfl)) (pgs_cons (pg_name (i := 11) hnd rfl (Or.inr rfl)) pgs_nil))) (tg_tup (tgs_cons (tg_name 13) (tgs_cons (tg_name 11) tgs_nil)) (fun ds Γ P h => by obtain ⟨d, es, rfl, d2, es2, rfl, rfl, _⟩ := h; rfl)) (le_ex ?_)
  repeat wtm_at "go"
  refine ⟨rfl, fun rows h1 h2 hp hn => ?_⟩
  have gp : GoodP rows := ⟨h1, h2, hp, hn⟩
  repeat wtm_at "go"
  refine ⟨6, rfl, by decide, sm3 6, fun n n0 n6 => ?_⟩
  obtain ⟨n, rfl⟩ := Int.eq_ofNat_of_zero_le n0
  repeat wtm_at "go"
  refine ⟨1 + n, by rw [Int.natCast_add]; rfl, by omega, fun ks hk1 hk2 hk3 => ?_⟩
  have gk : GoodK ks := ⟨by omega, by omega, hk2, hk3⟩
  repeat wtm_at "go"
  refine ⟨_, rfl, _, _, rfl, _, _, rfl, rfl, ?_⟩
  show LS _ _ (_ :: _) [.no, .is .src, .is (.int i), .no, .no, .no, .no, .no, .no, .no, .no, .is (.lst ks), .no, .is (.lst rows), .no, .no] _ _
  refine ls_cons ?_
  refine l_asg (pg_tup rfl (pgs_cons (pg_name (i := 8) hnd rfl (Or.inr rfl)) (pgs_cons (pg_name (i := 3) hnd rfl (Or.inl rfl)) pgs_nil))) (tg_tup (tgs_cons (tg_name 8) (tgs_cons (tg_name 3) tgs_nil)) (fun ds Γ P h => by obtain ⟨d, es, rfl, d2, es2, rfl, rfl, _⟩ := h; rfl)) (le_ex ?_)
  repeat wtm_at "go"
  refine ⟨_, rfl, by omega, sm3N (by omega), fun a a0 a1 => ?_⟩
  obtain ⟨a, rfl⟩ := Int.eq_ofNat_of_zero_le a0
  repeat wtm_at "go"
  refine ⟨_, rfl, by omega, sm3N (by omega), fun b b0 b1 => ?_⟩
  obtain ⟨b, rfl⟩ := Int.eq_ofNat_of_zero_le b0
  repeat wtm_at "go"
  refine ⟨_, rfl, _, _, rfl, _, _, rfl, rfl, ?_⟩
  have ha : a < rows.length := by omega
  have hb : b < ks.length := by omega
  obtain ⟨nm, zs, er, hnm, z1, z2, hz⟩ := hp (rows[a]) (List.getElem_mem ha)
  obtain ⟨nk, ek, bk1, bk2, ek', hnk, e1, e2⟩ := hk2 (ks[b]) (List.getElem_mem hb)
  have ga : rows[a]? = some (.tup [.str nm, .tup zs]) := by rw [List.getElem?_eq_getElem ha, er]
  have gb : ks[b]? = some (.tup [.str nk, .int ek, .bl bk1, .bl bk2]) := by rw [List.getElem?_eq_getElem hb, ek']
  show LS _ _ (_ :: _) [.no, .is .src, .is (.int i), .is (.int (b : Int)), .no, .no, .no, .no, .is (.int (a : Int)), .no, .no, .is (.lst ks), .no, .is (.lst rows), .no, .no] _ _
  refine ls_cons ?_
  refine l_asg (pg_tup rfl (pgs_cons (pg_name (i := 6) hnd rfl (Or.inr rfl)) (pgs_cons (pg_name (i := 4) hnd rfl (Or.inl rfl)) pgs_nil))) (tg_tup (tgs_cons (tg_name 6) (tgs_cons (tg_name 4) tgs_nil)) (fun ds Γ P h => by obtain ⟨d, es, rfl, d2, es2, rfl, rfl, _⟩ := h; rfl)) (le_ex ?_)
  repeat wtm_at "go"
  refine o_ixl (atI_nat ga) ?_
  refine ⟨_, rfl, _, _, rfl, _, _, rfl, rfl, ?_⟩
  show LS _ _ (_ :: _) [.no, .is .src, .is (.int i), .is (.int (b : Int)), .is (.tup zs), .no, .is (.str nm), .no, .is (.int (a : Int)), .no, .no, .is (.lst ks), .no, .is (.lst rows), .no, .no] _ _
  refine ls_cons ?_
  refine l_set 12 hX hnd (by with_reducible rfl) (Or.inr rfl) (le_ex ?_)
  repeat wtm_at "go"
  refine o_ixl (atI_nat ga) ?_
  repeat wtm_at "go"
  refine o_addT (by show zs.length + 3 ≤ sizeLine; exact small (by omega)) ?_
  repeat wtm_at "go"
  refine o_addT (small (by unfold cutD; rw [List.length_take, List.length_drop]; simp; omega)) ?_
  repeat wtm_at "go"
  refine .inl ⟨_, rfl, by simp, by simp, fun odd hodd => ?_⟩
  have ho : OddP odd := odd_parts hnm z1 z2 hz odd hodd
  clear hodd
  show LS _ _ (_ :: _) [.no, .is .src, .is (.int i), .is (.int (b : Int)), .is (.tup zs), .no, .is (.str nm), .no, .is (.int (a : Int)), .no, .no, .is (.lst ks), .is odd, .is (.lst rows), .no, .no] _ _
  refine ls_cons ?_
  refine l_ifF (lt_same (r := .tup [.str "InvalidPart", .int (a : Int)]) c5 rfl (le_worldE W rfl (LamX.lamS_by (sc := defScope sLaw) (by decide +kernel)) rfl (fun A outer s H0 f c' E => ?_)) ?_ (by simp [shp]) ?_)
  · repeat wtm_at "go"
    refine o_catL (small (by unfold cutD; rw [List.length_take, List.length_drop]; simp; omega)) ?_
    repeat wtm_at "go"
    refine o_catL (small (by unfold cutD; simp only [List.length_append, List.length_take, List.length_drop]; simp; omega)) ?_
    repeat wtm_at "go"
    refine ⟨_, _, rfl, ((gp.ok.cut _ _).app (.one ho.2) (by unfold cutD; simp; omega)).app (gp.ok.cut _ _) (by unfold cutD; simp; omega), gk.ok, ?_⟩
    rw [cut_pre (by omega), show cutD rows (some ((a : Int) + 1)) none = rows.drop (a + 1) from cut_suf (a := a + 1) (by omega), List.append_assoc, List.singleton_append]
    exact wd_part gp (by omega) ho.1
  · repeat wtm_at "go"
    rfl
  show LS _ _ (_ :: _) _ _ _
  refine ls_cons ?_
  refine l_set 14 hX hnd (by with_reducible rfl) (Or.inr rfl) (le_ex ?_)
  repeat wtm_at "go"
  refine o_ixl (atI_nat gb) ?_
  show LS _ _ (_ :: _) [.no, .is .src, .is (.int i), .is (.int (b : Int)), .is (.tup zs), .no, .is (.str nm), .no, .is (.int (a : Int)), .no, .no, .is (.lst ks), .is odd, .is (.lst rows), .is (.tup [.str nk, .int ek, .bl bk1, .bl bk2]), .no] _ _
  refine ls_cons ?_
  refine l_set 5 hX hnd (by with_reducible rfl) (Or.inl rfl) (le_ex ?_)
  repeat wtm_at "go"
  refine o_addT (small (by simp)) ?_
  repeat wtm_at "go"
  refine o_addT (small (by unfold cutD; simp; omega)) ?_
  repeat wtm_at "go"
  refine .inl ⟨_, rfl, by simp, by simp, fun late hlate => ?_⟩
  have hlt : OddT late := odd_traits hnk late hlate
  clear hlate
  show LS _ _ (_ :: _) [.no, .is .src, .is (.int i), .is (.int (b : Int)), .is (.tup zs), .is late, .is (.str nm), .no, .is (.int (a : Int)), .no, .no, .is (.lst ks), .is odd, .is (.lst rows), .is (.tup [.str nk, .int ek, .bl bk1, .bl bk2]), .no] _ _
  refine ls_cons ?_
  refine l_set 9 hX hnd (by with_reducible rfl) (Or.inr rfl) (le_ex ?_)
  repeat wtm_at "go"
  refine o_catL (small (by unfold cutD; rw [List.length_take, List.length_drop]; simp; omega)) ?_
  repeat wtm_at "go"
  refine o_catL (small (by unfold cutD; simp only [List.length_append, List.length_take, List.length_drop]; simp; omega)) ?_
  rw [cut_pre (by omega), show cutD ks (some ((b : Int) + 1)) none = ks.drop (b + 1) from cut_suf (a := b + 1) (by omega), List.append_assoc, List.singleton_append]
  have okB : RowsOk (ks.take b ++ late :: ks.drop (b + 1)) := by
    have z := (((gk.ok.cut none (some (b : Int))).app (.one hlt.2) (by unfold cutD; simp; omega)).app (gk.ok.cut (some ((b : Int) + 1)) none) (by unfold cutD; simp; omega))
    rw [cut_pre (by omega), show cutD ks (some ((b : Int) + 1)) none = ks.drop (b + 1) from cut_suf (a := b + 1) (by omega), List.append_assoc, List.singleton_append] at z
    exact z
  have wB : worldD rows (ks.take b ++ late :: ks.drop (b + 1)) = .tup [.str "InvalidTrait", .int (b : Int)] := wd_trait gp gk (by omega) hlt.1
  generalize ks.take b ++ late :: ks.drop (b + 1) = bent at okB wB
  show LS _ _ (_ :: _) [.no, .is .src, .is (.int i), .is (.int (b : Int)), .is (.tup zs), .is late, .is (.str nm), .no, .is (.int (a : Int)), .is (.lst bent), .no, .is (.lst ks), .is odd, .is (.lst rows), .is (.tup [.str nk, .int ek, .bl bk1, .bl bk2]), .no] _ _
  refine ls_cons ?_
  refine l_ifF (lt_same (r := .tup [.str "InvalidTrait", .int (b : Int)]) c5 rfl (le_worldE W rfl (LamX.lamS_by (sc := defScope sLaw) (by decide +kernel)) rfl (fun A outer s H0 f c' E => ?_)) ?_ (by simp [shp]) ?_)
  · repeat wtm_at "go"
    exact ⟨_, _, rfl, gp.ok, okB, wB⟩
  · repeat wtm_at "go"
    rfl
  refine ls_cons ?_
  refine l_ifF (lt_same (r := .tup [.str "InvalidPart", .int (a : Int)]) c5 rfl (le_worldE W rfl (LamX.lamS_by (sc := defScope sLaw) (by decide +kernel)) rfl (fun A outer s H0 f c' E => ?_)) ?_ (by simp [shp]) ?_)
  · repeat wtm_at "go"
    refine o_catL (small (by unfold cutD; rw [List.length_take, List.length_drop]; simp; omega)) ?_
    repeat wtm_at "go"
    refine ⟨_, _, rfl, (gp.ok.cut _ _).app (.one ho.2) (by unfold cutD; simp; omega), okB, ?_⟩
    rw [cut_pre (by omega)]
    exact wd_part (rest := []) gp (by omega) ho.1
  · repeat wtm_at "go"
    rfl
  have nmr : nameD (.tup [.str nm, .tup [.int 1]]) ∈ rows.map nameD := by
    have : nameD (rows[a]) ∈ rows.map nameD := List.mem_map_of_mem (List.getElem_mem ha)
    rw [er] at this
    exact this
  have nmk : nameD (.tup [.str nk, .int ek, .bl bk1, .bl bk2]) ∈ ks.map nameD := by
    have : nameD (ks[b]) ∈ ks.map nameD := List.mem_map_of_mem (List.getElem_mem hb)
    rw [ek'] at this
    exact this
  refine ls_cons ?_
  refine l_ifF (lt_w (lw_and (lt_tx ?_)))
  repeat wtm_at "go"
  have tail2 : LS (XL P w K mg base f cdv A outer s H Ex) T (lawB.drop 12) [.no, .is .src, .is (.int i), .is (.int (b : Int)), .is (.tup zs), .is late, .is (.str nm), .no, .is (.int (a : Int)), .is (.lst bent), .no, .is (.lst ks), .is odd, .is (.lst rows), .is (.tup [.str nk, .int ek, .bl bk1, .bl bk2]), .no] (fun Γ' => Le Γ' Γ0) (fun d => d = .bl true) := by
    show LS _ _ (_ :: _) _ _ _
    refine ls_cons ?_
    refine l_ifF (lt_neD (r := .tup [.str "value", .non]) hu (le_worldE W rfl (LamX.lamS_by (sc := defScope sLaw) (by decide +kernel)) rfl (fun A outer s H0 f c' E => ?_)) ?_ rfl (by decide +kernel) (by decide +kernel) (ls_nil ?_))
    · repeat wtm_at "go"
      exact ⟨_, _, rfl, gp.ok, gk.ok, wd_good gp gk⟩
    · repeat wtm_at "go"
      rfl
    · exact ⟨.refl _, .refl _, .no _, .no _, .no _, .no _, .no _, .refl _, .no _, .no _, .refl _, .no _, .no _, .no _, .no _, .refl _, trivial⟩
  have tail1 : LS (XL P w K mg base f cdv A outer s H Ex) T (lawB.drop 11) [.no, .is .src, .is (.int i), .is (.int (b : Int)), .is (.tup zs), .is late, .is (.str nm), .no, .is (.int (a : Int)), .is (.lst bent), .no, .is (.lst ks), .is odd, .is (.lst rows), .is (.tup [.str nk, .int ek, .bl bk1, .bl bk2]), .no] (fun Γ' => Le Γ' Γ0) (fun d => d = .bl true) := by
    show LS _ _ (_ :: _) _ _ _
    refine ls_cons ?_
    refine l_ifF (lt_w (lw_and (lt_tx ?_)))
    repeat wtm_at "go"
    by_cases h : (ks.length : Int) < 6
    · rw [if_pos (decide_eq_true h)]
      refine lw_and1 ?_
      refine lt_same (r := .tup [.str "InvalidTrait", .int (ks.length : Int)]) c5 rfl (le_worldE W rfl (LamX.lamS_by (sc := defScope sLaw) (by decide +kernel)) rfl (fun A outer s H0 f c' E => ?_)) ?_ (by simp [shp]) tail2
      · repeat wtm_at "go"
        refine o_catL (small (by simp; omega)) ?_
        repeat wtm_at "go"
        exact ⟨_, _, rfl, gp.ok, gk.ok.app (.one (trait_ok ⟨_, _, _, _, rfl, hnk, e1, e2⟩).2) (by simp; omega), wd_traitN gp gk nmk⟩
      · repeat wtm_at "go"
        rfl
    · rw [if_neg (by simpa using h)]
      exact ⟨rfl, tail2⟩
  by_cases h : (rows.length : Int) < 3
  · rw [if_pos (decide_eq_true h)]
    refine lw_and1 ?_
    refine lt_same (r := .tup [.str "InvalidPart", .int (rows.length : Int)]) c5 rfl (le_worldE W rfl (LamX.lamS_by (sc := defScope sLaw) (by decide +kernel)) rfl (fun A outer s H0 f c' E => ?_)) ?_ (by simp [shp]) tail1
    · repeat wtm_at "go"
      refine o_catL (small (by simp; omega)) ?_
      repeat wtm_at "go"
      have one : PRow (.tup [.str nm, .tup [.int 1]]) := ⟨_, _, rfl, hnm, by simp, by simp, fun z hz => by rw [List.mem_singleton.mp hz]; exact ⟨1, rfl, by decide, by decide⟩⟩
      exact ⟨_, _, rfl, gp.ok.app (.one (part_ok one).2) (by simp; omega), gk.ok, wd_partN gp (.inl nmr)⟩
    · repeat wtm_at "go"
      rfl
  · rw [if_neg (by simpa using h)]
    exact ⟨rfl, tail1⟩
end
end G
set_option Elab.async false
set_option linter.all false
set_option maxRecDepth 100000
set_option maxHeartbeats 4000000
namespace G
open PySem PySem.Spec PyProof.Rows L2
local macro_rules | `(tactic| wtm_at "vis") => `(tactic| first | exact Or.inl rfl | exact Or.inr (Or.inl rfl) | exact Or.inr (Or.inr rfl))
local macro_rules | `(tactic| wtm_at "cal") => `(tactic| first | assumption | exact CallOk.blk (by assumption) | exact CallOkK.blk (by assumption) | exact ConstOk.blk (by assumption))
local macro_rules | `(tactic| wtm_at "nm") => `(tactic| first
  | refine ex_name 0 (by assumption) (by with_reducible rfl) (by with_reducible rfl) (by wtm_at "vis") ?_
  | refine ex_name 1 (by assumption) (by with_reducible rfl) (by with_reducible rfl) (by wtm_at "vis") ?_
  | refine ex_name 2 (by assumption) (by with_reducible rfl) (by with_reducible rfl) (by wtm_at "vis") ?_
  | refine ex_name 3 (by assumption) (by with_reducible rfl) (by with_reducible rfl) (by wtm_at "vis") ?_
  | refine ex_name 4 (by assumption) (by with_reducible rfl) (by with_reducible rfl) (by wtm_at "vis") ?_
  | refine ex_name 5 (by assumption) (by with_reducible rfl) (by with_reducible rfl) (by wtm_at "vis") ?_
  | refine ex_name 6 (by assumption) (by with_reducible rfl) (by with_reducible rfl) (by wtm_at "vis") ?_
  | refine ex_name 7 (by assumption) (by with_reducible rfl) (by with_reducible rfl) (by wtm_at "vis") ?_
  | refine ex_name 8 (by assumption) (by with_reducible rfl) (by with_reducible rfl) (by wtm_at "vis") ?_
  | refine ex_name 9 (by assumption) (by with_reducible rfl) (by with_reducible rfl) (by wtm_at "vis") ?_
  | refine ex_name 10 (by assumption) (by with_reducible rfl) (by with_reducible rfl) (by wtm_at "vis") ?_
  | refine ex_name 11 (by assumption) (by with_reducible rfl) (by with_reducible rfl) (by wtm_at "vis") ?_
  | refine ex_name 12 (by assumption) (by with_reducible rfl) (by with_reducible rfl) (by wtm_at "vis") ?_
  | refine ex_name 13 (by assumption) (by with_reducible rfl) (by with_reducible rfl) (by wtm_at "vis") ?_
  | refine ex_name 14 (by assumption) (by with_reducible rfl) (by with_reducible rfl) (by wtm_at "vis") ?_
  | refine ex_name 15 (by assumption) (by with_reducible rfl) (by with_reducible rfl) (by wtm_at "vis") ?_
  | refine ex_name 16 (by assumption) (by with_reducible rfl) (by with_reducible rfl) (by wtm_at "vis") ?_
  | refine ex_name 17 (by assumption) (by with_reducible rfl) (by with_reducible rfl) (by wtm_at "vis") ?_
  | refine ex_name 18 (by assumption) (by with_reducible rfl) (by with_reducible rfl) (by wtm_at "vis") ?_
  | refine ex_name 19 (by assumption) (by with_reducible rfl) (by with_reducible rfl) (by wtm_at "vis") ?_
  | refine ex_name 20 (by assumption) (by with_reducible rfl) (by with_reducible rfl) (by wtm_at "vis") ?_
  | refine ex_name 21 (by assumption) (by with_reducible rfl) (by with_reducible rfl) (by wtm_at "vis") ?_
  | refine ex_name 22 (by assumption) (by with_reducible rfl) (by with_reducible rfl) (by wtm_at "vis") ?_
  | refine ex_name 23 (by assumption) (by with_reducible rfl) (by with_reducible rfl) (by wtm_at "vis") ?_)
local macro_rules | `(tactic| wtm_at "kb") => `(tactic| first | exact kb0 | exact kb1 | exact kb2 | exact kb3 | exact kb4 | exact kb5 | exact kb6 | exact kb7 | exact kb8 | exact kb9 | exact kb10 | exact kb11 | exact kb12 | exact kb13 | exact kb14 | exact kb15 | exact kb16 | exact kb17 | exact kb18 | exact kb19 | exact kb20 | exact kb21 | exact kb22 | exact kb23 | exact kb24 | exact kb25 | exact kb26 | exact kb27 | exact kb28 | exact kb29)
local macro_rules | `(tactic| wtm_at "loc") => `(tactic| first | exact Or.inl rfl | exact Or.inr rfl)
local macro_rules | `(tactic| wtm_at "set") => `(tactic| first
  | refine s_set 0 (by assumption) (by assumption) (by with_reducible rfl) (by wtm_at "loc") ?_
  | refine s_set 1 (by assumption) (by assumption) (by with_reducible rfl) (by wtm_at "loc") ?_
  | refine s_set 2 (by assumption) (by assumption) (by with_reducible rfl) (by wtm_at "loc") ?_
  | refine s_set 3 (by assumption) (by assumption) (by with_reducible rfl) (by wtm_at "loc") ?_
  | refine s_set 4 (by assumption) (by assumption) (by with_reducible rfl) (by wtm_at "loc") ?_
  | refine s_set 5 (by assumption) (by assumption) (by with_reducible rfl) (by wtm_at "loc") ?_
  | refine s_set 6 (by assumption) (by assumption) (by with_reducible rfl) (by wtm_at "loc") ?_
  | refine s_set 7 (by assumption) (by assumption) (by with_reducible rfl) (by wtm_at "loc") ?_
  | refine s_set 8 (by assumption) (by assumption) (by with_reducible rfl) (by wtm_at "loc") ?_
  | refine s_set 9 (by assumption) (by assumption) (by with_reducible rfl) (by wtm_at "loc") ?_
  | refine s_set 10 (by assumption) (by assumption) (by with_reducible rfl) (by wtm_at "loc") ?_
  | refine s_set 11 (by assumption) (by assumption) (by with_reducible rfl) (by wtm_at "loc") ?_
  | refine s_set 12 (by assumption) (by assumption) (by with_reducible rfl) (by wtm_at "loc") ?_
  | refine s_set 13 (by assumption) (by assumption) (by with_reducible rfl) (by wtm_at "loc") ?_
  | refine s_set 14 (by assumption) (by assumption) (by with_reducible rfl) (by wtm_at "loc") ?_
  | refine s_set 15 (by assumption) (by assumption) (by with_reducible rfl) (by wtm_at "loc") ?_
  | refine s_set 16 (by assumption) (by assumption) (by with_reducible rfl) (by wtm_at "loc") ?_
  | refine s_set 17 (by assumption) (by assumption) (by with_reducible rfl) (by wtm_at "loc") ?_
  | refine s_set 18 (by assumption) (by assumption) (by with_reducible rfl) (by wtm_at "loc") ?_
  | refine s_set 19 (by assumption) (by assumption) (by with_reducible rfl) (by wtm_at "loc") ?_
  | refine s_set 20 (by assumption) (by assumption) (by with_reducible rfl) (by wtm_at "loc") ?_
  | refine s_set 21 (by assumption) (by assumption) (by with_reducible rfl) (by wtm_at "loc") ?_
  | refine s_set 22 (by assumption) (by assumption) (by with_reducible rfl) (by wtm_at "loc") ?_
  | refine s_set 23 (by assumption) (by assumption) (by with_reducible rfl) (by wtm_at "loc") ?_)
local macro_rules | `(tactic| wtm_at "ex") => `(tactic| first
  | ((with_reducible show EX _ (PySem.Expr.Name "int" _) _ _); refine ex_ty (by assumption) (by rfl) bt_int ?_)
  | ((with_reducible show EX _ (PySem.Expr.Name "str" _) _ _); refine ex_ty (by assumption) (by rfl) bt_str ?_)
  | ((with_reducible show EX _ (PySem.Expr.Name "bool" _) _ _); refine ex_ty (by assumption) (by rfl) bt_bool ?_)
  | ((with_reducible show EX _ (PySem.Expr.Name "list" _) _ _); refine ex_ty (by assumption) (by rfl) bt_list ?_)
  | ((with_reducible show EX _ (PySem.Expr.Name "tuple" _) _ _); refine ex_ty (by assumption) (by rfl) bt_tuple ?_)
  | ((with_reducible show EX _ (PySem.Expr.Name _ _) _ _); first | wtm_at "nm" | refine ex_glob (by wtm_at "cal") (by rfl) ?_)
  | ((with_reducible show EX _ (PySem.Expr.Constant (PySem.Const.int _) _ _) _ _); refine ex_int ?_)
  | ((with_reducible show EX _ (PySem.Expr.Constant (PySem.Const.str _) _ _) _ _); refine ex_str ?_)
  | ((with_reducible show EX _ (PySem.Expr.Constant (PySem.Const.bool _) _ _) _ _); refine ex_bl ?_)
  | ((with_reducible show EX _ (PySem.Expr.Constant PySem.Const.none _ _) _ _); refine ex_non ?_)
  | ((with_reducible show EX _ (PySem.Expr.BinOp _ PySem.Operator.Add _ _) _ _); refine ex_bin od_add ?_)
  | ((with_reducible show EX _ (PySem.Expr.BinOp _ PySem.Operator.Sub _ _) _ _); refine ex_bin od_sub ?_)
  | ((with_reducible show EX _ (PySem.Expr.BinOp _ PySem.Operator.Mult _ _) _ _); refine ex_bin od_mul ?_)
  | ((with_reducible show EX _ (PySem.Expr.BinOp _ PySem.Operator.Mod _ _) _ _); refine ex_bin od_mod ?_)
  | ((with_reducible show EX _ (PySem.Expr.BinOp _ PySem.Operator.FloorDiv _ _) _ _); refine ex_bin od_fdiv ?_)
  | ((with_reducible show EX _ (PySem.Expr.BinOp _ PySem.Operator.Pow _ _) _ _); refine ex_bin od_pow ?_)
  | ((with_reducible show EX _ (PySem.Expr.Compare _ [PySem.CmpOp.Eq] _ _) _ _); refine ex_cmp od_eq ?_)
  | ((with_reducible show EX _ (PySem.Expr.Compare _ [PySem.CmpOp.NotEq] _ _) _ _); refine ex_cmp od_ne ?_)
  | ((with_reducible show EX _ (PySem.Expr.Compare _ [PySem.CmpOp.Lt] _ _) _ _); refine ex_cmp od_lt ?_)
  | ((with_reducible show EX _ (PySem.Expr.Compare _ [PySem.CmpOp.LtE] _ _) _ _); refine ex_cmp od_le ?_)
  | ((with_reducible show EX _ (PySem.Expr.Compare _ [PySem.CmpOp.Gt] _ _) _ _); refine ex_cmp od_gt ?_)
  | ((with_reducible show EX _ (PySem.Expr.Compare _ [PySem.CmpOp.GtE] _ _) _ _); refine ex_cmp od_ge ?_)
  | ((with_reducible show EX _ (PySem.Expr.Compare _ [PySem.CmpOp.Is] _ _) _ _); refine ex_cmp od_is ?_)
  | ((with_reducible show EX _ (PySem.Expr.Compare _ [PySem.CmpOp.IsNot] _ _) _ _); refine ex_cmp od_isnot ?_)
  | ((with_reducible show EX _ (PySem.Expr.Compare _ [PySem.CmpOp.LtE, PySem.CmpOp.LtE] _ _) _ _); refine ex_chain od_le od_le ?_)
  | ((with_reducible show EX _ (PySem.Expr.UnaryOp PySem.UnaryOp.USub _ _) _ _); refine ex_neg ?_)
  | ((with_reducible show EX _ (PySem.Expr.UnaryOp PySem.UnaryOp.Not _ _) _ _); refine ex_not ?_)
  | ((with_reducible show EX _ (PySem.Expr.BoolOp PySem.BoolOp.And (_ :: _ :: _) _) _ _); refine ex_and ?_)
  | ((with_reducible show EX _ (PySem.Expr.BoolOp PySem.BoolOp.Or (_ :: _ :: _) _) _ _); refine ex_or ?_)
  | ((with_reducible show EX _ (PySem.Expr.BoolOp _ [_] _) _ _); refine ex_one ?_)
  | ((with_reducible show EX _ (PySem.Expr.IfExp _ _ _ _) _ _); refine ex_ifExp ?_)
  | ((with_reducible show EX _ (PySem.Expr.Tuple _ _ _) _ _); refine ex_tup ?_)
  | ((with_reducible show EX _ (PySem.Expr.List _ _) _ _); refine ex_lst ?_)
  | ((with_reducible show AX _ (_ :: _) _ _); refine ax_cons ?_)
  | ((with_reducible show AX _ [] _ _); refine ax_nil ?_)
  | ((with_reducible show KX _ (_ :: _) _ _); refine kx_cons ?_)
  | ((with_reducible show KX _ [] _ _); refine kx_nil ?_)
  | ((with_reducible show EX _ (PySem.Expr.Call (PySem.Expr.Name "isinstance" _) [_, PySem.Expr.Tuple [_, _] _ _] [] _) _ _); refine ex_isi2 (by assumption) (by rfl) bt_isi ?_)
  | ((with_reducible show EX _ (PySem.Expr.Call (PySem.Expr.Name "isinstance" _) _ [] _) _ _); refine ex_bi bi_isi (by assumption) (by rfl) bt_isi ?_)
  | ((with_reducible show EX _ (PySem.Expr.Call (PySem.Expr.Name "len" _) _ [] _) _ _); refine ex_bi bi_len (by assumption) (by rfl) bt_len ?_)
  | ((with_reducible show EX _ (PySem.Expr.Call (PySem.Expr.Name "abs" _) _ [] _) _ _); refine ex_bi bi_abs (by assumption) (by rfl) bt_abs ?_)
  | ((with_reducible show EX _ (PySem.Expr.Call (PySem.Expr.Name "all" _) _ [] _) _ _); refine ex_bi (bi_all rfl) (by assumption) (by rfl) bt_all ?_)
  | ((with_reducible show EX _ (PySem.Expr.Call (PySem.Expr.Name "int" _) _ [] _) _ _); refine ex_bt bi_int (by assumption) (by rfl) bt_int ?_)
  | ((with_reducible show EX _ (PySem.Expr.Call (PySem.Expr.Name "str" _) _ [] _) _ _); refine ex_bt bi_str (by assumption) (by rfl) bt_str ?_)
  | ((with_reducible show EX _ (PySem.Expr.Call (PySem.Expr.Name "list" _) _ [] _) _ _); refine ex_bt bi_list (by assumption) (by rfl) bt_list ?_)
  | ((with_reducible show EX _ (PySem.Expr.Call (PySem.Expr.Name "tuple" _) _ [] _) _ _); refine ex_bt bi_tuple (by assumption) (by rfl) bt_tuple ?_)
  | ((with_reducible show EX _ (PySem.Expr.Call (PySem.Expr.Name "gcd" _) _ [] _) _ _); refine ex_bf bi_gcd (by assumption) (by rfl) ?_)
  | ((with_reducible show EX _ (PySem.Expr.Call (PySem.Expr.Name _ _) (_ :: _) [] _) _ _); refine ex_call (by wtm_at "cal") (by rfl) ?_)
  | ((with_reducible show EX _ (PySem.Expr.Call (PySem.Expr.Name _ _) [] (_ :: _) _) _ _); refine ex_callK0 (by wtm_at "cal") (by rfl) ?_)
  | ((with_reducible show EX _ (PySem.Expr.Call (PySem.Expr.Name _ _) (_ :: _) (_ :: _) _) _ _); refine ex_callK (by wtm_at "cal") (by rfl) ?_)
  | ((with_reducible show EX _ (PySem.Expr.Subscript _ _ _) _ _); refine ex_ix ?_))
local macro_rules | `(tactic| wtm_at "tx") => `(tactic| first
  | ((with_reducible show TX _ (PySem.Expr.Compare _ [PySem.CmpOp.Eq] _ _) _ _); refine tx_cmp od_eq ?_)
  | ((with_reducible show TX _ (PySem.Expr.Compare _ [PySem.CmpOp.NotEq] _ _) _ _); refine tx_cmp od_ne ?_)
  | ((with_reducible show TX _ (PySem.Expr.Compare _ [PySem.CmpOp.Lt] _ _) _ _); refine tx_cmp od_lt ?_)
  | ((with_reducible show TX _ (PySem.Expr.Compare _ [PySem.CmpOp.LtE] _ _) _ _); refine tx_cmp od_le ?_)
  | ((with_reducible show TX _ (PySem.Expr.Compare _ [PySem.CmpOp.Gt] _ _) _ _); refine tx_cmp od_gt ?_)
  | ((with_reducible show TX _ (PySem.Expr.Compare _ [PySem.CmpOp.GtE] _ _) _ _); refine tx_cmp od_ge ?_)
  | ((with_reducible show TX _ (PySem.Expr.Compare _ [PySem.CmpOp.Is] _ _) _ _); refine tx_cmp od_is ?_)
  | ((with_reducible show TX _ (PySem.Expr.Compare _ [PySem.CmpOp.IsNot] _ _) _ _); refine tx_cmp od_isnot ?_)
  | ((with_reducible show TX _ (PySem.Expr.Compare _ [PySem.CmpOp.LtE, PySem.CmpOp.LtE] _ _) _ _); refine tx_chain od_le od_le ?_)
  | ((with_reducible show TX _ (PySem.Expr.UnaryOp PySem.UnaryOp.Not _ _) _ _); refine tx_not ?_)
  | ((with_reducible show TX _ (PySem.Expr.BoolOp _ _ _) _ _); refine tx_w ?_)
  | ((with_reducible show TW _ (PySem.Expr.BoolOp PySem.BoolOp.And (_ :: _ :: _) _) _ _); refine tw_and ?_)
  | ((with_reducible show TW _ (PySem.Expr.BoolOp PySem.BoolOp.Or (_ :: _ :: _) _) _ _); refine tw_or ?_)
  | ((with_reducible show TW _ (PySem.Expr.BoolOp PySem.BoolOp.And [_] _) _ _); refine tw_and1 ?_)
  | ((with_reducible show TW _ (PySem.Expr.BoolOp PySem.BoolOp.Or [_] _) _ _); refine tw_or1 ?_)
  | ((with_reducible show TX _ _ _ _); refine tx_truth ?_))
local macro_rules | `(tactic| wtm_at "st") => `(tactic| first
  | ((with_reducible show SX _ [_] _ _); refine sx_one ?_)
  | ((with_reducible show SX _ (_ :: _) _ _); refine sx_cons ?_)
  | ((with_reducible show SX _ [] _ _); refine sx_nil ?_)
  | ((with_reducible show S1 _ (PySem.Stmt.Return (some _) _) _ _); refine s_ret ?_)
  | ((with_reducible show S1 _ (PySem.Stmt.If _ _ _ _) _ _); refine s_if ?_)
  | ((with_reducible show S1 _ (PySem.Stmt.Expr _ _) _ _); refine s_expr ?_)
  | ((with_reducible show S1 _ (PySem.Stmt.Pass _) _ _); refine s_pass ?_)
  | ((with_reducible show S1 _ (PySem.Stmt.Assign [PySem.Expr.Name _ _] _ _) _ _); wtm_at "set"))
local macro_rules | `(tactic| wtm_at "op") => `(tactic| with_reducible first
  | refine o_add ?_
  | refine o_sub ?_
  | refine o_lt ?_
  | refine o_le ?_
  | refine o_gt ?_
  | refine o_ge ?_
  | refine o_is ?_
  | refine o_isnot ?_
  | refine o_lenl ?_
  | refine o_lent ?_
  | refine o_abs ?_
  | refine o_int ?_
  | refine o_listl ?_
  | refine o_listt ?_
  | refine o_tupl ?_
  | refine o_tupt ?_
  | refine o_all ?_
  | refine o_gcd ?_
  | refine o_asB ?_
  | refine o_asI ?_
  | refine o_asL ?_
  | refine o_asT ?_
  | refine o_truB ?_
  | refine o_truN ?_
  | refine o_truL ?_
  | refine o_truT ?_
  | refine if_t ?_
  | refine if_f ?_
  | refine if_nf ?_
  | refine if_nt ?_)
local macro_rules | `(tactic| wtm_at "op2") => `(tactic| first
  | ((with_reducible show if _ = true then _ else _); first | refine if_ev_t rfl ?_ | refine if_ev_f rfl ?_)
  | ((with_reducible show wIsi [_, D.ty _] _); refine o_isi rfl (by wtm_at "kb") ?_)
  | ((with_reducible show wEq _ _ _); refine o_eq rfl ?_)
  | ((with_reducible show wNe _ _ _); refine o_ne rfl ?_)
  | ((with_reducible show wIx (D.lst _) (D.int _) _); refine o_ixl rfl ?_)
  | ((with_reducible show wIx (D.tup _) (D.int _) _); refine o_ixt rfl ?_)
  | ((with_reducible show wPow _ _ _); refine o_pow ⟨by decide, by decide, by decide⟩ ?_)
  | ((with_reducible show (_ ≤ 100000) ∧ _); refine ⟨Nat.le_of_ble_eq_true rfl, ?_⟩)
  | ((with_reducible show ∃ n1 n2 t k1 k2, _); refine o_isi2 rfl (by wtm_at "kb") (by wtm_at "kb") ?_))
local macro_rules | `(tactic| wtm_at "go") => `(tactic| first | wtm_at "ex" | wtm_at "op" | wtm_at "op2" | wtm_at "tx" | wtm_at "st")
local macro_rules | `(tactic| wtm_at "ex") => `(tactic| first
  | ((with_reducible show EX _ (PySem.Expr.Compare _ [PySem.CmpOp.In] _ _) _ _); refine ex_cmp od_in ?_)
  | ((with_reducible show EX _ (PySem.Expr.Attribute _ _ _) _ _); refine ex_fld ?_)
  | ((with_reducible show EX _ (PySem.Expr.Call (PySem.Expr.Name _ _) (_ :: _) [] _) _ _); refine ex_make (by assumption) (by rfl) ?_)
  | ((with_reducible show EX _ (PySem.Expr.Call (PySem.Expr.Name _ _) [] [] _) _ _); first | refine ex_make0 (by assumption) (by rfl) ?_ | refine ex_call0 (by wtm_at "cal") (by rfl) ?_))
local macro_rules | `(tactic| wtm_at "op2") => `(tactic| first
  | ((with_reducible show wIn (D.str _) (D.lst _) _); refine o_in rfl ?_))
local macro_rules | `(tactic| wtm_at "tx") => `(tactic| first
  | ((with_reducible show TX _ (PySem.Expr.Compare _ [PySem.CmpOp.In] _ _) _ _); refine tx_cmp od_in ?_))
section
variable {X : Cx} {CX : CXT} {k : Nat} {C p g : Addr} {mc : Value} {sp : Sp} {E : XK} {o : Expr} {m : Str} {pos apos : Pos} {ta : TE} {pl : Sem Bool}
theorem pe_cmeth0 (he : PE X o ta) (r : ClX.CRead X.K C mc) (c : ClX.CMet X.K C mc m p g) (F : FnR X.prog X.w X.K X.mg X.base CX k g sp) (hr : Room k X.A) (hx : Passes CX X E)
    (ht : eval (.Call (.Attribute o m apos) [] [] pos) X.env = (do
      let ov ← eval o X.env
      standAt apos.atName
      let (f, first) ← holding [ov] (getMethod ov m pl)
      callWith pos f first (backTo pos (starEach [] X.env)) (backToKw pos (keywordEach [] X.env))) := by rfl) :
    PE X (.Call (.Attribute o m apos) [] [] pos) (ClX.tCMeth C sp E ta tNil) := by
  refine ⟨fun pins s σ H Q I h => ?_⟩
  refine PySem.W.methodCall_KW (pl := pl) (thn (he.run pins s σ H _ I h) fun u s1 ⟨x, H1, I1, rx, ex, q⟩ => ?_) ht
  subst ex
  obtain rfl : u = Value.ref C := rx
  refine ClX.getmethcm_ok I1 r c fun s2 I2 => ?_
  refine PySem.W.callWith_M0 ⟨ClX.pin_at I2, I2.kIn⟩ c.fi ?_
  exact ClX.run_cm F hr hx I2 .nil q
/-- cls(..), cls a name of the def -/
theorem pe_makeV {f : Addr} {fd : FuncData} {ps : List Str} {ds : List Value} {dvs : List V} {x : Str} {i : Nat} {q : Pos} {e : Expr} {es : List Expr} {t : TA} (M : Mk X.K C f) (F : FnOk X.prog X.w X.K X.mg X.base CX k f fd ps sp) (hr : Room (k + 1) X.A) (hN : X.N[i]? = some x) (hv : Vis X.env.scope x) (hb : Binds X.K fd ps ds) (hd : Vals dvs ds) (hx : Passes CX X E)
    (ha : PA X (e :: es) t) (h1 : (x == ("__debug__" : Str)) = false := by decide) (h2 : (x == ("__classdict__" : Str)) = false := by decide) (he : starEach (e :: es) X.env = (false, eval e X.env) :: starEach es X.env := by rfl) (hpl : (backTo pos (starEach es X.env)).any (·.1) = false := by rfl) :
    PE X (.Call (.Name x q) (e :: es) [] pos) (fun σ H Q => σ[i]? = some (some (.ref C)) ∧ tMake C sp dvs E t σ H Q) := by
  refine ⟨fun pins s σ H Q I h => ?_⟩
  obtain ⟨hs, h⟩ := h
  refine wpAny_Call_Name_kw (thn ((pe_var (pos := q) (i := i) hN hv h1 h2).run pins s σ H (fun v H1 => v = .ref C ∧ H1 = H) I ⟨.ref C, hs, rfl, rfl⟩) fun u s1 ⟨v, H1, I1, r1, q1⟩ => ?_)
  obtain ⟨ev, eH⟩ := q1
  subst ev
  rw [eH] at I1
  obtain rfl : u = Value.ref C := r1
  refine PySem.W.callWith_K (h₀ := X.base) I1.ok.mod.kin M.kp (thn (ha.run pos pins s1 σ H _ I1 h) fun us s2 ⟨vs, H2, I2, r, q2⟩ => ⟨I2.kIn, ?_⟩) he hpl
  exact L2.run_make M F hr hb hd hx I2 r q2
end
abbrev sPl : Stmt := sPlain
theorem scPl : FnScope ["cls", "sizes"] ((["cls"] : List Str) ++ [("sizes" : Str)]) (defScope sPlain) := ⟨rfl, rfl, rfl, by decide +kernel, rfl, by decide +kernel, by decide +kernel⟩
abbrev plP (ds : List D) : List D := [.tup [.str "all", .tup ds]]
abbrev plK : List D := [.tup [.str "f", .int 1, .bl false, .bl false]]
def spPB (K : PySem.W.Frag) (CW CP CT : Addr) : Sp := fun vs H Q E => ∃ (p : Addr) (S : Sr) (B : List Addr) (ds : List D), vs = [.ref CW, .ref p] ∧ S.a ∈ B ∧ Live S H ∧ (∀ m ∈ B, ∃ o, H m = some o) ∧ Rep K S B H (.ref p) (.tup ds) ∧ RowsOk (plP ds) ∧
  (∀ c i, worldErr (plP ds) plK = some (c, i) → ∀ d H', Ext K S H H' → d ≠ S.a → H' d = some (.xd (xFs c i)) → E (.ref (if c = "InvalidPart" then CP else CT)) (some d) H') ∧ (worldErr (plP ds) plK = none → ∀ x H', Ext K S H H' → Q (.ref x) H')
def spPl (K : PySem.W.Frag) (CW CP CT : Addr) : Sp := fun vs H Q E => ∃ ws rest, vs = ws ++ rest ∧ ws.length = (["cls"] : List Str).length ∧ rest.length ≤ sizeLine ∧ ∀ p, H p = Option.none → spPB K CW CP CT (ws ++ [V.ref p]) (upd H p (.tup rest)) Q E
theorem okK : RowsOk plK := ⟨by simp, fun r hr => by rw [List.mem_singleton.mp hr]; decide +kernel⟩
section
variable {P : Program} {w : World} {K : PySem.W.Frag} {mg : Str → Option Value} {base : Heap} {CW CP CT : Addr}
set_option maxHeartbeats 8000000 in
theorem ok_plain {g : Addr} {fd : FuncData} (F : Fun K "plain" "World.plain" sPlain g fd) (WF : WorldF P w K mg base CW CP CT) : FnR P w K mg base (L2.CX P w) 7 g (spPl K CW CP CT) := by
  obtain ⟨oc, od, kV, doc, pm, an, cdv, ct, osl, rfl, lk, hcd⟩ := F.ex
  obtain ⟨f, fdW, M, FW, hb⟩ := WF.ex
  refine StX.fn_star (ps := ["cls"]) (pv := "sizes") (k := 6) (N := ["cls", "sizes"]) (sp := spPB K CW CP CT) lk hcd scPl StX.cxUp (StX.bind_star1 (B := fun xs => bindArgs (PySem.W.fnOf "plain" "World.plain" (defArgs sPlain) (defBody sPlain) (defScope sPlain) .none kV doc pm an cdv ct) ⟨xs, []⟩) (p1 := "cls") (pv := "sizes") (fun a => rfl) (fun a r rs => rfl)) fun A outer s H vs Q E hr hs => ?_
  obtain ⟨p, S, B, ds, rfl, mS, lv, hB, rp, ok, hE, hQ⟩ := hs
  have hX : (cxOf (L2.CX P w) P w K mg base ["cls", "sizes"] "World.plain" (defScope sPlain) g cdv A outer s H E).N = (["cls", "sizes"] : List Str) := rfl
  refine ⟨_, pss_one (ps_ret (pe_makeV (i := 0) M FW hr rfl (.inl rfl) hb .nil (passes_call (takes_of rfl rfl rfl rfl) fun _ _ _ _ h => h) pa_sem)), ?_⟩
  refine ⟨rfl, ?_⟩
  have st : StOk K S B [] H H (L2.start ["cls", "sizes"] [V.ref CW, .ref p]) [.no, .is (.tup ds)] := {
    len := rfl
    ent := fun i g hg => by
      match i, hg with
      | 0, hg => cases hg; exact ⟨_, rfl, trivial⟩
      | 1, hg => cases hg; exact ⟨_, rfl, _, rfl, by rw [List.append_nil]; exact rp⟩
      | _ + 2, hg => exact absurd hg (by simp)
    ext := .refl
    live0 := lv
    mem := mS
    bl := hB
    nd := List.nodup_nil
    out := fun _ h => absurd h (by simp)
    new := fun _ h => absurd h (by simp)
    liv := fun _ h => absurd h (by simp) }
  have ax : AX (cxOf (L2.CX P w) P w K mg base ["cls", "sizes"] "World.plain" (defScope sPlain) g cdv A outer s H E) [(.List [.Tuple [.Constant (.str "all") 0 ⟨85, 21, 85, 26⟩, .Name "sizes" ⟨85, 28, 85, 33⟩] 0 ⟨85, 20, 85, 34⟩] ⟨85, 19, 85, 35⟩),
      (.List [.Tuple [.Constant (.str "f") 0 ⟨85, 39, 85, 42⟩, .Constant (.int 1) 0 ⟨85, 44, 85, 45⟩, .Constant (.bool false) 0 ⟨85, 47, 85, 52⟩, .Constant (.bool false) 0 ⟨85, 54, 85, 59⟩] 0 ⟨85, 38, 85, 60⟩] ⟨85, 37, 85, 61⟩)] [.no, .is (.tup ds)] fun es => es = [.lst (plP ds), .lst plK] := by
    repeat wtm_at "go"
    rfl
  refine ax S B [] H H _ st _ fun vs es H1 e1 r1 p1 => ?_
  subst p1
  exact fun x dx nx ndx hne => world_sp st e1 r1 ok okK nx ndx hne (fun c i hw d H' e nd hd => hE c i hw d H' e nd hd) (fun hw H' e => hQ hw x H' e)
end
/-- World.plain as it stands -/
structure PlainF (P : Program) (w : World) (K : PySem.W.Frag) (mg : Str → Option Value) (base : Heap) (CW CP CT : Addr) : Prop where
  ex : ∃ (mc : Value) (p g : Addr), ClX.CRead K CW mc ∧ ClX.CMet K CW mc "plain" p g ∧ FnR P w K mg base (L2.CX P w) 7 g (spPl K CW CP CT)
theorem plain_sp {K : PySem.W.Frag} {CW CP CT : Addr} {S : Sr} {B O : List Addr} {H0 H H1 : Hp} {σ : L2.St} {Γ : List E} {vs : List V} {ds : List D} {Ex : XK} {Q1 : VK} {PD : D → Prop} (st : StOk K S B O H0 H σ Γ) (e1 : Ext K S H H1) (r1 : RepAll K S (B ++ O) H1 vs ds) (hl : ds.length ≤ 1000) (ok : RowsOk (plP ds)) (pd : PD (worldD (plP ds) plK))
    (hE : Ex = EchW K CP CT S H PD) (hQ : ∀ v H', Ext K S H H' → PD (.tup [.str "value", .non]) → Q1 v H') : spPl K CW CP CT (.ref CW :: vs) H1 Q1 Ex := by
  refine ⟨[.ref CW], vs, rfl, rfl, by rw [r1.length]; exact small (by omega), fun p np => ?_⟩
  have e2 : Ext K S H (upd H1 p (.tup vs)) := e1.trans (.new np)
  refine ⟨p, S, B ++ O, ds, rfl, st.m, (st.to e2).live, (st.to e2).bo, rep_tup (st.to e1) r1 np, ok, fun c i hw d H' e nd hd => ?_, fun hw x H' e => ?_⟩
  · subst hE
    unfold worldD at pd
    rw [hw] at pd
    refine ⟨d, c, i, rfl, e2.trans e, nd, hd, ?_, pd⟩
    rcases worldErr_c hw with rfl | rfl
    · exact .inl ⟨rfl, by rw [if_pos rfl]⟩
    · exact .inr ⟨rfl, by rw [if_neg (by decide)]⟩
  · unfold worldD at pd
    rw [hw] at pd
    exact hQ _ H' (e2.trans e) pd
end G
set_option Elab.async false
set_option linter.all false
set_option maxRecDepth 100000
set_option maxHeartbeats 4000000
namespace G
open PySem PySem.Spec PyProof.Rows L2
local macro_rules | `(tactic| wtm_at "vis") => `(tactic| first | exact Or.inl rfl | exact Or.inr (Or.inl rfl) | exact Or.inr (Or.inr rfl))
local macro_rules | `(tactic| wtm_at "cal") => `(tactic| first | assumption | exact CallOk.blk (by assumption) | exact CallOkK.blk (by assumption) | exact ConstOk.blk (by assumption))
local macro_rules | `(tactic| wtm_at "nm") => `(tactic| first
  | refine ex_name 0 (by assumption) (by with_reducible rfl) (by with_reducible rfl) (by wtm_at "vis") ?_
  | refine ex_name 1 (by assumption) (by with_reducible rfl) (by with_reducible rfl) (by wtm_at "vis") ?_
  | refine ex_name 2 (by assumption) (by with_reducible rfl) (by with_reducible rfl) (by wtm_at "vis") ?_
  | refine ex_name 3 (by assumption) (by with_reducible rfl) (by with_reducible rfl) (by wtm_at "vis") ?_
  | refine ex_name 4 (by assumption) (by with_reducible rfl) (by with_reducible rfl) (by wtm_at "vis") ?_
  | refine ex_name 5 (by assumption) (by with_reducible rfl) (by with_reducible rfl) (by wtm_at "vis") ?_
  | refine ex_name 6 (by assumption) (by with_reducible rfl) (by with_reducible rfl) (by wtm_at "vis") ?_
  | refine ex_name 7 (by assumption) (by with_reducible rfl) (by with_reducible rfl) (by wtm_at "vis") ?_
  | refine ex_name 8 (by assumption) (by with_reducible rfl) (by with_reducible rfl) (by wtm_at "vis") ?_
  | refine ex_name 9 (by assumption) (by with_reducible rfl) (by with_reducible rfl) (by wtm_at "vis") ?_
  | refine ex_name 10 (by assumption) (by with_reducible rfl) (by with_reducible rfl) (by wtm_at "vis") ?_
  | refine ex_name 11 (by assumption) (by with_reducible rfl) (by with_reducible rfl) (by wtm_at "vis") ?_
  | refine ex_name 12 (by assumption) (by with_reducible rfl) (by with_reducible rfl) (by wtm_at "vis") ?_
  | refine ex_name 13 (by assumption) (by with_reducible rfl) (by with_reducible rfl) (by wtm_at "vis") ?_
  | refine ex_name 14 (by assumption) (by with_reducible rfl) (by with_reducible rfl) (by wtm_at "vis") ?_
  | refine ex_name 15 (by assumption) (by with_reducible rfl) (by with_reducible rfl) (by wtm_at "vis") ?_
  | refine ex_name 16 (by assumption) (by with_reducible rfl) (by with_reducible rfl) (by wtm_at "vis") ?_
  | refine ex_name 17 (by assumption) (by with_reducible rfl) (by with_reducible rfl) (by wtm_at "vis") ?_
  | refine ex_name 18 (by assumption) (by with_reducible rfl) (by with_reducible rfl) (by wtm_at "vis") ?_
  | refine ex_name 19 (by assumption) (by with_reducible rfl) (by with_reducible rfl) (by wtm_at "vis") ?_
  | refine ex_name 20 (by assumption) (by with_reducible rfl) (by with_reducible rfl) (by wtm_at "vis") ?_
  | refine ex_name 21 (by assumption) (by with_reducible rfl) (by with_reducible rfl) (by wtm_at "vis") ?_
  | refine ex_name 22 (by assumption) (by with_reducible rfl) (by with_reducible rfl) (by wtm_at "vis") ?_
  | refine ex_name 23 (by assumption) (by with_reducible rfl) (by with_reducible rfl) (by wtm_at "vis") ?_)
local macro_rules | `(tactic| wtm_at "kb") => `(tactic| first | exact kb0 | exact kb1 | exact kb2 | exact kb3 | exact kb4 | exact kb5 | exact kb6 | exact kb7 | exact kb8 | exact kb9 | exact kb10 | exact kb11 | exact kb12 | exact kb13 | exact kb14 | exact kb15 | exact kb16 | exact kb17 | exact kb18 | exact kb19 | exact kb20 | exact kb21 | exact kb22 | exact kb23 | exact kb24 | exact kb25 | exact kb26 | exact kb27 | exact kb28 | exact kb29)
local macro_rules | `(tactic| wtm_at "loc") => `(tactic| first | exact Or.inl rfl | exact Or.inr rfl)
local macro_rules | `(tactic| wtm_at "set") => `(tactic| first
  | refine s_set 0 (by assumption) (by assumption) (by with_reducible rfl) (by wtm_at "loc") ?_
  | refine s_set 1 (by assumption) (by assumption) (by with_reducible rfl) (by wtm_at "loc") ?_
  | refine s_set 2 (by assumption) (by assumption) (by with_reducible rfl) (by wtm_at "loc") ?_
  | refine s_set 3 (by assumption) (by assumption) (by with_reducible rfl) (by wtm_at "loc") ?_
  | refine s_set 4 (by assumption) (by assumption) (by with_reducible rfl) (by wtm_at "loc") ?_
  | refine s_set 5 (by assumption) (by assumption) (by with_reducible rfl) (by wtm_at "loc") ?_
  | refine s_set 6 (by assumption) (by assumption) (by with_reducible rfl) (by wtm_at "loc") ?_
  | refine s_set 7 (by assumption) (by assumption) (by with_reducible rfl) (by wtm_at "loc") ?_
  | refine s_set 8 (by assumption) (by assumption) (by with_reducible rfl) (by wtm_at "loc") ?_
  | refine s_set 9 (by assumption) (by assumption) (by with_reducible rfl) (by wtm_at "loc") ?_
  | refine s_set 10 (by assumption) (by assumption) (by with_reducible rfl) (by wtm_at "loc") ?_
  | refine s_set 11 (by assumption) (by assumption) (by with_reducible rfl) (by wtm_at "loc") ?_
  | refine s_set 12 (by assumption) (by assumption) (by with_reducible rfl) (by wtm_at "loc") ?_
  | refine s_set 13 (by assumption) (by assumption) (by with_reducible rfl) (by wtm_at "loc") ?_
  | refine s_set 14 (by assumption) (by assumption) (by with_reducible rfl) (by wtm_at "loc") ?_
  | refine s_set 15 (by assumption) (by assumption) (by with_reducible rfl) (by wtm_at "loc") ?_
  | refine s_set 16 (by assumption) (by assumption) (by with_reducible rfl) (by wtm_at "loc") ?_
  | refine s_set 17 (by assumption) (by assumption) (by with_reducible rfl) (by wtm_at "loc") ?_
  | refine s_set 18 (by assumption) (by assumption) (by with_reducible rfl) (by wtm_at "loc") ?_
  | refine s_set 19 (by assumption) (by assumption) (by with_reducible rfl) (by wtm_at "loc") ?_
  | refine s_set 20 (by assumption) (by assumption) (by with_reducible rfl) (by wtm_at "loc") ?_
  | refine s_set 21 (by assumption) (by assumption) (by with_reducible rfl) (by wtm_at "loc") ?_
  | refine s_set 22 (by assumption) (by assumption) (by with_reducible rfl) (by wtm_at "loc") ?_
  | refine s_set 23 (by assumption) (by assumption) (by with_reducible rfl) (by wtm_at "loc") ?_)
local macro_rules | `(tactic| wtm_at "ex") => `(tactic| first
  | ((with_reducible show EX _ (PySem.Expr.Name "int" _) _ _); refine ex_ty (by assumption) (by rfl) bt_int ?_)
  | ((with_reducible show EX _ (PySem.Expr.Name "str" _) _ _); refine ex_ty (by assumption) (by rfl) bt_str ?_)
  | ((with_reducible show EX _ (PySem.Expr.Name "bool" _) _ _); refine ex_ty (by assumption) (by rfl) bt_bool ?_)
  | ((with_reducible show EX _ (PySem.Expr.Name "list" _) _ _); refine ex_ty (by assumption) (by rfl) bt_list ?_)
  | ((with_reducible show EX _ (PySem.Expr.Name "tuple" _) _ _); refine ex_ty (by assumption) (by rfl) bt_tuple ?_)
  | ((with_reducible show EX _ (PySem.Expr.Name _ _) _ _); first | wtm_at "nm" | refine ex_glob (by wtm_at "cal") (by rfl) ?_)
  | ((with_reducible show EX _ (PySem.Expr.Constant (PySem.Const.int _) _ _) _ _); refine ex_int ?_)
  | ((with_reducible show EX _ (PySem.Expr.Constant (PySem.Const.str _) _ _) _ _); refine ex_str ?_)
  | ((with_reducible show EX _ (PySem.Expr.Constant (PySem.Const.bool _) _ _) _ _); refine ex_bl ?_)
  | ((with_reducible show EX _ (PySem.Expr.Constant PySem.Const.none _ _) _ _); refine ex_non ?_)
  | ((with_reducible show EX _ (PySem.Expr.BinOp _ PySem.Operator.Add _ _) _ _); refine ex_bin od_add ?_)
  | ((with_reducible show EX _ (PySem.Expr.BinOp _ PySem.Operator.Sub _ _) _ _); refine ex_bin od_sub ?_)
  | ((with_reducible show EX _ (PySem.Expr.BinOp _ PySem.Operator.Mult _ _) _ _); refine ex_bin od_mul ?_)
  | ((with_reducible show EX _ (PySem.Expr.BinOp _ PySem.Operator.Mod _ _) _ _); refine ex_bin od_mod ?_)
  | ((with_reducible show EX _ (PySem.Expr.BinOp _ PySem.Operator.FloorDiv _ _) _ _); refine ex_bin od_fdiv ?_)
  | ((with_reducible show EX _ (PySem.Expr.BinOp _ PySem.Operator.Pow _ _) _ _); refine ex_bin od_pow ?_)
  | ((with_reducible show EX _ (PySem.Expr.Compare _ [PySem.CmpOp.Eq] _ _) _ _); refine ex_cmp od_eq ?_)
  | ((with_reducible show EX _ (PySem.Expr.Compare _ [PySem.CmpOp.NotEq] _ _) _ _); refine ex_cmp od_ne ?_)
  | ((with_reducible show EX _ (PySem.Expr.Compare _ [PySem.CmpOp.Lt] _ _) _ _); refine ex_cmp od_lt ?_)
  | ((with_reducible show EX _ (PySem.Expr.Compare _ [PySem.CmpOp.LtE] _ _) _ _); refine ex_cmp od_le ?_)
  | ((with_reducible show EX _ (PySem.Expr.Compare _ [PySem.CmpOp.Gt] _ _) _ _); refine ex_cmp od_gt ?_)
  | ((with_reducible show EX _ (PySem.Expr.Compare _ [PySem.CmpOp.GtE] _ _) _ _); refine ex_cmp od_ge ?_)
  | ((with_reducible show EX _ (PySem.Expr.Compare _ [PySem.CmpOp.Is] _ _) _ _); refine ex_cmp od_is ?_)
  | ((with_reducible show EX _ (PySem.Expr.Compare _ [PySem.CmpOp.IsNot] _ _) _ _); refine ex_cmp od_isnot ?_)
  | ((with_reducible show EX _ (PySem.Expr.Compare _ [PySem.CmpOp.LtE, PySem.CmpOp.LtE] _ _) _ _); refine ex_chain od_le od_le ?_)
  | ((with_reducible show EX _ (PySem.Expr.UnaryOp PySem.UnaryOp.USub _ _) _ _); refine ex_neg ?_)
  | ((with_reducible show EX _ (PySem.Expr.UnaryOp PySem.UnaryOp.Not _ _) _ _); refine ex_not ?_)
  | ((with_reducible show EX _ (PySem.Expr.BoolOp PySem.BoolOp.And (_ :: _ :: _) _) _ _); refine ex_and ?_)
  | ((with_reducible show EX _ (PySem.Expr.BoolOp PySem.BoolOp.Or (_ :: _ :: _) _) _ _); refine ex_or ?_)
  | ((with_reducible show EX _ (PySem.Expr.BoolOp _ [_] _) _ _); refine ex_one ?_)
  | ((with_reducible show EX _ (PySem.Expr.IfExp _ _ _ _) _ _); refine ex_ifExp ?_)
  | ((with_reducible show EX _ (PySem.Expr.Tuple _ _ _) _ _); refine ex_tup ?_)
  | ((with_reducible show EX _ (PySem.Expr.List _ _) _ _); refine ex_lst ?_)
  | ((with_reducible show AX _ (_ :: _) _ _); refine ax_cons ?_)
  | ((with_reducible show AX _ [] _ _); refine ax_nil ?_)
  | ((with_reducible show KX _ (_ :: _) _ _); refine kx_cons ?_)
  | ((with_reducible show KX _ [] _ _); refine kx_nil ?_)
  | ((with_reducible show EX _ (PySem.Expr.Call (PySem.Expr.Name "isinstance" _) [_, PySem.Expr.Tuple [_, _] _ _] [] _) _ _); refine ex_isi2 (by assumption) (by rfl) bt_isi ?_)
  | ((with_reducible show EX _ (PySem.Expr.Call (PySem.Expr.Name "isinstance" _) _ [] _) _ _); refine ex_bi bi_isi (by assumption) (by rfl) bt_isi ?_)
  | ((with_reducible show EX _ (PySem.Expr.Call (PySem.Expr.Name "len" _) _ [] _) _ _); refine ex_bi bi_len (by assumption) (by rfl) bt_len ?_)
  | ((with_reducible show EX _ (PySem.Expr.Call (PySem.Expr.Name "abs" _) _ [] _) _ _); refine ex_bi bi_abs (by assumption) (by rfl) bt_abs ?_)
  | ((with_reducible show EX _ (PySem.Expr.Call (PySem.Expr.Name "all" _) _ [] _) _ _); refine ex_bi (bi_all rfl) (by assumption) (by rfl) bt_all ?_)
  | ((with_reducible show EX _ (PySem.Expr.Call (PySem.Expr.Name "int" _) _ [] _) _ _); refine ex_bt bi_int (by assumption) (by rfl) bt_int ?_)
  | ((with_reducible show EX _ (PySem.Expr.Call (PySem.Expr.Name "str" _) _ [] _) _ _); refine ex_bt bi_str (by assumption) (by rfl) bt_str ?_)
  | ((with_reducible show EX _ (PySem.Expr.Call (PySem.Expr.Name "list" _) _ [] _) _ _); refine ex_bt bi_list (by assumption) (by rfl) bt_list ?_)
  | ((with_reducible show EX _ (PySem.Expr.Call (PySem.Expr.Name "tuple" _) _ [] _) _ _); refine ex_bt bi_tuple (by assumption) (by rfl) bt_tuple ?_)
  | ((with_reducible show EX _ (PySem.Expr.Call (PySem.Expr.Name "gcd" _) _ [] _) _ _); refine ex_bf bi_gcd (by assumption) (by rfl) ?_)
  | ((with_reducible show EX _ (PySem.Expr.Call (PySem.Expr.Name _ _) (_ :: _) [] _) _ _); refine ex_call (by wtm_at "cal") (by rfl) ?_)
  | ((with_reducible show EX _ (PySem.Expr.Call (PySem.Expr.Name _ _) [] (_ :: _) _) _ _); refine ex_callK0 (by wtm_at "cal") (by rfl) ?_)
  | ((with_reducible show EX _ (PySem.Expr.Call (PySem.Expr.Name _ _) (_ :: _) (_ :: _) _) _ _); refine ex_callK (by wtm_at "cal") (by rfl) ?_)
  | ((with_reducible show EX _ (PySem.Expr.Subscript _ _ _) _ _); refine ex_ix ?_))
local macro_rules | `(tactic| wtm_at "tx") => `(tactic| first
  | ((with_reducible show TX _ (PySem.Expr.Compare _ [PySem.CmpOp.Eq] _ _) _ _); refine tx_cmp od_eq ?_)
  | ((with_reducible show TX _ (PySem.Expr.Compare _ [PySem.CmpOp.NotEq] _ _) _ _); refine tx_cmp od_ne ?_)
  | ((with_reducible show TX _ (PySem.Expr.Compare _ [PySem.CmpOp.Lt] _ _) _ _); refine tx_cmp od_lt ?_)
  | ((with_reducible show TX _ (PySem.Expr.Compare _ [PySem.CmpOp.LtE] _ _) _ _); refine tx_cmp od_le ?_)
  | ((with_reducible show TX _ (PySem.Expr.Compare _ [PySem.CmpOp.Gt] _ _) _ _); refine tx_cmp od_gt ?_)
  | ((with_reducible show TX _ (PySem.Expr.Compare _ [PySem.CmpOp.GtE] _ _) _ _); refine tx_cmp od_ge ?_)
  | ((with_reducible show TX _ (PySem.Expr.Compare _ [PySem.CmpOp.Is] _ _) _ _); refine tx_cmp od_is ?_)
  | ((with_reducible show TX _ (PySem.Expr.Compare _ [PySem.CmpOp.IsNot] _ _) _ _); refine tx_cmp od_isnot ?_)
  | ((with_reducible show TX _ (PySem.Expr.Compare _ [PySem.CmpOp.LtE, PySem.CmpOp.LtE] _ _) _ _); refine tx_chain od_le od_le ?_)
  | ((with_reducible show TX _ (PySem.Expr.UnaryOp PySem.UnaryOp.Not _ _) _ _); refine tx_not ?_)
  | ((with_reducible show TX _ (PySem.Expr.BoolOp _ _ _) _ _); refine tx_w ?_)
  | ((with_reducible show TW _ (PySem.Expr.BoolOp PySem.BoolOp.And (_ :: _ :: _) _) _ _); refine tw_and ?_)
  | ((with_reducible show TW _ (PySem.Expr.BoolOp PySem.BoolOp.Or (_ :: _ :: _) _) _ _); refine tw_or ?_)
  | ((with_reducible show TW _ (PySem.Expr.BoolOp PySem.BoolOp.And [_] _) _ _); refine tw_and1 ?_)
  | ((with_reducible show TW _ (PySem.Expr.BoolOp PySem.BoolOp.Or [_] _) _ _); refine tw_or1 ?_)
  | ((with_reducible show TX _ _ _ _); refine tx_truth ?_))
local macro_rules | `(tactic| wtm_at "st") => `(tactic| first
  | ((with_reducible show SX _ [_] _ _); refine sx_one ?_)
  | ((with_reducible show SX _ (_ :: _) _ _); refine sx_cons ?_)
  | ((with_reducible show SX _ [] _ _); refine sx_nil ?_)
  | ((with_reducible show S1 _ (PySem.Stmt.Return (some _) _) _ _); refine s_ret ?_)
  | ((with_reducible show S1 _ (PySem.Stmt.If _ _ _ _) _ _); refine s_if ?_)
  | ((with_reducible show S1 _ (PySem.Stmt.Expr _ _) _ _); refine s_expr ?_)
  | ((with_reducible show S1 _ (PySem.Stmt.Pass _) _ _); refine s_pass ?_)
  | ((with_reducible show S1 _ (PySem.Stmt.Assign [PySem.Expr.Name _ _] _ _) _ _); wtm_at "set"))
local macro_rules | `(tactic| wtm_at "op") => `(tactic| with_reducible first
  | refine o_add ?_
  | refine o_sub ?_
  | refine o_lt ?_
  | refine o_le ?_
  | refine o_gt ?_
  | refine o_ge ?_
  | refine o_is ?_
  | refine o_isnot ?_
  | refine o_lenl ?_
  | refine o_lent ?_
  | refine o_abs ?_
  | refine o_int ?_
  | refine o_listl ?_
  | refine o_listt ?_
  | refine o_tupl ?_
  | refine o_tupt ?_
  | refine o_all ?_
  | refine o_gcd ?_
  | refine o_asB ?_
  | refine o_asI ?_
  | refine o_asL ?_
  | refine o_asT ?_
  | refine o_truB ?_
  | refine o_truN ?_
  | refine o_truL ?_
  | refine o_truT ?_
  | refine if_t ?_
  | refine if_f ?_
  | refine if_nf ?_
  | refine if_nt ?_)
local macro_rules | `(tactic| wtm_at "op2") => `(tactic| first
  | ((with_reducible show if _ = true then _ else _); first | refine if_ev_t rfl ?_ | refine if_ev_f rfl ?_)
  | ((with_reducible show wIsi [_, D.ty _] _); refine o_isi rfl (by wtm_at "kb") ?_)
  | ((with_reducible show wEq _ _ _); refine o_eq rfl ?_)
  | ((with_reducible show wNe _ _ _); refine o_ne rfl ?_)
  | ((with_reducible show wIx (D.lst _) (D.int _) _); refine o_ixl rfl ?_)
  | ((with_reducible show wIx (D.tup _) (D.int _) _); refine o_ixt rfl ?_)
  | ((with_reducible show wPow _ _ _); refine o_pow ⟨by decide, by decide, by decide⟩ ?_)
  | ((with_reducible show (_ ≤ 100000) ∧ _); refine ⟨Nat.le_of_ble_eq_true rfl, ?_⟩)
  | ((with_reducible show ∃ n1 n2 t k1 k2, _); refine o_isi2 rfl (by wtm_at "kb") (by wtm_at "kb") ?_))
local macro_rules | `(tactic| wtm_at "go") => `(tactic| first | wtm_at "ex" | wtm_at "op" | wtm_at "op2" | wtm_at "tx" | wtm_at "st")
local macro_rules | `(tactic| wtm_at "ex") => `(tactic| first
  | ((with_reducible show EX _ (PySem.Expr.Compare _ [PySem.CmpOp.In] _ _) _ _); refine ex_cmp od_in ?_)
  | ((with_reducible show EX _ (PySem.Expr.Attribute _ _ _) _ _); refine ex_fld ?_)
  | ((with_reducible show EX _ (PySem.Expr.Call (PySem.Expr.Name _ _) (_ :: _) [] _) _ _); refine ex_make (by assumption) (by rfl) ?_)
  | ((with_reducible show EX _ (PySem.Expr.Call (PySem.Expr.Name _ _) [] [] _) _ _); first | refine ex_make0 (by assumption) (by rfl) ?_ | refine ex_call0 (by wtm_at "cal") (by rfl) ?_))
local macro_rules | `(tactic| wtm_at "op2") => `(tactic| first
  | ((with_reducible show wIn (D.str _) (D.lst _) _); refine o_in rfl ?_))
local macro_rules | `(tactic| wtm_at "tx") => `(tactic| first
  | ((with_reducible show TX _ (PySem.Expr.Compare _ [PySem.CmpOp.In] _ _) _ _); refine tx_cmp od_in ?_))
theorem la_consE {X : Cx} {T : List (Addr × Str)} {Γ : List E} {e : Expr} {es : List Expr} {r : D} {P : List D → Prop} (h : LE X T e Γ fun d => d = r) (k : LA X T es Γ fun ds => P (r :: ds)) (hs : starEach (e :: es) X.env = (false, eval e X.env) :: starEach es X.env := by rfl) : LA X T (e :: es) Γ P :=
  la_cons (fun S H σ st Q kk => h S H σ st Q fun v d H' e rr pd => kk v d H' e rr (by subst pd; exact k)) hs
theorem rows_dec {l : List D} (h : (decide (l.length ≤ 1000) && l.all (shs 2)) = true) : RowsOk l := by
  rw [Bool.and_eq_true, decide_eq_true_eq, List.all_eq_true] at h
  exact ⟨h.1, h.2⟩
theorem wd_err {ps ks : List D} {c : Str} {i : Int} (h : worldErr ps ks = some (c, i)) : worldD ps ks = .tup [.str c, .int i] := by
  unfold worldD
  rw [h]
theorem wd_none {ps ks : List D} (h : worldErr ps ks = none) : worldD ps ks = .tup [.str "value", .non] := by
  unfold worldD
  rw [h]
section
variable {Y : Cx} {CW CP CT : Addr} {S : Sr} {B O : List Addr} {H0 H : Hp} {σ : L2.St} {Γ : List E} {PD : D → Prop} {Q1 : VK} {p apos pos : Pos}
theorem sem_plain0 {pl : Sem Bool} (st : StOk Y.K S B O H0 H σ Γ) (PF : PlainF Y.prog Y.w Y.K Y.mg Y.base CW CP CT) (WF : WorldF Y.prog Y.w Y.K Y.mg Y.base CW CP CT) (hr : Room 7 Y.A) (hg : Gl Y "World") (tk : Takes Y (fun cls d _ H' => EchW Y.K CP CT S H PD cls d H'))
    (hQ : ∀ v H', Ext Y.K S H H' → PD (.tup [.str "value", .non]) → Q1 v H') (pd : PD (worldD (plP []) plK)) (hk : RowsOk (plP []))
    (ht : eval (.Call (.Attribute (.Name "World" p) "plain" apos) [] [] pos) Y.env = (do
      let ov ← eval (.Name "World" p) Y.env
      standAt apos.atName
      let (f, first) ← holding [ov] (getMethod ov "plain" pl)
      callWith pos f first (backTo pos (starEach [] Y.env)) (backToKw pos (keywordEach [] Y.env)))) : semE Y (.Call (.Attribute (.Name "World" p) "plain" apos) [] [] pos) σ H Q1 := by
  obtain ⟨mc, p', g, r, c, F⟩ := PF.ex
  refine semE_of (pe_cmeth0 (pe_glob (v := .ref CW) hg WF.gW rfl) r c F hr (passes_call tk fun _ _ _ _ h => h) ht) ?_
  exact ⟨rfl, plain_sp st .refl .nil (by simp) hk pd rfl hQ⟩
theorem sem_plain {pl : Sem Bool} {a : Expr} {es : List Expr} (st : StOk Y.K S B O H0 H σ Γ) (PF : PlainF Y.prog Y.w Y.K Y.mg Y.base CW CP CT) (WF : WorldF Y.prog Y.w Y.K Y.mg Y.base CW CP CT) (hr : Room 7 Y.A) (hg : Gl Y "World") (tk : Takes Y (fun cls d _ H' => EchW Y.K CP CT S H PD cls d H'))
    (hQ : ∀ v H', Ext Y.K S H H' → PD (.tup [.str "value", .non]) → Q1 v H') (h : AX Y (a :: es) Γ fun ds => ds.length ≤ 1000 ∧ RowsOk (plP ds) ∧ PD (worldD (plP ds) plK))
    (ht : eval (.Call (.Attribute (.Name "World" p) "plain" apos) (a :: es) [] pos) Y.env = (do
      let ov ← eval (.Name "World" p) Y.env
      standAt apos.atName
      let (f, first) ← holding [ov] (getMethod ov "plain" pl)
      callWith pos f first (backTo pos (starEach (a :: es) Y.env)) (backToKw pos (keywordEach [] Y.env))))
    (he : starEach (a :: es) Y.env = (false, eval a Y.env) :: starEach es Y.env := by rfl) (hpl : (backTo pos (starEach es Y.env)).any (·.1) = false := by rfl) : semE Y (.Call (.Attribute (.Name "World" p) "plain" apos) (a :: es) [] pos) σ H Q1 := by
  obtain ⟨mc, p', g, r, c, F⟩ := PF.ex
  refine semE_of (ClX.pe_cmeth (pe_glob (v := .ref CW) hg WF.gW rfl) r c F hr (passes_call tk fun _ _ _ _ h => h) pa_sem he hpl ht) ?_
  exact ⟨rfl, h S B O H0 H σ st _ fun vs ds H1 e1 r1 p1 => plain_sp st e1 r1 p1.1 p1.2.1 p1.2.2 rfl hQ⟩
end
/-! ### the loose layer, sealed: what a judgement says is not looked into while rules are put together -/
structure J1 (X : Cx) (T : List (Addr × Str)) (s : Stmt) (Γ : List E) (po : List E → Prop) (rt : D → Prop) : Prop where
  h : L1 X T s Γ po rt
structure JS (X : Cx) (T : List (Addr × Str)) (ss : List Stmt) (Γ : List E) (po : List E → Prop) (rt : D → Prop) : Prop where
  h : LS X T ss Γ po rt
structure JE (X : Cx) (T : List (Addr × Str)) (e : Expr) (Γ : List E) (P : D → Prop) : Prop where
  h : LE X T e Γ P
structure JA (X : Cx) (T : List (Addr × Str)) (es : List Expr) (Γ : List E) (P : List D → Prop) : Prop where
  h : LA X T es Γ P
section
variable {X : Cx} {T : List (Addr × Str)} {Γ : List E} {pos : Pos} {po : List E → Prop} {rt : D → Prop}
theorem je_ex {e : Expr} {P : D → Prop} (h : EX X e Γ P) : JE X T e Γ P := ⟨le_ex h⟩
theorem js_cons {s : Stmt} {ss : List Stmt} (h : J1 X T s Γ (fun Γ' => JS X T ss Γ' po rt) rt) : JS X T (s :: ss) Γ po rt :=
  ⟨ls_cons fun S H σ st Dn k r => h.h S H σ st Dn (fun H' σ' Γ' s' p => k H' σ' Γ' s' p.h) r⟩
theorem j_set (i : Nat) {N : List Str} {x : Str} {e : Expr} {pos' : Pos} (hX : X.N = N) (hnd : N.Nodup) (hN : nth N i = some x) (hx : Loc X.env.scope x) (h : JE X T e Γ fun d => po (put Γ i (.is d)))
    (hs : swapsWith e (some (.Name x pos')) pos.line X.env = pure false := by rfl) (hf : X.fn x = true ∨ X.env.scope.names.lookup x = some .local := by first | exact .inl rfl | exact .inr rfl | assumption) : J1 X T (.Assign [.Name x pos'] e pos) Γ po rt :=
  ⟨l_set i hX hnd hN hx h.h hs hf⟩
theorem j_ret {e : Expr} (h : JE X T e Γ rt) : J1 X T (.Return (some e) pos) Γ po rt := ⟨l_ret h.h⟩
theorem je_lst {es : List Expr} {P : D → Prop} (h : JA X T es Γ fun ds => ds.length ≤ 100000 ∧ P (.lst ds)) : JE X T (.List es pos) Γ P := ⟨le_lst h.h⟩
theorem ja_nil {P : List D → Prop} (h : P []) : JA X T [] Γ P := ⟨la_nil h⟩
theorem ja_consE {e : Expr} {es : List Expr} {r : D} {P : List D → Prop} (h : JE X T e Γ fun d => d = r) (k : JA X T es Γ fun ds => P (r :: ds)) (hs : starEach (e :: es) X.env = (false, eval e X.env) :: starEach es X.env := by rfl) : JA X T (e :: es) Γ P :=
  ⟨la_consE h.h k.h hs⟩
theorem j_for (j : Nat) {x : Str} {n : Nat} {body : List Stmt} {px p p2 p3 : Pos} {jj} (hp : PassesOwn (model X.prog X.w) X.A X.env X.xe) (hc : X.calm = true) (hn : n ≤ 1000) (hg : Gl X "range") (hm : X.mg "range" = none) (ht : PG X (.Name x px) (gName j)) 
    (h : ∀ i : Nat, i < n → JS X T body (Γ.set j (.is (.int i))) (fun Γ' => Le Γ' Γ) rt) (hq : po Γ) : J1 X T (.For (.Name x px) (.Call (.Name "range" p) [.Constant (.int n) jj p2] [] p3) body [] pos) Γ po rt :=
  ⟨l_for j hp hc hn hg hm ht (fun i hi => (h i hi).h) hq⟩
theorem js_run {ss : List Stmt} (h : JS X T ss Γ po rt) {S : Sr} {H : Hp} {σ : L2.St} (st : LSt X.K S T H σ Γ) {Dn : Ends} (k : ∀ H' σ' Γ', LSt X.K S T H' σ' Γ' → po Γ' → Dn.nx σ' H') (r : ∀ v d H', Rep X.K S [S.a] H' v d → rt d → Dn.rt v H') : semSs X ss Dn σ H := h.h S H σ st Dn k r
end
theorem je_plain0 {pl : Env → Sem Bool} {X : Cx} {CW CP CT : Addr} {T : List (Addr × Str)} {Γ : List E} {r : D} {scope : Scope} {p lpos pos p2 p3 pos2 : Pos} (W : WhyOk X CW CP CT T) (PF : PlainF X.prog X.w X.K X.mg X.base CW CP CT) (hg : Gl X "_law_why") (L : LamX.LamS X.env.scope scope) (hgW : scope.names.lookup ("World" : Str) = some NameKind.globalImplicit)
    (hr : worldD (plP []) plK = r) (hk : RowsOk (plP []))
    (ht : ∀ env, eval (.Call (.Attribute (.Name "World" p2) "plain" p3) [] [] pos2) env = (do
      let ov ← eval (.Name "World" p2) env
      standAt p3.atName
      let (f, first) ← holding [ov] (getMethod ov "plain" (pl env))
      callWith pos2 f first (backTo pos2 (starEach [] env)) (backToKw pos2 (keywordEach [] env)))) : JE X T (.Call (.Name "_law_why" p) [.Lambda lamArgs (.Call (.Attribute (.Name "World" p2) "plain" p3) [] [] pos2) scope lpos] [] pos) Γ fun d => d = r :=
  ⟨le_whyG W hg L fun A outer s H0 f c' S H σ Q1 hr' st hQ => sem_plain0 st.st PF W.WF (hr'.mono (by decide)) hgW (takes_of rfl rfl rfl rfl) hQ hr hk (ht _)⟩
theorem je_plain {pl : Env → Sem Bool} {X : Cx} {CW CP CT : Addr} {T : List (Addr × Str)} {Γ : List E} {r : D} {scope : Scope} {a : Expr} {es : List Expr} {p lpos pos p2 p3 pos2 : Pos} (W : WhyOk X CW CP CT T) (PF : PlainF X.prog X.w X.K X.mg X.base CW CP CT) (hg : Gl X "_law_why") (L : LamX.LamS X.env.scope scope) (hgW : scope.names.lookup ("World" : Str) = some NameKind.globalImplicit)
    (h : ∀ (A : Around) (outer : List Env) (s : Shared) (H0 : Hp) (f c' : Addr) (E : XK), AX (LamX.lamCx X A outer s H0 E scope f c') (a :: es) Γ fun ds => ds.length ≤ 1000 ∧ RowsOk (plP ds) ∧ worldD (plP ds) plK = r)
    (ht : ∀ env, eval (.Call (.Attribute (.Name "World" p2) "plain" p3) (a :: es) [] pos2) env = (do
      let ov ← eval (.Name "World" p2) env
      standAt p3.atName
      let (f, first) ← holding [ov] (getMethod ov "plain" (pl env))
      callWith pos2 f first (backTo pos2 (starEach (a :: es) env)) (backToKw pos2 (keywordEach [] env))))
    (he : ∀ env, starEach (a :: es) env = (false, eval a env) :: starEach es env := by intro _; rfl) (hpl : ∀ env, (backTo pos2 (starEach es env)).any (·.1) = false := by intro _; rfl) : JE X T (.Call (.Name "_law_why" p) [.Lambda lamArgs (.Call (.Attribute (.Name "World" p2) "plain" p3) (a :: es) [] pos2) scope lpos] [] pos) Γ fun d => d = r :=
  ⟨le_whyG W hg L fun A outer s H0 f c' S H σ Q1 hr' st hQ => sem_plain st.st PF W.WF (hr'.mono (by decide)) hgW (takes_of rfl rfl rfl rfl) hQ (h A outer s H0 f c' _) (ht _) (he _) (hpl _)⟩
theorem je_worldE {X : Cx} {CW CP CT : Addr} {T : List (Addr × Str)} {Γ : List E} {r : D} {a b : Expr} {scope : Scope} {p lpos pos p2 pos2 : Pos} (W : WhyOk X CW CP CT T) (hg : Gl X "_law_why") (L : LamX.LamS X.env.scope scope) (hgW : scope.names.lookup ("World" : Str) = some NameKind.globalImplicit)
    (h : ∀ (A : Around) (outer : List Env) (s : Shared) (H0 : Hp) (f c' : Addr) (E : XK), AX (LamX.lamCx X A outer s H0 E scope f c') [a, b] Γ fun ds => ∃ ps ks, ds = [.lst ps, .lst ks] ∧ RowsOk ps ∧ RowsOk ks ∧ worldD ps ks = r)
    (he : ∀ env, starEach [a, b] env = (false, eval a env) :: starEach [b] env := by intro _; rfl) (hpl : ∀ env, (backTo pos2 (starEach [b] env)).any (·.1) = false := by intro _; rfl) : JE X T (.Call (.Name "_law_why" p) [.Lambda lamArgs (.Call (.Name "World" p2) [a, b] [] pos2) scope lpos] [] pos) Γ fun d => d = r :=
  ⟨le_worldE W hg L hgW h he hpl⟩
abbrev four : List D := [.tup [.str "a", .tup [.int 1]], .tup [.str "b", .tup [.int 1]], .tup [.str "c", .tup [.int 1]], .tup [.str "d", .tup [.int 1]]]
abbrev seven : List D := (strD "abcdefg").map fun d => .tup [d, .int 1, .bl false, .bl false]
section
local macro_rules | `(tactic| wtm_at "op") => `(tactic| with_reducible first
  | refine px0 ?_
  | refine px1 ?_
  | refine o_slt ?_
  | refine o_sll ?_)
local macro_rules | `(tactic| wtm_at "nm") => `(tactic| first
  | refine ex_name 0 (by first | assumption | rfl) (by with_reducible rfl) (by with_reducible rfl) (by wtm_at "vis") ?_
  | refine ex_name 1 (by first | assumption | rfl) (by with_reducible rfl) (by with_reducible rfl) (by wtm_at "vis") ?_
  | refine ex_name 2 (by first | assumption | rfl) (by with_reducible rfl) (by with_reducible rfl) (by wtm_at "vis") ?_
  | refine ex_name 3 (by first | assumption | rfl) (by with_reducible rfl) (by with_reducible rfl) (by wtm_at "vis") ?_
  | refine ex_name 4 (by first | assumption | rfl) (by with_reducible rfl) (by with_reducible rfl) (by wtm_at "vis") ?_
  | refine ex_name 5 (by first | assumption | rfl) (by with_reducible rfl) (by with_reducible rfl) (by wtm_at "vis") ?_
  | refine ex_name 6 (by first | assumption | rfl) (by with_reducible rfl) (by with_reducible rfl) (by wtm_at "vis") ?_
  | refine ex_name 7 (by first | assumption | rfl) (by with_reducible rfl) (by with_reducible rfl) (by wtm_at "vis") ?_
  | refine ex_name 8 (by first | assumption | rfl) (by with_reducible rfl) (by with_reducible rfl) (by wtm_at "vis") ?_
  | refine ex_name 9 (by first | assumption | rfl) (by with_reducible rfl) (by with_reducible rfl) (by wtm_at "vis") ?_
  | refine ex_name 10 (by first | assumption | rfl) (by with_reducible rfl) (by with_reducible rfl) (by wtm_at "vis") ?_
  | refine ex_name 11 (by first | assumption | rfl) (by with_reducible rfl) (by with_reducible rfl) (by wtm_at "vis") ?_
  | refine ex_name 12 (by first | assumption | rfl) (by with_reducible rfl) (by with_reducible rfl) (by wtm_at "vis") ?_
  | refine ex_name 13 (by first | assumption | rfl) (by with_reducible rfl) (by with_reducible rfl) (by wtm_at "vis") ?_
  | refine ex_name 14 (by first | assumption | rfl) (by with_reducible rfl) (by with_reducible rfl) (by wtm_at "vis") ?_
  | refine ex_name 15 (by first | assumption | rfl) (by with_reducible rfl) (by with_reducible rfl) (by wtm_at "vis") ?_)
local macro_rules | `(tactic| wtm_at "ex") => `(tactic| first
  | ((with_reducible show EX _ (PySem.Expr.Subscript _ (PySem.Expr.Slice _ _ _ _) _) _ _); refine ex_sl ?_)
  | ((with_reducible show EX _ (PySem.Expr.BinOp (PySem.Expr.Tuple _ _ _) PySem.Operator.Add _ _) _ _); refine ex_bin od_add ?_)
  | ((with_reducible show EX _ (PySem.Expr.BinOp _ PySem.Operator.Add (PySem.Expr.List _ _) _) _ _); refine ex_bin od_catL ?_)
  | ((with_reducible show EX _ (PySem.Expr.BinOp _ PySem.Operator.Add (PySem.Expr.Subscript _ (PySem.Expr.Slice _ _ _ _) _) _) _ _); refine ex_bin od_catL ?_))
variable {P : Program} {w : World} {K : PySem.W.Frag} {mg : Str → Option Value} {base : Heap} {f : Addr} {cdv : Value} {A : Around} {outer : List Env} {s : Shared} {H : Hp} {Ex : XK} {CW CP CT : Addr} {T : List (Addr × Str)}
set_option maxHeartbeats 64000000 in
theorem law_end (e : LE4 (XL P w K mg base f cdv A outer s H Ex) CW CP CT T) (PF : PlainF P w K mg base CW CP CT) : JS (XL P w K mg base f cdv A outer s H Ex) T ((defBody sLaw).drop 2) Γ0 (fun _ => False) (fun d => d = .bl true) := by
  obtain ⟨W, c1, c2, c3, c4, c5, m1, m2, m3, hu⟩ := e
  have hX : (XL P w K mg base f cdv A outer s H Ex).N = nLaw := rfl
  have hnd : nLaw.Nodup := scLaw.nd
  show JS _ _ (_ :: _) _ _ _
  refine js_cons ?_
  refine j_set 10 hX hnd (by with_reducible rfl) (Or.inr rfl) (je_ex ?_)
  repeat wtm_at "go"
  show JS _ _ (_ :: _) [.no, .is .src, .no, .no, .no, .no, .no, .no, .no, .no, .is (.lst four), .no, .no, .no, .no, .no] _ _
  refine js_cons ?_
  refine j_set 15 hX hnd (by with_reducible rfl) (Or.inr rfl) (je_ex ?_)
  refine ex_lc (own := [("_law_name", 6)]) (js := [6]) rfl hnd (blkOk_by (N := nLaw) (sc := defScope sLaw) (by decide +kernel)) (fun _ _ _ _ _ => pg_name (i := 6) hnd rfl (Or.inl rfl)) (tg_name 6) (by decide) (by decide) [.no, .is .src, .no, .no, .no, .no, .no, .no, .no, .no, .is (.lst four), .no, .no, .no, .no, .no] rfl ?_
  refine wx_str ?_
  repeat wtm_at "go"
  refine ⟨_, rfl, by decide +kernel, fun i es => es = seven.take i, by simp, ?_, ?_⟩
  · rintro i d es hd rfl
    show EB _ _ _ [.no, .is .src, .no, .no, .no, .no, .is d, .no, .no, .no, .is (.lst four), .no, .no, .no, .no, .no] _
    intro s0 H0 C cl fp
    repeat wtm_at "go"
    show _ = List.take (i + 1) seven
    rw [List.take_add_one, show seven[i]? = some (.tup [d, .int 1, .bl false, .bl false]) from by show (List.map _ _)[i]? = _; rw [List.getElem?_map, hd]; rfl]
    rfl
  · rintro es rfl
    rw [show seven.take (strD "abcdefg").length = seven from List.take_of_length_le (by simp [List.length_map])]
    show JS _ _ (_ :: _) [.no, .is .src, .no, .no, .no, .no, .no, .no, .no, .no, .is (.lst four), .no, .no, .no, .no, .is (.lst seven)] _ _
    refine js_cons ?_
    refine j_set 7 hX hnd (by with_reducible rfl) (Or.inl rfl) (je_lst ?_)
    refine ja_consE (r := .tup [.str "InvalidPart", .int 0]) (je_worldE W rfl (LamX.lamS_by (sc := defScope sLaw) (by decide +kernel)) rfl (fun A outer s H0 f c' E => ?_)) ?_
    · repeat wtm_at "go"
      exact ⟨_, _, rfl, rows_dec (by decide +kernel), rows_dec (by decide +kernel), wd_err (by decide +kernel)⟩
    refine ja_consE (r := .tup [.str "InvalidTrait", .int 0]) (je_worldE W rfl (LamX.lamS_by (sc := defScope sLaw) (by decide +kernel)) rfl (fun A outer s H0 f c' E => ?_)) ?_
    · repeat wtm_at "go"
      exact ⟨_, _, rfl, rows_dec (by decide +kernel), rows_dec (by decide +kernel), wd_err (by decide +kernel)⟩
    refine ja_consE (r := .tup [.str "InvalidPart", .int 3]) (je_worldE W rfl (LamX.lamS_by (sc := defScope sLaw) (by decide +kernel)) rfl (fun A outer s H0 f c' E => ?_)) ?_
    · repeat wtm_at "go"
      exact ⟨_, _, rfl, rows_dec (by decide +kernel), rows_dec (by decide +kernel), wd_err (by decide +kernel)⟩
    refine ja_consE (r := .tup [.str "InvalidTrait", .int 6]) (je_worldE W rfl (LamX.lamS_by (sc := defScope sLaw) (by decide +kernel)) rfl (fun A outer s H0 f c' E => ?_)) ?_
    · repeat wtm_at "go"
      exact ⟨_, _, rfl, rows_dec (by decide +kernel), rows_dec (by decide +kernel), wd_err (by decide +kernel)⟩
    refine ja_consE (r := .tup [.str "value", .non]) (je_worldE W rfl (LamX.lamS_by (sc := defScope sLaw) (by decide +kernel)) rfl (fun A outer s H0 f c' E => ?_)) ?_
    · repeat wtm_at "go"
      exact ⟨_, _, rfl, rows_dec (by decide +kernel), rows_dec (by decide +kernel), wd_none (by decide +kernel)⟩
    refine ja_consE (r := .tup [.str "InvalidPart", .int 0]) (je_plain0 W PF rfl (LamX.lamS_by (sc := defScope sLaw) (by decide +kernel)) rfl (wd_err (by decide +kernel)) (rows_dec (by decide +kernel)) (by intro _; rfl)) ?_
    refine ja_consE (r := .tup [.str "InvalidPart", .int 0]) (je_plain W PF rfl (LamX.lamS_by (sc := defScope sLaw) (by decide +kernel)) rfl (fun A outer s H0 f c' E => ?_) (by intro _; rfl)) ?_
    · repeat wtm_at "go"
      exact ⟨by decide, rows_dec (by decide +kernel), wd_err (by decide +kernel)⟩
    refine ja_consE (r := .tup [.str "InvalidPart", .int 0]) (je_plain W PF rfl (LamX.lamS_by (sc := defScope sLaw) (by decide +kernel)) rfl (fun A outer s H0 f c' E => ?_) (by intro _; rfl)) ?_
    · repeat wtm_at "go"
      exact ⟨by decide, rows_dec (by decide +kernel), wd_err (by decide +kernel)⟩
    refine ja_nil ⟨by decide, ?_⟩
    show JS _ _ (_ :: _) [.no, .is .src, .no, .no, .no, .no, .no, .is _, .no, .no, .is (.lst four), .no, .no, .no, .no, .is (.lst seven)] _ _
    refine js_cons (j_ret (je_ex ?_))
    repeat wtm_at "go"
    exact ⟨_, rfl, by decide +kernel, rfl⟩
end
end G
set_option Elab.async false
set_option linter.all false
set_option maxRecDepth 100000
set_option maxHeartbeats 4000000
namespace G
open PySem PySem.Spec PyProof.Rows L2
local macro_rules | `(tactic| wtm_at "vis") => `(tactic| first | exact Or.inl rfl | exact Or.inr (Or.inl rfl) | exact Or.inr (Or.inr rfl))
local macro_rules | `(tactic| wtm_at "cal") => `(tactic| first | assumption | exact CallOk.blk (by assumption) | exact CallOkK.blk (by assumption) | exact ConstOk.blk (by assumption))
local macro_rules | `(tactic| wtm_at "nm") => `(tactic| first
  | refine ex_name 0 (by assumption) (by with_reducible rfl) (by with_reducible rfl) (by wtm_at "vis") ?_
  | refine ex_name 1 (by assumption) (by with_reducible rfl) (by with_reducible rfl) (by wtm_at "vis") ?_
  | refine ex_name 2 (by assumption) (by with_reducible rfl) (by with_reducible rfl) (by wtm_at "vis") ?_
  | refine ex_name 3 (by assumption) (by with_reducible rfl) (by with_reducible rfl) (by wtm_at "vis") ?_
  | refine ex_name 4 (by assumption) (by with_reducible rfl) (by with_reducible rfl) (by wtm_at "vis") ?_
  | refine ex_name 5 (by assumption) (by with_reducible rfl) (by with_reducible rfl) (by wtm_at "vis") ?_
  | refine ex_name 6 (by assumption) (by with_reducible rfl) (by with_reducible rfl) (by wtm_at "vis") ?_
  | refine ex_name 7 (by assumption) (by with_reducible rfl) (by with_reducible rfl) (by wtm_at "vis") ?_
  | refine ex_name 8 (by assumption) (by with_reducible rfl) (by with_reducible rfl) (by wtm_at "vis") ?_
  | refine ex_name 9 (by assumption) (by with_reducible rfl) (by with_reducible rfl) (by wtm_at "vis") ?_
  | refine ex_name 10 (by assumption) (by with_reducible rfl) (by with_reducible rfl) (by wtm_at "vis") ?_
  | refine ex_name 11 (by assumption) (by with_reducible rfl) (by with_reducible rfl) (by wtm_at "vis") ?_
  | refine ex_name 12 (by assumption) (by with_reducible rfl) (by with_reducible rfl) (by wtm_at "vis") ?_
  | refine ex_name 13 (by assumption) (by with_reducible rfl) (by with_reducible rfl) (by wtm_at "vis") ?_
  | refine ex_name 14 (by assumption) (by with_reducible rfl) (by with_reducible rfl) (by wtm_at "vis") ?_
  | refine ex_name 15 (by assumption) (by with_reducible rfl) (by with_reducible rfl) (by wtm_at "vis") ?_
  | refine ex_name 16 (by assumption) (by with_reducible rfl) (by with_reducible rfl) (by wtm_at "vis") ?_
  | refine ex_name 17 (by assumption) (by with_reducible rfl) (by with_reducible rfl) (by wtm_at "vis") ?_
  | refine ex_name 18 (by assumption) (by with_reducible rfl) (by with_reducible rfl) (by wtm_at "vis") ?_
  | refine ex_name 19 (by assumption) (by with_reducible rfl) (by with_reducible rfl) (by wtm_at "vis") ?_
  | refine ex_name 20 (by assumption) (by with_reducible rfl) (by with_reducible rfl) (by wtm_at "vis") ?_
  | refine ex_name 21 (by assumption) (by with_reducible rfl) (by with_reducible rfl) (by wtm_at "vis") ?_
  | refine ex_name 22 (by assumption) (by with_reducible rfl) (by with_reducible rfl) (by wtm_at "vis") ?_
  | refine ex_name 23 (by assumption) (by with_reducible rfl) (by with_reducible rfl) (by wtm_at "vis") ?_)
local macro_rules | `(tactic| wtm_at "kb") => `(tactic| first | exact kb0 | exact kb1 | exact kb2 | exact kb3 | exact kb4 | exact kb5 | exact kb6 | exact kb7 | exact kb8 | exact kb9 | exact kb10 | exact kb11 | exact kb12 | exact kb13 | exact kb14 | exact kb15 | exact kb16 | exact kb17 | exact kb18 | exact kb19 | exact kb20 | exact kb21 | exact kb22 | exact kb23 | exact kb24 | exact kb25 | exact kb26 | exact kb27 | exact kb28 | exact kb29)
local macro_rules | `(tactic| wtm_at "loc") => `(tactic| first | exact Or.inl rfl | exact Or.inr rfl)
local macro_rules | `(tactic| wtm_at "set") => `(tactic| first
  | refine s_set 0 (by assumption) (by assumption) (by with_reducible rfl) (by wtm_at "loc") ?_
  | refine s_set 1 (by assumption) (by assumption) (by with_reducible rfl) (by wtm_at "loc") ?_
  | refine s_set 2 (by assumption) (by assumption) (by with_reducible rfl) (by wtm_at "loc") ?_
  | refine s_set 3 (by assumption) (by assumption) (by with_reducible rfl) (by wtm_at "loc") ?_
  | refine s_set 4 (by assumption) (by assumption) (by with_reducible rfl) (by wtm_at "loc") ?_
  | refine s_set 5 (by assumption) (by assumption) (by with_reducible rfl) (by wtm_at "loc") ?_
  | refine s_set 6 (by assumption) (by assumption) (by with_reducible rfl) (by wtm_at "loc") ?_
  | refine s_set 7 (by assumption) (by assumption) (by with_reducible rfl) (by wtm_at "loc") ?_
  | refine s_set 8 (by assumption) (by assumption) (by with_reducible rfl) (by wtm_at "loc") ?_
  | refine s_set 9 (by assumption) (by assumption) (by with_reducible rfl) (by wtm_at "loc") ?_
  | refine s_set 10 (by assumption) (by assumption) (by with_reducible rfl) (by wtm_at "loc") ?_
  | refine s_set 11 (by assumption) (by assumption) (by with_reducible rfl) (by wtm_at "loc") ?_
  | refine s_set 12 (by assumption) (by assumption) (by with_reducible rfl) (by wtm_at "loc") ?_
  | refine s_set 13 (by assumption) (by assumption) (by with_reducible rfl) (by wtm_at "loc") ?_
  | refine s_set 14 (by assumption) (by assumption) (by with_reducible rfl) (by wtm_at "loc") ?_
  | refine s_set 15 (by assumption) (by assumption) (by with_reducible rfl) (by wtm_at "loc") ?_
  | refine s_set 16 (by assumption) (by assumption) (by with_reducible rfl) (by wtm_at "loc") ?_
  | refine s_set 17 (by assumption) (by assumption) (by with_reducible rfl) (by wtm_at "loc") ?_
  | refine s_set 18 (by assumption) (by assumption) (by with_reducible rfl) (by wtm_at "loc") ?_
  | refine s_set 19 (by assumption) (by assumption) (by with_reducible rfl) (by wtm_at "loc") ?_
  | refine s_set 20 (by assumption) (by assumption) (by with_reducible rfl) (by wtm_at "loc") ?_
  | refine s_set 21 (by assumption) (by assumption) (by with_reducible rfl) (by wtm_at "loc") ?_
  | refine s_set 22 (by assumption) (by assumption) (by with_reducible rfl) (by wtm_at "loc") ?_
  | refine s_set 23 (by assumption) (by assumption) (by with_reducible rfl) (by wtm_at "loc") ?_)
local macro_rules | `(tactic| wtm_at "ex") => `(tactic| first
  | ((with_reducible show EX _ (PySem.Expr.Name "int" _) _ _); refine ex_ty (by assumption) (by rfl) bt_int ?_)
  | ((with_reducible show EX _ (PySem.Expr.Name "str" _) _ _); refine ex_ty (by assumption) (by rfl) bt_str ?_)
  | ((with_reducible show EX _ (PySem.Expr.Name "bool" _) _ _); refine ex_ty (by assumption) (by rfl) bt_bool ?_)
  | ((with_reducible show EX _ (PySem.Expr.Name "list" _) _ _); refine ex_ty (by assumption) (by rfl) bt_list ?_)
  | ((with_reducible show EX _ (PySem.Expr.Name "tuple" _) _ _); refine ex_ty (by assumption) (by rfl) bt_tuple ?_)
  | ((with_reducible show EX _ (PySem.Expr.Name _ _) _ _); first | wtm_at "nm" | refine ex_glob (by wtm_at "cal") (by rfl) ?_)
  | ((with_reducible show EX _ (PySem.Expr.Constant (PySem.Const.int _) _ _) _ _); refine ex_int ?_)
  | ((with_reducible show EX _ (PySem.Expr.Constant (PySem.Const.str _) _ _) _ _); refine ex_str ?_)
  | ((with_reducible show EX _ (PySem.Expr.Constant (PySem.Const.bool _) _ _) _ _); refine ex_bl ?_)
  | ((with_reducible show EX _ (PySem.Expr.Constant PySem.Const.none _ _) _ _); refine ex_non ?_)
  | ((with_reducible show EX _ (PySem.Expr.BinOp _ PySem.Operator.Add _ _) _ _); refine ex_bin od_add ?_)
  | ((with_reducible show EX _ (PySem.Expr.BinOp _ PySem.Operator.Sub _ _) _ _); refine ex_bin od_sub ?_)
  | ((with_reducible show EX _ (PySem.Expr.BinOp _ PySem.Operator.Mult _ _) _ _); refine ex_bin od_mul ?_)
  | ((with_reducible show EX _ (PySem.Expr.BinOp _ PySem.Operator.Mod _ _) _ _); refine ex_bin od_mod ?_)
  | ((with_reducible show EX _ (PySem.Expr.BinOp _ PySem.Operator.FloorDiv _ _) _ _); refine ex_bin od_fdiv ?_)
  | ((with_reducible show EX _ (PySem.Expr.BinOp _ PySem.Operator.Pow _ _) _ _); refine ex_bin od_pow ?_)
  | ((with_reducible show EX _ (PySem.Expr.Compare _ [PySem.CmpOp.Eq] _ _) _ _); refine ex_cmp od_eq ?_)
  | ((with_reducible show EX _ (PySem.Expr.Compare _ [PySem.CmpOp.NotEq] _ _) _ _); refine ex_cmp od_ne ?_)
  | ((with_reducible show EX _ (PySem.Expr.Compare _ [PySem.CmpOp.Lt] _ _) _ _); refine ex_cmp od_lt ?_)
  | ((with_reducible show EX _ (PySem.Expr.Compare _ [PySem.CmpOp.LtE] _ _) _ _); refine ex_cmp od_le ?_)
  | ((with_reducible show EX _ (PySem.Expr.Compare _ [PySem.CmpOp.Gt] _ _) _ _); refine ex_cmp od_gt ?_)
  | ((with_reducible show EX _ (PySem.Expr.Compare _ [PySem.CmpOp.GtE] _ _) _ _); refine ex_cmp od_ge ?_)
  | ((with_reducible show EX _ (PySem.Expr.Compare _ [PySem.CmpOp.Is] _ _) _ _); refine ex_cmp od_is ?_)
  | ((with_reducible show EX _ (PySem.Expr.Compare _ [PySem.CmpOp.IsNot] _ _) _ _); refine ex_cmp od_isnot ?_)
  | ((with_reducible show EX _ (PySem.Expr.Compare _ [PySem.CmpOp.LtE, PySem.CmpOp.LtE] _ _) _ _); refine ex_chain od_le od_le ?_)
  | ((with_reducible show EX _ (PySem.Expr.UnaryOp PySem.UnaryOp.USub _ _) _ _); refine ex_neg ?_)
  | ((with_reducible show EX _ (PySem.Expr.UnaryOp PySem.UnaryOp.Not _ _) _ _); refine ex_not ?_)
  | ((with_reducible show EX _ (PySem.Expr.BoolOp PySem.BoolOp.And (_ :: _ :: _) _) _ _); refine ex_and ?_)
  | ((with_reducible show EX _ (PySem.Expr.BoolOp PySem.BoolOp.Or (_ :: _ :: _) _) _ _); refine ex_or ?_)
  | ((with_reducible show EX _ (PySem.Expr.BoolOp _ [_] _) _ _); refine ex_one ?_)
  | ((with_reducible show EX _ (PySem.Expr.IfExp _ _ _ _) _ _); refine ex_ifExp ?_)
  | ((with_reducible show EX _ (PySem.Expr.Tuple _ _ _) _ _); refine ex_tup ?_)
  | ((with_reducible show EX _ (PySem.Expr.List _ _) _ _); refine ex_lst ?_)
  | ((with_reducible show AX _ (_ :: _) _ _); refine ax_cons ?_)
  | ((with_reducible show AX _ [] _ _); refine ax_nil ?_)
  | ((with_reducible show KX _ (_ :: _) _ _); refine kx_cons ?_)
  | ((with_reducible show KX _ [] _ _); refine kx_nil ?_)
  | ((with_reducible show EX _ (PySem.Expr.Call (PySem.Expr.Name "isinstance" _) [_, PySem.Expr.Tuple [_, _] _ _] [] _) _ _); refine ex_isi2 (by assumption) (by rfl) bt_isi ?_)
  | ((with_reducible show EX _ (PySem.Expr.Call (PySem.Expr.Name "isinstance" _) _ [] _) _ _); refine ex_bi bi_isi (by assumption) (by rfl) bt_isi ?_)
  | ((with_reducible show EX _ (PySem.Expr.Call (PySem.Expr.Name "len" _) _ [] _) _ _); refine ex_bi bi_len (by assumption) (by rfl) bt_len ?_)
  | ((with_reducible show EX _ (PySem.Expr.Call (PySem.Expr.Name "abs" _) _ [] _) _ _); refine ex_bi bi_abs (by assumption) (by rfl) bt_abs ?_)
  | ((with_reducible show EX _ (PySem.Expr.Call (PySem.Expr.Name "all" _) _ [] _) _ _); refine ex_bi (bi_all rfl) (by assumption) (by rfl) bt_all ?_)
  | ((with_reducible show EX _ (PySem.Expr.Call (PySem.Expr.Name "int" _) _ [] _) _ _); refine ex_bt bi_int (by assumption) (by rfl) bt_int ?_)
  | ((with_reducible show EX _ (PySem.Expr.Call (PySem.Expr.Name "str" _) _ [] _) _ _); refine ex_bt bi_str (by assumption) (by rfl) bt_str ?_)
  | ((with_reducible show EX _ (PySem.Expr.Call (PySem.Expr.Name "list" _) _ [] _) _ _); refine ex_bt bi_list (by assumption) (by rfl) bt_list ?_)
  | ((with_reducible show EX _ (PySem.Expr.Call (PySem.Expr.Name "tuple" _) _ [] _) _ _); refine ex_bt bi_tuple (by assumption) (by rfl) bt_tuple ?_)
  | ((with_reducible show EX _ (PySem.Expr.Call (PySem.Expr.Name "gcd" _) _ [] _) _ _); refine ex_bf bi_gcd (by assumption) (by rfl) ?_)
  | ((with_reducible show EX _ (PySem.Expr.Call (PySem.Expr.Name _ _) (_ :: _) [] _) _ _); refine ex_call (by wtm_at "cal") (by rfl) ?_)
  | ((with_reducible show EX _ (PySem.Expr.Call (PySem.Expr.Name _ _) [] (_ :: _) _) _ _); refine ex_callK0 (by wtm_at "cal") (by rfl) ?_)
  | ((with_reducible show EX _ (PySem.Expr.Call (PySem.Expr.Name _ _) (_ :: _) (_ :: _) _) _ _); refine ex_callK (by wtm_at "cal") (by rfl) ?_)
  | ((with_reducible show EX _ (PySem.Expr.Subscript _ _ _) _ _); refine ex_ix ?_))
local macro_rules | `(tactic| wtm_at "tx") => `(tactic| first
  | ((with_reducible show TX _ (PySem.Expr.Compare _ [PySem.CmpOp.Eq] _ _) _ _); refine tx_cmp od_eq ?_)
  | ((with_reducible show TX _ (PySem.Expr.Compare _ [PySem.CmpOp.NotEq] _ _) _ _); refine tx_cmp od_ne ?_)
  | ((with_reducible show TX _ (PySem.Expr.Compare _ [PySem.CmpOp.Lt] _ _) _ _); refine tx_cmp od_lt ?_)
  | ((with_reducible show TX _ (PySem.Expr.Compare _ [PySem.CmpOp.LtE] _ _) _ _); refine tx_cmp od_le ?_)
  | ((with_reducible show TX _ (PySem.Expr.Compare _ [PySem.CmpOp.Gt] _ _) _ _); refine tx_cmp od_gt ?_)
  | ((with_reducible show TX _ (PySem.Expr.Compare _ [PySem.CmpOp.GtE] _ _) _ _); refine tx_cmp od_ge ?_)
  | ((with_reducible show TX _ (PySem.Expr.Compare _ [PySem.CmpOp.Is] _ _) _ _); refine tx_cmp od_is ?_)
  | ((with_reducible show TX _ (PySem.Expr.Compare _ [PySem.CmpOp.IsNot] _ _) _ _); refine tx_cmp od_isnot ?_)
  | ((with_reducible show TX _ (PySem.Expr.Compare _ [PySem.CmpOp.LtE, PySem.CmpOp.LtE] _ _) _ _); refine tx_chain od_le od_le ?_)
  | ((with_reducible show TX _ (PySem.Expr.UnaryOp PySem.UnaryOp.Not _ _) _ _); refine tx_not ?_)
  | ((with_reducible show TX _ (PySem.Expr.BoolOp _ _ _) _ _); refine tx_w ?_)
  | ((with_reducible show TW _ (PySem.Expr.BoolOp PySem.BoolOp.And (_ :: _ :: _) _) _ _); refine tw_and ?_)
  | ((with_reducible show TW _ (PySem.Expr.BoolOp PySem.BoolOp.Or (_ :: _ :: _) _) _ _); refine tw_or ?_)
  | ((with_reducible show TW _ (PySem.Expr.BoolOp PySem.BoolOp.And [_] _) _ _); refine tw_and1 ?_)
  | ((with_reducible show TW _ (PySem.Expr.BoolOp PySem.BoolOp.Or [_] _) _ _); refine tw_or1 ?_)
  | ((with_reducible show TX _ _ _ _); refine tx_truth ?_))
local macro_rules | `(tactic| wtm_at "st") => `(tactic| first
  | ((with_reducible show SX _ [_] _ _); refine sx_one ?_)
  | ((with_reducible show SX _ (_ :: _) _ _); refine sx_cons ?_)
  | ((with_reducible show SX _ [] _ _); refine sx_nil ?_)
  | ((with_reducible show S1 _ (PySem.Stmt.Return (some _) _) _ _); refine s_ret ?_)
  | ((with_reducible show S1 _ (PySem.Stmt.If _ _ _ _) _ _); refine s_if ?_)
  | ((with_reducible show S1 _ (PySem.Stmt.Expr _ _) _ _); refine s_expr ?_)
  | ((with_reducible show S1 _ (PySem.Stmt.Pass _) _ _); refine s_pass ?_)
  | ((with_reducible show S1 _ (PySem.Stmt.Assign [PySem.Expr.Name _ _] _ _) _ _); wtm_at "set"))
local macro_rules | `(tactic| wtm_at "op") => `(tactic| with_reducible first
  | refine o_add ?_
  | refine o_sub ?_
  | refine o_lt ?_
  | refine o_le ?_
  | refine o_gt ?_
  | refine o_ge ?_
  | refine o_is ?_
  | refine o_isnot ?_
  | refine o_lenl ?_
  | refine o_lent ?_
  | refine o_abs ?_
  | refine o_int ?_
  | refine o_listl ?_
  | refine o_listt ?_
  | refine o_tupl ?_
  | refine o_tupt ?_
  | refine o_all ?_
  | refine o_gcd ?_
  | refine o_asB ?_
  | refine o_asI ?_
  | refine o_asL ?_
  | refine o_asT ?_
  | refine o_truB ?_
  | refine o_truN ?_
  | refine o_truL ?_
  | refine o_truT ?_
  | refine if_t ?_
  | refine if_f ?_
  | refine if_nf ?_
  | refine if_nt ?_)
local macro_rules | `(tactic| wtm_at "op2") => `(tactic| first
  | ((with_reducible show if _ = true then _ else _); first | refine if_ev_t rfl ?_ | refine if_ev_f rfl ?_)
  | ((with_reducible show wIsi [_, D.ty _] _); refine o_isi rfl (by wtm_at "kb") ?_)
  | ((with_reducible show wEq _ _ _); refine o_eq rfl ?_)
  | ((with_reducible show wNe _ _ _); refine o_ne rfl ?_)
  | ((with_reducible show wIx (D.lst _) (D.int _) _); refine o_ixl rfl ?_)
  | ((with_reducible show wIx (D.tup _) (D.int _) _); refine o_ixt rfl ?_)
  | ((with_reducible show wPow _ _ _); refine o_pow ⟨by decide, by decide, by decide⟩ ?_)
  | ((with_reducible show (_ ≤ 100000) ∧ _); refine ⟨Nat.le_of_ble_eq_true rfl, ?_⟩)
  | ((with_reducible show ∃ n1 n2 t k1 k2, _); refine o_isi2 rfl (by wtm_at "kb") (by wtm_at "kb") ?_))
local macro_rules | `(tactic| wtm_at "go") => `(tactic| first | wtm_at "ex" | wtm_at "op" | wtm_at "op2" | wtm_at "tx" | wtm_at "st")
local macro_rules | `(tactic| wtm_at "ex") => `(tactic| first
  | ((with_reducible show EX _ (PySem.Expr.Compare _ [PySem.CmpOp.In] _ _) _ _); refine ex_cmp od_in ?_)
  | ((with_reducible show EX _ (PySem.Expr.Attribute _ _ _) _ _); refine ex_fld ?_)
  | ((with_reducible show EX _ (PySem.Expr.Call (PySem.Expr.Name _ _) (_ :: _) [] _) _ _); refine ex_make (by assumption) (by rfl) ?_)
  | ((with_reducible show EX _ (PySem.Expr.Call (PySem.Expr.Name _ _) [] [] _) _ _); first | refine ex_make0 (by assumption) (by rfl) ?_ | refine ex_call0 (by wtm_at "cal") (by rfl) ?_))
local macro_rules | `(tactic| wtm_at "op2") => `(tactic| first
  | ((with_reducible show wIn (D.str _) (D.lst _) _); refine o_in rfl ?_))
local macro_rules | `(tactic| wtm_at "tx") => `(tactic| first
  | ((with_reducible show TX _ (PySem.Expr.Compare _ [PySem.CmpOp.In] _ _) _ _); refine tx_cmp od_in ?_))
/-! ### the law itself -/
theorem fun_okC {P : Program} {w : World} {K : PySem.W.Frag} {mg : Str → Option Value} {base : Heap} {x qual : Str} {st : Stmt} {f : Addr} {fd : FuncData} {N ps : List Str} {k : Nat} {sp : Sp} (F : Fun K x qual st f fd) (S : FnScope N ps (defScope st)) (len : ∀ vs H Q E, sp vs H Q E → vs.length = ps.length)
    (hbody : ∀ (cdv : Value), fd.code = cdv → ∀ (A : Around) (outer : List Env) (s : Shared) (H : Hp) (vs : List V) (Q : VK) (E : XK), Room k (A.deeper (envOfC qual (defScope st) s.heap.objs.size f cdv)) → sp vs H Q E →
      ∃ t, PSs (cxOf CX0 P w K mg base N qual (defScope st) f cdv A outer s H E).nox (defBody st) t ∧ t { nx := fun _ H' => Q .non H', rt := Q } (L2.start N vs) H) : FnOk P w K mg base CX0 (k + 1) f fd ps sp := by
  obtain ⟨oc, od, kV, doc, pm, an, cdv, ct, osl, rfl, lk, hcd⟩ := F.ex
  refine fn_of lk hcd S len fun A outer s H vs Q E hr hsp => ?_
  obtain ⟨t, h, q⟩ := hbody cdv rfl A outer s H vs Q E hr hsp
  exact ⟨t, h.nox, q⟩
section
variable {P : Program} {w : World} {K : PySem.W.Frag} {mg : Str → Option Value} {base : Heap} {f : Addr} {cdv : Value} {A : Around} {outer : List Env} {s : Shared} {H : Hp} {Ex : XK} {CW CP CT : Addr} {T : List (Addr × Str)}
theorem law_all (e : LE4 (XL P w K mg base f cdv A outer s H Ex) CW CP CT T) (PF : PlainF P w K mg base CW CP CT) (hm : mg "range" = none) : JS (XL P w K mg base f cdv A outer s H Ex) T ((defBody sLaw).drop 1) Γ0 (fun _ => False) (fun d => d = .bl true) := by
  show JS _ _ (_ :: _) _ _ _
  exact js_cons (j_for 2 (n := 6) .never rfl (by decide) (by rfl) hm (pg_name (i := 2) scLaw.nd rfl (.inl rfl)) (fun i _ => ⟨law_turn e (i : Int)⟩) (law_end e PF))
end
def spLaw (K : PySem.W.Frag) (PT : Addr) : Sp := fun vs H Q _ => ∃ (a : Addr) (ns : List Int), vs = [.ref a] ∧ SqL K H a (ns.map V.int) ∧ ns.length ≤ 63 ∧ H PT = some (.tbl #[]) ∧ ∀ H', Q (.bl true) H'
structure Env4 (K : PySem.W.Frag) (mg : Str → Option Value) : Prop where
  t1 : Top K mg "copied" sCopied ["value"]
  t2 : Top K mg "is_number" sIsNumber ["value"]
  t3 : Top K mg "is_between" sIsBetween ["value", "least", "most"]
  t4 : Top K mg "is_tuple_of" sIsTuple ["value", "many"]
  t5 : Top K mg "is_list" sIsList ["value"]
  t6 : Top K mg "is_name" sIsName ["value"]
  t7 : Top K mg "is_part" sIsPart ["row"]
  t8 : Top K mg "is_trait" sIsTrait ["row"]
  t9 : Top K mg "first_wrong" sFirst ["rows", "most", "is_right"]
  t10 : Top K mg "_law_source" sSource ["_law_script"]
  t11 : Top K mg "_law_draw" sDraw ["_law_src", "_law_many7"]
  t12 : Top K mg "_law_of" sOf ["_law_src", "_law_things7"]
  t13 : Top K mg "_law_word" sWord ["_law_src", "_law_most"]
  t14 : Top K mg "_law_words" sWords ["_law_src", "_law_many"]
  t15 : Top K mg "_law_same" sSame ["_law_found", "_law_due"]
  t16 : Top K mg "_law_field" sField ["_law_e"]
  t17 : Top K mg "_law_why" sWhy ["_law_ask7"]
  t18 : Top K mg "_law_kinds" sKinds ["_law_src", "_law_many"]
  t19 : Top K mg "_law_great_sizes" sGreatSizes ["_law_src"]
  t20 : Top K mg "_law_great_parts" sGp ["_law_src"]
  n1 : mg "isinstance" = none
  n2 : mg "list" = none
  n3 : mg "tuple" = none
  n4 : mg "len" = none
  n5 : mg "int" = none
  n6 : mg "all" = none
  n7 : mg "zip" = none
  n8 : mg "bool" = none
  n9 : mg "str" = none
  n10 : mg "range" = none
  n11 : mg "enumerate" = none
  z1 : ∃ v u, mg "LONGEST_NAME" = some u ∧ RelV v u ∧ ∀ S M H, Rep K S M H v (.int 8)
  z2 : ∃ v u, mg "LETTERS" = some u ∧ RelV v u ∧ ∀ S M H, Rep K S M H v (.str lettersS)
  z3 : ∃ v u, mg "MOST_SIZES" = some u ∧ RelV v u ∧ ∀ S M H, Rep K S M H v (.int 3)
  z4 : ∃ v u, mg "GREATEST_SIZE" = some u ∧ RelV v u ∧ ∀ S M H, Rep K S M H v (.int (10 ^ 30))
  z5 : ∃ v u, mg "MOST_ENDS" = some u ∧ RelV v u ∧ ∀ S M H, Rep K S M H v (.int 3)
structure EnvW (K : PySem.W.Frag) (mg : Str → Option Value) (CW CP CT : Addr) : Prop where
  P : ClsA K "InvalidPart" CP
  IP : IniA K CP "InvalidPart.__init__" sInP ["self", "index"]
  gP : mg "InvalidPart" = some (.ref CP)
  xP : XcI K CP
  T : ClsA K "InvalidTrait" CT
  IT : IniA K CT "InvalidTrait.__init__" sInT ["self", "index"]
  gT : mg "InvalidTrait" = some (.ref CT)
  xT : XcI K CT
  W : WorldK K CW
  mkW : ∃ (f : Addr) (fd : FuncData), Mk K CW f ∧ Fun K "__init__" "World.__init__" sWI f fd ∧ Binds K fd ["self", "parts", "traits"] []
  gW : mg "World" = some (.ref CW)
  pl : ∃ (mc : Value) (p g : Addr) (fd : FuncData), ClX.CRead K CW mc ∧ ClX.CMet K CW mc "plain" p g ∧ Fun K "plain" "World.plain" sPlain g fd
  few : ∃ (aF aM : Addr), mg "FewError" = some (.ref aF) ∧ mg "Missing" = some (.ref aM) ∧ PySem.W.exmAny K (.ref CP) [.ref aF, .ref aM] = some true ∧ PySem.W.exmAny K (.ref CT) [.ref aF, .ref aM] = some true
section
variable {P : Program} {w : World} {K : PySem.W.Frag} {mg : Str → Option Value} {base : Heap} {CW CP CT : Addr}
theorem held_of {x : Str} {W : WA} {j : Nat} (d : Df P w K mg base x W j) : ∃ f, mg x = some (.ref f) ∧ HeldA P w K mg base j f W := by
  obtain ⟨f, fd, ps, n, F, hm, hk, hb, _, _, hn⟩ := d.ex
  exact ⟨f, hm, ⟨fd, ps, n, F, hk, hb, hn⟩⟩
theorem worldF_of (e : Env4 K mg) (C : EnvW K mg CW CP CT) : WorldF P w K mg base CW CP CT := by
  have dn := df_isNumber (P := P) (w := w) (base := base) e.t2 e.n1 e.n5 e.n8
  have db := df_isBetween (P := P) (w := w) (base := base) e.t3 dn
  have dt := df_isTuple (P := P) (w := w) (base := base) e.t4 e.n1 e.n3 e.n4
  have dl := df_isList (P := P) (w := w) (base := base) e.t5 e.n1 e.n2 e.n3
  have dnm := df_isName (P := P) (w := w) (base := base) e.t6 e.n1 e.n9 e.n4 e.n6 e.z1 e.z2
  have dp := df_isPart (P := P) (w := w) (base := base) e.t7 dt dnm db e.n1 e.n3 e.n4 e.n6 e.z3 e.z4
  have dk := df_isTrait (P := P) (w := w) (base := base) e.t8 dt dnm db e.n1 e.n8 e.z5
  have df := df_first (P := P) (w := w) (base := base) e.t9 e.n11 dl
  have dc := df_copiedI (P := P) (w := w) (base := base) e.t1 e.n1 e.n2 e.n3
  obtain ⟨fp, gp, hp⟩ := held_of dp
  obtain ⟨ft, gt, ht⟩ := held_of dk
  obtain ⟨f, fd, M, F, hb⟩ := C.mkW
  exact ⟨⟨f, fd, M, ok_WI F C.W (mkPart C.P C.IP C.gP C.xP.n2 C.xP.n1 dc) (mkTrait C.T C.IT C.gT C.xT.n2 C.xT.n1 dc) C.P.ra C.T.ra C.gW e.n2 df gp gt hp ht, hb⟩, C.gW⟩
theorem plainF_of (e : Env4 K mg) (C : EnvW K mg CW CP CT) : PlainF P w K mg base CW CP CT := by
  obtain ⟨mc, p, g, fd, h1, h2, F⟩ := C.pl
  exact ⟨mc, p, g, h1, h2, ok_plain F (worldF_of e C)⟩
theorem ok_law (e : Env4 K mg) (C : EnvW K mg CW CP CT) {f c PT : Addr} {fd : FuncData} (F : Fun K "law" "law" sLaw f fd) (hcd : fd.code = .ref c) (TB : LamX.TabB base mg c PT) : FnOk P w K mg base CX0 12 f fd ["_law_script"] (spLaw K PT) := by
  have d11 := df_draw (P := P) (w := w) (base := base) e.t11 e.n4 e.n5
  have d12o := df_of (P := P) (w := w) (base := base) e.t12 e.n4 d11
  have d12 := df_ofA (P := P) (w := w) (base := base) e.t12 e.n4 d11
  have d13 := df_word (P := P) (w := w) (base := base) e.t13 e.n10 d11 d12
  have d14 := df_words (P := P) (w := w) (base := base) e.t14 e.n4 e.n10 e.n2 d11 d12 d13
  have d15 := df_same (P := P) (w := w) (base := base) e.t15 e.n1 e.n2 e.n3 e.n4 e.n6 e.n7 e.n8 e.n5 e.n9 2
  have d18 := df_kinds (P := P) (w := w) (base := base) e.t18 e.n11 d11 d14
  have d19 := df_greatSizes (P := P) (w := w) (base := base) e.t19 e.n3 e.n10 d11 d12o
  have d20 := df_gp (P := P) (w := w) (base := base) e.t20 d11 d19 d14
  obtain ⟨fS, fdS, FS, hmS, hbS⟩ := e.t10.ex
  have GS : FnOk P w K mg base CX0 1 fS fdS ["_law_script"] (spSource K) := ok_source FS e.n2
  obtain ⟨g, fdW, FW, gm, gb⟩ := e.t17.ex
  obtain ⟨ocW, odW, kVW, docW, pmW, anW, cdvW, ctW, oslW, rfl, lkW, hcdW⟩ := FW.ex
  obtain ⟨aF, aM, hF, hM, eP, eT⟩ := C.few
  refine fun_okC (k := 11) F scLaw (fun vs H Q E h => by obtain ⟨a, ns, rfl, _⟩ := h; rfl) (fun cdv hcv A outer s H vs Q Ex hr h => ?_)
  obtain ⟨a, ns, rfl, hS, hlen, hP, q⟩ := h
  obtain rfl : cdv = .ref c := hcv.symm.trans hcd
  have W : WhyOk (XL P w K mg base f (.ref c) A outer s H Ex) CW CP CT [(PT, (XL P w K mg base f (.ref c) A outer s H Ex).env.qual ++ "<lambda>")] :=
    ⟨⟨g, c, PT, aF, aM, .none, kVW, docW, pmW, cdvW, ctW, ocW, anW, odW, oslW, gm, FW.kp, lkW, hcdW, gb, TB, rfl, rfl, hF, hM, eP, eT⟩, ⟨1, ok_field e.t16, by decide⟩, C.xP, C.xT, worldF_of e C, hr.mono (by decide)⟩
  have le : LE4 (XL P w K mg base f (.ref c) A outer s H Ex) CW CP CT [(PT, (XL P w K mg base f (.ref c) A outer s H Ex).env.qual ++ "<lambda>")] :=
    ⟨W, d20.call hr, d18.call hr, d11.call hr, d12.call hr, d15.call hr, e.n10, e.n4, e.n2, hr.units⟩
  have PF : PlainF P w K mg base CW CP CT := plainF_of e C
  refine ⟨_, pss_cons (ps_set (i := 1) scLaw.nd rfl (.inl rfl) (pe_call GS (hr.mono (by decide)) (by rfl) hmS FS.kp hbS .nil pass0 (pa_cons (pv 0) pa_nil))) pss_sem, ?_⟩
  refine ⟨.ref a, rfl, a, ns, rfl, hS, hlen, fun p l ms H' same np nl ne hp hl => ?_⟩
  have src : SrcOk K ⟨p, l⟩ H' := ⟨0, 0, 12023, 0, ms, hp, hl, by decide, by decide, by decide, by decide, by decide⟩
  have st : StOk K ⟨p, l⟩ [p] [] H' H' ((L2.start nLaw [.ref a]).set 1 (some (.ref p))) Γ0 := {
    len := rfl
    ent := fun i g hg => by
      match i, hg with
      | 0, hg => cases hg; exact ⟨_, rfl, trivial⟩
      | 1, hg => cases hg; exact ⟨_, rfl, .ref p, rfl, .src src (by simp)⟩
      | 2, hg => cases hg; exact ⟨_, rfl, trivial⟩
      | 3, hg => cases hg; exact ⟨_, rfl, trivial⟩
      | 4, hg => cases hg; exact ⟨_, rfl, trivial⟩
      | 5, hg => cases hg; exact ⟨_, rfl, trivial⟩
      | 6, hg => cases hg; exact ⟨_, rfl, trivial⟩
      | 7, hg => cases hg; exact ⟨_, rfl, trivial⟩
      | 8, hg => cases hg; exact ⟨_, rfl, trivial⟩
      | 9, hg => cases hg; exact ⟨_, rfl, trivial⟩
      | 10, hg => cases hg; exact ⟨_, rfl, trivial⟩
      | 11, hg => cases hg; exact ⟨_, rfl, trivial⟩
      | 12, hg => cases hg; exact ⟨_, rfl, trivial⟩
      | 13, hg => cases hg; exact ⟨_, rfl, trivial⟩
      | 14, hg => cases hg; exact ⟨_, rfl, trivial⟩
      | 15, hg => cases hg; exact ⟨_, rfl, trivial⟩
      | _ + 16, hg => exact absurd hg (by simp)
    ext := .refl
    live0 := ⟨⟨_, hp⟩, ⟨_, hl⟩, ne⟩
    mem := by simp
    bl := fun m hm => by
      have : m = p := by simpa using hm
      rw [this]; exact ⟨_, hp⟩
    nd := List.nodup_nil
    out := fun _ h => absurd h (by simp)
    new := fun _ h => absurd h (by simp)
    liv := fun _ h => absurd h (by simp) }
  have ls : LSt K ⟨p, l⟩ [(PT, (XL P w K mg base f (.ref c) A outer s H Ex).env.qual ++ "<lambda>")] H' ((L2.start nLaw [.ref a]).set 1 (some (.ref p))) Γ0 :=
    ⟨st, src, fun t ht => by rw [List.mem_singleton.mp ht]; exact LamX.TabS.nil (same _ _ hP)⟩
  refine js_run (law_all le PF e.n10) ls (fun _ _ _ _ z => False.elim z) fun v d H1 r z => ?_
  subst z
  cases r
  exact q H1
end
/-- the walk of a law that makes lambdas -/
theorem walk_ofTT {l : PySem.W.OpenLaw} {n k : Nat} {q : Program} {loose : List Str} {XP : (Str → Option Value) → Heap → Prop} {YP : World → Heap → Prop} {d d' : DefRec} {K : Params → PySem.W.Frag} {CX : World → CXT} {x y : Str}
    (hn : l.most = some n) (hn2 : n ≤ sizeLine) (hdf : d.params.defaults = []) (hr : Room k callerA) (hY : ∀ (w : World) (h : Heap), YP w h → (K w.params).In h) (hd' : (recsOf q).find? (fun e => e.name == y) = some d')
    (F : ∀ (w : World) (mg : Str → Option Value) (fa : Addr) (h : Heap), (K w.params).In h → h.Ns mainGlobals mg → mg d.name = some (.ref fa) →
      ∃ (fd : FuncData) (c PT : Addr) (sp : Sp), PySem.W.tabIn (K w.params) y = some (c, PT) ∧ (K w.params).lookup PT = none ∧ (∀ (s : Shared) (u : Value), BindsTo s fd ⟨[u], []⟩ [(x, u)]) ∧
        (∀ (H : Hp) (a : Addr) (ns : List Int), ns.length ≤ n → H PT = some (.tbl #[]) → SqL (K w.params) H a (ns.map V.int) → sp [.ref a] H (fun v _ => v = .bl true) fun _ _ _ => False) ∧
        ∀ base : Heap, (K w.params).In base → base.Ns mainGlobals mg → LamX.TabB base mg c PT → FnOk l.prog w (K w.params) mg base (CX w) k fa fd [x] sp)
    (hCX : ∀ (w : World) (H : Hp) (s : Shared) (e : Value) (s' : Shared), CX w [] H s (fun _ _ _ => False) e s' → False) :
    PySem.W.WalkO q loose XP YP l.row.toRowW d [] (fun f vs => PySem.call f vs) := by
  refine Att.attach_callB hn hdf fun w s₀ s₁ mg mb fa o pm cd doc a vs ns G Y ho hd hcd hmg hobj hints hlen hbits hg => ?_
  have KX := hY w _ Y
  obtain ⟨fd, c, PT, sp, ht, nT, hb, hsp, hF⟩ := F w mg fa _ KX G.T.g hmg
  obtain ⟨C, hT⟩ := PySem.W.tab_of G.T KX hd' ht
  exact LamX.law_callTs (cs := [(c, PT)]) KX G.T.g G.T.b G.T.builtins G.T.nolimit hg (fun p hp => by rw [List.mem_singleton.mp hp]; exact hT) (fun p hp => by rw [List.mem_singleton.mp hp]; exact nT) (fun p hp => by rw [List.mem_singleton.mp hp]; exact C) G.T.bmain hobj hints (Nat.le_trans hlen hn2) hr
    (fun base h1 h2 h3 => hF base h1 h2 (h3 _ (List.mem_singleton.mpr rfl))) hb (fun H hH hS => hsp H a ns hlen (hH _ (List.mem_singleton.mpr rfl)) hS) fun H e s' => hCX w H s₁ e s'
end G
set_option Elab.async false
set_option linter.all false
set_option maxRecDepth 100000
set_option maxHeartbeats 4000000
namespace G
open PySem PySem.Spec PyProof.Rows L2
local macro_rules | `(tactic| wtm_at "vis") => `(tactic| first | exact Or.inl rfl | exact Or.inr (Or.inl rfl) | exact Or.inr (Or.inr rfl))
local macro_rules | `(tactic| wtm_at "cal") => `(tactic| first | assumption | exact CallOk.blk (by assumption) | exact CallOkK.blk (by assumption) | exact ConstOk.blk (by assumption))
local macro_rules | `(tactic| wtm_at "nm") => `(tactic| first
  | refine ex_name 0 (by assumption) (by with_reducible rfl) (by with_reducible rfl) (by wtm_at "vis") ?_
  | refine ex_name 1 (by assumption) (by with_reducible rfl) (by with_reducible rfl) (by wtm_at "vis") ?_
  | refine ex_name 2 (by assumption) (by with_reducible rfl) (by with_reducible rfl) (by wtm_at "vis") ?_
  | refine ex_name 3 (by assumption) (by with_reducible rfl) (by with_reducible rfl) (by wtm_at "vis") ?_
  | refine ex_name 4 (by assumption) (by with_reducible rfl) (by with_reducible rfl) (by wtm_at "vis") ?_
  | refine ex_name 5 (by assumption) (by with_reducible rfl) (by with_reducible rfl) (by wtm_at "vis") ?_
  | refine ex_name 6 (by assumption) (by with_reducible rfl) (by with_reducible rfl) (by wtm_at "vis") ?_
  | refine ex_name 7 (by assumption) (by with_reducible rfl) (by with_reducible rfl) (by wtm_at "vis") ?_
  | refine ex_name 8 (by assumption) (by with_reducible rfl) (by with_reducible rfl) (by wtm_at "vis") ?_
  | refine ex_name 9 (by assumption) (by with_reducible rfl) (by with_reducible rfl) (by wtm_at "vis") ?_
  | refine ex_name 10 (by assumption) (by with_reducible rfl) (by with_reducible rfl) (by wtm_at "vis") ?_
  | refine ex_name 11 (by assumption) (by with_reducible rfl) (by with_reducible rfl) (by wtm_at "vis") ?_
  | refine ex_name 12 (by assumption) (by with_reducible rfl) (by with_reducible rfl) (by wtm_at "vis") ?_
  | refine ex_name 13 (by assumption) (by with_reducible rfl) (by with_reducible rfl) (by wtm_at "vis") ?_
  | refine ex_name 14 (by assumption) (by with_reducible rfl) (by with_reducible rfl) (by wtm_at "vis") ?_
  | refine ex_name 15 (by assumption) (by with_reducible rfl) (by with_reducible rfl) (by wtm_at "vis") ?_
  | refine ex_name 16 (by assumption) (by with_reducible rfl) (by with_reducible rfl) (by wtm_at "vis") ?_
  | refine ex_name 17 (by assumption) (by with_reducible rfl) (by with_reducible rfl) (by wtm_at "vis") ?_
  | refine ex_name 18 (by assumption) (by with_reducible rfl) (by with_reducible rfl) (by wtm_at "vis") ?_
  | refine ex_name 19 (by assumption) (by with_reducible rfl) (by with_reducible rfl) (by wtm_at "vis") ?_
  | refine ex_name 20 (by assumption) (by with_reducible rfl) (by with_reducible rfl) (by wtm_at "vis") ?_
  | refine ex_name 21 (by assumption) (by with_reducible rfl) (by with_reducible rfl) (by wtm_at "vis") ?_
  | refine ex_name 22 (by assumption) (by with_reducible rfl) (by with_reducible rfl) (by wtm_at "vis") ?_
  | refine ex_name 23 (by assumption) (by with_reducible rfl) (by with_reducible rfl) (by wtm_at "vis") ?_)
local macro_rules | `(tactic| wtm_at "kb") => `(tactic| first | exact kb0 | exact kb1 | exact kb2 | exact kb3 | exact kb4 | exact kb5 | exact kb6 | exact kb7 | exact kb8 | exact kb9 | exact kb10 | exact kb11 | exact kb12 | exact kb13 | exact kb14 | exact kb15 | exact kb16 | exact kb17 | exact kb18 | exact kb19 | exact kb20 | exact kb21 | exact kb22 | exact kb23 | exact kb24 | exact kb25 | exact kb26 | exact kb27 | exact kb28 | exact kb29)
local macro_rules | `(tactic| wtm_at "loc") => `(tactic| first | exact Or.inl rfl | exact Or.inr rfl)
local macro_rules | `(tactic| wtm_at "set") => `(tactic| first
  | refine s_set 0 (by assumption) (by assumption) (by with_reducible rfl) (by wtm_at "loc") ?_
  | refine s_set 1 (by assumption) (by assumption) (by with_reducible rfl) (by wtm_at "loc") ?_
  | refine s_set 2 (by assumption) (by assumption) (by with_reducible rfl) (by wtm_at "loc") ?_
  | refine s_set 3 (by assumption) (by assumption) (by with_reducible rfl) (by wtm_at "loc") ?_
  | refine s_set 4 (by assumption) (by assumption) (by with_reducible rfl) (by wtm_at "loc") ?_
  | refine s_set 5 (by assumption) (by assumption) (by with_reducible rfl) (by wtm_at "loc") ?_
  | refine s_set 6 (by assumption) (by assumption) (by with_reducible rfl) (by wtm_at "loc") ?_
  | refine s_set 7 (by assumption) (by assumption) (by with_reducible rfl) (by wtm_at "loc") ?_
  | refine s_set 8 (by assumption) (by assumption) (by with_reducible rfl) (by wtm_at "loc") ?_
  | refine s_set 9 (by assumption) (by assumption) (by with_reducible rfl) (by wtm_at "loc") ?_
  | refine s_set 10 (by assumption) (by assumption) (by with_reducible rfl) (by wtm_at "loc") ?_
  | refine s_set 11 (by assumption) (by assumption) (by with_reducible rfl) (by wtm_at "loc") ?_
  | refine s_set 12 (by assumption) (by assumption) (by with_reducible rfl) (by wtm_at "loc") ?_
  | refine s_set 13 (by assumption) (by assumption) (by with_reducible rfl) (by wtm_at "loc") ?_
  | refine s_set 14 (by assumption) (by assumption) (by with_reducible rfl) (by wtm_at "loc") ?_
  | refine s_set 15 (by assumption) (by assumption) (by with_reducible rfl) (by wtm_at "loc") ?_
  | refine s_set 16 (by assumption) (by assumption) (by with_reducible rfl) (by wtm_at "loc") ?_
  | refine s_set 17 (by assumption) (by assumption) (by with_reducible rfl) (by wtm_at "loc") ?_
  | refine s_set 18 (by assumption) (by assumption) (by with_reducible rfl) (by wtm_at "loc") ?_
  | refine s_set 19 (by assumption) (by assumption) (by with_reducible rfl) (by wtm_at "loc") ?_
  | refine s_set 20 (by assumption) (by assumption) (by with_reducible rfl) (by wtm_at "loc") ?_
  | refine s_set 21 (by assumption) (by assumption) (by with_reducible rfl) (by wtm_at "loc") ?_
  | refine s_set 22 (by assumption) (by assumption) (by with_reducible rfl) (by wtm_at "loc") ?_
  | refine s_set 23 (by assumption) (by assumption) (by with_reducible rfl) (by wtm_at "loc") ?_)
local macro_rules | `(tactic| wtm_at "ex") => `(tactic| first
  | ((with_reducible show EX _ (PySem.Expr.Name "int" _) _ _); refine ex_ty (by assumption) (by rfl) bt_int ?_)
  | ((with_reducible show EX _ (PySem.Expr.Name "str" _) _ _); refine ex_ty (by assumption) (by rfl) bt_str ?_)
  | ((with_reducible show EX _ (PySem.Expr.Name "bool" _) _ _); refine ex_ty (by assumption) (by rfl) bt_bool ?_)
  | ((with_reducible show EX _ (PySem.Expr.Name "list" _) _ _); refine ex_ty (by assumption) (by rfl) bt_list ?_)
  | ((with_reducible show EX _ (PySem.Expr.Name "tuple" _) _ _); refine ex_ty (by assumption) (by rfl) bt_tuple ?_)
  | ((with_reducible show EX _ (PySem.Expr.Name _ _) _ _); first | wtm_at "nm" | refine ex_glob (by wtm_at "cal") (by rfl) ?_)
  | ((with_reducible show EX _ (PySem.Expr.Constant (PySem.Const.int _) _ _) _ _); refine ex_int ?_)
  | ((with_reducible show EX _ (PySem.Expr.Constant (PySem.Const.str _) _ _) _ _); refine ex_str ?_)
  | ((with_reducible show EX _ (PySem.Expr.Constant (PySem.Const.bool _) _ _) _ _); refine ex_bl ?_)
  | ((with_reducible show EX _ (PySem.Expr.Constant PySem.Const.none _ _) _ _); refine ex_non ?_)
  | ((with_reducible show EX _ (PySem.Expr.BinOp _ PySem.Operator.Add _ _) _ _); refine ex_bin od_add ?_)
  | ((with_reducible show EX _ (PySem.Expr.BinOp _ PySem.Operator.Sub _ _) _ _); refine ex_bin od_sub ?_)
  | ((with_reducible show EX _ (PySem.Expr.BinOp _ PySem.Operator.Mult _ _) _ _); refine ex_bin od_mul ?_)
  | ((with_reducible show EX _ (PySem.Expr.BinOp _ PySem.Operator.Mod _ _) _ _); refine ex_bin od_mod ?_)
  | ((with_reducible show EX _ (PySem.Expr.BinOp _ PySem.Operator.FloorDiv _ _) _ _); refine ex_bin od_fdiv ?_)
  | ((with_reducible show EX _ (PySem.Expr.BinOp _ PySem.Operator.Pow _ _) _ _); refine ex_bin od_pow ?_)
  | ((with_reducible show EX _ (PySem.Expr.Compare _ [PySem.CmpOp.Eq] _ _) _ _); refine ex_cmp od_eq ?_)
  | ((with_reducible show EX _ (PySem.Expr.Compare _ [PySem.CmpOp.NotEq] _ _) _ _); refine ex_cmp od_ne ?_)
  | ((with_reducible show EX _ (PySem.Expr.Compare _ [PySem.CmpOp.Lt] _ _) _ _); refine ex_cmp od_lt ?_)
  | ((with_reducible show EX _ (PySem.Expr.Compare _ [PySem.CmpOp.LtE] _ _) _ _); refine ex_cmp od_le ?_)
  | ((with_reducible show EX _ (PySem.Expr.Compare _ [PySem.CmpOp.Gt] _ _) _ _); refine ex_cmp od_gt ?_)
  | ((with_reducible show EX _ (PySem.Expr.Compare _ [PySem.CmpOp.GtE] _ _) _ _); refine ex_cmp od_ge ?_)
  | ((with_reducible show EX _ (PySem.Expr.Compare _ [PySem.CmpOp.Is] _ _) _ _); refine ex_cmp od_is ?_)
  | ((with_reducible show EX _ (PySem.Expr.Compare _ [PySem.CmpOp.IsNot] _ _) _ _); refine ex_cmp od_isnot ?_)
  | ((with_reducible show EX _ (PySem.Expr.Compare _ [PySem.CmpOp.LtE, PySem.CmpOp.LtE] _ _) _ _); refine ex_chain od_le od_le ?_)
  | ((with_reducible show EX _ (PySem.Expr.UnaryOp PySem.UnaryOp.USub _ _) _ _); refine ex_neg ?_)
  | ((with_reducible show EX _ (PySem.Expr.UnaryOp PySem.UnaryOp.Not _ _) _ _); refine ex_not ?_)
  | ((with_reducible show EX _ (PySem.Expr.BoolOp PySem.BoolOp.And (_ :: _ :: _) _) _ _); refine ex_and ?_)
  | ((with_reducible show EX _ (PySem.Expr.BoolOp PySem.BoolOp.Or (_ :: _ :: _) _) _ _); refine ex_or ?_)
  | ((with_reducible show EX _ (PySem.Expr.BoolOp _ [_] _) _ _); refine ex_one ?_)
  | ((with_reducible show EX _ (PySem.Expr.IfExp _ _ _ _) _ _); refine ex_ifExp ?_)
  | ((with_reducible show EX _ (PySem.Expr.Tuple _ _ _) _ _); refine ex_tup ?_)
  | ((with_reducible show EX _ (PySem.Expr.List _ _) _ _); refine ex_lst ?_)
  | ((with_reducible show AX _ (_ :: _) _ _); refine ax_cons ?_)
  | ((with_reducible show AX _ [] _ _); refine ax_nil ?_)
  | ((with_reducible show KX _ (_ :: _) _ _); refine kx_cons ?_)
  | ((with_reducible show KX _ [] _ _); refine kx_nil ?_)
  | ((with_reducible show EX _ (PySem.Expr.Call (PySem.Expr.Name "isinstance" _) [_, PySem.Expr.Tuple [_, _] _ _] [] _) _ _); refine ex_isi2 (by assumption) (by rfl) bt_isi ?_)
  | ((with_reducible show EX _ (PySem.Expr.Call (PySem.Expr.Name "isinstance" _) _ [] _) _ _); refine ex_bi bi_isi (by assumption) (by rfl) bt_isi ?_)
  | ((with_reducible show EX _ (PySem.Expr.Call (PySem.Expr.Name "len" _) _ [] _) _ _); refine ex_bi bi_len (by assumption) (by rfl) bt_len ?_)
  | ((with_reducible show EX _ (PySem.Expr.Call (PySem.Expr.Name "abs" _) _ [] _) _ _); refine ex_bi bi_abs (by assumption) (by rfl) bt_abs ?_)
  | ((with_reducible show EX _ (PySem.Expr.Call (PySem.Expr.Name "all" _) _ [] _) _ _); refine ex_bi (bi_all rfl) (by assumption) (by rfl) bt_all ?_)
  | ((with_reducible show EX _ (PySem.Expr.Call (PySem.Expr.Name "int" _) _ [] _) _ _); refine ex_bt bi_int (by assumption) (by rfl) bt_int ?_)
  | ((with_reducible show EX _ (PySem.Expr.Call (PySem.Expr.Name "str" _) _ [] _) _ _); refine ex_bt bi_str (by assumption) (by rfl) bt_str ?_)
  | ((with_reducible show EX _ (PySem.Expr.Call (PySem.Expr.Name "list" _) _ [] _) _ _); refine ex_bt bi_list (by assumption) (by rfl) bt_list ?_)
  | ((with_reducible show EX _ (PySem.Expr.Call (PySem.Expr.Name "tuple" _) _ [] _) _ _); refine ex_bt bi_tuple (by assumption) (by rfl) bt_tuple ?_)
  | ((with_reducible show EX _ (PySem.Expr.Call (PySem.Expr.Name "gcd" _) _ [] _) _ _); refine ex_bf bi_gcd (by assumption) (by rfl) ?_)
  | ((with_reducible show EX _ (PySem.Expr.Call (PySem.Expr.Name _ _) (_ :: _) [] _) _ _); refine ex_call (by wtm_at "cal") (by rfl) ?_)
  | ((with_reducible show EX _ (PySem.Expr.Call (PySem.Expr.Name _ _) [] (_ :: _) _) _ _); refine ex_callK0 (by wtm_at "cal") (by rfl) ?_)
  | ((with_reducible show EX _ (PySem.Expr.Call (PySem.Expr.Name _ _) (_ :: _) (_ :: _) _) _ _); refine ex_callK (by wtm_at "cal") (by rfl) ?_)
  | ((with_reducible show EX _ (PySem.Expr.Subscript _ _ _) _ _); refine ex_ix ?_))
local macro_rules | `(tactic| wtm_at "tx") => `(tactic| first
  | ((with_reducible show TX _ (PySem.Expr.Compare _ [PySem.CmpOp.Eq] _ _) _ _); refine tx_cmp od_eq ?_)
  | ((with_reducible show TX _ (PySem.Expr.Compare _ [PySem.CmpOp.NotEq] _ _) _ _); refine tx_cmp od_ne ?_)
  | ((with_reducible show TX _ (PySem.Expr.Compare _ [PySem.CmpOp.Lt] _ _) _ _); refine tx_cmp od_lt ?_)
  | ((with_reducible show TX _ (PySem.Expr.Compare _ [PySem.CmpOp.LtE] _ _) _ _); refine tx_cmp od_le ?_)
  | ((with_reducible show TX _ (PySem.Expr.Compare _ [PySem.CmpOp.Gt] _ _) _ _); refine tx_cmp od_gt ?_)
  | ((with_reducible show TX _ (PySem.Expr.Compare _ [PySem.CmpOp.GtE] _ _) _ _); refine tx_cmp od_ge ?_)
  | ((with_reducible show TX _ (PySem.Expr.Compare _ [PySem.CmpOp.Is] _ _) _ _); refine tx_cmp od_is ?_)
  | ((with_reducible show TX _ (PySem.Expr.Compare _ [PySem.CmpOp.IsNot] _ _) _ _); refine tx_cmp od_isnot ?_)
  | ((with_reducible show TX _ (PySem.Expr.Compare _ [PySem.CmpOp.LtE, PySem.CmpOp.LtE] _ _) _ _); refine tx_chain od_le od_le ?_)
  | ((with_reducible show TX _ (PySem.Expr.UnaryOp PySem.UnaryOp.Not _ _) _ _); refine tx_not ?_)
  | ((with_reducible show TX _ (PySem.Expr.BoolOp _ _ _) _ _); refine tx_w ?_)
  | ((with_reducible show TW _ (PySem.Expr.BoolOp PySem.BoolOp.And (_ :: _ :: _) _) _ _); refine tw_and ?_)
  | ((with_reducible show TW _ (PySem.Expr.BoolOp PySem.BoolOp.Or (_ :: _ :: _) _) _ _); refine tw_or ?_)
  | ((with_reducible show TW _ (PySem.Expr.BoolOp PySem.BoolOp.And [_] _) _ _); refine tw_and1 ?_)
  | ((with_reducible show TW _ (PySem.Expr.BoolOp PySem.BoolOp.Or [_] _) _ _); refine tw_or1 ?_)
  | ((with_reducible show TX _ _ _ _); refine tx_truth ?_))
local macro_rules | `(tactic| wtm_at "st") => `(tactic| first
  | ((with_reducible show SX _ [_] _ _); refine sx_one ?_)
  | ((with_reducible show SX _ (_ :: _) _ _); refine sx_cons ?_)
  | ((with_reducible show SX _ [] _ _); refine sx_nil ?_)
  | ((with_reducible show S1 _ (PySem.Stmt.Return (some _) _) _ _); refine s_ret ?_)
  | ((with_reducible show S1 _ (PySem.Stmt.If _ _ _ _) _ _); refine s_if ?_)
  | ((with_reducible show S1 _ (PySem.Stmt.Expr _ _) _ _); refine s_expr ?_)
  | ((with_reducible show S1 _ (PySem.Stmt.Pass _) _ _); refine s_pass ?_)
  | ((with_reducible show S1 _ (PySem.Stmt.Assign [PySem.Expr.Name _ _] _ _) _ _); wtm_at "set"))
local macro_rules | `(tactic| wtm_at "op") => `(tactic| with_reducible first
  | refine o_add ?_
  | refine o_sub ?_
  | refine o_lt ?_
  | refine o_le ?_
  | refine o_gt ?_
  | refine o_ge ?_
  | refine o_is ?_
  | refine o_isnot ?_
  | refine o_lenl ?_
  | refine o_lent ?_
  | refine o_abs ?_
  | refine o_int ?_
  | refine o_listl ?_
  | refine o_listt ?_
  | refine o_tupl ?_
  | refine o_tupt ?_
  | refine o_all ?_
  | refine o_gcd ?_
  | refine o_asB ?_
  | refine o_asI ?_
  | refine o_asL ?_
  | refine o_asT ?_
  | refine o_truB ?_
  | refine o_truN ?_
  | refine o_truL ?_
  | refine o_truT ?_
  | refine if_t ?_
  | refine if_f ?_
  | refine if_nf ?_
  | refine if_nt ?_)
local macro_rules | `(tactic| wtm_at "op2") => `(tactic| first
  | ((with_reducible show if _ = true then _ else _); first | refine if_ev_t rfl ?_ | refine if_ev_f rfl ?_)
  | ((with_reducible show wIsi [_, D.ty _] _); refine o_isi rfl (by wtm_at "kb") ?_)
  | ((with_reducible show wEq _ _ _); refine o_eq rfl ?_)
  | ((with_reducible show wNe _ _ _); refine o_ne rfl ?_)
  | ((with_reducible show wIx (D.lst _) (D.int _) _); refine o_ixl rfl ?_)
  | ((with_reducible show wIx (D.tup _) (D.int _) _); refine o_ixt rfl ?_)
  | ((with_reducible show wPow _ _ _); refine o_pow ⟨by decide, by decide, by decide⟩ ?_)
  | ((with_reducible show (_ ≤ 100000) ∧ _); refine ⟨Nat.le_of_ble_eq_true rfl, ?_⟩)
  | ((with_reducible show ∃ n1 n2 t k1 k2, _); refine o_isi2 rfl (by wtm_at "kb") (by wtm_at "kb") ?_))
local macro_rules | `(tactic| wtm_at "go") => `(tactic| first | wtm_at "ex" | wtm_at "op" | wtm_at "op2" | wtm_at "tx" | wtm_at "st")
local macro_rules | `(tactic| wtm_at "ex") => `(tactic| first
  | ((with_reducible show EX _ (PySem.Expr.Compare _ [PySem.CmpOp.In] _ _) _ _); refine ex_cmp od_in ?_)
  | ((with_reducible show EX _ (PySem.Expr.Attribute _ _ _) _ _); refine ex_fld ?_)
  | ((with_reducible show EX _ (PySem.Expr.Call (PySem.Expr.Name _ _) (_ :: _) [] _) _ _); refine ex_make (by assumption) (by rfl) ?_)
  | ((with_reducible show EX _ (PySem.Expr.Call (PySem.Expr.Name _ _) [] [] _) _ _); first | refine ex_make0 (by assumption) (by rfl) ?_ | refine ex_call0 (by wtm_at "cal") (by rfl) ?_))
local macro_rules | `(tactic| wtm_at "op2") => `(tactic| first
  | ((with_reducible show wIn (D.str _) (D.lst _) _); refine o_in rfl ?_))
local macro_rules | `(tactic| wtm_at "tx") => `(tactic| first
  | ((with_reducible show TX _ (PySem.Expr.Compare _ [PySem.CmpOp.In] _ _) _ _); refine tx_cmp od_in ?_))
theorem top_mk {K : PySem.W.Frag} {mg : Str → Option Value} {h : Heap} {x : Str} {st : Stmt} {ps : List Str} {f : Addr} {oc : Value} {od an : Option Addr} {osl : Array (Option Value)} {kV doc pm cdv ct : Value} (X : K.In h) (G : h.Ns mainGlobals mg) (a : PySem.W.nsIn K mainGlobals x = some (some (.ref f)))
    (l : K.lookup f = some ⟨oc, od, .func (PySem.W.fnOf x x (defArgs st) (defBody st) (defScope st) .none kV doc pm an cdv ct), osl⟩) (c : PySem.W.codeIn K cdv x = true) (k : PySem.W.keepIn K (.ref f) = true)
    (hb : ∀ (kV doc pm : Value) (an : Option Addr) (cdv ct : Value) (us : List Value), us.length = ps.length → bindArgs (PySem.W.fnOf x x (defArgs st) (defBody st) (defScope st) .none kV doc pm an cdv ct) ⟨us, []⟩ = pure (ps.zip us)) : Top K mg x st ps := by
  have F := fun_mk (st := st) l c k
  exact ⟨f, _, F, PySem.W.mg_of X G a, F.binds hb⟩
theorem exc_mk {K : PySem.W.Frag} {nm : Str} {a : Addr} {B newId initId : String} {bmB : List Value} (FB : ExcBaseFacts B newId initId bmB) (SF : StoreFacts B bmB "object.__setattr__" "object") (hn : PySem.W.specialIn K (.builtin "object.__class__") "__get__" = some (some (.builtin "getset_descriptor.__get__"))) (ht : PySem.W.takesIn K (.builtin "object.__class__") = some true)
    (n : PySem.W.nsIn K mainGlobals nm = some (some (.ref a))) (q1 : PySem.W.excInitIn K a bmB newId = true) (q2 : PySem.W.excOver K a bmB = true) (ty : PySem.W.typeIn K (.ref a) = some (.type "type"))
    (sa : PySem.W.findIn K (.ref a) "__setattr__" = some (some (.builtin "object.__setattr__"))) (kC : PySem.W.keepIn K (.ref a) = true) (hg : PySem.W.findIn K (.ref a) "__getattribute__" = some (some (.builtin "BaseException.__getattribute__"))) (hk : PySem.W.findIn K (.ref a) "__getattr__" = some none)
    (hs : PySem.W.subIn K (.ref a) (.type "BaseException") = some true) (hd : PySem.W.hasDictIn K a = true) (ha : PySem.W.findIn K (.ref a) "__class__" = some (some (.builtin "object.__class__"))) (hm : PySem.W.mroIn K a (.type "object") = some true) (r1 : PySem.W.findIn K (.ref a) "code" = some none) (r2 : PySem.W.findIn K (.ref a) "index" = some none) : ClsA K nm a ∧ XcI K a :=
  ⟨⟨⟨⟨B, newId, initId, bmB, FB, SF, q1, q2⟩, sa, kC, ⟨hg, hk, hs, hd, ha, hn, ht, hm⟩⟩, n, hs, ty⟩, ⟨⟨hg, hk, hs, hd⟩, r1, r2⟩⟩
theorem iniA_mk {K : PySem.W.Frag} {a : Addr} {q : Str} {st : Stmt} {ps : List Str} {f : Addr} {oc : Value} {od an : Option Addr} {osl : Array (Option Value)} {kV doc pm cdv ct : Value} (iC : PySem.W.findIn K (.ref a) "__init__" = some (some (.ref f))) (tI : PySem.W.typeIn K (.ref f) = some (.type "function"))
    (l : K.lookup f = some ⟨oc, od, .func (PySem.W.fnOf "__init__" q (defArgs st) (defBody st) (defScope st) .none kV doc pm an cdv ct), osl⟩) (c : PySem.W.codeIn K cdv q = true) (k : PySem.W.keepIn K (.ref f) = true)
    (hb : ∀ (kV doc pm : Value) (an : Option Addr) (cdv ct : Value) (us : List Value), us.length = ps.length → bindArgs (PySem.W.fnOf "__init__" q (defArgs st) (defBody st) (defScope st) .none kV doc pm an cdv ct) ⟨us, []⟩ = pure (ps.zip us)) : IniA K a q st ps := by
  have F := fun_mk (st := st) l c k
  exact ⟨f, _, iC, tI, F, F.binds hb⟩
theorem world_mk {K : PySem.W.Frag} {CW f : Addr} {oc : Value} {od an : Option Addr} {osl : Array (Option Value)} {kV doc pm cdv ct : Value} (mk : PySem.W.makesIn K CW = true) (iC : PySem.W.findIn K (.ref CW) "__init__" = some (some (.ref f))) (fn : PySem.W.isFn K (.ref f) = true) (kp : PySem.W.keepIn K (.ref CW) = true)
    (l : K.lookup f = some ⟨oc, od, .func (PySem.W.fnOf "__init__" "World.__init__" (defArgs sWI) (defBody sWI) (defScope sWI) .none kV doc pm an cdv ct), osl⟩) (c : PySem.W.codeIn K cdv "World.__init__" = true) (k : PySem.W.keepIn K (.ref f) = true) :
    ∃ (f : Addr) (fd : FuncData), Mk K CW f ∧ Fun K "__init__" "World.__init__" sWI f fd ∧ Binds K fd ["self", "parts", "traits"] [] := by
  have F := fun_mk (st := sWI) l c k
  exact ⟨f, _, ⟨mk, iC, fn, kp⟩, F, F.binds (fun _ _ _ _ _ _ us hl => match us, hl with | [_, _, _], _ => rfl)⟩
theorem worldK_mk {K : PySem.W.Frag} {CW : Addr} {t3 t6 : Tok} (pg : PySem.W.plainGet K CW Str.empty = true) (hd : PySem.W.hasDictIn K CW = true) (po : PySem.W.plainOver K CW = true) (sa : PySem.W.findIn K (.ref CW) "__setattr__" = some (some (.builtin "object.__setattr__")))
    (rd : PySem.W.readsIn K CW (.type "type") = true) (ga : PySem.W.specialIn K (.ref CW) "__getattribute__" = some (some (.builtin "type.__getattribute__"))) (v3 : PySem.W.findCls K (.ref CW) (.type "type") "MOST_PARTS" = some (.val (.int 3 t3))) (v6 : PySem.W.findCls K (.ref CW) (.type "type") "MOST_TRAITS" = some (.val (.int 6 t6)))
    (n1 : PySem.W.findIn K (.ref CW) "_parts" = some none) (n2 : PySem.W.findIn K (.ref CW) "_traits" = some none) : WorldK K CW :=
  ⟨⟨pg, hd, po, sa⟩, ⟨_, _, _, ⟨rd, ga⟩, ⟨v3, ⟨_, rfl⟩⟩, ⟨v6, ⟨_, rfl⟩⟩⟩, n1, n2⟩
theorem plain_mk {K : PySem.W.Frag} {CW p g : Addr} {rest : List Value} {oc : Value} {od an : Option Addr} {osl : Array (Option Value)} {kV doc pm cdv ct : Value} (rd : PySem.W.readsIn K CW (.type "type") = true) (ga : PySem.W.specialIn K (.ref CW) "__getattribute__" = some (some (.builtin "type.__getattribute__")))
    (at_ : PySem.W.findCls K (.ref CW) (.type "type") "plain" = some (.get (.builtin "classmethod.__get__") (.ref p) .none (.ref CW))) (rc : PySem.W.recIn K p "classmethod" = some (.ref g :: rest)) (fi : PySem.W.fnIn K g = true)
    (l : K.lookup g = some ⟨oc, od, .func (PySem.W.fnOf "plain" "World.plain" (defArgs sPlain) (defBody sPlain) (defScope sPlain) .none kV doc pm an cdv ct), osl⟩) (c : PySem.W.codeIn K cdv "World.plain" = true) (k : PySem.W.keepIn K (.ref g) = true) :
    ∃ (mc : Value) (p g : Addr) (fd : FuncData), ClX.CRead K CW mc ∧ ClX.CMet K CW mc "plain" p g ∧ Fun K "plain" "World.plain" sPlain g fd :=
  ⟨_, p, g, _, ⟨rd, ga⟩, ⟨at_, ⟨rest, rc⟩, fi⟩, fun_mk (st := sPlain) l c k⟩
theorem tab_mk {K : PySem.W.Frag} {x : Str} {f c PT : Addr} {fd : FuncData} {oc oc2 : Value} {od od2 : Option Addr} {osl osl2 : Array (Option Value)} {vs : Array Value} (a : PySem.W.nsIn K mainGlobals x = some (some (.ref f))) (l : K.lookup f = some ⟨oc, od, .func fd, osl⟩) (hc : fd.code = .ref c) (lc : K.lookup c = some ⟨oc2, od2, .fields vs, osl2⟩) (h11 : vs[11]? = some (.ref PT)) : PySem.W.tabIn K x = some (c, PT) := by
  unfold PySem.W.tabIn
  rw [a]
  simp only [l, hc, lc, h11]
set_option maxHeartbeats 16000000 in
theorem all_mk {l : PySem.W.OpenLaw} {w : World} {K : PySem.W.Frag} {h : Heap} {mg : Str → Option Value} {fa : Addr} (X : K.In h) (G : h.Ns mainGlobals mg) (hfa : mg "law" = some (.ref fa))
    {od1 an1 : Option Addr} {sl1 : Array (Option Value)} {oc1 kV1 dc1 pm1 cd1 ct1 : Value} {f1 : Addr}
    (a1 : PySem.W.nsIn K mainGlobals "copied" = some (some (.ref f1))) (l1 : K.lookup f1 = some ⟨oc1, od1, .func (PySem.W.fnOf "copied" "copied" (defArgs sCopied) (defBody sCopied) (defScope sCopied) .none kV1 dc1 pm1 an1 cd1 ct1), sl1⟩) (c1 : PySem.W.codeIn K cd1 "copied" = true) (k1 : PySem.W.keepIn K (.ref f1) = true)
    {od2 an2 : Option Addr} {sl2 : Array (Option Value)} {oc2 kV2 dc2 pm2 cd2 ct2 : Value} {f2 : Addr}
    (a2 : PySem.W.nsIn K mainGlobals "is_number" = some (some (.ref f2))) (l2 : K.lookup f2 = some ⟨oc2, od2, .func (PySem.W.fnOf "is_number" "is_number" (defArgs sIsNumber) (defBody sIsNumber) (defScope sIsNumber) .none kV2 dc2 pm2 an2 cd2 ct2), sl2⟩) (c2 : PySem.W.codeIn K cd2 "is_number" = true) (k2 : PySem.W.keepIn K (.ref f2) = true)
    {od3 an3 : Option Addr} {sl3 : Array (Option Value)} {oc3 kV3 dc3 pm3 cd3 ct3 : Value} {f3 : Addr}
    (a3 : PySem.W.nsIn K mainGlobals "is_between" = some (some (.ref f3))) (l3 : K.lookup f3 = some ⟨oc3, od3, .func (PySem.W.fnOf "is_between" "is_between" (defArgs sIsBetween) (defBody sIsBetween) (defScope sIsBetween) .none kV3 dc3 pm3 an3 cd3 ct3), sl3⟩) (c3 : PySem.W.codeIn K cd3 "is_between" = true) (k3 : PySem.W.keepIn K (.ref f3) = true)
    {od4 an4 : Option Addr} {sl4 : Array (Option Value)} {oc4 kV4 dc4 pm4 cd4 ct4 : Value} {f4 : Addr}
    (a4 : PySem.W.nsIn K mainGlobals "is_tuple_of" = some (some (.ref f4))) (l4 : K.lookup f4 = some ⟨oc4, od4, .func (PySem.W.fnOf "is_tuple_of" "is_tuple_of" (defArgs sIsTuple) (defBody sIsTuple) (defScope sIsTuple) .none kV4 dc4 pm4 an4 cd4 ct4), sl4⟩) (c4 : PySem.W.codeIn K cd4 "is_tuple_of" = true) (k4 : PySem.W.keepIn K (.ref f4) = true)
    {od5 an5 : Option Addr} {sl5 : Array (Option Value)} {oc5 kV5 dc5 pm5 cd5 ct5 : Value} {f5 : Addr}
    (a5 : PySem.W.nsIn K mainGlobals "is_list" = some (some (.ref f5))) (l5 : K.lookup f5 = some ⟨oc5, od5, .func (PySem.W.fnOf "is_list" "is_list" (defArgs sIsList) (defBody sIsList) (defScope sIsList) .none kV5 dc5 pm5 an5 cd5 ct5), sl5⟩) (c5 : PySem.W.codeIn K cd5 "is_list" = true) (k5 : PySem.W.keepIn K (.ref f5) = true)
    {od6 an6 : Option Addr} {sl6 : Array (Option Value)} {oc6 kV6 dc6 pm6 cd6 ct6 : Value} {f6 : Addr}
    (a6 : PySem.W.nsIn K mainGlobals "is_name" = some (some (.ref f6))) (l6 : K.lookup f6 = some ⟨oc6, od6, .func (PySem.W.fnOf "is_name" "is_name" (defArgs sIsName) (defBody sIsName) (defScope sIsName) .none kV6 dc6 pm6 an6 cd6 ct6), sl6⟩) (c6 : PySem.W.codeIn K cd6 "is_name" = true) (k6 : PySem.W.keepIn K (.ref f6) = true)
    {od7 an7 : Option Addr} {sl7 : Array (Option Value)} {oc7 kV7 dc7 pm7 cd7 ct7 : Value} {f7 : Addr}
    (a7 : PySem.W.nsIn K mainGlobals "is_part" = some (some (.ref f7))) (l7 : K.lookup f7 = some ⟨oc7, od7, .func (PySem.W.fnOf "is_part" "is_part" (defArgs sIsPart) (defBody sIsPart) (defScope sIsPart) .none kV7 dc7 pm7 an7 cd7 ct7), sl7⟩) (c7 : PySem.W.codeIn K cd7 "is_part" = true) (k7 : PySem.W.keepIn K (.ref f7) = true)
    {od8 an8 : Option Addr} {sl8 : Array (Option Value)} {oc8 kV8 dc8 pm8 cd8 ct8 : Value} {f8 : Addr}
    (a8 : PySem.W.nsIn K mainGlobals "is_trait" = some (some (.ref f8))) (l8 : K.lookup f8 = some ⟨oc8, od8, .func (PySem.W.fnOf "is_trait" "is_trait" (defArgs sIsTrait) (defBody sIsTrait) (defScope sIsTrait) .none kV8 dc8 pm8 an8 cd8 ct8), sl8⟩) (c8 : PySem.W.codeIn K cd8 "is_trait" = true) (k8 : PySem.W.keepIn K (.ref f8) = true)
    {od9 an9 : Option Addr} {sl9 : Array (Option Value)} {oc9 kV9 dc9 pm9 cd9 ct9 : Value} {f9 : Addr}
    (a9 : PySem.W.nsIn K mainGlobals "first_wrong" = some (some (.ref f9))) (l9 : K.lookup f9 = some ⟨oc9, od9, .func (PySem.W.fnOf "first_wrong" "first_wrong" (defArgs sFirst) (defBody sFirst) (defScope sFirst) .none kV9 dc9 pm9 an9 cd9 ct9), sl9⟩) (c9 : PySem.W.codeIn K cd9 "first_wrong" = true) (k9 : PySem.W.keepIn K (.ref f9) = true)
    {od10 an10 : Option Addr} {sl10 : Array (Option Value)} {oc10 kV10 dc10 pm10 cd10 ct10 : Value} {f10 : Addr}
    (a10 : PySem.W.nsIn K mainGlobals "_law_source" = some (some (.ref f10))) (l10 : K.lookup f10 = some ⟨oc10, od10, .func (PySem.W.fnOf "_law_source" "_law_source" (defArgs sSource) (defBody sSource) (defScope sSource) .none kV10 dc10 pm10 an10 cd10 ct10), sl10⟩) (c10 : PySem.W.codeIn K cd10 "_law_source" = true) (k10 : PySem.W.keepIn K (.ref f10) = true)
    {od11 an11 : Option Addr} {sl11 : Array (Option Value)} {oc11 kV11 dc11 pm11 cd11 ct11 : Value} {f11 : Addr}
    (a11 : PySem.W.nsIn K mainGlobals "_law_draw" = some (some (.ref f11))) (l11 : K.lookup f11 = some ⟨oc11, od11, .func (PySem.W.fnOf "_law_draw" "_law_draw" (defArgs sDraw) (defBody sDraw) (defScope sDraw) .none kV11 dc11 pm11 an11 cd11 ct11), sl11⟩) (c11 : PySem.W.codeIn K cd11 "_law_draw" = true) (k11 : PySem.W.keepIn K (.ref f11) = true)
    {od12 an12 : Option Addr} {sl12 : Array (Option Value)} {oc12 kV12 dc12 pm12 cd12 ct12 : Value} {f12 : Addr}
    (a12 : PySem.W.nsIn K mainGlobals "_law_of" = some (some (.ref f12))) (l12 : K.lookup f12 = some ⟨oc12, od12, .func (PySem.W.fnOf "_law_of" "_law_of" (defArgs sOf) (defBody sOf) (defScope sOf) .none kV12 dc12 pm12 an12 cd12 ct12), sl12⟩) (c12 : PySem.W.codeIn K cd12 "_law_of" = true) (k12 : PySem.W.keepIn K (.ref f12) = true)
    {od13 an13 : Option Addr} {sl13 : Array (Option Value)} {oc13 kV13 dc13 pm13 cd13 ct13 : Value} {f13 : Addr}
    (a13 : PySem.W.nsIn K mainGlobals "_law_word" = some (some (.ref f13))) (l13 : K.lookup f13 = some ⟨oc13, od13, .func (PySem.W.fnOf "_law_word" "_law_word" (defArgs sWord) (defBody sWord) (defScope sWord) .none kV13 dc13 pm13 an13 cd13 ct13), sl13⟩) (c13 : PySem.W.codeIn K cd13 "_law_word" = true) (k13 : PySem.W.keepIn K (.ref f13) = true)
    {od14 an14 : Option Addr} {sl14 : Array (Option Value)} {oc14 kV14 dc14 pm14 cd14 ct14 : Value} {f14 : Addr}
    (a14 : PySem.W.nsIn K mainGlobals "_law_words" = some (some (.ref f14))) (l14 : K.lookup f14 = some ⟨oc14, od14, .func (PySem.W.fnOf "_law_words" "_law_words" (defArgs sWords) (defBody sWords) (defScope sWords) .none kV14 dc14 pm14 an14 cd14 ct14), sl14⟩) (c14 : PySem.W.codeIn K cd14 "_law_words" = true) (k14 : PySem.W.keepIn K (.ref f14) = true)
    {od15 an15 : Option Addr} {sl15 : Array (Option Value)} {oc15 kV15 dc15 pm15 cd15 ct15 : Value} {f15 : Addr}
    (a15 : PySem.W.nsIn K mainGlobals "_law_same" = some (some (.ref f15))) (l15 : K.lookup f15 = some ⟨oc15, od15, .func (PySem.W.fnOf "_law_same" "_law_same" (defArgs sSame) (defBody sSame) (defScope sSame) .none kV15 dc15 pm15 an15 cd15 ct15), sl15⟩) (c15 : PySem.W.codeIn K cd15 "_law_same" = true) (k15 : PySem.W.keepIn K (.ref f15) = true)
    {od16 an16 : Option Addr} {sl16 : Array (Option Value)} {oc16 kV16 dc16 pm16 cd16 ct16 : Value} {f16 : Addr}
    (a16 : PySem.W.nsIn K mainGlobals "_law_field" = some (some (.ref f16))) (l16 : K.lookup f16 = some ⟨oc16, od16, .func (PySem.W.fnOf "_law_field" "_law_field" (defArgs sField) (defBody sField) (defScope sField) .none kV16 dc16 pm16 an16 cd16 ct16), sl16⟩) (c16 : PySem.W.codeIn K cd16 "_law_field" = true) (k16 : PySem.W.keepIn K (.ref f16) = true)
    {od17 an17 : Option Addr} {sl17 : Array (Option Value)} {oc17 kV17 dc17 pm17 cd17 ct17 : Value} {f17 : Addr}
    (a17 : PySem.W.nsIn K mainGlobals "_law_why" = some (some (.ref f17))) (l17 : K.lookup f17 = some ⟨oc17, od17, .func (PySem.W.fnOf "_law_why" "_law_why" (defArgs sWhy) (defBody sWhy) (defScope sWhy) .none kV17 dc17 pm17 an17 cd17 ct17), sl17⟩) (c17 : PySem.W.codeIn K cd17 "_law_why" = true) (k17 : PySem.W.keepIn K (.ref f17) = true)
    {od18 an18 : Option Addr} {sl18 : Array (Option Value)} {oc18 kV18 dc18 pm18 cd18 ct18 : Value} {f18 : Addr}
    (a18 : PySem.W.nsIn K mainGlobals "_law_kinds" = some (some (.ref f18))) (l18 : K.lookup f18 = some ⟨oc18, od18, .func (PySem.W.fnOf "_law_kinds" "_law_kinds" (defArgs sKinds) (defBody sKinds) (defScope sKinds) .none kV18 dc18 pm18 an18 cd18 ct18), sl18⟩) (c18 : PySem.W.codeIn K cd18 "_law_kinds" = true) (k18 : PySem.W.keepIn K (.ref f18) = true)
    {od19 an19 : Option Addr} {sl19 : Array (Option Value)} {oc19 kV19 dc19 pm19 cd19 ct19 : Value} {f19 : Addr}
    (a19 : PySem.W.nsIn K mainGlobals "_law_great_sizes" = some (some (.ref f19))) (l19 : K.lookup f19 = some ⟨oc19, od19, .func (PySem.W.fnOf "_law_great_sizes" "_law_great_sizes" (defArgs sGreatSizes) (defBody sGreatSizes) (defScope sGreatSizes) .none kV19 dc19 pm19 an19 cd19 ct19), sl19⟩) (c19 : PySem.W.codeIn K cd19 "_law_great_sizes" = true) (k19 : PySem.W.keepIn K (.ref f19) = true)
    {od20 an20 : Option Addr} {sl20 : Array (Option Value)} {oc20 kV20 dc20 pm20 cd20 ct20 : Value} {f20 : Addr}
    (a20 : PySem.W.nsIn K mainGlobals "_law_great_parts" = some (some (.ref f20))) (l20 : K.lookup f20 = some ⟨oc20, od20, .func (PySem.W.fnOf "_law_great_parts" "_law_great_parts" (defArgs sGp) (defBody sGp) (defScope sGp) .none kV20 dc20 pm20 an20 cd20 ct20), sl20⟩) (c20 : PySem.W.codeIn K cd20 "_law_great_parts" = true) (k20 : PySem.W.keepIn K (.ref f20) = true)
    {odL anL : Option Addr} {slL : Array (Option Value)} {ocL kVL dcL pmL  ctL : Value} {fL cL0 : Addr}
    (aL : PySem.W.nsIn K mainGlobals "law" = some (some (.ref fL))) (lL : K.lookup fL = some ⟨ocL, odL, .func (PySem.W.fnOf "law" "law" (defArgs sLaw) (defBody sLaw) (defScope sLaw) .none kVL dcL pmL anL (.ref cL0) ctL), slL⟩) (cL : PySem.W.codeIn K (.ref cL0) "law" = true) (kL : PySem.W.keepIn K (.ref fL) = true)
    (z1 : PySem.W.nsIn K mainGlobals "isinstance" = some none)
    (z2 : PySem.W.nsIn K mainGlobals "list" = some none)
    (z3 : PySem.W.nsIn K mainGlobals "tuple" = some none)
    (z4 : PySem.W.nsIn K mainGlobals "len" = some none)
    (z5 : PySem.W.nsIn K mainGlobals "int" = some none)
    (z6 : PySem.W.nsIn K mainGlobals "all" = some none)
    (z7 : PySem.W.nsIn K mainGlobals "zip" = some none)
    (z8 : PySem.W.nsIn K mainGlobals "bool" = some none)
    (z9 : PySem.W.nsIn K mainGlobals "str" = some none)
    (z10 : PySem.W.nsIn K mainGlobals "range" = some none)
    (z11 : PySem.W.nsIn K mainGlobals "enumerate" = some none)
    {v1 : Int} {t1 : Tok} (y1 : PySem.W.nsIn K mainGlobals "LONGEST_NAME" = some (some (.int v1 t1))) (x1 : v1 = 8)
    {v2 : Str} {t2 : Tok} (y2 : PySem.W.nsIn K mainGlobals "LETTERS" = some (some (.str v2 t2))) (x2 : v2 = lettersS)
    {v3 : Int} {t3 : Tok} (y3 : PySem.W.nsIn K mainGlobals "MOST_SIZES" = some (some (.int v3 t3))) (x3 : v3 = 3)
    {v4 : Int} {t4 : Tok} (y4 : PySem.W.nsIn K mainGlobals "GREATEST_SIZE" = some (some (.int v4 t4))) (x4 : v4 = (10 ^ 30))
    {v5 : Int} {t5 : Tok} (y5 : PySem.W.nsIn K mainGlobals "MOST_ENDS" = some (some (.int v5 t5))) (x5 : v5 = 3)
    {CW CP CT aF aM : Addr} (gW : PySem.W.nsIn K mainGlobals "World" = some (some (.ref CW))) (gF : PySem.W.nsIn K mainGlobals "FewError" = some (some (.ref aF))) (gM : PySem.W.nsIn K mainGlobals "Missing" = some (some (.ref aM)))
    (hP : ClsA K "InvalidPart" CP ∧ XcI K CP) (iP : IniA K CP "InvalidPart.__init__" sInP ["self", "index"]) (hT : ClsA K "InvalidTrait" CT ∧ XcI K CT) (iT : IniA K CT "InvalidTrait.__init__" sInT ["self", "index"])
    (eP : PySem.W.exmAny K (.ref CP) [.ref aF, .ref aM] = some true) (eT : PySem.W.exmAny K (.ref CT) [.ref aF, .ref aM] = some true) (hW : WorldK K CW)
    (mW : ∃ (f : Addr) (fd : FuncData), Mk K CW f ∧ Fun K "__init__" "World.__init__" sWI f fd ∧ Binds K fd ["self", "parts", "traits"] [])
    (pW : ∃ (mc : Value) (p g : Addr) (fd : FuncData), ClX.CRead K CW mc ∧ ClX.CMet K CW mc "plain" p g ∧ Fun K "plain" "World.plain" sPlain g fd)
    {ocC : Value} {odC : Option Addr} {slC : Array (Option Value)} {vs : Array Value} {PT : Addr} (lC : K.lookup cL0 = some ⟨ocC, odC, .fields vs, slC⟩) (h11 : vs[11]? = some (.ref PT)) (nT : K.lookup PT = none) :
    ∃ (fd : FuncData) (c PT : Addr) (sp : Sp), PySem.W.tabIn K "law" = some (c, PT) ∧ K.lookup PT = none ∧ (∀ (s : Shared) (u : Value), BindsTo s fd ⟨[u], []⟩ [("_law_script", u)]) ∧
      (∀ (H : Hp) (a : Addr) (ns : List Int), ns.length ≤ 63 → H PT = some (.tbl #[]) → SqL K H a (ns.map V.int) → sp [.ref a] H (fun v _ => v = .bl true) fun _ _ _ => False) ∧
      ∀ base : Heap, K.In base → base.Ns mainGlobals mg → LamX.TabB base mg c PT → FnOk l.prog w K mg base CX0 12 fa fd ["_law_script"] sp := by
  have e := hfa.symm.trans (PySem.W.mg_of X G aL)
  cases e
  have T1 : Top K mg "copied" sCopied ["value"] := top_mk X G a1 l1 c1 k1 (fun _ _ _ _ _ _ us hl => match us, hl with | [_], _ => rfl)
  have T2 : Top K mg "is_number" sIsNumber ["value"] := top_mk X G a2 l2 c2 k2 (fun _ _ _ _ _ _ us hl => match us, hl with | [_], _ => rfl)
  have T3 : Top K mg "is_between" sIsBetween ["value", "least", "most"] := top_mk X G a3 l3 c3 k3 (fun _ _ _ _ _ _ us hl => match us, hl with | [_, _, _], _ => rfl)
  have T4 : Top K mg "is_tuple_of" sIsTuple ["value", "many"] := top_mk X G a4 l4 c4 k4 (fun _ _ _ _ _ _ us hl => match us, hl with | [_, _], _ => rfl)
  have T5 : Top K mg "is_list" sIsList ["value"] := top_mk X G a5 l5 c5 k5 (fun _ _ _ _ _ _ us hl => match us, hl with | [_], _ => rfl)
  have T6 : Top K mg "is_name" sIsName ["value"] := top_mk X G a6 l6 c6 k6 (fun _ _ _ _ _ _ us hl => match us, hl with | [_], _ => rfl)
  have T7 : Top K mg "is_part" sIsPart ["row"] := top_mk X G a7 l7 c7 k7 (fun _ _ _ _ _ _ us hl => match us, hl with | [_], _ => rfl)
  have T8 : Top K mg "is_trait" sIsTrait ["row"] := top_mk X G a8 l8 c8 k8 (fun _ _ _ _ _ _ us hl => match us, hl with | [_], _ => rfl)
  have T9 : Top K mg "first_wrong" sFirst ["rows", "most", "is_right"] := top_mk X G a9 l9 c9 k9 (fun _ _ _ _ _ _ us hl => match us, hl with | [_, _, _], _ => rfl)
  have T10 : Top K mg "_law_source" sSource ["_law_script"] := top_mk X G a10 l10 c10 k10 (fun _ _ _ _ _ _ us hl => match us, hl with | [_], _ => rfl)
  have T11 : Top K mg "_law_draw" sDraw ["_law_src", "_law_many7"] := top_mk X G a11 l11 c11 k11 (fun _ _ _ _ _ _ us hl => match us, hl with | [_, _], _ => rfl)
  have T12 : Top K mg "_law_of" sOf ["_law_src", "_law_things7"] := top_mk X G a12 l12 c12 k12 (fun _ _ _ _ _ _ us hl => match us, hl with | [_, _], _ => rfl)
  have T13 : Top K mg "_law_word" sWord ["_law_src", "_law_most"] := top_mk X G a13 l13 c13 k13 (fun _ _ _ _ _ _ us hl => match us, hl with | [_, _], _ => rfl)
  have T14 : Top K mg "_law_words" sWords ["_law_src", "_law_many"] := top_mk X G a14 l14 c14 k14 (fun _ _ _ _ _ _ us hl => match us, hl with | [_, _], _ => rfl)
  have T15 : Top K mg "_law_same" sSame ["_law_found", "_law_due"] := top_mk X G a15 l15 c15 k15 (fun _ _ _ _ _ _ us hl => match us, hl with | [_, _], _ => rfl)
  have T16 : Top K mg "_law_field" sField ["_law_e"] := top_mk X G a16 l16 c16 k16 (fun _ _ _ _ _ _ us hl => match us, hl with | [_], _ => rfl)
  have T17 : Top K mg "_law_why" sWhy ["_law_ask7"] := top_mk X G a17 l17 c17 k17 (fun _ _ _ _ _ _ us hl => match us, hl with | [_], _ => rfl)
  have T18 : Top K mg "_law_kinds" sKinds ["_law_src", "_law_many"] := top_mk X G a18 l18 c18 k18 (fun _ _ _ _ _ _ us hl => match us, hl with | [_, _], _ => rfl)
  have T19 : Top K mg "_law_great_sizes" sGreatSizes ["_law_src"] := top_mk X G a19 l19 c19 k19 (fun _ _ _ _ _ _ us hl => match us, hl with | [_], _ => rfl)
  have T20 : Top K mg "_law_great_parts" sGp ["_law_src"] := top_mk X G a20 l20 c20 k20 (fun _ _ _ _ _ _ us hl => match us, hl with | [_], _ => rfl)
  have FL := fun_mk (st := sLaw) lL cL kL
  have N := fun {x : Str} (z : PySem.W.nsIn K mainGlobals x = some none) => PySem.W.mg_none_of X G z
  have M := fun {x : Str} {v : Value} (z : PySem.W.nsIn K mainGlobals x = some (some v)) => PySem.W.mg_of X G z
  subst x1
  subst x2
  subst x3
  subst x4
  subst x5
  have env : Env4 K mg := ⟨T1, T2, T3, T4, T5, T6, T7, T8, T9, T10, T11, T12, T13, T14, T15, T16, T17, T18, T19, T20, N z1, N z2, N z3, N z4, N z5, N z6, N z7, N z8, N z9, N z10, N z11, ⟨.int 8, _, M y1, ⟨_, rfl⟩, fun _ _ _ => .int _⟩, ⟨.str lettersS, _, M y2, ⟨_, rfl⟩, fun _ _ _ => .str _⟩, ⟨.int 3, _, M y3, ⟨_, rfl⟩, fun _ _ _ => .int _⟩, ⟨.int (10 ^ 30), _, M y4, ⟨_, rfl⟩, fun _ _ _ => .int _⟩, ⟨.int 3, _, M y5, ⟨_, rfl⟩, fun _ _ _ => .int _⟩⟩
  have C : EnvW K mg CW CP CT := ⟨hP.1, iP, M hP.1.ns, hP.2, hT.1, iT, M hT.1.ns, hT.2, hW, mW, M gW, pW, aF, aM, M gF, M gM, eP, eT⟩
  exact ⟨_, cL0, PT, spLaw K PT, tab_mk aL lL rfl lC h11, nT, fun s v => .of_eq rfl, fun H a ns hl hH hS => ⟨a, ns, rfl, hS, hl, hH, fun _ => rfl⟩, fun base _ _ TB => ok_law env C FL rfl TB⟩
end G
open PySem PySem.W PyProof.Rows
set_option maxHeartbeats 0 in
theorem PySem.Challenge.cw_fewtell_k04_worlds_refused_holds : PySem.Challenge.rw_fewtell_k04_worlds_refused.Holds := by
  w_on; o_law; k_head; (case hw => w_witness2)
  k_fill
  refine G.walk_ofTT (l := PySem.Challenge.rw_fewtell_k04_worlds_refused) (n := 63) (k := 12) (x := "_law_script") (y := "law") (CX := fun _ => L2.CX0) rfl (by decide) rfl ⟨rfl, by decide, by decide⟩ (fun w h Y => PySem.W.km_in_of Y) rfl ?F (fun _ _ _ _ _ h => h)
  case F =>
    intro w mg fa h KX GN hmg
    refine' G.all_mk KX GN hmg ?a1 ?l1 ?c1 ?k1 ?a2 ?l2 ?c2 ?k2 ?a3 ?l3 ?c3 ?k3 ?a4 ?l4 ?c4 ?k4 ?a5 ?l5 ?c5 ?k5 ?a6 ?l6 ?c6 ?k6 ?a7 ?l7 ?c7 ?k7 ?a8 ?l8 ?c8 ?k8 ?a9 ?l9 ?c9 ?k9 ?a10 ?l10 ?c10 ?k10 ?a11 ?l11 ?c11 ?k11 ?a12 ?l12 ?c12 ?k12 ?a13 ?l13 ?c13 ?k13 ?a14 ?l14 ?c14 ?k14 ?a15 ?l15 ?c15 ?k15 ?a16 ?l16 ?c16 ?k16 ?a17 ?l17 ?c17 ?k17 ?a18 ?l18 ?c18 ?k18 ?a19 ?l19 ?c19 ?k19 ?a20 ?l20 ?c20 ?k20 ?aL ?lL ?cL ?kL ?z1 ?z2 ?z3 ?z4 ?z5 ?z6 ?z7 ?z8 ?z9 ?z10 ?z11 ?y1 ?x1 ?y2 ?x2 ?y3 ?x3 ?y4 ?x4 ?y5 ?x5 ?gW ?gF ?gM ?hP ?iP ?hT ?iT ?eP ?eT ?hW ?mW ?pW ?lC ?h11 ?nT
    (case a1 => k_is)
    (case l1 => k_is)
    (case c1 => k_is)
    (case k1 => k_is)
    (case a2 => k_is)
    (case l2 => k_is)
    (case c2 => k_is)
    (case k2 => k_is)
    (case a3 => k_is)
    (case l3 => k_is)
    (case c3 => k_is)
    (case k3 => k_is)
    (case a4 => k_is)
    (case l4 => k_is)
    (case c4 => k_is)
    (case k4 => k_is)
    (case a5 => k_is)
    (case l5 => k_is)
    (case c5 => k_is)
    (case k5 => k_is)
    (case a6 => k_is)
    (case l6 => k_is)
    (case c6 => k_is)
    (case k6 => k_is)
    (case a7 => k_is)
    (case l7 => k_is)
    (case c7 => k_is)
    (case k7 => k_is)
    (case a8 => k_is)
    (case l8 => k_is)
    (case c8 => k_is)
    (case k8 => k_is)
    (case a9 => k_is)
    (case l9 => k_is)
    (case c9 => k_is)
    (case k9 => k_is)
    (case a10 => k_is)
    (case l10 => k_is)
    (case c10 => k_is)
    (case k10 => k_is)
    (case a11 => k_is)
    (case l11 => k_is)
    (case c11 => k_is)
    (case k11 => k_is)
    (case a12 => k_is)
    (case l12 => k_is)
    (case c12 => k_is)
    (case k12 => k_is)
    (case a13 => k_is)
    (case l13 => k_is)
    (case c13 => k_is)
    (case k13 => k_is)
    (case a14 => k_is)
    (case l14 => k_is)
    (case c14 => k_is)
    (case k14 => k_is)
    (case a15 => k_is)
    (case l15 => k_is)
    (case c15 => k_is)
    (case k15 => k_is)
    (case a16 => k_is)
    (case l16 => k_is)
    (case c16 => k_is)
    (case k16 => k_is)
    (case a17 => k_is)
    (case l17 => k_is)
    (case c17 => k_is)
    (case k17 => k_is)
    (case a18 => k_is)
    (case l18 => k_is)
    (case c18 => k_is)
    (case k18 => k_is)
    (case a19 => k_is)
    (case l19 => k_is)
    (case c19 => k_is)
    (case k19 => k_is)
    (case a20 => k_is)
    (case l20 => k_is)
    (case c20 => k_is)
    (case k20 => k_is)
    (case aL => k_is)
    (case lL => k_is)
    (case cL => k_is)
    (case kL => k_is)
    (case z1 => k_is)
    (case z2 => k_is)
    (case z3 => k_is)
    (case z4 => k_is)
    (case z5 => k_is)
    (case z6 => k_is)
    (case z7 => k_is)
    (case z8 => k_is)
    (case z9 => k_is)
    (case z10 => k_is)
    (case z11 => k_is)
    (case y1 => k_is)
    (case x1 => first | rfl | decide +kernel)
    (case y2 => k_is)
    (case x2 => first | rfl | decide +kernel)
    (case y3 => k_is)
    (case x3 => first | rfl | decide +kernel)
    (case y4 => k_is)
    (case x4 => first | rfl | decide +kernel)
    (case y5 => k_is)
    (case x5 => first | rfl | decide +kernel)
    (case gW => k_is)
    (case gF => k_is)
    (case gM => k_is)
    (case hP => (refine' G.exc_mk PySem.F.excBase_ValueError PySem.F.store_ValueError ?hn ?ht ?n ?q1 ?q2 ?ty ?sa ?kC ?hg ?hk ?hs ?hd ?ha ?hm ?r1 ?r2; (case n => k_is); (case hn => k_is); (case ht => k_is); (case q1 => kx_is); (case q2 => kx_is); (case ty => k_is); (case sa => k_is); (case kC => k_is); (case hg => k_is); (case hk => k_is); (case hs => k_is); (case hd => k_is); (case ha => k_is); (case hm => k_is); (case r1 => k_is); (case r2 => k_is)))
    (case iP => (refine' G.iniA_mk ?iC ?tI ?l ?c ?k (fun _ _ _ _ _ _ us hl => match us, hl with | [_, _], _ => rfl); (case iC => k_is); (case tI => k_is); (case l => k_is); (case c => k_is); (case k => k_is)))
    (case hT => (refine' G.exc_mk PySem.F.excBase_ValueError PySem.F.store_ValueError ?hn ?ht ?n ?q1 ?q2 ?ty ?sa ?kC ?hg ?hk ?hs ?hd ?ha ?hm ?r1 ?r2; (case n => k_is); (case hn => k_is); (case ht => k_is); (case q1 => kx_is); (case q2 => kx_is); (case ty => k_is); (case sa => k_is); (case kC => k_is); (case hg => k_is); (case hk => k_is); (case hs => k_is); (case hd => k_is); (case ha => k_is); (case hm => k_is); (case r1 => k_is); (case r2 => k_is)))
    (case iT => (refine' G.iniA_mk ?iC ?tI ?l ?c ?k (fun _ _ _ _ _ _ us hl => match us, hl with | [_, _], _ => rfl); (case iC => k_is); (case tI => k_is); (case l => k_is); (case c => k_is); (case k => k_is)))
    (case eP => kernel_rfl)
    (case eT => kernel_rfl)
    (case hW => (refine' G.worldK_mk ?pg ?hd ?po ?sa ?rd ?ga ?v3 ?v6 ?n1 ?n2; (case pg => k_is); (case hd => k_is); (case po => k_is); (case sa => k_is); (case rd => k_is); (case ga => k_is); (case v3 => k_is); (case v6 => k_is); (case n1 => k_is); (case n2 => k_is)))
    (case mW => (refine' G.world_mk ?mk ?iC ?fn ?kp ?l ?c ?k; (case mk => k_is); (case iC => k_is); (case fn => k_is); (case kp => k_is); (case l => k_is); (case c => k_is); (case k => k_is)))
    (case pW => (refine' G.plain_mk ?rd ?ga ?at_ ?rc ?fi ?l ?c ?k; (case rd => k_is); (case ga => k_is); (case at_ => k_is); (case rc => k_is); (case fi => k_is); (case l => k_is); (case c => k_is); (case k => k_is)))
    (case lC => k_is)
    (case h11 => rfl)
    (case nT => kernel_rfl)
