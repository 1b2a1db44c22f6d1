import PyProof.Rows.All
import HandS.ForMost
import HandS.Wide
import HandS.IsInst
import HandS.TupAny
import HandS.Zip
import HandS.Flow
import HandS.Gcd
import HandS.FStr
import HandS.Defaults
import HandS.ExcInit
import HandS.ExcIs
import HandS.ExcField
import KE.KExcInit
import HandS.Evl
import KE.KExcLine
import PySem.Challenge.RW_fewtell_k01_errors_by_themselves
set_option Elab.async false
set_option linter.all false
set_option maxRecDepth 100000
set_option maxHeartbeats 1000000
namespace G
open PySem PySem.Spec PyProof.Rows L2

/-! ### data -/
inductive D where
  | non | bl (b : Bool) | int (i : Int) | str (s : Str) | ty (n : String)
  | tup (l : List D) | lst (l : List D) | src
  | exc (C : Addr) (ns : List Str) (ds : List D) | cls (C : Addr)

def KT (K : PySem.W.Frag) (a : Addr) (xs : List V) : Prop :=
  ∃ (o : Obj) (its : Array Value) (n : Nat), K.lookup a = some o ∧ o.cls = .type "tuple" ∧ o.data = .seq its n ∧ its.size ≤ sizeLine ∧ Vals xs its.toList
def KL (K : PySem.W.Frag) (a : Addr) (xs : List V) : Prop :=
  ∃ (o : Obj) (its : Array Value) (n : Nat), K.lookup a = some o ∧ o.cls = .type "list" ∧ o.dict = none ∧ o.data = .seq its n ∧ its.size ≤ sizeLine ∧ Vals xs its.toList
def TAt (K : PySem.W.Frag) (M : List Addr) (H : Hp) (a : Addr) (xs : List V) : Prop := (a ∉ M ∧ Rd H a (.tup xs)) ∨ KT K a xs
def LAt (K : PySem.W.Frag) (M : List Addr) (H : Hp) (a : Addr) (xs : List V) : Prop := (a ∉ M ∧ Rd H a (.lst xs)) ∨ KL K a xs
theorem TAt.sq {K M H a xs} (h : TAt K M H a xs) : SqT K H a xs := h.elim (fun z => .inl z.2) .inr
theorem LAt.sq {K M H a xs} (h : LAt K M H a xs) : SqL K H a xs := h.elim (fun z => .inl z.2) .inr

/-- the law's source of draws: the list at a, its first item the list at l -/
structure Sr where
  a : Addr
  l : Addr
def SrcOk (K : PySem.W.Frag) (S : Sr) (H : Hp) : Prop :=
  ∃ (i c s t : Int) (ns : List Int), H S.a = some (.lst [.ref S.l, .int i, .int c, .int s, .int t]) ∧ H S.l = some (.lst (ns.map V.int)) ∧ 0 ≤ i ∧ 0 ≤ c ∧ 0 ≤ s ∧ s < 2147483629 ∧ 0 ≤ t
def Live (S : Sr) (H : Hp) : Prop := (∃ o, H S.a = some o) ∧ (∃ o, H S.l = some o) ∧ S.l ≠ S.a
structure Ext (K : PySem.W.Frag) (S : Sr) (H H' : Hp) : Prop where
  keep : ∀ b o, b ≠ S.a → H b = some o → H' b = some o
  src : Live S H → SrcOk K S H → SrcOk K S H'
  live : Live S H → Live S H'
theorem Ext.refl {K S H} : Ext K S H H := ⟨fun _ _ _ h => h, fun _ h => h, fun h => h⟩
theorem Ext.trans {K S H H1 H2} (a : Ext K S H H1) (b : Ext K S H1 H2) : Ext K S H H2 :=
  ⟨fun c o n h => b.keep c o n (a.keep c o n h), fun l h => b.src (a.live l) (a.src l h), fun l => b.live (a.live l)⟩
theorem Ext.same {K S H H'} (e : Same H H') : Ext K S H H' :=
  ⟨fun b o _ h => e b o h, fun _ ⟨i, c, s, t, ns, h1, h2, h3⟩ => ⟨i, c, s, t, ns, e _ _ h1, e _ _ h2, h3⟩, fun ⟨⟨o, h1⟩, ⟨o', h2⟩, n⟩ => ⟨⟨o, e _ _ h1⟩, ⟨o', e _ _ h2⟩, n⟩⟩
/-- a place that was new may change -/
theorem Ext.mut {K S H H1 p o} (e : Ext K S H H1) (l : Live S H) (h : H p = none) : Ext K S H (upd H1 p o) := by
  obtain ⟨⟨o1, h1⟩, ⟨o2, h2⟩, n⟩ := id l
  have n1 : S.a ≠ p := ne_of_none h1 h
  have n2 : S.l ≠ p := ne_of_none h2 h
  refine ⟨fun b x nb hb => ?_, fun _ hs => ?_, fun _ => ?_⟩
  · rw [upd_ne (ne_of_none hb h)]; exact e.keep b x nb hb
  · obtain ⟨i, c, s, t, ns, g1, g2, g3⟩ := e.src l hs
    exact ⟨i, c, s, t, ns, by rw [upd_ne n1]; exact g1, by rw [upd_ne n2]; exact g2, g3⟩
  · obtain ⟨⟨o3, h3⟩, ⟨o4, h4⟩, n⟩ := e.live l
    exact ⟨⟨o3, by rw [upd_ne n1]; exact h3⟩, ⟨o4, by rw [upd_ne n2]; exact h4⟩, n⟩
theorem same_upd {H : Hp} {p : Addr} {o : HO} (h : H p = none) : Same H (upd H p o) := fun b x e => by
  rw [upd_ne (ne_of_none e h)]
  exact e
theorem Ext.new {K S H p o} (h : H p = none) : Ext K S H (upd H p o) := .same (same_upd h)

mutual
inductive Rep (K : PySem.W.Frag) (S : Sr) (M : List Addr) (H : Hp) : V → D → Prop
  | non : Rep K S M H .non .non
  | bl (b : Bool) : Rep K S M H (.bl b) (.bl b)
  | int (i : Int) : Rep K S M H (.int i) (.int i)
  | str (s : Str) : Rep K S M H (.str s) (.str s)
  | ty (n : String) : Rep K S M H (.ty n) (.ty n)
  | tup {a : Addr} {vs : List V} {ds : List D} (h : TAt K M H a vs) (r : RepAll K S M H vs ds) : Rep K S M H (.ref a) (.tup ds)
  | lst {a : Addr} {vs : List V} {ds : List D} (h : LAt K M H a vs) (r : RepAll K S M H vs ds) : Rep K S M H (.ref a) (.lst ds)
  | src (h : SrcOk K S H) (m : S.a ∈ M) : Rep K S M H (.ref S.a) .src
  | exc {a dx C : Addr} {ns : List Str} {vs : List V} {ds : List D} (h : a ∉ M) (ha : H a = some (exo a C (some dx))) (h2 : dx ∉ M) (hd : H dx = some (exd dx (ns.zip vs))) (r : RepAll K S M H vs ds) : Rep K S M H (.ref a) (.exc C ns ds)
  | cls (C : Addr) : Rep K S M H (.ref C) (.cls C)
inductive RepAll (K : PySem.W.Frag) (S : Sr) (M : List Addr) (H : Hp) : List V → List D → Prop
  | nil : RepAll K S M H [] []
  | cons {v : V} {d : D} {vs : List V} {ds : List D} (h : Rep K S M H v d) (t : RepAll K S M H vs ds) : RepAll K S M H (v :: vs) (d :: ds)
end

mutual
theorem Rep.imp {K : PySem.W.Frag} {S : Sr} {M M' : List Addr} {H H' : Hp} (ht : ∀ a xs, TAt K M H a xs → TAt K M' H' a xs) (hl : ∀ a xs, LAt K M H a xs → LAt K M' H' a xs) (hs : SrcOk K S H → S.a ∈ M → SrcOk K S H' ∧ S.a ∈ M') (hx : ∀ a o, a ∉ M → H a = some o → a ∉ M' ∧ H' a = some o) :
    ∀ {v : V} {d : D}, Rep K S M H v d → Rep K S M' H' v d
  | _, _, .non => .non
  | _, _, .bl b => .bl b
  | _, _, .int i => .int i
  | _, _, .str s => .str s
  | _, _, .ty n => .ty n
  | _, _, .tup h r => .tup (ht _ _ h) (RepAll.imp ht hl hs hx r)
  | _, _, .lst h r => .lst (hl _ _ h) (RepAll.imp ht hl hs hx r)
  | _, _, .src h m => .src (hs h m).1 (hs h m).2
  | _, _, .exc h ha h2 hd r => .exc (hx _ _ h ha).1 (hx _ _ h ha).2 (hx _ _ h2 hd).1 (hx _ _ h2 hd).2 (RepAll.imp ht hl hs hx r)
  | _, _, .cls C => .cls C
theorem RepAll.imp {K : PySem.W.Frag} {S : Sr} {M M' : List Addr} {H H' : Hp} (ht : ∀ a xs, TAt K M H a xs → TAt K M' H' a xs) (hl : ∀ a xs, LAt K M H a xs → LAt K M' H' a xs) (hs : SrcOk K S H → S.a ∈ M → SrcOk K S H' ∧ S.a ∈ M') (hx : ∀ a o, a ∉ M → H a = some o → a ∉ M' ∧ H' a = some o) :
    ∀ {vs : List V} {ds : List D}, RepAll K S M H vs ds → RepAll K S M' H' vs ds
  | _, _, .nil => .nil
  | _, _, .cons h t => .cons (Rep.imp ht hl hs hx h) (RepAll.imp ht hl hs hx t)
end
section
variable {K : PySem.W.Frag} {S : Sr} {M M' : List Addr} {H H' : Hp} {v : V} {d : D} {vs : List V} {ds : List D}
theorem rd_ext (e : Ext K S H H') {a : Addr} {u : HO} (n : a ≠ S.a) (h : Rd H a u) : Rd H' a u := by
  rcases h with h | ⟨o, h⟩
  · exact .inl (e.keep a _ n h)
  · exact .inr ⟨o, e.keep a _ n h⟩
theorem TAt.ext (e : Ext K S H H') (m : S.a ∈ M) {a : Addr} {xs : List V} (h : TAt K M H a xs) : TAt K M H' a xs :=
  h.imp (fun z => ⟨z.1, rd_ext e (fun q => z.1 (q ▸ m)) z.2⟩) id
theorem LAt.ext (e : Ext K S H H') (m : S.a ∈ M) {a : Addr} {xs : List V} (h : LAt K M H a xs) : LAt K M H' a xs :=
  h.imp (fun z => ⟨z.1, rd_ext e (fun q => z.1 (q ▸ m)) z.2⟩) id
theorem Rep.ext (e : Ext K S H H') (lv : Live S H) (m : S.a ∈ M) (r : Rep K S M H v d) : Rep K S M H' v d :=
  r.imp (fun _ _ => TAt.ext e m) (fun _ _ => LAt.ext e m) (fun h q => ⟨e.src lv h, q⟩) fun a o n h => ⟨n, e.keep a o (fun q => n (q ▸ m)) h⟩
theorem RepAll.ext (e : Ext K S H H') (lv : Live S H) (m : S.a ∈ M) (r : RepAll K S M H vs ds) : RepAll K S M H' vs ds :=
  r.imp (fun _ _ => TAt.ext e m) (fun _ _ => LAt.ext e m) (fun h q => ⟨e.src lv h, q⟩) fun a o n h => ⟨n, e.keep a o (fun q => n (q ▸ m)) h⟩
theorem Rep.less (hm : ∀ a ∈ M', a ∈ M) (s : S.a ∈ M') (r : Rep K S M H v d) : Rep K S M' H v d :=
  r.imp (fun _ _ h => h.imp (fun z => ⟨fun q => z.1 (hm _ q), z.2⟩) id) (fun _ _ h => h.imp (fun z => ⟨fun q => z.1 (hm _ q), z.2⟩) id) (fun h _ => ⟨h, s⟩) fun a o n h => ⟨fun q => n (hm _ q), h⟩
theorem RepAll.less (hm : ∀ a ∈ M', a ∈ M) (s : S.a ∈ M') (r : RepAll K S M H vs ds) : RepAll K S M' H vs ds :=
  r.imp (fun _ _ h => h.imp (fun z => ⟨fun q => z.1 (hm _ q), z.2⟩) id) (fun _ _ h => h.imp (fun z => ⟨fun q => z.1 (hm _ q), z.2⟩) id) (fun h _ => ⟨h, s⟩) fun a o n h => ⟨fun q => n (hm _ q), h⟩
theorem rd_ne {a p : Addr} {u : HO} (h : Rd H a u) (n : H p = none) : a ≠ p := by
  rcases h with h | ⟨o, h⟩ <;> exact ne_of_none h n
/-- more places that may change: they were new -/
theorem Rep.fresh {p : Addr} (n : H p = none) (r : Rep K S M H v d) : Rep K S (M ++ [p]) H v d :=
  r.imp (fun _ _ h => h.imp (fun z => ⟨fun q => (List.mem_append.mp q).elim z.1 fun q => rd_ne z.2 n (by simpa using q), z.2⟩) id)
    (fun _ _ h => h.imp (fun z => ⟨fun q => (List.mem_append.mp q).elim z.1 fun q => rd_ne z.2 n (by simpa using q), z.2⟩) id) (fun h m => ⟨h, List.mem_append_left _ m⟩) fun a o n0 h => ⟨fun q => (List.mem_append.mp q).elim n0 fun q => ne_of_none h n (by simpa using q), h⟩
theorem RepAll.length : ∀ {vs : List V} {ds : List D}, RepAll K S M H vs ds → vs.length = ds.length
  | _, _, .nil => rfl
  | _, _, .cons _ t => congrArg (· + 1) t.length
theorem RepAll.get : ∀ {vs : List V} {ds : List D} {i : Nat} {d : D}, RepAll K S M H vs ds → ds[i]? = some d → ∃ v, vs[i]? = some v ∧ Rep K S M H v d
  | _, _, _, _, .nil, h => by simp at h
  | _, _, 0, _, .cons h t, e => by
    have e' := Option.some.inj e
    subst e'
    exact ⟨_, rfl, h⟩
  | _, _, i + 1, _, .cons h t, e => RepAll.get (i := i) t e
theorem RepAll.getV : ∀ {vs : List V} {ds : List D} {i : Nat} {v : V}, RepAll K S M H vs ds → vs[i]? = some v → ∃ d, ds[i]? = some d ∧ Rep K S M H v d
  | _, _, _, _, .nil, h => by simp at h
  | _, _, 0, _, .cons h t, e => by
    have e' := Option.some.inj e
    subst e'
    exact ⟨_, rfl, h⟩
  | _, _, i + 1, _, .cons h t, e => RepAll.getV (i := i) t e
theorem RepAll.append : ∀ {vs ws : List V} {ds es : List D}, RepAll K S M H vs ds → RepAll K S M H ws es → RepAll K S M H (vs ++ ws) (ds ++ es)
  | _, _, _, _, .nil, s => s
  | _, _, _, _, .cons h t, s => .cons h (t.append s)
theorem RepAll.take : ∀ {vs : List V} {ds : List D} (n : Nat), RepAll K S M H vs ds → RepAll K S M H (vs.take n) (ds.take n)
  | _, _, 0, _ => by simp; exact .nil
  | _, _, _ + 1, .nil => .nil
  | _, _, n + 1, .cons h t => .cons h (t.take n)
theorem RepAll.drop : ∀ {vs : List V} {ds : List D} (n : Nat), RepAll K S M H vs ds → RepAll K S M H (vs.drop n) (ds.drop n)
  | _, _, 0, r => r
  | _, _, _ + 1, .nil => .nil
  | _, _, n + 1, .cons _ t => t.drop n
theorem RepAll.ints : ∀ {vs : List V} {ns : List Int}, RepAll K S M H vs (ns.map D.int) → vs = ns.map V.int
  | _, [], .nil => rfl
  | _, n :: ns, .cons h t => by cases h; rw [t.ints]; rfl
theorem RepAll.bls : ∀ {vs : List V} {ns : List Bool}, RepAll K S M H vs (ns.map D.bl) → vs = ns.map V.bl
  | _, [], .nil => rfl
  | _, n :: ns, .cons h t => by cases h; rw [t.bls]; rfl
theorem RepAll.strs : ∀ {vs : List V} {ns : List Str}, RepAll K S M H vs (ns.map D.str) → vs = ns.map V.str
  | _, [], .nil => rfl
  | _, n :: ns, .cons h t => by cases h; rw [t.strs]; rfl
end

/-! ### what the names hold -/
inductive E where
  | no | is (d : D) | own (k : Nat) (ds : List D)
def EntOk (K : PySem.W.Frag) (S : Sr) (B O : List Addr) (H : Hp) : Option V → E → Prop
  | _, .no => True
  | x, .is d => ∃ v, x = some v ∧ Rep K S (B ++ O) H v d
  | x, .own k ds => ∃ m vs, x = some (.ref m) ∧ O[k]? = some m ∧ H m = some (.lst vs) ∧ RepAll K S (B ++ O) H vs ds
/-- B: what may change anywhere (the source in it); O: the lists of this def's own -/
structure StOk (K : PySem.W.Frag) (S : Sr) (B O : List Addr) (H0 H : Hp) (σ : L2.St) (Γ : List E) : Prop where
  len : σ.length = Γ.length
  ent : ∀ (i : Nat) (g : E), Γ[i]? = some g → ∃ x, σ[i]? = some x ∧ EntOk K S B O H x g
  ext : Ext K S H0 H
  live0 : Live S H0
  mem : S.a ∈ B
  bl : ∀ m ∈ B, ∃ o, H0 m = some o
  nd : O.Nodup
  out : ∀ m ∈ O, m ∉ B
  new : ∀ m ∈ O, H0 m = none
  liv : ∀ m ∈ O, ∃ xs, H m = some (.lst xs)
section
variable {K : PySem.W.Frag} {S : Sr} {B O : List Addr} {H0 H H' : Hp} {σ : L2.St} {Γ Γ' : List E} {v : V} {d : D}
theorem StOk.m (st : StOk K S B O H0 H σ Γ) : S.a ∈ B ++ O := List.mem_append_left _ st.mem
theorem StOk.live (st : StOk K S B O H0 H σ Γ) : Live S H := st.ext.live st.live0
theorem StOk.ne (st : StOk K S B O H0 H σ Γ) {m : Addr} (h : m ∈ O) : m ≠ S.a := fun e => st.out m h (e ▸ st.mem)
theorem StOk.ne2 (st : StOk K S B O H0 H σ Γ) {k : Nat} {m : Addr} (h : O[k]? = some m) : m ≠ S.a := st.ne (List.mem_of_getElem? h)
theorem StOk.free (st : StOk K S B O H0 H σ Γ) {p : Addr} (n : H p = none) : p ∉ B ++ O := fun q => by
  rcases List.mem_append.mp q with q | q
  · obtain ⟨o, e⟩ := st.bl p q
    by_cases hp : p = S.a
    · obtain ⟨⟨o', e'⟩, _⟩ := st.live
      rw [← hp, n] at e'; cases e'
    · have := st.ext.keep p o hp e
      rw [n] at this; cases this
  · obtain ⟨xs, e⟩ := st.liv p q
    rw [n] at e; cases e
theorem StOk.to (st : StOk K S B O H0 H σ Γ) (e : Ext K S H H') : StOk K S B O H0 H' σ Γ where
  len := st.len
  ent := fun i g hg => by
    obtain ⟨x, hx, o⟩ := st.ent i g hg
    refine ⟨x, hx, ?_⟩
    cases g with
    | no => trivial
    | is d => obtain ⟨v, e1, r⟩ := o; exact ⟨v, e1, r.ext e st.live st.m⟩
    | own k ds => obtain ⟨m, vs, e1, e2, e3, r⟩ := o; exact ⟨m, vs, e1, e2, e.keep _ _ (st.ne2 e2) e3, r.ext e st.live st.m⟩
  ext := st.ext.trans e
  live0 := st.live0
  mem := st.mem
  bl := st.bl
  nd := st.nd
  out := st.out
  new := st.new
  liv := fun m hm => let ⟨xs, h⟩ := st.liv m hm; ⟨xs, e.keep _ _ (st.ne hm) h⟩
theorem StOk.set (st : StOk K S B O H0 H σ Γ) (i : Nat) (r : Rep K S (B ++ O) H v d) : StOk K S B O H0 H (σ.set i (some v)) (Γ.set i (.is d)) where
  len := by simpa using st.len
  ent := fun j g hg => by
    by_cases h : i = j
    · subst h
      have hl : i < Γ.length := by
        have := (List.getElem?_eq_some_iff.mp hg).1
        simpa using this
      rw [List.getElem?_set_self hl] at hg
      cases hg
      exact ⟨some v, by rw [List.getElem?_set_self (by rw [st.len]; exact hl)], v, rfl, r⟩
    · rw [List.getElem?_set_ne h] at hg ⊢
      exact st.ent j g hg
  ext := st.ext
  live0 := st.live0
  mem := st.mem
  bl := st.bl
  nd := st.nd
  out := st.out
  new := st.new
  liv := st.liv
/-- less is known -/
inductive LeE : E → E → Prop
  | refl (g) : LeE g g
  | no (g) : LeE g .no
def Le : List E → List E → Prop
  | [], [] => True
  | g :: r, g' :: r' => LeE g g' ∧ Le r r'
  | _, _ => False
theorem Le.length : ∀ {Γ Γ' : List E}, Le Γ Γ' → Γ.length = Γ'.length
  | [], [], _ => rfl
  | g :: r, g' :: r', h => congrArg (· + 1) (Le.length (Γ := r) h.2)
theorem Le.get : ∀ {Γ Γ' : List E} {i : Nat} {g' : E}, Le Γ Γ' → Γ'[i]? = some g' → ∃ g, Γ[i]? = some g ∧ LeE g g'
  | [], [], _, _, _, h => by simp at h
  | g :: r, g' :: r', 0, _, h, e => by
    have e' := Option.some.inj e
    subst e'
    exact ⟨g, rfl, h.1⟩
  | g :: r, g' :: r', i + 1, _, h, e => Le.get (Γ := r) (Γ' := r') (i := i) h.2 e
theorem Le.refl : ∀ Γ : List E, Le Γ Γ
  | [] => trivial
  | g :: r => ⟨.refl g, Le.refl r⟩
theorem StOk.le (st : StOk K S B O H0 H σ Γ) (h : Le Γ Γ') : StOk K S B O H0 H σ Γ' where
  len := st.len.trans h.length
  ent := fun i g hg => by
    obtain ⟨g0, e0, l⟩ := h.get hg
    obtain ⟨x, hx, o⟩ := st.ent i g0 e0
    cases l with
    | refl => exact ⟨x, hx, o⟩
    | no => exact ⟨x, hx, trivial⟩
  ext := st.ext
  live0 := st.live0
  mem := st.mem
  bl := st.bl
  nd := st.nd
  out := st.out
  new := st.new
  liv := st.liv
/-- the same names forgotten -/
def wipeE (Γ : List E) : List Nat → List E
  | [] => Γ
  | v :: vs => (wipeE Γ vs).set v .no
theorem StOk.no (st : StOk K S B O H0 H σ Γ) (i : Nat) (x : Option V) : StOk K S B O H0 H (σ.set i x) (Γ.set i .no) where
  len := by simpa using st.len
  ent := fun j g hg => by
    by_cases h : i = j
    · subst h
      have hl : i < Γ.length := by
        have := (List.getElem?_eq_some_iff.mp hg).1
        simpa using this
      rw [List.getElem?_set_self hl] at hg
      cases hg
      exact ⟨x, by rw [List.getElem?_set_self (by rw [st.len]; exact hl)], trivial⟩
    · rw [List.getElem?_set_ne h] at hg ⊢
      exact st.ent j g hg
  ext := st.ext
  live0 := st.live0
  mem := st.mem
  bl := st.bl
  nd := st.nd
  out := st.out
  new := st.new
  liv := st.liv
theorem StOk.wipe (st : StOk K S B O H0 H σ Γ) : ∀ vs : List Nat, StOk K S B O H0 H (L2.wipe σ vs) (wipeE Γ vs)
  | [] => st
  | v :: vs => (st.wipe vs).no v none
end
end G
set_option Elab.async false
set_option linter.all false
set_option maxRecDepth 100000
set_option maxHeartbeats 1000000
namespace G
open PySem PySem.Spec PyProof.Rows L2

/-! ### judgements -/
def semE (X : Cx) (e : Expr) : TE := fun σ H Q => ∀ pins s, Inv X pins σ H s → wpAny (model X.prog X.w) X.A (eval e X.env) (EP X pins σ Q) X.xe s
theorem pe_sem {X : Cx} {e : Expr} : PE X e (semE X e) := ⟨fun pins s σ H Q I h => h pins s I⟩
theorem semE_of {X : Cx} {e : Expr} {t : TE} {σ : L2.St} {H : Hp} {Q : VK} (h : PE X e t) (q : t σ H Q) : semE X e σ H Q := fun pins s I => h.run pins s σ H Q I q
def semT (X : Cx) (e : Expr) : TT := fun σ H Q => ∀ pins s, Inv X pins σ H s → wpAny (model X.prog X.w) X.A (isTrue e X.env (eval e X.env)) (TP X pins σ Q) X.xe s
theorem pt_sem {X : Cx} {e : Expr} : PT X e (semT X e) := ⟨fun pins s σ H Q I h => h pins s I⟩
theorem semT_of {X : Cx} {e : Expr} {t : TT} {σ : L2.St} {H : Hp} {Q : Bool → Hp → Prop} (h : PT X e t) (q : t σ H Q) : semT X e σ H Q := fun pins s I => h.run pins s σ H Q I q
def semW (X : Cx) (e : Expr) : TT := fun σ H Q => ∀ whole pins s, Inv X pins σ H s → wpAny (model X.prog X.w) X.A (isTrue e X.env whole) (TP X pins σ Q) X.xe s
theorem pw_sem {X : Cx} {e : Expr} : PW X e (semW X e) := ⟨fun wh pins s σ H Q I h => h wh pins s I⟩
theorem semW_of {X : Cx} {e : Expr} {t : TT} {σ : L2.St} {H : Hp} {Q : Bool → Hp → Prop} (h : PW X e t) (q : t σ H Q) : semW X e σ H Q := fun wh pins s I => h.run wh pins s σ H Q I q
def semA (X : Cx) (es : List Expr) : TA := fun σ H Q => ∀ pos pins s, Inv X pins σ H s → wpAny (model X.prog X.w) X.A (spliced (backTo pos (starEach es X.env))) (AP X pins σ Q) X.xe s
theorem pa_sem {X : Cx} {es : List Expr} : PA X es (semA X es) := ⟨fun pos pins s σ H Q I h => h pos pins s I⟩
theorem semA_of {X : Cx} {es : List Expr} {t : TA} {σ : L2.St} {H : Hp} {Q : List V → Hp → Prop} (h : PA X es t) (q : t σ H Q) : semA X es σ H Q := fun pos pins s I => h.run pos pins s σ H Q I q
def semK (X : Cx) (es : List Keyword) : TA := fun σ H Q => ∀ pos pins s, Inv X pins σ H s → wpAny (model X.prog X.w) X.A (evalAll ((backToKw pos (keywordEach es X.env)).map (·.2))) (AP X pins σ Q) X.xe s
theorem pk_sem {X : Cx} {es : List Keyword} : PK X es (semK X es) := ⟨fun pos pins s σ H Q I h => h pos pins s I⟩
theorem semK_of {X : Cx} {es : List Keyword} {t : TA} {σ : L2.St} {H : Hp} {Q : List V → Hp → Prop} (h : PK X es t) (q : t σ H Q) : semK X es σ H Q := fun pos pins s I => h.run pos pins s σ H Q I q
def semI (X : Cx) (tg iter : Expr) : TI := fun σ H R => ∀ pins s, Inv X pins σ H s → wpAny (model X.prog X.w) X.A (eval iter X.env) (fun v s1 => wpAny (model X.prog X.w) X.A (pyIter v) (PIE X pins σ tg R) X.xe s1) X.xe s
theorem pi_sem {X : Cx} {tg iter : Expr} : PI X tg iter (semI X tg iter) := ⟨fun pins s σ H R I h => h pins s I⟩
theorem semI_of {X : Cx} {tg iter : Expr} {t : TI} {σ : L2.St} {H : Hp} {R : It → Hp → Prop} (h : PI X tg iter t) (q : t σ H R) : semI X tg iter σ H R := fun pins s I => h.run pins s σ H R I q
def semS (X : Cx) (st : Stmt) : TS := fun Dn σ H => ∀ pins s, Inv X pins σ H s → wpAny (model X.prog X.w) X.A (exec st X.env) (SP X pins Dn) X.xe s
theorem ps_sem {X : Cx} {st : Stmt} : PS X st (semS X st) := ⟨fun pins s σ H Dn I h => h pins s I⟩
theorem semS_of {X : Cx} {st : Stmt} {t : TS} {σ : L2.St} {H : Hp} {Dn : Ends} (h : PS X st t) (q : t Dn σ H) : semS X st Dn σ H := fun pins s I => h.run pins s σ H Dn I q
def semSs (X : Cx) (st : List Stmt) : TS := fun Dn σ H => ∀ pins s, Inv X pins σ H s → wpAny (model X.prog X.w) X.A (execs st X.env) (SP X pins Dn) X.xe s
theorem pss_sem {X : Cx} {st : List Stmt} : PSs X st (semSs X st) := ⟨fun pins s σ H Dn I h => h pins s I⟩
theorem semSs_of {X : Cx} {st : List Stmt} {t : TS} {σ : L2.St} {H : Hp} {Dn : Ends} (h : PSs X st t) (q : t Dn σ H) : semSs X st Dn σ H := fun pins s I => h.run pins s σ H Dn I q

def KE (K : PySem.W.Frag) (S : Sr) (M : List Addr) (H : Hp) (P : D → Prop) (Q : VK) : Prop := ∀ v d H', Ext K S H H' → Rep K S M H' v d → P d → Q v H'
def KA (K : PySem.W.Frag) (S : Sr) (M : List Addr) (H : Hp) (P : List D → Prop) (Q : List V → Hp → Prop) : Prop := ∀ vs ds H', Ext K S H H' → RepAll K S M H' vs ds → P ds → Q vs H'
def KB (K : PySem.W.Frag) (S : Sr) (H : Hp) (P : Bool → Prop) (Q : Bool → Hp → Prop) : Prop := ∀ b H', Ext K S H H' → P b → Q b H'
theorem KE.to {K S M H H1 P Q} (k : KE K S M H P Q) (e : Ext K S H H1) : KE K S M H1 P Q := fun v d H' e' r p => k v d H' (e.trans e') r p
theorem KA.to {K S M H H1 P Q} (k : KA K S M H P Q) (e : Ext K S H H1) : KA K S M H1 P Q := fun v d H' e' r p => k v d H' (e.trans e') r p
theorem KB.to {K S H H1 P Q} (k : KB K S H P Q) (e : Ext K S H H1) : KB K S H1 P Q := fun b H' e' p => k b H' (e.trans e') p

def EX (X : Cx) (e : Expr) (Γ : List E) (P : D → Prop) : Prop := ∀ S B O H0 H σ, StOk X.K S B O H0 H σ Γ → ∀ Q, KE X.K S (B ++ O) H P Q → semE X e σ H Q
def TX (X : Cx) (e : Expr) (Γ : List E) (P : Bool → Prop) : Prop := ∀ S B O H0 H σ, StOk X.K S B O H0 H σ Γ → ∀ Q, KB X.K S H P Q → semT X e σ H Q
def TW (X : Cx) (e : Expr) (Γ : List E) (P : Bool → Prop) : Prop := ∀ S B O H0 H σ, StOk X.K S B O H0 H σ Γ → ∀ Q, KB X.K S H P Q → semW X e σ H Q
def AX (X : Cx) (es : List Expr) (Γ : List E) (P : List D → Prop) : Prop := ∀ S B O H0 H σ, StOk X.K S B O H0 H σ Γ → ∀ Q, KA X.K S (B ++ O) H P Q → semA X es σ H Q
def KX (X : Cx) (es : List Keyword) (Γ : List E) (P : List D → Prop) : Prop := ∀ S B O H0 H σ, StOk X.K S B O H0 H σ Γ → ∀ Q, KA X.K S (B ++ O) H P Q → semK X es σ H Q

/-! ### names, constants -/
@[reducible] def nth {α : Type} : List α → Nat → Option α
  | [], _ => none
  | x :: _, 0 => some x
  | _ :: r, i + 1 => nth r i
theorem nth_eq {α : Type} : ∀ (l : List α) (i : Nat), nth l i = l[i]?
  | [], i => by simp [nth]
  | x :: _, 0 => rfl
  | _ :: r, i + 1 => by
    show nth r i = _
    rw [nth_eq r i]
    rfl
@[reducible] def put : List E → Nat → E → List E
  | [], _, _ => []
  | _ :: r, 0, g => g :: r
  | x :: r, i + 1, g => x :: put r i g
theorem put_eq : ∀ (l : List E) (i : Nat) (g : E), put l i g = l.set i g
  | [], i, g => by simp [put]
  | x :: _, 0, g => rfl
  | x :: r, i + 1, g => by
    show x :: put r i g = _
    rw [put_eq r i g]
    rfl
section
variable {X : Cx} {Γ : List E} {P : D → Prop} {pos : Pos}
theorem ex_of {e : Expr} {t : TE} (hp : PE X e t) (h : ∀ S B O H0 H σ, StOk X.K S B O H0 H σ Γ → ∀ Q, KE X.K S (B ++ O) H P Q → t σ H Q) : EX X e Γ P :=
  fun S B O H0 H σ st Q k => semE_of hp (h S B O H0 H σ st Q k)
theorem ex_name (i : Nat) {N : List Str} {x : Str} {d : D} (hX : X.N = N) (hN : nth N i = some x) (hΓ : nth Γ i = some (.is d)) (hv : Vis X.env.scope x) (h : P d) (hd : (x == ("__debug__" : Str)) = false := by decide) (hcd : (x == ("__classdict__" : Str)) = false := by decide) :
    EX X (.Name x pos) Γ P := by
  rw [nth_eq] at hN hΓ
  refine ex_of (pe_var (i := i) (by rw [hX]; exact hN) hv hd hcd) fun S B O H0 H σ st Q k => ?_
  obtain ⟨y, hy, v, rfl, r⟩ := st.ent i _ hΓ
  exact ⟨v, hy, k v d H .refl r h⟩
theorem ex_int {i : Int} {j} (h : P (.int i)) : EX X (.Constant (.int i) j pos) Γ P := ex_of pe_int fun S B O H0 H σ st Q k => k _ _ H .refl (.int i) h
theorem ex_bl {i : Bool} {j} (h : P (.bl i)) : EX X (.Constant (.bool i) j pos) Γ P := ex_of pe_bl fun S B O H0 H σ st Q k => k _ _ H .refl (.bl i) h
theorem ex_non {j} (h : P .non) : EX X (.Constant .none j pos) Γ P := ex_of pe_non fun S B O H0 H σ st Q k => k _ _ H .refl .non h
theorem ex_str {z : Str} {j} (h : P (.str z)) : EX X (.Constant (.str z) j pos) Γ P := ex_of pe_str fun S B O H0 H σ st Q k => k _ _ H .refl (.str z) h
/-- a module's constant -/
structure ConstOk (X : Cx) (x : Str) (d : D) : Prop where
  ex : ∃ v u, X.mg x = some u ∧ RelV v u ∧ ∀ S M H, Rep X.K S M H v d
theorem ex_glob {x : Str} {d : D} (c : ConstOk X x d) (hg : Gl X x) (h : P d) (hd : (x == ("__debug__" : Str)) = false := by decide) : EX X (.Name x pos) Γ P := by
  obtain ⟨v, u, hm, rv, hr⟩ := c.ex
  exact ex_of (pe_glob hg hm rv hd) fun S B O H0 H σ st Q k => k v d H .refl (hr S _ H) h
theorem ex_ty {x : Str} {n : String} (hm : X.mg x = none) (hg : Gl X x) (hv : bootBuiltins x = some (.type n)) (h : P (.ty n)) (hn : x ≠ "__name__" := by decide) (hd : (x == ("__debug__" : Str)) = false := by decide) : EX X (.Name x pos) Γ P :=
  ex_of (pe_bltn (v := .ty n) hg hm hv rfl hn hd) fun S B O H0 H σ st Q k => k _ _ H .refl (.ty n) h

/-! ### argument lists, displays -/
theorem ax_nil {P : List D → Prop} (h : P []) : AX X [] Γ P := fun S B O H0 H σ st Q k => semA_of pa_nil (k [] [] H .refl .nil h)
theorem ax_cons {e : Expr} {es : List Expr} {P : List D → Prop} (h : EX X e Γ fun d => AX X es Γ fun ds => P (d :: ds)) (hs : starEach (e :: es) X.env = (false, eval e X.env) :: starEach es X.env := by rfl) : AX X (e :: es) Γ P :=
  fun S B O H0 H σ st Q k => semA_of (pa_cons pe_sem pa_sem hs) (h S B O H0 H σ st _ fun v d H1 e1 r1 p1 => p1 S B O H0 H1 σ (st.to e1) _ fun vs ds H2 e2 r2 p2 =>
    k (v :: vs) (d :: ds) H2 (e1.trans e2) (.cons (r1.ext e2 (st.to e1).live st.m) r2) p2)
theorem kx_nil {P : List D → Prop} (h : P []) : KX X [] Γ P := fun S B O H0 H σ st Q k => semK_of pk_nil (k [] [] H .refl .nil h)
theorem kx_cons {nm kpos} {e : Expr} {es : List Keyword} {P : List D → Prop} (h : EX X e Γ fun d => KX X es Γ fun ds => P (d :: ds)) : KX X (⟨nm, e, kpos⟩ :: es) Γ P :=
  fun S B O H0 H σ st Q k => semK_of (pk_cons pe_sem pk_sem) (h S B O H0 H σ st _ fun v d H1 e1 r1 p1 => p1 S B O H0 H1 σ (st.to e1) _ fun vs ds H2 e2 r2 p2 =>
    k (v :: vs) (d :: ds) H2 (e1.trans e2) (.cons (r1.ext e2 (st.to e1).live st.m) r2) p2)
theorem small {n : Nat} (h : n ≤ 100000) : n ≤ sizeLine := Nat.le_trans h (by decide)
/-- a new tuple, a new list -/
theorem rep_tup {K S B O H0 H σ Γ p vs ds} (st : StOk K S B O H0 H σ Γ) (r : RepAll K S (B ++ O) H vs ds) (n : H p = none) : Rep K S (B ++ O) (upd H p (.tup vs)) (.ref p) (.tup ds) :=
  .tup (.inl ⟨st.free n, .inl upd_same⟩) (r.ext (.new n) st.live st.m)
theorem rep_lst {K S B O H0 H σ Γ p vs ds} (st : StOk K S B O H0 H σ Γ) (r : RepAll K S (B ++ O) H vs ds) (n : H p = none) : Rep K S (B ++ O) (upd H p (.lst vs)) (.ref p) (.lst ds) :=
  .lst (.inl ⟨st.free n, .inl upd_same⟩) (r.ext (.new n) st.live st.m)
theorem ex_tup {es : List Expr} {j} (h : AX X es Γ fun ds => ds.length ≤ 100000 ∧ P (.tup ds)) : EX X (.Tuple es j pos) Γ P :=
  ex_of (pe_tup pa_sem) fun S B O H0 H σ st Q k => h S B O H0 H σ st _ fun vs ds H1 e1 r1 p1 => ⟨by rw [r1.length]; exact small p1.1, fun p np => k _ _ _ (e1.trans (.new np)) (rep_tup (st.to e1) r1 np) p1.2⟩
theorem ex_lst {es : List Expr} (h : AX X es Γ fun ds => ds.length ≤ 100000 ∧ P (.lst ds)) : EX X (.List es pos) Γ P :=
  ex_of (pe_lst pa_sem) fun S B O H0 H σ st Q k => h S B O H0 H σ st _ fun vs ds H1 e1 r1 p1 => ⟨by rw [r1.length]; exact small p1.1, fun p np => k _ _ _ (e1.trans (.new np)) (rep_lst (st.to e1) r1 np) p1.2⟩

/-! ### operations on values -/
/-- what an operation on two data gives -/
abbrev W2 := D → D → (D → Prop) → Prop
def OpD (X : Cx) (f : Value → Value → Sem Value) (w : W2) : Prop :=
  ∀ S B O H0 H σ Γ (P : D → Prop) x y a b, StOk X.K S B O H0 H σ Γ → Rep X.K S (B ++ O) H x a → Rep X.K S (B ++ O) H y b → w a b P → ∃ r : R2, OpR X f r ∧ ∀ Q, KE X.K S (B ++ O) H P Q → r x y H Q
/-- any rule, at the values at hand -/
def semO (X : Cx) (f : Value → Value → Sem Value) : R2 := fun x y H Q => ∀ pins s σ v u, Inv X pins σ H s → RelV x v → RelV y u → wpAny (model X.prog X.w) X.A (f v u) (EP X pins σ Q) X.xe s
theorem op_sem {f : Value → Value → Sem Value} : OpR X f (semO X f) := fun pins s σ H x y v u Q I rx ry h => h pins s σ v u I rx ry
theorem semO_of {f : Value → Value → Sem Value} {r : R2} (h : OpR X f r) {x y : V} {H : Hp} {Q : VK} (q : r x y H Q) : semO X f x y H Q := fun pins s σ v u I rx ry => h pins s σ H x y v u Q I rx ry q
theorem ex_bin {op : Operator} {a b : Expr} {w : W2} (ho : OpD X (binaryOp op) w) (h : EX X a Γ fun x => EX X b Γ fun y => w x y P) : EX X (.BinOp a op b pos) Γ P :=
  ex_of (pe_op op_sem pe_sem pe_sem) fun S B O H0 H σ st Q k => h S B O H0 H σ st _ fun v d H1 e1 r1 p1 => p1 S B O H0 H1 σ (st.to e1) _ fun v2 d2 H2 e2 r2 p2 => by
    obtain ⟨r, hr, hq⟩ := ho S B O H0 H2 σ Γ P v v2 d d2 (st.to (e1.trans e2)) (r1.ext e2 (st.to e1).live st.m) r2 p2
    exact semO_of hr (hq Q (k.to (e1.trans e2)))
theorem ex_cmp {op : CmpOp} {a b : Expr} {w : W2} (ho : OpD X (compareOp op) w) (h : EX X a Γ fun x => EX X b Γ fun y => w x y P) (hm : behindInMarks op b = false := by first | exact nomark _ | rfl) : EX X (.Compare a [op] [b] pos) Γ P :=
  ex_of (pe_cmpR op_sem pe_sem pe_sem hm) fun S B O H0 H σ st Q k => h S B O H0 H σ st _ fun v d H1 e1 r1 p1 => p1 S B O H0 H1 σ (st.to e1) _ fun v2 d2 H2 e2 r2 p2 => by
    obtain ⟨r, hr, hq⟩ := ho S B O H0 H2 σ Γ P v v2 d d2 (st.to (e1.trans e2)) (r1.ext e2 (st.to e1).live st.m) r2 p2
    exact semO_of hr (hq Q (k.to (e1.trans e2)))
/-- a <= b <= c -/
def asB (P : Bool → Prop) : D → Prop
  | .bl k => P k
  | _ => False
theorem asB_use {K S M H} {v : V} {d : D} {P : Bool → Prop} (r : Rep K S M H v d) (h : asB P d) : ∃ k, v = .bl k ∧ d = .bl k ∧ P k := by
  cases r <;> first | exact h.elim | exact ⟨_, rfl, rfl, h⟩
theorem ex_chain {op op' : CmpOp} {a b c : Expr} {w w' : W2} (ho : OpD X (compareOp op) w) (ho' : OpD X (compareOp op') w')
    (h : EX X a Γ fun x => EX X b Γ fun y => w x y (asB fun k => if k then EX X c Γ fun z => w' y z P else P (.bl false))) (hm : lastMarks [op, op'] [b, c] = false := by with_unfolding_all rfl) : EX X (.Compare a [op, op'] [b, c] pos) Γ P :=
  ex_of (pe_chain op_sem op_sem pe_sem pe_sem pe_sem hm) fun S B O H0 H σ st Q k => h S B O H0 H σ st _ fun v d H1 e1 r1 p1 => p1 S B O H0 H1 σ (st.to e1) _ fun v2 d2 H2 e2 r2 p2 => by
    obtain ⟨r, hr, hq⟩ := ho S B O H0 H2 σ Γ _ v v2 d d2 (st.to (e1.trans e2)) (r1.ext e2 (st.to e1).live st.m) r2 p2
    refine semO_of hr (hq _ fun z dz H3 e3 r3 p3 => ?_)
    obtain ⟨b, rfl, rfl, p3⟩ := asB_use r3 p3
    refine ⟨b, rfl, ?_⟩
    cases b with
    | true =>
      have st3 := st.to (e1.trans (e2.trans e3))
      refine iteT (p3 S B O H0 H3 σ st3 _ fun v4 d4 H4 e4 r4 p4 => ?_)
      obtain ⟨r', hr', hq'⟩ := ho' S B O H0 H4 σ Γ P v2 v4 d2 d4 (st3.to e4) (r2.ext (e3.trans e4) (st.to (e1.trans e2)).live st.m) r4 p4
      exact semO_of hr' (hq' Q (k.to (e1.trans (e2.trans (e3.trans e4)))))
    | false => exact iteF (k _ _ H3 (e1.trans (e2.trans e3)) (.bl false) p3)

/-! ### tests -/
section
variable {P : Bool → Prop}
theorem tx_of {e : Expr} {t : TT} (hp : PT X e t) (h : ∀ S B O H0 H σ, StOk X.K S B O H0 H σ Γ → ∀ Q, KB X.K S H P Q → t σ H Q) : TX X e Γ P :=
  fun S B O H0 H σ st Q k => semT_of hp (h S B O H0 H σ st Q k)
theorem tx_cmp {op : CmpOp} {a b : Expr} {w : W2} (ho : OpD X (compareOp op) w) (h : EX X a Γ fun x => EX X b Γ fun y => w x y (asB P)) (hm : behindInMarks op b = false := by first | exact nomark _ | rfl) : TX X (.Compare a [op] [b] pos) Γ P :=
  tx_of (pt_cmpR op_sem pe_sem pe_sem hm) fun S B O H0 H σ st Q k => h S B O H0 H σ st _ fun v d H1 e1 r1 p1 => p1 S B O H0 H1 σ (st.to e1) _ fun v2 d2 H2 e2 r2 p2 => by
    obtain ⟨r, hr, hq⟩ := ho S B O H0 H2 σ Γ _ v v2 d d2 (st.to (e1.trans e2)) (r1.ext e2 (st.to e1).live st.m) r2 p2
    refine semO_of hr (hq _ fun z dz H3 e3 r3 p3 => ?_)
    obtain ⟨b, rfl, rfl, p3⟩ := asB_use r3 p3
    exact ⟨b, rfl, k b H3 (e1.trans (e2.trans e3)) p3⟩
theorem tx_chain {op op' : CmpOp} {a b c : Expr} {w w' : W2} (ho : OpD X (compareOp op) w) (ho' : OpD X (compareOp op') w')
    (h : EX X a Γ fun x => EX X b Γ fun y => w x y (asB fun k => if k then EX X c Γ fun z => w' y z (asB P) else P false)) (hm : lastMarks [op, op'] [b, c] = false := by with_unfolding_all rfl) : TX X (.Compare a [op, op'] [b, c] pos) Γ P :=
  tx_of (pt_chain op_sem op_sem pe_sem pe_sem pe_sem hm) fun S B O H0 H σ st Q k => h S B O H0 H σ st _ fun v d H1 e1 r1 p1 => p1 S B O H0 H1 σ (st.to e1) _ fun v2 d2 H2 e2 r2 p2 => by
    obtain ⟨r, hr, hq⟩ := ho S B O H0 H2 σ Γ _ v v2 d d2 (st.to (e1.trans e2)) (r1.ext e2 (st.to e1).live st.m) r2 p2
    refine semO_of hr (hq _ fun z dz H3 e3 r3 p3 => ?_)
    obtain ⟨b, rfl, rfl, p3⟩ := asB_use r3 p3
    refine ⟨b, rfl, ?_⟩
    cases b with
    | true =>
      have st3 := st.to (e1.trans (e2.trans e3))
      refine iteT (p3 S B O H0 H3 σ st3 _ fun v4 d4 H4 e4 r4 p4 => ?_)
      obtain ⟨r', hr', hq'⟩ := ho' S B O H0 H4 σ Γ _ v2 v4 d2 d4 (st3.to e4) (r2.ext (e3.trans e4) (st.to (e1.trans e2)).live st.m) r4 p4
      refine semO_of hr' (hq' _ fun z5 dz5 H5 e5 r5 p5 => ?_)
      obtain ⟨b5, rfl, rfl, p5⟩ := asB_use r5 p5
      exact ⟨b5, rfl, k b5 H5 (e1.trans (e2.trans (e3.trans (e4.trans e5)))) p5⟩
    | false => exact iteF ⟨false, rfl, k _ H3 (e1.trans (e2.trans e3)) p3⟩
/-- a value's truth -/
def asTru (P : Bool → Prop) : D → Prop
  | .non => P false
  | .bl k => P k
  | .int i => P (i != 0)
  | .str s => s.length ≤ sizeLine ∧ P ((s.length : Int) != 0)
  | .tup l => P (!l.isEmpty)
  | .lst l => P (!l.isEmpty)
  | _ => False
theorem RepAll.empty {K S M H} : ∀ {vs : List V} {ds : List D}, RepAll K S M H vs ds → vs.isEmpty = ds.isEmpty
  | _, _, .nil => rfl
  | _, _, .cons _ _ => rfl
theorem asTru_use {K S M H} {v : V} {d : D} {P : Bool → Prop} (r : Rep K S M H v d) (h : asTru P d) : ∃ k, TruV K v H k ∧ P k := by
  cases r with
  | non => exact ⟨false, rfl, h⟩
  | bl b => exact ⟨b, rfl, h⟩
  | int i => exact ⟨_, rfl, h⟩
  | str s => exact ⟨_, ⟨h.1, rfl⟩, h.2⟩
  | ty n => exact h.elim
  | @tup a vs ds ha r => exact ⟨!vs.isEmpty, .inr (.inl ⟨vs, ha.sq, rfl⟩), by rw [r.empty]; exact h⟩
  | @lst a vs ds ha r => exact ⟨!vs.isEmpty, .inl ⟨vs, ha.sq, rfl⟩, by rw [r.empty]; exact h⟩
  | src _ _ => exact h.elim
  | exc _ _ _ _ _ => exact h.elim
  | cls _ => exact h.elim
theorem tx_truth {e : Expr} (h : EX X e Γ (asTru P)) (he : ∀ whole, isTrue e X.env whole = (do let v ← whole; standAt e.pos; holding [v] (truthy v)) := by intro _; rfl) : TX X e Γ P :=
  tx_of (pt_truth pe_sem he) fun S B O H0 H σ st Q k => h S B O H0 H σ st _ fun v d H1 e1 r1 p1 =>
    let ⟨c, hc, pc⟩ := asTru_use r1 p1; ⟨c, hc, k c H1 e1 pc⟩
theorem tx_not {e : Expr} (h : TX X e Γ fun b => P (!b)) : TX X (.UnaryOp .Not e pos) Γ P :=
  tx_of (pt_not pt_sem) fun S B O H0 H σ st Q k => h S B O H0 H σ st _ fun b H1 e1 p1 => k _ H1 e1 p1
theorem tw_and1 {e : Expr} (h : TX X e Γ P) : TW X (.BoolOp .And [e] pos) Γ P := fun S B O H0 H σ st Q k => semW_of (pw_and1 pt_sem) (h S B O H0 H σ st Q k)
theorem tw_or1 {e : Expr} (h : TX X e Γ P) : TW X (.BoolOp .Or [e] pos) Γ P := fun S B O H0 H σ st Q k => semW_of (pw_or1 pt_sem) (h S B O H0 H σ st Q k)
theorem tw_and {e e2 : Expr} {es : List Expr} (h : TX X e Γ fun b => if b then TW X (.BoolOp .And (e2 :: es) pos) Γ P else P false) : TW X (.BoolOp .And (e :: e2 :: es) pos) Γ P :=
  fun S B O H0 H σ st Q k => semW_of (pw_and pt_sem pw_sem) (h S B O H0 H σ st _ fun b H1 e1 p1 => by
    cases b with
    | true => exact iteT (p1 S B O H0 H1 σ (st.to e1) Q (k.to e1))
    | false => exact iteF (k _ H1 e1 p1))
theorem tw_or {e e2 : Expr} {es : List Expr} (h : TX X e Γ fun b => if b then P true else TW X (.BoolOp .Or (e2 :: es) pos) Γ P) : TW X (.BoolOp .Or (e :: e2 :: es) pos) Γ P :=
  fun S B O H0 H σ st Q k => semW_of (pw_or pt_sem pw_sem) (h S B O H0 H σ st _ fun b H1 e1 p1 => by
    cases b with
    | true => exact iteT (k _ H1 e1 p1)
    | false => exact iteF (p1 S B O H0 H1 σ (st.to e1) Q (k.to e1)))
theorem tx_w {e : Expr} (h : TW X e Γ P) : TX X e Γ P := tx_of (PW.pt pw_sem) fun S B O H0 H σ st Q k => h S B O H0 H σ st Q k
end
/-! .. as values -/
theorem ex_one {op} {e : Expr} (h : EX X e Γ P) : EX X (.BoolOp op [e] pos) Γ P := ex_of (pe_one pe_sem) fun S B O H0 H σ st Q k => h S B O H0 H σ st Q k
theorem ex_and {e e2 : Expr} {es : List Expr} (h : EX X e Γ (asB fun b => if b then EX X (.BoolOp .And (e2 :: es) pos) Γ P else P (.bl false))) : EX X (.BoolOp .And (e :: e2 :: es) pos) Γ P :=
  ex_of (pe_and pe_sem pe_sem) fun S B O H0 H σ st Q k => h S B O H0 H σ st _ fun v d H1 e1 r1 p1 => by
    obtain ⟨b, rfl, rfl, p1⟩ := asB_use r1 p1
    refine ⟨b, rfl, ?_⟩
    cases b with
    | true => exact iteT (p1 S B O H0 H1 σ (st.to e1) Q (k.to e1))
    | false => exact iteF (k _ _ H1 e1 (.bl _) p1)
theorem ex_or {e e2 : Expr} {es : List Expr} (h : EX X e Γ (asB fun b => if b then P (.bl true) else EX X (.BoolOp .Or (e2 :: es) pos) Γ P)) : EX X (.BoolOp .Or (e :: e2 :: es) pos) Γ P :=
  ex_of (pe_or pe_sem pe_sem) fun S B O H0 H σ st Q k => h S B O H0 H σ st _ fun v d H1 e1 r1 p1 => by
    obtain ⟨b, rfl, rfl, p1⟩ := asB_use r1 p1
    refine ⟨b, rfl, ?_⟩
    cases b with
    | true => exact iteT (k _ _ H1 e1 (.bl _) p1)
    | false => exact iteF (p1 S B O H0 H1 σ (st.to e1) Q (k.to e1))
theorem ex_not {e : Expr} (h : EX X e Γ (asB fun b => P (.bl (!b)))) : EX X (.UnaryOp .Not e pos) Γ P :=
  ex_of (pe_not pe_sem) fun S B O H0 H σ st Q k => h S B O H0 H σ st _ fun v d H1 e1 r1 p1 => by
    obtain ⟨b, rfl, rfl, p1⟩ := asB_use r1 p1
    exact ⟨b, rfl, k _ _ H1 e1 (.bl _) p1⟩
theorem ex_ifExp {c a b : Expr} (h : TX X c Γ fun k => if k then EX X a Γ P else EX X b Γ P) : EX X (.IfExp c a b pos) Γ P :=
  ex_of (pe_ifExp pt_sem pe_sem pe_sem) fun S B O H0 H σ st Q k => h S B O H0 H σ st _ fun b H1 e1 p1 => by
    cases b with
    | true => exact iteT (p1 S B O H0 H1 σ (st.to e1) Q (k.to e1))
    | false => exact iteF (p1 S B O H0 H1 σ (st.to e1) Q (k.to e1))
def asI (P : Int → Prop) : D → Prop
  | .int k => P k
  | _ => False
theorem asI_use {K S M H} {v : V} {d : D} {P : Int → Prop} (r : Rep K S M H v d) (h : asI P d) : ∃ k, v = .int k ∧ d = .int k ∧ P k := by
  cases r <;> first | exact h.elim | exact ⟨_, rfl, rfl, h⟩
theorem ex_neg {e : Expr} (h : EX X e Γ (asI fun i => P (.int (-i)))) : EX X (.UnaryOp .USub e pos) Γ P :=
  ex_of (pe_un un_neg pe_sem) fun S B O H0 H σ st Q k => h S B O H0 H σ st _ fun v d H1 e1 r1 p1 => by
    obtain ⟨b, rfl, rfl, p1⟩ := asI_use r1 p1
    exact ⟨b, rfl, k _ _ H1 e1 (.int _) p1⟩
end
end G
set_option Elab.async false
set_option linter.all false
set_option maxRecDepth 100000
set_option maxHeartbeats 1000000
namespace G
open PySem PySem.Spec PyProof.Rows L2
/-! ### operators on data -/
section
variable {X : Cx}
def wI (C : Int → Int → Prop) (g : Int → Int → D) : W2 := fun a b P => match a, b with
  | .int i, .int j => C i j ∧ P (g i j)
  | _, _ => False
theorem opd_I {f : Value → Value → Sem Value} {C : Int → Int → Prop} {g : Int → Int → D} {gv : Int → Int → V} (ho : OpR X f (rI C gv)) (hg : ∀ S M H i j, Rep X.K S M H (gv i j) (g i j)) : OpD X f (wI C g) := by
  intro S B O H0 H σ Γ P x y a b st r1 r2 h
  cases r1 <;> try exact h.elim
  cases r2 <;> try exact h.elim
  exact ⟨_, ho, fun Q k => ⟨_, _, rfl, rfl, h.1, k _ _ H .refl (hg ..) h.2⟩⟩
theorem opd_I0 {f : Value → Value → Sem Value} {g : Int → Int → D} {gv : Int → Int → V} (ho : OpR X f (rI0 gv)) (hg : ∀ S M H i j, Rep X.K S M H (gv i j) (g i j)) : OpD X f (wI (fun _ _ => True) g) := by
  intro S B O H0 H σ Γ P x y a b st r1 r2 h
  cases r1 <;> try exact h.elim
  cases r2 <;> try exact h.elim
  exact ⟨_, ho, fun Q k => ⟨_, _, rfl, rfl, k _ _ H .refl (hg ..) h.2⟩⟩
def CBig (i j : Int) : Prop := i.natAbs < 2 ^ 100000 ∧ j.natAbs < 2 ^ 100000
def CDv (_ j : Int) : Prop := j ≠ 0 ∧ j.natAbs < 2 ^ 8000
abbrev wSub : W2 := wI (fun _ _ => True) fun i j => .int (i - j)
abbrev wMod : W2 := wI (fun _ j => j ≠ 0) fun i j => .int (i.fmod j)
abbrev wFdiv : W2 := wI CDv fun i j => .int (i.fdiv j)
abbrev wPow : W2 := wI CPow fun i j => .int (i ^ j.toNat)
abbrev wLt : W2 := wI (fun _ _ => True) fun i j => .bl (decide (i < j))
abbrev wLe : W2 := wI (fun _ _ => True) fun i j => .bl (decide (i ≤ j))
abbrev wGt : W2 := wI (fun _ _ => True) fun i j => .bl (decide (j < i))
abbrev wGe : W2 := wI (fun _ _ => True) fun i j => .bl (decide (j ≤ i))
theorem od_sub : OpD X (binaryOp .Sub) wSub := opd_I0 op_sub fun _ _ _ _ _ => .int _
theorem od_mod : OpD X (binaryOp .Mod) wMod := opd_I op_modN fun _ _ _ _ _ => .int _
theorem op_fdivG : OpR X (binaryOp .FloorDiv) (rI CDv fun i j => .int (i.fdiv j)) := opI fun i j _ _ _ _ _ hc q => by
  have h1 : j ≠ 0 := hc.1
  exact floordiv_int h1 q (.inl (PyProof.noPylong_of_log2 (Nat.lt_trans (PySem.Flt.log2_lt_of (by decide) hc.2) (by decide))))
theorem od_fdiv : OpD X (binaryOp .FloorDiv) wFdiv := opd_I op_fdivG fun _ _ _ _ _ => .int _
theorem od_pow : OpD X (binaryOp .Pow) wPow := opd_I op_pow fun _ _ _ _ _ => .int _
theorem od_lt : OpD X (compareOp .Lt) wLt := opd_I0 op_lt fun _ _ _ _ _ => .bl _
theorem od_le : OpD X (compareOp .LtE) wLe := opd_I0 op_le fun _ _ _ _ _ => .bl _
theorem od_gt : OpD X (compareOp .Gt) wGt := opd_I0 op_gt fun _ _ _ _ _ => .bl _
theorem od_ge : OpD X (compareOp .GtE) wGe := opd_I0 op_ge fun _ _ _ _ _ => .bl _
/-- + -/
def wAdd : W2 := fun a b P => match a, b with
  | .int i, .int j => P (.int (i + j))
  | .str s, .str t => s.length + t.length ≤ sizeLine ∧ P (.str (s ++ t))
  | .tup l, .tup m => l.length + m.length ≤ sizeLine ∧ P (.tup (l ++ m))
  | _, _ => False
theorem od_add : OpD X (binaryOp .Add) wAdd := by
  intro S B O H0 H σ Γ P x y a b st r1 r2 h
  cases r1 with
  | int i =>
    cases r2 <;> try exact h.elim
    exact ⟨_, op_add, fun Q k => ⟨_, _, rfl, rfl, k _ _ H .refl (.int _) h⟩⟩
  | str s =>
    cases r2 <;> try exact h.elim
    exact ⟨_, op_add_str, fun Q k => ⟨_, _, rfl, rfl, h.1, k _ _ H .refl (.str _) h.2⟩⟩
  | @tup a vs ds ha ra =>
    cases r2 <;> try exact h.elim
    rename_i b ws es hb rb
    refine ⟨_, op_catA, fun Q k => ⟨a, b, vs, ws, rfl, rfl, ha.sq, hb.sq, by rw [ra.length, rb.length]; exact h.1, fun e => ?_, fun _ e => ?_, fun _ _ p np => ?_⟩⟩
    · subst e
      cases ra
      exact k _ _ H .refl (.tup hb rb) h.2
    · subst e
      cases rb
      have h2 := h.2
      rw [List.append_nil] at h2
      exact k _ _ H .refl (.tup ha ra) h2
    · exact k _ _ _ (.new np) (rep_tup st (ra.append rb) np) h.2
  | _ => exact h.elim
/-- * of numbers -/
def wMul : W2 := wI CBig fun i j => .int (i * j)
theorem od_mul : OpD X (binaryOp .Mult) wMul := by
  intro S B O H0 H σ Γ P x y a b st r1 r2 h
  cases r1 <;> try exact h.elim
  cases r2 <;> try exact h.elim
  exact ⟨_, op_mulW, fun Q k => ⟨_, _, rfl, rfl, wide_mul h.1.1 h.1.2 (by decide) (by decide) (by decide), k _ _ H .refl (.int _) h.2⟩⟩
/-- == of plain values -/
def sEq : D → D → Option Bool
  | .non, .non => some true
  | .int i, .int j => some (decide (i = j))
  | .bl i, .bl j => some (decide (i = j))
  | .str i, .str j => some (decide (i = j))
  | .non, .int _ => some false | .int _, .non => some false | .non, .bl _ => some false | .bl _, .non => some false | .non, .str _ => some false | .str _, .non => some false
  | .int _, .str _ => some false | .str _, .int _ => some false | .bl _, .str _ => some false | .str _, .bl _ => some false
  | _, _ => none
def wEq : W2 := fun a b P => match sEq a b with
  | some k => P (.bl k)
  | none => False
def wNe : W2 := fun a b P => match sEq a b with
  | some k => P (.bl (!k))
  | none => False
theorem sEq_ok {K S M H x y a b k} (r1 : Rep K S M H x a) (r2 : Rep K S M H y b) (h : sEq a b = some k) : scal x y = true ∧ decide (x = y) = k := by
  cases r1 <;> cases r2 <;> simp_all [sEq, scal]
theorem od_eq : OpD X (compareOp .Eq) wEq := by
  intro S B O H0 H σ Γ P x y a b st r1 r2 h
  unfold wEq at h
  split at h
  · rename_i k hk
    obtain ⟨e1, e2⟩ := sEq_ok r1 r2 hk
    exact ⟨_, op_eq, fun Q kk => ⟨e1, by rw [e2]; exact kk _ _ H .refl (.bl _) h⟩⟩
  · exact h.elim
theorem od_ne : OpD X (compareOp .NotEq) wNe := by
  intro S B O H0 H σ Γ P x y a b st r1 r2 h
  unfold wNe at h
  split at h
  · rename_i k hk
    obtain ⟨e1, e2⟩ := sEq_ok r1 r2 hk
    exact ⟨_, op_ne, fun Q kk => ⟨e1, by rw [e2]; exact kk _ _ H .refl (.bl _) h⟩⟩
  · exact h.elim
/-- is None -/
def isNon : D → Bool
  | .non => true
  | _ => false
def wIs : W2 := fun a b P => match b with
  | .non => P (.bl (isNon a))
  | _ => False
def wIsNot : W2 := fun a b P => match b with
  | .non => P (.bl (!isNon a))
  | _ => False
theorem isNon_ok {K S M H x a} (r : Rep K S M H x a) : decide (x = .non) = isNon a := by cases r <;> simp [isNon]
theorem od_is : OpD X (compareOp .Is) wIs := by
  intro S B O H0 H σ Γ P x y a b st r1 r2 h
  cases r2 <;> try exact h.elim
  exact ⟨_, op_isN, fun Q k => ⟨rfl, by rw [isNon_ok r1]; exact k _ _ H .refl (.bl _) h⟩⟩
theorem od_isnot : OpD X (compareOp .IsNot) wIsNot := by
  intro S B O H0 H σ Γ P x y a b st r1 r2 h
  cases r2 <;> try exact h.elim
  exact ⟨_, op_notN, fun Q k => ⟨rfl, by rw [isNon_ok r1]; exact k _ _ H .refl (.bl _) h⟩⟩

/-! ### subscripts -/
def wIx : W2 := fun a b P => match a, b with
  | .lst l, .int k => ∃ d, atI l k = some d ∧ P d
  | .tup l, .int k => ∃ d, atI l k = some d ∧ P d
  | .str z, .int k => ∃ c, z.length ≤ sizeLine ∧ atI z.cps.toList k = some c ∧ P (.str ⟨#[c]⟩)
  | _, _ => False
theorem RepAll.atI {K S M H vs ds k d} (r : RepAll K S M H vs ds) (h : L2.atI ds k = some d) : ∃ v, L2.atI vs k = some v ∧ Rep K S M H v d := by
  unfold L2.atI at h ⊢
  rw [r.length]
  cases e : ixN ds.length k with
  | none => rw [e] at h; cases h
  | some j =>
    rw [e] at h
    exact r.get h
variable {Γ : List E} {P : D → Prop} {pos : Pos}
theorem ex_ix {a b : Expr} (h : EX X a Γ fun x => EX X b Γ fun y => wIx x y P) (hs : PlainIx b := by intro _ _; rfl) : EX X (.Subscript a b pos) Γ P :=
  ex_of (pe_ix ix_seq pe_sem pe_sem hs) fun S B O H0 H σ st Q k => h S B O H0 H σ st _ fun v d H1 e1 r1 p1 => p1 S B O H0 H1 σ (st.to e1) _ fun v2 d2 H2 e2 r2 p2 => by
    have r1' := r1.ext e2 (st.to e1).live st.m
    cases r1' with
    | @lst a vs ds ha ra =>
      cases r2 <;> try exact p2.elim
      obtain ⟨d, hd, p⟩ := p2
      obtain ⟨v, hv, rv⟩ := ra.atI hd
      exact .inl ⟨a, vs, _, v, rfl, rfl, ha.sq, hv, k _ _ H2 (e1.trans e2) rv p⟩
    | @tup a vs ds ha ra =>
      cases r2 <;> try exact p2.elim
      obtain ⟨d, hd, p⟩ := p2
      obtain ⟨v, hv, rv⟩ := ra.atI hd
      exact .inr (.inl ⟨a, vs, _, v, rfl, rfl, ha.sq, hv, k _ _ H2 (e1.trans e2) rv p⟩)
    | str z =>
      cases r2 <;> try exact p2.elim
      obtain ⟨c, hz, hc, p⟩ := p2
      exact .inr (.inr ⟨z, _, c, rfl, rfl, hz, hc, k _ _ H2 (e1.trans e2) (.str _) p⟩)
    | _ => exact p2.elim

/-! ### built-ins -/
abbrev WA := List D → (D → Prop) → Prop
def semC (X : Cx) (f : Value) : List V → Hp → VK → Prop := fun vs H Q => ∀ pins s σ us, Inv X pins σ H s → Vals vs us → wpAny (model X.prog X.w) X.A (call f us) (EP X pins σ Q) X.xe s
theorem cr_sem {f : Value} : CallR X f (semC X f) := fun pins s σ H vs us Q I r h => h pins s σ us I r
theorem semC_of {f : Value} {r : List V → Hp → VK → Prop} (h : CallR X f r) {vs : List V} {H : Hp} {Q : VK} (q : r vs H Q) : semC X f vs H Q := fun pins s σ us I rv => h pins s σ H vs us Q I rv q
def BiD (X : Cx) (f : Value) (w : WA) : Prop :=
  ∀ S B O H0 H σ Γ (P : D → Prop) vs ds, StOk X.K S B O H0 H σ Γ → RepAll X.K S (B ++ O) H vs ds → w ds P → ∃ r : List V → Hp → VK → Prop, CallR X f r ∧ ∀ Q, KE X.K S (B ++ O) H P Q → r vs H Q
theorem ex_bi {x : Str} {id : String} {w : WA} {p : Pos} {e : Expr} {es : List Expr} (hb : BiD X (.builtin id) w) (hm : X.mg x = none) (hg : Gl X x) (hv : bootBuiltins x = some (.builtin id)) (h : AX X (e :: es) Γ fun ds => w ds P)
    (hn : x ≠ "__name__" := by decide) (hdb : (x == ("__debug__" : Str)) = false := by decide)
    (he : starEach (e :: es) X.env = (false, eval e X.env) :: starEach es X.env := by rfl) (hpl : (backTo pos (starEach es X.env)).any (·.1) = false := by rfl) : EX X (.Call (.Name x p) (e :: es) [] pos) Γ P :=
  ex_of (pe_callB cr_sem hg hm hv pa_sem hn hdb he hpl) fun S B O H0 H σ st Q k => h S B O H0 H σ st _ fun vs ds H1 e1 r1 p1 => by
    obtain ⟨r, hr, hq⟩ := hb S B O H0 H1 σ Γ P vs ds (st.to e1) r1 p1
    exact semC_of hr (hq Q (k.to e1))
theorem ex_bt {x : Str} {T : String} {w : WA} {p : Pos} {e : Expr} {es : List Expr} (hb : BiD X (.type T) w) (hm : X.mg x = none) (hg : Gl X x) (hv : bootBuiltins x = some (.type T)) (h : AX X (e :: es) Γ fun ds => w ds P)
    (hn : x ≠ "__name__" := by decide) (hdb : (x == ("__debug__" : Str)) = false := by decide)
    (he : starEach (e :: es) X.env = (false, eval e X.env) :: starEach es X.env := by rfl) (hpl : (backTo pos (starEach es X.env)).any (·.1) = false := by rfl) : EX X (.Call (.Name x p) (e :: es) [] pos) Γ P :=
  ex_of (pe_callTy cr_sem hg hm hv pa_sem hn hdb he hpl) fun S B O H0 H σ st Q k => h S B O H0 H σ st _ fun vs ds H1 e1 r1 p1 => by
    obtain ⟨r, hr, hq⟩ := hb S B O H0 H1 σ Γ P vs ds (st.to e1) r1 p1
    exact semC_of hr (hq Q (k.to e1))
theorem ex_bf {x : Str} {id : String} {w : WA} {p : Pos} {e : Expr} {es : List Expr} (hb : BiD X (.builtin id) w) (hm : X.mg x = some (.builtin id)) (hg : Gl X x) (h : AX X (e :: es) Γ fun ds => w ds P)
    (hdb : (x == ("__debug__" : Str)) = false := by decide)
    (he : starEach (e :: es) X.env = (false, eval e X.env) :: starEach es X.env := by rfl) (hpl : (backTo pos (starEach es X.env)).any (·.1) = false := by rfl) : EX X (.Call (.Name x p) (e :: es) [] pos) Γ P :=
  ex_of (pe_callBfun cr_sem hg hm pa_sem hdb he hpl) fun S B O H0 H σ st Q k => h S B O H0 H σ st _ fun vs ds H1 e1 r1 p1 => by
    obtain ⟨r, hr, hq⟩ := hb S B O H0 H1 σ Γ P vs ds (st.to e1) r1 p1
    exact semC_of hr (hq Q (k.to e1))
def wLen : WA := fun ds P => match ds with
  | [.lst l] => P (.int l.length)
  | [.tup l] => P (.int l.length)
  | [.str z] => z.length ≤ sizeLine ∧ P (.int z.length)
  | _ => False
theorem RepAll.one {K S M H vs d} (r : RepAll K S M H vs [d]) : ∃ v, vs = [v] ∧ Rep K S M H v d := by
  cases r with
  | cons h t => cases t; exact ⟨_, rfl, h⟩
theorem RepAll.two {K S M H vs d d2} (r : RepAll K S M H vs [d, d2]) : ∃ v v2, vs = [v, v2] ∧ Rep K S M H v d ∧ Rep K S M H v2 d2 := by
  cases r with
  | cons h t =>
    obtain ⟨w, rfl, r⟩ := t.one
    exact ⟨_, _, rfl, h, r⟩
theorem bi_len : BiD X (.builtin "len") wLen := by
  intro S B O H0 H σ Γ P vs ds st r h
  match ds, r, h with
  | [.lst l], r, h =>
    obtain ⟨v, rfl, r1⟩ := r.one
    cases r1 with
    | @lst a vs _ ha ra => exact ⟨_, call_len, fun Q k => ⟨_, vs.length, rfl, .inl ⟨vs, ha.sq, rfl⟩, by rw [ra.length]; exact k _ _ H .refl (.int _) h⟩⟩
  | [.tup l], r, h =>
    obtain ⟨v, rfl, r1⟩ := r.one
    cases r1 with
    | @tup a vs _ ha ra => exact ⟨_, call_len, fun Q k => ⟨_, vs.length, rfl, .inr ⟨vs, ha.sq, rfl⟩, by rw [ra.length]; exact k _ _ H .refl (.int _) h⟩⟩
  | [.str z], r, h =>
    obtain ⟨v, rfl, r1⟩ := r.one
    cases r1 with
    | str _ => exact ⟨_, call_len, fun Q k => ⟨_, z.length, rfl, ⟨h.1, rfl⟩, k _ _ H .refl (.int _) h.2⟩⟩
def wAbs : WA := fun ds P => match ds with
  | [.int i] => P (.int (if i < 0 then -i else i))
  | _ => False
theorem bi_abs : BiD X (.builtin "abs") wAbs := by
  intro S B O H0 H σ Γ P vs ds st r h
  match ds, r, h with
  | [.int l], r, h =>
    obtain ⟨v, rfl, r1⟩ := r.one
    cases r1
    exact ⟨_, call_abs, fun Q k => ⟨_, rfl, k _ _ H .refl (.int _) h⟩⟩
def wInt : WA := fun ds P => match ds with
  | [.int i] => P (.int i)
  | _ => False
theorem bi_int : BiD X (.type "int") wInt := by
  intro S B O H0 H σ Γ P vs ds st r h
  match ds, r, h with
  | [.int l], r, h =>
    obtain ⟨v, rfl, r1⟩ := r.one
    cases r1
    exact ⟨_, call_int1, fun Q k => .inl ⟨_, rfl, k _ _ H .refl (.int _) h⟩⟩
def wStr : WA := fun ds P => match ds with
  | [.int i] => i.natAbs.log2 < 1920 ∧ P (.str (toString i))
  | _ => False
theorem bi_str : BiD X (.type "str") wStr := by
  intro S B O H0 H σ Γ P vs ds st r h
  match ds, r, h with
  | [.int l], r, h =>
    obtain ⟨v, rfl, r1⟩ := r.one
    cases r1
    exact ⟨_, call_str_int, fun Q k => ⟨_, rfl, h.1, k _ _ H .refl (.str _) h.2⟩⟩
def wList : WA := fun ds P => match ds with
  | [.lst l] => P (.lst l)
  | [.tup l] => P (.lst l)
  | _ => False
theorem bi_list : BiD X (.type "list") wList := by
  intro S B O H0 H σ Γ P vs ds st r h
  match ds, r, h with
  | [.lst l], r, h =>
    obtain ⟨v, rfl, r1⟩ := r.one
    cases r1 with
    | @lst a vs _ ha ra => exact ⟨_, call_list_of, fun Q k => ⟨a, vs, rfl, .inl ha.sq, fun p np => k _ _ _ (.new np) (rep_lst st ra np) h⟩⟩
  | [.tup l], r, h =>
    obtain ⟨v, rfl, r1⟩ := r.one
    cases r1 with
    | @tup a vs _ ha ra => exact ⟨_, call_list_of, fun Q k => ⟨a, vs, rfl, .inr ha.sq, fun p np => k _ _ _ (.new np) (rep_lst st ra np) h⟩⟩
def wTuple : WA := fun ds P => match ds with
  | [.lst l] => P (.tup l)
  | [.tup l] => P (.tup l)
  | _ => False
theorem bi_tuple : BiD X (.type "tuple") wTuple := by
  intro S B O H0 H σ Γ P vs ds st r h
  match ds, r, h with
  | [.lst l], r, h =>
    obtain ⟨v, rfl, r1⟩ := r.one
    cases r1 with
    | @lst a vs _ ha ra => exact ⟨_, call_tuple_of, fun Q k => ⟨a, vs, rfl, .inl ⟨ha.sq, fun p np => k _ _ _ (.new np) (rep_tup st ra np) h⟩⟩⟩
  | [.tup l], r, h =>
    obtain ⟨v, rfl, r1⟩ := r.one
    cases r1 with
    | @tup a vs _ ha ra => exact ⟨_, call_tuple_of, fun Q k => ⟨a, vs, rfl, .inr ⟨ha.sq, k _ _ H .refl (.tup ha ra) h⟩⟩⟩
def wAll : WA := fun ds P => match ds with
  | [.lst l] => ∃ bs : List Bool, l = bs.map D.bl ∧ P (.bl (bs.all id))
  | _ => False
theorem bi_all (hc : X.calm = true) : BiD X (.builtin "all") wAll := by
  intro S B O H0 H σ Γ P vs ds st r h
  match ds, r, h with
  | [.lst l], r, h =>
    obtain ⟨v, rfl, r1⟩ := r.one
    obtain ⟨bs, rfl, h⟩ := h
    cases r1 with
    | @lst a vs _ ha ra =>
      have e := ra.bls
      subst e
      exact ⟨_, cr_all hc, fun Q k => ⟨a, bs, rfl, ha.sq, k _ _ H .refl (.bl _) h⟩⟩
def wGcd : WA := fun ds P => match ds with
  | [.int i, .int j] => P (.int ((Nat.gcd i.natAbs j.natAbs : Nat) : Int))
  | _ => False
theorem bi_gcd : BiD X (.builtin "math.gcd") wGcd := by
  intro S B O H0 H σ Γ P vs ds st r h
  match ds, r, h with
  | [.int l, .int m], r, h =>
    obtain ⟨v, w, rfl, r1, r2⟩ := r.two
    cases r1
    cases r2
    exact ⟨_, cr_gcd, fun Q k => ⟨_, _, rfl, k _ _ H .refl (.int _) h⟩⟩
/-- isinstance of plain data -/
def tyD : D → Option String
  | .non => some "NoneType" | .bl _ => some "bool" | .int _ => some "int" | .str _ => some "str" | .tup _ => some "tuple" | .lst _ => some "list" | .src => some "list"
  | _ => none
theorem tyX_of {K S M H x d t} (r : Rep K S M H x d) (h : tyD d = some t) : TyX K H x (.type t) := by
  cases r with
  | non => cases h; exact .base .non
  | bl b => cases h; exact .base (.bl b)
  | int i => cases h; exact .base (.int i)
  | str i => cases h; exact .base (.str i)
  | ty n => cases h
  | @tup a vs ds ha ra =>
    cases h
    rcases ha with ⟨_, ha | ⟨o, ha⟩⟩ | ⟨o, its, n, h1, h2, h3⟩
    · exact .base (.tup ha)
    · exact .fTuple ha
    · exact .kTuple h1 h2
  | @lst a vs ds ha ra =>
    cases h
    rcases ha with ⟨_, ha | ⟨o, ha⟩⟩ | ⟨o, its, n, h1, h2, h3⟩
    · exact .base (.lst ha)
    · exact .base (.frz ha)
    · exact .kList h1 h2
  | src hs m =>
    cases h
    obtain ⟨i, c, s, t, ns, h1, _⟩ := hs
    exact .base (.lst h1)
  | exc _ _ _ _ _ => cases h
  | cls C => cases h
def wIsi : WA := fun ds P => match ds with
  | [d, .ty n] => ∃ t b, tyD d = some t ∧ kitB t n = some b ∧ P (.bl b)
  | _ => False
theorem bi_isi : BiD X (.builtin "isinstance") wIsi := by
  intro S B O H0 H σ Γ P vs ds st r h
  match ds, r, h with
  | [d, .ty n], r, h =>
    obtain ⟨v, w, rfl, r1, r2⟩ := r.two
    cases r2
    obtain ⟨t, b, h1, h2, h⟩ := h
    exact ⟨_, call_isi, fun Q k => ⟨v, _, _, _, b, rfl, .ty n, tyX_of r1 h1, kit_ty h2, k _ _ H .refl (.bl b) h⟩⟩
/-- isinstance(x, (T1, T2)) -/
theorem ex_isi2 {x : Str} {p p2 : Pos} {j} {a b c : Expr} (hm : X.mg x = none) (hg : Gl X x) (hv : bootBuiltins x = some (.builtin "isinstance"))
    (h : EX X a Γ fun d => EX X b Γ fun t1 => EX X c Γ fun t2 => ∃ n1 n2 t k1 k2, t1 = .ty n1 ∧ t2 = .ty n2 ∧ tyD d = some t ∧ kitB t n1 = some k1 ∧ kitB t n2 = some k2 ∧ P (.bl (k1 || k2)))
    (hn : x ≠ "__name__" := by decide) (hdb : (x == ("__debug__" : Str)) = false := by decide)
    (hs : starEach [a, .Tuple [b, c] j p2] X.env = (false, eval a X.env) :: starEach [.Tuple [b, c] j p2] X.env := by rfl) (hs1 : starEach [.Tuple [b, c] j p2] X.env = [(false, eval (.Tuple [b, c] j p2) X.env)] := by rfl)
    (hs2 : starEach [b, c] X.env = (false, eval b X.env) :: starEach [c] X.env := by rfl) (hs3 : starEach [c] X.env = (false, eval c X.env) :: starEach [] X.env := by rfl)
    (hs4 : starEach [.Tuple [b, c] j p2] X.env = (false, eval (.Tuple [b, c] j p2) X.env) :: starEach [] X.env := by rfl) (hpl : (backTo pos (starEach [.Tuple [b, c] j p2] X.env)).any (·.1) = false := by rfl) : EX X (.Call (.Name x p) [a, .Tuple [b, c] j p2] [] pos) Γ P :=
  ex_of (pe_callB call_isiT hg hm hv (pa_cons pe_sem (pa_cons (pe_tup (pa_cons pe_sem (pa_cons pe_sem pa_nil hs3) hs2)) pa_nil hs4) hs) hn hdb hs hpl) fun S B O H0 H σ st Q k => h S B O H0 H σ st _ fun v d H1 e1 r1 p1 => p1 S B O H0 H1 σ (st.to e1) _ fun v2 d2 H2 e2 r2 p2 => p2 S B O H0 H2 σ (st.to (e1.trans e2)) _ fun v3 d3 H3 e3 r3 p3 => by
    obtain ⟨n1, n2, t, k1, k2, rfl, rfl, ht, h1, h2, p⟩ := p3
    cases r2
    cases r3
    have st3 := st.to (e1.trans (e2.trans e3))
    refine ⟨small (n := 2) (by decide), fun q nq => ?_⟩
    refine ⟨v, q, [.ty n1, .ty n2], _, [.type n1, .type n2], (k1 || k2), rfl, upd_same, .cons (.ty n1) (.cons (.ty n2) .nil), tyX_of ((r1.ext (e2.trans e3) (st.to e1).live st.m).ext (.new nq) st3.live st.m) ht, ?_, k _ _ _ (e1.trans (e2.trans (e3.trans (.new nq)))) (.bl _) p⟩
    refine kitAny_cons (kit_ty h1) (fun e => ?_) fun e => by rw [e]; rfl
    rw [e, Bool.false_or]
    exact kitAny_cons (kit_ty h2) (fun e => by rw [e]; exact kitAny_nil) fun e => e
end
end G
set_option Elab.async false
set_option linter.all false
set_option maxRecDepth 100000
set_option maxHeartbeats 1000000
namespace G
open PySem PySem.Spec PyProof.Rows L2
/-! ### defs -/
/-- called with data ds the def gives a datum as W says; all that stood stays, but the source may turn -/
def spW (K : PySem.W.Frag) (W : WA) (n : Nat) : Sp := fun vs H Q _ => vs.length = n ∧ ∃ S B ds P, S.a ∈ B ∧ Live S H ∧ (∀ m ∈ B, ∃ o, H m = some o) ∧ RepAll K S B H vs ds ∧ W ds P ∧ ∀ v d H', Ext K S H H' → Rep K S B H' v d → P d → Q v H'
theorem StOk.bo {K S B O H0 H σ Γ} (st : StOk K S B O H0 H σ Γ) : ∀ m ∈ B ++ O, ∃ o, H m = some o := fun m hm => by
  cases e : H m with
  | some o => exact ⟨o, rfl⟩
  | none => exact absurd hm (st.free e)
structure CallOk (X : Cx) (x : Str) (W : WA) : Prop where
  ex : ∃ k f fd ps n W0 dvs dds us, FnOk X.prog X.w X.K X.mg X.base CX0 k f fd ps (spW X.K W0 n) ∧ Room k X.A ∧ X.mg x = some (.ref f) ∧ PySem.W.keepIn X.K (.ref f) = true ∧ Binds X.K fd ps us ∧ Vals dvs us ∧
    (∀ S M H, RepAll X.K S M H dvs dds) ∧ ∀ es P, W es P → (es ++ dds).length = n ∧ W0 (es ++ dds) P
section
variable {X : Cx} {Γ : List E} {P : D → Prop} {pos : Pos}
theorem ex_call {x : Str} {W : WA} {p : Pos} {e : Expr} {es : List Expr} (c : CallOk X x W) (hg : Gl X x) (h : AX X (e :: es) Γ fun ds => W ds P) (hdb : (x == ("__debug__" : Str)) = false := by decide)
    (he : starEach (e :: es) X.env = (false, eval e X.env) :: starEach es X.env := by rfl) (hpl : (backTo pos (starEach es X.env)).any (·.1) = false := by rfl) : EX X (.Call (.Name x p) (e :: es) [] pos) Γ P := by
  obtain ⟨k, f, fd, ps, n, W0, dvs, dds, us, F, hr, hm, hk, hb, hd, hdd, hW⟩ := c.ex
  refine ex_of (pe_call F hr hg hm hk hb hd pass0 pa_sem hdb he hpl) fun S B O H0 H σ st Q k => h S B O H0 H σ st _ fun vs ds H1 e1 r1 p1 => ?_
  obtain ⟨h1, h2⟩ := hW _ _ p1
  have st1 := st.to e1
  have r2 := r1.append (hdd S (B ++ O) H1)
  exact ⟨by rw [r2.length]; exact h1, S, B ++ O, ds ++ dds, P, st.m, st1.live, st1.bo, r2, h2, fun v d H' e r p => k v d H' (e1.trans e) r p⟩
/-- a call by keywords -/
structure CallOkK (X : Cx) (x : Str) (np : Nat) (ks : List Str) (W : List D → WA) : Prop where
  ex : ∃ (k : Nat) (f : Addr) (fd : FuncData) (ps : List Str) (n : Nat) (W0 : WA) (g : List Value → List Value → List Value) (gV : List V → List V → List V) (gD : List D → List D → List D), FnOk X.prog X.w X.K X.mg X.base CX0 k f fd ps (spW X.K W0 n) ∧ Room k X.A ∧ X.mg x = some (.ref f) ∧ PySem.W.keepIn X.K (.ref f) = true ∧ KBn X.K fd ps np ks g gV ∧
    (∀ S M H vs zs ds es, RepAll X.K S M H vs ds → RepAll X.K S M H zs es → ds.length = np → es.length = ks.length → RepAll X.K S M H (gV vs zs) (gD ds es)) ∧ ∀ ds es P, W ds es P → ds.length = np ∧ es.length = ks.length ∧ (gD ds es).length = n ∧ W0 (gD ds es) P
theorem pe_callK0 {CX : CXT} {k : Nat} {f : Addr} {fd : FuncData} {ps ks : List Str} {sp : Sp} {Ex : XK} {x : Str} {p : Pos} {kws : List Keyword} {tk : TA} {g gV}
    (F : FnOk X.prog X.w X.K X.mg X.base CX k f fd ps sp) (hr : Room k X.A) (hg : Gl X x) (hm : X.mg x = some (.ref f)) (hk : PySem.W.keepIn X.K (.ref f) = true) (hb : KBn X.K fd ps 0 ks g gV) (hx : Passes CX X Ex) (hkw : PK X kws tk)
    (hall : (backToKw pos (keywordEach kws X.env)).all (·.1.isSome) = true := by rfl) (hks : (backToKw pos (keywordEach kws X.env)).filterMap (·.1) = ks := by rfl) (hdb : (x == ("__debug__" : Str)) = false := by decide)
    (hpl : ((backTo pos (starEach [] X.env)).any (·.1) || (backToKw pos (keywordEach kws X.env)).any (·.1.isNone)) = false := by rfl) :
    PE X (.Call (.Name x p) [] kws pos) (tCallN 0 ks.length sp gV Ex tNil tk) := by
  refine ⟨fun pins s σ H Q I h => ?_⟩
  refine wpAny_Call_Name_kw (ld_glob I hg hm ?_ hdb)
  refine PySem.W.callWith_KW0 (h₀ := X.base) I.ok.mod.kin hk hall ?_ hpl
  refine thn (hkw.run pos pins s σ H _ I h) fun ws s2 ⟨zs, H2, I2, rz, l1, l2, q2⟩ => ⟨I2.kIn, ?_⟩
  rw [hks]
  exact run_fnN (us := []) (vs := []) F hr hb hx I2 .nil rz rfl l2 q2
theorem ex_callK0 {x : Str} {ks : List Str} {W : List D → WA} {p : Pos} {kws : List Keyword} (c : CallOkK X x 0 ks W) (hg : Gl X x) (h : KX X kws Γ fun es => W [] es P)
    (hall : (backToKw pos (keywordEach kws X.env)).all (·.1.isSome) = true := by rfl) (hks : (backToKw pos (keywordEach kws X.env)).filterMap (·.1) = ks := by rfl) (hdb : (x == ("__debug__" : Str)) = false := by decide)
    (hpl : ((backTo pos (starEach [] X.env)).any (·.1) || (backToKw pos (keywordEach kws X.env)).any (·.1.isNone)) = false := by rfl) : EX X (.Call (.Name x p) [] kws pos) Γ P := by
  obtain ⟨k, f, fd, ps, n, W0, g, gV, gD, F, hr, hm, hk, hb, hrel, hW⟩ := c.ex
  refine ex_of (pe_callK0 F hr hg hm hk hb pass0 pk_sem hall hks hdb hpl) fun S B O H0 H σ st Q k => h S B O H0 H σ st _ fun zs es H1 e1 r1 p1 => ?_
  obtain ⟨h0, h1, h2, h3⟩ := hW _ _ _ p1
  have st1 := st.to e1
  have r2 := hrel S (B ++ O) H1 [] zs [] es .nil r1 h0 h1
  exact ⟨rfl, by rw [r1.length]; exact h1, by rw [r2.length]; exact h2, S, B ++ O, _, P, st.m, st1.live, st1.bo, r2, h3, fun v d H' e r p => k v d H' (e1.trans e) r p⟩
theorem ex_callK {x : Str} {np : Nat} {ks : List Str} {W : List D → WA} {p : Pos} {e : Expr} {es : List Expr} {kws : List Keyword} (c : CallOkK X x np ks W) (hg : Gl X x) (h : AX X (e :: es) Γ fun ds => KX X kws Γ fun zs => W ds zs P)
    (hall : (backToKw pos (keywordEach kws X.env)).all (·.1.isSome) = true := by rfl) (hks : (backToKw pos (keywordEach kws X.env)).filterMap (·.1) = ks := by rfl) (hdb : (x == ("__debug__" : Str)) = false := by decide)
    (he : starEach (e :: es) X.env = (false, eval e X.env) :: starEach es X.env := by rfl)
    (hpl : ((backTo pos (starEach (e :: es) X.env)).any (·.1) || (backToKw pos (keywordEach kws X.env)).any (·.1.isNone)) = false := by rfl) : EX X (.Call (.Name x p) (e :: es) kws pos) Γ P := by
  obtain ⟨k, f, fd, ps, n, W0, g, gV, gD, F, hr, hm, hk, hb, hrel, hW⟩ := c.ex
  refine ex_of (pe_callN F hr hg hm hk hb pass0 pa_sem pk_sem hall hks hdb he hpl) fun S B O H0 H σ st Q k => h S B O H0 H σ st _ fun vs ds H1 e1 r1 p1 => p1 S B O H0 H1 σ (st.to e1) _ fun zs es H2 e2 r2 p2 => ?_
  obtain ⟨h0, h1, h2, h3⟩ := hW _ _ _ p2
  have st2 := st.to (e1.trans e2)
  have r1' := r1.ext e2 (st.to e1).live st.m
  have r3 := hrel S (B ++ O) H2 vs zs ds es r1' r2 h0 h1
  exact ⟨by rw [r1.length]; exact h0, by rw [r2.length]; exact h1, by rw [r3.length]; exact h2, S, B ++ O, _, P, st.m, st2.live, st2.bo, r3, h3, fun v d H' e r p => k v d H' (e1.trans (e2.trans e)) r p⟩

/-! ### statements -/
structure Po where
  nx : List E → Prop
  rt : D → Prop
  bk : List E → Prop := fun _ => False
  ct : List E → Prop := fun _ => False
/-- what stood stays but for B and O; the lists made since are new -/
structure Adv (K : PySem.W.Frag) (S : Sr) (B O : List Addr) (H : Hp) (O' : List Addr) (H' : Hp) : Prop where
  src : SrcOk K S H → SrcOk K S H'
  keep : ∀ b o, b ∉ B ++ O → H b = some o → H' b = some o
  new : ∀ m ∈ O', m ∉ O → H m = none
  out : ∀ m ∈ O', m ∉ B
theorem Adv.refl {K S B O H} (h : ∀ m ∈ O, m ∉ B) : Adv K S B O H O H := ⟨id, fun _ _ _ h => h, fun m a b => absurd a b, h⟩
theorem Adv.trans {K S B O H O1 H1 O2 H2} (a : Adv K S B O H O1 H1) (b : Adv K S B O1 H1 O2 H2) : Adv K S B O H O2 H2 where
  src := fun h => b.src (a.src h)
  keep := fun c o n h => b.keep c o (fun q => (List.mem_append.mp q).elim (fun q => n (List.mem_append_left _ q)) fun q => by
    by_cases hc : c ∈ O
    · exact n (List.mem_append_right _ hc)
    · rw [a.new c q hc] at h; cases h) (a.keep c o n h)
  new := fun m h n => by
    by_cases h1 : m ∈ O1
    · exact a.new m h1 n
    · cases e : H m with
      | none => rfl
      | some o =>
        have := a.keep m o (fun q => (List.mem_append.mp q).elim (b.out m h) n) e
        rw [b.new m h h1] at this
        cases this
  out := b.out
theorem StOk.adv {K S B O H0 H σ Γ H'} (st : StOk K S B O H0 H σ Γ) (e : Ext K S H H') : Adv K S B O H O H' :=
  ⟨e.src st.live, fun b o n h => e.keep b o (fun q => n (List.mem_append_left _ (q ▸ st.mem))) h, fun m a b => absurd a b, st.out⟩
structure EndsK (K : PySem.W.Frag) (S : Sr) (B O : List Addr) (H0 H : Hp) (po : Po) (Dn : Ends) : Prop where
  nx : ∀ O' H' σ Γ, StOk K S B O' H0 H' σ Γ → Adv K S B O H O' H' → po.nx Γ → Dn.nx σ H'
  rt : ∀ v d H, Ext K S H0 H → Rep K S B H v d → po.rt d → Dn.rt v H
  bk : ∀ O' H' σ Γ, StOk K S B O' H0 H' σ Γ → Adv K S B O H O' H' → po.bk Γ → Dn.bk σ H'
  ct : ∀ O' H' σ Γ, StOk K S B O' H0 H' σ Γ → Adv K S B O H O' H' → po.ct Γ → Dn.ct σ H'
theorem EndsK.to {K S B O H0 H po Dn O1 H1} (k : EndsK K S B O H0 H po Dn) (a : Adv K S B O H O1 H1) : EndsK K S B O1 H0 H1 po Dn :=
  ⟨fun O' H' σ Γ st b p => k.nx O' H' σ Γ st (a.trans b) p, k.rt, fun O' H' σ Γ st b p => k.bk O' H' σ Γ st (a.trans b) p, fun O' H' σ Γ st b p => k.ct O' H' σ Γ st (a.trans b) p⟩
def S1 (X : Cx) (st : Stmt) (Γ : List E) (po : Po) : Prop := ∀ S B O H0 H σ, StOk X.K S B O H0 H σ Γ → ∀ Dn, EndsK X.K S B O H0 H po Dn → semS X st Dn σ H
def SX (X : Cx) (st : List Stmt) (Γ : List E) (po : Po) : Prop := ∀ S B O H0 H σ, StOk X.K S B O H0 H σ Γ → ∀ Dn, EndsK X.K S B O H0 H po Dn → semSs X st Dn σ H
variable {po : Po}
theorem sx_nil (h : po.nx Γ) : SX X [] Γ po := fun S B O H0 H σ st Dn k => semSs_of pss_nil (k.nx O H σ Γ st (.refl st.out) h)
theorem sx_cons {s : Stmt} {ss : List Stmt} (h : S1 X s Γ { po with nx := fun Γ' => SX X ss Γ' po }) : SX X (s :: ss) Γ po :=
  fun S B O H0 H σ st Dn k => semSs_of (pss_cons ps_sem pss_sem) (h S B O H0 H σ st _ ⟨fun O' H' σ' Γ' st' a p => p S B O' H0 H' σ' st' Dn (k.to a), k.rt, k.bk, k.ct⟩)
theorem sx_one {s : Stmt} (h : S1 X s Γ po) : SX X [s] Γ po :=
  fun S B O H0 H σ st Dn k => semSs_of (pss_one ps_sem) (h S B O H0 H σ st _ k)
theorem rep_out {K S B O H0 H σ Γ v d} (st : StOk K S B O H0 H σ Γ) (r : Rep K S (B ++ O) H v d) : Rep K S B H v d := r.less (fun _ => List.mem_append_left _) st.mem
theorem s_ret {e : Expr} (h : EX X e Γ po.rt) : S1 X (.Return (some e) pos) Γ po :=
  fun S B O H0 H σ st Dn k => semS_of (ps_ret pe_sem) (h S B O H0 H σ st _ fun v d H1 e1 r1 p1 => k.rt v d H1 (st.ext.trans e1) (rep_out (st.to e1) r1) p1)
theorem s_retN (h : po.rt .non) : S1 X (.Return none pos) Γ po :=
  fun S B O H0 H σ st Dn k => semS_of ps_retN (k.rt .non .non H st.ext .non h)
theorem s_if {c : Expr} {a b : List Stmt} (h : TX X c Γ fun k => if k then SX X a Γ po else SX X b Γ po) : S1 X (.If c a b pos) Γ po :=
  fun S B O H0 H σ st Dn k => semS_of (ps_if pt_sem pss_sem pss_sem) (h S B O H0 H σ st _ fun b H1 e1 p1 => by
    cases b with
    | true => exact iteT (p1 S B O H0 H1 σ (st.to e1) Dn (k.to (st.adv e1)))
    | false => exact iteF (p1 S B O H0 H1 σ (st.to e1) Dn (k.to (st.adv e1))))
theorem s_pass (h : po.nx Γ) : S1 X (.Pass pos) Γ po := fun S B O H0 H σ st Dn k => semS_of ps_pass (k.nx O H σ Γ st (.refl st.out) h)
theorem s_break (h : po.bk Γ) : S1 X (.Break pos) Γ po := fun S B O H0 H σ st Dn k => semS_of ps_break (k.bk O H σ Γ st (.refl st.out) h)
theorem s_cont (h : po.ct Γ) : S1 X (.Continue pos) Γ po := fun S B O H0 H σ st Dn k => semS_of ps_continue (k.ct O H σ Γ st (.refl st.out) h)
theorem s_set (i : Nat) {N : List Str} {x : Str} {e : Expr} {pos' : Pos} (hX : X.N = N) (hnd : N.Nodup) (hN : nth N i = some x) (hx : Loc X.env.scope x) (h : EX X e Γ fun d => po.nx (put Γ i (.is d)))
    (hs : swapsWith e (some (.Name x pos')) pos.line X.env = pure false := by rfl) (hf : X.fn x = true ∨ X.env.scope.names.lookup x = some .local := by first | exact .inl rfl | exact .inr rfl | assumption) : S1 X (.Assign [.Name x pos'] e pos) Γ po := by
  rw [nth_eq] at hN
  exact fun S B O H0 H σ st Dn k => semS_of (ps_set (i := i) (by rw [hX]; exact hnd) (by rw [hX]; exact hN) hx pe_sem hs hf) (h S B O H0 H σ st _ fun v d H1 e1 r1 p1 => k.nx O H1 _ _ (by rw [put_eq]; exact (st.to e1).set i r1) (st.adv e1) p1)
/-- x, y = a, b -/
theorem s_par (i j : Nat) {N : List Str} {x y : Str} {a b : Expr} {px py pt : Pos} {kt k2 pt2} (hX : X.N = N) (hnd : N.Nodup) (hc : X.calm = true) (hN : nth N i = some x) (hM : nth N j = some y) (hij : i ≠ j) (hx : X.env.scope.names.lookup x = some .local) (hy : X.env.scope.names.lookup y = some .local)
    (hw : swappedStores [.Tuple [.Name x px, .Name y py] kt pt] (.Tuple [a, b] k2 pt2) X.env = pure (some [x, y])) (h : EX X a Γ fun d => EX X b Γ fun d2 => po.nx (put (put Γ i (.is d)) j (.is d2)))
    (hs : swapsWithSole [.Tuple [.Name x px, .Name y py] kt pt] (.Tuple [a, b] k2 pt2) pos.line X.env = pure false := by rfl)
    (hs2 : starEach [a, b] X.env = (false, eval a X.env) :: starEach [b] X.env := by rfl) (hs3 : starEach [b] X.env = (false, eval b X.env) :: starEach [] X.env := by rfl) :
    S1 X (.Assign [.Tuple [.Name x px, .Name y py] kt pt] (.Tuple [a, b] k2 pt2) pos) Γ po := by
  rw [nth_eq] at hN hM
  exact fun S B O H0 H σ st Dn k => semS_of (ps_par (i := i) (j := j) hc (by rw [hX]; exact hnd) (by rw [hX]; exact hN) (by rw [hX]; exact hM) hij hx hy (pa_cons pe_sem (pa_cons pe_sem pa_nil hs3) hs2) hw hs)
    (h S B O H0 H σ st _ fun v d H1 e1 r1 p1 => p1 S B O H0 H1 σ (st.to e1) _ fun v2 d2 H2 e2 r2 p2 =>
      ⟨v, v2, rfl, k.nx O H2 _ _ (by rw [put_eq, put_eq]; exact ((st.to (e1.trans e2)).set i (r1.ext e2 (st.to e1).live st.m)).set j r2) (st.adv (e1.trans e2)) p2⟩)
theorem s_expr {e : Expr} (h : EX X e Γ fun _ => po.nx Γ) (hs : swapsWith e none pos.line X.env = pure false := by rfl) : S1 X (.Expr e pos) Γ po :=
  fun S B O H0 H σ st Dn k => semS_of (ps_expr pe_sem hs) (h S B O H0 H σ st _ fun v d H1 e1 r1 p1 => k.nx O H1 σ Γ (st.to e1) (st.adv e1) p1)
/-- while: I by a measure -/
theorem s_while {c : Expr} {body : List Stmt} (hp : PassesOwn (model X.prog X.w) X.A X.env X.xe) (I : Nat → List E → Prop) (m0 : Nat) (h0 : I m0 Γ)
    (h : ∀ m Γ, I m Γ → TX X c Γ fun b => if b then SX X body Γ { po with nx := fun Γ' => ∃ m', m' < m ∧ I m' Γ', ct := fun Γ' => ∃ m', m' < m ∧ I m' Γ', bk := po.nx } else po.nx Γ) : S1 X (.While c body [] pos) Γ po :=
  fun S B O H0 H σ st Dn k => semS_of (ps_while hp pt_sem pss_sem) (by
    refine ⟨fun m σ' H' => ∃ O' Γ, StOk X.K S B O' H0 H' σ' Γ ∧ Adv X.K S B O H O' H' ∧ I m Γ, ⟨m0, O, Γ, st, .refl st.out, h0⟩, ?_⟩
    rintro m σ1 H1 ⟨O1, Γ1, st1, a1, i1⟩
    refine h m Γ1 i1 S B O1 H0 H1 σ1 st1 _ fun b H2 e2 p2 => ?_
    cases b with
    | true =>
      refine iteT ⟨_, fun _ _ n => n, ?_⟩
      have p2' : SX X body Γ1 _ := p2
      have a2 := a1.trans (st1.adv e2)
      refine p2' S B O1 H0 H2 σ1 (st1.to e2) _ ⟨?_, k.rt, fun O H σ Γ st a p => k.nx O H σ Γ st (a2.trans a) p, ?_⟩
      · rintro O3 H3 σ3 Γ3 st3 a3 ⟨m', hm, i3⟩
        exact ⟨m', hm, O3, Γ3, st3, a2.trans a3, i3⟩
      · rintro O3 H3 σ3 Γ3 st3 a3 ⟨m', hm, i3⟩
        exact ⟨m', hm, O3, Γ3, st3, a2.trans a3, i3⟩
    | false => exact iteF (k.nx O1 H2 σ1 Γ1 (st1.to e2) (a1.trans (st1.adv e2)) p2))
end
/-! ### a def by its body -/
def startE (N : List Str) (ds : List D) : List E := ds.map .is ++ List.replicate (N.length - ds.length) .no
theorem st_start {K : PySem.W.Frag} {S : Sr} {B : List Addr} {H : Hp} {N : List Str} {vs : List V} {ds : List D} (m : S.a ∈ B) (l : Live S H) (b : ∀ m ∈ B, ∃ o, H m = some o) (r : RepAll K S B H vs ds) : StOk K S B [] H H (L2.start N vs) (startE N ds) where
  len := by simp [L2.start, startE, r.length]
  ent := fun i g hg => by
    unfold startE at hg
    unfold L2.start
    by_cases hi : i < ds.length
    · rw [List.getElem?_append_left (by simpa using hi), List.getElem?_map] at hg
      cases e : ds[i]? with
      | none => rw [e] at hg; cases hg
      | some d =>
        rw [e] at hg
        cases hg
        obtain ⟨v, hv, rv⟩ := r.get e
        refine ⟨some v, ?_, v, rfl, by rw [List.append_nil]; exact rv⟩
        rw [List.getElem?_append_left (by rw [List.length_map, r.length]; exact hi), List.getElem?_map, hv]
        rfl
    · rw [List.getElem?_append_right (by simpa using hi), List.getElem?_replicate] at hg
      split at hg
      · rename_i h
        cases hg
        refine ⟨none, ?_, trivial⟩
        rw [List.getElem?_append_right (by rw [List.length_map, r.length]; omega), List.getElem?_replicate, if_pos (by simpa [r.length] using h)]
      · cases hg
  ext := .refl
  live0 := l
  mem := m
  bl := b
  nd := List.nodup_nil
  out := fun _ h => absurd h (by simp)
  new := fun _ h => absurd h (by simp)
  liv := fun _ h => absurd h (by simp)
section
variable {P : Program} {w : World} {K : PySem.W.Frag} {mg : Str → Option Value} {base : Heap}
/-- THE RULE: a def's body shows what it gives -/
theorem fn_body {X : Cx} {N : List Str} {st : List Stmt} {W : WA} {n : Nat} {vs : List V} {H : Hp} {Q : VK} {Ex : XK} (hsp : spW X.K W n vs H Q Ex)
    (h : ∀ ds Po', W ds Po' → ds.length = n → SX X st (startE N ds) { nx := fun _ => Po' .non, rt := Po' }) : ∃ t, PSs X st t ∧ t { nx := fun _ H' => Q .non H', rt := Q } (L2.start N vs) H := by
  obtain ⟨hl, S, B, ds, Po', m, l, b, r, hw, hq⟩ := hsp
  exact ⟨_, pss_sem, h ds Po' hw (r.length ▸ hl) S B [] H H _ (st_start m l b r) _ ⟨fun O H σ Γ st _ p => hq .non .non H st.ext .non p, fun v d H e r p => hq v d H e r p, fun _ _ _ _ _ _ z => z, fun _ _ _ _ _ _ z => z⟩⟩
end
end G
set_option Elab.async false
set_option linter.all false
set_option maxRecDepth 100000
set_option maxHeartbeats 1000000
namespace G
open PySem PySem.Spec PyProof.Rows L2
/-! ### what is walked -/
def Keeps (M : List Addr) (H H' : Hp) : Prop := ∀ b o, b ∉ M → H b = some o → H' b = some o
/-- the items, by data; pairs are new tuples -/
structure WalksP (K : PySem.W.Frag) (S : Sr) (M : List Addr) (J : It) (H1 : Hp) (ds : List D) : Prop where
  go : ∀ i H, Keeps M H1 H → i < ds.length → J.go i H
  stop : ∀ H, Keeps M H1 H → J.stop ds.length H
  yld : ∀ i H x H', Keeps M H1 H → i < ds.length → J.yld i H x H' → ∃ d, ds[i]? = some d ∧
    ((H' = H ∧ Rep K S M H1 x d) ∨ ∃ p vs es, x = .ref p ∧ d = .tup es ∧ H p = none ∧ H' = upd H p (.tup vs) ∧ RepAll K S M H1 vs es)
def WX (X : Cx) (tg iter : Expr) (Γ : List E) (P : List D → Prop) : Prop :=
  ∀ S B O H0 H σ, StOk X.K S B O H0 H σ Γ → ∀ R, (∀ J H' ds, Ext X.K S H H' → WalksP X.K S (B ++ O) J H' ds → P ds → R J H') → semI X tg iter σ H R
section
variable {X : Cx} {Γ : List E} {pos : Pos} {tg : Expr}
theorem keeps_rd {M H H' a u} (k : Keeps M H H') (n : a ∉ M) (h : Rd H a u) : Rd H' a u := by
  rcases h with h | ⟨o, h⟩
  · exact .inl (k a _ n h)
  · exact .inr ⟨o, k a _ n h⟩
theorem LAt.keeps {K M H H' a xs} (k : Keeps M H H') (h : LAt K M H a xs) : LAt K M H' a xs := h.imp (fun z => ⟨z.1, keeps_rd k z.1 z.2⟩) id
theorem TAt.keeps {K M H H' a xs} (k : Keeps M H H') (h : TAt K M H a xs) : TAt K M H' a xs := h.imp (fun z => ⟨z.1, keeps_rd k z.1 z.2⟩) id
def asL (P : List D → Prop) : D → Prop
  | .lst l => P l
  | _ => False
def asT (P : List D → Prop) : D → Prop
  | .tup l => P l
  | _ => False
theorem wx_list {e : Expr} {P : List D → Prop} (h : EX X e Γ (asL P)) : WX X tg e Γ P :=
  fun S B O H0 H σ st R k => semI_of (pi_list pe_sem) (h S B O H0 H σ st _ fun v d H1 e1 r1 p1 => by
    cases r1 <;> try exact p1.elim
    rename_i a vs ds ha ra
    refine ⟨a, rfl, ⟨vs, ha.sq⟩, k _ H1 ds e1 ⟨fun i H kp hi => ?_, fun H kp => ⟨vs, (ha.keeps kp).sq, by rw [ra.length]; exact Nat.le_refl _⟩, fun i H x H' kp hi y => ?_⟩ p1⟩
    · exact ⟨vs, vs[i]'(by rw [ra.length]; exact hi), (ha.keeps kp).sq, List.getElem?_eq_getElem _⟩
    · obtain ⟨rfl, y⟩ := y
      obtain ⟨d, hd, rd⟩ := ra.getV (y vs (ha.keeps kp).sq)
      exact ⟨d, hd, .inl ⟨rfl, rd⟩⟩)
theorem wx_tup {e : Expr} {P : List D → Prop} (h : EX X e Γ (asT P)) : WX X tg e Γ P :=
  fun S B O H0 H σ st R k => semI_of (pi_tup pe_sem) (h S B O H0 H σ st _ fun v d H1 e1 r1 p1 => by
    cases r1 <;> try exact p1.elim
    rename_i a vs ds ha ra
    refine ⟨a, rfl, ⟨vs, ha.sq⟩, k _ H1 ds e1 ⟨fun i H kp hi => ?_, fun H kp => ⟨vs, (ha.keeps kp).sq, by rw [ra.length]; exact Nat.le_refl _⟩, fun i H x H' kp hi y => ?_⟩ p1⟩
    · exact ⟨vs, vs[i]'(by rw [ra.length]; exact hi), (ha.keeps kp).sq, List.getElem?_eq_getElem _⟩
    · obtain ⟨rfl, y⟩ := y
      obtain ⟨d, hd, rd⟩ := ra.getV (y vs (ha.keeps kp).sq)
      exact ⟨d, hd, .inl ⟨rfl, rd⟩⟩)
def rangeD (n : Nat) : List D := (List.range n).map fun (k : Nat) => D.int (k : Int)
theorem rangeD_len (n : Nat) : (rangeD n).length = n := by simp [rangeD]
theorem rangeD_get {n i : Nat} (h : i < n) : (rangeD n)[i]? = some (.int (i : Int)) := by simp [rangeD, h]
theorem wx_range {e : Expr} {p pr : Pos} {P : List D → Prop} (hm : X.mg "range" = none) (hg : Gl X "range") (h : EX X e Γ (asI fun j => j < 2 ^ 62 ∧ -(2 ^ 62) ≤ j ∧ P (rangeD j.toNat)))
    (hs : starEach [e] X.env = (false, eval e X.env) :: starEach [] X.env := by rfl) (hs1 : starEach [e] X.env = [(false, eval e X.env)] := by rfl) : WX X tg (.Call (.Name "range" p) [e] [] pr) Γ P :=
  fun S B O H0 H σ st R k => semI_of (pi_range1 hg hm (pa_cons pe_sem pa_nil hs) hs1) (h S B O H0 H σ st _ fun v d H1 e1 r1 p1 => by
    obtain ⟨j, rfl, rfl, h1, h2, p⟩ := asI_use r1 p1
    refine ⟨j, rfl, h2, h1, k _ H1 (rangeD j.toNat) e1 ⟨fun i H kp hi => by rw [rangeD_len] at hi; exact hi, fun H kp => by rw [rangeD_len]; exact Nat.le_refl _, fun i H x H' kp hi y => ?_⟩ p⟩
    obtain ⟨rfl, rfl⟩ := y
    rw [rangeD_len] at hi
    exact ⟨_, rangeD_get hi, .inl ⟨rfl, by rw [show (0 : Int) + (i : Int) = (i : Int) from Int.zero_add _]; exact .int _⟩⟩)
def strD (s : Str) : List D := s.cps.toList.map fun c => .str ⟨#[c]⟩
theorem wx_str {e : Expr} {P : List D → Prop} (h : EX X e Γ fun d => ∃ s, d = .str s ∧ P (strD s)) : WX X tg e Γ P :=
  fun S B O H0 H σ st R k => semI_of (pi_str pe_sem) (h S B O H0 H σ st _ fun v d H1 e1 r1 p1 => by
    obtain ⟨s, rfl, p⟩ := p1
    cases r1
    refine ⟨s, rfl, k _ H1 (strD s) e1 ⟨fun i H kp hi => (show i < s.cps.size by simpa [strD] using hi), fun H kp => by simp [strD, Its], fun i H x H' kp hi y => ?_⟩ p⟩
    obtain ⟨rfl, c, hc, rfl⟩ := y
    exact ⟨.str ⟨#[c]⟩, by simp [strD, hc], .inl ⟨rfl, .str _⟩⟩)
def zipD (l m : List D) : List D := (l.zip m).map fun q => .tup [q.1, q.2]
theorem zipD_len (l m : List D) : (zipD l m).length = min l.length m.length := by simp [zipD]
theorem zip_at {K S M H} {xs ys : List V} {l m : List D} {i : Nat} {x y : V} (r1 : RepAll K S M H xs l) (r2 : RepAll K S M H ys m) (hx : xs[i]? = some x) (hy : ys[i]? = some y) :
    ∃ a b, (zipD l m)[i]? = some (.tup [a, b]) ∧ Rep K S M H x a ∧ Rep K S M H y b := by
  obtain ⟨a, ha, ra⟩ := r1.getV hx
  obtain ⟨b, hb, rb⟩ := r2.getV hy
  refine ⟨a, b, ?_, ra, rb⟩
  unfold zipD
  rw [List.getElem?_map, List.getElem?_zip_eq_some (z := (a, b)) |>.mpr ⟨ha, hb⟩]
  rfl
theorem wx_zipL {elts : List Expr} {kk : Nat} {tpos p pr : Pos} {e e2 : Expr} {P : List D → Prop} (hm : X.mg "zip" = none) (hg : Gl X "zip") (h : AX X [e, e2] Γ fun ds => ∃ l m, ds = [.lst l, .lst m] ∧ P (zipD l m))
    (hs : starEach [e, e2] X.env = (false, eval e X.env) :: starEach [e2] X.env := by rfl) (hpl : (backTo pr (starEach [e2] X.env)).any (·.1) = false := by rfl) : WX X (.Tuple elts kk tpos) (.Call (.Name "zip" p) [e, e2] [] pr) Γ P :=
  fun S B O H0 H σ st R k => semI_of (pi_zip hg hm pa_sem hs hpl) (h S B O H0 H σ st _ fun vs ds H1 e1 r1 p1 => by
    obtain ⟨l, m, rfl, p⟩ := p1
    obtain ⟨v, w, rfl, q1, q2⟩ := r1.two
    cases q1 with
    | @lst a xs _ ha ra =>
    cases q2 with
    | @lst b ys _ hb rb =>
    refine ⟨a, b, xs, ys, rfl, ha.sq, hb.sq, k _ H1 (zipD l m) e1 ⟨fun i H kp hi => ?_, fun H kp => ⟨xs, ys, (ha.keeps kp).sq, (hb.keeps kp).sq, by rw [zipD_len, ra.length, rb.length]; omega⟩, fun i H x H' kp hi y => ?_⟩ p⟩
    · rw [zipD_len] at hi
      have i1 : i < xs.length := by rw [ra.length]; omega
      have i2 : i < ys.length := by rw [rb.length]; omega
      exact ⟨xs, ys, xs[i], ys[i], (ha.keeps kp).sq, (hb.keeps kp).sq, List.getElem?_eq_getElem _, List.getElem?_eq_getElem _⟩
    · obtain ⟨T, x1, y1, rfl, nT, rfl, f1, f2⟩ := y
      obtain ⟨c, d, h1, h2, h3⟩ := zip_at ra rb (f1 xs (ha.keeps kp).sq) (f2 ys (hb.keeps kp).sq)
      exact ⟨_, h1, .inr ⟨T, [x1, y1], [c, d], rfl, rfl, nT, rfl, .cons h2 (.cons h3 .nil)⟩⟩)
theorem wx_zipT {elts : List Expr} {kk : Nat} {tpos p pr : Pos} {e e2 : Expr} {P : List D → Prop} (hm : X.mg "zip" = none) (hg : Gl X "zip") (h : AX X [e, e2] Γ fun ds => ∃ l m, ds = [.tup l, .tup m] ∧ P (zipD l m))
    (hs : starEach [e, e2] X.env = (false, eval e X.env) :: starEach [e2] X.env := by rfl) (hpl : (backTo pr (starEach [e2] X.env)).any (·.1) = false := by rfl) : WX X (.Tuple elts kk tpos) (.Call (.Name "zip" p) [e, e2] [] pr) Γ P :=
  fun S B O H0 H σ st R k => semI_of (RZ.pi_zipA hg hm pa_sem hs hpl) (h S B O H0 H σ st _ fun vs ds H1 e1 r1 p1 => by
    obtain ⟨l, m, rfl, p⟩ := p1
    obtain ⟨v, w, rfl, q1, q2⟩ := r1.two
    cases q1 with
    | @tup a xs _ ha ra =>
    cases q2 with
    | @tup b ys _ hb rb =>
    refine ⟨a, b, xs, ys, rfl, .inr ⟨ha.sq, hb.sq, k _ H1 (zipD l m) e1 ⟨fun i H kp hi => ?_, fun H kp => ⟨xs, ys, (ha.keeps kp).sq, (hb.keeps kp).sq, by rw [zipD_len, ra.length, rb.length]; omega⟩, fun i H x H' kp hi y => ?_⟩ p⟩⟩
    · rw [zipD_len] at hi
      have i1 : i < xs.length := by rw [ra.length]; omega
      have i2 : i < ys.length := by rw [rb.length]; omega
      exact ⟨xs, ys, xs[i], ys[i], (ha.keeps kp).sq, (hb.keeps kp).sq, List.getElem?_eq_getElem _, List.getElem?_eq_getElem _⟩
    · obtain ⟨T, x1, y1, rfl, nT, rfl, f1, f2⟩ := y
      obtain ⟨c, d, h1, h2, h3⟩ := zip_at ra rb (f1 xs (ha.keeps kp).sq) (f2 ys (hb.keeps kp).sq)
      exact ⟨_, h1, .inr ⟨T, [x1, y1], [c, d], rfl, rfl, nT, rfl, .cons h2 (.cons h3 .nil)⟩⟩)

/-! ### targets -/
theorem wipe_set {σ : L2.St} {j : Nat} {x : Option V} : ∀ {vs : List Nat}, j ∈ vs → L2.wipe (σ.set j x) vs = L2.wipe σ vs
  | [], h => absurd h (by simp)
  | v :: vs, h => by
    unfold L2.wipe
    by_cases hj : j ∈ vs
    · rw [wipe_set hj]
    · have e : j = v := (List.mem_cons.mp h).resolve_right hj
      subst e
      have : ∀ (vs : List Nat) (σ : L2.St), j ∉ vs → L2.wipe (σ.set j x) vs = (L2.wipe σ vs).set j x := by
        intro vs
        induction vs with
        | nil => intro σ _; rfl
        | cons u us ih =>
          intro σ hn
          have n1 : j ≠ u := fun e => hn (e ▸ List.mem_cons_self ..)
          unfold L2.wipe
          rw [ih σ fun q => hn (List.mem_cons_of_mem _ q), List.set_comm _ _ n1]
      rw [this vs σ hj, List.set_set]
abbrev GD := D → List E → (List E → Prop) → Prop
abbrev GsD := List D → List E → (List E → Prop) → Prop
structure TgOk (K : PySem.W.Frag) (gt : TG) (G : GD) (js : List Nat) : Prop where
  ok : ∀ S B O H0 H σ Γ v d P Q, StOk K S B O H0 H σ Γ → Rep K S (B ++ O) H v d → G d Γ P → (∀ σ' Γ', StOk K S B O H0 H σ' Γ' → P Γ' → (∀ vs : List Nat, (∀ j ∈ js, j ∈ vs) → L2.wipe σ' vs = L2.wipe σ vs) → Q σ' H) → gt v σ H Q
structure TgsOk (K : PySem.W.Frag) (gt : TGs) (G : GsD) (js : List Nat) : Prop where
  ok : ∀ S B O H0 H σ Γ vs ds P Q, StOk K S B O H0 H σ Γ → RepAll K S (B ++ O) H vs ds → G ds Γ P → (∀ σ' Γ', StOk K S B O H0 H σ' Γ' → P Γ' → (∀ us : List Nat, (∀ j ∈ js, j ∈ us) → L2.wipe σ' us = L2.wipe σ us) → Q σ' H) → gt vs σ H Q
def gdN (j : Nat) : GD := fun d Γ P => P (put Γ j (.is d))
def gdNil : GsD := fun ds Γ P => ds = [] ∧ P Γ
def gdCons (g : GD) (r : GsD) : GsD := fun ds Γ P => ∃ d es, ds = d :: es ∧ g d Γ fun Γ' => r es Γ' P
def gdTup (r : GsD) : GD := fun d Γ P => ∃ ds, d = .tup ds ∧ r ds Γ P
theorem tg_name {K} (j : Nat) : TgOk K (gName j) (gdN j) [j] := ⟨fun S B O H0 H σ Γ v d P Q st r h k => k _ _ (st.set j r) (by rw [← put_eq]; exact h) fun vs hv => wipe_set (hv j (by simp))⟩
theorem tgs_nil {K} : TgsOk K gNil gdNil [] := ⟨fun S B O H0 H σ Γ vs ds P Q st r h k => by
  obtain ⟨rfl, h⟩ := h
  cases r
  exact ⟨rfl, k _ _ st h fun _ _ => rfl⟩⟩
theorem tgs_cons {K gt gts g gs j1 j2} (h1 : TgOk K gt g j1) (h2 : TgsOk K gts gs j2) : TgsOk K (gCons gt gts) (gdCons g gs) (j1 ++ j2) := ⟨fun S B O H0 H σ Γ vs ds P Q st r h k => by
  obtain ⟨d, es, rfl, h⟩ := h
  cases r with
  | @cons v _ vs _ rv rr =>
    refine ⟨v, vs, rfl, h1.ok S B O H0 H σ Γ v d _ _ st rv h fun σ1 Γ1 st1 p1 w1 => ?_⟩
    refine h2.ok S B O H0 H σ1 Γ1 vs es _ _ st1 rr p1 fun σ2 Γ2 st2 p2 w2 => k σ2 Γ2 st2 p2 fun us hu => ?_
    rw [w2 us fun j hj => hu j (List.mem_append_right _ hj), w1 us fun j hj => hu j (List.mem_append_left _ hj)]⟩
theorem tg_tup {K n gts gs js} (h : TgsOk K gts gs js) (hl : ∀ ds Γ P, gs ds Γ P → ds.length = n) : TgOk K (gTup K n gts) (gdTup gs) js := ⟨fun S B O H0 H σ Γ v d P Q st r hg k => by
  obtain ⟨ds, rfl, hg⟩ := hg
  cases r with
  | @tup a vs _ ha ra => exact ⟨a, vs, rfl, ha.sq, by rw [ra.length]; exact hl _ _ _ hg, h.ok S B O H0 H σ Γ vs ds P Q st ra hg k⟩⟩

/-! ### for -/
theorem keeps_adv {K S B O H O' H'} (a : Adv K S B O H O' H') : Keeps (B ++ O) H H' := fun b o n h => a.keep b o n h
theorem Rep.keeps {K S M H H'} (k : Keeps M H H') (s : SrcOk K S H → SrcOk K S H') {v d} (r : Rep K S M H v d) : Rep K S M H' v d := r.imp (fun _ _ => TAt.keeps k) (fun _ _ => LAt.keeps k) (fun h m => ⟨s h, m⟩) fun a o n h => ⟨n, k a o n h⟩
theorem RepAll.keeps {K S M H H'} (k : Keeps M H H') (s : SrcOk K S H → SrcOk K S H') {v d} (r : RepAll K S M H v d) : RepAll K S M H' v d := r.imp (fun _ _ => TAt.keeps k) (fun _ _ => LAt.keeps k) (fun h m => ⟨s h, m⟩) fun a o n h => ⟨n, k a o n h⟩
/-- more that may change, all new -/
theorem Rep.more {K S M M' H v d} (h : ∀ a ∈ M', a ∉ M → H a = none) (hm : S.a ∈ M → S.a ∈ M') (r : Rep K S M H v d) : Rep K S M' H v d :=
  r.imp (fun a _ z => z.imp (fun z => ⟨fun q => absurd rfl (rd_ne z.2 (h a q z.1)), z.2⟩) id) (fun a _ z => z.imp (fun z => ⟨fun q => absurd rfl (rd_ne z.2 (h a q z.1)), z.2⟩) id) (fun z m => ⟨z, hm m⟩) fun a o n z => ⟨fun q => (by rw [h a q n] at z; cases z), z⟩
theorem RepAll.more {K S M M' H v d} (h : ∀ a ∈ M', a ∉ M → H a = none) (hm : S.a ∈ M → S.a ∈ M') (r : RepAll K S M H v d) : RepAll K S M' H v d :=
  r.imp (fun a _ z => z.imp (fun z => ⟨fun q => absurd rfl (rd_ne z.2 (h a q z.1)), z.2⟩) id) (fun a _ z => z.imp (fun z => ⟨fun q => absurd rfl (rd_ne z.2 (h a q z.1)), z.2⟩) id) (fun z m => ⟨z, hm m⟩) fun a o n z => ⟨fun q => (by rw [h a q n] at z; cases z), z⟩
/-- what stood at H stands behind, also with the lists made since -/
theorem Adv.rep {K S B O H O' H' v d} (a : Adv K S B O H O' H') (m : S.a ∈ B) (r : Rep K S (B ++ O) H v d) : Rep K S (B ++ O') H' v d := by
  have hn : ∀ x ∈ B ++ (O ++ O'), x ∉ B ++ O → H x = none := fun x hx n => by
    rcases List.mem_append.mp hx with q | q
    · exact absurd (List.mem_append_left _ q) n
    · rcases List.mem_append.mp q with q | q
      · exact absurd (List.mem_append_right _ q) n
      · exact a.new x q fun z => n (List.mem_append_right _ z)
  have r1 := r.more (M' := B ++ (O ++ O')) hn fun _ => List.mem_append_left _ m
  have r2 := r1.keeps (H' := H') (fun b o n h => a.keep b o (fun q => n ((List.mem_append.mp q).elim (fun q => List.mem_append_left _ q) fun q => List.mem_append_right _ (List.mem_append_left _ q))) h) a.src
  exact r2.less (fun x hx => (List.mem_append.mp hx).elim (fun q => List.mem_append_left _ q) fun q => List.mem_append_right _ (List.mem_append_right _ q)) (List.mem_append_left _ m)
theorem Adv.repAll {K S B O H O' H'} (a : Adv K S B O H O' H') (m : S.a ∈ B) : ∀ {vs : List V} {ds : List D}, RepAll K S (B ++ O) H vs ds → RepAll K S (B ++ O') H' vs ds
  | _, _, .nil => .nil
  | _, _, .cons h t => .cons (a.rep m h) (a.repAll m t)
variable {po : Po}
/-- for target in iter: I by the turn -/
theorem s_for {iter : Expr} {body : List Stmt} {gt : TG} {Gd : GD} {js : List Nat} (hp : PassesOwn (model X.prog X.w) X.A X.env X.xe) (hc : X.calm = true) (hg : PG X tg gt) (hG : TgOk X.K gt Gd js)
    (h : WX X tg iter Γ fun ds => ∃ I : Nat → List E → Prop, I 0 Γ ∧ (∀ i d Γ, ds[i]? = some d → I i Γ → Gd d Γ fun Γ' => SX X body Γ' { po with nx := fun Γ' => ∃ Γ2, Le Γ' Γ2 ∧ I (i + 1) Γ2, ct := fun Γ' => ∃ Γ2, Le Γ' Γ2 ∧ I (i + 1) Γ2, bk := po.nx }) ∧ ∀ Γ, I ds.length Γ → po.nx Γ)
    (hfs : ∀ y, foldedSetIterable iter X.env y = pure y := by intro _; rfl) : S1 X (.For tg iter body [] pos) Γ po :=
  fun S B O H0 H σ st Dn kk => semS_of (ps_for hp hc pi_sem hg pss_sem hfs) (h S B O H0 H σ st _ fun J H1 ds e1 w p => by
    obtain ⟨I, h0, ht, hd⟩ := p
    refine ⟨fun i m σ' H' => m = ds.length - i ∧ i ≤ ds.length ∧ ∃ O' Γ', StOk X.K S B O' H0 H' σ' Γ' ∧ Adv X.K S B O H1 O' H' ∧ I i Γ', ⟨ds.length, rfl, Nat.zero_le _, O, Γ, st.to e1, .refl st.out, h0⟩, ?_⟩
    rintro i m σ2 H2 ⟨rfl, hi, O2, Γ2, st2, a2, i2⟩
    have kp := keeps_adv a2
    have a0 : Adv X.K S B O H O2 H2 := (st.adv e1).trans a2
    by_cases hlt : i < ds.length
    · refine .inr ⟨w.go i H2 kp hlt, fun σ' H' => ∃ O' Γ', StOk X.K S B O' H0 H' σ' Γ' ∧ Adv X.K S B O H1 O' H' ∧ I (i + 1) Γ', ?_, ?_⟩
      · rintro σ3 H3 ⟨O3, Γ3, st3, a3, i3⟩
        exact ⟨ds.length - (i + 1), by omega, rfl, hlt, O3, Γ3, st3, a3, i3⟩
      · intro x H3 y
        obtain ⟨d, hd', y⟩ := w.yld i H2 x H3 kp hlt y
        have go : ∀ H3, Ext X.K S H2 H3 → Rep X.K S (B ++ O2) H3 x d → gt x σ2 H3 fun σ2 H2 => semSs X body { nx := fun σ' H' => ∃ O' Γ', StOk X.K S B O' H0 H' σ' Γ' ∧ Adv X.K S B O H1 O' H' ∧ I (i + 1) Γ', rt := Dn.rt, bk := Dn.nx, ct := fun σ' H' => ∃ O' Γ', StOk X.K S B O' H0 H' σ' Γ' ∧ Adv X.K S B O H1 O' H' ∧ I (i + 1) Γ' } σ2 H2 := fun H3 e3 r3 => by
          refine hG.ok S B O2 H0 H3 σ2 Γ2 x d _ _ (st2.to e3) r3 (ht i d Γ2 hd' i2) fun σ4 Γ4 st4 p4 _ => ?_
          have a3 := a2.trans (st2.adv e3)
          have a4 := a0.trans (st2.adv e3)
          refine p4 S B O2 H0 H3 σ4 st4 _ ⟨?_, kk.rt, fun O5 H5 σ5 Γ5 st5 a5 p5 => kk.nx O5 H5 σ5 Γ5 st5 (a4.trans a5) p5, ?_⟩
          · rintro O5 H5 σ5 Γ5 st5 a5 ⟨Γ6, l, i6⟩
            exact ⟨O5, Γ6, st5.le l, a3.trans a5, i6⟩
          · rintro O5 H5 σ5 Γ5 st5 a5 ⟨Γ6, l, i6⟩
            exact ⟨O5, Γ6, st5.le l, a3.trans a5, i6⟩
        rcases y with ⟨rfl, r⟩ | ⟨p, vs, es, rfl, rfl, np, rfl, r⟩
        · exact go _ .refl (a2.rep st.mem r)
        · exact go _ (.new np) (rep_tup st2 (a2.repAll st.mem r) np)
    · have e : i = ds.length := by omega
      subst e
      exact .inl ⟨w.stop H2 kp, kk.nx O2 H2 σ2 Γ2 st2 a0 (hd Γ2 i2)⟩)

/-! ### list comprehensions -/
def semB (X : Cx) (scope : Scope) (e : Expr) : TE := fun σ H Q => ∀ (s0 : Shared) (H0 : Hp) (C : Addr) (cl : List (Str × Addr)) (fp : List Addr), semE (X.blk s0 H0 scope (compEnvC scope cl C X.env) fp) e σ H Q
theorem pe_semB {scope : Scope} {e : Expr} (s0 : Shared) (H0 : Hp) (C : Addr) (cl : List (Str × Addr)) (fp : List Addr) : PE (X.blk s0 H0 scope (compEnvC scope cl C X.env) fp) e (semB X scope e) := ⟨fun pins s σ H Q I h => h s0 H0 C cl fp pins s I⟩
def semTB (X : Cx) (scope : Scope) (e : Expr) : TT := fun σ H Q => ∀ (s0 : Shared) (H0 : Hp) (C : Addr) (cl : List (Str × Addr)) (fp : List Addr), semT (X.blk s0 H0 scope (compEnvC scope cl C X.env) fp) e σ H Q
theorem pt_semB {scope : Scope} {e : Expr} (s0 : Shared) (H0 : Hp) (C : Addr) (cl : List (Str × Addr)) (fp : List Addr) : PT (X.blk s0 H0 scope (compEnvC scope cl C X.env) fp) e (semTB X scope e) := ⟨fun pins s σ H Q I h => h s0 H0 C cl fp pins s I⟩
def EB (X : Cx) (scope : Scope) (e : Expr) (Γ : List E) (P : D → Prop) : Prop := ∀ (s0 : Shared) (H0 : Hp) (C : Addr) (cl : List (Str × Addr)) (fp : List Addr), EX (X.blk s0 H0 scope (compEnvC scope cl C X.env) fp) e Γ P
def TB (X : Cx) (scope : Scope) (e : Expr) (Γ : List E) (P : Bool → Prop) : Prop := ∀ (s0 : Shared) (H0 : Hp) (C : Addr) (cl : List (Str × Addr)) (fp : List Addr), TX (X.blk s0 H0 scope (compEnvC scope cl C X.env) fp) e Γ P
/-- the tests of a clause -/
def TsB (X : Cx) (scope : Scope) (ifs : List Expr) (Γ : List E) (P : Bool → Prop) : Prop := match ifs with
  | [] => P true
  | [c] => TB X scope c Γ P
  | _ => False
def semTs (X : Cx) (scope : Scope) (ifs : List Expr) : TT := match ifs with
  | [] => tYes
  | [c] => semTB X scope c
  | _ => fun _ _ _ => False
theorem pts_sem {scope : Scope} {ifs : List Expr} (hl : ifs.length ≤ 1) (s0 : Shared) (H0 : Hp) (C : Addr) (cl : List (Str × Addr)) (fp : List Addr) : PTs (X.blk s0 H0 scope (compEnvC scope cl C X.env) fp) ifs (semTs X scope ifs) := by
  match ifs, hl with
  | [], _ => exact pts_nil
  | [c], _ => exact pts_one (pt_semB s0 H0 C cl fp)
  | _ :: _ :: _, hl => simp at hl
/-- a new list that the loop builds, beside the own ones -/
theorem StOk.with {K S B O H0 H1 H σ Γ p xs} (st : StOk K S B O H0 H1 σ Γ) (n : H1 p = none) (e : Ext K S H1 H) (hp : H p = some (.lst xs)) : StOk K S B (O ++ [p]) H0 H σ Γ where
  len := st.len
  ent := fun i g hg => by
    obtain ⟨x, hx, o⟩ := st.ent i g hg
    refine ⟨x, hx, ?_⟩
    have hm : S.a ∈ B ++ (O ++ [p]) := List.mem_append_left _ st.mem
    have hn : ∀ a ∈ B ++ (O ++ [p]), a ∉ B ++ O → H1 a = none := fun a ha na => by
      rw [← List.append_assoc] at ha
      rcases List.mem_append.mp ha with q | q
      · exact absurd q na
      · have : a = p := by simpa using q
        rw [this]; exact n
    cases g with
    | no => trivial
    | is d =>
      obtain ⟨v, e1, r⟩ := o
      exact ⟨v, e1, (r.more hn fun _ => hm).ext e st.live hm⟩
    | own k ds =>
      obtain ⟨m, vs, e1, e2, e3, r⟩ := o
      refine ⟨m, vs, e1, ?_, e.keep _ _ (st.ne2 e2) e3, (r.more hn fun _ => hm).ext e st.live hm⟩
      rw [List.getElem?_append_left (List.getElem?_eq_some_iff.mp e2).1]
      exact e2
  ext := st.ext.trans e
  live0 := st.live0
  mem := st.mem
  bl := st.bl
  nd := List.nodup_append.mpr ⟨st.nd, by simp, fun a ha b hb e => st.free n (List.mem_append_right _ (by
    have : b = p := by simpa using hb
    rw [← this, ← e]; exact ha))⟩
  out := fun m hm => (List.mem_append.mp hm).elim (st.out m) fun q => by
    have : m = p := by simpa using q
    rw [this]
    exact fun z => st.free n (List.mem_append_left _ z)
  new := fun m hm => (List.mem_append.mp hm).elim (st.new m) fun q => by
    have : m = p := by simpa using q
    rw [this]
    cases e0 : H0 p with
    | none => rfl
    | some o =>
      exfalso
      by_cases hp : p = S.a
      · obtain ⟨⟨o', e'⟩, _⟩ := st.live
        rw [← hp, n] at e'; cases e'
      · have := st.ext.keep p o hp e0
        rw [n] at this; cases this
  liv := fun m hm => (List.mem_append.mp hm).elim (fun q => let ⟨ys, h⟩ := st.liv m q; ⟨ys, e.keep _ _ (st.ne q) h⟩) fun q => by
    have : m = p := by simpa using q
    rw [this]; exact ⟨xs, hp⟩
/-- a place that may change changes -/
theorem RepAll.mutp {K S M H p o} (hm : p ∈ M) (h1 : S.a ≠ p) (h2 : S.l ≠ p) {vs ds} (r : RepAll K S M H vs ds) : RepAll K S M (upd H p o) vs ds := by
  have hr : ∀ a u, a ∉ M → Rd H a u → Rd (upd H p o) a u := fun a u n h => by
    have ne : a ≠ p := fun e => n (e ▸ hm)
    rcases h with h | ⟨z, h⟩
    · exact .inl (by rw [upd_ne ne]; exact h)
    · exact .inr ⟨z, by rw [upd_ne ne]; exact h⟩
  exact r.imp (fun a _ z => z.imp (fun z => ⟨z.1, hr _ _ z.1 z.2⟩) id) (fun a _ z => z.imp (fun z => ⟨z.1, hr _ _ z.1 z.2⟩) id) (fun ⟨i, c, s, t, ns, g1, g2, g3⟩ m => ⟨⟨i, c, s, t, ns, by rw [upd_ne h1]; exact g1, by rw [upd_ne h2]; exact g2, g3⟩, m⟩) fun a o n z => ⟨n, by have ne : a ≠ p := fun e => n (e ▸ hm); rw [upd_ne ne]; exact z⟩
theorem lc_read {elt iter : Expr} {ifs : List Expr} {scope : Scope} {own : List (Str × Nat)} {gt : TG} {Gd : GD} {js : List Nat} {P : D → Prop} (hc : X.calm = true) (hG : TgOk X.K gt Gd js) (hj : ∀ j ∈ js, j ∈ own.map (·.2)) (hl : ifs.length ≤ 1) (Γw : List E) (hw : wipeE Γ (own.map (·.2)) = Γw)
    (h : WX X tg iter Γ fun ds => ds.length ≤ 1000000 ∧ ∃ Acc : Nat → List D → Prop, Acc 0 [] ∧ (∀ i d es, ds[i]? = some d → Acc i es → Gd d Γw fun Γ' => TsB X scope ifs Γ' fun b =>
      if b then EB X scope elt Γ' fun y => Acc (i + 1) (es ++ [y]) else Acc (i + 1) es) ∧ ∀ es, Acc ds.length es → P (.lst es)) :
    ∀ S B O H0 H σ, StOk X.K S B O H0 H σ Γ → ∀ Q, KE X.K S (B ++ O) H P Q → tLc (semI X tg iter) gt (semTs X scope ifs) (semB X scope elt) (own.map (·.2)) σ H Q :=
  fun S B O H0 H σ st Q k => h S B O H0 H σ st _ fun J H1 ds e1 w p Dl nD => by
    subst hw
    obtain ⟨hsz, Acc, h0, ht, hd⟩ := p
    have st1 := st.to e1
    have hDB : Dl ∉ B ++ O := st1.free nD
    have hm : S.a ∈ B ++ (O ++ [Dl]) := List.mem_append_left _ st.mem
    have hDM : Dl ∈ B ++ (O ++ [Dl]) := by simp
    have hSa : S.a ≠ Dl := fun e => hDB (e ▸ st.m)
    have hSl : S.l ≠ Dl := by
      obtain ⟨_, ⟨o, e⟩, _⟩ := st1.live
      exact ne_of_none e nD
    let W := fun (i m : Nat) (H' : Hp) => m = ds.length - i ∧ i ≤ ds.length ∧ ∃ acc es, Ext X.K S H1 H' ∧ H' Dl = some (.lst acc) ∧ RepAll X.K S (B ++ (O ++ [Dl])) H' acc es ∧ es.length ≤ i ∧ Acc i es
    refine ⟨W, ⟨ds.length, rfl, Nat.zero_le _, [], [], .mut .refl st1.live nD, upd_same, .nil, Nat.le_refl _, h0⟩, ?_⟩
    rintro i m H2 ⟨rfl, hi, acc, es, e2, hD, ra, hle, ac⟩
    have st2 : StOk X.K S B (O ++ [Dl]) H0 H2 σ Γ := st1.with nD e2 hD
    have kp : Keeps (B ++ O) H1 H2 := fun b o n hb => e2.keep b o (fun q => n (q ▸ st.m)) hb
    by_cases hlt : i < ds.length
    · refine .inr ⟨w.go i H2 kp hlt, fun H' => ∃ m', m' < ds.length - i ∧ W (i + 1) m' H', fun H' z => z, fun x H3 y => ?_⟩
      obtain ⟨d, hd', y⟩ := w.yld i H2 x H3 kp hlt y
      have hn : ∀ a ∈ B ++ (O ++ [Dl]), a ∉ B ++ O → H1 a = none := fun a ha na => by
        rw [← List.append_assoc] at ha
        rcases List.mem_append.mp ha with q | q
        · exact absurd q na
        · have : a = Dl := by simpa using q
          rw [this]; exact nD
      have go : ∀ H3, Ext X.K S H2 H3 → Rep X.K S (B ++ (O ++ [Dl])) H3 x d → gt x (L2.wipe σ (own.map (·.2))) H3 fun σ2 H2 => L2.wipe σ2 (own.map (·.2)) = L2.wipe σ (own.map (·.2)) ∧ semTs X scope ifs σ2 H2 fun b H3 =>
          if b = true then semB X scope elt σ2 H3 fun y H4 => ∃ acc, H4 Dl = some (.lst acc) ∧ acc.length < sizeLine ∧ ∃ m', m' < ds.length - i ∧ W (i + 1) m' (upd H4 Dl (.lst (acc ++ [y]))) else ∃ m', m' < ds.length - i ∧ W (i + 1) m' H3 := fun H3 e3 r3 => by
        have st3 := (st2.to e3).wipe (own.map (·.2))
        refine hG.ok S B (O ++ [Dl]) H0 H3 _ _ x d _ _ st3 r3 (ht i d es hd' ac) fun σ4 Γ4 st4 p4 w4 => ⟨?_, ?_⟩
        · rw [w4 _ hj]
          have : ∀ (vs us : List Nat) (σ : L2.St), (∀ j ∈ us, j ∈ vs) → L2.wipe (L2.wipe σ us) vs = L2.wipe σ vs := by
            intro vs us
            induction us with
            | nil => intro σ _; rfl
            | cons u us ih =>
              intro σ hu
              show L2.wipe ((L2.wipe σ us).set u none) vs = _
              rw [wipe_set (hu u (List.mem_cons_self ..)), ih σ fun j hj => hu j (List.mem_cons_of_mem _ hj)]
          exact this _ _ _ fun _ h => h
        · have fin : ∀ H5, Ext X.K S H3 H5 → Acc (i + 1) es → ∃ m', m' < ds.length - i ∧ W (i + 1) m' H5 := fun H5 e5 a5 =>
            ⟨ds.length - (i + 1), by omega, rfl, hlt, acc, es, e2.trans (e3.trans e5), (e3.trans e5).keep _ _ (Ne.symm hSa) hD, ra.ext (e3.trans e5) st2.live hm, by omega, a5⟩
          have big : ∀ H5, Ext X.K S H3 H5 → EB X scope elt Γ4 (fun y => Acc (i + 1) (es ++ [y])) → semB X scope elt σ4 H5 fun y H4 => ∃ acc, H4 Dl = some (.lst acc) ∧ acc.length < sizeLine ∧ ∃ m', m' < ds.length - i ∧ W (i + 1) m' (upd H4 Dl (.lst (acc ++ [y]))) := fun H5 e5 pb s0 Hb C cl fp => by
            refine pb s0 Hb C cl fp S B (O ++ [Dl]) H0 H5 σ4 (st4.to e5) _ fun v y H6 e6 r6 p6 => ?_
            have e36 := e3.trans (e5.trans e6)
            have l6 : Live S H6 := e36.live st2.live
            refine ⟨acc, e36.keep _ _ (Ne.symm hSa) hD, ?_, ds.length - (i + 1), by omega, rfl, hlt, acc ++ [v], es ++ [y], (e2.trans e36).mut st1.live nD, upd_same, ?_, by simp; omega, p6⟩
            · rw [ra.length]
              exact Nat.lt_of_lt_of_le (show es.length < 2000000 by omega) (by decide)
            · exact RepAll.mutp hDM hSa hSl ((ra.ext e36 st2.live hm).append (.cons r6 .nil))
          match ifs, hl, p4 with
          | [], _, p4 =>
            have p4' : EB X scope elt Γ4 fun y => Acc (i + 1) (es ++ [y]) := by simpa [TsB] using p4
            have q := big H3 .refl p4'
            simp only [semTs, tYes, if_true]
            exact q
          | [c], _, p4 =>
            intro s0 Hb C cl fp
            refine (show TB X scope c Γ4 _ from p4) s0 Hb C cl fp S B (O ++ [Dl]) H0 H3 σ4 st4 _ fun b H5 e5 p5 => ?_
            cases b with
            | true => exact iteT (big H5 e5 (by simpa using p5))
            | false => exact iteF (fin H5 e5 (by simpa using p5))
          | _ :: _ :: _, hl, _ => simp at hl
      rcases y with ⟨rfl, r⟩ | ⟨p, vs, es', rfl, rfl, np, rfl, r⟩
      · exact go _ .refl ((r.more hn fun _ => hm).ext e2 st1.live hm)
      · exact go _ (.new np) (rep_tup st2 ((r.more hn fun _ => hm).ext e2 st1.live hm) np)
    · have e : i = ds.length := by omega
      subst e
      refine .inl ⟨w.stop H2 kp, k _ _ H2 (e1.trans e2) (.lst (.inl ⟨hDB, .inl hD⟩) (ra.less (fun a ha => ?_) st.m)) (hd es ac)⟩
      rcases List.mem_append.mp ha with q | q
      · exact List.mem_append_left _ q
      · exact List.mem_append_right _ (List.mem_append_left _ q)

theorem ex_lc {elt iter : Expr} {ifs : List Expr} {scope : Scope} {own : List (Str × Nat)} {gt : TG} {Gd : GD} {js : List Nat} {P : D → Prop} (hc : X.calm = true) (hnd : X.N.Nodup) (ok : BlkOk X.N X.env.scope scope own)
    (hg : ∀ (s : Shared) (H : Hp) (C : Addr) (cl : List (Str × Addr)) (fp : List Addr), PG (X.blk s H scope (compEnvC scope cl C X.env) fp) tg gt) (hG : TgOk X.K gt Gd js) (hj : ∀ j ∈ js, j ∈ own.map (·.2)) (hl : ifs.length ≤ 1) (Γw : List E) (hw : wipeE Γ (own.map (·.2)) = Γw)
    (h : WX X tg iter Γ fun ds => ds.length ≤ 1000000 ∧ ∃ Acc : Nat → List D → Prop, Acc 0 [] ∧ (∀ i d es, ds[i]? = some d → Acc i es → Gd d Γw fun Γ' => TsB X scope ifs Γ' fun b =>
      if b then EB X scope elt Γ' fun y => Acc (i + 1) (es ++ [y]) else Acc (i + 1) es) ∧ ∀ es, Acc ds.length es → P (.lst es))
    (hs : ∀ x, foldedSetIterable iter X.env x = pure x := by intro _; rfl) : EX X (.ListComp elt [⟨tg, iter, ifs, 0⟩] scope pos) Γ P :=
  ex_of (pe_lc hc hnd pi_sem ok hg (pts_sem hl) pe_semB hs) (lc_read hc hG hj hl Γw hw h)
theorem s_setLc (i : Nat) {N : List Str} {y : Str} {py spos : Pos} {elt iter : Expr} {ifs : List Expr} {scope : Scope} {own : List (Str × Nat)} {gt : TG} {Gd : GD} {js : List Nat} (hX : X.N = N) (hc : X.calm = true) (hnd : X.N.Nodup) (ok : BlkOk X.N X.env.scope scope own)
    (hg : ∀ (s : Shared) (H : Hp) (C : Addr) (cl : List (Str × Addr)) (fp : List Addr), PG (X.blk s H scope (compEnvC scope cl C X.env) fp) tg gt) (hG : TgOk X.K gt Gd js) (hj : ∀ j ∈ js, j ∈ own.map (·.2)) (hl : ifs.length ≤ 1) (Γw : List E) (hw : wipeE Γ (own.map (·.2)) = Γw)
    (h : WX X tg iter Γ fun ds => ds.length ≤ 1000000 ∧ ∃ Acc : Nat → List D → Prop, Acc 0 [] ∧ (∀ i d es, ds[i]? = some d → Acc i es → Gd d Γw fun Γ' => TsB X scope ifs Γ' fun b =>
      if b then EB X scope elt Γ' fun y => Acc (i + 1) (es ++ [y]) else Acc (i + 1) es) ∧ ∀ es, Acc ds.length es → po.nx (put Γ i (.is (.lst es))))
    (hN : nth N i = some y) (hyl : X.env.scope.names.lookup y = some .local) (hsw : swapsWith (.ListComp elt [⟨tg, iter, ifs, 0⟩] scope pos) (some (.Name y py)) spos.line X.env = pure true)
    (hs : ∀ x, foldedSetIterable iter X.env x = pure x := by intro _; rfl) : S1 X (.Assign [.Name y py] (.ListComp elt [⟨tg, iter, ifs, 0⟩] scope pos) spos) Γ po := by
  rw [nth_eq] at hN
  exact fun S B O H0 H σ st Dn kk => semS_of (ps_setLc (i := i) hc hnd (by rw [hX]; exact hN) hyl hsw pi_sem ok hg (pts_sem hl) pe_semB hs)
    (lc_read (P := fun d => po.nx (put Γ i (.is d))) hc hG hj hl Γw hw h S B O H0 H σ st _ fun v d H1 e1 r1 p1 => kk.nx O H1 _ _ (by rw [put_eq]; exact (st.to e1).set i r1) (st.adv e1) p1)
end
end G
set_option Elab.async false
set_option linter.all false
set_option maxRecDepth 100000
set_option maxHeartbeats 1000000
namespace G
open PySem PySem.Spec PyProof.Rows L2
section
variable {P : D → Prop}
theorem o_add {i j : Int} (h : P (.int (i + j))) : wAdd (.int i) (.int j) P := h
theorem o_adds {i j : Str} (h0 : i.length + j.length ≤ sizeLine) (h : P (.str (i ++ j))) : wAdd (.str i) (.str j) P := ⟨h0, h⟩
theorem o_addt {i j : List D} (h0 : i.length + j.length ≤ sizeLine) (h : P (.tup (i ++ j))) : wAdd (.tup i) (.tup j) P := ⟨h0, h⟩
theorem o_sub {i j : Int} (h : P (.int (i - j))) : wSub (.int i) (.int j) P := ⟨trivial, h⟩
theorem o_mul {i j : Int} (h0 : CBig i j) (h : P (.int (i * j))) : wMul (.int i) (.int j) P := ⟨h0, h⟩
theorem o_mod {i j : Int} (h0 : j ≠ 0) (h : P (.int (i.fmod j))) : wMod (.int i) (.int j) P := ⟨h0, h⟩
theorem o_fdiv {i j : Int} (h0 : CDv i j) (h : P (.int (i.fdiv j))) : wFdiv (.int i) (.int j) P := ⟨h0, h⟩
theorem o_pow {i j : Int} (h0 : CPow i j) (h : P (.int (i ^ j.toNat))) : wPow (.int i) (.int j) P := ⟨h0, h⟩
theorem o_lt {i j : Int} (h : P (.bl (decide (i < j)))) : wLt (.int i) (.int j) P := ⟨trivial, h⟩
theorem o_le {i j : Int} (h : P (.bl (decide (i ≤ j)))) : wLe (.int i) (.int j) P := ⟨trivial, h⟩
theorem o_gt {i j : Int} (h : P (.bl (decide (j < i)))) : wGt (.int i) (.int j) P := ⟨trivial, h⟩
theorem o_ge {i j : Int} (h : P (.bl (decide (j ≤ i)))) : wGe (.int i) (.int j) P := ⟨trivial, h⟩
theorem o_eq {a b : D} {k : Bool} (e : sEq a b = some k) (h : P (.bl k)) : wEq a b P := by
  unfold wEq
  rw [e]
  exact h
theorem o_ne {a b : D} {k : Bool} (e : sEq a b = some k) (h : P (.bl (!k))) : wNe a b P := by
  unfold wNe
  rw [e]
  exact h
theorem o_is {a : D} (h : P (.bl (isNon a))) : wIs a .non P := h
theorem o_isnot {a : D} (h : P (.bl (!isNon a))) : wIsNot a .non P := h
theorem o_ixl {l : List D} {k : Int} {d : D} (e : atI l k = some d) (h : P d) : wIx (.lst l) (.int k) P := ⟨d, e, h⟩
theorem o_ixt {l : List D} {k : Int} {d : D} (e : atI l k = some d) (h : P d) : wIx (.tup l) (.int k) P := ⟨d, e, h⟩
theorem o_lenl {l : List D} (h : P (.int l.length)) : wLen [.lst l] P := h
theorem o_lent {l : List D} (h : P (.int l.length)) : wLen [.tup l] P := h
theorem o_lens {z : Str} (h0 : z.length ≤ sizeLine) (h : P (.int z.length)) : wLen [.str z] P := ⟨h0, h⟩
theorem o_abs {i : Int} (h : P (.int (if i < 0 then -i else i))) : wAbs [.int i] P := h
theorem o_int {i : Int} (h : P (.int i)) : wInt [.int i] P := h
theorem o_str {i : Int} (h0 : i.natAbs.log2 < 1920) (h : P (.str (toString i))) : wStr [.int i] P := ⟨h0, h⟩
theorem o_listl {l : List D} (h : P (.lst l)) : wList [.lst l] P := h
theorem o_listt {l : List D} (h : P (.lst l)) : wList [.tup l] P := h
theorem o_tupl {l : List D} (h : P (.tup l)) : wTuple [.lst l] P := h
theorem o_tupt {l : List D} (h : P (.tup l)) : wTuple [.tup l] P := h
theorem o_all {bs : List Bool} (h : P (.bl (bs.all id))) : wAll [.lst (bs.map D.bl)] P := ⟨bs, rfl, h⟩
theorem o_gcd {i j : Int} (h : P (.int ((Nat.gcd i.natAbs j.natAbs : Nat) : Int))) : wGcd [.int i, .int j] P := h
theorem o_isi {d : D} {n t : String} {b : Bool} (e1 : tyD d = some t) (e2 : kitB t n = some b) (h : P (.bl b)) : wIsi [d, .ty n] P := ⟨t, b, e1, e2, h⟩
theorem o_isi2 {d : D} {n1 n2 t : String} {b1 b2 : Bool} (e1 : tyD d = some t) (e2 : kitB t n1 = some b1) (e3 : kitB t n2 = some b2) (h : P (.bl (b1 || b2))) :
    ∃ n1' n2' t k1 k2, D.ty n1 = .ty n1' ∧ D.ty n2 = .ty n2' ∧ tyD d = some t ∧ kitB t n1' = some k1 ∧ kitB t n2' = some k2 ∧ P (.bl (k1 || k2)) := ⟨n1, n2, t, b1, b2, rfl, rfl, e1, e2, e3, h⟩
theorem o_asB {P : Bool → Prop} {b : Bool} (h : P b) : asB P (.bl b) := h
theorem o_asI {P : Int → Prop} {b : Int} (h : P b) : asI P (.int b) := h
theorem o_asL {P : List D → Prop} {b : List D} (h : P b) : asL P (.lst b) := h
theorem o_asT {P : List D → Prop} {b : List D} (h : P b) : asT P (.tup b) := h
theorem o_truB {P : Bool → Prop} {b : Bool} (h : P b) : asTru P (.bl b) := h
theorem o_truN {P : Bool → Prop} (h : P false) : asTru P .non := h
theorem o_truL {P : Bool → Prop} {l : List D} (h : P (!l.isEmpty)) : asTru P (.lst l) := h
theorem o_truT {P : Bool → Prop} {l : List D} (h : P (!l.isEmpty)) : asTru P (.tup l) := h
theorem if_t {p q : Prop} (h : p) : if true = true then p else q := iteT h
theorem if_f {p q : Prop} (h : q) : if false = true then p else q := iteF h
theorem if_d {p q : Prop} {b : Bool} (h1 : b = true → p) (h2 : b = false → q) : if b = true then p else q := by
  cases b with
  | true => exact iteT (h1 rfl)
  | false => exact iteF (h2 rfl)
theorem if_nf {p q : Prop} (h : p) : if (!false) = true then p else q := iteT h
theorem if_nt {p q : Prop} (h : q) : if (!true) = true then p else q := iteF h
theorem if_ev_t {p q : Prop} {b : Bool} (e : b = true) (h : p) : if b = true then p else q := by
  rw [e]
  exact iteT h
theorem if_ev_f {p q : Prop} {b : Bool} (e : b = false) (h : q) : if b = true then p else q := by
  rw [e]
  exact iteF h
/-- the arms of a test of truth, by the proposition -/
theorem if_dec {p q c : Prop} [Decidable c] (h1 : c → p) (h2 : ¬ c → q) : if decide c = true then p else q := by
  by_cases h : c
  · rw [decide_eq_true h]; exact iteT (h1 h)
  · rw [decide_eq_false h]; exact iteF (h2 h)
theorem if_ndec {p q c : Prop} [Decidable c] (h1 : ¬ c → p) (h2 : c → q) : if (!decide c) = true then p else q := by
  by_cases h : c
  · rw [decide_eq_true h]; exact iteF (h2 h)
  · rw [decide_eq_false h]; exact iteT (h1 h)
end
section
variable {X : Cx} {x : Str} {W : WA}
theorem CallOk.blk (h : CallOk X x W) {s H sc env fp} : CallOk (X.blk s H sc env fp) x W := ⟨h.ex⟩
theorem CallOkK.blk {np ks} {W : List D → WA} (h : CallOkK X x np ks W) {s H sc env fp} : CallOkK (X.blk s H sc env fp) x np ks W := ⟨h.ex⟩
theorem ConstOk.blk {d} (h : ConstOk X x d) {s H sc env fp} : ConstOk (X.blk s H sc env fp) x d := ⟨h.ex⟩
end
theorem bt_isi : bootBuiltins "isinstance" = some (.builtin "isinstance") := by decide +kernel
theorem bt_len : bootBuiltins "len" = some (.builtin "len") := by decide +kernel
theorem bt_all : bootBuiltins "all" = some (.builtin "all") := by decide +kernel
theorem bt_abs : bootBuiltins "abs" = some (.builtin "abs") := by decide +kernel
theorem bt_int : bootBuiltins "int" = some (.type "int") := by decide +kernel
theorem bt_str : bootBuiltins "str" = some (.type "str") := by decide +kernel
theorem bt_bool : bootBuiltins "bool" = some (.type "bool") := by decide +kernel
theorem bt_list : bootBuiltins "list" = some (.type "list") := by decide +kernel
theorem bt_tuple : bootBuiltins "tuple" = some (.type "tuple") := by decide +kernel
theorem kb0 : kitB "NoneType" "int" = some false := by decide +kernel
theorem kb1 : kitB "NoneType" "bool" = some false := by decide +kernel
theorem kb2 : kitB "NoneType" "str" = some false := by decide +kernel
theorem kb3 : kitB "NoneType" "list" = some false := by decide +kernel
theorem kb4 : kitB "NoneType" "tuple" = some false := by decide +kernel
theorem kb5 : kitB "bool" "int" = some true := by decide +kernel
theorem kb6 : kitB "bool" "bool" = some true := by decide +kernel
theorem kb7 : kitB "bool" "str" = some false := by decide +kernel
theorem kb8 : kitB "bool" "list" = some false := by decide +kernel
theorem kb9 : kitB "bool" "tuple" = some false := by decide +kernel
theorem kb10 : kitB "int" "int" = some true := by decide +kernel
theorem kb11 : kitB "int" "bool" = some false := by decide +kernel
theorem kb12 : kitB "int" "str" = some false := by decide +kernel
theorem kb13 : kitB "int" "list" = some false := by decide +kernel
theorem kb14 : kitB "int" "tuple" = some false := by decide +kernel
theorem kb15 : kitB "str" "int" = some false := by decide +kernel
theorem kb16 : kitB "str" "bool" = some false := by decide +kernel
theorem kb17 : kitB "str" "str" = some true := by decide +kernel
theorem kb18 : kitB "str" "list" = some false := by decide +kernel
theorem kb19 : kitB "str" "tuple" = some false := by decide +kernel
theorem kb20 : kitB "tuple" "int" = some false := by decide +kernel
theorem kb21 : kitB "tuple" "bool" = some false := by decide +kernel
theorem kb22 : kitB "tuple" "str" = some false := by decide +kernel
theorem kb23 : kitB "tuple" "list" = some false := by decide +kernel
theorem kb24 : kitB "tuple" "tuple" = some true := by decide +kernel
theorem kb25 : kitB "list" "int" = some false := by decide +kernel
theorem kb26 : kitB "list" "bool" = some false := by decide +kernel
theorem kb27 : kitB "list" "str" = some false := by decide +kernel
theorem kb28 : kitB "list" "list" = some true := by decide +kernel
theorem kb29 : kitB "list" "tuple" = some false := by decide +kernel
end G
set_option Elab.async false
set_option linter.all false
set_option maxRecDepth 100000
set_option maxHeartbeats 4000000
namespace G
open PySem PySem.Spec PyProof.Rows L2
/-! ### own exception classes, their instances as data -/
/-- what is asked of an own exception class -/
structure ExK (K : PySem.W.Frag) (C : Addr) : Prop where
  base : ∃ B newId initId bmB, ExcBaseFacts B newId initId bmB ∧ StoreFacts B bmB "object.__setattr__" "object" ∧ PySem.W.excInitIn K C bmB newId = true ∧ PySem.W.excOver K C bmB = true
  sa : PySem.W.findIn K (.ref C) "__setattr__" = some (some (.builtin "object.__setattr__"))
  kC : PySem.W.keepIn K (.ref C) = true
  c : ExcC K C
theorem ExK.hasDict {K C} (T : ExK K C) : PySem.W.hasDictIn K C = true := T.c.hd
theorem taker_of {K : PySem.W.Frag} {C : Addr} {f : Str} (h : PySem.W.findIn K (.ref C) f = some none) : PySem.W.takerIn K C f = some none := by
  unfold PySem.W.takerIn
  rw [h]
  rfl
section
variable {X : Cx} {pins : List (Addr × Obj)} {σ : L2.St} {H : Hp} {s : Shared} {a C dx : Addr} {f : Str} {y : V} {u : Value} {fs : List (Str × V)} {Q : Unit → Shared → Prop} {E : Value → Shared → Prop} {A : Around}
theorem inv_first {hp h' : Heap} {g : Array GenState} {d : Drawn} {t t' : Nat} {os : OsState} {m1 : Str → Option Value} (I : Inv X pins σ H ⟨hp, g, d, t, os⟩) (e : H a = some (exo a C none)) (k : ∀ b o, b ≠ a → hp.get? b = some o → h'.get? b = some o)
    (big : hp.objs.size ≤ dx) (dne : dx ≠ a) {t1 : Addr} (hx : h'.get? a = some ({ cls := .ref C, dict := some dx, data := .fields #[.ref t1, .none, .none, .none, .bool false, .none] } : Obj)) (hn : h'.Ns1 dx m1) (rel : ∀ z, RelO (List.lookup z fs) (m1 z)) :
    Inv X pins σ (upd (upd H dx (exd dx fs)) a (exo a C (some dx))) ⟨h', g, d, t', os⟩ := by
  have free : H dx = none := I.hok.fresh big
  have old : ∀ {b : Addr} {o : Obj}, hp.get? b = some o → b ≠ dx := fun {b o} q => Nat.ne_of_lt (Nat.lt_of_lt_of_le (Heap.lt_size q) big)
  have nota : ∀ {b : Addr}, H b = none → b ≠ a := fun {b} n z => by rw [z, e] at n; cases n
  have two : ∀ {b : Addr} {o : HO}, H b = some o → exo a C none ≠ o → upd (upd H dx (exd dx fs)) a (exo a C (some dx)) b = some o := fun {b o} q z => by
    rw [upd_ne (at_ne e q z), upd_ne (ne_of_none q free)]; exact q
  have step : Un X.fs [] H (upd (upd H dx (exd dx fs)) a (exo a C (some dx))) hp h' := {
    keep := fun b o q n _ _ => k b o (nota n) q
    slot := fun b o q n _ _ => ⟨o.slots, k b o (nota n) q⟩
    free := fun b o q n _ => by rw [upd_ne (nota n), upd_ne (old q)]; exact n
    there := fun b o q _ => if hb : b = a then hb ▸ ⟨_, hx⟩ else ⟨o, k b o hb q⟩
    tups := fun b xs q => two q exo_tup
    frzs := fun b o v q => two q exo_frz
    tbls := fun b ps q => ⟨#[], by rw [two q exo_tbl]; simp⟩ }
  refine I.un (t' := t') step fun b o q => ?_
  by_cases hb : b = a
  · rw [hb, upd_same] at q
    cases q
    rw [hb]
    exact exo_ok hx
  · rw [upd_ne hb] at q
    by_cases hd : b = dx
    · rw [hd, upd_same] at q
      cases q
      rw [hd]
      exact exd_ok hn rel
    · rw [upd_ne hd] at q
      refine (I.hok b o q).stay (fun c v hc z => k c v ?_ z) (fun c hc => two hc exo_own) fun c xs hc => two hc exo_tup
      exact hc.elim (fun hc => hc ▸ hb) fun hc => at_ne e hc exo_own
/-- the first field of an instance -/
theorem set_first (T : ExK X.K C) (I : Inv X pins σ H s) (e : H a = some (exo a C none)) (hno : PySem.W.findIn X.K (.ref C) f = some none) (ry : RelV y u)
    (h : ∀ dx s', H dx = none → dx ≠ a → Inv X pins σ (upd (upd H dx (exd dx [(f, y)])) a (exo a C (some dx))) s' → Q () s') : wpAny (model X.prog X.w) A (setAttr (.ref a) f u) Q E s := by
  obtain ⟨B, newId, initId, bmB, F, SF, q1, q2⟩ := T.base
  obtain ⟨t1, ho⟩ := exo_at I.hok e
  obtain ⟨cd, hc, hd'⟩ := PySem.W.any_some T.hasDict
  obtain ⟨hp, g, d, t, os⟩ := s
  have LC := PySem.W.looks_clsIn (M := model X.prog X.w) I.kIn hc
  refine PySem.W.set_plain I.kIn (ox := { cls := .ref C, dict := none, data := .fields #[.ref t1, .none, .none, .none, .bool false, .none] }) (od := none) ⟨ho, rfl, rfl, trivial⟩ T.sa ?_
  refine PySem.W.osa_openX (od := none) SF (show X.K.In _ from I.kIn) ⟨ho, rfl, rfl, trivial⟩ q2 (taker_of hno) fun b => ?_
  refine wpAny_bind (wpAny_pure (wpAny_bind (PySem.W.instanceDict_exc (t := t1) ho LC hd' ?_)))
  have ne : a ≠ hp.objs.size := Nat.ne_of_lt (Heap.lt_size ho)
  refine PySem.HandSPX.store_in_new ⟨_, #[], _, (Heap.get?_update_ne _ _ _ _ ne.symm).trans (Heap.get?_push_at rfl rfl), rfl, fun e he => absurd he (by simp), fun _ => rfl⟩ fun h' tk' hn' hs => ?_
  have hx : (hp.push { cls := .type "dict", data := .dict #[] }).get? a = _ := Heap.get?_push_of_some _ ho
  have hx' : h'.get? a = some ({ cls := .ref C, dict := some hp.objs.size, data := .fields #[.ref t1, .none, .none, .none, .bool false, .none] } : Obj) := (hs.2 a ne).trans (Heap.get?_update_self _ hx rfl)
  have k : ∀ b o, b ≠ a → hp.get? b = some o → h'.get? b = some o := fun b o hb hq => (hs.2 b (Nat.ne_of_lt (Heap.lt_size hq))).trans ((Heap.get?_update_ne _ _ _ _ hb).trans (Heap.get?_push_of_some _ hq))
  exact h hp.objs.size _ (I.hok.fresh (Nat.le_refl _)) ne.symm (inv_first (t' := tk') I e k (Nat.le_refl _) ne.symm hx' hn' (relO_put (fs := []) ry fun _ => True.intro))
/-- a further field -/
theorem set_more (T : ExK X.K C) (I : Inv X pins σ H s) (e : H a = some (exo a C (some dx))) (ed : H dx = some (exd dx fs)) (hl : fs.length ≤ 900) (hno : PySem.W.findIn X.K (.ref C) f = some none) (ry : RelV y u)
    (h : ∀ s', Inv X pins σ (upd H dx (exd dx ((f, y) :: fs))) s' → Q () s') : wpAny (model X.prog X.w) A (setAttr (.ref a) f u) Q E s := by
  obtain ⟨B, newId, initId, bmB, F, SF, q1, q2⟩ := T.base
  obtain ⟨t1, ho⟩ := exo_at I.hok e
  obtain ⟨mA, hns, rel⟩ := exd_at I.hok ed
  obtain ⟨cd, hc, hd'⟩ := PySem.W.any_some T.hasDict
  have hw := within_of rel
  obtain ⟨hp, g, d, t, os⟩ := s
  obtain ⟨oD, _, _, hoD, _, _⟩ := hns.count hw
  have LC := PySem.W.looks_clsIn (M := model X.prog X.w) I.kIn hc
  refine PySem.W.set_plain I.kIn (ox := { cls := .ref C, dict := some dx, data := .fields #[.ref t1, .none, .none, .none, .bool false, .none] }) (od := some oD) ⟨ho, rfl, rfl, hoD⟩ T.sa ?_
  refine PySem.W.osa_openX (od := some oD) SF (show X.K.In _ from I.kIn) ⟨ho, rfl, rfl, hoD⟩ q2 (taker_of hno) fun b => ?_
  refine wpAny_bind (wpAny_pure (wpAny_bind (wpAny_bind (wpAny_loadPart ho (wpAny_bind (LC.at ?_))))))
  rw [hd']
  refine wpAny_pure (a := some dx) ?_
  refine PySem.OEX.store_in_old hns hw (by rw [List.length_map]; omega) fun h' tk' hn hs => ?_
  have there : ∃ o, h'.get? dx = some o := by
    obtain ⟨o, _, _, e', _⟩ := hn
    exact ⟨o, e'⟩
  exact h _ (I.write (t' := tk') (x := dx) (e := dx) (o := exd dx ((f, y) :: fs)) (by rw [ed]; exact True.intro) (.inl rfl) (fun b o hb hq => (hs.2 b hb).trans hq) there (exd_ok hn (relO_put ry rel)))
end
end G
set_option Elab.async false
set_option linter.all false
set_option maxRecDepth 100000
set_option maxHeartbeats 4000000
namespace G
open PySem PySem.Spec PyProof.Rows L2
/-! ### isinstance of an instance with its dict -/
section
open PySem.W PySem.Calls
theorem find_class {K : PySem.W.Frag} {C : Addr} (c : ExcC K C) (od : Option Obj) : findObj K C od "__class__" = some (.bind (.builtin "getset_descriptor.__get__") (.builtin "object.__class__")) := by
  obtain ⟨cd, hc, _⟩ := any_some c.hd
  unfold findObj
  rw [hc, Option.bind_some, c.ha, Option.bind_some]; simp [c.hn, c.ht]
theorem read_class {prog : Program} {w : World} {A : Around} {E : Value → Shared → Prop} {s : Shared} {K : PySem.W.Frag} {x C : Addr} {ox : Obj} {od : Option Obj} {Q : Option Value → Shared → Prop} (c : ExcC K C) (X : K.In s.heap) (I : InstAt s.heap x ox C od)
    (h : Q (some (.ref C)) { s with toks := s.toks + 1 }) : wpAny (model prog w) A (getAttr? (.ref x) "__class__") Q E s := by
  obtain ⟨hp, g, d, t, os⟩ := s
  have lt := I.type (M := model prog w); have la := looks_findIn (M := model prog w) X c.hg; have lk := looks_findIn (M := model prog w) X c.hk; have lf := looks_find (M := model prog w) X I (find_class c od)
  have sub : Looks (model prog w) hp (isInstance (.ref x) (.type "BaseException")) true := lt.andThen (looks_subIn X c.hs)
  have n2 : (Value.builtin "BaseException.__getattribute__" == Value.builtin "object.__getattribute__") = false := by decide +kernel
  have n1 : (onTheHeap (Value.ref C) && Value.builtin "BaseException.__getattribute__" == Value.builtin "object.__getattribute__") = false := by rw [n2]; rfl
  have n0 : (false && onTheHeap (Value.builtin "BaseException.__getattribute__")) = false := rfl
  unfold getAttr? getAttrBy? getAttrBy; refine wpAny_bind (wpAny_mkText (wpAny_bind (wpAny_attempt (wpAny_holding (wpAny_bind (lt.at (wpAny_bind (la.at ?_))))))))
  show wpAny _ _ (if (onTheHeap (Value.ref C) && Value.builtin "BaseException.__getattribute__" == Value.builtin "object.__getattribute__") = true then _ else _) _ _ _; rw [n1, if_neg Bool.false_ne_true]
  unfold getAttrByItsOwn hookBefore; refine wpAny_bind ?_; rw [if_pos (show onTheHeap (Value.ref C) = true from rfl)]; refine lk.at (wpAny_bind (wpAny_attempt (wpAny_holding ?_)))
  unfold callGetattribute; rw [n0, if_neg Bool.false_ne_true]; unfold boundAndCalled; rw [PySem.F.excAttr_ValueError.ga.bind (.ref x)]; refine wpAny_bind (wpAny_pure ?_)
  show wpAny _ _ (call (.builtin "BaseException.__getattribute__") [.ref x, .str "__class__" t]) _ _ _; refine wpAny_call (codeAny_call_builtin PySem.F.excAttr_ValueError.ga.plain PySem.F.entry_bexc_ga (@check_slot (model prog w) _ _ ⟨hp, g, d, t + 1, os⟩ "BaseException.__getattribute__" "BaseException" "__getattribute__" (.ref x) [.str "__class__" t] [] _ (by decide +kernel) (by decide +kernel) sub (PySem.F.args_bexc_ga (.ref x) (.str "__class__" t)) ?_))
  unfold Builtin.«object.__getattribute__»; refine wpAny_bind (wpAny_of_eq (a := ((Value.ref x : Value), [Value.str "__class__" t])) (by first | rfl | (simp only [slotArgs]; rfl)) (wpAny_bind (wpAny_pure (wpAny_bind (lt.at (wpAny_bind (lf.at ?_)))))))
  show wpAny _ _ (holding [Value.builtin "object.__class__"] (call (.builtin "getset_descriptor.__get__") [.builtin "object.__class__", .ref x, .ref C]) >>= ret) _ _ _; refine wpAny_bind (wpAny_holding (wpAny_call (class_get (s := ⟨hp, g, d, t + 1, os⟩) (ox := ox) (od := od) X I c.hm (wpAny_pure ?_))))
  show wpAny _ _ (handedOut (.ref C)) _ _ _; rw [handedOut_of (v := .ref C) rfl]
  first
    | exact wpAny_pure (wpAny_pure h)
    | exact wpAny_pure h
    | exact wpAny_pure (wpAny_bind (wpAny_pure (wpAny_pure h)))
theorem kit_inst {K : PySem.W.Frag} {x C : Addr} (c : ExcC K C) : KitX K (.ref x) (.ref C) (fun h => ∃ ox od, InstAt h x ox C od) where
  ty := fun _ _ _ ⟨_, _, I⟩ => I.type
  it := fun _ _ X _ => by
    obtain ⟨cd, hc, _⟩ := any_some c.hd; unfold clsIn at hc
    split at hc
    · rename_i ho
      exact fun A' Q' E' s' k q => by unfold isType loadHead; exact wpAny_bind (wpAny_loadPart (k _ _ (X _ _ ho)) (wpAny_pure q))
    · cases hc
  ne := fun h tp dd its n sl X htp => by
    obtain ⟨cd, hc, _⟩ := any_some c.hd
    refine Bool.eq_false_iff.mpr fun q => ?_
    obtain rfl : C = tp := Value.ref.inj (beq_iff_eq.mp q)
    unfold clsIn at hc
    split at hc
    · rename_i ho
      cases (X _ _ ho).symm.trans htp
    · cases hc
  ca := fun X ⟨_, _, I⟩ k => read_class c X I k
end
section
variable {X : Cx} {Γ : List E} {P : D → Prop} {pos : Pos} {C : Addr}
theorem inst_at {P : Program} {w : World} {H : Hp} {h : Heap} {a dx : Addr} {fs : List (Str × V)} (ok : HOk P w H h) (e : H a = some (exo a C (some dx))) (ed : H dx = some (exd dx fs)) : ∃ (ox od : Obj) (mA : Str → Option Value), PySem.W.InstAt h a ox C (some od) ∧ (∀ n, PySem.W.lookIn n od = some (mA n)) ∧ ∀ n, RelO (fs.lookup n) (mA n) := by
  obtain ⟨t1, ho⟩ := exo_at ok e
  obtain ⟨mA, hns, rel⟩ := exd_at ok ed
  obtain ⟨od, hd, hl⟩ := lookIn_ns hns
  exact ⟨_, od, mA, ⟨ho, rfl, rfl, hd⟩, hl, rel⟩
/-- isinstance(e, c) -/
def rIsX (K : PySem.W.Frag) : List V → Hp → VK → Prop := fun xs H Q => ∃ (a C dx : Addr) (fs : List (Str × V)) (c : V) (cv : Value) (b : Bool), xs = [.ref a, c] ∧ ExcC K C ∧ H a = some (exo a C (some dx)) ∧ H dx = some (exd dx fs) ∧ (∀ u, RelV c u → u = cv) ∧ PySem.W.kitOne K (.ref C) cv = some b ∧ Q (.bl b) H
theorem call_isX : CallR X (.builtin "isinstance") (rIsX X.K) := by
  intro pins s σ H xs us Q I r h
  obtain ⟨a, C, dx, fs, c, cv, b, rfl, T, ha, hd, hcv, e, q⟩ := h
  cases r with
  | cons rx rr =>
    cases rr with
    | cons rt rr =>
      cases rr
      cases rx
      obtain rfl := hcv _ rt
      obtain ⟨ox, od, _, J, _⟩ := inst_at I.hok ha hd
      exact PySem.W.kia_one (kit_inst T) I.kIn ⟨ox, _, J⟩ e (fun z => nomatch z) fun tk => ⟨.bl b, H, I.kept (t' := tk) fun _ _ z => z, rfl, q⟩
def wIsiX (K : PySem.W.Frag) : WA := fun ds P => match ds with
  | [.exc C _ _, .cls c] => ∃ b, ExcC K C ∧ PySem.W.kitOne K (.ref C) (.ref c) = some b ∧ P (.bl b)
  | [.exc C _ _, .ty n] => ∃ b, ExcC K C ∧ PySem.W.kitOne K (.ref C) (.type n) = some b ∧ P (.bl b)
  | _ => False
theorem bi_isiX : BiD X (.builtin "isinstance") (wIsiX X.K) := by
  intro S B O H0 H σ Γ P vs ds st r h
  match ds, r, h with
  | [.exc C ns fs, .cls c], r, h =>
    obtain ⟨v, w, rfl, r1, r2⟩ := r.two
    obtain ⟨b, T, e, p⟩ := h
    cases r2
    cases r1 with
    | exc h1 ha h2 hd rr => exact ⟨_, call_isX, fun Q k => ⟨_, _, _, _, _, _, b, rfl, T, ha, hd, fun u ru => ru, e, k _ _ H .refl (.bl b) p⟩⟩
  | [.exc C ns fs, .ty n], r, h =>
    obtain ⟨v, w, rfl, r1, r2⟩ := r.two
    obtain ⟨b, T, e, p⟩ := h
    cases r2
    cases r1 with
    | exc h1 ha h2 hd rr => exact ⟨_, call_isX, fun Q k => ⟨_, _, _, _, _, _, b, rfl, T, ha, hd, fun u ru => ru, e, k _ _ H .refl (.bl b) p⟩⟩
/-- e.f -/
theorem RepAll.look {K S M H} {n : Str} : ∀ {ns : List Str} {vs : List V} {ds : List D} {d : D}, RepAll K S M H vs ds → (ns.zip ds).lookup n = some d → ∃ v, (ns.zip vs).lookup n = some v ∧ Rep K S M H v d
  | [], _, _, _, _, h => by simp [List.lookup] at h
  | _ :: _, _, _, _, .nil, h => by simp [List.lookup] at h
  | m :: ns, _, _, d, .cons (v := v) (d := d0) hv t, h => by
    have lk : ∀ {α : Type} (z : α) (l : List (Str × α)), ((m, z) :: l).lookup n = if n = m then some z else l.lookup n := fun z l => by
      by_cases e : n = m
      · subst e
        simp [List.lookup]
      · have e' : (n == m) = false := by simpa using e
        rw [if_neg e]
        simp [List.lookup, e']
    rw [List.zip_cons_cons, lk] at h ⊢
    by_cases e : n = m
    · rw [if_pos e] at h ⊢
      cases h
      exact ⟨v, rfl, hv⟩
    · rw [if_neg e] at h ⊢
      exact t.look h
structure FldOk (K : PySem.W.Frag) (C : Addr) (n : Str) : Prop where
  c : ExcC K C
  no : PySem.W.findIn K (.ref C) n = some none
theorem pe_fld {e : Expr} {te : TE} {n : Str} (he : PE X e te) (hb : attributeBase e n X.env (eval e X.env) = eval e X.env := by rfl) :
    PE X (.Attribute e n pos) (fun σ H Q => te σ H fun x H1 => ∃ (a C dx : Addr) (fs : List (Str × V)) (v : V), x = .ref a ∧ FldOk X.K C n ∧ H1 a = some (exo a C (some dx)) ∧ H1 dx = some (exd dx fs) ∧ fs.lookup n = some v ∧ Q v H1) := by
  refine ⟨fun pins s σ H Q I h => ?_⟩
  refine attr_of hb (thn (he.run pins s σ H _ I h) fun u s1 ⟨x, H1, I1, rx, a, C, dx, fs, v, ex, T, ha, hd, l, q⟩ => ?_)
  subst ex
  obtain rfl : u = Value.ref a := rx
  obtain ⟨ox, od, mA, J, hl, rel⟩ := inst_at I1.hok ha hd
  obtain ⟨u, hu, ru⟩ := RelO.some_of (v := v) (o := mA n) (by rw [← l]; exact rel n)
  exact HandSPX.exc_get I1.kIn J T.c.hg T.c.hk T.c.hs (PySem.W.findObj_own T.c.hd T.no rfl (by rw [hl, hu])) (handed_of ru) ⟨v, H1, I1.tok _, ru, q⟩
theorem ex_fld {e : Expr} {n : Str} (h : EX X e Γ fun d => ∃ C ns ds y, d = .exc C ns ds ∧ FldOk X.K C n ∧ (List.zip ns ds).lookup n = some y ∧ P y) (hb : attributeBase e n X.env (eval e X.env) = eval e X.env := by rfl) : EX X (.Attribute e n pos) Γ P :=
  ex_of (pe_fld pe_sem hb) fun S B O H0 H σ st Q k => h S B O H0 H σ st _ fun v d H1 e1 r1 ⟨C, ns, ds, y, ed, T, l, p⟩ => by
    subst ed
    cases r1 with
    | exc h1 ha h2 hd rr =>
      obtain ⟨z, hz, rz⟩ := rr.look l
      exact ⟨_, C, _, _, z, rfl, T, ha, hd, hz, k z y H1 e1 rz p⟩

/-! ### making one -/
/-- C's own __init__: told data ds, the instance gets the fields ns with the data rs -/
def spInit (K : PySem.W.Frag) (C : Addr) (n : Nat) (ns : List Str) (R : List D → List D → Prop) : Sp := fun vs H Q _ => vs.length = n + 1 ∧ ∃ (S : Sr) (B : List Addr) (a : Addr) (ws : List V) (ds rs : List D), vs = .ref a :: ws ∧ H a = some (exo a C none) ∧ a ∈ B ∧ a ≠ S.a ∧ S.a ∈ B ∧ Live S H ∧ (∀ m ∈ B, ∃ o, H m = some o) ∧
  RepAll K S B H ws ds ∧ R ds rs ∧ ∀ (dx : Addr) (ys : List V) (H' : Hp), (∀ b o, b ≠ S.a → b ≠ a → H b = some o → H' b = some o) → (SrcOk K S H → SrcOk K S H') → Live S H' → H dx = none → H' a = some (exo a C (some dx)) → H' dx = some (exd dx (ns.zip ys)) → RepAll K S B H' ys rs → Q .non H'
theorem run_make {pins : List (Addr × Obj)} {σ : L2.St} {H : Hp} {s : Shared} {Q : VK} {us : List Value} {ws : List V} {k : Nat} {fI : Addr} {fd : FuncData} {ps : List Str} {sp : Sp} (T : ExK X.K C) (iC : PySem.W.findIn X.K (.ref C) "__init__" = some (some (.ref fI))) (tI : PySem.W.typeIn X.K (.ref fI) = some (.type "function"))
    (F1 : FnOk X.prog X.w X.K X.mg X.base CX0 k fI fd ps sp) (hr : Room (k + 1) X.A) (hb : Binds X.K fd ps []) (I : Inv X pins σ H s) (r : Vals ws us) (hz : ws.length ≤ 1000)
    (h : ∀ a, H a = none → sp (.ref a :: ws) (upd H a (exo a C none)) (fun v H2 => v = .non ∧ Q (.ref a) H2) (fun _ _ _ => False)) : wpAny (model X.prog X.w) X.A (call (.ref C) us) (EP X pins σ Q) X.xe s := by
  obtain ⟨B, newId, initId, bmB, F, SF, q1, q2⟩ := T.base
  obtain ⟨hp, g, dr, tk, os⟩ := s
  obtain ⟨nm, N', qn, bs, bm, hdct, sn, sub, ab, col, dd, k0, k1, k2, k3, k5, hC, hT⟩ := PySem.W.excInit_of I.kIn q1
  have hsz : hp.objs.size ≤ hp.objs.size + 1 := Nat.le_succ _
  have hn : H (hp.objs.size + 1) = none := I.hok.fresh hsz
  have hq := h (hp.objs.size + 1) hn
  have keeps : ∀ b o, hp.get? b = some o → ((hp.push (PySem.W.kdv_tup us)).push (PySem.HandSPX.excO C hp.objs.size)).get? b = some o := fun b o e => Heap.get?_push_of_some _ (Heap.get?_push_of_some _ e)
  have new : ((hp.push (PySem.W.kdv_tup us)).push (PySem.HandSPX.excO C hp.objs.size)).get? (hp.objs.size + 1) = some (PySem.HandSPX.excO C hp.objs.size) := by heap_get
  have I2 : Inv X pins σ (upd H (hp.objs.size + 1) (exo (hp.objs.size + 1) C none)) ⟨(hp.push (PySem.W.kdv_tup us)).push (PySem.HandSPX.excO C hp.objs.size), g, dr, tk, os⟩ := I.laid (t' := tk) (a := hp.objs.size + 1) (o := exo (hp.objs.size + 1) C none) keeps hsz (exo_ok new)
  have r2 : Vals (V.ref (hp.objs.size + 1) :: ws) (Value.ref (hp.objs.size + 1) :: us) := .cons rfl r
  have hl : (Value.ref (hp.objs.size + 1) :: us ++ []).length = ps.length := by
    rw [List.append_nil, ← F1.len _ _ _ _ hq]
    exact r2.length.symm
  have hus : us.length ≤ sizeLine := by
    rw [← Paired.length r, sizeLine_eq]
    omega
  have bnd := hb _ (Value.ref (hp.objs.size + 1) :: us) I2.kIn hl
  rw [List.append_nil] at bnd
  refine wpAny_call (PySem.HandSPX.call_own F hT hC (PySem.W.looks_findIn I.kIn iC) (fun self => PySem.W.bind_fn I.kIn self tI) hus (codeAny_mono (F1.run _ X.stack _ _ ⟨Value.ref (hp.objs.size + 1) :: us, []⟩ _ _ _ (fun _ _ _ => False) (hr.make C us []) (I2.env0.make C us []) bnd r2 hq) fun r s' hq' => ?_))
  cases r with
  | error er => exact pass0 pins σ _ _ er s' I2 hq'
  | ok fl =>
    cases fl with
    | ret u =>
      obtain ⟨v, H2, os2, bare2, un2, hok2, rv, ev, q⟩ := hq'
      subst ev
      exact ⟨rv, .ref (hp.objs.size + 1), H2, I2.call' (ch := []) os2 un2 hok2 bare2 (fun b z => absurd z (by simp)), rfl, q⟩
    | next => exact False.elim hq'
    | brk => exact False.elim hq'
    | cont => exact False.elim hq'
structure MkOk (X : Cx) (x : Str) (C : Addr) (n : Nat) (ns : List Str) (R : List D → List D → Prop) : Prop where
  ex : ∃ (k : Nat) (fI : Addr) (fd : FuncData) (ps : List Str), ExK X.K C ∧ PySem.W.findIn X.K (.ref C) "__init__" = some (some (.ref fI)) ∧ PySem.W.typeIn X.K (.ref fI) = some (.type "function") ∧ FnOk X.prog X.w X.K X.mg X.base CX0 k fI fd ps (spInit X.K C n ns R) ∧ Room (k + 1) X.A ∧ Binds X.K fd ps [] ∧ X.mg x = some (.ref C) ∧ n ≤ 900
theorem made {S B O H0 H σ n ns R vs ds rs Q} (st : StOk X.K S B O H0 H σ Γ) (r : RepAll X.K S (B ++ O) H vs ds) (hl : ds.length = n) (hR : R ds rs) (p : P (.exc C ns rs)) (k : KE X.K S (B ++ O) H P Q) :
    ∀ a, H a = none → spInit X.K C n ns R (.ref a :: vs) (upd H a (exo a C none)) (fun v H2 => v = .non ∧ Q (.ref a) H2) (fun _ _ _ => False) := fun a ha => by
  have ea : Ext X.K S H (upd H a (exo a C none)) := .new ha
  refine ⟨by rw [List.length_cons, r.length, hl], S, a :: (B ++ O), a, vs, ds, rs, rfl, upd_same, List.mem_cons_self, (let ⟨⟨o, e⟩, _⟩ := st.live; Ne.symm (ne_of_none e ha)), List.mem_cons_of_mem _ st.m, ea.live st.live, fun m hm => (List.mem_cons.mp hm).elim (fun e => by subst e; exact ⟨_, upd_same⟩) fun q => (st.to ea).bo m q,
    (r.more (M' := a :: (B ++ O)) (fun x hx n => (List.mem_cons.mp hx).elim (fun e => e ▸ ha) fun q => absurd q n) (List.mem_cons_of_mem _)).ext ea st.live (List.mem_cons_of_mem _ st.m), hR, fun dx ys H' keep src live hd h1 h2 rr => ⟨rfl, ?_⟩⟩
  have ne : dx ≠ a := fun e => by rw [e, upd_same] at hd; cases hd
  rw [upd_ne ne] at hd
  exact k _ _ H' ⟨fun b o n1 h => keep b o n1 (ne_of_none h ha) (by rw [upd_ne (ne_of_none h ha)]; exact h), fun l s => src (ea.src l s), fun _ => live⟩ (.exc (st.free ha) h1 (st.free hd) h2 (rr.less (fun _ => List.mem_cons_of_mem _) st.m)) p
theorem ex_make {x : Str} {n : Nat} {ns : List Str} {R : List D → List D → Prop} {p : Pos} {e : Expr} {es : List Expr} (c : MkOk X x C n ns R) (hg : Gl X x) (h : AX X (e :: es) Γ fun ds => ds.length = n ∧ ∃ rs, R ds rs ∧ P (.exc C ns rs)) (hdb : (x == ("__debug__" : Str)) = false := by decide)
    (he : starEach (e :: es) X.env = (false, eval e X.env) :: starEach es X.env := by rfl) (hpl : (backTo pos (starEach es X.env)).any (·.1) = false := by rfl) : EX X (.Call (.Name x p) (e :: es) [] pos) Γ P := by
  obtain ⟨k, fI, fd, ps, T, iC, tI, F1, hr, hb, hm, hn⟩ := c.ex
  refine ex_of (t := fun σ H Q => semA X (e :: es) σ H fun ws H1 => ws.length ≤ 1000 ∧ ∀ a, H1 a = none → spInit X.K C n ns R (.ref a :: ws) (upd H1 a (exo a C none)) (fun v H2 => v = .non ∧ Q (.ref a) H2) (fun _ _ _ => False))
    ⟨fun pins s σ H Q I q => wpAny_Call_Name_kw (ld_glob I hg hm (PySem.W.callWith_K (h₀ := X.base) I.ok.mod.kin T.kC (thn (pa_sem.run pos pins s σ H _ I q) fun us s1 ⟨vs, H1, I1, r, hz, q1⟩ => ⟨I1.kIn, run_make T iC tI F1 hr hb I1 r hz q1⟩) he hpl) hdb)⟩
    fun S B O H0 H σ st Q kk => h S B O H0 H σ st _ fun vs ds H1 e1 r1 ⟨hl, rs, hR, p⟩ => ⟨by rw [r1.length, hl]; omega, made (st.to e1) r1 hl hR p (kk.to e1)⟩
theorem ex_make0 {x : Str} {ns : List Str} {R : List D → List D → Prop} {p : Pos} (c : MkOk X x C 0 ns R) (hg : Gl X x) (h : ∃ rs, R [] rs ∧ P (.exc C ns rs)) (hdb : (x == ("__debug__" : Str)) = false := by decide) : EX X (.Call (.Name x p) [] [] pos) Γ P := by
  obtain ⟨k, fI, fd, ps, T, iC, tI, F1, hr, hb, hm, hn⟩ := c.ex
  obtain ⟨rs, hR, p⟩ := h
  refine ex_of (t := fun σ H Q => ∀ a, H a = none → spInit X.K C 0 ns R [.ref a] (upd H a (exo a C none)) (fun v H2 => v = .non ∧ Q (.ref a) H2) (fun _ _ _ => False))
    ⟨fun pins s σ H Q I q => wpAny_Call_Name_kw (ld_glob I hg hm (PySem.W.callWith_K0 I.kIn T.kC (run_make (us := []) T iC tI F1 hr hb I .nil (by simp) q)) hdb)⟩
    fun S B O H0 H σ st Q kk => made st .nil rfl hR p kk
end
end G
set_option Elab.async false
set_option linter.all false
set_option maxRecDepth 100000
set_option maxHeartbeats 4000000
namespace G
open PySem PySem.Spec PyProof.Rows L2
section
variable {X : Cx} {Γ : List E} {P : D → Prop} {pos : Pos} {po : Po}
/-- f() -/
theorem ex_call0 {x : Str} {W : WA} {p : Pos} (c : CallOk X x W) (hg : Gl X x) (h : W [] P) (hdb : (x == ("__debug__" : Str)) = false := by decide) : EX X (.Call (.Name x p) [] [] pos) Γ P := by
  obtain ⟨k, f, fd, ps, n, W0, dvs, dds, us, F, hr, hm, hk, hb, hd, hdd, hW⟩ := c.ex
  refine ex_of (pe_call0 F hr hg hm hk hb hd pass0 hdb) fun S B O H0 H σ st Q k => ?_
  obtain ⟨h1, h2⟩ := hW _ _ h
  have r2 := hdd S (B ++ O) H
  exact ⟨by show ([] ++ dvs).length = _; rw [List.nil_append, r2.length]; exact h1, S, B ++ O, dds, P, st.m, st.live, st.bo, r2, h2, fun v d H' e r p => k v d H' e r p⟩
/-- a text in a list of texts -/
def txts : List D → Option (List Str)
  | [] => some []
  | .str z :: r => (txts r).map (z :: ·)
  | _ :: _ => none
theorem strs_map : ∀ {l : List D} {ss : List Str}, txts l = some ss → l = ss.map D.str
  | [], _, h => by cases h; rfl
  | .str z :: r, ss, h => by
    obtain ⟨t, ht, rfl⟩ := Option.map_eq_some_iff.mp h
    rw [strs_map ht]; rfl
  | .non :: _, _, h => nomatch h
  | .bl _ :: _, _, h => nomatch h
  | .int _ :: _, _, h => nomatch h
  | .ty _ :: _, _, h => nomatch h
  | .tup _ :: _, _, h => nomatch h
  | .lst _ :: _, _, h => nomatch h
  | .src :: _, _, h => nomatch h
  | .exc _ _ _ :: _, _, h => nomatch h
  | .cls _ :: _, _, h => nomatch h
def wIn : W2 := fun a b P => ∃ z l ss, a = .str z ∧ b = .lst l ∧ txts l = some ss ∧ P (.bl (decide (z ∈ ss)))
theorem o_in {z : Str} {l : List D} {ss : List Str} (e : txts l = some ss) (h : P (.bl (decide (z ∈ ss)))) : wIn (.str z) (.lst l) P := ⟨z, l, ss, rfl, rfl, e, h⟩
theorem in_strs (z : Str) : ∀ ss : List Str, inV (.str z) (ss.map V.str) = decide (z ∈ ss)
  | [] => rfl
  | s :: r => by
    have ih := in_strs z r
    unfold inV at ih ⊢
    rw [List.map_cons, List.any_cons, ih]
    have : eqV (V.str s) (V.str z) = decide (z = s) := by
      by_cases h : z = s
      · subst h; simp [eqV]
      · have h' : ¬ s = z := fun e => h e.symm
        simp [eqV, h, h']
    rw [this]
    simp
theorem flat_strs : ∀ ss : List Str, (ss.map V.str).all flatV = true
  | [] => rfl
  | _ :: r => by rw [List.map_cons, List.all_cons, flat_strs r]; rfl
theorem od_in : OpD X (compareOp .In) wIn := by
  intro S B O H0 H σ Γ P x y a b st r1 r2 ⟨z, l, ss, ea, eb, e, h⟩
  subst ea eb
  cases strs_map e
  cases r1
  cases r2 with
  | @lst a vs _ ha ra =>
    cases ra.strs
    exact ⟨_, op_in_seq, fun Q k => ⟨a, _, rfl, .inl ha.sq, rfl, flat_strs ss, by
      rw [if_neg Bool.false_ne_true, in_strs]
      exact k _ _ H .refl (.bl _) h⟩⟩
/-- equal lists of booleans -/
def wNeE : W2 := fun a b P => ∃ bs : List Bool, bs.length ≤ 1000 ∧ a = .lst (bs.map D.bl) ∧ b = .lst (bs.map D.bl) ∧ P (.bl false)
theorem dp_bls {K H} : ∀ bs : List Bool, DpAll K H (bs.map V.bl) (bs.map PyData.bool)
  | [] => .nil
  | b :: r => .cons (.bl b) (dp_bls r)
theorem eqv_bls : ∀ bs : List Bool, PyData.eqvAll (bs.map PyData.bool) (bs.map PyData.bool) = true
  | [] => rfl
  | b :: r => by
    rw [List.map_cons]
    unfold PyData.eqvAll
    rw [eqv_bls r]
    simp [PyData.eqv]
theorem lay_bls : ∀ bs : List Bool, PyData.canLayAll0 (bs.map PyData.bool) = true
  | [] => rfl
  | b :: r => by rw [List.map_cons]; unfold PyData.canLayAll0; rw [lay_bls r]; rfl
theorem dep_bls : ∀ bs : List Bool, PyData.depthAll (bs.map PyData.bool) = 0
  | [] => rfl
  | b :: r => by rw [List.map_cons]; unfold PyData.depthAll; rw [dep_bls r]; rfl
theorem shaped_bls (bs : List Bool) : SeqAt.shaped (.list (bs.map PyData.bool)) = true := by
  unfold SeqAt.shaped PyData.canLay0 PyData.depth
  rw [lay_bls, dep_bls]
  rfl
theorem od_neE (hu : X.A.units + 64 < cLine) : OpD X (compareOp .NotEq) wNeE := by
  intro S B O H0 H σ Γ P x y a b st r1 r2 ⟨bs, hl, ea, eb, h⟩
  subst ea eb
  cases r1 with
  | @lst a1 vs _ ha ra =>
    cases r2 with
    | @lst a2 ws _ hb rb =>
      cases ra.bls
      cases rb.bls
      refine ⟨_, op_neD hu, fun Q k => ⟨_, _, .lst ha.sq (dp_bls bs), .lst hb.sq (dp_bls bs), shaped_bls bs, shaped_bls bs, ?_⟩⟩
      have : PyData.eqv (.list (bs.map PyData.bool)) (.list (bs.map PyData.bool)) = true := by unfold PyData.eqv; exact eqv_bls bs
      rw [this]
      exact k _ _ H .refl (.bl _) h
/-- a target = e, any target -/
theorem s_asg {e tg : Expr} {gt : TG} {Gd : GD} {js : List Nat} (hg : PG X tg gt) (hG : TgOk X.K gt Gd js) (h : EX X e Γ fun d => Gd d Γ po.nx) (hs : swapsWithSole [tg] e pos.line X.env = pure false := by rfl) (hw : swappedStores [tg] e X.env = pure none := by rfl)
    (h1 : (assignEach [tg] X.env).map (·.2) = [assign tg X.env] := by rfl) : S1 X (.Assign [tg] e pos) Γ po :=
  fun S B O H0 H σ st Dn k => semS_of (ps_asg pe_sem hg hs hw h1) (h S B O H0 H σ st _ fun v d H1 e1 r1 p1 =>
    hG.ok S B O H0 H1 σ Γ v d _ _ (st.to e1) r1 p1 fun σ' Γ' st' p' _ => k.nx O H1 σ' Γ' st' (st.adv e1) p')
end
/-! ### an own __init__ -/
/-- self.f = e -/
def tSet (K : PySem.W.Frag) (f : Str) (to te : TE) : TS := fun Dn σ H => te σ H fun y H1 => to σ H1 fun x H2 => ∃ a C : Addr, x = .ref a ∧ ExK K C ∧ PySem.W.findIn K (.ref C) f = some none ∧
  ((H2 a = some (exo a C none) ∧ ∀ dx, H2 dx = none → dx ≠ a → Dn.nx σ (upd (upd H2 dx (exd dx [(f, y)])) a (exo a C (some dx)))) ∨
    ∃ (dx : Addr) (fs : List (Str × V)), H2 a = some (exo a C (some dx)) ∧ H2 dx = some (exd dx fs) ∧ fs.length ≤ 900 ∧ Dn.nx σ (upd H2 dx (exd dx ((f, y) :: fs))))
section
variable {X : Cx} {pos : Pos}
theorem ps_set_at {o e : Expr} {to te : TE} {f : Str} {p' : Pos} (ho : PE X o to) (he : PE X e te) (hs : swapsWith e (some (.Attribute o f p')) pos.line X.env = pure false) : PS X (.Assign [.Attribute o f p'] e pos) (tSet X.K f to te) := by
  refine ⟨fun pins s σ H Dn I h => ?_⟩
  refine plainObj_wpAny_Assign_Attribute (thn (he.run pins s σ H _ I h) fun v s1 ⟨y, H1, I1, r1, q1⟩ => thn (ho.run pins s1 σ H1 _ I1 q1) fun u s2 ⟨x, H2, I2, r2, a, C, ex, T, hno, q⟩ => ?_) hs
  subst ex
  obtain rfl : u = Value.ref a := r2
  rcases q with ⟨ea, q⟩ | ⟨dx, fs, ea, ed, hl, q⟩
  · exact set_first T I2 ea hno r1 fun dx s' n ne J => ⟨σ, _, J, q dx n ne⟩
  · exact set_more T I2 ea ed hl hno r1 fun s' J => ⟨σ, _, J, q⟩
theorem src_keep {K : PySem.W.Frag} {S : Sr} {H H' : Hp} (k : ∀ b xs, H b = some (.lst xs) → H' b = some (.lst xs)) (h : SrcOk K S H) : SrcOk K S H' := by
  obtain ⟨i, c, s, t, ns, h1, h2, h3⟩ := h
  exact ⟨i, c, s, t, ns, k _ _ h1, k _ _ h2, h3⟩
theorem exo_lst {e C : Addr} {d : Option Addr} {xs : List V} : exo e C d ≠ .lst xs := fun z => by
  have z' : HO.ext _ = HO.lst xs := z
  cases z'
/-- __init__ of two rows -/
theorem init_two {C : Addr} {fld code : Str} {o1 o2 e : Expr} {p2 p3 p5 p6 p7 : Pos} {j} {R : D → Prop} {vs : List V} {H : Hp} {Q : VK} {Ex : XK} (T : ExK X.K C) (h1 : PySem.W.findIn X.K (.ref C) fld = some none) (h2 : PySem.W.findIn X.K (.ref C) "code" = some none)
    (he : ∀ d, R d → EX X e [.no, .is d] fun d' => d' = d) (ho1 : PE X o1 (tVar 0)) (ho2 : PE X o2 (tVar 0)) (hs1 : swapsWith e (some (.Attribute o1 fld p2)) p3.line X.env = pure false) (hs2 : swapsWith (.Constant (.str code) j p6) (some (.Attribute o2 "code" p5)) p7.line X.env = pure false)
    (hs : spInit X.K C 1 ["code", fld] (fun ds rs => ∃ d, ds = [d] ∧ R d ∧ rs = [.str code, d]) vs H Q Ex) :
    ∃ t, PSs X [.Assign [.Attribute o1 fld p2] e p3, .Assign [.Attribute o2 "code" p5] (.Constant (.str code) j p6) p7] t ∧ t { nx := fun _ H' => Q .non H', rt := Q } (L2.start ["self", fld] vs) H := by
  obtain ⟨hl, S, B, a, ws, ds, rs, rfl, ha, mB, hS, mS, lv, hB, rr, ⟨d, rfl, hR, rfl⟩, q⟩ := hs
  obtain ⟨v, rfl, r1⟩ := rr.one
  have st : StOk X.K S B [] H H [some (.ref a), some v] [.no, .is d] := {
    len := rfl
    ent := fun i g hg => by
      match i, hg with
      | 0, hg => cases hg; exact ⟨_, rfl, trivial⟩
      | 1, hg => cases hg; exact ⟨_, rfl, v, rfl, by rw [List.append_nil]; exact r1⟩
      | _ + 2, hg => exact absurd hg (by simp)
    ext := .refl
    live0 := lv
    mem := mS
    bl := hB
    nd := List.nodup_nil
    out := fun _ h => absurd h (by simp)
    new := fun _ h => absurd h (by simp)
    liv := fun _ h => absurd h (by simp) }
  refine ⟨_, pss_cons (ps_set_at ho1 pe_sem hs1) (pss_one (ps_set_at ho2 pe_str hs2)), ?_⟩
  refine he d hR S B [] H H _ st _ fun v' d' H1 e1 r1' p1 => ?_
  subst p1
  have ha1 : H1 a = some (exo a C none) := e1.keep a _ hS ha
  refine ⟨.ref a, rfl, a, C, rfl, T, h1, .inl ⟨ha1, fun dx hd ne => ?_⟩⟩
  refine ⟨.ref a, rfl, a, C, rfl, T, h2, .inr ⟨dx, [(fld, v')], upd_same, (upd_ne ne).trans upd_same, by simp, ?_⟩⟩
  have hx : ∀ b o, b ≠ a → H1 b = some o → upd (upd (upd H1 dx (exd dx [(fld, v')])) a (exo a C (some dx))) dx (exd dx [("code", .str code), (fld, v')]) b = some o := fun b o n h => by
    have nd : b ≠ dx := ne_of_none h hd
    rw [upd_ne nd, upd_ne n, upd_ne nd]; exact h
  have hl : ∀ b xs, H1 b = some (.lst xs) → upd (upd (upd H1 dx (exd dx [(fld, v')])) a (exo a C (some dx))) dx (exd dx [("code", .str code), (fld, v')]) b = some (.lst xs) := fun b xs h => hx b _ (at_ne ha1 h exo_lst) h
  have lv1 := e1.live lv
  have ex : ∀ b, (∃ o, H1 b = some o) → ∃ o, upd (upd (upd H1 dx (exd dx [(fld, v')])) a (exo a C (some dx))) dx (exd dx [("code", .str code), (fld, v')]) b = some o := fun b ⟨o, h⟩ => by
    by_cases hb : b = a
    · rw [hb, upd_ne (Ne.symm ne), upd_same]; exact ⟨_, rfl⟩
    · exact ⟨o, hx b o hb h⟩
  have dn : H dx = none := by
    cases e : H dx with
    | none => rfl
    | some o =>
      by_cases hz : dx = S.a
      · obtain ⟨⟨o', h'⟩, _⟩ := lv1
        rw [← hz, hd] at h'; cases h'
      · have := e1.keep dx o hz e
        rw [hd] at this; cases this
  refine q dx [.str code, v'] _ (fun b o n1 n2 h => hx b o n2 (e1.keep b o n1 h)) (fun s => src_keep hl (e1.src lv s)) ⟨ex _ lv1.1, ex _ lv1.2.1, lv1.2.2⟩ dn ?_ upd_same ?_
  · rw [upd_ne (Ne.symm ne), upd_same]
  · rw [List.append_nil] at r1'
    exact .cons (.str code) (.cons (r1'.keeps (fun b o n h => hx b o (fun z => n (z ▸ mB)) h) (src_keep hl)) .nil)
/-- __init__ of one row -/
theorem init_one {C : Addr} {code : Str} {o2 : Expr} {p5 p6 p7 : Pos} {j} {vs : List V} {H : Hp} {Q : VK} {Ex : XK} (T : ExK X.K C) (h2 : PySem.W.findIn X.K (.ref C) "code" = some none) (ho2 : PE X o2 (tVar 0))
    (hs2 : swapsWith (.Constant (.str code) j p6) (some (.Attribute o2 "code" p5)) p7.line X.env = pure false) (hs : spInit X.K C 0 ["code"] (fun ds rs => ds = [] ∧ rs = [.str code]) vs H Q Ex) :
    ∃ t, PSs X [.Assign [.Attribute o2 "code" p5] (.Constant (.str code) j p6) p7] t ∧ t { nx := fun _ H' => Q .non H', rt := Q } (L2.start ["self"] vs) H := by
  obtain ⟨hl, S, B, a, ws, ds, rs, rfl, ha, mB, hS, mS, lv, hB, rr, ⟨rfl, rfl⟩, q⟩ := hs
  cases rr
  refine ⟨_, pss_one (ps_set_at ho2 pe_str hs2), ?_⟩
  refine ⟨.ref a, rfl, a, C, rfl, T, h2, .inl ⟨ha, fun dx hd ne => ?_⟩⟩
  have hx : ∀ b o, b ≠ a → H b = some o → upd (upd H dx (exd dx [("code", .str code)])) a (exo a C (some dx)) b = some o := fun b o n h => by
    rw [upd_ne n, upd_ne (ne_of_none h hd)]; exact h
  have hl : ∀ b xs, H b = some (.lst xs) → upd (upd H dx (exd dx [("code", .str code)])) a (exo a C (some dx)) b = some (.lst xs) := fun b xs h => hx b _ (at_ne ha h exo_lst) h
  have ex : ∀ b, (∃ o, H b = some o) → ∃ o, upd (upd H dx (exd dx [("code", .str code)])) a (exo a C (some dx)) b = some o := fun b ⟨o, h⟩ => by
    by_cases hb : b = a
    · rw [hb, upd_same]; exact ⟨_, rfl⟩
    · exact ⟨o, hx b o hb h⟩
  refine q dx [.str code] _ (fun b o n1 n2 h => hx b o n2 h) (src_keep hl) ⟨ex _ lv.1, ex _ lv.2.1, lv.2.2⟩ hd upd_same ?_ (.cons (.str code) .nil)
  rw [upd_ne ne, upd_same]
  rfl
end
end G
set_option Elab.async false
set_option linter.all false
set_option maxRecDepth 100000
set_option maxHeartbeats 4000000
namespace G
open PySem PySem.Spec PyProof.Rows L2
def topS (i : Nat) : Stmt := PySem.Challenge.pw_fewtell_k01_errors_by_themselves.main.body.getD i (.Pass ⟨0, 0, 0, 0⟩)
abbrev sSource : Stmt := topS 33
abbrev sDraw : Stmt := topS 34
theorem scSource : FnScope ["_law_script"] ["_law_script"] (defScope sSource) := ⟨rfl, rfl, rfl, by decide +kernel, rfl, by decide +kernel, by decide +kernel⟩
theorem scDraw : FnScope ["_law_src", "_law_many7", "_law_cell7", "_law_digit", "_law_seed"] ["_law_src", "_law_many7"] (defScope sDraw) := ⟨rfl, rfl, rfl, by decide +kernel, rfl, by decide +kernel, by decide +kernel⟩
def Wdraw : WA := fun ds P => ∃ n : Int, ds = [.src, .int n] ∧ 1 ≤ n ∧ n.natAbs < 2 ^ 8000 ∧ ∀ k, 0 ≤ k → k < n → P (.int k)
/-- the source's slots -/
structure Slots (K : PySem.W.Frag) (S : Sr) (H H' : Hp) (i c s t : Int) (ns : List Int) : Prop where
  at_ : H' S.a = some (.lst [.ref S.l, .int i, .int c, .int s, .int t])
  ls : H' S.l = some (.lst (ns.map V.int))
  keep : ∀ b o, b ≠ S.a → H b = some o → H' b = some o
  ne : S.l ≠ S.a
  i0 : 0 ≤ i
  c0 : 0 ≤ c
  s0 : 0 ≤ s
  s1 : s < 2147483629
  t0 : 0 ≤ t
theorem Slots.ext {K S H H' i c s t ns} (z : Slots K S H H' i c s t ns) : Ext K S H H' :=
  ⟨z.keep, fun _ _ => ⟨i, c, s, t, ns, z.at_, z.ls, z.i0, z.c0, z.s0, z.s1, z.t0⟩, fun _ => ⟨⟨_, z.at_⟩, ⟨_, z.ls⟩, z.ne⟩⟩
theorem Slots.put {K S H H' i c s t ns i' c' s' t'} (z : Slots K S H H' i c s t ns) (h1 : 0 ≤ i') (h2 : 0 ≤ c') (h3 : 0 ≤ s') (h4 : s' < 2147483629) (h5 : 0 ≤ t') :
    Slots K S H (upd H' S.a (.lst [.ref S.l, .int i', .int c', .int s', .int t'])) i' c' s' t' ns :=
  ⟨upd_same, by rw [upd_ne z.ne]; exact z.ls, fun b o n h => by rw [upd_ne n]; exact z.keep b o n h, z.ne, h1, h2, h3, h4, h5⟩
theorem dec0 {c : Int} : decide (V.int c = V.int 0) = decide (c = 0) := by
  by_cases h : c = 0
  · subst h; simp
  · rw [decide_eq_false h, decide_eq_false (fun e => h (V.int.inj e))]
section
variable {P : Program} {w : World} {K : PySem.W.Frag} {mg : Str → Option Value} {base : Heap}
theorem ok_draw {f : Addr} {fd : FuncData} {k : Nat} (F : Fun K "_law_draw" "_law_draw" sDraw f fd) (ml : mg "len" = none) (mi : mg "int" = none) : FnOk P w K mg base CX0 (k + 1) f fd ["_law_src", "_law_many7"] (spW K Wdraw 2) := by
  refine F.ok scDraw (fun vs H Q E h => h.1) (fun cdv A outer s H vs Q E hr h => ?_)
  obtain ⟨_, S, B, ds, P', hSB, hlive, hB, hrep, ⟨n, rfl, hn1, hn2, hP⟩, hQ⟩ := h
  obtain ⟨v1, v2, rfl, r1, r2⟩ := hrep.two
  cases r1 with
  | src hsrc hm =>
  cases r2
  obtain ⟨i, c, s, t, ns, hS, hL, hi, hc, hs0, hs1, ht⟩ := hsrc
  have z0 : Slots K S H H i c s t ns := ⟨hS, hL, fun _ _ _ h => h, hlive.2.2, hi, hc, hs0, hs1, ht⟩
  let cxc := scDraw.nd
  refine ⟨_, Evl.pss_cut (ps_if (PW.pt (pw_and (pt_cmpR op_eq (pe_ix ix_list (pv 0) pe_int (fun _ _ => rfl)) pe_int (nomark _)) (pw_and1 (pt_cmpR op_lt (pe_ix ix_list (pv 0) pe_int (fun _ _ => rfl)) (pe_callB call_len_seq (by rfl) ml PySem.boot_len (pa_cons (pe_ix ix_list (pv 0) pe_int (fun _ _ => rfl)) pa_nil)) (nomark _)))))
      (pss_cons (ps_set (i := 2) scDraw.nd rfl (.inl rfl) (pe_ix ix_list (pe_ix ix_list (pv 0) pe_int (fun _ _ => rfl)) (pe_ix ix_list (pv 0) pe_int (fun _ _ => rfl)) (fun _ _ => rfl)))
      (pss_cons (ps_asg (pe_op op_add (pe_ix ix_list (pv 0) pe_int (fun _ _ => rfl)) pe_int) (pg_sub (pv 0) pe_int set_list))
      (pss_one (ps_if (pt_cmpR op_ge (pv 2) (pe_op op_pow pe_int pe_int) (nomark _))
        (pss_one (ps_asg (pv 2) (pg_sub (pv 0) pe_int set_list)))
        (pss_one (ps_asg (pe_op op_mod (pe_callTy call_int1 (by rfl) mi bt_int (pa_cons (pe_op op_add (pe_op op_add (pe_op op_mul (pe_ix ix_list (pv 0) pe_int (fun _ _ => rfl)) pe_int) (pe_op op_mul (pe_op op_mod (pe_callTy call_int1 (by rfl) mi bt_int (pa_cons (pv 2) pa_nil)) pe_int) pe_int)) pe_int) pa_nil)) pe_int) (pg_sub (pv 0) pe_int set_list)))))))
      pss_nil)
    (Evl.pss_cut (ps_if (pt_cmpR op_gt (pe_ix ix_list (pv 0) pe_int (fun _ _ => rfl)) pe_int (nomark _))
      (pss_cons (ps_set (i := 3) scDraw.nd rfl (.inl rfl) (pe_op op_mod (pe_callTy call_int1 (by rfl) mi bt_int (pa_cons (pe_ix ix_list (pv 0) pe_int (fun _ _ => rfl)) pa_nil)) (pv 1)))
      (pss_cons (ps_asg (pe_op op_fdivG (pe_ix ix_list (pv 0) pe_int (fun _ _ => rfl)) (pv 1)) (pg_sub (pv 0) pe_int set_list))
      (pss_one (ps_ret (pv 3))))) pss_nil)
    (pss_cons (ps_asg (pe_op op_add (pe_ix ix_list (pv 0) pe_int (fun _ _ => rfl)) pe_int) (pg_sub (pv 0) pe_int set_list))
    (pss_cons (ps_set (i := 4) scDraw.nd rfl (.inl rfl) (pe_ix ix_list (pv 0) pe_int (fun _ _ => rfl)))
    (pss_cons (ps_asg (pe_op op_mod (pe_callTy call_int1 (by rfl) mi bt_int (pa_cons (pe_op op_add (pe_op op_add (pe_op op_add (pe_op op_mul (pv 4) (pv 4)) (pe_op op_mul (pv 4) pe_int)) (pe_op op_mul (pe_ix ix_list (pv 0) pe_int (fun _ _ => rfl)) pe_int)) pe_int) pa_nil)) pe_int) (pg_sub (pv 0) pe_int set_list))
    (pss_one (ps_ret (pe_op op_mod (pe_callTy call_int1 (by rfl) mi bt_int (pa_cons (pe_op op_add (pe_op op_fdiv (pe_ix ix_list (pv 0) pe_int (fun _ _ => rfl)) pe_int) (pe_op op_mul (pe_op op_mod (pe_callTy call_int1 (by rfl) mi bt_int (pa_cons (pe_ix ix_list (pv 0) pe_int (fun _ _ => rfl)) pa_nil)) pe_int) pe_int)) pa_nil)) (pv 1)))))))), ?_⟩
  -- the first if
  refine ⟨fun σ H' => ∃ y i c s t, σ = [some (.ref S.a), some (.int n), y, none, none] ∧ Slots K S H H' i c s t ns, ?_, ?_⟩
  · refine ⟨_, rfl, S.a, _, 2, _, rfl, rfl, SqL.of z0.at_, rfl, rfl, _, rfl, ?_⟩
    rw [dec0]
    refine ite2 (fun hc0 => ?_) fun _ => iteF ⟨_, i, c, s, t, rfl, z0⟩
    refine ⟨_, rfl, S.a, _, 1, _, rfl, rfl, SqL.of z0.at_, rfl, ?_⟩
    refine ⟨_, rfl, S.a, _, 0, _, rfl, rfl, SqL.of z0.at_, rfl, S.l, _, rfl, .inl (SqL.of z0.ls), _, _, rfl, rfl, _, rfl, ?_⟩
    refine ite2 (fun hi1 => ?_) fun _ => ⟨_, i, c, s, t, rfl, z0⟩
    have hi2 : i < ((ns.map V.int).length : Int) := of_decide_eq_true hi1
    rw [List.length_map] at hi2
    have hi3 : i.toNat < ns.length := by omega
    obtain ⟨cell, g⟩ : ∃ cell, atI (ns.map V.int) i = some (.int cell) := by
      obtain ⟨j, rfl⟩ : ∃ j : Nat, i = (j : Int) := ⟨i.toNat, by omega⟩
      have hj : j < ns.length := by omega
      exact ⟨ns[j], atI_nat (by rw [List.getElem?_map]; simp [hj])⟩
    -- cell = src[0][src[1]]
    refine ⟨_, rfl, S.a, _, 0, _, rfl, rfl, SqL.of z0.at_, rfl, ?_⟩
    refine ⟨_, rfl, S.a, _, 1, _, rfl, rfl, SqL.of z0.at_, rfl, S.l, _, i, _, rfl, rfl, SqL.of z0.ls, g, ?_⟩
    -- src[1] = src[1] + 1
    refine ⟨_, rfl, S.a, _, 1, _, rfl, rfl, SqL.of z0.at_, rfl, i, 1, rfl, rfl, _, rfl, S.a, _, 1, 1, rfl, rfl, z0.at_, rfl, ?_⟩
    have z1 := z0.put (i' := i + 1) (c' := c) (s' := s) (t' := t) (by omega) hc hs0 hs1 ht
    -- if cell >= 10 ** 18
    refine ⟨.int cell, rfl, 10, 18, rfl, rfl, ⟨by decide, by decide, by decide⟩, cell, 10 ^ 18, rfl, rfl, _, rfl, ite2 (fun hb => ?_) fun hb => ?_⟩
    · have hb' : (10 : Int) ^ 18 ≤ cell := of_decide_eq_true hb
      refine ⟨.int cell, rfl, _, rfl, S.a, _, 2, 2, rfl, rfl, z1.at_, rfl, ?_⟩
      have z2 := z1.put (i' := i + 1) (c' := cell) (s' := s) (t' := t) (by omega) (Int.le_trans (by decide) hb') hs0 hs1 ht
      exact ⟨_, _, _, _, _, rfl, z2⟩
    · refine ⟨_, rfl, S.a, _, 3, _, rfl, rfl, SqL.of z1.at_, rfl, s, 40487, rfl, rfl, .inr (by decide), ?_⟩
      refine ⟨.int cell, rfl, .inl ⟨cell, rfl, cell, 2147483587, rfl, rfl, (show (0 : Int) < 2147483587 by decide), cell % 2147483587, 6113, rfl, rfl, .inr (by decide), _, _, rfl, rfl, _, 97, rfl, rfl, .inl ⟨_, rfl, _, 2147483629, rfl, rfl, (show (0 : Int) < 2147483629 by decide), ?_⟩⟩⟩
      refine ⟨_, rfl, S.a, _, 3, 3, rfl, rfl, z1.at_, rfl, ?_⟩
      have z2 := z1.put (i' := i + 1) (c' := c) (s' := (s * 40487 + cell % 2147483587 * 6113 + 97) % 2147483629) (t' := t) (by omega) hc (Int.emod_nonneg _ (by decide)) (Int.emod_lt_of_pos _ (by decide)) ht
      exact ⟨_, _, _, _, _, rfl, z2⟩
  rintro σ H1 ⟨y, i1, c1, s1, t1, rfl, z1⟩
  refine ⟨fun σ H' => ∃ y i c s t, σ = [some (.ref S.a), some (.int n), y, none, none] ∧ Slots K S H H' i c s t ns, ?_, ?_⟩
  · refine ⟨_, rfl, S.a, _, 2, _, rfl, rfl, SqL.of z1.at_, rfl, c1, 0, rfl, rfl, _, rfl, ite2 (fun hb => ?_) fun _ => ⟨_, i1, c1, s1, t1, rfl, z1⟩⟩
    refine ⟨_, rfl, S.a, _, 2, _, rfl, rfl, SqL.of z1.at_, rfl, .inl ⟨c1, rfl, .int n, rfl, c1, n, rfl, rfl, by omega, ?_⟩⟩
    refine ⟨_, rfl, S.a, _, 2, _, rfl, rfl, SqL.of z1.at_, rfl, .int n, rfl, c1, n, rfl, rfl, ⟨by omega, hn2⟩, _, rfl, S.a, _, 2, 2, rfl, rfl, z1.at_, rfl, ?_⟩
    have z2 := z1.put (i' := i1) (c' := c1.fdiv n) (s' := s1) (t' := t1) z1.i0 (by rw [Int.fdiv_eq_ediv_of_nonneg _ (by omega)]; exact Int.ediv_nonneg z1.c0 (by omega)) z1.s0 z1.s1 z1.t0
    exact ⟨.int (c1 % n), rfl, hQ _ _ _ z2.ext (.int _) (hP _ (Int.emod_nonneg _ (by omega)) (Int.emod_lt_of_pos _ (by omega)))⟩
  rintro σ H2 ⟨y2, i2, c2, s2, t2, rfl, z2⟩
  refine ⟨_, rfl, S.a, _, 4, _, rfl, rfl, SqL.of z2.at_, rfl, t2, 1, rfl, rfl, _, rfl, S.a, _, 4, 4, rfl, rfl, z2.at_, rfl, ?_⟩
  have z3 := z2.put (i' := i2) (c' := c2) (s' := s2) (t' := t2 + 1) z2.i0 z2.c0 z2.s0 z2.s1 (by have := z2.t0; omega)
  refine ⟨_, rfl, S.a, _, 3, _, rfl, rfl, SqL.of z3.at_, rfl, ?_⟩
  have b0 := z2.s0
  have b1 := z2.s1
  refine ⟨.int s2, rfl, .int s2, rfl, s2, s2, rfl, rfl, .inr ⟨by omega, by omega⟩, .int s2, rfl, s2, 26399, rfl, rfl, .inr (by decide), _, _, rfl, rfl, ?_⟩
  refine ⟨_, rfl, S.a, _, 4, _, rfl, rfl, SqL.of z3.at_, rfl, t2 + 1, 1000931, rfl, rfl, .inr (by decide), _, _, rfl, rfl, _, 80671, rfl, rfl, .inl ⟨_, rfl, _, 2147483629, rfl, rfl, (show (0 : Int) < 2147483629 by decide), ?_⟩⟩
  refine ⟨_, rfl, S.a, _, 3, 3, rfl, rfl, z3.at_, rfl, ?_⟩
  have z4 := z3.put (i' := i2) (c' := c2) (s' := (s2 * s2 + s2 * 26399 + (t2 + 1) * 1000931 + 80671) % 2147483629) (t' := t2 + 1) z2.i0 z2.c0 (Int.emod_nonneg _ (by decide)) (Int.emod_lt_of_pos _ (by decide)) (by have := z2.t0; omega)
  refine ⟨_, rfl, S.a, _, 3, _, rfl, rfl, SqL.of z4.at_, rfl, _, 71, rfl, rfl, ⟨by decide, by decide⟩, ?_⟩
  refine ⟨_, rfl, S.a, _, 3, _, rfl, rfl, SqL.of z4.at_, rfl, .inl ⟨_, rfl, _, 7919, rfl, rfl, (show (0 : Int) < 7919 by decide), _, 43, rfl, rfl, .inr (by decide), _, _, rfl, rfl, .inl ⟨_, rfl, .int n, rfl, _, n, rfl, rfl, (show (0 : Int) < n by omega), ?_⟩⟩⟩
  exact hQ _ _ _ z4.ext (.int _) (hP _ (Int.emod_nonneg _ (by omega)) (Int.emod_lt_of_pos _ (by omega)))
end

/-! ### the source made -/
def spSource (K : PySem.W.Frag) : Sp := fun vs H Q _ => ∃ (a : Addr) (ns : List Int), vs = [.ref a] ∧ SqL K H a (ns.map V.int) ∧ ns.length ≤ 63 ∧
  ∀ (p l : Addr) (ms : List Int) H', Same H H' → H p = none → H l = none → l ≠ p → H' p = some (.lst [.ref l, .int 0, .int 0, .int 12023, .int 0]) → H' l = some (.lst (ms.map V.int)) → Q (.ref p) H'
section
variable {P : Program} {w : World} {K : PySem.W.Frag} {mg : Str → Option Value} {base : Heap}
theorem cut_map (ns : List Int) (lo hi : Option Int) : ∃ ms : List Int, cutV (ns.map V.int) lo hi = ms.map V.int := by
  unfold cutV
  rw [List.length_map]
  exact ⟨_, by rw [← List.map_drop, ← List.map_take]⟩
theorem ok_source {f : Addr} {fd : FuncData} {k : Nat} (F : Fun K "_law_source" "_law_source" sSource f fd) (ml : mg "list" = none) : FnOk P w K mg base CX0 (k + 1) f fd ["_law_script"] (spSource K) := by
  refine F.ok scSource (fun vs H Q E h => ?_) (fun cdv A outer s H vs Q E hr h => ?_)
  · obtain ⟨a, ns, rfl, _⟩ := h
    rfl
  · obtain ⟨a, ns, rfl, hS, hlen, q⟩ := h
    refine ⟨_, pss_one (ps_ret (pe_lst (pa_cons (pe_callTy call_list_of (by rfl) ml bt_list (pa_cons (pe_slice sl_list (pv 0) po_none (po_some pe_int)) pa_nil)) (pa_cons pe_int (pa_cons pe_int (pa_cons pe_int (pa_cons pe_int pa_nil))))))), ?_⟩
    obtain ⟨ms, hms⟩ := cut_map ns none (some 63)
    refine ⟨.ref a, rfl, 63, rfl, a, _, rfl, hS, fun c nc => ?_⟩
    rw [hms]
    refine ⟨c, _, rfl, .inl (SqL.of upd_same), fun l nl => ?_⟩
    have ncl : c ≠ l := ne_of_none (o := .lst (ms.map V.int)) upd_same nl
    refine ⟨small (n := 5) (by decide), fun p np => ?_⟩
    have npl : l ≠ p := ne_of_none (o := .lst (ms.map V.int)) upd_same np
    have s1 := same_upd (o := .lst (ms.map V.int)) nc
    have s2 := same_upd (o := .lst (ms.map V.int)) nl
    have s3 := same_upd (o := .lst [.ref l, .int 0, .int 0, .int 12023, .int 0]) np
    exact q p l ms _ ((s1.trans s2).trans s3) ((s1.trans s2).free np) (s1.free nl) npl upd_same (by rw [upd_ne npl]; exact upd_same)
end
end G
set_option Elab.async false
set_option linter.all false
set_option maxRecDepth 100000
set_option maxHeartbeats 4000000
namespace G
open PySem PySem.Spec PyProof.Rows L2
local macro_rules | `(tactic| wtm_at "vis") => `(tactic| first | exact Or.inl rfl | exact Or.inr (Or.inl rfl) | exact Or.inr (Or.inr rfl))
local macro_rules | `(tactic| wtm_at "cal") => `(tactic| first | assumption | exact CallOk.blk (by assumption) | exact CallOkK.blk (by assumption) | exact ConstOk.blk (by assumption))
local macro_rules | `(tactic| wtm_at "nm") => `(tactic| first
  | refine ex_name 0 (by assumption) (by with_reducible rfl) (by with_reducible rfl) (by wtm_at "vis") ?_
  | refine ex_name 1 (by assumption) (by with_reducible rfl) (by with_reducible rfl) (by wtm_at "vis") ?_
  | refine ex_name 2 (by assumption) (by with_reducible rfl) (by with_reducible rfl) (by wtm_at "vis") ?_
  | refine ex_name 3 (by assumption) (by with_reducible rfl) (by with_reducible rfl) (by wtm_at "vis") ?_
  | refine ex_name 4 (by assumption) (by with_reducible rfl) (by with_reducible rfl) (by wtm_at "vis") ?_
  | refine ex_name 5 (by assumption) (by with_reducible rfl) (by with_reducible rfl) (by wtm_at "vis") ?_
  | refine ex_name 6 (by assumption) (by with_reducible rfl) (by with_reducible rfl) (by wtm_at "vis") ?_
  | refine ex_name 7 (by assumption) (by with_reducible rfl) (by with_reducible rfl) (by wtm_at "vis") ?_
  | refine ex_name 8 (by assumption) (by with_reducible rfl) (by with_reducible rfl) (by wtm_at "vis") ?_
  | refine ex_name 9 (by assumption) (by with_reducible rfl) (by with_reducible rfl) (by wtm_at "vis") ?_
  | refine ex_name 10 (by assumption) (by with_reducible rfl) (by with_reducible rfl) (by wtm_at "vis") ?_
  | refine ex_name 11 (by assumption) (by with_reducible rfl) (by with_reducible rfl) (by wtm_at "vis") ?_
  | refine ex_name 12 (by assumption) (by with_reducible rfl) (by with_reducible rfl) (by wtm_at "vis") ?_
  | refine ex_name 13 (by assumption) (by with_reducible rfl) (by with_reducible rfl) (by wtm_at "vis") ?_
  | refine ex_name 14 (by assumption) (by with_reducible rfl) (by with_reducible rfl) (by wtm_at "vis") ?_
  | refine ex_name 15 (by assumption) (by with_reducible rfl) (by with_reducible rfl) (by wtm_at "vis") ?_
  | refine ex_name 16 (by assumption) (by with_reducible rfl) (by with_reducible rfl) (by wtm_at "vis") ?_
  | refine ex_name 17 (by assumption) (by with_reducible rfl) (by with_reducible rfl) (by wtm_at "vis") ?_
  | refine ex_name 18 (by assumption) (by with_reducible rfl) (by with_reducible rfl) (by wtm_at "vis") ?_
  | refine ex_name 19 (by assumption) (by with_reducible rfl) (by with_reducible rfl) (by wtm_at "vis") ?_
  | refine ex_name 20 (by assumption) (by with_reducible rfl) (by with_reducible rfl) (by wtm_at "vis") ?_
  | refine ex_name 21 (by assumption) (by with_reducible rfl) (by with_reducible rfl) (by wtm_at "vis") ?_
  | refine ex_name 22 (by assumption) (by with_reducible rfl) (by with_reducible rfl) (by wtm_at "vis") ?_
  | refine ex_name 23 (by assumption) (by with_reducible rfl) (by with_reducible rfl) (by wtm_at "vis") ?_)
local macro_rules | `(tactic| wtm_at "kb") => `(tactic| first | exact kb0 | exact kb1 | exact kb2 | exact kb3 | exact kb4 | exact kb5 | exact kb6 | exact kb7 | exact kb8 | exact kb9 | exact kb10 | exact kb11 | exact kb12 | exact kb13 | exact kb14 | exact kb15 | exact kb16 | exact kb17 | exact kb18 | exact kb19 | exact kb20 | exact kb21 | exact kb22 | exact kb23 | exact kb24 | exact kb25 | exact kb26 | exact kb27 | exact kb28 | exact kb29)
local macro_rules | `(tactic| wtm_at "loc") => `(tactic| first | exact Or.inl rfl | exact Or.inr rfl)
local macro_rules | `(tactic| wtm_at "set") => `(tactic| first
  | refine s_set 0 (by assumption) (by assumption) (by with_reducible rfl) (by wtm_at "loc") ?_
  | refine s_set 1 (by assumption) (by assumption) (by with_reducible rfl) (by wtm_at "loc") ?_
  | refine s_set 2 (by assumption) (by assumption) (by with_reducible rfl) (by wtm_at "loc") ?_
  | refine s_set 3 (by assumption) (by assumption) (by with_reducible rfl) (by wtm_at "loc") ?_
  | refine s_set 4 (by assumption) (by assumption) (by with_reducible rfl) (by wtm_at "loc") ?_
  | refine s_set 5 (by assumption) (by assumption) (by with_reducible rfl) (by wtm_at "loc") ?_
  | refine s_set 6 (by assumption) (by assumption) (by with_reducible rfl) (by wtm_at "loc") ?_
  | refine s_set 7 (by assumption) (by assumption) (by with_reducible rfl) (by wtm_at "loc") ?_
  | refine s_set 8 (by assumption) (by assumption) (by with_reducible rfl) (by wtm_at "loc") ?_
  | refine s_set 9 (by assumption) (by assumption) (by with_reducible rfl) (by wtm_at "loc") ?_
  | refine s_set 10 (by assumption) (by assumption) (by with_reducible rfl) (by wtm_at "loc") ?_
  | refine s_set 11 (by assumption) (by assumption) (by with_reducible rfl) (by wtm_at "loc") ?_
  | refine s_set 12 (by assumption) (by assumption) (by with_reducible rfl) (by wtm_at "loc") ?_
  | refine s_set 13 (by assumption) (by assumption) (by with_reducible rfl) (by wtm_at "loc") ?_
  | refine s_set 14 (by assumption) (by assumption) (by with_reducible rfl) (by wtm_at "loc") ?_
  | refine s_set 15 (by assumption) (by assumption) (by with_reducible rfl) (by wtm_at "loc") ?_
  | refine s_set 16 (by assumption) (by assumption) (by with_reducible rfl) (by wtm_at "loc") ?_
  | refine s_set 17 (by assumption) (by assumption) (by with_reducible rfl) (by wtm_at "loc") ?_
  | refine s_set 18 (by assumption) (by assumption) (by with_reducible rfl) (by wtm_at "loc") ?_
  | refine s_set 19 (by assumption) (by assumption) (by with_reducible rfl) (by wtm_at "loc") ?_
  | refine s_set 20 (by assumption) (by assumption) (by with_reducible rfl) (by wtm_at "loc") ?_
  | refine s_set 21 (by assumption) (by assumption) (by with_reducible rfl) (by wtm_at "loc") ?_
  | refine s_set 22 (by assumption) (by assumption) (by with_reducible rfl) (by wtm_at "loc") ?_
  | refine s_set 23 (by assumption) (by assumption) (by with_reducible rfl) (by wtm_at "loc") ?_)
local macro_rules | `(tactic| wtm_at "ex") => `(tactic| first
  | ((with_reducible show EX _ (PySem.Expr.Name "int" _) _ _); refine ex_ty (by assumption) (by rfl) bt_int ?_)
  | ((with_reducible show EX _ (PySem.Expr.Name "str" _) _ _); refine ex_ty (by assumption) (by rfl) bt_str ?_)
  | ((with_reducible show EX _ (PySem.Expr.Name "bool" _) _ _); refine ex_ty (by assumption) (by rfl) bt_bool ?_)
  | ((with_reducible show EX _ (PySem.Expr.Name "list" _) _ _); refine ex_ty (by assumption) (by rfl) bt_list ?_)
  | ((with_reducible show EX _ (PySem.Expr.Name "tuple" _) _ _); refine ex_ty (by assumption) (by rfl) bt_tuple ?_)
  | ((with_reducible show EX _ (PySem.Expr.Name _ _) _ _); first | wtm_at "nm" | refine ex_glob (by wtm_at "cal") (by rfl) ?_)
  | ((with_reducible show EX _ (PySem.Expr.Constant (PySem.Const.int _) _ _) _ _); refine ex_int ?_)
  | ((with_reducible show EX _ (PySem.Expr.Constant (PySem.Const.str _) _ _) _ _); refine ex_str ?_)
  | ((with_reducible show EX _ (PySem.Expr.Constant (PySem.Const.bool _) _ _) _ _); refine ex_bl ?_)
  | ((with_reducible show EX _ (PySem.Expr.Constant PySem.Const.none _ _) _ _); refine ex_non ?_)
  | ((with_reducible show EX _ (PySem.Expr.BinOp _ PySem.Operator.Add _ _) _ _); refine ex_bin od_add ?_)
  | ((with_reducible show EX _ (PySem.Expr.BinOp _ PySem.Operator.Sub _ _) _ _); refine ex_bin od_sub ?_)
  | ((with_reducible show EX _ (PySem.Expr.BinOp _ PySem.Operator.Mult _ _) _ _); refine ex_bin od_mul ?_)
  | ((with_reducible show EX _ (PySem.Expr.BinOp _ PySem.Operator.Mod _ _) _ _); refine ex_bin od_mod ?_)
  | ((with_reducible show EX _ (PySem.Expr.BinOp _ PySem.Operator.FloorDiv _ _) _ _); refine ex_bin od_fdiv ?_)
  | ((with_reducible show EX _ (PySem.Expr.BinOp _ PySem.Operator.Pow _ _) _ _); refine ex_bin od_pow ?_)
  | ((with_reducible show EX _ (PySem.Expr.Compare _ [PySem.CmpOp.Eq] _ _) _ _); refine ex_cmp od_eq ?_)
  | ((with_reducible show EX _ (PySem.Expr.Compare _ [PySem.CmpOp.NotEq] _ _) _ _); refine ex_cmp od_ne ?_)
  | ((with_reducible show EX _ (PySem.Expr.Compare _ [PySem.CmpOp.Lt] _ _) _ _); refine ex_cmp od_lt ?_)
  | ((with_reducible show EX _ (PySem.Expr.Compare _ [PySem.CmpOp.LtE] _ _) _ _); refine ex_cmp od_le ?_)
  | ((with_reducible show EX _ (PySem.Expr.Compare _ [PySem.CmpOp.Gt] _ _) _ _); refine ex_cmp od_gt ?_)
  | ((with_reducible show EX _ (PySem.Expr.Compare _ [PySem.CmpOp.GtE] _ _) _ _); refine ex_cmp od_ge ?_)
  | ((with_reducible show EX _ (PySem.Expr.Compare _ [PySem.CmpOp.Is] _ _) _ _); refine ex_cmp od_is ?_)
  | ((with_reducible show EX _ (PySem.Expr.Compare _ [PySem.CmpOp.IsNot] _ _) _ _); refine ex_cmp od_isnot ?_)
  | ((with_reducible show EX _ (PySem.Expr.Compare _ [PySem.CmpOp.LtE, PySem.CmpOp.LtE] _ _) _ _); refine ex_chain od_le od_le ?_)
  | ((with_reducible show EX _ (PySem.Expr.UnaryOp PySem.UnaryOp.USub _ _) _ _); refine ex_neg ?_)
  | ((with_reducible show EX _ (PySem.Expr.UnaryOp PySem.UnaryOp.Not _ _) _ _); refine ex_not ?_)
  | ((with_reducible show EX _ (PySem.Expr.BoolOp PySem.BoolOp.And (_ :: _ :: _) _) _ _); refine ex_and ?_)
  | ((with_reducible show EX _ (PySem.Expr.BoolOp PySem.BoolOp.Or (_ :: _ :: _) _) _ _); refine ex_or ?_)
  | ((with_reducible show EX _ (PySem.Expr.BoolOp _ [_] _) _ _); refine ex_one ?_)
  | ((with_reducible show EX _ (PySem.Expr.IfExp _ _ _ _) _ _); refine ex_ifExp ?_)
  | ((with_reducible show EX _ (PySem.Expr.Tuple _ _ _) _ _); refine ex_tup ?_)
  | ((with_reducible show EX _ (PySem.Expr.List _ _) _ _); refine ex_lst ?_)
  | ((with_reducible show AX _ (_ :: _) _ _); refine ax_cons ?_)
  | ((with_reducible show AX _ [] _ _); refine ax_nil ?_)
  | ((with_reducible show KX _ (_ :: _) _ _); refine kx_cons ?_)
  | ((with_reducible show KX _ [] _ _); refine kx_nil ?_)
  | ((with_reducible show EX _ (PySem.Expr.Call (PySem.Expr.Name "isinstance" _) [_, PySem.Expr.Tuple [_, _] _ _] [] _) _ _); refine ex_isi2 (by assumption) (by rfl) bt_isi ?_)
  | ((with_reducible show EX _ (PySem.Expr.Call (PySem.Expr.Name "isinstance" _) _ [] _) _ _); refine ex_bi bi_isi (by assumption) (by rfl) bt_isi ?_)
  | ((with_reducible show EX _ (PySem.Expr.Call (PySem.Expr.Name "len" _) _ [] _) _ _); refine ex_bi bi_len (by assumption) (by rfl) bt_len ?_)
  | ((with_reducible show EX _ (PySem.Expr.Call (PySem.Expr.Name "abs" _) _ [] _) _ _); refine ex_bi bi_abs (by assumption) (by rfl) bt_abs ?_)
  | ((with_reducible show EX _ (PySem.Expr.Call (PySem.Expr.Name "all" _) _ [] _) _ _); refine ex_bi (bi_all rfl) (by assumption) (by rfl) bt_all ?_)
  | ((with_reducible show EX _ (PySem.Expr.Call (PySem.Expr.Name "int" _) _ [] _) _ _); refine ex_bt bi_int (by assumption) (by rfl) bt_int ?_)
  | ((with_reducible show EX _ (PySem.Expr.Call (PySem.Expr.Name "str" _) _ [] _) _ _); refine ex_bt bi_str (by assumption) (by rfl) bt_str ?_)
  | ((with_reducible show EX _ (PySem.Expr.Call (PySem.Expr.Name "list" _) _ [] _) _ _); refine ex_bt bi_list (by assumption) (by rfl) bt_list ?_)
  | ((with_reducible show EX _ (PySem.Expr.Call (PySem.Expr.Name "tuple" _) _ [] _) _ _); refine ex_bt bi_tuple (by assumption) (by rfl) bt_tuple ?_)
  | ((with_reducible show EX _ (PySem.Expr.Call (PySem.Expr.Name "gcd" _) _ [] _) _ _); refine ex_bf bi_gcd (by assumption) (by rfl) ?_)
  | ((with_reducible show EX _ (PySem.Expr.Call (PySem.Expr.Name _ _) (_ :: _) [] _) _ _); refine ex_call (by wtm_at "cal") (by rfl) ?_)
  | ((with_reducible show EX _ (PySem.Expr.Call (PySem.Expr.Name _ _) [] (_ :: _) _) _ _); refine ex_callK0 (by wtm_at "cal") (by rfl) ?_)
  | ((with_reducible show EX _ (PySem.Expr.Call (PySem.Expr.Name _ _) (_ :: _) (_ :: _) _) _ _); refine ex_callK (by wtm_at "cal") (by rfl) ?_)
  | ((with_reducible show EX _ (PySem.Expr.Subscript _ _ _) _ _); refine ex_ix ?_))
local macro_rules | `(tactic| wtm_at "tx") => `(tactic| first
  | ((with_reducible show TX _ (PySem.Expr.Compare _ [PySem.CmpOp.Eq] _ _) _ _); refine tx_cmp od_eq ?_)
  | ((with_reducible show TX _ (PySem.Expr.Compare _ [PySem.CmpOp.NotEq] _ _) _ _); refine tx_cmp od_ne ?_)
  | ((with_reducible show TX _ (PySem.Expr.Compare _ [PySem.CmpOp.Lt] _ _) _ _); refine tx_cmp od_lt ?_)
  | ((with_reducible show TX _ (PySem.Expr.Compare _ [PySem.CmpOp.LtE] _ _) _ _); refine tx_cmp od_le ?_)
  | ((with_reducible show TX _ (PySem.Expr.Compare _ [PySem.CmpOp.Gt] _ _) _ _); refine tx_cmp od_gt ?_)
  | ((with_reducible show TX _ (PySem.Expr.Compare _ [PySem.CmpOp.GtE] _ _) _ _); refine tx_cmp od_ge ?_)
  | ((with_reducible show TX _ (PySem.Expr.Compare _ [PySem.CmpOp.Is] _ _) _ _); refine tx_cmp od_is ?_)
  | ((with_reducible show TX _ (PySem.Expr.Compare _ [PySem.CmpOp.IsNot] _ _) _ _); refine tx_cmp od_isnot ?_)
  | ((with_reducible show TX _ (PySem.Expr.Compare _ [PySem.CmpOp.LtE, PySem.CmpOp.LtE] _ _) _ _); refine tx_chain od_le od_le ?_)
  | ((with_reducible show TX _ (PySem.Expr.UnaryOp PySem.UnaryOp.Not _ _) _ _); refine tx_not ?_)
  | ((with_reducible show TX _ (PySem.Expr.BoolOp _ _ _) _ _); refine tx_w ?_)
  | ((with_reducible show TW _ (PySem.Expr.BoolOp PySem.BoolOp.And (_ :: _ :: _) _) _ _); refine tw_and ?_)
  | ((with_reducible show TW _ (PySem.Expr.BoolOp PySem.BoolOp.Or (_ :: _ :: _) _) _ _); refine tw_or ?_)
  | ((with_reducible show TW _ (PySem.Expr.BoolOp PySem.BoolOp.And [_] _) _ _); refine tw_and1 ?_)
  | ((with_reducible show TW _ (PySem.Expr.BoolOp PySem.BoolOp.Or [_] _) _ _); refine tw_or1 ?_)
  | ((with_reducible show TX _ _ _ _); refine tx_truth ?_))
local macro_rules | `(tactic| wtm_at "st") => `(tactic| first
  | ((with_reducible show SX _ [_] _ _); refine sx_one ?_)
  | ((with_reducible show SX _ (_ :: _) _ _); refine sx_cons ?_)
  | ((with_reducible show SX _ [] _ _); refine sx_nil ?_)
  | ((with_reducible show S1 _ (PySem.Stmt.Return (some _) _) _ _); refine s_ret ?_)
  | ((with_reducible show S1 _ (PySem.Stmt.If _ _ _ _) _ _); refine s_if ?_)
  | ((with_reducible show S1 _ (PySem.Stmt.Expr _ _) _ _); refine s_expr ?_)
  | ((with_reducible show S1 _ (PySem.Stmt.Pass _) _ _); refine s_pass ?_)
  | ((with_reducible show S1 _ (PySem.Stmt.Assign [PySem.Expr.Name _ _] _ _) _ _); wtm_at "set"))
local macro_rules | `(tactic| wtm_at "op") => `(tactic| with_reducible first
  | refine o_add ?_
  | refine o_sub ?_
  | refine o_lt ?_
  | refine o_le ?_
  | refine o_gt ?_
  | refine o_ge ?_
  | refine o_is ?_
  | refine o_isnot ?_
  | refine o_lenl ?_
  | refine o_lent ?_
  | refine o_abs ?_
  | refine o_int ?_
  | refine o_listl ?_
  | refine o_listt ?_
  | refine o_tupl ?_
  | refine o_tupt ?_
  | refine o_all ?_
  | refine o_gcd ?_
  | refine o_asB ?_
  | refine o_asI ?_
  | refine o_asL ?_
  | refine o_asT ?_
  | refine o_truB ?_
  | refine o_truN ?_
  | refine o_truL ?_
  | refine o_truT ?_
  | refine if_t ?_
  | refine if_f ?_
  | refine if_nf ?_
  | refine if_nt ?_)
local macro_rules | `(tactic| wtm_at "op2") => `(tactic| first
  | ((with_reducible show if _ = true then _ else _); first | refine if_ev_t rfl ?_ | refine if_ev_f rfl ?_)
  | ((with_reducible show wIsi [_, D.ty _] _); refine o_isi rfl (by wtm_at "kb") ?_)
  | ((with_reducible show wEq _ _ _); refine o_eq rfl ?_)
  | ((with_reducible show wNe _ _ _); refine o_ne rfl ?_)
  | ((with_reducible show wIx (D.lst _) (D.int _) _); refine o_ixl rfl ?_)
  | ((with_reducible show wIx (D.tup _) (D.int _) _); refine o_ixt rfl ?_)
  | ((with_reducible show wPow _ _ _); refine o_pow ⟨by decide, by decide, by decide⟩ ?_)
  | ((with_reducible show (_ ≤ 100000) ∧ _); refine ⟨Nat.le_of_ble_eq_true rfl, ?_⟩)
  | ((with_reducible show ∃ n1 n2 t k1 k2, _); refine o_isi2 rfl (by wtm_at "kb") (by wtm_at "kb") ?_))
local macro_rules | `(tactic| wtm_at "go") => `(tactic| first | wtm_at "ex" | wtm_at "op" | wtm_at "op2" | wtm_at "tx" | wtm_at "st")
local macro_rules | `(tactic| wtm_at "ex") => `(tactic| first
  | ((with_reducible show EX _ (PySem.Expr.Compare _ [PySem.CmpOp.In] _ _) _ _); refine ex_cmp od_in ?_)
  | ((with_reducible show EX _ (PySem.Expr.Attribute _ _ _) _ _); refine ex_fld ?_)
  | ((with_reducible show EX _ (PySem.Expr.Call (PySem.Expr.Name _ _) (_ :: _) [] _) _ _); refine ex_make (by assumption) (by rfl) ?_)
  | ((with_reducible show EX _ (PySem.Expr.Call (PySem.Expr.Name _ _) [] [] _) _ _); first | refine ex_make0 (by assumption) (by rfl) ?_ | refine ex_call0 (by wtm_at "cal") (by rfl) ?_))
local macro_rules | `(tactic| wtm_at "op2") => `(tactic| first
  | ((with_reducible show wIn (D.str _) (D.lst _) _); refine o_in rfl ?_))
local macro_rules | `(tactic| wtm_at "tx") => `(tactic| first
  | ((with_reducible show TX _ (PySem.Expr.Compare _ [PySem.CmpOp.In] _ _) _ _); refine tx_cmp od_in ?_))
/-! ### the defs of the text -/
def FdAt (K : PySem.W.Frag) (f : Addr) (fd : FuncData) : Prop := ∃ oc od sl, K.lookup f = some ⟨oc, od, .func fd, sl⟩
theorem FdAt.eq {K f fd fd'} (h : FdAt K f fd) (h' : FdAt K f fd') : fd = fd' := by
  obtain ⟨_, _, _, h⟩ := h
  obtain ⟨_, _, _, h'⟩ := h'
  rw [h] at h'
  injection h' with h'
  injection h' with _ _ h'
  injection h'
theorem _root_.L2.Fun.at {K x q st f fd} (F : Fun K x q st f fd) : FdAt K f fd := by
  obtain ⟨oc, od, _, _, _, _, _, _, sl, _, h, _⟩ := F.ex
  exact ⟨oc, od, sl, h⟩
structure Df (P : Program) (w : World) (K : PySem.W.Frag) (mg : Str → Option Value) (base : Heap) (x : Str) (W : WA) (k : Nat) : Prop where
  ex : ∃ (f : Addr) (fd : FuncData) (ps : List Str) (n : Nat), FnOk P w K mg base CX0 k f fd ps (spW K W n) ∧ mg x = some (.ref f) ∧ PySem.W.keepIn K (.ref f) = true ∧ Binds K fd ps [] ∧ FdAt K f fd ∧ fd.params.args.map (·.arg) = ps ∧ ∀ es Po', W es Po' → es.length = n
theorem Df.call {X : Cx} {x : Str} {W : WA} {k j : Nat} (d : Df X.prog X.w X.K X.mg X.base x W j) (hr : Room k X.A) (h : j ≤ k := by decide) : CallOk X x W := by
  obtain ⟨f, fd, ps, n, F, hm, hk, hb, _, _, hn⟩ := d.ex
  exact ⟨_, f, fd, ps, n, W, [], [], [], F, hr.mono h, hm, hk, hb, .nil, fun _ _ _ => .nil, fun es P h => by rw [List.append_nil]; exact ⟨hn es P h, h⟩⟩
/-- a def of the top, as it stands -/
structure Top (K : PySem.W.Frag) (mg : Str → Option Value) (x : Str) (st : Stmt) (ps : List Str) : Prop where
  ex : ∃ (f : Addr) (fd : FuncData), Fun K x x st f fd ∧ mg x = some (.ref f) ∧ Binds K fd ps []
section
variable {P : Program} {w : World} {K : PySem.W.Frag} {mg : Str → Option Value} {base : Heap}
/-- a def keeps W if its body does, whatever stands around -/
theorem Top.df {x : Str} {st : Stmt} {ps N : List Str} {W : WA} {k : Nat} (T : Top K mg x st ps) (S : FnScope N ps (defScope st)) (hn : ∀ es Po', W es Po' → es.length = ps.length)
    (h : ∀ (f : Addr) (cdv : Value) (A : Around) (outer : List Env) (s : Shared) (H : Hp) (E : XK), Room k (A.deeper (envOfC x (defScope st) s.heap.objs.size f cdv)) → N.Nodup → ∀ ds Po', W ds Po' → ds.length = ps.length →
      SX (cxOf CX0 P w K mg base N x (defScope st) f cdv A outer s H E).nox (defBody st) (startE N ds) { nx := fun _ => Po' .non, rt := Po' }) (hps : (defArgs st).args.map (·.arg) = ps := by rfl) : Df P w K mg base x W (k + 1) := by
  obtain ⟨f, fd, F, hm, hb⟩ := T.ex
  exact ⟨f, fd, ps, ps.length, F.ok S (fun vs H Q E h => h.1) fun cdv A outer s H vs Q E hr hs => fn_body hs fun ds Po' hw hl => h f cdv A outer s H E hr S.nd ds Po' hw hl, hm, F.kp, hb, F.at, by obtain ⟨oc, od, kV, doc, pm, an, cdv, ct, osl, rfl, _⟩ := F.ex; exact hps, hn⟩
end
/-- plain data: what isinstance tells of it -/
def plain : D → Bool
  | .non | .bl _ | .int _ | .str _ | .tup _ | .lst _ => true
  | _ => false
abbrev sOf : Stmt := topS 35
abbrev sSame : Stmt := topS 36
abbrev sCopied : Stmt := topS 1
theorem scOf : FnScope ["_law_src", "_law_things7"] ["_law_src", "_law_things7"] (defScope sOf) := ⟨rfl, rfl, rfl, by decide +kernel, rfl, by decide +kernel, by decide +kernel⟩
theorem scSame : FnScope ["_law_found", "_law_due", "_law_part7", "_law_late7"] ["_law_found", "_law_due"] (defScope sSame) := ⟨rfl, rfl, rfl, by decide +kernel, rfl, by decide +kernel, by decide +kernel⟩
theorem scCopied : FnScope ["value", "item"] ["value"] (defScope sCopied) := ⟨rfl, rfl, rfl, by decide +kernel, rfl, by decide +kernel, by decide +kernel⟩
/-- one of a list's items -/
def Wof : WA := fun ds P => ∃ l, ds = [.src, .lst l] ∧ l ≠ [] ∧ l.length ≤ 100000 ∧ ∀ d ∈ l, P d
/-- plain data of a depth -/
def shp : Nat → D → Bool
  | _, .non | _, .bl _ | _, .int _ | _, .str _ => true
  | n + 1, .tup l => decide (l.length ≤ 100000) && l.all (shp n)
  | n + 1, .lst l => decide (l.length ≤ 100000) && l.all (shp n)
  | _, _ => false
def Wsame (n : Nat) : WA := fun ds P => ∃ d, ds = [d, d] ∧ shp n d = true ∧ P (.bl true)
section
variable {P : Program} {w : World} {K : PySem.W.Frag} {mg : Str → Option Value} {base : Heap}
theorem df_draw (T : Top K mg "_law_draw" sDraw ["_law_src", "_law_many7"]) (ml : mg "len" = none) (mi : mg "int" = none) : Df P w K mg base "_law_draw" Wdraw 1 := by
  obtain ⟨f, fd, F, hm, hb⟩ := T.ex
  exact ⟨f, fd, _, 2, ok_draw F ml mi, hm, F.kp, hb, F.at, by obtain ⟨oc, od, kV, doc, pm, an, cdv, ct, osl, rfl, _⟩ := F.ex; rfl, fun _ _ ⟨_, h, _⟩ => by rw [h]; rfl⟩
theorem df_of (T : Top K mg "_law_of" sOf ["_law_src", "_law_things7"]) (m1 : mg "len" = none) (d1 : Df P w K mg base "_law_draw" Wdraw 1) : Df P w K mg base "_law_of" Wof 2 :=
  T.df scOf (fun _ _ ⟨_, h, _⟩ => by rw [h]; rfl) fun f cdv A outer s H E hr hnd ds Po' hw hl => by
  obtain ⟨l, rfl, hne, hlen, hP⟩ := hw
  have hX : (cxOf CX0 P w K mg base ["_law_src", "_law_things7"] "_law_of" (defScope sOf) f cdv A outer s H E).nox.N = (["_law_src", "_law_things7"] : List Str) := rfl
  have c1 : CallOk (cxOf CX0 P w K mg base ["_law_src", "_law_things7"] "_law_of" (defScope sOf) f cdv A outer s H E).nox "_law_draw" Wdraw := d1.call hr
  show SX _ (_ :: _) [_, _] _
  repeat wtm_at "go"
  have h0 : 0 < l.length := List.length_pos_iff.mpr hne
  refine ⟨_, rfl, by omega, ?_, fun k h1 h2 => ?_⟩
  · exact Nat.lt_of_le_of_lt (show ((l.length : Int)).natAbs ≤ 100000 by omega) (Nat.lt_of_lt_of_le (show 100000 < 2 ^ 20 by decide) (Nat.pow_le_pow_right (by decide) (by decide)))
  · obtain ⟨j, rfl⟩ : ∃ j : Nat, k = (j : Int) := ⟨k.toNat, by omega⟩
    have hj : j < l.length := by omega
    exact ⟨l[j], atI_nat (List.getElem?_eq_getElem hj), hP _ (List.getElem_mem hj)⟩
end
section
variable {P : Program} {w : World} {K : PySem.W.Frag} {mg : Str → Option Value} {base : Heap}
theorem zip_self {l : List D} {i : Nat} {d : D} (h : (zipD l l)[i]? = some d) : ∃ x ∈ l, d = .tup [x, x] := by
  unfold zipD at h
  rw [List.getElem?_map] at h
  cases e : (l.zip l)[i]? with
  | none => rw [e] at h; cases h
  | some q =>
    rw [e] at h
    obtain ⟨a, b⟩ := q
    obtain ⟨h1, h2⟩ := (List.getElem?_zip_eq_some (z := (a, b))).mp e
    have e' : a = b := Option.some.inj (h1.symm.trans h2)
    subst e'
    exact ⟨a, List.mem_of_getElem? h1, (Option.some.inj h).symm⟩
abbrev nSame : List Str := ["_law_found", "_law_due", "_law_part7", "_law_late7"]
abbrev oSame : List (Str × Nat) := [("_law_part7", 2), ("_law_late7", 3)]
theorem two_len : ∀ (ds : List D) (Γ : List G.E) (P : List G.E → Prop), gdCons (gdN 2) (gdCons (gdN 3) gdNil) ds Γ P → ds.length = 2 := fun ds Γ P h => by
  obtain ⟨a, r, rfl, b, r2, rfl, rfl, _⟩ := h
  rfl
theorem shp_plain {n : Nat} {d : D} (h : shp n d = true) : plain d = true := by
  cases n <;> cases d <;> first | rfl | exact Bool.noConfusion h
set_option maxHeartbeats 16000000 in
theorem df_same (T : Top K mg "_law_same" sSame ["_law_found", "_law_due"]) (m1 : mg "isinstance" = none) (m2 : mg "list" = none) (m3 : mg "tuple" = none) (m4 : mg "len" = none) (m5 : mg "all" = none) (m6 : mg "zip" = none)
    (m7 : mg "bool" = none) (m8 : mg "int" = none) (m9 : mg "str" = none) : ∀ n, Df P w K mg base "_law_same" (Wsame n) (n + 1) := by
  intro n
  induction n with
  | zero =>
    refine T.df scSame (fun _ _ ⟨_, h, _⟩ => by rw [h]; rfl) fun f cdv A outer s H E hr hnd ds Po' hw hl => ?_
    obtain ⟨d, rfl, hs, hP⟩ := hw
    have hX : (cxOf CX0 P w K mg base nSame "_law_same" (defScope sSame) f cdv A outer s H E).nox.N = nSame := rfl
    show SX _ (_ :: _) [_, _, _, _] _
    cases d <;> try exact Bool.noConfusion hs
    all_goals (repeat wtm_at "go")
    all_goals first | exact hP | simpa using hP
  | succ n ih =>
    refine T.df scSame (fun _ _ ⟨_, h, _⟩ => by rw [h]; rfl) fun f cdv A outer s H E hr hnd ds Po' hw hl => ?_
    obtain ⟨d, rfl, hs, hP⟩ := hw
    have hX : (cxOf CX0 P w K mg base nSame "_law_same" (defScope sSame) f cdv A outer s H E).nox.N = nSame := rfl
    have c1 : CallOk (cxOf CX0 P w K mg base nSame "_law_same" (defScope sSame) f cdv A outer s H E).nox "_law_same" (Wsame n) := ih.call hr (Nat.le_refl _)
    show SX _ (_ :: _) [_, _, _, _] _
    cases d <;> try exact Bool.noConfusion hs
    all_goals (repeat wtm_at "go")
    case tup l =>
      have hs' : l.length ≤ 100000 ∧ ∀ x ∈ l, shp n x = true := by simpa [shp] using hs
      refine if_dec (fun _ => ?_) fun h => absurd rfl h
      repeat wtm_at "go"
      refine ex_lc (own := oSame) (js := [2, 3]) rfl hnd (blkOk_by (N := nSame) (sc := defScope sSame) (by decide +kernel)) (fun _ _ _ _ _ => pg_tup rfl (pgs_cons (pg_name (i := 2) hnd rfl (Or.inl rfl)) (pgs_cons (pg_name (i := 3) hnd rfl (Or.inl rfl)) pgs_nil)))
        (tg_tup (tgs_cons (tg_name 2) (tgs_cons (tg_name 3) tgs_nil)) two_len) (by decide) (by decide) [.is (.tup l), .is (.tup l), .no, .no] rfl ?_
      refine wx_zipT (by assumption) (by rfl) ?_
      repeat wtm_at "go"
      refine ⟨l, l, rfl, ?_, fun i es => es = List.replicate i (.bl true), rfl, fun i d es hd he => ?_, fun es he => ?_⟩
      · rw [zipD_len]; omega
      · obtain ⟨x, hx, rfl⟩ := zip_self hd
        subst he
        refine ⟨[x, x], rfl, x, [x], rfl, x, [], rfl, rfl, ?_⟩
        show EB _ _ _ _ _
        intro s0 H0 C cl fp
        repeat wtm_at "go"
        refine ⟨x, rfl, hs'.2 x hx, ?_⟩
        show List.replicate i (D.bl true) ++ [D.bl true] = _
        rw [List.replicate_succ']
      · subst he
        repeat wtm_at "go"
        refine ⟨List.replicate _ true, by rw [List.map_replicate], ?_⟩
        simpa using hP
    case lst l =>
      have hs' : l.length ≤ 100000 ∧ ∀ x ∈ l, shp n x = true := by simpa [shp] using hs
      refine if_dec (fun _ => ?_) fun h => absurd rfl h
      repeat wtm_at "go"
      refine ex_lc (own := oSame) (js := [2, 3]) rfl hnd (blkOk_by (N := nSame) (sc := defScope sSame) (by decide +kernel)) (fun _ _ _ _ _ => pg_tup rfl (pgs_cons (pg_name (i := 2) hnd rfl (Or.inl rfl)) (pgs_cons (pg_name (i := 3) hnd rfl (Or.inl rfl)) pgs_nil)))
        (tg_tup (tgs_cons (tg_name 2) (tgs_cons (tg_name 3) tgs_nil)) two_len) (by decide) (by decide) [.is (.lst l), .is (.lst l), .no, .no] rfl ?_
      refine wx_zipL (by assumption) (by rfl) ?_
      repeat wtm_at "go"
      refine ⟨l, l, rfl, ?_, fun i es => es = List.replicate i (.bl true), rfl, fun i d es hd he => ?_, fun es he => ?_⟩
      · rw [zipD_len]; omega
      · obtain ⟨x, hx, rfl⟩ := zip_self hd
        subst he
        refine ⟨[x, x], rfl, x, [x], rfl, x, [], rfl, rfl, ?_⟩
        show EB _ _ _ _ _
        intro s0 H0 C cl fp
        repeat wtm_at "go"
        refine ⟨x, rfl, hs'.2 x hx, ?_⟩
        show List.replicate i (D.bl true) ++ [D.bl true] = _
        rw [List.replicate_succ']
      · subst he
        repeat wtm_at "go"
        refine ⟨List.replicate _ true, by rw [List.map_replicate], ?_⟩
        simpa using hP
    all_goals first | exact hP | simpa using hP
end
def Wcopied (n : Nat) : WA := fun ds P => ∃ d, ds = [d] ∧ shp n d = true ∧ P d
abbrev nCop : List Str := ["value", "item"]
section
variable {P : Program} {w : World} {K : PySem.W.Frag} {mg : Str → Option Value} {base : Heap}
theorem df_copied (T : Top K mg "copied" sCopied ["value"]) (m1 : mg "isinstance" = none) (m2 : mg "list" = none) (m3 : mg "tuple" = none) : ∀ n, Df P w K mg base "copied" (Wcopied n) (n + 1) := by
  intro n
  induction n with
  | zero =>
    refine T.df scCopied (fun _ _ ⟨_, h, _⟩ => by rw [h]; rfl) fun f cdv A outer s H E hr hnd ds Po' hw hl => ?_
    obtain ⟨d, rfl, hs, hP⟩ := hw
    have hX : (cxOf CX0 P w K mg base nCop "copied" (defScope sCopied) f cdv A outer s H E).nox.N = nCop := rfl
    show SX _ (_ :: _) [_, _] _
    cases d <;> try exact Bool.noConfusion hs
    all_goals (repeat wtm_at "go")
    all_goals exact hP
  | succ n ih =>
    refine T.df scCopied (fun _ _ ⟨_, h, _⟩ => by rw [h]; rfl) fun f cdv A outer s H E hr hnd ds Po' hw hl => ?_
    obtain ⟨d, rfl, hs, hP⟩ := hw
    have hX : (cxOf CX0 P w K mg base nCop "copied" (defScope sCopied) f cdv A outer s H E).nox.N = nCop := rfl
    have c1 : CallOk (cxOf CX0 P w K mg base nCop "copied" (defScope sCopied) f cdv A outer s H E).nox "copied" (Wcopied n) := ih.call hr (Nat.le_refl _)
    show SX _ (_ :: _) [_, _] _
    cases d <;> try exact Bool.noConfusion hs
    all_goals (repeat wtm_at "go")
    case tup l =>
      have hs' : l.length ≤ 100000 ∧ ∀ x ∈ l, shp n x = true := by simpa [shp] using hs
      refine ex_lc (own := [("item", 1)]) (js := [1]) rfl hnd (blkOk_by (N := nCop) (sc := defScope sCopied) (by decide +kernel)) (fun _ _ _ _ _ => pg_name (i := 1) hnd rfl (Or.inl rfl))
        (tg_name 1) (by decide) (by decide) [.is (.tup l), .no] rfl ?_
      refine wx_tup ?_
      repeat wtm_at "go"
      refine ⟨Nat.le_trans hs'.1 (by decide), fun i es => es = l.take i, rfl, fun i d es hd he => ?_, fun es he => ?_⟩
      · subst he
        show EB _ _ _ _ _
        intro s0 H0 C cl fp
        repeat wtm_at "go"
        refine ⟨d, rfl, hs'.2 d (List.mem_of_getElem? hd), ?_⟩
        show l.take i ++ [d] = l.take (i + 1)
        rw [List.take_add_one, hd]
        rfl
      · subst he
        rw [List.take_length]
        repeat wtm_at "go"
        exact hP
    case lst l =>
      have hs' : l.length ≤ 100000 ∧ ∀ x ∈ l, shp n x = true := by simpa [shp] using hs
      refine ex_lc (own := [("item", 1)]) (js := [1]) rfl hnd (blkOk_by (N := nCop) (sc := defScope sCopied) (by decide +kernel)) (fun _ _ _ _ _ => pg_name (i := 1) hnd rfl (Or.inl rfl))
        (tg_name 1) (by decide) (by decide) [.is (.lst l), .no] rfl ?_
      refine wx_list ?_
      repeat wtm_at "go"
      refine ⟨Nat.le_trans hs'.1 (by decide), fun i es => es = l.take i, rfl, fun i d es hd he => ?_, fun es he => ?_⟩
      · subst he
        show EB _ _ _ _ _
        intro s0 H0 C cl fp
        repeat wtm_at "go"
        refine ⟨d, rfl, hs'.2 d (List.mem_of_getElem? hd), ?_⟩
        show l.take i ++ [d] = l.take (i + 1)
        rw [List.take_add_one, hd]
        rfl
      · subst he
        rw [List.take_length]
        exact hP
    all_goals exact hP
end
/-! ### the classes, in the order of their codes -/
def clsS (i : Nat) : Stmt := match topS i with
  | .ClassDef _ _ _ body _ _ _ _ _ _ _ => body.getD 0 (.Pass ⟨0, 0, 0, 0⟩)
  | s => s
def codeT : List Str := ["InvalidName", "InvalidPart", "InvalidTrait", "InvalidPerson", "InvalidEntry", "InvalidNumber", "InvalidRow", "InvalidProgram", "TooWide", "TooLarge", "TooMany", "InvalidWeb", "InvalidWave", "InvalidSight", "Unseen", "Barred", "InvalidDrawing", "NotTold", "DuplicateName", "InvalidText", "InvalidPage", "UnlikeWorlds", "HasWishes", "NotSquare", "NotBelow", "UnknownName", "NothingLeft"]
def fldT : List (Option Str) := [some "name", some "index", some "index", some "given", some "given", some "given", some "index", some "path", some "most", some "most", some "most", some "given", some "index", some "index", some "web", some "web", some "index", some "given", some "name", some "position", some "line", none, none, none, none, some "name", none]
def codeA (i : Nat) : Str := codeT.getD i ""
def fldA (i : Nat) : Option Str := fldT.getD i none
abbrev sI0 : Stmt := clsS 4
abbrev sI1 : Stmt := clsS 5
abbrev sI2 : Stmt := clsS 6
abbrev sI3 : Stmt := clsS 7
abbrev sI4 : Stmt := clsS 8
abbrev sI5 : Stmt := clsS 9
abbrev sI6 : Stmt := clsS 10
abbrev sI7 : Stmt := clsS 11
abbrev sI8 : Stmt := clsS 12
abbrev sI9 : Stmt := clsS 13
abbrev sI10 : Stmt := clsS 14
abbrev sI11 : Stmt := clsS 15
abbrev sI12 : Stmt := clsS 16
abbrev sI13 : Stmt := clsS 17
abbrev sI14 : Stmt := clsS 20
abbrev sI15 : Stmt := clsS 21
abbrev sI16 : Stmt := clsS 24
abbrev sI17 : Stmt := clsS 25
abbrev sI18 : Stmt := clsS 26
abbrev sI19 : Stmt := clsS 27
abbrev sI20 : Stmt := clsS 28
abbrev sI21 : Stmt := clsS 18
abbrev sI22 : Stmt := clsS 19
abbrev sI23 : Stmt := clsS 22
abbrev sI24 : Stmt := clsS 23
abbrev sI25 : Stmt := clsS 30
abbrev sI26 : Stmt := clsS 31
theorem scI0 : FnScope ["self", "name"] ["self", "name"] (defScope sI0) := ⟨rfl, rfl, rfl, by decide +kernel, rfl, by decide +kernel, by decide +kernel⟩
theorem scI1 : FnScope ["self", "index"] ["self", "index"] (defScope sI1) := ⟨rfl, rfl, rfl, by decide +kernel, rfl, by decide +kernel, by decide +kernel⟩
theorem scI2 : FnScope ["self", "index"] ["self", "index"] (defScope sI2) := ⟨rfl, rfl, rfl, by decide +kernel, rfl, by decide +kernel, by decide +kernel⟩
theorem scI3 : FnScope ["self", "given"] ["self", "given"] (defScope sI3) := ⟨rfl, rfl, rfl, by decide +kernel, rfl, by decide +kernel, by decide +kernel⟩
theorem scI4 : FnScope ["self", "given"] ["self", "given"] (defScope sI4) := ⟨rfl, rfl, rfl, by decide +kernel, rfl, by decide +kernel, by decide +kernel⟩
theorem scI5 : FnScope ["self", "given"] ["self", "given"] (defScope sI5) := ⟨rfl, rfl, rfl, by decide +kernel, rfl, by decide +kernel, by decide +kernel⟩
theorem scI6 : FnScope ["self", "index"] ["self", "index"] (defScope sI6) := ⟨rfl, rfl, rfl, by decide +kernel, rfl, by decide +kernel, by decide +kernel⟩
theorem scI7 : FnScope ["self", "path"] ["self", "path"] (defScope sI7) := ⟨rfl, rfl, rfl, by decide +kernel, rfl, by decide +kernel, by decide +kernel⟩
theorem scI8 : FnScope ["self", "most"] ["self", "most"] (defScope sI8) := ⟨rfl, rfl, rfl, by decide +kernel, rfl, by decide +kernel, by decide +kernel⟩
theorem scI9 : FnScope ["self", "most"] ["self", "most"] (defScope sI9) := ⟨rfl, rfl, rfl, by decide +kernel, rfl, by decide +kernel, by decide +kernel⟩
theorem scI10 : FnScope ["self", "most"] ["self", "most"] (defScope sI10) := ⟨rfl, rfl, rfl, by decide +kernel, rfl, by decide +kernel, by decide +kernel⟩
theorem scI11 : FnScope ["self", "given"] ["self", "given"] (defScope sI11) := ⟨rfl, rfl, rfl, by decide +kernel, rfl, by decide +kernel, by decide +kernel⟩
theorem scI12 : FnScope ["self", "index"] ["self", "index"] (defScope sI12) := ⟨rfl, rfl, rfl, by decide +kernel, rfl, by decide +kernel, by decide +kernel⟩
theorem scI13 : FnScope ["self", "index"] ["self", "index"] (defScope sI13) := ⟨rfl, rfl, rfl, by decide +kernel, rfl, by decide +kernel, by decide +kernel⟩
theorem scI14 : FnScope ["self", "web"] ["self", "web"] (defScope sI14) := ⟨rfl, rfl, rfl, by decide +kernel, rfl, by decide +kernel, by decide +kernel⟩
theorem scI15 : FnScope ["self", "web"] ["self", "web"] (defScope sI15) := ⟨rfl, rfl, rfl, by decide +kernel, rfl, by decide +kernel, by decide +kernel⟩
theorem scI16 : FnScope ["self", "index"] ["self", "index"] (defScope sI16) := ⟨rfl, rfl, rfl, by decide +kernel, rfl, by decide +kernel, by decide +kernel⟩
theorem scI17 : FnScope ["self", "given"] ["self", "given"] (defScope sI17) := ⟨rfl, rfl, rfl, by decide +kernel, rfl, by decide +kernel, by decide +kernel⟩
theorem scI18 : FnScope ["self", "name"] ["self", "name"] (defScope sI18) := ⟨rfl, rfl, rfl, by decide +kernel, rfl, by decide +kernel, by decide +kernel⟩
theorem scI19 : FnScope ["self", "position"] ["self", "position"] (defScope sI19) := ⟨rfl, rfl, rfl, by decide +kernel, rfl, by decide +kernel, by decide +kernel⟩
theorem scI20 : FnScope ["self", "line"] ["self", "line"] (defScope sI20) := ⟨rfl, rfl, rfl, by decide +kernel, rfl, by decide +kernel, by decide +kernel⟩
theorem scI21 : FnScope ["self"] ["self"] (defScope sI21) := ⟨rfl, rfl, rfl, by decide +kernel, rfl, by decide +kernel, by decide +kernel⟩
theorem scI22 : FnScope ["self"] ["self"] (defScope sI22) := ⟨rfl, rfl, rfl, by decide +kernel, rfl, by decide +kernel, by decide +kernel⟩
theorem scI23 : FnScope ["self"] ["self"] (defScope sI23) := ⟨rfl, rfl, rfl, by decide +kernel, rfl, by decide +kernel, by decide +kernel⟩
theorem scI24 : FnScope ["self"] ["self"] (defScope sI24) := ⟨rfl, rfl, rfl, by decide +kernel, rfl, by decide +kernel, by decide +kernel⟩
theorem scI25 : FnScope ["self", "name"] ["self", "name"] (defScope sI25) := ⟨rfl, rfl, rfl, by decide +kernel, rfl, by decide +kernel, by decide +kernel⟩
theorem scI26 : FnScope ["self"] ["self"] (defScope sI26) := ⟨rfl, rfl, rfl, by decide +kernel, rfl, by decide +kernel, by decide +kernel⟩
/-- a class of the text -/
structure ClsA (K : PySem.W.Frag) (nm : Str) (a : Addr) (tl : List Value) : Prop where
  T : ExK K a
  ns : PySem.W.nsIn K mainGlobals nm = some (some (.ref a))
  mro : ∃ cd, PySem.W.clsIn K a = some cd ∧ cd.mro = .ref a :: tl
  ty : PySem.W.typeIn K (.ref a) = some (.type "type")
/-- its own __init__ -/
structure IniA (K : PySem.W.Frag) (a : Addr) (q : Str) (st : Stmt) (ps : List Str) : Prop where
  ex : ∃ (f : Addr) (fd : FuncData), PySem.W.findIn K (.ref a) "__init__" = some (some (.ref f)) ∧ PySem.W.typeIn K (.ref f) = some (.type "function") ∧ Fun K "__init__" q st f fd ∧ Binds K fd ps []
abbrev R1 (code : Str) : List D → List D → Prop := fun ds rs => ∃ d, ds = [d] ∧ shp 1 d = true ∧ rs = [.str code, d]
abbrev R0 (code : Str) : List D → List D → Prop := fun ds rs => ds = [] ∧ rs = [.str code]
/-- made in any context with room -/
structure MkA (P : Program) (w : World) (K : PySem.W.Frag) (mg : Str → Option Value) (base : Heap) (x : Str) (C : Addr) (n : Nat) (ns : List Str) (R : List D → List D → Prop) (k : Nat) : Prop where
  ex : ∃ (fI : Addr) (fd : FuncData) (ps : List Str), ExK K C ∧ PySem.W.findIn K (.ref C) "__init__" = some (some (.ref fI)) ∧ PySem.W.typeIn K (.ref fI) = some (.type "function") ∧ FnOk P w K mg base CX0 k fI fd ps (spInit K C n ns R) ∧ Binds K fd ps [] ∧ mg x = some (.ref C) ∧ n ≤ 900
theorem MkA.at {X : Cx} {x C n ns R j k} (m : MkA X.prog X.w X.K X.mg X.base x C n ns R j) (hr : Room k X.A) (h : j + 1 ≤ k := by decide) : MkOk X x C n ns R := by
  obtain ⟨fI, fd, ps, T, h1, h2, F, hb, hm, hn⟩ := m.ex
  exact ⟨j, fI, fd, ps, T, h1, h2, F, hr.mono h, hb, hm, hn⟩
section
variable {P : Program} {w : World} {K : PySem.W.Frag} {mg : Str → Option Value} {base : Heap}
theorem mk0 {a : Addr} {tl : List Value} (A : ClsA K "InvalidName" a tl) (I : IniA K a "InvalidName.__init__" sI0 ["self", "name"]) (hm : mg "InvalidName" = some (.ref a)) (h1 : PySem.W.findIn K (.ref a) "name" = some none) (h2 : PySem.W.findIn K (.ref a) "code" = some none) (dc : Df P w K mg base "copied" (Wcopied 1) 2) : MkA P w K mg base "InvalidName" a 1 ["code", "name"] (R1 "InvalidName") 3 := by
  obtain ⟨fI, fd, i1, i2, F, hb⟩ := I.ex
  refine ⟨fI, fd, _, A.T, i1, i2, F.ok (k := 2) scI0 (fun vs H Q E h => h.1) fun cdv AA outer s H vs Q Ex hr hs => ?_, hb, hm, by decide⟩
  have c1 : CallOk (cxOf CX0 P w K mg base ["self", "name"] "InvalidName.__init__" (defScope sI0) fI cdv AA outer s H Ex).nox "copied" (Wcopied 1) := dc.call hr (Nat.le_refl _)
  have hX : (cxOf CX0 P w K mg base ["self", "name"] "InvalidName.__init__" (defScope sI0) fI cdv AA outer s H Ex).nox.N = (["self", "name"] : List Str) := rfl
  exact init_two A.T h1 h2 (fun d hd => by (repeat wtm_at "go"); exact ⟨d, rfl, hd, rfl⟩) (pe_var (i := 0) rfl (.inl rfl)) (pe_var (i := 0) rfl (.inl rfl)) rfl rfl hs
theorem mk1 {a : Addr} {tl : List Value} (A : ClsA K "InvalidPart" a tl) (I : IniA K a "InvalidPart.__init__" sI1 ["self", "index"]) (hm : mg "InvalidPart" = some (.ref a)) (h1 : PySem.W.findIn K (.ref a) "index" = some none) (h2 : PySem.W.findIn K (.ref a) "code" = some none) (dc : Df P w K mg base "copied" (Wcopied 1) 2) : MkA P w K mg base "InvalidPart" a 1 ["code", "index"] (R1 "InvalidPart") 3 := by
  obtain ⟨fI, fd, i1, i2, F, hb⟩ := I.ex
  refine ⟨fI, fd, _, A.T, i1, i2, F.ok (k := 2) scI1 (fun vs H Q E h => h.1) fun cdv AA outer s H vs Q Ex hr hs => ?_, hb, hm, by decide⟩
  have c1 : CallOk (cxOf CX0 P w K mg base ["self", "index"] "InvalidPart.__init__" (defScope sI1) fI cdv AA outer s H Ex).nox "copied" (Wcopied 1) := dc.call hr (Nat.le_refl _)
  have hX : (cxOf CX0 P w K mg base ["self", "index"] "InvalidPart.__init__" (defScope sI1) fI cdv AA outer s H Ex).nox.N = (["self", "index"] : List Str) := rfl
  exact init_two A.T h1 h2 (fun d hd => by (repeat wtm_at "go"); exact ⟨d, rfl, hd, rfl⟩) (pe_var (i := 0) rfl (.inl rfl)) (pe_var (i := 0) rfl (.inl rfl)) rfl rfl hs
theorem mk2 {a : Addr} {tl : List Value} (A : ClsA K "InvalidTrait" a tl) (I : IniA K a "InvalidTrait.__init__" sI2 ["self", "index"]) (hm : mg "InvalidTrait" = some (.ref a)) (h1 : PySem.W.findIn K (.ref a) "index" = some none) (h2 : PySem.W.findIn K (.ref a) "code" = some none) (dc : Df P w K mg base "copied" (Wcopied 1) 2) : MkA P w K mg base "InvalidTrait" a 1 ["code", "index"] (R1 "InvalidTrait") 3 := by
  obtain ⟨fI, fd, i1, i2, F, hb⟩ := I.ex
  refine ⟨fI, fd, _, A.T, i1, i2, F.ok (k := 2) scI2 (fun vs H Q E h => h.1) fun cdv AA outer s H vs Q Ex hr hs => ?_, hb, hm, by decide⟩
  have c1 : CallOk (cxOf CX0 P w K mg base ["self", "index"] "InvalidTrait.__init__" (defScope sI2) fI cdv AA outer s H Ex).nox "copied" (Wcopied 1) := dc.call hr (Nat.le_refl _)
  have hX : (cxOf CX0 P w K mg base ["self", "index"] "InvalidTrait.__init__" (defScope sI2) fI cdv AA outer s H Ex).nox.N = (["self", "index"] : List Str) := rfl
  exact init_two A.T h1 h2 (fun d hd => by (repeat wtm_at "go"); exact ⟨d, rfl, hd, rfl⟩) (pe_var (i := 0) rfl (.inl rfl)) (pe_var (i := 0) rfl (.inl rfl)) rfl rfl hs
theorem mk3 {a : Addr} {tl : List Value} (A : ClsA K "InvalidPerson" a tl) (I : IniA K a "InvalidPerson.__init__" sI3 ["self", "given"]) (hm : mg "InvalidPerson" = some (.ref a)) (h1 : PySem.W.findIn K (.ref a) "given" = some none) (h2 : PySem.W.findIn K (.ref a) "code" = some none) (dc : Df P w K mg base "copied" (Wcopied 1) 2) : MkA P w K mg base "InvalidPerson" a 1 ["code", "given"] (R1 "InvalidPerson") 3 := by
  obtain ⟨fI, fd, i1, i2, F, hb⟩ := I.ex
  refine ⟨fI, fd, _, A.T, i1, i2, F.ok (k := 2) scI3 (fun vs H Q E h => h.1) fun cdv AA outer s H vs Q Ex hr hs => ?_, hb, hm, by decide⟩
  have c1 : CallOk (cxOf CX0 P w K mg base ["self", "given"] "InvalidPerson.__init__" (defScope sI3) fI cdv AA outer s H Ex).nox "copied" (Wcopied 1) := dc.call hr (Nat.le_refl _)
  have hX : (cxOf CX0 P w K mg base ["self", "given"] "InvalidPerson.__init__" (defScope sI3) fI cdv AA outer s H Ex).nox.N = (["self", "given"] : List Str) := rfl
  exact init_two A.T h1 h2 (fun d hd => by (repeat wtm_at "go"); exact ⟨d, rfl, hd, rfl⟩) (pe_var (i := 0) rfl (.inl rfl)) (pe_var (i := 0) rfl (.inl rfl)) rfl rfl hs
theorem mk4 {a : Addr} {tl : List Value} (A : ClsA K "InvalidEntry" a tl) (I : IniA K a "InvalidEntry.__init__" sI4 ["self", "given"]) (hm : mg "InvalidEntry" = some (.ref a)) (h1 : PySem.W.findIn K (.ref a) "given" = some none) (h2 : PySem.W.findIn K (.ref a) "code" = some none) (dc : Df P w K mg base "copied" (Wcopied 1) 2) : MkA P w K mg base "InvalidEntry" a 1 ["code", "given"] (R1 "InvalidEntry") 3 := by
  obtain ⟨fI, fd, i1, i2, F, hb⟩ := I.ex
  refine ⟨fI, fd, _, A.T, i1, i2, F.ok (k := 2) scI4 (fun vs H Q E h => h.1) fun cdv AA outer s H vs Q Ex hr hs => ?_, hb, hm, by decide⟩
  have c1 : CallOk (cxOf CX0 P w K mg base ["self", "given"] "InvalidEntry.__init__" (defScope sI4) fI cdv AA outer s H Ex).nox "copied" (Wcopied 1) := dc.call hr (Nat.le_refl _)
  have hX : (cxOf CX0 P w K mg base ["self", "given"] "InvalidEntry.__init__" (defScope sI4) fI cdv AA outer s H Ex).nox.N = (["self", "given"] : List Str) := rfl
  exact init_two A.T h1 h2 (fun d hd => by (repeat wtm_at "go"); exact ⟨d, rfl, hd, rfl⟩) (pe_var (i := 0) rfl (.inl rfl)) (pe_var (i := 0) rfl (.inl rfl)) rfl rfl hs
theorem mk5 {a : Addr} {tl : List Value} (A : ClsA K "InvalidNumber" a tl) (I : IniA K a "InvalidNumber.__init__" sI5 ["self", "given"]) (hm : mg "InvalidNumber" = some (.ref a)) (h1 : PySem.W.findIn K (.ref a) "given" = some none) (h2 : PySem.W.findIn K (.ref a) "code" = some none) (dc : Df P w K mg base "copied" (Wcopied 1) 2) : MkA P w K mg base "InvalidNumber" a 1 ["code", "given"] (R1 "InvalidNumber") 3 := by
  obtain ⟨fI, fd, i1, i2, F, hb⟩ := I.ex
  refine ⟨fI, fd, _, A.T, i1, i2, F.ok (k := 2) scI5 (fun vs H Q E h => h.1) fun cdv AA outer s H vs Q Ex hr hs => ?_, hb, hm, by decide⟩
  have c1 : CallOk (cxOf CX0 P w K mg base ["self", "given"] "InvalidNumber.__init__" (defScope sI5) fI cdv AA outer s H Ex).nox "copied" (Wcopied 1) := dc.call hr (Nat.le_refl _)
  have hX : (cxOf CX0 P w K mg base ["self", "given"] "InvalidNumber.__init__" (defScope sI5) fI cdv AA outer s H Ex).nox.N = (["self", "given"] : List Str) := rfl
  exact init_two A.T h1 h2 (fun d hd => by (repeat wtm_at "go"); exact ⟨d, rfl, hd, rfl⟩) (pe_var (i := 0) rfl (.inl rfl)) (pe_var (i := 0) rfl (.inl rfl)) rfl rfl hs
theorem mk6 {a : Addr} {tl : List Value} (A : ClsA K "InvalidRow" a tl) (I : IniA K a "InvalidRow.__init__" sI6 ["self", "index"]) (hm : mg "InvalidRow" = some (.ref a)) (h1 : PySem.W.findIn K (.ref a) "index" = some none) (h2 : PySem.W.findIn K (.ref a) "code" = some none) (dc : Df P w K mg base "copied" (Wcopied 1) 2) : MkA P w K mg base "InvalidRow" a 1 ["code", "index"] (R1 "InvalidRow") 3 := by
  obtain ⟨fI, fd, i1, i2, F, hb⟩ := I.ex
  refine ⟨fI, fd, _, A.T, i1, i2, F.ok (k := 2) scI6 (fun vs H Q E h => h.1) fun cdv AA outer s H vs Q Ex hr hs => ?_, hb, hm, by decide⟩
  have c1 : CallOk (cxOf CX0 P w K mg base ["self", "index"] "InvalidRow.__init__" (defScope sI6) fI cdv AA outer s H Ex).nox "copied" (Wcopied 1) := dc.call hr (Nat.le_refl _)
  have hX : (cxOf CX0 P w K mg base ["self", "index"] "InvalidRow.__init__" (defScope sI6) fI cdv AA outer s H Ex).nox.N = (["self", "index"] : List Str) := rfl
  exact init_two A.T h1 h2 (fun d hd => by (repeat wtm_at "go"); exact ⟨d, rfl, hd, rfl⟩) (pe_var (i := 0) rfl (.inl rfl)) (pe_var (i := 0) rfl (.inl rfl)) rfl rfl hs
theorem mk7 {a : Addr} {tl : List Value} (A : ClsA K "InvalidProgram" a tl) (I : IniA K a "InvalidProgram.__init__" sI7 ["self", "path"]) (hm : mg "InvalidProgram" = some (.ref a)) (h1 : PySem.W.findIn K (.ref a) "path" = some none) (h2 : PySem.W.findIn K (.ref a) "code" = some none) (dc : Df P w K mg base "copied" (Wcopied 1) 2) : MkA P w K mg base "InvalidProgram" a 1 ["code", "path"] (R1 "InvalidProgram") 3 := by
  obtain ⟨fI, fd, i1, i2, F, hb⟩ := I.ex
  refine ⟨fI, fd, _, A.T, i1, i2, F.ok (k := 2) scI7 (fun vs H Q E h => h.1) fun cdv AA outer s H vs Q Ex hr hs => ?_, hb, hm, by decide⟩
  have c1 : CallOk (cxOf CX0 P w K mg base ["self", "path"] "InvalidProgram.__init__" (defScope sI7) fI cdv AA outer s H Ex).nox "copied" (Wcopied 1) := dc.call hr (Nat.le_refl _)
  have hX : (cxOf CX0 P w K mg base ["self", "path"] "InvalidProgram.__init__" (defScope sI7) fI cdv AA outer s H Ex).nox.N = (["self", "path"] : List Str) := rfl
  exact init_two A.T h1 h2 (fun d hd => by (repeat wtm_at "go"); exact ⟨d, rfl, hd, rfl⟩) (pe_var (i := 0) rfl (.inl rfl)) (pe_var (i := 0) rfl (.inl rfl)) rfl rfl hs
theorem mk8 {a : Addr} {tl : List Value} (A : ClsA K "TooWide" a tl) (I : IniA K a "TooWide.__init__" sI8 ["self", "most"]) (hm : mg "TooWide" = some (.ref a)) (h1 : PySem.W.findIn K (.ref a) "most" = some none) (h2 : PySem.W.findIn K (.ref a) "code" = some none) (dc : Df P w K mg base "copied" (Wcopied 1) 2) : MkA P w K mg base "TooWide" a 1 ["code", "most"] (R1 "TooWide") 3 := by
  obtain ⟨fI, fd, i1, i2, F, hb⟩ := I.ex
  refine ⟨fI, fd, _, A.T, i1, i2, F.ok (k := 2) scI8 (fun vs H Q E h => h.1) fun cdv AA outer s H vs Q Ex hr hs => ?_, hb, hm, by decide⟩
  have c1 : CallOk (cxOf CX0 P w K mg base ["self", "most"] "TooWide.__init__" (defScope sI8) fI cdv AA outer s H Ex).nox "copied" (Wcopied 1) := dc.call hr (Nat.le_refl _)
  have hX : (cxOf CX0 P w K mg base ["self", "most"] "TooWide.__init__" (defScope sI8) fI cdv AA outer s H Ex).nox.N = (["self", "most"] : List Str) := rfl
  exact init_two A.T h1 h2 (fun d hd => by (repeat wtm_at "go"); exact ⟨d, rfl, hd, rfl⟩) (pe_var (i := 0) rfl (.inl rfl)) (pe_var (i := 0) rfl (.inl rfl)) rfl rfl hs
theorem mk9 {a : Addr} {tl : List Value} (A : ClsA K "TooLarge" a tl) (I : IniA K a "TooLarge.__init__" sI9 ["self", "most"]) (hm : mg "TooLarge" = some (.ref a)) (h1 : PySem.W.findIn K (.ref a) "most" = some none) (h2 : PySem.W.findIn K (.ref a) "code" = some none) (dc : Df P w K mg base "copied" (Wcopied 1) 2) : MkA P w K mg base "TooLarge" a 1 ["code", "most"] (R1 "TooLarge") 3 := by
  obtain ⟨fI, fd, i1, i2, F, hb⟩ := I.ex
  refine ⟨fI, fd, _, A.T, i1, i2, F.ok (k := 2) scI9 (fun vs H Q E h => h.1) fun cdv AA outer s H vs Q Ex hr hs => ?_, hb, hm, by decide⟩
  have c1 : CallOk (cxOf CX0 P w K mg base ["self", "most"] "TooLarge.__init__" (defScope sI9) fI cdv AA outer s H Ex).nox "copied" (Wcopied 1) := dc.call hr (Nat.le_refl _)
  have hX : (cxOf CX0 P w K mg base ["self", "most"] "TooLarge.__init__" (defScope sI9) fI cdv AA outer s H Ex).nox.N = (["self", "most"] : List Str) := rfl
  exact init_two A.T h1 h2 (fun d hd => by (repeat wtm_at "go"); exact ⟨d, rfl, hd, rfl⟩) (pe_var (i := 0) rfl (.inl rfl)) (pe_var (i := 0) rfl (.inl rfl)) rfl rfl hs
theorem mk10 {a : Addr} {tl : List Value} (A : ClsA K "TooMany" a tl) (I : IniA K a "TooMany.__init__" sI10 ["self", "most"]) (hm : mg "TooMany" = some (.ref a)) (h1 : PySem.W.findIn K (.ref a) "most" = some none) (h2 : PySem.W.findIn K (.ref a) "code" = some none) (dc : Df P w K mg base "copied" (Wcopied 1) 2) : MkA P w K mg base "TooMany" a 1 ["code", "most"] (R1 "TooMany") 3 := by
  obtain ⟨fI, fd, i1, i2, F, hb⟩ := I.ex
  refine ⟨fI, fd, _, A.T, i1, i2, F.ok (k := 2) scI10 (fun vs H Q E h => h.1) fun cdv AA outer s H vs Q Ex hr hs => ?_, hb, hm, by decide⟩
  have c1 : CallOk (cxOf CX0 P w K mg base ["self", "most"] "TooMany.__init__" (defScope sI10) fI cdv AA outer s H Ex).nox "copied" (Wcopied 1) := dc.call hr (Nat.le_refl _)
  have hX : (cxOf CX0 P w K mg base ["self", "most"] "TooMany.__init__" (defScope sI10) fI cdv AA outer s H Ex).nox.N = (["self", "most"] : List Str) := rfl
  exact init_two A.T h1 h2 (fun d hd => by (repeat wtm_at "go"); exact ⟨d, rfl, hd, rfl⟩) (pe_var (i := 0) rfl (.inl rfl)) (pe_var (i := 0) rfl (.inl rfl)) rfl rfl hs
theorem mk11 {a : Addr} {tl : List Value} (A : ClsA K "InvalidWeb" a tl) (I : IniA K a "InvalidWeb.__init__" sI11 ["self", "given"]) (hm : mg "InvalidWeb" = some (.ref a)) (h1 : PySem.W.findIn K (.ref a) "given" = some none) (h2 : PySem.W.findIn K (.ref a) "code" = some none) (dc : Df P w K mg base "copied" (Wcopied 1) 2) : MkA P w K mg base "InvalidWeb" a 1 ["code", "given"] (R1 "InvalidWeb") 3 := by
  obtain ⟨fI, fd, i1, i2, F, hb⟩ := I.ex
  refine ⟨fI, fd, _, A.T, i1, i2, F.ok (k := 2) scI11 (fun vs H Q E h => h.1) fun cdv AA outer s H vs Q Ex hr hs => ?_, hb, hm, by decide⟩
  have c1 : CallOk (cxOf CX0 P w K mg base ["self", "given"] "InvalidWeb.__init__" (defScope sI11) fI cdv AA outer s H Ex).nox "copied" (Wcopied 1) := dc.call hr (Nat.le_refl _)
  have hX : (cxOf CX0 P w K mg base ["self", "given"] "InvalidWeb.__init__" (defScope sI11) fI cdv AA outer s H Ex).nox.N = (["self", "given"] : List Str) := rfl
  exact init_two A.T h1 h2 (fun d hd => by (repeat wtm_at "go"); exact ⟨d, rfl, hd, rfl⟩) (pe_var (i := 0) rfl (.inl rfl)) (pe_var (i := 0) rfl (.inl rfl)) rfl rfl hs
theorem mk12 {a : Addr} {tl : List Value} (A : ClsA K "InvalidWave" a tl) (I : IniA K a "InvalidWave.__init__" sI12 ["self", "index"]) (hm : mg "InvalidWave" = some (.ref a)) (h1 : PySem.W.findIn K (.ref a) "index" = some none) (h2 : PySem.W.findIn K (.ref a) "code" = some none) (dc : Df P w K mg base "copied" (Wcopied 1) 2) : MkA P w K mg base "InvalidWave" a 1 ["code", "index"] (R1 "InvalidWave") 3 := by
  obtain ⟨fI, fd, i1, i2, F, hb⟩ := I.ex
  refine ⟨fI, fd, _, A.T, i1, i2, F.ok (k := 2) scI12 (fun vs H Q E h => h.1) fun cdv AA outer s H vs Q Ex hr hs => ?_, hb, hm, by decide⟩
  have c1 : CallOk (cxOf CX0 P w K mg base ["self", "index"] "InvalidWave.__init__" (defScope sI12) fI cdv AA outer s H Ex).nox "copied" (Wcopied 1) := dc.call hr (Nat.le_refl _)
  have hX : (cxOf CX0 P w K mg base ["self", "index"] "InvalidWave.__init__" (defScope sI12) fI cdv AA outer s H Ex).nox.N = (["self", "index"] : List Str) := rfl
  exact init_two A.T h1 h2 (fun d hd => by (repeat wtm_at "go"); exact ⟨d, rfl, hd, rfl⟩) (pe_var (i := 0) rfl (.inl rfl)) (pe_var (i := 0) rfl (.inl rfl)) rfl rfl hs
theorem mk13 {a : Addr} {tl : List Value} (A : ClsA K "InvalidSight" a tl) (I : IniA K a "InvalidSight.__init__" sI13 ["self", "index"]) (hm : mg "InvalidSight" = some (.ref a)) (h1 : PySem.W.findIn K (.ref a) "index" = some none) (h2 : PySem.W.findIn K (.ref a) "code" = some none) (dc : Df P w K mg base "copied" (Wcopied 1) 2) : MkA P w K mg base "InvalidSight" a 1 ["code", "index"] (R1 "InvalidSight") 3 := by
  obtain ⟨fI, fd, i1, i2, F, hb⟩ := I.ex
  refine ⟨fI, fd, _, A.T, i1, i2, F.ok (k := 2) scI13 (fun vs H Q E h => h.1) fun cdv AA outer s H vs Q Ex hr hs => ?_, hb, hm, by decide⟩
  have c1 : CallOk (cxOf CX0 P w K mg base ["self", "index"] "InvalidSight.__init__" (defScope sI13) fI cdv AA outer s H Ex).nox "copied" (Wcopied 1) := dc.call hr (Nat.le_refl _)
  have hX : (cxOf CX0 P w K mg base ["self", "index"] "InvalidSight.__init__" (defScope sI13) fI cdv AA outer s H Ex).nox.N = (["self", "index"] : List Str) := rfl
  exact init_two A.T h1 h2 (fun d hd => by (repeat wtm_at "go"); exact ⟨d, rfl, hd, rfl⟩) (pe_var (i := 0) rfl (.inl rfl)) (pe_var (i := 0) rfl (.inl rfl)) rfl rfl hs
theorem mk14 {a : Addr} {tl : List Value} (A : ClsA K "Unseen" a tl) (I : IniA K a "Unseen.__init__" sI14 ["self", "web"]) (hm : mg "Unseen" = some (.ref a)) (h1 : PySem.W.findIn K (.ref a) "web" = some none) (h2 : PySem.W.findIn K (.ref a) "code" = some none) (dc : Df P w K mg base "copied" (Wcopied 1) 2) : MkA P w K mg base "Unseen" a 1 ["code", "web"] (R1 "Unseen") 3 := by
  obtain ⟨fI, fd, i1, i2, F, hb⟩ := I.ex
  refine ⟨fI, fd, _, A.T, i1, i2, F.ok (k := 2) scI14 (fun vs H Q E h => h.1) fun cdv AA outer s H vs Q Ex hr hs => ?_, hb, hm, by decide⟩
  have c1 : CallOk (cxOf CX0 P w K mg base ["self", "web"] "Unseen.__init__" (defScope sI14) fI cdv AA outer s H Ex).nox "copied" (Wcopied 1) := dc.call hr (Nat.le_refl _)
  have hX : (cxOf CX0 P w K mg base ["self", "web"] "Unseen.__init__" (defScope sI14) fI cdv AA outer s H Ex).nox.N = (["self", "web"] : List Str) := rfl
  exact init_two A.T h1 h2 (fun d hd => by (repeat wtm_at "go"); exact ⟨d, rfl, hd, rfl⟩) (pe_var (i := 0) rfl (.inl rfl)) (pe_var (i := 0) rfl (.inl rfl)) rfl rfl hs
theorem mk15 {a : Addr} {tl : List Value} (A : ClsA K "Barred" a tl) (I : IniA K a "Barred.__init__" sI15 ["self", "web"]) (hm : mg "Barred" = some (.ref a)) (h1 : PySem.W.findIn K (.ref a) "web" = some none) (h2 : PySem.W.findIn K (.ref a) "code" = some none) (dc : Df P w K mg base "copied" (Wcopied 1) 2) : MkA P w K mg base "Barred" a 1 ["code", "web"] (R1 "Barred") 3 := by
  obtain ⟨fI, fd, i1, i2, F, hb⟩ := I.ex
  refine ⟨fI, fd, _, A.T, i1, i2, F.ok (k := 2) scI15 (fun vs H Q E h => h.1) fun cdv AA outer s H vs Q Ex hr hs => ?_, hb, hm, by decide⟩
  have c1 : CallOk (cxOf CX0 P w K mg base ["self", "web"] "Barred.__init__" (defScope sI15) fI cdv AA outer s H Ex).nox "copied" (Wcopied 1) := dc.call hr (Nat.le_refl _)
  have hX : (cxOf CX0 P w K mg base ["self", "web"] "Barred.__init__" (defScope sI15) fI cdv AA outer s H Ex).nox.N = (["self", "web"] : List Str) := rfl
  exact init_two A.T h1 h2 (fun d hd => by (repeat wtm_at "go"); exact ⟨d, rfl, hd, rfl⟩) (pe_var (i := 0) rfl (.inl rfl)) (pe_var (i := 0) rfl (.inl rfl)) rfl rfl hs
theorem mk16 {a : Addr} {tl : List Value} (A : ClsA K "InvalidDrawing" a tl) (I : IniA K a "InvalidDrawing.__init__" sI16 ["self", "index"]) (hm : mg "InvalidDrawing" = some (.ref a)) (h1 : PySem.W.findIn K (.ref a) "index" = some none) (h2 : PySem.W.findIn K (.ref a) "code" = some none) (dc : Df P w K mg base "copied" (Wcopied 1) 2) : MkA P w K mg base "InvalidDrawing" a 1 ["code", "index"] (R1 "InvalidDrawing") 3 := by
  obtain ⟨fI, fd, i1, i2, F, hb⟩ := I.ex
  refine ⟨fI, fd, _, A.T, i1, i2, F.ok (k := 2) scI16 (fun vs H Q E h => h.1) fun cdv AA outer s H vs Q Ex hr hs => ?_, hb, hm, by decide⟩
  have c1 : CallOk (cxOf CX0 P w K mg base ["self", "index"] "InvalidDrawing.__init__" (defScope sI16) fI cdv AA outer s H Ex).nox "copied" (Wcopied 1) := dc.call hr (Nat.le_refl _)
  have hX : (cxOf CX0 P w K mg base ["self", "index"] "InvalidDrawing.__init__" (defScope sI16) fI cdv AA outer s H Ex).nox.N = (["self", "index"] : List Str) := rfl
  exact init_two A.T h1 h2 (fun d hd => by (repeat wtm_at "go"); exact ⟨d, rfl, hd, rfl⟩) (pe_var (i := 0) rfl (.inl rfl)) (pe_var (i := 0) rfl (.inl rfl)) rfl rfl hs
theorem mk17 {a : Addr} {tl : List Value} (A : ClsA K "NotTold" a tl) (I : IniA K a "NotTold.__init__" sI17 ["self", "given"]) (hm : mg "NotTold" = some (.ref a)) (h1 : PySem.W.findIn K (.ref a) "given" = some none) (h2 : PySem.W.findIn K (.ref a) "code" = some none) (dc : Df P w K mg base "copied" (Wcopied 1) 2) : MkA P w K mg base "NotTold" a 1 ["code", "given"] (R1 "NotTold") 3 := by
  obtain ⟨fI, fd, i1, i2, F, hb⟩ := I.ex
  refine ⟨fI, fd, _, A.T, i1, i2, F.ok (k := 2) scI17 (fun vs H Q E h => h.1) fun cdv AA outer s H vs Q Ex hr hs => ?_, hb, hm, by decide⟩
  have c1 : CallOk (cxOf CX0 P w K mg base ["self", "given"] "NotTold.__init__" (defScope sI17) fI cdv AA outer s H Ex).nox "copied" (Wcopied 1) := dc.call hr (Nat.le_refl _)
  have hX : (cxOf CX0 P w K mg base ["self", "given"] "NotTold.__init__" (defScope sI17) fI cdv AA outer s H Ex).nox.N = (["self", "given"] : List Str) := rfl
  exact init_two A.T h1 h2 (fun d hd => by (repeat wtm_at "go"); exact ⟨d, rfl, hd, rfl⟩) (pe_var (i := 0) rfl (.inl rfl)) (pe_var (i := 0) rfl (.inl rfl)) rfl rfl hs
theorem mk18 {a : Addr} {tl : List Value} (A : ClsA K "DuplicateName" a tl) (I : IniA K a "DuplicateName.__init__" sI18 ["self", "name"]) (hm : mg "DuplicateName" = some (.ref a)) (h1 : PySem.W.findIn K (.ref a) "name" = some none) (h2 : PySem.W.findIn K (.ref a) "code" = some none) (dc : Df P w K mg base "copied" (Wcopied 1) 2) : MkA P w K mg base "DuplicateName" a 1 ["code", "name"] (R1 "DuplicateName") 3 := by
  obtain ⟨fI, fd, i1, i2, F, hb⟩ := I.ex
  refine ⟨fI, fd, _, A.T, i1, i2, F.ok (k := 2) scI18 (fun vs H Q E h => h.1) fun cdv AA outer s H vs Q Ex hr hs => ?_, hb, hm, by decide⟩
  have c1 : CallOk (cxOf CX0 P w K mg base ["self", "name"] "DuplicateName.__init__" (defScope sI18) fI cdv AA outer s H Ex).nox "copied" (Wcopied 1) := dc.call hr (Nat.le_refl _)
  have hX : (cxOf CX0 P w K mg base ["self", "name"] "DuplicateName.__init__" (defScope sI18) fI cdv AA outer s H Ex).nox.N = (["self", "name"] : List Str) := rfl
  exact init_two A.T h1 h2 (fun d hd => by (repeat wtm_at "go"); exact ⟨d, rfl, hd, rfl⟩) (pe_var (i := 0) rfl (.inl rfl)) (pe_var (i := 0) rfl (.inl rfl)) rfl rfl hs
theorem mk19 {a : Addr} {tl : List Value} (A : ClsA K "InvalidText" a tl) (I : IniA K a "InvalidText.__init__" sI19 ["self", "position"]) (hm : mg "InvalidText" = some (.ref a)) (h1 : PySem.W.findIn K (.ref a) "position" = some none) (h2 : PySem.W.findIn K (.ref a) "code" = some none) (dc : Df P w K mg base "copied" (Wcopied 1) 2) : MkA P w K mg base "InvalidText" a 1 ["code", "position"] (R1 "InvalidText") 3 := by
  obtain ⟨fI, fd, i1, i2, F, hb⟩ := I.ex
  refine ⟨fI, fd, _, A.T, i1, i2, F.ok (k := 2) scI19 (fun vs H Q E h => h.1) fun cdv AA outer s H vs Q Ex hr hs => ?_, hb, hm, by decide⟩
  have c1 : CallOk (cxOf CX0 P w K mg base ["self", "position"] "InvalidText.__init__" (defScope sI19) fI cdv AA outer s H Ex).nox "copied" (Wcopied 1) := dc.call hr (Nat.le_refl _)
  have hX : (cxOf CX0 P w K mg base ["self", "position"] "InvalidText.__init__" (defScope sI19) fI cdv AA outer s H Ex).nox.N = (["self", "position"] : List Str) := rfl
  exact init_two A.T h1 h2 (fun d hd => by (repeat wtm_at "go"); exact ⟨d, rfl, hd, rfl⟩) (pe_var (i := 0) rfl (.inl rfl)) (pe_var (i := 0) rfl (.inl rfl)) rfl rfl hs
theorem mk20 {a : Addr} {tl : List Value} (A : ClsA K "InvalidPage" a tl) (I : IniA K a "InvalidPage.__init__" sI20 ["self", "line"]) (hm : mg "InvalidPage" = some (.ref a)) (h1 : PySem.W.findIn K (.ref a) "line" = some none) (h2 : PySem.W.findIn K (.ref a) "code" = some none) (dc : Df P w K mg base "copied" (Wcopied 1) 2) : MkA P w K mg base "InvalidPage" a 1 ["code", "line"] (R1 "InvalidPage") 3 := by
  obtain ⟨fI, fd, i1, i2, F, hb⟩ := I.ex
  refine ⟨fI, fd, _, A.T, i1, i2, F.ok (k := 2) scI20 (fun vs H Q E h => h.1) fun cdv AA outer s H vs Q Ex hr hs => ?_, hb, hm, by decide⟩
  have c1 : CallOk (cxOf CX0 P w K mg base ["self", "line"] "InvalidPage.__init__" (defScope sI20) fI cdv AA outer s H Ex).nox "copied" (Wcopied 1) := dc.call hr (Nat.le_refl _)
  have hX : (cxOf CX0 P w K mg base ["self", "line"] "InvalidPage.__init__" (defScope sI20) fI cdv AA outer s H Ex).nox.N = (["self", "line"] : List Str) := rfl
  exact init_two A.T h1 h2 (fun d hd => by (repeat wtm_at "go"); exact ⟨d, rfl, hd, rfl⟩) (pe_var (i := 0) rfl (.inl rfl)) (pe_var (i := 0) rfl (.inl rfl)) rfl rfl hs
theorem mk21 {a : Addr} {tl : List Value} (A : ClsA K "UnlikeWorlds" a tl) (I : IniA K a "UnlikeWorlds.__init__" sI21 ["self"]) (hm : mg "UnlikeWorlds" = some (.ref a)) (h2 : PySem.W.findIn K (.ref a) "code" = some none) : MkA P w K mg base "UnlikeWorlds" a 0 ["code"] (R0 "UnlikeWorlds") 3 := by
  obtain ⟨fI, fd, i1, i2, F, hb⟩ := I.ex
  refine ⟨fI, fd, _, A.T, i1, i2, F.ok (k := 2) scI21 (fun vs H Q E h => h.1) fun cdv AA outer s H vs Q Ex hr hs => ?_, hb, hm, by decide⟩
  exact init_one A.T h2 (pe_var (i := 0) rfl (.inl rfl)) rfl hs
theorem mk22 {a : Addr} {tl : List Value} (A : ClsA K "HasWishes" a tl) (I : IniA K a "HasWishes.__init__" sI22 ["self"]) (hm : mg "HasWishes" = some (.ref a)) (h2 : PySem.W.findIn K (.ref a) "code" = some none) : MkA P w K mg base "HasWishes" a 0 ["code"] (R0 "HasWishes") 3 := by
  obtain ⟨fI, fd, i1, i2, F, hb⟩ := I.ex
  refine ⟨fI, fd, _, A.T, i1, i2, F.ok (k := 2) scI22 (fun vs H Q E h => h.1) fun cdv AA outer s H vs Q Ex hr hs => ?_, hb, hm, by decide⟩
  exact init_one A.T h2 (pe_var (i := 0) rfl (.inl rfl)) rfl hs
theorem mk23 {a : Addr} {tl : List Value} (A : ClsA K "NotSquare" a tl) (I : IniA K a "NotSquare.__init__" sI23 ["self"]) (hm : mg "NotSquare" = some (.ref a)) (h2 : PySem.W.findIn K (.ref a) "code" = some none) : MkA P w K mg base "NotSquare" a 0 ["code"] (R0 "NotSquare") 3 := by
  obtain ⟨fI, fd, i1, i2, F, hb⟩ := I.ex
  refine ⟨fI, fd, _, A.T, i1, i2, F.ok (k := 2) scI23 (fun vs H Q E h => h.1) fun cdv AA outer s H vs Q Ex hr hs => ?_, hb, hm, by decide⟩
  exact init_one A.T h2 (pe_var (i := 0) rfl (.inl rfl)) rfl hs
theorem mk24 {a : Addr} {tl : List Value} (A : ClsA K "NotBelow" a tl) (I : IniA K a "NotBelow.__init__" sI24 ["self"]) (hm : mg "NotBelow" = some (.ref a)) (h2 : PySem.W.findIn K (.ref a) "code" = some none) : MkA P w K mg base "NotBelow" a 0 ["code"] (R0 "NotBelow") 3 := by
  obtain ⟨fI, fd, i1, i2, F, hb⟩ := I.ex
  refine ⟨fI, fd, _, A.T, i1, i2, F.ok (k := 2) scI24 (fun vs H Q E h => h.1) fun cdv AA outer s H vs Q Ex hr hs => ?_, hb, hm, by decide⟩
  exact init_one A.T h2 (pe_var (i := 0) rfl (.inl rfl)) rfl hs
theorem mk25 {a : Addr} {tl : List Value} (A : ClsA K "UnknownName" a tl) (I : IniA K a "UnknownName.__init__" sI25 ["self", "name"]) (hm : mg "UnknownName" = some (.ref a)) (h1 : PySem.W.findIn K (.ref a) "name" = some none) (h2 : PySem.W.findIn K (.ref a) "code" = some none) (dc : Df P w K mg base "copied" (Wcopied 1) 2) : MkA P w K mg base "UnknownName" a 1 ["code", "name"] (R1 "UnknownName") 3 := by
  obtain ⟨fI, fd, i1, i2, F, hb⟩ := I.ex
  refine ⟨fI, fd, _, A.T, i1, i2, F.ok (k := 2) scI25 (fun vs H Q E h => h.1) fun cdv AA outer s H vs Q Ex hr hs => ?_, hb, hm, by decide⟩
  have c1 : CallOk (cxOf CX0 P w K mg base ["self", "name"] "UnknownName.__init__" (defScope sI25) fI cdv AA outer s H Ex).nox "copied" (Wcopied 1) := dc.call hr (Nat.le_refl _)
  have hX : (cxOf CX0 P w K mg base ["self", "name"] "UnknownName.__init__" (defScope sI25) fI cdv AA outer s H Ex).nox.N = (["self", "name"] : List Str) := rfl
  exact init_two A.T h1 h2 (fun d hd => by (repeat wtm_at "go"); exact ⟨d, rfl, hd, rfl⟩) (pe_var (i := 0) rfl (.inl rfl)) (pe_var (i := 0) rfl (.inl rfl)) rfl rfl hs
theorem mk26 {a : Addr} {tl : List Value} (A : ClsA K "NothingLeft" a tl) (I : IniA K a "NothingLeft.__init__" sI26 ["self"]) (hm : mg "NothingLeft" = some (.ref a)) (h2 : PySem.W.findIn K (.ref a) "code" = some none) : MkA P w K mg base "NothingLeft" a 0 ["code"] (R0 "NothingLeft") 3 := by
  obtain ⟨fI, fd, i1, i2, F, hb⟩ := I.ex
  refine ⟨fI, fd, _, A.T, i1, i2, F.ok (k := 2) scI26 (fun vs H Q E h => h.1) fun cdv AA outer s H vs Q Ex hr hs => ?_, hb, hm, by decide⟩
  exact init_one A.T h2 (pe_var (i := 0) rfl (.inl rfl)) rfl hs
end
theorem bt_ValueError : bootBuiltins "ValueError" = some (.type "ValueError") := by decide +kernel
theorem bt_LookupError : bootBuiltins "LookupError" = some (.type "LookupError") := by decide +kernel
theorem bt_IndexError : bootBuiltins "IndexError" = some (.type "IndexError") := by decide +kernel
theorem if_dt {p q : Prop} {b : Bool} (e : b = true) (h : p) : if b = true then p else q := if_ev_t e h
theorem if_df {p q : Prop} {b : Bool} (e : b = false) (h : q) : if b = true then p else q := if_ev_f e h
abbrev sField : Stmt := topS 37
abbrev sCodes : Stmt := topS 38
abbrev sErrors : Stmt := topS 39
abbrev sSorts : Stmt := topS 40
theorem scField : FnScope ["_law_e"] ["_law_e"] (defScope sField) := ⟨rfl, rfl, rfl, by decide +kernel, rfl, by decide +kernel, by decide +kernel⟩
theorem scCodes : FnScope [] [] (defScope sCodes) := ⟨rfl, rfl, rfl, by decide +kernel, rfl, by decide +kernel, by decide +kernel⟩
theorem scErrors : FnScope ["_law_odd"] ["_law_odd"] (defScope sErrors) := ⟨rfl, rfl, rfl, by decide +kernel, rfl, by decide +kernel, by decide +kernel⟩
theorem scSorts : FnScope ["_law_e"] ["_law_e"] (defScope sSorts) := ⟨rfl, rfl, rfl, by decide +kernel, rfl, by decide +kernel, by decide +kernel⟩
/-- the i-th error, made with odd -/
def errD (ca : Nat → Addr) (odd : D) (i : Nat) : D := match fldA i with
  | some f => .exc (ca i) ["code", f] [.str (codeA i), odd]
  | none => .exc (ca i) ["code"] [.str (codeA i)]
def fldD (odd : D) (i : Nat) : D := match fldA i with
  | some _ => odd
  | none => .non
theorem errD_exc (ca : Nat → Addr) (odd : D) (i : Nat) : ∃ ns vs, errD ca odd i = .exc (ca i) ns vs ∧ (List.zip ns vs).lookup ("code" : Str) = some (D.str (codeA i)) := by
  unfold errD
  cases fldA i with
  | some f => exact ⟨_, _, rfl, rfl⟩
  | none => exact ⟨_, _, rfl, rfl⟩
def Wcodes : WA := fun ds P => ds = [] ∧ P (.lst (codeT.map D.str))
def Werrors (ca : Nat → Addr) : WA := fun ds P => ∃ odd, ds = [odd] ∧ shp 1 odd = true ∧ P (.lst ((List.range 27).map (errD ca odd)))
def Wsorts (ca : Nat → Addr) : WA := fun ds P => ∃ (i : Nat) (odd : D), i < 27 ∧ ds = [errD ca odd i] ∧ P (.lst ((List.range 27).map fun j => .bl (decide (i = j))))
def Wfield (ca : Nat → Addr) : WA := fun ds P => ∃ (i : Nat) (odd : D), i < 27 ∧ ds = [errD ca odd i] ∧ P (fldD odd i)
/-- the classes as they stand -/
structure Cls27 (P : Program) (w : World) (K : PySem.W.Frag) (mg : Str → Option Value) (base : Heap) (ca : Nat → Addr) (few miss : Addr) : Prop where
  m0 : MkA P w K mg base "InvalidName" (ca 0) 1 ["code", "name"] (R1 "InvalidName") 3
  m1 : MkA P w K mg base "InvalidPart" (ca 1) 1 ["code", "index"] (R1 "InvalidPart") 3
  m2 : MkA P w K mg base "InvalidTrait" (ca 2) 1 ["code", "index"] (R1 "InvalidTrait") 3
  m3 : MkA P w K mg base "InvalidPerson" (ca 3) 1 ["code", "given"] (R1 "InvalidPerson") 3
  m4 : MkA P w K mg base "InvalidEntry" (ca 4) 1 ["code", "given"] (R1 "InvalidEntry") 3
  m5 : MkA P w K mg base "InvalidNumber" (ca 5) 1 ["code", "given"] (R1 "InvalidNumber") 3
  m6 : MkA P w K mg base "InvalidRow" (ca 6) 1 ["code", "index"] (R1 "InvalidRow") 3
  m7 : MkA P w K mg base "InvalidProgram" (ca 7) 1 ["code", "path"] (R1 "InvalidProgram") 3
  m8 : MkA P w K mg base "TooWide" (ca 8) 1 ["code", "most"] (R1 "TooWide") 3
  m9 : MkA P w K mg base "TooLarge" (ca 9) 1 ["code", "most"] (R1 "TooLarge") 3
  m10 : MkA P w K mg base "TooMany" (ca 10) 1 ["code", "most"] (R1 "TooMany") 3
  m11 : MkA P w K mg base "InvalidWeb" (ca 11) 1 ["code", "given"] (R1 "InvalidWeb") 3
  m12 : MkA P w K mg base "InvalidWave" (ca 12) 1 ["code", "index"] (R1 "InvalidWave") 3
  m13 : MkA P w K mg base "InvalidSight" (ca 13) 1 ["code", "index"] (R1 "InvalidSight") 3
  m14 : MkA P w K mg base "Unseen" (ca 14) 1 ["code", "web"] (R1 "Unseen") 3
  m15 : MkA P w K mg base "Barred" (ca 15) 1 ["code", "web"] (R1 "Barred") 3
  m16 : MkA P w K mg base "InvalidDrawing" (ca 16) 1 ["code", "index"] (R1 "InvalidDrawing") 3
  m17 : MkA P w K mg base "NotTold" (ca 17) 1 ["code", "given"] (R1 "NotTold") 3
  m18 : MkA P w K mg base "DuplicateName" (ca 18) 1 ["code", "name"] (R1 "DuplicateName") 3
  m19 : MkA P w K mg base "InvalidText" (ca 19) 1 ["code", "position"] (R1 "InvalidText") 3
  m20 : MkA P w K mg base "InvalidPage" (ca 20) 1 ["code", "line"] (R1 "InvalidPage") 3
  m21 : MkA P w K mg base "UnlikeWorlds" (ca 21) 0 ["code"] (R0 "UnlikeWorlds") 3
  m22 : MkA P w K mg base "HasWishes" (ca 22) 0 ["code"] (R0 "HasWishes") 3
  m23 : MkA P w K mg base "NotSquare" (ca 23) 0 ["code"] (R0 "NotSquare") 3
  m24 : MkA P w K mg base "NotBelow" (ca 24) 0 ["code"] (R0 "NotBelow") 3
  m25 : MkA P w K mg base "UnknownName" (ca 25) 1 ["code", "name"] (R1 "UnknownName") 3
  m26 : MkA P w K mg base "NothingLeft" (ca 26) 0 ["code"] (R0 "NothingLeft") 3
  ex : ∀ i, i < 27 → ExcC K (ca i)
  code : ∀ i, i < 27 → FldOk K (ca i) "code"
  fld : ∀ i, i < 27 → ∀ f, fldA i = some f → FldOk K (ca i) f
  kit : ∀ i j, i < 27 → j < 27 → PySem.W.kitOne K (.ref (ca i)) (.ref (ca j)) = some (decide (i = j))
  kFew : ∀ i, i < 27 → PySem.W.kitOne K (.ref (ca i)) (.ref few) = some (decide ((i : Int) < 25))
  kVal : ∀ i, i < 27 → PySem.W.kitOne K (.ref (ca i)) (.type "ValueError") = some (decide ((i : Int) < 25))
  kMis : ∀ i, i < 27 → PySem.W.kitOne K (.ref (ca i)) (.ref miss) = some (decide ((i : Int) = 25))
  kLoo : ∀ i, i < 27 → PySem.W.kitOne K (.ref (ca i)) (.type "LookupError") = some (decide ((i : Int) > 24))
  kInd : ∀ i, i < 27 → PySem.W.kitOne K (.ref (ca i)) (.type "IndexError") = some (decide ((i : Int) = 26))
  few : mg "FewError" = some (.ref few)
  miss : mg "Missing" = some (.ref miss)
theorem MkA.cls {X : Cx} {x C n ns R j} (m : MkA X.prog X.w X.K X.mg X.base x C n ns R j) : ConstOk X x (.cls C) := by
  obtain ⟨fI, fd, ps, T, h1, h2, F, hb, hm, hn⟩ := m.ex
  exact ⟨.ref C, _, hm, rfl, fun _ _ _ => .cls C⟩
section
local macro_rules | `(tactic| wtm_at "ex") => `(tactic| first
  | ((with_reducible show EX _ (PySem.Expr.Name _ _) _ _); first | refine ex_name 0 (by assumption) (by with_reducible rfl) (by with_reducible rfl) (by wtm_at "vis") ?_ | refine ex_glob (by assumption) (by rfl) ?_))
local macro_rules | `(tactic| wtm_at "op2") => `(tactic| first
  | ((with_reducible show List.length _ = 1 ∧ _); refine ⟨rfl, _, ⟨_, rfl, (by assumption), rfl⟩, ?_⟩)
  | ((with_reducible show ∃ rs, R0 _ [] rs ∧ _); refine ⟨_, ⟨rfl, rfl⟩, ?_⟩)
  | ((with_reducible show ∃ C ns ds y, _ = D.exc C ns ds ∧ _); refine ⟨_, _, _, _, rfl, (by assumption), rfl, ?_⟩)
  | ((with_reducible show if decide _ = true then _ else _); first | refine if_dt (by decide +kernel) ?_ | refine if_df (by decide +kernel) ?_))
variable {P : Program} {w : World} {K : PySem.W.Frag} {mg : Str → Option Value} {base : Heap} {ca : Nat → Addr} {few miss : Addr}
theorem df_codes (T : Top K mg "_law_codes" sCodes []) : Df P w K mg base "_law_codes" Wcodes 1 :=
  T.df scCodes (fun _ _ ⟨h, _⟩ => by rw [h]; rfl) fun f cdv A outer s H E hr hnd ds Po' hw hl => by
  obtain ⟨rfl, hP⟩ := hw
  show SX _ (_ :: _) [] _
  repeat wtm_at "go"
  exact hP
theorem df_errors (T : Top K mg "_law_errors" sErrors ["_law_odd"]) (C : Cls27 P w K mg base ca few miss) : Df P w K mg base "_law_errors" (Werrors ca) 5 :=
  T.df (k := 4) scErrors (fun _ _ ⟨_, h, _⟩ => by rw [h]; rfl) fun f cdv A outer s H E hr hnd ds Po' hw hl => by
  obtain ⟨odd, rfl, hd, hP⟩ := hw
  have hX : (cxOf CX0 P w K mg base ["_law_odd"] "_law_errors" (defScope sErrors) f cdv A outer s H E).nox.N = (["_law_odd"] : List Str) := rfl
  have c0 : MkOk (cxOf CX0 P w K mg base ["_law_odd"] "_law_errors" (defScope sErrors) f cdv A outer s H E).nox "InvalidName" (ca 0) 1 ["code", "name"] (R1 "InvalidName") := C.m0.at hr
  have c1 : MkOk (cxOf CX0 P w K mg base ["_law_odd"] "_law_errors" (defScope sErrors) f cdv A outer s H E).nox "InvalidPart" (ca 1) 1 ["code", "index"] (R1 "InvalidPart") := C.m1.at hr
  have c2 : MkOk (cxOf CX0 P w K mg base ["_law_odd"] "_law_errors" (defScope sErrors) f cdv A outer s H E).nox "InvalidTrait" (ca 2) 1 ["code", "index"] (R1 "InvalidTrait") := C.m2.at hr
  have c3 : MkOk (cxOf CX0 P w K mg base ["_law_odd"] "_law_errors" (defScope sErrors) f cdv A outer s H E).nox "InvalidPerson" (ca 3) 1 ["code", "given"] (R1 "InvalidPerson") := C.m3.at hr
  have c4 : MkOk (cxOf CX0 P w K mg base ["_law_odd"] "_law_errors" (defScope sErrors) f cdv A outer s H E).nox "InvalidEntry" (ca 4) 1 ["code", "given"] (R1 "InvalidEntry") := C.m4.at hr
  have c5 : MkOk (cxOf CX0 P w K mg base ["_law_odd"] "_law_errors" (defScope sErrors) f cdv A outer s H E).nox "InvalidNumber" (ca 5) 1 ["code", "given"] (R1 "InvalidNumber") := C.m5.at hr
  have c6 : MkOk (cxOf CX0 P w K mg base ["_law_odd"] "_law_errors" (defScope sErrors) f cdv A outer s H E).nox "InvalidRow" (ca 6) 1 ["code", "index"] (R1 "InvalidRow") := C.m6.at hr
  have c7 : MkOk (cxOf CX0 P w K mg base ["_law_odd"] "_law_errors" (defScope sErrors) f cdv A outer s H E).nox "InvalidProgram" (ca 7) 1 ["code", "path"] (R1 "InvalidProgram") := C.m7.at hr
  have c8 : MkOk (cxOf CX0 P w K mg base ["_law_odd"] "_law_errors" (defScope sErrors) f cdv A outer s H E).nox "TooWide" (ca 8) 1 ["code", "most"] (R1 "TooWide") := C.m8.at hr
  have c9 : MkOk (cxOf CX0 P w K mg base ["_law_odd"] "_law_errors" (defScope sErrors) f cdv A outer s H E).nox "TooLarge" (ca 9) 1 ["code", "most"] (R1 "TooLarge") := C.m9.at hr
  have c10 : MkOk (cxOf CX0 P w K mg base ["_law_odd"] "_law_errors" (defScope sErrors) f cdv A outer s H E).nox "TooMany" (ca 10) 1 ["code", "most"] (R1 "TooMany") := C.m10.at hr
  have c11 : MkOk (cxOf CX0 P w K mg base ["_law_odd"] "_law_errors" (defScope sErrors) f cdv A outer s H E).nox "InvalidWeb" (ca 11) 1 ["code", "given"] (R1 "InvalidWeb") := C.m11.at hr
  have c12 : MkOk (cxOf CX0 P w K mg base ["_law_odd"] "_law_errors" (defScope sErrors) f cdv A outer s H E).nox "InvalidWave" (ca 12) 1 ["code", "index"] (R1 "InvalidWave") := C.m12.at hr
  have c13 : MkOk (cxOf CX0 P w K mg base ["_law_odd"] "_law_errors" (defScope sErrors) f cdv A outer s H E).nox "InvalidSight" (ca 13) 1 ["code", "index"] (R1 "InvalidSight") := C.m13.at hr
  have c14 : MkOk (cxOf CX0 P w K mg base ["_law_odd"] "_law_errors" (defScope sErrors) f cdv A outer s H E).nox "Unseen" (ca 14) 1 ["code", "web"] (R1 "Unseen") := C.m14.at hr
  have c15 : MkOk (cxOf CX0 P w K mg base ["_law_odd"] "_law_errors" (defScope sErrors) f cdv A outer s H E).nox "Barred" (ca 15) 1 ["code", "web"] (R1 "Barred") := C.m15.at hr
  have c16 : MkOk (cxOf CX0 P w K mg base ["_law_odd"] "_law_errors" (defScope sErrors) f cdv A outer s H E).nox "InvalidDrawing" (ca 16) 1 ["code", "index"] (R1 "InvalidDrawing") := C.m16.at hr
  have c17 : MkOk (cxOf CX0 P w K mg base ["_law_odd"] "_law_errors" (defScope sErrors) f cdv A outer s H E).nox "NotTold" (ca 17) 1 ["code", "given"] (R1 "NotTold") := C.m17.at hr
  have c18 : MkOk (cxOf CX0 P w K mg base ["_law_odd"] "_law_errors" (defScope sErrors) f cdv A outer s H E).nox "DuplicateName" (ca 18) 1 ["code", "name"] (R1 "DuplicateName") := C.m18.at hr
  have c19 : MkOk (cxOf CX0 P w K mg base ["_law_odd"] "_law_errors" (defScope sErrors) f cdv A outer s H E).nox "InvalidText" (ca 19) 1 ["code", "position"] (R1 "InvalidText") := C.m19.at hr
  have c20 : MkOk (cxOf CX0 P w K mg base ["_law_odd"] "_law_errors" (defScope sErrors) f cdv A outer s H E).nox "InvalidPage" (ca 20) 1 ["code", "line"] (R1 "InvalidPage") := C.m20.at hr
  have c21 : MkOk (cxOf CX0 P w K mg base ["_law_odd"] "_law_errors" (defScope sErrors) f cdv A outer s H E).nox "UnlikeWorlds" (ca 21) 0 ["code"] (R0 "UnlikeWorlds") := C.m21.at hr
  have c22 : MkOk (cxOf CX0 P w K mg base ["_law_odd"] "_law_errors" (defScope sErrors) f cdv A outer s H E).nox "HasWishes" (ca 22) 0 ["code"] (R0 "HasWishes") := C.m22.at hr
  have c23 : MkOk (cxOf CX0 P w K mg base ["_law_odd"] "_law_errors" (defScope sErrors) f cdv A outer s H E).nox "NotSquare" (ca 23) 0 ["code"] (R0 "NotSquare") := C.m23.at hr
  have c24 : MkOk (cxOf CX0 P w K mg base ["_law_odd"] "_law_errors" (defScope sErrors) f cdv A outer s H E).nox "NotBelow" (ca 24) 0 ["code"] (R0 "NotBelow") := C.m24.at hr
  have c25 : MkOk (cxOf CX0 P w K mg base ["_law_odd"] "_law_errors" (defScope sErrors) f cdv A outer s H E).nox "UnknownName" (ca 25) 1 ["code", "name"] (R1 "UnknownName") := C.m25.at hr
  have c26 : MkOk (cxOf CX0 P w K mg base ["_law_odd"] "_law_errors" (defScope sErrors) f cdv A outer s H E).nox "NothingLeft" (ca 26) 0 ["code"] (R0 "NothingLeft") := C.m26.at hr
  show SX _ (_ :: _) [_] _
  repeat wtm_at "go"
  exact hP
end
section
variable {P : Program} {w : World} {K : PySem.W.Frag} {mg : Str → Option Value} {base : Heap} {ca : Nat → Addr} {few miss : Addr}
abbrev l1 : List Str := ["InvalidName", "DuplicateName", "UnknownName"]
abbrev l2 : List Str := ["InvalidPart", "InvalidTrait", "InvalidRow", "InvalidWave", "InvalidSight", "InvalidDrawing"]
abbrev l3 : List Str := ["InvalidPerson", "InvalidEntry", "InvalidNumber", "InvalidWeb", "NotTold"]
abbrev l4 : List Str := ["TooWide", "TooLarge", "TooMany"]
abbrev l5 : List Str := ["Unseen", "Barred"]
theorem u1 : ∀ i, i < 27 → decide (codeA i ∈ l1) = true → fldA i = some "name" := by decide +kernel
theorem u2 : ∀ i, i < 27 → decide (codeA i ∈ l2) = true → fldA i = some "index" := by decide +kernel
theorem u3 : ∀ i, i < 27 → decide (codeA i ∈ l3) = true → fldA i = some "given" := by decide +kernel
theorem u4 : ∀ i, i < 27 → decide (codeA i ∈ l4) = true → fldA i = some "most" := by decide +kernel
theorem u5 : ∀ i, i < 27 → decide (codeA i ∈ l5) = true → fldA i = some "web" := by decide +kernel
theorem u6 : ∀ i, i < 27 → decide (codeA i = "InvalidProgram") = true → fldA i = some "path" := by decide +kernel
theorem u7 : ∀ i, i < 27 → decide (codeA i = "InvalidText") = true → fldA i = some "position" := by decide +kernel
theorem u8 : ∀ i, i < 27 → decide (codeA i = "InvalidPage") = true → fldA i = some "line" := by decide +kernel
theorem u9 : ∀ i, i < 27 → (decide (codeA i ∈ l1) || decide (codeA i ∈ l2) || decide (codeA i ∈ l3) || decide (codeA i ∈ l4) || decide (codeA i ∈ l5) || decide (codeA i = "InvalidProgram") || decide (codeA i = "InvalidText") || decide (codeA i = "InvalidPage")) = false → fldA i = none := by decide +kernel
theorem u0 : ∀ i, i < 27 → fldA i ≠ some ("code" : Str) := by decide +kernel
theorem errD_fld (ca : Nat → Addr) (odd : D) {i : Nat} (hi : i < 27) : ∃ ns vs, errD ca odd i = .exc (ca i) ns vs ∧ (List.zip ns vs).lookup ("code" : Str) = some (D.str (codeA i)) ∧ ∀ f, fldA i = some f → (List.zip ns vs).lookup f = some odd := by
  unfold errD
  have h0 := u0 i hi
  cases e : fldA i with
  | some f =>
    refine ⟨_, _, rfl, rfl, fun g hg => ?_⟩
    cases hg
    have ne : ¬ f = "code" := fun z => h0 (by rw [e, z])
    have ne' : (f == ("code" : Str)) = false := by simpa using ne
    simp [List.lookup, ne']
  | none => exact ⟨_, _, rfl, rfl, fun g hg => nomatch hg⟩
theorem fldD_some {odd : D} {i : Nat} {f : Str} (h : fldA i = some f) : fldD odd i = odd := by
  unfold fldD
  rw [h]
theorem fldD_none {odd : D} {i : Nat} (h : fldA i = none) : fldD odd i = .non := by
  unfold fldD
  rw [h]
set_option maxHeartbeats 64000000 in
theorem df_field (T : Top K mg "_law_field" sField ["_law_e"]) (C : Cls27 P w K mg base ca few miss) : Df P w K mg base "_law_field" (Wfield ca) 1 :=
  T.df scField (fun _ _ ⟨_, _, _, h, _⟩ => by rw [h]; rfl) fun f cdv A outer s H E hr hnd ds Po' hw hl => by
  obtain ⟨i, odd, hi, rfl, hP⟩ := hw
  have hX : (cxOf CX0 P w K mg base ["_law_e"] "_law_field" (defScope sField) f cdv A outer s H E).nox.N = (["_law_e"] : List Str) := rfl
  have f0 : FldOk K (ca i) "code" := C.code i hi
  have f1 := C.fld i hi
  obtain ⟨ns, vs, ee, lk, fk⟩ := errD_fld ca odd hi
  rw [ee]
  show SX _ (_ :: _) [.is (.exc (ca i) ns vs)] _
  repeat wtm_at "go"
  refine ⟨_, _, _, _, rfl, f0, lk, ?_⟩
  repeat wtm_at "go"
  refine if_d (fun h => ?_) fun h1 => ?_
  · have hf := u1 i hi h
    repeat wtm_at "go"
    refine ⟨_, _, _, _, rfl, f1 _ hf, fk _ hf, ?_⟩
    rw [fldD_some hf] at hP
    exact hP
  repeat wtm_at "go"
  refine ⟨_, _, _, _, rfl, f0, lk, ?_⟩
  repeat wtm_at "go"
  refine if_d (fun h => ?_) fun h2 => ?_
  · have hf := u2 i hi h
    repeat wtm_at "go"
    refine ⟨_, _, _, _, rfl, f1 _ hf, fk _ hf, ?_⟩
    rw [fldD_some hf] at hP
    exact hP
  repeat wtm_at "go"
  refine ⟨_, _, _, _, rfl, f0, lk, ?_⟩
  repeat wtm_at "go"
  refine if_d (fun h => ?_) fun h3 => ?_
  · have hf := u3 i hi h
    repeat wtm_at "go"
    refine ⟨_, _, _, _, rfl, f1 _ hf, fk _ hf, ?_⟩
    rw [fldD_some hf] at hP
    exact hP
  repeat wtm_at "go"
  refine ⟨_, _, _, _, rfl, f0, lk, ?_⟩
  repeat wtm_at "go"
  refine if_d (fun h => ?_) fun h4 => ?_
  · have hf := u4 i hi h
    repeat wtm_at "go"
    refine ⟨_, _, _, _, rfl, f1 _ hf, fk _ hf, ?_⟩
    rw [fldD_some hf] at hP
    exact hP
  repeat wtm_at "go"
  refine ⟨_, _, _, _, rfl, f0, lk, ?_⟩
  repeat wtm_at "go"
  refine if_d (fun h => ?_) fun h5 => ?_
  · have hf := u5 i hi h
    repeat wtm_at "go"
    refine ⟨_, _, _, _, rfl, f1 _ hf, fk _ hf, ?_⟩
    rw [fldD_some hf] at hP
    exact hP
  repeat wtm_at "go"
  refine ⟨_, _, _, _, rfl, f0, lk, ?_⟩
  repeat wtm_at "go"
  refine if_d (fun h => ?_) fun h6 => ?_
  · have hf := u6 i hi h
    repeat wtm_at "go"
    refine ⟨_, _, _, _, rfl, f1 _ hf, fk _ hf, ?_⟩
    rw [fldD_some hf] at hP
    exact hP
  repeat wtm_at "go"
  refine ⟨_, _, _, _, rfl, f0, lk, ?_⟩
  repeat wtm_at "go"
  refine if_d (fun h => ?_) fun h7 => ?_
  · have hf := u7 i hi h
    repeat wtm_at "go"
    refine ⟨_, _, _, _, rfl, f1 _ hf, fk _ hf, ?_⟩
    rw [fldD_some hf] at hP
    exact hP
  repeat wtm_at "go"
  refine ⟨_, _, _, _, rfl, f0, lk, ?_⟩
  repeat wtm_at "go"
  refine if_d (fun h => ?_) fun h8 => ?_
  · have hf := u8 i hi h
    repeat wtm_at "go"
    refine ⟨_, _, _, _, rfl, f1 _ hf, fk _ hf, ?_⟩
    rw [fldD_some hf] at hP
    exact hP
  · rw [fldD_none (u9 i hi (by simp only [Bool.or_eq_false_iff]; exact ⟨⟨⟨⟨⟨⟨⟨h1, h2⟩, h3⟩, h4⟩, h5⟩, h6⟩, h7⟩, h8⟩))] at hP
    repeat wtm_at "go"
    exact hP
end
section
local macro_rules | `(tactic| wtm_at "ex") => `(tactic| first
  | ((with_reducible show EX _ (PySem.Expr.Name _ _) _ _); first | refine ex_name 0 (by assumption) (by with_reducible rfl) (by with_reducible rfl) (by wtm_at "vis") ?_ | refine ex_glob (by assumption) (by rfl) ?_))
local macro_rules | `(tactic| wtm_at "op2") => `(tactic| first
  | ((with_reducible show List.length _ = 1 ∧ _); refine ⟨rfl, _, ⟨_, rfl, (by assumption), rfl⟩, ?_⟩)
  | ((with_reducible show ∃ rs, R0 _ [] rs ∧ _); refine ⟨_, ⟨rfl, rfl⟩, ?_⟩)
  | ((with_reducible show ∃ C ns ds y, _ = D.exc C ns ds ∧ _); refine ⟨_, _, _, _, rfl, (by assumption), rfl, ?_⟩)
  | ((with_reducible show if decide _ = true then _ else _); first | refine if_dt (by decide +kernel) ?_ | refine if_df (by decide +kernel) ?_))
variable {P : Program} {w : World} {K : PySem.W.Frag} {mg : Str → Option Value} {base : Heap} {ca : Nat → Addr} {few miss : Addr}
theorem df_sorts (T : Top K mg "_law_sorts" sSorts ["_law_e"]) (C : Cls27 P w K mg base ca few miss) (m1 : mg "isinstance" = none) : Df P w K mg base "_law_sorts" (Wsorts ca) 1 :=
  T.df scSorts (fun _ _ ⟨_, _, _, h, _⟩ => by rw [h]; rfl) fun f cdv A outer s H E hr hnd ds Po' hw hl => by
  obtain ⟨i, odd, hi, rfl, hP⟩ := hw
  obtain ⟨ns, vs, ee, -⟩ := errD_exc ca odd i
  rw [ee]
  have hX : (cxOf CX0 P w K mg base ["_law_e"] "_law_sorts" (defScope sSorts) f cdv A outer s H E).nox.N = (["_law_e"] : List Str) := rfl
  have x0 : ExcC K (ca i) := C.ex i hi
  have c0 : ConstOk (cxOf CX0 P w K mg base ["_law_e"] "_law_sorts" (defScope sSorts) f cdv A outer s H E).nox "InvalidName" (.cls (ca 0)) := C.m0.cls
  have k0 := C.kit i 0 hi (by decide)
  have c1 : ConstOk (cxOf CX0 P w K mg base ["_law_e"] "_law_sorts" (defScope sSorts) f cdv A outer s H E).nox "InvalidPart" (.cls (ca 1)) := C.m1.cls
  have k1 := C.kit i 1 hi (by decide)
  have c2 : ConstOk (cxOf CX0 P w K mg base ["_law_e"] "_law_sorts" (defScope sSorts) f cdv A outer s H E).nox "InvalidTrait" (.cls (ca 2)) := C.m2.cls
  have k2 := C.kit i 2 hi (by decide)
  have c3 : ConstOk (cxOf CX0 P w K mg base ["_law_e"] "_law_sorts" (defScope sSorts) f cdv A outer s H E).nox "InvalidPerson" (.cls (ca 3)) := C.m3.cls
  have k3 := C.kit i 3 hi (by decide)
  have c4 : ConstOk (cxOf CX0 P w K mg base ["_law_e"] "_law_sorts" (defScope sSorts) f cdv A outer s H E).nox "InvalidEntry" (.cls (ca 4)) := C.m4.cls
  have k4 := C.kit i 4 hi (by decide)
  have c5 : ConstOk (cxOf CX0 P w K mg base ["_law_e"] "_law_sorts" (defScope sSorts) f cdv A outer s H E).nox "InvalidNumber" (.cls (ca 5)) := C.m5.cls
  have k5 := C.kit i 5 hi (by decide)
  have c6 : ConstOk (cxOf CX0 P w K mg base ["_law_e"] "_law_sorts" (defScope sSorts) f cdv A outer s H E).nox "InvalidRow" (.cls (ca 6)) := C.m6.cls
  have k6 := C.kit i 6 hi (by decide)
  have c7 : ConstOk (cxOf CX0 P w K mg base ["_law_e"] "_law_sorts" (defScope sSorts) f cdv A outer s H E).nox "InvalidProgram" (.cls (ca 7)) := C.m7.cls
  have k7 := C.kit i 7 hi (by decide)
  have c8 : ConstOk (cxOf CX0 P w K mg base ["_law_e"] "_law_sorts" (defScope sSorts) f cdv A outer s H E).nox "TooWide" (.cls (ca 8)) := C.m8.cls
  have k8 := C.kit i 8 hi (by decide)
  have c9 : ConstOk (cxOf CX0 P w K mg base ["_law_e"] "_law_sorts" (defScope sSorts) f cdv A outer s H E).nox "TooLarge" (.cls (ca 9)) := C.m9.cls
  have k9 := C.kit i 9 hi (by decide)
  have c10 : ConstOk (cxOf CX0 P w K mg base ["_law_e"] "_law_sorts" (defScope sSorts) f cdv A outer s H E).nox "TooMany" (.cls (ca 10)) := C.m10.cls
  have k10 := C.kit i 10 hi (by decide)
  have c11 : ConstOk (cxOf CX0 P w K mg base ["_law_e"] "_law_sorts" (defScope sSorts) f cdv A outer s H E).nox "InvalidWeb" (.cls (ca 11)) := C.m11.cls
  have k11 := C.kit i 11 hi (by decide)
  have c12 : ConstOk (cxOf CX0 P w K mg base ["_law_e"] "_law_sorts" (defScope sSorts) f cdv A outer s H E).nox "InvalidWave" (.cls (ca 12)) := C.m12.cls
  have k12 := C.kit i 12 hi (by decide)
  have c13 : ConstOk (cxOf CX0 P w K mg base ["_law_e"] "_law_sorts" (defScope sSorts) f cdv A outer s H E).nox "InvalidSight" (.cls (ca 13)) := C.m13.cls
  have k13 := C.kit i 13 hi (by decide)
  have c14 : ConstOk (cxOf CX0 P w K mg base ["_law_e"] "_law_sorts" (defScope sSorts) f cdv A outer s H E).nox "Unseen" (.cls (ca 14)) := C.m14.cls
  have k14 := C.kit i 14 hi (by decide)
  have c15 : ConstOk (cxOf CX0 P w K mg base ["_law_e"] "_law_sorts" (defScope sSorts) f cdv A outer s H E).nox "Barred" (.cls (ca 15)) := C.m15.cls
  have k15 := C.kit i 15 hi (by decide)
  have c16 : ConstOk (cxOf CX0 P w K mg base ["_law_e"] "_law_sorts" (defScope sSorts) f cdv A outer s H E).nox "InvalidDrawing" (.cls (ca 16)) := C.m16.cls
  have k16 := C.kit i 16 hi (by decide)
  have c17 : ConstOk (cxOf CX0 P w K mg base ["_law_e"] "_law_sorts" (defScope sSorts) f cdv A outer s H E).nox "NotTold" (.cls (ca 17)) := C.m17.cls
  have k17 := C.kit i 17 hi (by decide)
  have c18 : ConstOk (cxOf CX0 P w K mg base ["_law_e"] "_law_sorts" (defScope sSorts) f cdv A outer s H E).nox "DuplicateName" (.cls (ca 18)) := C.m18.cls
  have k18 := C.kit i 18 hi (by decide)
  have c19 : ConstOk (cxOf CX0 P w K mg base ["_law_e"] "_law_sorts" (defScope sSorts) f cdv A outer s H E).nox "InvalidText" (.cls (ca 19)) := C.m19.cls
  have k19 := C.kit i 19 hi (by decide)
  have c20 : ConstOk (cxOf CX0 P w K mg base ["_law_e"] "_law_sorts" (defScope sSorts) f cdv A outer s H E).nox "InvalidPage" (.cls (ca 20)) := C.m20.cls
  have k20 := C.kit i 20 hi (by decide)
  have c21 : ConstOk (cxOf CX0 P w K mg base ["_law_e"] "_law_sorts" (defScope sSorts) f cdv A outer s H E).nox "UnlikeWorlds" (.cls (ca 21)) := C.m21.cls
  have k21 := C.kit i 21 hi (by decide)
  have c22 : ConstOk (cxOf CX0 P w K mg base ["_law_e"] "_law_sorts" (defScope sSorts) f cdv A outer s H E).nox "HasWishes" (.cls (ca 22)) := C.m22.cls
  have k22 := C.kit i 22 hi (by decide)
  have c23 : ConstOk (cxOf CX0 P w K mg base ["_law_e"] "_law_sorts" (defScope sSorts) f cdv A outer s H E).nox "NotSquare" (.cls (ca 23)) := C.m23.cls
  have k23 := C.kit i 23 hi (by decide)
  have c24 : ConstOk (cxOf CX0 P w K mg base ["_law_e"] "_law_sorts" (defScope sSorts) f cdv A outer s H E).nox "NotBelow" (.cls (ca 24)) := C.m24.cls
  have k24 := C.kit i 24 hi (by decide)
  have c25 : ConstOk (cxOf CX0 P w K mg base ["_law_e"] "_law_sorts" (defScope sSorts) f cdv A outer s H E).nox "UnknownName" (.cls (ca 25)) := C.m25.cls
  have k25 := C.kit i 25 hi (by decide)
  have c26 : ConstOk (cxOf CX0 P w K mg base ["_law_e"] "_law_sorts" (defScope sSorts) f cdv A outer s H E).nox "NothingLeft" (.cls (ca 26)) := C.m26.cls
  have k26 := C.kit i 26 hi (by decide)
  show SX _ (_ :: _) [_] _
  wtm_at "st"
  wtm_at "st"
  wtm_at "ex"
  wtm_at "ex"; refine ex_bi bi_isiX (by assumption) (by rfl) bt_isi ?_; repeat wtm_at "go"
  refine ⟨_, x0, k0, ?_⟩
  wtm_at "ex"; refine ex_bi bi_isiX (by assumption) (by rfl) bt_isi ?_; repeat wtm_at "go"
  refine ⟨_, x0, k1, ?_⟩
  wtm_at "ex"; refine ex_bi bi_isiX (by assumption) (by rfl) bt_isi ?_; repeat wtm_at "go"
  refine ⟨_, x0, k2, ?_⟩
  wtm_at "ex"; refine ex_bi bi_isiX (by assumption) (by rfl) bt_isi ?_; repeat wtm_at "go"
  refine ⟨_, x0, k3, ?_⟩
  wtm_at "ex"; refine ex_bi bi_isiX (by assumption) (by rfl) bt_isi ?_; repeat wtm_at "go"
  refine ⟨_, x0, k4, ?_⟩
  wtm_at "ex"; refine ex_bi bi_isiX (by assumption) (by rfl) bt_isi ?_; repeat wtm_at "go"
  refine ⟨_, x0, k5, ?_⟩
  wtm_at "ex"; refine ex_bi bi_isiX (by assumption) (by rfl) bt_isi ?_; repeat wtm_at "go"
  refine ⟨_, x0, k6, ?_⟩
  wtm_at "ex"; refine ex_bi bi_isiX (by assumption) (by rfl) bt_isi ?_; repeat wtm_at "go"
  refine ⟨_, x0, k7, ?_⟩
  wtm_at "ex"; refine ex_bi bi_isiX (by assumption) (by rfl) bt_isi ?_; repeat wtm_at "go"
  refine ⟨_, x0, k8, ?_⟩
  wtm_at "ex"; refine ex_bi bi_isiX (by assumption) (by rfl) bt_isi ?_; repeat wtm_at "go"
  refine ⟨_, x0, k9, ?_⟩
  wtm_at "ex"; refine ex_bi bi_isiX (by assumption) (by rfl) bt_isi ?_; repeat wtm_at "go"
  refine ⟨_, x0, k10, ?_⟩
  wtm_at "ex"; refine ex_bi bi_isiX (by assumption) (by rfl) bt_isi ?_; repeat wtm_at "go"
  refine ⟨_, x0, k11, ?_⟩
  wtm_at "ex"; refine ex_bi bi_isiX (by assumption) (by rfl) bt_isi ?_; repeat wtm_at "go"
  refine ⟨_, x0, k12, ?_⟩
  wtm_at "ex"; refine ex_bi bi_isiX (by assumption) (by rfl) bt_isi ?_; repeat wtm_at "go"
  refine ⟨_, x0, k13, ?_⟩
  wtm_at "ex"; refine ex_bi bi_isiX (by assumption) (by rfl) bt_isi ?_; repeat wtm_at "go"
  refine ⟨_, x0, k14, ?_⟩
  wtm_at "ex"; refine ex_bi bi_isiX (by assumption) (by rfl) bt_isi ?_; repeat wtm_at "go"
  refine ⟨_, x0, k15, ?_⟩
  wtm_at "ex"; refine ex_bi bi_isiX (by assumption) (by rfl) bt_isi ?_; repeat wtm_at "go"
  refine ⟨_, x0, k16, ?_⟩
  wtm_at "ex"; refine ex_bi bi_isiX (by assumption) (by rfl) bt_isi ?_; repeat wtm_at "go"
  refine ⟨_, x0, k17, ?_⟩
  wtm_at "ex"; refine ex_bi bi_isiX (by assumption) (by rfl) bt_isi ?_; repeat wtm_at "go"
  refine ⟨_, x0, k18, ?_⟩
  wtm_at "ex"; refine ex_bi bi_isiX (by assumption) (by rfl) bt_isi ?_; repeat wtm_at "go"
  refine ⟨_, x0, k19, ?_⟩
  wtm_at "ex"; refine ex_bi bi_isiX (by assumption) (by rfl) bt_isi ?_; repeat wtm_at "go"
  refine ⟨_, x0, k20, ?_⟩
  wtm_at "ex"; refine ex_bi bi_isiX (by assumption) (by rfl) bt_isi ?_; repeat wtm_at "go"
  refine ⟨_, x0, k21, ?_⟩
  wtm_at "ex"; refine ex_bi bi_isiX (by assumption) (by rfl) bt_isi ?_; repeat wtm_at "go"
  refine ⟨_, x0, k22, ?_⟩
  wtm_at "ex"; refine ex_bi bi_isiX (by assumption) (by rfl) bt_isi ?_; repeat wtm_at "go"
  refine ⟨_, x0, k23, ?_⟩
  wtm_at "ex"; refine ex_bi bi_isiX (by assumption) (by rfl) bt_isi ?_; repeat wtm_at "go"
  refine ⟨_, x0, k24, ?_⟩
  wtm_at "ex"; refine ex_bi bi_isiX (by assumption) (by rfl) bt_isi ?_; repeat wtm_at "go"
  refine ⟨_, x0, k25, ?_⟩
  wtm_at "ex"; refine ex_bi bi_isiX (by assumption) (by rfl) bt_isi ?_; repeat wtm_at "go"
  refine ⟨_, x0, k26, ?_⟩
  repeat wtm_at "go"
  exact hP
end
abbrev sLaw : Stmt := topS 41
abbrev nLaw : List Str := ["_law_script", "_law_src", "_law_odd", "_law_codes_here", "_law_some", "_law_k", "_law_e", "_law_bare", "_law_bases", "_law_one"]
theorem scLaw : FnScope nLaw ["_law_script"] (defScope sLaw) := ⟨rfl, rfl, rfl, by decide +kernel, rfl, by decide +kernel, by decide +kernel⟩
abbrev XL (P : Program) (w : World) (K : PySem.W.Frag) (mg : Str → Option Value) (base : Heap) (f : Addr) (cdv : Value) (A : Around) (outer : List Env) (s : Shared) (H : Hp) (Ex : XK) : Cx := (cxOf CX0 P w K mg base nLaw "law" (defScope sLaw) f cdv A outer s H Ex).nox
structure LE (X : Cx) (ca : Nat → Addr) (few miss : Addr) : Prop where
  of_ : CallOk X "_law_of" Wof
  draw : CallOk X "_law_draw" Wdraw
  codes : CallOk X "_law_codes" Wcodes
  errors : CallOk X "_law_errors" (Werrors ca)
  sorts : CallOk X "_law_sorts" (Wsorts ca)
  field : CallOk X "_law_field" (Wfield ca)
  same : CallOk X "_law_same" (Wsame 2)
  few : ConstOk X "FewError" (.cls few)
  miss : ConstOk X "Missing" (.cls miss)
  mrange : X.mg "range" = none
  mlen : X.mg "len" = none
  misi : X.mg "isinstance" = none
  mval : X.mg "ValueError" = none
  mloo : X.mg "LookupError" = none
  mind : X.mg "IndexError" = none
  hu : X.A.units + 64 < cLine
theorem atI_nat' {l : List D} {j : Nat} {d : D} (h : l[j]? = some d) : atI l (j : Int) = some d := atI_nat h
theorem codeA_inj : ∀ i, i < 27 → ∀ t, t < 27 → decide (codeA t = codeA i) = decide (i = t) := by decide +kernel
abbrev bareT : List Str := ["UnlikeWorlds", "HasWishes", "NotSquare", "NotBelow", "NothingLeft"]
theorem bareA : ∀ i, i < 27 → (decide (codeA i ∈ bareT)) = (fldA i).isNone := by decide +kernel
theorem fld_bare {odd : D} {i : Nat} (h : i < 27) : fldD odd i = if decide (codeA i ∈ bareT) = true then .non else odd := by
  rw [bareA i h]
  unfold fldD
  cases fldA i <;> rfl
theorem range_int {n i : Nat} {d : D} (h : (rangeD n)[i]? = some d) : d = .int (i : Int) := by
  have hi : i < n := by
    have := (List.getElem?_eq_some_iff.mp h).1
    rwa [rangeD_len] at this
  rw [rangeD_get hi] at h
  exact (Option.some.inj h).symm
theorem codes_get : ∀ i, i < 27 → (codeT.map D.str)[i]? = some (.str (codeA i)) := fun i h => by
  have hl : i < codeT.length := h
  rw [List.getElem?_map, List.getElem?_eq_getElem hl]
  unfold codeA
  rw [List.getD_eq_getElem?_getD, List.getElem?_eq_getElem hl]
  rfl
theorem errs_get (ca : Nat → Addr) (odd : D) : ∀ i, i < 27 → ((List.range 27).map (errD ca odd))[i]? = some (errD ca odd i) := fun i h => by
  rw [List.getElem?_map, List.getElem?_range h]
  rfl
section
local macro_rules | `(tactic| wtm_at "tx") => `(tactic| first
  | ((with_reducible show TX _ (PySem.Expr.Compare _ [PySem.CmpOp.NotEq] _ _) _ _); refine tx_cmp (od_neE (by assumption)) ?_))
local macro_rules | `(tactic| wtm_at "ex") => `(tactic| first
  | ((with_reducible show EX _ (PySem.Expr.Call (PySem.Expr.Name "isinstance" _) _ [] _) _ _); refine ex_bi bi_isiX (by assumption) (by rfl) bt_isi ?_)
  | ((with_reducible show EX _ (PySem.Expr.Name "ValueError" _) _ _); refine ex_ty (by assumption) (by rfl) bt_ValueError ?_)
  | ((with_reducible show EX _ (PySem.Expr.Name "LookupError" _) _ _); refine ex_ty (by assumption) (by rfl) bt_LookupError ?_)
  | ((with_reducible show EX _ (PySem.Expr.Name "IndexError" _) _ _); refine ex_ty (by assumption) (by rfl) bt_IndexError ?_))
variable {P : Program} {w : World} {K : PySem.W.Frag} {mg : Str → Option Value} {base : Heap} {ca : Nat → Addr} {few miss : Addr} {f : Addr} {cdv : Value} {A : Around} {outer : List Env} {s : Shared} {H : Hp} {Ex : XK}
set_option maxHeartbeats 64000000 in
theorem law_body (e : LE (XL P w K mg base f cdv A outer s H Ex) ca few miss) (C : Cls27 P w K mg base ca few miss) : SX (XL P w K mg base f cdv A outer s H Ex) ((defBody sLaw).drop 1) [.no, .is .src, .no, .no, .no, .no, .no, .no, .no, .no] { nx := fun _ => False, rt := fun d => d = .bl true } := by
  obtain ⟨c1, c2, c3, c4, c5, c6, c7, z0, z1, m1, m2, m3, m4, m5, m6, hu⟩ := e
  have hX : (XL P w K mg base f cdv A outer s H Ex).N = nLaw := rfl
  have hnd : nLaw.Nodup := scLaw.nd
  show SX _ (_ :: _) _ _
  repeat wtm_at "go"
  refine ⟨_, rfl, by decide, by decide, fun k h1 h2 => ?_⟩
  repeat wtm_at "go"
  refine ⟨_, rfl, by simp, (by show (7 : Nat) ≤ 100000; decide), fun odd hd => ?_⟩
  have ho : shp 1 odd = true := by
    simp only [List.mem_cons, List.not_mem_nil, or_false] at hd
    rcases hd with rfl | rfl | rfl | rfl | rfl | rfl | rfl <;> rfl
  clear hd
  repeat wtm_at "go"
  refine s_asg (pg_tup rfl (pgs_cons (pg_name (i := 3) hnd rfl (Or.inr rfl)) (pgs_cons (pg_name (i := 4) hnd rfl (Or.inl rfl)) pgs_nil))) (tg_tup (tgs_cons (tg_name 3) (tgs_cons (tg_name 4) tgs_nil)) (fun ds Γ P h => by obtain ⟨a, r, rfl, b, r2, rfl, rfl, _⟩ := h; rfl)) ?_
  repeat wtm_at "go"
  refine ⟨rfl, ?_⟩
  repeat wtm_at "go"
  refine ⟨odd, rfl, ho, ?_⟩
  repeat wtm_at "go"
  have hCg := codes_get
  have hEg := errs_get ca odd
  have hCl : (List.map D.str codeT).length = 27 := rfl
  have hCe : ∀ j d, (List.map D.str codeT)[j]? = some d → j < 27 ∧ d = .str (codeA j) := fun j d h => by
    have hj : j < 27 := (List.getElem?_eq_some_iff.mp h).1
    rw [codes_get j hj] at h
    exact ⟨hj, (Option.some.inj h).symm⟩
  generalize List.map D.str codeT = CL at *
  generalize (List.range 27).map (errD ca odd) = EL at *
  refine ⟨_, rfl, _, _, rfl, _, _, rfl, rfl, ?_⟩
  show SX _ (_ :: _) [.no, .is .src, .is odd, .is (.lst CL), .is (.lst EL), .no, .no, .no, .no, .no] _
  wtm_at "st"
  refine s_for .never rfl (pg_name (i := 5) hnd rfl (Or.inr rfl)) (tg_name 5) ?_
  refine wx_range (by assumption) (by rfl) ?_
  repeat wtm_at "go"
  rw [hCl]
  refine ⟨by decide, by decide, fun _ Γ => Γ = [.no, .is .src, .is odd, .is (.lst CL), .is (.lst EL), .no, .no, .no, .no, .no], rfl, ?_, ?_⟩
  · rintro i d Γ hd rfl
    have ei := range_int hd
    have hi : i < 27 := by
      have := (List.getElem?_eq_some_iff.mp hd).1
      rw [rangeD_len] at this
      exact this
    subst ei
    clear hd
    have gC := hCg i hi
    have gE := hEg i hi
    obtain ⟨ns, vs, ee, lk⟩ := errD_exc ca odd i
    rw [ee] at gE
    have fb := fld_bare (odd := odd) hi
    have x0 : ExcC K (ca i) := C.ex i hi
    have x1 : FldOk K (ca i) "code" := C.code i hi
    show SX _ (_ :: _) [.no, .is .src, .is odd, .is (.lst CL), .is (.lst EL), .is (.int (i : Int)), .no, .no, .no, .no] _
    repeat wtm_at "go"
    refine o_ixl (atI_nat' gE) ?_
    repeat wtm_at "go"
    refine o_ixl (atI_nat' gC) ?_
    repeat wtm_at "go"
    refine ⟨_, _, _, _, rfl, x1, lk, ?_⟩
    repeat wtm_at "go"
    refine ⟨i, odd, hi, by rw [ee], ?_⟩
    rw [fb]
    repeat wtm_at "go"
    refine o_ixl (atI_nat' gC) ?_
    repeat wtm_at "go"
    refine if_d (fun hb => ?_) fun hb => ?_
    all_goals (rw [hb]; first | rw [if_pos rfl] | rw [if_neg Bool.false_ne_true])
    all_goals (repeat wtm_at "go")
    all_goals (refine ⟨_, rfl, (by simp [shp, ho]), ?_⟩)
    -- BRANCHES
    · repeat wtm_at "go"
      refine ⟨i, odd, hi, by rw [ee], ?_⟩
      refine ex_lc (own := [("_law_one", 9)]) (js := [9]) rfl hnd (blkOk_by (N := nLaw) (sc := defScope sLaw) (by decide +kernel)) (fun _ _ _ _ _ => pg_name (i := 9) hnd rfl (Or.inl rfl)) (tg_name 9) (by decide) (by decide)
        [.no, .is .src, .is odd, .is (.lst CL), .is (.lst EL), .is (.int (i : Int)), .is (.exc (ca i) ns vs), .is (.bl true), .no, .no] rfl ?_
      refine wx_list ?_
      repeat wtm_at "go"
      refine ⟨by rw [hCl]; decide, fun j es => es = (List.range j).map fun t => D.bl (decide (codeA t = codeA i)), rfl, fun j d es hd he => ?_, fun es he => ?_⟩
      · obtain ⟨hj, rfl⟩ := hCe j d hd
        subst he
        show EB _ _ _ _ _
        intro s0 H0 C0 cl fp
        repeat wtm_at "go"
        refine o_ixl (atI_nat' gC) ?_
        repeat wtm_at "go"
        show (List.range j).map (fun t => D.bl (decide (codeA t = codeA i))) ++ [_] = _
        rw [List.range_succ, List.map_append]
        rfl
      · subst he
        rw [hCl]
        refine ⟨(List.range 27).map fun j => decide (i = j), by simp, by rw [List.map_map]; rfl, ?_, ?_⟩
        · rw [List.map_map]
          refine congrArg D.lst (List.map_congr_left fun t ht => ?_)
          show D.bl (decide (codeA t = codeA i)) = D.bl (decide (i = t))
          rw [codeA_inj i hi t (List.mem_range.mp ht)]
        · repeat wtm_at "go"
          refine ⟨_, x0, C.kFew i hi, ?_⟩
          repeat wtm_at "go"
          refine ⟨_, x0, C.kVal i hi, ?_⟩
          repeat wtm_at "go"
          refine ⟨_, x0, C.kMis i hi, ?_⟩
          repeat wtm_at "go"
          refine ⟨_, x0, C.kLoo i hi, ?_⟩
          repeat wtm_at "go"
          refine ⟨_, x0, C.kInd i hi, ?_⟩
          repeat wtm_at "go"
          refine ⟨[decide ((i : Int) < 25), decide ((i : Int) < 25), decide ((i : Int) = 25), decide ((i : Int) > 24), decide ((i : Int) = 26)], by show (5 : Nat) ≤ 1000; decide, rfl, rfl, ?_⟩
          repeat wtm_at "go"
          exact ⟨[.no, .is .src, .is odd, .is (.lst CL), .is (.lst EL), .no, .no, .no, .no, .no], ⟨.refl _, .refl _, .refl _, .refl _, .refl _, .no _, .no _, .no _, .no _, .no _, trivial⟩, rfl⟩
    · repeat wtm_at "go"
      refine ⟨i, odd, hi, by rw [ee], ?_⟩
      refine ex_lc (own := [("_law_one", 9)]) (js := [9]) rfl hnd (blkOk_by (N := nLaw) (sc := defScope sLaw) (by decide +kernel)) (fun _ _ _ _ _ => pg_name (i := 9) hnd rfl (Or.inl rfl)) (tg_name 9) (by decide) (by decide)
        [.no, .is .src, .is odd, .is (.lst CL), .is (.lst EL), .is (.int (i : Int)), .is (.exc (ca i) ns vs), .is (.bl false), .no, .no] rfl ?_
      refine wx_list ?_
      repeat wtm_at "go"
      refine ⟨by rw [hCl]; decide, fun j es => es = (List.range j).map fun t => D.bl (decide (codeA t = codeA i)), rfl, fun j d es hd he => ?_, fun es he => ?_⟩
      · obtain ⟨hj, rfl⟩ := hCe j d hd
        subst he
        show EB _ _ _ _ _
        intro s0 H0 C0 cl fp
        repeat wtm_at "go"
        refine o_ixl (atI_nat' gC) ?_
        repeat wtm_at "go"
        show (List.range j).map (fun t => D.bl (decide (codeA t = codeA i))) ++ [_] = _
        rw [List.range_succ, List.map_append]
        rfl
      · subst he
        rw [hCl]
        refine ⟨(List.range 27).map fun j => decide (i = j), by simp, by rw [List.map_map]; rfl, ?_, ?_⟩
        · rw [List.map_map]
          refine congrArg D.lst (List.map_congr_left fun t ht => ?_)
          show D.bl (decide (codeA t = codeA i)) = D.bl (decide (i = t))
          rw [codeA_inj i hi t (List.mem_range.mp ht)]
        · repeat wtm_at "go"
          refine ⟨_, x0, C.kFew i hi, ?_⟩
          repeat wtm_at "go"
          refine ⟨_, x0, C.kVal i hi, ?_⟩
          repeat wtm_at "go"
          refine ⟨_, x0, C.kMis i hi, ?_⟩
          repeat wtm_at "go"
          refine ⟨_, x0, C.kLoo i hi, ?_⟩
          repeat wtm_at "go"
          refine ⟨_, x0, C.kInd i hi, ?_⟩
          repeat wtm_at "go"
          refine ⟨[decide ((i : Int) < 25), decide ((i : Int) < 25), decide ((i : Int) = 25), decide ((i : Int) > 24), decide ((i : Int) = 26)], by show (5 : Nat) ≤ 1000; decide, rfl, rfl, ?_⟩
          repeat wtm_at "go"
          exact ⟨[.no, .is .src, .is odd, .is (.lst CL), .is (.lst EL), .no, .no, .no, .no, .no], ⟨.refl _, .refl _, .refl _, .refl _, .refl _, .no _, .no _, .no _, .no _, .no _, trivial⟩, rfl⟩
  · rintro Γ rfl
    show SX _ (_ :: _) _ _
    repeat wtm_at "go"
    exact rfl
end
/-! ### the law itself -/
def spLaw (K : PySem.W.Frag) : Sp := fun vs H Q _ => ∃ (a : Addr) (ns : List Int), vs = [.ref a] ∧ SqL K H a (ns.map V.int) ∧ ns.length ≤ 63 ∧ ∀ H', Q (.bl true) H'
structure Env1 (K : PySem.W.Frag) (mg : Str → Option Value) : Prop where
  t1 : Top K mg "copied" sCopied ["value"]
  t2 : Top K mg "_law_source" sSource ["_law_script"]
  t3 : Top K mg "_law_draw" sDraw ["_law_src", "_law_many7"]
  t4 : Top K mg "_law_of" sOf ["_law_src", "_law_things7"]
  t5 : Top K mg "_law_same" sSame ["_law_found", "_law_due"]
  t6 : Top K mg "_law_field" sField ["_law_e"]
  t7 : Top K mg "_law_codes" sCodes []
  t8 : Top K mg "_law_errors" sErrors ["_law_odd"]
  t9 : Top K mg "_law_sorts" sSorts ["_law_e"]
  n1 : mg "isinstance" = none
  n2 : mg "list" = none
  n3 : mg "tuple" = none
  n4 : mg "len" = none
  n5 : mg "int" = none
  n6 : mg "all" = none
  n7 : mg "zip" = none
  n8 : mg "bool" = none
  n9 : mg "str" = none
  n10 : mg "range" = none
  n11 : mg "ValueError" = none
  n12 : mg "LookupError" = none
  n13 : mg "IndexError" = none
abbrev veT : List Value := [.type "ValueError", .type "Exception", .type "BaseException", .type "object"]
abbrev leT : List Value := [.type "LookupError", .type "Exception", .type "BaseException", .type "object"]
abbrev ieT : List Value := [.type "IndexError", .type "LookupError", .type "Exception", .type "BaseException", .type "object"]
def tlA (few miss : Addr) (i : Nat) : List Value := if i < 25 then .ref few :: veT else if i = 25 then .ref miss :: leT else ieT
structure RowA (K : PySem.W.Frag) (few miss : Addr) (a : Addr) (i : Nat) : Prop where
  c : ExcC K a
  mro : ∃ cd, PySem.W.clsIn K a = some cd ∧ cd.mro = .ref a :: tlA few miss i
  ty : PySem.W.typeIn K (.ref a) = some (.type "type")
  code : FldOk K a "code"
  fld : ∀ f, fldA i = some f → FldOk K a f
section
variable {K : PySem.W.Frag} {few miss a b : Addr} {i j : Nat}
theorem RowA.sub (A : RowA K few miss a i) (v : Value) : PySem.W.subIn K (.ref a) v = some ((Value.ref a :: tlA few miss i).contains v) := by
  obtain ⟨cd, h1, h2⟩ := A.mro
  show PySem.W.mroIn K a v = _
  unfold PySem.W.mroIn
  rw [h1, Option.bind_some, h2]
  rfl
theorem kit_ref (A : RowA K few miss a i) (hb : (PySem.W.clsIn K b).isSome = true) (tb : PySem.W.typeIn K (.ref b) = some (.type "type")) (ne : a ≠ b) : PySem.W.kitOne K (.ref a) (.ref b) = some ((tlA few miss i).contains (.ref b)) := by
  unfold PySem.W.kitOne PySem.W.kitCls
  have h0 : ¬ (Value.ref a == Value.ref b) = true := fun h => ne (Value.ref.inj (beq_iff_eq.mp h))
  have h1 : ((PySem.W.clsIn K b).isSome && PySem.W.typeIn K (.ref b) == some (.type "type")) = true := by rw [hb, tb] <;> rfl
  rw [if_neg h0]
  show (if ((PySem.W.clsIn K b).isSome && PySem.W.typeIn K (.ref b) == some (.type "type")) = true then _ else _) = _
  rw [if_pos h1, A.sub, List.contains_cons]
  have h2 : (Value.ref b == Value.ref a) = false := Bool.eq_false_iff.mpr fun h => ne (Value.ref.inj (beq_iff_eq.mp h)).symm
  rw [h2, Bool.false_or]
theorem kit_typ (A : RowA K few miss a i) {n : String} (hm : PySem.W.kitMeta n = true) : PySem.W.kitOne K (.ref a) (.type n) = some ((tlA few miss i).contains (.type n)) := by
  unfold PySem.W.kitOne PySem.W.kitCls
  have h0 : ¬ (Value.ref a == Value.type n) = true := fun h => nomatch beq_iff_eq.mp h
  rw [if_neg h0]
  show (if PySem.W.kitMeta n = true then _ else _) = _
  rw [if_pos hm, A.sub, List.contains_cons]
  have h2 : (Value.type n == Value.ref a) = false := Bool.eq_false_iff.mpr fun h => nomatch beq_iff_eq.mp h
  rw [h2, Bool.false_or]
theorem bne_ref {x y : Addr} (h : x ≠ y) : (Value.ref x == Value.ref y) = false := Bool.eq_false_iff.mpr fun e => h (Value.ref.inj (beq_iff_eq.mp e))
theorem bne_rt {x : Addr} {n : String} : (Value.ref x == Value.type n) = false := Bool.eq_false_iff.mpr fun e => nomatch beq_iff_eq.mp e
theorem bne_tr {x : Addr} {n : String} : (Value.type n == Value.ref x) = false := Bool.eq_false_iff.mpr fun e => nomatch beq_iff_eq.mp e
theorem tl_ref (h1 : b ≠ few) (h2 : b ≠ miss) : (tlA few miss i).contains (.ref b) = false := by
  unfold tlA
  split
  · simp [List.contains_cons, bne_ref h1, bne_rt, h1]
  · split
    · simp [List.contains_cons, bne_ref h2, bne_rt, h2]
    · simp [List.contains_cons, bne_rt]
theorem tl_few (h : few ≠ miss) : (tlA few miss i).contains (.ref few) = decide ((i : Int) < 25) := by
  unfold tlA
  split
  · rename_i q
    rw [decide_eq_true (by omega)]
    simp [List.contains_cons]
  · rename_i q
    rw [decide_eq_false (by omega)]
    split
    · simp [List.contains_cons, bne_ref h, bne_rt, h]
    · simp [List.contains_cons, bne_rt]
theorem tl_miss (h : few ≠ miss) : (tlA few miss i).contains (.ref miss) = decide ((i : Int) = 25) := by
  unfold tlA
  split
  · rename_i q
    rw [decide_eq_false (by omega)]
    simp [List.contains_cons, bne_ref h.symm, bne_rt, h.symm]
  · rename_i q
    split
    · rename_i q2
      rw [decide_eq_true (by omega)]
      simp [List.contains_cons]
    · rename_i q2
      rw [decide_eq_false (by omega)]
      simp [List.contains_cons, bne_rt]
theorem tl_val : (tlA few miss i).contains (.type "ValueError") = decide ((i : Int) < 25) := by
  unfold tlA
  split
  · rename_i q
    rw [decide_eq_true (by omega)]
    simp [List.contains_cons, bne_tr]
  · rename_i q
    rw [decide_eq_false (by omega)]
    split
    · rw [List.contains_cons, bne_tr]; decide
    · decide
theorem tl_loo (hi : i < 27) : (tlA few miss i).contains (.type "LookupError") = decide ((i : Int) > 24) := by
  unfold tlA
  split
  · rename_i q
    rw [decide_eq_false (by omega), List.contains_cons, bne_tr]; decide
  · rename_i q
    rw [decide_eq_true (by omega)]
    split
    · rw [List.contains_cons, bne_tr]; decide
    · decide
theorem tl_ind (hi : i < 27) : (tlA few miss i).contains (.type "IndexError") = decide ((i : Int) = 26) := by
  unfold tlA
  split
  · rename_i q
    rw [decide_eq_false (by omega), List.contains_cons, bne_tr]; decide
  · rename_i q
    split
    · rename_i q2
      rw [decide_eq_false (by omega), List.contains_cons, bne_tr]; decide
    · rename_i q2
      rw [decide_eq_true (by omega)]
      decide
theorem clsA_mk {nm : Str} {tl : List Value} {cd : ClassData} {B newId initId : String} {bmB : List Value} (FB : ExcBaseFacts B newId initId bmB) (SF : StoreFacts B bmB "object.__setattr__" "object") (hn : PySem.W.specialIn K (.builtin "object.__class__") "__get__" = some (some (.builtin "getset_descriptor.__get__"))) (ht : PySem.W.takesIn K (.builtin "object.__class__") = some true)
    (n : PySem.W.nsIn K mainGlobals nm = some (some (.ref a))) (c : PySem.W.clsIn K a = some cd) (m : cd.mro = .ref a :: tl) (q1 : PySem.W.excInitIn K a bmB newId = true) (q2 : PySem.W.excOver K a bmB = true) (ty : PySem.W.typeIn K (.ref a) = some (.type "type"))
    (sa : PySem.W.findIn K (.ref a) "__setattr__" = some (some (.builtin "object.__setattr__"))) (kC : PySem.W.keepIn K (.ref a) = true) (hg : PySem.W.findIn K (.ref a) "__getattribute__" = some (some (.builtin "BaseException.__getattribute__"))) (hk : PySem.W.findIn K (.ref a) "__getattr__" = some none)
    (hs : PySem.W.subIn K (.ref a) (.type "BaseException") = some true) (hd : PySem.W.hasDictIn K a = true) (ha : PySem.W.findIn K (.ref a) "__class__" = some (some (.builtin "object.__class__"))) (hm : PySem.W.mroIn K a (.type "object") = some true) : ClsA K nm a tl :=
  ⟨⟨⟨B, newId, initId, bmB, FB, SF, q1, q2⟩, sa, kC, ⟨hg, hk, hs, hd, ha, hn, ht, hm⟩⟩, n, ⟨cd, c, m⟩, ty⟩
theorem iniA_mk {q : Str} {st : Stmt} {ps : List Str} {f : Addr} {oc : Value} {od an : Option Addr} {osl : Array (Option Value)} {kV doc pm cdv ct : Value} (iC : PySem.W.findIn K (.ref a) "__init__" = some (some (.ref f))) (tI : PySem.W.typeIn K (.ref f) = some (.type "function"))
    (l : K.lookup f = some ⟨oc, od, .func (PySem.W.fnOf "__init__" q (defArgs st) (defBody st) (defScope st) .none kV doc pm an cdv ct), osl⟩) (c : PySem.W.codeIn K cdv q = true) (k : PySem.W.keepIn K (.ref f) = true)
    (hb : ∀ (kV doc pm : Value) (an : Option Addr) (cdv ct : Value) (us : List Value), us.length = ps.length → bindArgs (PySem.W.fnOf "__init__" q (defArgs st) (defBody st) (defScope st) .none kV doc pm an cdv ct) ⟨us, []⟩ = pure (ps.zip us)) : IniA K a q st ps := by
  have F := fun_mk (st := st) l c k
  exact ⟨f, _, iC, tI, F, F.binds hb⟩
theorem fld_of {tl} {nm n : Str} (A : ClsA K nm a tl) (h : PySem.W.findIn K (.ref a) n = some none) : FldOk K a n := ⟨A.T.c, h⟩
end
section
variable {P : Program} {w : World} {K : PySem.W.Frag} {mg : Str → Option Value} {base : Heap} {ca : Nat → Addr} {few miss : Addr}
theorem df_draw' (T : Top K mg "_law_draw" sDraw ["_law_src", "_law_many7"]) (ml : mg "len" = none) (mi : mg "int" = none) : Df P w K mg base "_law_draw" Wdraw 1 := df_draw T ml mi
theorem ok_law (e : Env1 K mg) (C : Cls27 P w K mg base ca few miss) {f : Addr} {fd : FuncData} (F : Fun K "law" "law" sLaw f fd) : FnOk P w K mg base CX0 8 f fd ["_law_script"] (spLaw K) := by
  have d3 := df_draw (P := P) (w := w) (base := base) e.t3 e.n4 e.n5
  have d4 := df_of (P := P) (w := w) (base := base) e.t4 e.n4 d3
  have d5 := df_same (P := P) (w := w) (base := base) e.t5 e.n1 e.n2 e.n3 e.n4 e.n6 e.n7 e.n8 e.n5 e.n9 2
  have d6 := df_field e.t6 C
  have d7 := df_codes (P := P) (w := w) (base := base) e.t7
  have d8 := df_errors e.t8 C
  have d9 := df_sorts e.t9 C e.n1
  obtain ⟨fS, fdS, FS, hmS, hbS⟩ := e.t2.ex
  have GS : FnOk P w K mg base CX0 1 fS fdS ["_law_script"] (spSource K) := ok_source FS e.n2
  refine F.ok (k := 7) scLaw (fun vs H Q E h => by obtain ⟨a, ns, rfl, _⟩ := h; rfl) (fun cdv A outer s H vs Q Ex hr h => ?_)
  obtain ⟨a, ns, rfl, hS, hlen, q⟩ := h
  have le : LE (XL P w K mg base f cdv A outer s H Ex) ca few miss := ⟨d4.call hr, d3.call hr, d7.call hr, d8.call hr, d9.call hr, d6.call hr, d5.call hr, ⟨.ref few, _, C.few, by rfl, fun _ _ _ => .cls _⟩, ⟨.ref miss, _, C.miss, by rfl, fun _ _ _ => .cls _⟩, e.n10, e.n4, e.n1, e.n11, e.n12, e.n13, hr.units⟩
  refine ⟨_, pss_cons (ps_set (i := 1) scLaw.nd rfl (.inl rfl) (pe_call GS (hr.mono (by decide)) (by rfl) hmS FS.kp hbS .nil pass0 (pa_cons (pv 0) pa_nil))) pss_sem, ?_⟩
  refine ⟨.ref a, rfl, a, ns, rfl, hS, hlen, fun p l ms H' same np nl ne hp hl => ?_⟩
  have src : SrcOk K ⟨p, l⟩ H' := ⟨0, 0, 12023, 0, ms, hp, hl, by decide, by decide, by decide, by decide, by decide⟩
  have st : StOk K ⟨p, l⟩ [p] [] H' H' ((L2.start nLaw [.ref a]).set 1 (some (.ref p))) [.no, .is .src, .no, .no, .no, .no, .no, .no, .no, .no] := {
    len := rfl
    ent := fun i g hg => by
      match i, hg with
      | 0, hg => cases hg; exact ⟨_, rfl, trivial⟩
      | 1, hg => cases hg; exact ⟨_, rfl, .ref p, rfl, .src src (by simp)⟩
      | 2, hg => cases hg; exact ⟨_, rfl, trivial⟩
      | 3, hg => cases hg; exact ⟨_, rfl, trivial⟩
      | 4, hg => cases hg; exact ⟨_, rfl, trivial⟩
      | 5, hg => cases hg; exact ⟨_, rfl, trivial⟩
      | 6, hg => cases hg; exact ⟨_, rfl, trivial⟩
      | 7, hg => cases hg; exact ⟨_, rfl, trivial⟩
      | 8, hg => cases hg; exact ⟨_, rfl, trivial⟩
      | 9, hg => cases hg; exact ⟨_, rfl, trivial⟩
      | _ + 10, hg => exact absurd hg (by simp)
    ext := .refl
    live0 := ⟨⟨_, hp⟩, ⟨_, hl⟩, ne⟩
    mem := by simp
    bl := fun m hm => by
      have : m = p := by simpa using hm
      rw [this]; exact ⟨_, hp⟩
    nd := List.nodup_nil
    out := fun _ h => absurd h (by simp)
    new := fun _ h => absurd h (by simp)
    liv := fun _ h => absurd h (by simp) }
  refine law_body le C _ _ _ _ _ _ st _ ⟨fun O' H1 σ Γ _ _ z => False.elim z, fun v d H1 _ r z => ?_, fun _ _ _ _ _ _ z => False.elim z, fun _ _ _ _ _ _ z => False.elim z⟩
  have z' : d = .bl true := z
  subst z'
  cases r
  exact q H1
end
theorem top_mk {K : PySem.W.Frag} {mg : Str → Option Value} {h : Heap} {x : Str} {st : Stmt} {ps : List Str} {f : Addr} {oc : Value} {od an : Option Addr} {osl : Array (Option Value)} {kV doc pm cdv ct : Value} (X : K.In h) (G : h.Ns mainGlobals mg) (a : PySem.W.nsIn K mainGlobals x = some (some (.ref f)))
    (l : K.lookup f = some ⟨oc, od, .func (PySem.W.fnOf x x (defArgs st) (defBody st) (defScope st) .none kV doc pm an cdv ct), osl⟩) (c : PySem.W.codeIn K cdv x = true) (k : PySem.W.keepIn K (.ref f) = true)
    (hb : ∀ (kV doc pm : Value) (an : Option Addr) (cdv ct : Value) (us : List Value), us.length = ps.length → bindArgs (PySem.W.fnOf x x (defArgs st) (defBody st) (defScope st) .none kV doc pm an cdv ct) ⟨us, []⟩ = pure (ps.zip us)) : Top K mg x st ps := by
  have F := fun_mk (st := st) l c k
  exact ⟨f, _, F, PySem.W.mg_of X G a, F.binds hb⟩
set_option maxHeartbeats 16000000 in
theorem cls_all {P : Program} {w : World} {K : PySem.W.Frag} {mg : Str → Option Value} {base h : Heap} (X : K.In h) (G : h.Ns mainGlobals mg) (dc : Df P w K mg base "copied" (Wcopied 1) 2) {few miss : Addr} {cdF cdM : ClassData}
    (nF : PySem.W.nsIn K mainGlobals "FewError" = some (some (.ref few))) (cF : PySem.W.clsIn K few = some cdF) (tF : PySem.W.typeIn K (.ref few) = some (.type "type")) (nM : PySem.W.nsIn K mainGlobals "Missing" = some (some (.ref miss))) (cM : PySem.W.clsIn K miss = some cdM) (tM : PySem.W.typeIn K (.ref miss) = some (.type "type"))
    {a0 : Addr} (A0 : ClsA K "InvalidName" a0 (.ref few :: veT)) (I0 : IniA K a0 "InvalidName.__init__" sI0 ["self", "name"]) (r0 : PySem.W.findIn K (.ref a0) "code" = some none) (p0 : PySem.W.findIn K (.ref a0) "name" = some none)
    {a1 : Addr} (A1 : ClsA K "InvalidPart" a1 (.ref few :: veT)) (I1 : IniA K a1 "InvalidPart.__init__" sI1 ["self", "index"]) (r1 : PySem.W.findIn K (.ref a1) "code" = some none) (p1 : PySem.W.findIn K (.ref a1) "index" = some none)
    {a2 : Addr} (A2 : ClsA K "InvalidTrait" a2 (.ref few :: veT)) (I2 : IniA K a2 "InvalidTrait.__init__" sI2 ["self", "index"]) (r2 : PySem.W.findIn K (.ref a2) "code" = some none) (p2 : PySem.W.findIn K (.ref a2) "index" = some none)
    {a3 : Addr} (A3 : ClsA K "InvalidPerson" a3 (.ref few :: veT)) (I3 : IniA K a3 "InvalidPerson.__init__" sI3 ["self", "given"]) (r3 : PySem.W.findIn K (.ref a3) "code" = some none) (p3 : PySem.W.findIn K (.ref a3) "given" = some none)
    {a4 : Addr} (A4 : ClsA K "InvalidEntry" a4 (.ref few :: veT)) (I4 : IniA K a4 "InvalidEntry.__init__" sI4 ["self", "given"]) (r4 : PySem.W.findIn K (.ref a4) "code" = some none) (p4 : PySem.W.findIn K (.ref a4) "given" = some none)
    {a5 : Addr} (A5 : ClsA K "InvalidNumber" a5 (.ref few :: veT)) (I5 : IniA K a5 "InvalidNumber.__init__" sI5 ["self", "given"]) (r5 : PySem.W.findIn K (.ref a5) "code" = some none) (p5 : PySem.W.findIn K (.ref a5) "given" = some none)
    {a6 : Addr} (A6 : ClsA K "InvalidRow" a6 (.ref few :: veT)) (I6 : IniA K a6 "InvalidRow.__init__" sI6 ["self", "index"]) (r6 : PySem.W.findIn K (.ref a6) "code" = some none) (p6 : PySem.W.findIn K (.ref a6) "index" = some none)
    {a7 : Addr} (A7 : ClsA K "InvalidProgram" a7 (.ref few :: veT)) (I7 : IniA K a7 "InvalidProgram.__init__" sI7 ["self", "path"]) (r7 : PySem.W.findIn K (.ref a7) "code" = some none) (p7 : PySem.W.findIn K (.ref a7) "path" = some none)
    {a8 : Addr} (A8 : ClsA K "TooWide" a8 (.ref few :: veT)) (I8 : IniA K a8 "TooWide.__init__" sI8 ["self", "most"]) (r8 : PySem.W.findIn K (.ref a8) "code" = some none) (p8 : PySem.W.findIn K (.ref a8) "most" = some none)
    {a9 : Addr} (A9 : ClsA K "TooLarge" a9 (.ref few :: veT)) (I9 : IniA K a9 "TooLarge.__init__" sI9 ["self", "most"]) (r9 : PySem.W.findIn K (.ref a9) "code" = some none) (p9 : PySem.W.findIn K (.ref a9) "most" = some none)
    {a10 : Addr} (A10 : ClsA K "TooMany" a10 (.ref few :: veT)) (I10 : IniA K a10 "TooMany.__init__" sI10 ["self", "most"]) (r10 : PySem.W.findIn K (.ref a10) "code" = some none) (p10 : PySem.W.findIn K (.ref a10) "most" = some none)
    {a11 : Addr} (A11 : ClsA K "InvalidWeb" a11 (.ref few :: veT)) (I11 : IniA K a11 "InvalidWeb.__init__" sI11 ["self", "given"]) (r11 : PySem.W.findIn K (.ref a11) "code" = some none) (p11 : PySem.W.findIn K (.ref a11) "given" = some none)
    {a12 : Addr} (A12 : ClsA K "InvalidWave" a12 (.ref few :: veT)) (I12 : IniA K a12 "InvalidWave.__init__" sI12 ["self", "index"]) (r12 : PySem.W.findIn K (.ref a12) "code" = some none) (p12 : PySem.W.findIn K (.ref a12) "index" = some none)
    {a13 : Addr} (A13 : ClsA K "InvalidSight" a13 (.ref few :: veT)) (I13 : IniA K a13 "InvalidSight.__init__" sI13 ["self", "index"]) (r13 : PySem.W.findIn K (.ref a13) "code" = some none) (p13 : PySem.W.findIn K (.ref a13) "index" = some none)
    {a14 : Addr} (A14 : ClsA K "Unseen" a14 (.ref few :: veT)) (I14 : IniA K a14 "Unseen.__init__" sI14 ["self", "web"]) (r14 : PySem.W.findIn K (.ref a14) "code" = some none) (p14 : PySem.W.findIn K (.ref a14) "web" = some none)
    {a15 : Addr} (A15 : ClsA K "Barred" a15 (.ref few :: veT)) (I15 : IniA K a15 "Barred.__init__" sI15 ["self", "web"]) (r15 : PySem.W.findIn K (.ref a15) "code" = some none) (p15 : PySem.W.findIn K (.ref a15) "web" = some none)
    {a16 : Addr} (A16 : ClsA K "InvalidDrawing" a16 (.ref few :: veT)) (I16 : IniA K a16 "InvalidDrawing.__init__" sI16 ["self", "index"]) (r16 : PySem.W.findIn K (.ref a16) "code" = some none) (p16 : PySem.W.findIn K (.ref a16) "index" = some none)
    {a17 : Addr} (A17 : ClsA K "NotTold" a17 (.ref few :: veT)) (I17 : IniA K a17 "NotTold.__init__" sI17 ["self", "given"]) (r17 : PySem.W.findIn K (.ref a17) "code" = some none) (p17 : PySem.W.findIn K (.ref a17) "given" = some none)
    {a18 : Addr} (A18 : ClsA K "DuplicateName" a18 (.ref few :: veT)) (I18 : IniA K a18 "DuplicateName.__init__" sI18 ["self", "name"]) (r18 : PySem.W.findIn K (.ref a18) "code" = some none) (p18 : PySem.W.findIn K (.ref a18) "name" = some none)
    {a19 : Addr} (A19 : ClsA K "InvalidText" a19 (.ref few :: veT)) (I19 : IniA K a19 "InvalidText.__init__" sI19 ["self", "position"]) (r19 : PySem.W.findIn K (.ref a19) "code" = some none) (p19 : PySem.W.findIn K (.ref a19) "position" = some none)
    {a20 : Addr} (A20 : ClsA K "InvalidPage" a20 (.ref few :: veT)) (I20 : IniA K a20 "InvalidPage.__init__" sI20 ["self", "line"]) (r20 : PySem.W.findIn K (.ref a20) "code" = some none) (p20 : PySem.W.findIn K (.ref a20) "line" = some none)
    {a21 : Addr} (A21 : ClsA K "UnlikeWorlds" a21 (.ref few :: veT)) (I21 : IniA K a21 "UnlikeWorlds.__init__" sI21 ["self"]) (r21 : PySem.W.findIn K (.ref a21) "code" = some none)
    {a22 : Addr} (A22 : ClsA K "HasWishes" a22 (.ref few :: veT)) (I22 : IniA K a22 "HasWishes.__init__" sI22 ["self"]) (r22 : PySem.W.findIn K (.ref a22) "code" = some none)
    {a23 : Addr} (A23 : ClsA K "NotSquare" a23 (.ref few :: veT)) (I23 : IniA K a23 "NotSquare.__init__" sI23 ["self"]) (r23 : PySem.W.findIn K (.ref a23) "code" = some none)
    {a24 : Addr} (A24 : ClsA K "NotBelow" a24 (.ref few :: veT)) (I24 : IniA K a24 "NotBelow.__init__" sI24 ["self"]) (r24 : PySem.W.findIn K (.ref a24) "code" = some none)
    {a25 : Addr} (A25 : ClsA K "UnknownName" a25 (.ref miss :: leT)) (I25 : IniA K a25 "UnknownName.__init__" sI25 ["self", "name"]) (r25 : PySem.W.findIn K (.ref a25) "code" = some none) (p25 : PySem.W.findIn K (.ref a25) "name" = some none)
    {a26 : Addr} (A26 : ClsA K "NothingLeft" a26 ieT) (I26 : IniA K a26 "NothingLeft.__init__" sI26 ["self"]) (r26 : PySem.W.findIn K (.ref a26) "code" = some none)
    (nd : ([a0, a1, a2, a3, a4, a5, a6, a7, a8, a9, a10, a11, a12, a13, a14, a15, a16, a17, a18, a19, a20, a21, a22, a23, a24, a25, a26] ++ [few, miss]).Nodup) : Cls27 P w K mg base (fun i => [a0, a1, a2, a3, a4, a5, a6, a7, a8, a9, a10, a11, a12, a13, a14, a15, a16, a17, a18, a19, a20, a21, a22, a23, a24, a25, a26].getD i 0) few miss := by
  have row : ∀ i, i < 27 → RowA K few miss ([a0, a1, a2, a3, a4, a5, a6, a7, a8, a9, a10, a11, a12, a13, a14, a15, a16, a17, a18, a19, a20, a21, a22, a23, a24, a25, a26].getD i 0) i := fun i hi => by
    match i, hi with
    | 0, _ => exact ⟨A0.T.c, A0.mro, A0.ty, fld_of A0 r0, fun f h => Option.some.inj h ▸ fld_of A0 p0⟩
    | 1, _ => exact ⟨A1.T.c, A1.mro, A1.ty, fld_of A1 r1, fun f h => Option.some.inj h ▸ fld_of A1 p1⟩
    | 2, _ => exact ⟨A2.T.c, A2.mro, A2.ty, fld_of A2 r2, fun f h => Option.some.inj h ▸ fld_of A2 p2⟩
    | 3, _ => exact ⟨A3.T.c, A3.mro, A3.ty, fld_of A3 r3, fun f h => Option.some.inj h ▸ fld_of A3 p3⟩
    | 4, _ => exact ⟨A4.T.c, A4.mro, A4.ty, fld_of A4 r4, fun f h => Option.some.inj h ▸ fld_of A4 p4⟩
    | 5, _ => exact ⟨A5.T.c, A5.mro, A5.ty, fld_of A5 r5, fun f h => Option.some.inj h ▸ fld_of A5 p5⟩
    | 6, _ => exact ⟨A6.T.c, A6.mro, A6.ty, fld_of A6 r6, fun f h => Option.some.inj h ▸ fld_of A6 p6⟩
    | 7, _ => exact ⟨A7.T.c, A7.mro, A7.ty, fld_of A7 r7, fun f h => Option.some.inj h ▸ fld_of A7 p7⟩
    | 8, _ => exact ⟨A8.T.c, A8.mro, A8.ty, fld_of A8 r8, fun f h => Option.some.inj h ▸ fld_of A8 p8⟩
    | 9, _ => exact ⟨A9.T.c, A9.mro, A9.ty, fld_of A9 r9, fun f h => Option.some.inj h ▸ fld_of A9 p9⟩
    | 10, _ => exact ⟨A10.T.c, A10.mro, A10.ty, fld_of A10 r10, fun f h => Option.some.inj h ▸ fld_of A10 p10⟩
    | 11, _ => exact ⟨A11.T.c, A11.mro, A11.ty, fld_of A11 r11, fun f h => Option.some.inj h ▸ fld_of A11 p11⟩
    | 12, _ => exact ⟨A12.T.c, A12.mro, A12.ty, fld_of A12 r12, fun f h => Option.some.inj h ▸ fld_of A12 p12⟩
    | 13, _ => exact ⟨A13.T.c, A13.mro, A13.ty, fld_of A13 r13, fun f h => Option.some.inj h ▸ fld_of A13 p13⟩
    | 14, _ => exact ⟨A14.T.c, A14.mro, A14.ty, fld_of A14 r14, fun f h => Option.some.inj h ▸ fld_of A14 p14⟩
    | 15, _ => exact ⟨A15.T.c, A15.mro, A15.ty, fld_of A15 r15, fun f h => Option.some.inj h ▸ fld_of A15 p15⟩
    | 16, _ => exact ⟨A16.T.c, A16.mro, A16.ty, fld_of A16 r16, fun f h => Option.some.inj h ▸ fld_of A16 p16⟩
    | 17, _ => exact ⟨A17.T.c, A17.mro, A17.ty, fld_of A17 r17, fun f h => Option.some.inj h ▸ fld_of A17 p17⟩
    | 18, _ => exact ⟨A18.T.c, A18.mro, A18.ty, fld_of A18 r18, fun f h => Option.some.inj h ▸ fld_of A18 p18⟩
    | 19, _ => exact ⟨A19.T.c, A19.mro, A19.ty, fld_of A19 r19, fun f h => Option.some.inj h ▸ fld_of A19 p19⟩
    | 20, _ => exact ⟨A20.T.c, A20.mro, A20.ty, fld_of A20 r20, fun f h => Option.some.inj h ▸ fld_of A20 p20⟩
    | 21, _ => exact ⟨A21.T.c, A21.mro, A21.ty, fld_of A21 r21, fun f h => nomatch h⟩
    | 22, _ => exact ⟨A22.T.c, A22.mro, A22.ty, fld_of A22 r22, fun f h => nomatch h⟩
    | 23, _ => exact ⟨A23.T.c, A23.mro, A23.ty, fld_of A23 r23, fun f h => nomatch h⟩
    | 24, _ => exact ⟨A24.T.c, A24.mro, A24.ty, fld_of A24 r24, fun f h => nomatch h⟩
    | 25, _ => exact ⟨A25.T.c, A25.mro, A25.ty, fld_of A25 r25, fun f h => Option.some.inj h ▸ fld_of A25 p25⟩
    | 26, _ => exact ⟨A26.T.c, A26.mro, A26.ty, fld_of A26 r26, fun f h => nomatch h⟩
    | n + 27, h => exact absurd h (by omega)
  obtain ⟨n1, n2, n3⟩ := List.nodup_append.mp nd
  have fm : few ≠ miss := fun e => by rw [e] at n2; simp at n2
  have mem : ∀ i, i < 27 → ([a0, a1, a2, a3, a4, a5, a6, a7, a8, a9, a10, a11, a12, a13, a14, a15, a16, a17, a18, a19, a20, a21, a22, a23, a24, a25, a26].getD i 0) ∈ [a0, a1, a2, a3, a4, a5, a6, a7, a8, a9, a10, a11, a12, a13, a14, a15, a16, a17, a18, a19, a20, a21, a22, a23, a24, a25, a26] := fun i hi => by
    rw [List.getD_eq_getElem?_getD, List.getElem?_eq_getElem (by exact hi)]
    exact List.getElem_mem _
  have nf : ∀ i, i < 27 → ([a0, a1, a2, a3, a4, a5, a6, a7, a8, a9, a10, a11, a12, a13, a14, a15, a16, a17, a18, a19, a20, a21, a22, a23, a24, a25, a26].getD i 0) ≠ few := fun i hi => n3 _ (mem i hi) _ (by simp)
  have nm : ∀ i, i < 27 → ([a0, a1, a2, a3, a4, a5, a6, a7, a8, a9, a10, a11, a12, a13, a14, a15, a16, a17, a18, a19, a20, a21, a22, a23, a24, a25, a26].getD i 0) ≠ miss := fun i hi => n3 _ (mem i hi) _ (by simp)
  have inj : ∀ i j, i < 27 → j < 27 → ([a0, a1, a2, a3, a4, a5, a6, a7, a8, a9, a10, a11, a12, a13, a14, a15, a16, a17, a18, a19, a20, a21, a22, a23, a24, a25, a26].getD i 0) = ([a0, a1, a2, a3, a4, a5, a6, a7, a8, a9, a10, a11, a12, a13, a14, a15, a16, a17, a18, a19, a20, a21, a22, a23, a24, a25, a26].getD j 0) → i = j := fun i j hi hj e => by
    rw [List.getD_eq_getElem?_getD, List.getElem?_eq_getElem (by exact hi), List.getD_eq_getElem?_getD, List.getElem?_eq_getElem (by exact hj)] at e
    exact (List.getElem_inj n1).mp e
  refine ⟨mk0 A0 I0 (PySem.W.mg_of X G A0.ns) p0 r0 dc, mk1 A1 I1 (PySem.W.mg_of X G A1.ns) p1 r1 dc, mk2 A2 I2 (PySem.W.mg_of X G A2.ns) p2 r2 dc, mk3 A3 I3 (PySem.W.mg_of X G A3.ns) p3 r3 dc, mk4 A4 I4 (PySem.W.mg_of X G A4.ns) p4 r4 dc, mk5 A5 I5 (PySem.W.mg_of X G A5.ns) p5 r5 dc, mk6 A6 I6 (PySem.W.mg_of X G A6.ns) p6 r6 dc, mk7 A7 I7 (PySem.W.mg_of X G A7.ns) p7 r7 dc, mk8 A8 I8 (PySem.W.mg_of X G A8.ns) p8 r8 dc, mk9 A9 I9 (PySem.W.mg_of X G A9.ns) p9 r9 dc, mk10 A10 I10 (PySem.W.mg_of X G A10.ns) p10 r10 dc, mk11 A11 I11 (PySem.W.mg_of X G A11.ns) p11 r11 dc, mk12 A12 I12 (PySem.W.mg_of X G A12.ns) p12 r12 dc, mk13 A13 I13 (PySem.W.mg_of X G A13.ns) p13 r13 dc, mk14 A14 I14 (PySem.W.mg_of X G A14.ns) p14 r14 dc, mk15 A15 I15 (PySem.W.mg_of X G A15.ns) p15 r15 dc, mk16 A16 I16 (PySem.W.mg_of X G A16.ns) p16 r16 dc, mk17 A17 I17 (PySem.W.mg_of X G A17.ns) p17 r17 dc, mk18 A18 I18 (PySem.W.mg_of X G A18.ns) p18 r18 dc, mk19 A19 I19 (PySem.W.mg_of X G A19.ns) p19 r19 dc, mk20 A20 I20 (PySem.W.mg_of X G A20.ns) p20 r20 dc, mk21 A21 I21 (PySem.W.mg_of X G A21.ns) r21, mk22 A22 I22 (PySem.W.mg_of X G A22.ns) r22, mk23 A23 I23 (PySem.W.mg_of X G A23.ns) r23, mk24 A24 I24 (PySem.W.mg_of X G A24.ns) r24, mk25 A25 I25 (PySem.W.mg_of X G A25.ns) p25 r25 dc, mk26 A26 I26 (PySem.W.mg_of X G A26.ns) r26,
    fun i hi => (row i hi).c, fun i hi => (row i hi).code, fun i hi => (row i hi).fld, fun i j hi hj => ?_, fun i hi => ?_, fun i hi => ?_, fun i hi => ?_, fun i hi => ?_, fun i hi => ?_, PySem.W.mg_of X G nF, PySem.W.mg_of X G nM⟩
  · by_cases e : i = j
    · subst e
      unfold PySem.W.kitOne
      rw [if_pos (beq_self_eq_true _), decide_eq_true rfl]
    · obtain ⟨cd, hc, _⟩ := (row j hj).mro
      rw [kit_ref (row i hi) (by rw [hc]; rfl) (row j hj).ty (fun z => e (inj i j hi hj z)), tl_ref (nf j hj) (nm j hj), decide_eq_false e]
  · rw [kit_ref (row i hi) (by rw [cF]; rfl) tF (nf i hi), tl_few fm]
  · rw [kit_typ (row i hi) (by decide +kernel), tl_val]
  · rw [kit_ref (row i hi) (by rw [cM]; rfl) tM (nm i hi), tl_miss fm]
  · rw [kit_typ (row i hi) (by decide +kernel), tl_loo hi]
  · rw [kit_typ (row i hi) (by decide +kernel), tl_ind hi]
set_option maxHeartbeats 16000000 in
theorem all_mk {l : PySem.W.OpenLaw} {w : World} {K : PySem.W.Frag} {h : Heap} {mg : Str → Option Value} {fa : Addr} (X : K.In h) (G : h.Ns mainGlobals mg) (hfa : mg "law" = some (.ref fa))
    {od_1 an_1 : Option Addr} {sl_1 : Array (Option Value)} {oc_1 kV_1 dc_1 pm_1 cd_1 ct_1 : Value} {f_1 : Addr}
    (a_1 : PySem.W.nsIn K mainGlobals "copied" = some (some (.ref f_1))) (l_1 : K.lookup f_1 = some ⟨oc_1, od_1, .func (PySem.W.fnOf "copied" "copied" (defArgs sCopied) (defBody sCopied) (defScope sCopied) .none kV_1 dc_1 pm_1 an_1 cd_1 ct_1), sl_1⟩) (c_1 : PySem.W.codeIn K cd_1 "copied" = true) (k_1 : PySem.W.keepIn K (.ref f_1) = true)
    {od_2 an_2 : Option Addr} {sl_2 : Array (Option Value)} {oc_2 kV_2 dc_2 pm_2 cd_2 ct_2 : Value} {f_2 : Addr}
    (a_2 : PySem.W.nsIn K mainGlobals "_law_source" = some (some (.ref f_2))) (l_2 : K.lookup f_2 = some ⟨oc_2, od_2, .func (PySem.W.fnOf "_law_source" "_law_source" (defArgs sSource) (defBody sSource) (defScope sSource) .none kV_2 dc_2 pm_2 an_2 cd_2 ct_2), sl_2⟩) (c_2 : PySem.W.codeIn K cd_2 "_law_source" = true) (k_2 : PySem.W.keepIn K (.ref f_2) = true)
    {od_3 an_3 : Option Addr} {sl_3 : Array (Option Value)} {oc_3 kV_3 dc_3 pm_3 cd_3 ct_3 : Value} {f_3 : Addr}
    (a_3 : PySem.W.nsIn K mainGlobals "_law_draw" = some (some (.ref f_3))) (l_3 : K.lookup f_3 = some ⟨oc_3, od_3, .func (PySem.W.fnOf "_law_draw" "_law_draw" (defArgs sDraw) (defBody sDraw) (defScope sDraw) .none kV_3 dc_3 pm_3 an_3 cd_3 ct_3), sl_3⟩) (c_3 : PySem.W.codeIn K cd_3 "_law_draw" = true) (k_3 : PySem.W.keepIn K (.ref f_3) = true)
    {od_4 an_4 : Option Addr} {sl_4 : Array (Option Value)} {oc_4 kV_4 dc_4 pm_4 cd_4 ct_4 : Value} {f_4 : Addr}
    (a_4 : PySem.W.nsIn K mainGlobals "_law_of" = some (some (.ref f_4))) (l_4 : K.lookup f_4 = some ⟨oc_4, od_4, .func (PySem.W.fnOf "_law_of" "_law_of" (defArgs sOf) (defBody sOf) (defScope sOf) .none kV_4 dc_4 pm_4 an_4 cd_4 ct_4), sl_4⟩) (c_4 : PySem.W.codeIn K cd_4 "_law_of" = true) (k_4 : PySem.W.keepIn K (.ref f_4) = true)
    {od_5 an_5 : Option Addr} {sl_5 : Array (Option Value)} {oc_5 kV_5 dc_5 pm_5 cd_5 ct_5 : Value} {f_5 : Addr}
    (a_5 : PySem.W.nsIn K mainGlobals "_law_same" = some (some (.ref f_5))) (l_5 : K.lookup f_5 = some ⟨oc_5, od_5, .func (PySem.W.fnOf "_law_same" "_law_same" (defArgs sSame) (defBody sSame) (defScope sSame) .none kV_5 dc_5 pm_5 an_5 cd_5 ct_5), sl_5⟩) (c_5 : PySem.W.codeIn K cd_5 "_law_same" = true) (k_5 : PySem.W.keepIn K (.ref f_5) = true)
    {od_6 an_6 : Option Addr} {sl_6 : Array (Option Value)} {oc_6 kV_6 dc_6 pm_6 cd_6 ct_6 : Value} {f_6 : Addr}
    (a_6 : PySem.W.nsIn K mainGlobals "_law_field" = some (some (.ref f_6))) (l_6 : K.lookup f_6 = some ⟨oc_6, od_6, .func (PySem.W.fnOf "_law_field" "_law_field" (defArgs sField) (defBody sField) (defScope sField) .none kV_6 dc_6 pm_6 an_6 cd_6 ct_6), sl_6⟩) (c_6 : PySem.W.codeIn K cd_6 "_law_field" = true) (k_6 : PySem.W.keepIn K (.ref f_6) = true)
    {od_7 an_7 : Option Addr} {sl_7 : Array (Option Value)} {oc_7 kV_7 dc_7 pm_7 cd_7 ct_7 : Value} {f_7 : Addr}
    (a_7 : PySem.W.nsIn K mainGlobals "_law_codes" = some (some (.ref f_7))) (l_7 : K.lookup f_7 = some ⟨oc_7, od_7, .func (PySem.W.fnOf "_law_codes" "_law_codes" (defArgs sCodes) (defBody sCodes) (defScope sCodes) .none kV_7 dc_7 pm_7 an_7 cd_7 ct_7), sl_7⟩) (c_7 : PySem.W.codeIn K cd_7 "_law_codes" = true) (k_7 : PySem.W.keepIn K (.ref f_7) = true)
    {od_8 an_8 : Option Addr} {sl_8 : Array (Option Value)} {oc_8 kV_8 dc_8 pm_8 cd_8 ct_8 : Value} {f_8 : Addr}
    (a_8 : PySem.W.nsIn K mainGlobals "_law_errors" = some (some (.ref f_8))) (l_8 : K.lookup f_8 = some ⟨oc_8, od_8, .func (PySem.W.fnOf "_law_errors" "_law_errors" (defArgs sErrors) (defBody sErrors) (defScope sErrors) .none kV_8 dc_8 pm_8 an_8 cd_8 ct_8), sl_8⟩) (c_8 : PySem.W.codeIn K cd_8 "_law_errors" = true) (k_8 : PySem.W.keepIn K (.ref f_8) = true)
    {od_9 an_9 : Option Addr} {sl_9 : Array (Option Value)} {oc_9 kV_9 dc_9 pm_9 cd_9 ct_9 : Value} {f_9 : Addr}
    (a_9 : PySem.W.nsIn K mainGlobals "_law_sorts" = some (some (.ref f_9))) (l_9 : K.lookup f_9 = some ⟨oc_9, od_9, .func (PySem.W.fnOf "_law_sorts" "_law_sorts" (defArgs sSorts) (defBody sSorts) (defScope sSorts) .none kV_9 dc_9 pm_9 an_9 cd_9 ct_9), sl_9⟩) (c_9 : PySem.W.codeIn K cd_9 "_law_sorts" = true) (k_9 : PySem.W.keepIn K (.ref f_9) = true)
    {od_L an_L : Option Addr} {sl_L : Array (Option Value)} {oc_L kV_L dc_L pm_L cd_L ct_L : Value} {f_L : Addr}
    (a_L : PySem.W.nsIn K mainGlobals "law" = some (some (.ref f_L))) (l_L : K.lookup f_L = some ⟨oc_L, od_L, .func (PySem.W.fnOf "law" "law" (defArgs sLaw) (defBody sLaw) (defScope sLaw) .none kV_L dc_L pm_L an_L cd_L ct_L), sl_L⟩) (c_L : PySem.W.codeIn K cd_L "law" = true) (k_L : PySem.W.keepIn K (.ref f_L) = true)
    (z_1 : PySem.W.nsIn K mainGlobals "isinstance" = some none)
    (z_2 : PySem.W.nsIn K mainGlobals "list" = some none)
    (z_3 : PySem.W.nsIn K mainGlobals "tuple" = some none)
    (z_4 : PySem.W.nsIn K mainGlobals "len" = some none)
    (z_5 : PySem.W.nsIn K mainGlobals "int" = some none)
    (z_6 : PySem.W.nsIn K mainGlobals "all" = some none)
    (z_7 : PySem.W.nsIn K mainGlobals "zip" = some none)
    (z_8 : PySem.W.nsIn K mainGlobals "bool" = some none)
    (z_9 : PySem.W.nsIn K mainGlobals "str" = some none)
    (z_10 : PySem.W.nsIn K mainGlobals "range" = some none)
    (z_11 : PySem.W.nsIn K mainGlobals "ValueError" = some none)
    (z_12 : PySem.W.nsIn K mainGlobals "LookupError" = some none)
    (z_13 : PySem.W.nsIn K mainGlobals "IndexError" = some none)
    {few miss : Addr} {cdF cdM : ClassData}
    (nF : PySem.W.nsIn K mainGlobals "FewError" = some (some (.ref few))) (cF : PySem.W.clsIn K few = some cdF) (tF : PySem.W.typeIn K (.ref few) = some (.type "type")) (nM : PySem.W.nsIn K mainGlobals "Missing" = some (some (.ref miss))) (cM : PySem.W.clsIn K miss = some cdM) (tM : PySem.W.typeIn K (.ref miss) = some (.type "type"))
    {a0 : Addr} (A0 : ClsA K "InvalidName" a0 (.ref few :: veT)) (I0 : IniA K a0 "InvalidName.__init__" sI0 ["self", "name"]) (r0 : PySem.W.findIn K (.ref a0) "code" = some none) (p0 : PySem.W.findIn K (.ref a0) "name" = some none)
    {a1 : Addr} (A1 : ClsA K "InvalidPart" a1 (.ref few :: veT)) (I1 : IniA K a1 "InvalidPart.__init__" sI1 ["self", "index"]) (r1 : PySem.W.findIn K (.ref a1) "code" = some none) (p1 : PySem.W.findIn K (.ref a1) "index" = some none)
    {a2 : Addr} (A2 : ClsA K "InvalidTrait" a2 (.ref few :: veT)) (I2 : IniA K a2 "InvalidTrait.__init__" sI2 ["self", "index"]) (r2 : PySem.W.findIn K (.ref a2) "code" = some none) (p2 : PySem.W.findIn K (.ref a2) "index" = some none)
    {a3 : Addr} (A3 : ClsA K "InvalidPerson" a3 (.ref few :: veT)) (I3 : IniA K a3 "InvalidPerson.__init__" sI3 ["self", "given"]) (r3 : PySem.W.findIn K (.ref a3) "code" = some none) (p3 : PySem.W.findIn K (.ref a3) "given" = some none)
    {a4 : Addr} (A4 : ClsA K "InvalidEntry" a4 (.ref few :: veT)) (I4 : IniA K a4 "InvalidEntry.__init__" sI4 ["self", "given"]) (r4 : PySem.W.findIn K (.ref a4) "code" = some none) (p4 : PySem.W.findIn K (.ref a4) "given" = some none)
    {a5 : Addr} (A5 : ClsA K "InvalidNumber" a5 (.ref few :: veT)) (I5 : IniA K a5 "InvalidNumber.__init__" sI5 ["self", "given"]) (r5 : PySem.W.findIn K (.ref a5) "code" = some none) (p5 : PySem.W.findIn K (.ref a5) "given" = some none)
    {a6 : Addr} (A6 : ClsA K "InvalidRow" a6 (.ref few :: veT)) (I6 : IniA K a6 "InvalidRow.__init__" sI6 ["self", "index"]) (r6 : PySem.W.findIn K (.ref a6) "code" = some none) (p6 : PySem.W.findIn K (.ref a6) "index" = some none)
    {a7 : Addr} (A7 : ClsA K "InvalidProgram" a7 (.ref few :: veT)) (I7 : IniA K a7 "InvalidProgram.__init__" sI7 ["self", "path"]) (r7 : PySem.W.findIn K (.ref a7) "code" = some none) (p7 : PySem.W.findIn K (.ref a7) "path" = some none)
    {a8 : Addr} (A8 : ClsA K "TooWide" a8 (.ref few :: veT)) (I8 : IniA K a8 "TooWide.__init__" sI8 ["self", "most"]) (r8 : PySem.W.findIn K (.ref a8) "code" = some none) (p8 : PySem.W.findIn K (.ref a8) "most" = some none)
    {a9 : Addr} (A9 : ClsA K "TooLarge" a9 (.ref few :: veT)) (I9 : IniA K a9 "TooLarge.__init__" sI9 ["self", "most"]) (r9 : PySem.W.findIn K (.ref a9) "code" = some none) (p9 : PySem.W.findIn K (.ref a9) "most" = some none)
    {a10 : Addr} (A10 : ClsA K "TooMany" a10 (.ref few :: veT)) (I10 : IniA K a10 "TooMany.__init__" sI10 ["self", "most"]) (r10 : PySem.W.findIn K (.ref a10) "code" = some none) (p10 : PySem.W.findIn K (.ref a10) "most" = some none)
    {a11 : Addr} (A11 : ClsA K "InvalidWeb" a11 (.ref few :: veT)) (I11 : IniA K a11 "InvalidWeb.__init__" sI11 ["self", "given"]) (r11 : PySem.W.findIn K (.ref a11) "code" = some none) (p11 : PySem.W.findIn K (.ref a11) "given" = some none)
    {a12 : Addr} (A12 : ClsA K "InvalidWave" a12 (.ref few :: veT)) (I12 : IniA K a12 "InvalidWave.__init__" sI12 ["self", "index"]) (r12 : PySem.W.findIn K (.ref a12) "code" = some none) (p12 : PySem.W.findIn K (.ref a12) "index" = some none)
    {a13 : Addr} (A13 : ClsA K "InvalidSight" a13 (.ref few :: veT)) (I13 : IniA K a13 "InvalidSight.__init__" sI13 ["self", "index"]) (r13 : PySem.W.findIn K (.ref a13) "code" = some none) (p13 : PySem.W.findIn K (.ref a13) "index" = some none)
    {a14 : Addr} (A14 : ClsA K "Unseen" a14 (.ref few :: veT)) (I14 : IniA K a14 "Unseen.__init__" sI14 ["self", "web"]) (r14 : PySem.W.findIn K (.ref a14) "code" = some none) (p14 : PySem.W.findIn K (.ref a14) "web" = some none)
    {a15 : Addr} (A15 : ClsA K "Barred" a15 (.ref few :: veT)) (I15 : IniA K a15 "Barred.__init__" sI15 ["self", "web"]) (r15 : PySem.W.findIn K (.ref a15) "code" = some none) (p15 : PySem.W.findIn K (.ref a15) "web" = some none)
    {a16 : Addr} (A16 : ClsA K "InvalidDrawing" a16 (.ref few :: veT)) (I16 : IniA K a16 "InvalidDrawing.__init__" sI16 ["self", "index"]) (r16 : PySem.W.findIn K (.ref a16) "code" = some none) (p16 : PySem.W.findIn K (.ref a16) "index" = some none)
    {a17 : Addr} (A17 : ClsA K "NotTold" a17 (.ref few :: veT)) (I17 : IniA K a17 "NotTold.__init__" sI17 ["self", "given"]) (r17 : PySem.W.findIn K (.ref a17) "code" = some none) (p17 : PySem.W.findIn K (.ref a17) "given" = some none)
    {a18 : Addr} (A18 : ClsA K "DuplicateName" a18 (.ref few :: veT)) (I18 : IniA K a18 "DuplicateName.__init__" sI18 ["self", "name"]) (r18 : PySem.W.findIn K (.ref a18) "code" = some none) (p18 : PySem.W.findIn K (.ref a18) "name" = some none)
    {a19 : Addr} (A19 : ClsA K "InvalidText" a19 (.ref few :: veT)) (I19 : IniA K a19 "InvalidText.__init__" sI19 ["self", "position"]) (r19 : PySem.W.findIn K (.ref a19) "code" = some none) (p19 : PySem.W.findIn K (.ref a19) "position" = some none)
    {a20 : Addr} (A20 : ClsA K "InvalidPage" a20 (.ref few :: veT)) (I20 : IniA K a20 "InvalidPage.__init__" sI20 ["self", "line"]) (r20 : PySem.W.findIn K (.ref a20) "code" = some none) (p20 : PySem.W.findIn K (.ref a20) "line" = some none)
    {a21 : Addr} (A21 : ClsA K "UnlikeWorlds" a21 (.ref few :: veT)) (I21 : IniA K a21 "UnlikeWorlds.__init__" sI21 ["self"]) (r21 : PySem.W.findIn K (.ref a21) "code" = some none)
    {a22 : Addr} (A22 : ClsA K "HasWishes" a22 (.ref few :: veT)) (I22 : IniA K a22 "HasWishes.__init__" sI22 ["self"]) (r22 : PySem.W.findIn K (.ref a22) "code" = some none)
    {a23 : Addr} (A23 : ClsA K "NotSquare" a23 (.ref few :: veT)) (I23 : IniA K a23 "NotSquare.__init__" sI23 ["self"]) (r23 : PySem.W.findIn K (.ref a23) "code" = some none)
    {a24 : Addr} (A24 : ClsA K "NotBelow" a24 (.ref few :: veT)) (I24 : IniA K a24 "NotBelow.__init__" sI24 ["self"]) (r24 : PySem.W.findIn K (.ref a24) "code" = some none)
    {a25 : Addr} (A25 : ClsA K "UnknownName" a25 (.ref miss :: leT)) (I25 : IniA K a25 "UnknownName.__init__" sI25 ["self", "name"]) (r25 : PySem.W.findIn K (.ref a25) "code" = some none) (p25 : PySem.W.findIn K (.ref a25) "name" = some none)
    {a26 : Addr} (A26 : ClsA K "NothingLeft" a26 ieT) (I26 : IniA K a26 "NothingLeft.__init__" sI26 ["self"]) (r26 : PySem.W.findIn K (.ref a26) "code" = some none)
    (nd : ([a0, a1, a2, a3, a4, a5, a6, a7, a8, a9, a10, a11, a12, a13, a14, a15, a16, a17, a18, a19, a20, a21, a22, a23, a24, a25, a26] ++ [few, miss]).Nodup)
    : ∃ fd : FuncData, (∀ (s : Shared) (v : Value), BindsTo s fd ⟨[v], []⟩ [("_law_script", v)]) ∧ ∀ base : Heap, K.In base → base.Ns mainGlobals mg → FnOk l.prog w K mg base CX0 8 fa fd ["_law_script"] (spLaw K) := by
  have e := hfa.symm.trans (PySem.W.mg_of X G a_L)
  cases e
  have T1 : Top K mg "copied" sCopied ["value"] := top_mk X G a_1 l_1 c_1 k_1 (fun _ _ _ _ _ _ us hl => match us, hl with | [_], _ => rfl)
  have T2 : Top K mg "_law_source" sSource ["_law_script"] := top_mk X G a_2 l_2 c_2 k_2 (fun _ _ _ _ _ _ us hl => match us, hl with | [_], _ => rfl)
  have T3 : Top K mg "_law_draw" sDraw ["_law_src", "_law_many7"] := top_mk X G a_3 l_3 c_3 k_3 (fun _ _ _ _ _ _ us hl => match us, hl with | [_, _], _ => rfl)
  have T4 : Top K mg "_law_of" sOf ["_law_src", "_law_things7"] := top_mk X G a_4 l_4 c_4 k_4 (fun _ _ _ _ _ _ us hl => match us, hl with | [_, _], _ => rfl)
  have T5 : Top K mg "_law_same" sSame ["_law_found", "_law_due"] := top_mk X G a_5 l_5 c_5 k_5 (fun _ _ _ _ _ _ us hl => match us, hl with | [_, _], _ => rfl)
  have T6 : Top K mg "_law_field" sField ["_law_e"] := top_mk X G a_6 l_6 c_6 k_6 (fun _ _ _ _ _ _ us hl => match us, hl with | [_], _ => rfl)
  have T7 : Top K mg "_law_codes" sCodes [] := top_mk X G a_7 l_7 c_7 k_7 (fun _ _ _ _ _ _ us hl => match us, hl with | [], _ => rfl)
  have T8 : Top K mg "_law_errors" sErrors ["_law_odd"] := top_mk X G a_8 l_8 c_8 k_8 (fun _ _ _ _ _ _ us hl => match us, hl with | [_], _ => rfl)
  have T9 : Top K mg "_law_sorts" sSorts ["_law_e"] := top_mk X G a_9 l_9 c_9 k_9 (fun _ _ _ _ _ _ us hl => match us, hl with | [_], _ => rfl)
  have FL := fun_mk (st := sLaw) l_L c_L k_L
  have N := fun {x : Str} (z : PySem.W.nsIn K mainGlobals x = some none) => PySem.W.mg_none_of X G z
  have env : Env1 K mg := ⟨T1, T2, T3, T4, T5, T6, T7, T8, T9, N z_1, N z_2, N z_3, N z_4, N z_5, N z_6, N z_7, N z_8, N z_9, N z_10, N z_11, N z_12, N z_13⟩
  refine ⟨_, fun s v => .of_eq rfl, fun base _ _ => ok_law env (cls_all X G (df_copied T1 (N z_1) (N z_2) (N z_3) 1) nF cF tF nM cM tM A0 I0 r0 p0 A1 I1 r1 p1 A2 I2 r2 p2 A3 I3 r3 p3 A4 I4 r4 p4 A5 I5 r5 p5 A6 I6 r6 p6 A7 I7 r7 p7 A8 I8 r8 p8 A9 I9 r9 p9 A10 I10 r10 p10 A11 I11 r11 p11 A12 I12 r12 p12 A13 I13 r13 p13 A14 I14 r14 p14 A15 I15 r15 p15 A16 I16 r16 p16 A17 I17 r17 p17 A18 I18 r18 p18 A19 I19 r19 p19 A20 I20 r20 p20 A21 I21 r21 A22 I22 r22 A23 I23 r23 A24 I24 r24 A25 I25 r25 p25 A26 I26 r26 nd) FL⟩
end G
open PySem PySem.W PyProof.Rows
set_option maxHeartbeats 0 in
theorem PySem.Challenge.cw_fewtell_k01_errors_by_themselves_holds : PySem.Challenge.rw_fewtell_k01_errors_by_themselves.Holds := by
  w_on; o_law; k_head; (case hw => w_witness2)
  k_fill
  refine L2.walk_of (l := PySem.Challenge.rw_fewtell_k01_errors_by_themselves) (n := 63) (k := 8) (x := "_law_script") (CX := fun _ => L2.CX0) (sp := fun w => G.spLaw _) rfl (by decide) rfl ⟨rfl, by decide, by decide⟩ (fun w h Y => PySem.W.kIn_of Y) ?F (fun _ _ a ns hl _ hS => ⟨a, ns, rfl, hS, hl, fun _ => rfl⟩) (fun _ _ _ _ _ h => h)
  case F =>
    intro w mg fa h KX GN hmg
    refine' G.all_mk KX GN hmg ?a_1 ?l_1 ?c_1 ?k_1 ?a_2 ?l_2 ?c_2 ?k_2 ?a_3 ?l_3 ?c_3 ?k_3 ?a_4 ?l_4 ?c_4 ?k_4 ?a_5 ?l_5 ?c_5 ?k_5 ?a_6 ?l_6 ?c_6 ?k_6 ?a_7 ?l_7 ?c_7 ?k_7 ?a_8 ?l_8 ?c_8 ?k_8 ?a_9 ?l_9 ?c_9 ?k_9 ?a_L ?l_L ?c_L ?k_L ?z_1 ?z_2 ?z_3 ?z_4 ?z_5 ?z_6 ?z_7 ?z_8 ?z_9 ?z_10 ?z_11 ?z_12 ?z_13 ?nF ?cF ?tF ?nM ?cM ?tM ?A0 ?I0 ?r0 ?p0 ?A1 ?I1 ?r1 ?p1 ?A2 ?I2 ?r2 ?p2 ?A3 ?I3 ?r3 ?p3 ?A4 ?I4 ?r4 ?p4 ?A5 ?I5 ?r5 ?p5 ?A6 ?I6 ?r6 ?p6 ?A7 ?I7 ?r7 ?p7 ?A8 ?I8 ?r8 ?p8 ?A9 ?I9 ?r9 ?p9 ?A10 ?I10 ?r10 ?p10 ?A11 ?I11 ?r11 ?p11 ?A12 ?I12 ?r12 ?p12 ?A13 ?I13 ?r13 ?p13 ?A14 ?I14 ?r14 ?p14 ?A15 ?I15 ?r15 ?p15 ?A16 ?I16 ?r16 ?p16 ?A17 ?I17 ?r17 ?p17 ?A18 ?I18 ?r18 ?p18 ?A19 ?I19 ?r19 ?p19 ?A20 ?I20 ?r20 ?p20 ?A21 ?I21 ?r21 ?A22 ?I22 ?r22 ?A23 ?I23 ?r23 ?A24 ?I24 ?r24 ?A25 ?I25 ?r25 ?p25 ?A26 ?I26 ?r26 ?nd
    (case a_1 => k_is); (case l_1 => k_is); (case c_1 => k_is); (case k_1 => k_is); (case a_2 => k_is); (case l_2 => k_is); (case c_2 => k_is); (case k_2 => k_is); (case a_3 => k_is); (case l_3 => k_is); (case c_3 => k_is); (case k_3 => k_is); (case a_4 => k_is); (case l_4 => k_is); (case c_4 => k_is); (case k_4 => k_is); (case a_5 => k_is); (case l_5 => k_is); (case c_5 => k_is); (case k_5 => k_is); (case a_6 => k_is); (case l_6 => k_is); (case c_6 => k_is); (case k_6 => k_is); (case a_7 => k_is); (case l_7 => k_is); (case c_7 => k_is); (case k_7 => k_is); (case a_8 => k_is); (case l_8 => k_is); (case c_8 => k_is); (case k_8 => k_is); (case a_9 => k_is); (case l_9 => k_is); (case c_9 => k_is); (case k_9 => k_is); (case a_L => k_is); (case l_L => k_is); (case c_L => k_is); (case k_L => k_is); (case z_1 => k_is); (case z_2 => k_is); (case z_3 => k_is); (case z_4 => k_is); (case z_5 => k_is); (case z_6 => k_is); (case z_7 => k_is); (case z_8 => k_is); (case z_9 => k_is); (case z_10 => k_is); (case z_11 => k_is); (case z_12 => k_is); (case z_13 => k_is); (case nF => k_is); (case cF => k_is); (case tF => k_is); (case nM => k_is); (case cM => k_is); (case tM => k_is)
    case A0 => (refine' G.clsA_mk PySem.F.excBase_ValueError PySem.F.store_ValueError ?hn ?ht ?n ?c ?m ?q1 ?q2 ?ty ?sa ?kC ?hg ?hk ?hs ?hd ?ha ?hm; (case n => k_is); (case c => k_is); (case m => rfl); (case hn => k_is); (case ht => k_is); (case q1 => kx_is); (case q2 => kx_is); (case ty => k_is); (case sa => k_is); (case kC => k_is); (case hg => k_is); (case hk => k_is); (case hs => k_is); (case hd => k_is); (case ha => k_is); (case hm => k_is))
    case I0 => (refine' G.iniA_mk ?iC ?tI ?l ?c ?k (fun _ _ _ _ _ _ us hl => match us, hl with | [_, _], _ => rfl); (case iC => k_is); (case tI => k_is); (case l => k_is); (case c => k_is); (case k => k_is))
    (case r0 => k_is); (case p0 => k_is)
    case A1 => (refine' G.clsA_mk PySem.F.excBase_ValueError PySem.F.store_ValueError ?hn ?ht ?n ?c ?m ?q1 ?q2 ?ty ?sa ?kC ?hg ?hk ?hs ?hd ?ha ?hm; (case n => k_is); (case c => k_is); (case m => rfl); (case hn => k_is); (case ht => k_is); (case q1 => kx_is); (case q2 => kx_is); (case ty => k_is); (case sa => k_is); (case kC => k_is); (case hg => k_is); (case hk => k_is); (case hs => k_is); (case hd => k_is); (case ha => k_is); (case hm => k_is))
    case I1 => (refine' G.iniA_mk ?iC ?tI ?l ?c ?k (fun _ _ _ _ _ _ us hl => match us, hl with | [_, _], _ => rfl); (case iC => k_is); (case tI => k_is); (case l => k_is); (case c => k_is); (case k => k_is))
    (case r1 => k_is); (case p1 => k_is)
    case A2 => (refine' G.clsA_mk PySem.F.excBase_ValueError PySem.F.store_ValueError ?hn ?ht ?n ?c ?m ?q1 ?q2 ?ty ?sa ?kC ?hg ?hk ?hs ?hd ?ha ?hm; (case n => k_is); (case c => k_is); (case m => rfl); (case hn => k_is); (case ht => k_is); (case q1 => kx_is); (case q2 => kx_is); (case ty => k_is); (case sa => k_is); (case kC => k_is); (case hg => k_is); (case hk => k_is); (case hs => k_is); (case hd => k_is); (case ha => k_is); (case hm => k_is))
    case I2 => (refine' G.iniA_mk ?iC ?tI ?l ?c ?k (fun _ _ _ _ _ _ us hl => match us, hl with | [_, _], _ => rfl); (case iC => k_is); (case tI => k_is); (case l => k_is); (case c => k_is); (case k => k_is))
    (case r2 => k_is); (case p2 => k_is)
    case A3 => (refine' G.clsA_mk PySem.F.excBase_ValueError PySem.F.store_ValueError ?hn ?ht ?n ?c ?m ?q1 ?q2 ?ty ?sa ?kC ?hg ?hk ?hs ?hd ?ha ?hm; (case n => k_is); (case c => k_is); (case m => rfl); (case hn => k_is); (case ht => k_is); (case q1 => kx_is); (case q2 => kx_is); (case ty => k_is); (case sa => k_is); (case kC => k_is); (case hg => k_is); (case hk => k_is); (case hs => k_is); (case hd => k_is); (case ha => k_is); (case hm => k_is))
    case I3 => (refine' G.iniA_mk ?iC ?tI ?l ?c ?k (fun _ _ _ _ _ _ us hl => match us, hl with | [_, _], _ => rfl); (case iC => k_is); (case tI => k_is); (case l => k_is); (case c => k_is); (case k => k_is))
    (case r3 => k_is); (case p3 => k_is)
    case A4 => (refine' G.clsA_mk PySem.F.excBase_ValueError PySem.F.store_ValueError ?hn ?ht ?n ?c ?m ?q1 ?q2 ?ty ?sa ?kC ?hg ?hk ?hs ?hd ?ha ?hm; (case n => k_is); (case c => k_is); (case m => rfl); (case hn => k_is); (case ht => k_is); (case q1 => kx_is); (case q2 => kx_is); (case ty => k_is); (case sa => k_is); (case kC => k_is); (case hg => k_is); (case hk => k_is); (case hs => k_is); (case hd => k_is); (case ha => k_is); (case hm => k_is))
    case I4 => (refine' G.iniA_mk ?iC ?tI ?l ?c ?k (fun _ _ _ _ _ _ us hl => match us, hl with | [_, _], _ => rfl); (case iC => k_is); (case tI => k_is); (case l => k_is); (case c => k_is); (case k => k_is))
    (case r4 => k_is); (case p4 => k_is)
    case A5 => (refine' G.clsA_mk PySem.F.excBase_ValueError PySem.F.store_ValueError ?hn ?ht ?n ?c ?m ?q1 ?q2 ?ty ?sa ?kC ?hg ?hk ?hs ?hd ?ha ?hm; (case n => k_is); (case c => k_is); (case m => rfl); (case hn => k_is); (case ht => k_is); (case q1 => kx_is); (case q2 => kx_is); (case ty => k_is); (case sa => k_is); (case kC => k_is); (case hg => k_is); (case hk => k_is); (case hs => k_is); (case hd => k_is); (case ha => k_is); (case hm => k_is))
    case I5 => (refine' G.iniA_mk ?iC ?tI ?l ?c ?k (fun _ _ _ _ _ _ us hl => match us, hl with | [_, _], _ => rfl); (case iC => k_is); (case tI => k_is); (case l => k_is); (case c => k_is); (case k => k_is))
    (case r5 => k_is); (case p5 => k_is)
    case A6 => (refine' G.clsA_mk PySem.F.excBase_ValueError PySem.F.store_ValueError ?hn ?ht ?n ?c ?m ?q1 ?q2 ?ty ?sa ?kC ?hg ?hk ?hs ?hd ?ha ?hm; (case n => k_is); (case c => k_is); (case m => rfl); (case hn => k_is); (case ht => k_is); (case q1 => kx_is); (case q2 => kx_is); (case ty => k_is); (case sa => k_is); (case kC => k_is); (case hg => k_is); (case hk => k_is); (case hs => k_is); (case hd => k_is); (case ha => k_is); (case hm => k_is))
    case I6 => (refine' G.iniA_mk ?iC ?tI ?l ?c ?k (fun _ _ _ _ _ _ us hl => match us, hl with | [_, _], _ => rfl); (case iC => k_is); (case tI => k_is); (case l => k_is); (case c => k_is); (case k => k_is))
    (case r6 => k_is); (case p6 => k_is)
    case A7 => (refine' G.clsA_mk PySem.F.excBase_ValueError PySem.F.store_ValueError ?hn ?ht ?n ?c ?m ?q1 ?q2 ?ty ?sa ?kC ?hg ?hk ?hs ?hd ?ha ?hm; (case n => k_is); (case c => k_is); (case m => rfl); (case hn => k_is); (case ht => k_is); (case q1 => kx_is); (case q2 => kx_is); (case ty => k_is); (case sa => k_is); (case kC => k_is); (case hg => k_is); (case hk => k_is); (case hs => k_is); (case hd => k_is); (case ha => k_is); (case hm => k_is))
    case I7 => (refine' G.iniA_mk ?iC ?tI ?l ?c ?k (fun _ _ _ _ _ _ us hl => match us, hl with | [_, _], _ => rfl); (case iC => k_is); (case tI => k_is); (case l => k_is); (case c => k_is); (case k => k_is))
    (case r7 => k_is); (case p7 => k_is)
    case A8 => (refine' G.clsA_mk PySem.F.excBase_ValueError PySem.F.store_ValueError ?hn ?ht ?n ?c ?m ?q1 ?q2 ?ty ?sa ?kC ?hg ?hk ?hs ?hd ?ha ?hm; (case n => k_is); (case c => k_is); (case m => rfl); (case hn => k_is); (case ht => k_is); (case q1 => kx_is); (case q2 => kx_is); (case ty => k_is); (case sa => k_is); (case kC => k_is); (case hg => k_is); (case hk => k_is); (case hs => k_is); (case hd => k_is); (case ha => k_is); (case hm => k_is))
    case I8 => (refine' G.iniA_mk ?iC ?tI ?l ?c ?k (fun _ _ _ _ _ _ us hl => match us, hl with | [_, _], _ => rfl); (case iC => k_is); (case tI => k_is); (case l => k_is); (case c => k_is); (case k => k_is))
    (case r8 => k_is); (case p8 => k_is)
    case A9 => (refine' G.clsA_mk PySem.F.excBase_ValueError PySem.F.store_ValueError ?hn ?ht ?n ?c ?m ?q1 ?q2 ?ty ?sa ?kC ?hg ?hk ?hs ?hd ?ha ?hm; (case n => k_is); (case c => k_is); (case m => rfl); (case hn => k_is); (case ht => k_is); (case q1 => kx_is); (case q2 => kx_is); (case ty => k_is); (case sa => k_is); (case kC => k_is); (case hg => k_is); (case hk => k_is); (case hs => k_is); (case hd => k_is); (case ha => k_is); (case hm => k_is))
    case I9 => (refine' G.iniA_mk ?iC ?tI ?l ?c ?k (fun _ _ _ _ _ _ us hl => match us, hl with | [_, _], _ => rfl); (case iC => k_is); (case tI => k_is); (case l => k_is); (case c => k_is); (case k => k_is))
    (case r9 => k_is); (case p9 => k_is)
    case A10 => (refine' G.clsA_mk PySem.F.excBase_ValueError PySem.F.store_ValueError ?hn ?ht ?n ?c ?m ?q1 ?q2 ?ty ?sa ?kC ?hg ?hk ?hs ?hd ?ha ?hm; (case n => k_is); (case c => k_is); (case m => rfl); (case hn => k_is); (case ht => k_is); (case q1 => kx_is); (case q2 => kx_is); (case ty => k_is); (case sa => k_is); (case kC => k_is); (case hg => k_is); (case hk => k_is); (case hs => k_is); (case hd => k_is); (case ha => k_is); (case hm => k_is))
    case I10 => (refine' G.iniA_mk ?iC ?tI ?l ?c ?k (fun _ _ _ _ _ _ us hl => match us, hl with | [_, _], _ => rfl); (case iC => k_is); (case tI => k_is); (case l => k_is); (case c => k_is); (case k => k_is))
    (case r10 => k_is); (case p10 => k_is)
    case A11 => (refine' G.clsA_mk PySem.F.excBase_ValueError PySem.F.store_ValueError ?hn ?ht ?n ?c ?m ?q1 ?q2 ?ty ?sa ?kC ?hg ?hk ?hs ?hd ?ha ?hm; (case n => k_is); (case c => k_is); (case m => rfl); (case hn => k_is); (case ht => k_is); (case q1 => kx_is); (case q2 => kx_is); (case ty => k_is); (case sa => k_is); (case kC => k_is); (case hg => k_is); (case hk => k_is); (case hs => k_is); (case hd => k_is); (case ha => k_is); (case hm => k_is))
    case I11 => (refine' G.iniA_mk ?iC ?tI ?l ?c ?k (fun _ _ _ _ _ _ us hl => match us, hl with | [_, _], _ => rfl); (case iC => k_is); (case tI => k_is); (case l => k_is); (case c => k_is); (case k => k_is))
    (case r11 => k_is); (case p11 => k_is)
    case A12 => (refine' G.clsA_mk PySem.F.excBase_ValueError PySem.F.store_ValueError ?hn ?ht ?n ?c ?m ?q1 ?q2 ?ty ?sa ?kC ?hg ?hk ?hs ?hd ?ha ?hm; (case n => k_is); (case c => k_is); (case m => rfl); (case hn => k_is); (case ht => k_is); (case q1 => kx_is); (case q2 => kx_is); (case ty => k_is); (case sa => k_is); (case kC => k_is); (case hg => k_is); (case hk => k_is); (case hs => k_is); (case hd => k_is); (case ha => k_is); (case hm => k_is))
    case I12 => (refine' G.iniA_mk ?iC ?tI ?l ?c ?k (fun _ _ _ _ _ _ us hl => match us, hl with | [_, _], _ => rfl); (case iC => k_is); (case tI => k_is); (case l => k_is); (case c => k_is); (case k => k_is))
    (case r12 => k_is); (case p12 => k_is)
    case A13 => (refine' G.clsA_mk PySem.F.excBase_ValueError PySem.F.store_ValueError ?hn ?ht ?n ?c ?m ?q1 ?q2 ?ty ?sa ?kC ?hg ?hk ?hs ?hd ?ha ?hm; (case n => k_is); (case c => k_is); (case m => rfl); (case hn => k_is); (case ht => k_is); (case q1 => kx_is); (case q2 => kx_is); (case ty => k_is); (case sa => k_is); (case kC => k_is); (case hg => k_is); (case hk => k_is); (case hs => k_is); (case hd => k_is); (case ha => k_is); (case hm => k_is))
    case I13 => (refine' G.iniA_mk ?iC ?tI ?l ?c ?k (fun _ _ _ _ _ _ us hl => match us, hl with | [_, _], _ => rfl); (case iC => k_is); (case tI => k_is); (case l => k_is); (case c => k_is); (case k => k_is))
    (case r13 => k_is); (case p13 => k_is)
    case A14 => (refine' G.clsA_mk PySem.F.excBase_ValueError PySem.F.store_ValueError ?hn ?ht ?n ?c ?m ?q1 ?q2 ?ty ?sa ?kC ?hg ?hk ?hs ?hd ?ha ?hm; (case n => k_is); (case c => k_is); (case m => rfl); (case hn => k_is); (case ht => k_is); (case q1 => kx_is); (case q2 => kx_is); (case ty => k_is); (case sa => k_is); (case kC => k_is); (case hg => k_is); (case hk => k_is); (case hs => k_is); (case hd => k_is); (case ha => k_is); (case hm => k_is))
    case I14 => (refine' G.iniA_mk ?iC ?tI ?l ?c ?k (fun _ _ _ _ _ _ us hl => match us, hl with | [_, _], _ => rfl); (case iC => k_is); (case tI => k_is); (case l => k_is); (case c => k_is); (case k => k_is))
    (case r14 => k_is); (case p14 => k_is)
    case A15 => (refine' G.clsA_mk PySem.F.excBase_ValueError PySem.F.store_ValueError ?hn ?ht ?n ?c ?m ?q1 ?q2 ?ty ?sa ?kC ?hg ?hk ?hs ?hd ?ha ?hm; (case n => k_is); (case c => k_is); (case m => rfl); (case hn => k_is); (case ht => k_is); (case q1 => kx_is); (case q2 => kx_is); (case ty => k_is); (case sa => k_is); (case kC => k_is); (case hg => k_is); (case hk => k_is); (case hs => k_is); (case hd => k_is); (case ha => k_is); (case hm => k_is))
    case I15 => (refine' G.iniA_mk ?iC ?tI ?l ?c ?k (fun _ _ _ _ _ _ us hl => match us, hl with | [_, _], _ => rfl); (case iC => k_is); (case tI => k_is); (case l => k_is); (case c => k_is); (case k => k_is))
    (case r15 => k_is); (case p15 => k_is)
    case A16 => (refine' G.clsA_mk PySem.F.excBase_ValueError PySem.F.store_ValueError ?hn ?ht ?n ?c ?m ?q1 ?q2 ?ty ?sa ?kC ?hg ?hk ?hs ?hd ?ha ?hm; (case n => k_is); (case c => k_is); (case m => rfl); (case hn => k_is); (case ht => k_is); (case q1 => kx_is); (case q2 => kx_is); (case ty => k_is); (case sa => k_is); (case kC => k_is); (case hg => k_is); (case hk => k_is); (case hs => k_is); (case hd => k_is); (case ha => k_is); (case hm => k_is))
    case I16 => (refine' G.iniA_mk ?iC ?tI ?l ?c ?k (fun _ _ _ _ _ _ us hl => match us, hl with | [_, _], _ => rfl); (case iC => k_is); (case tI => k_is); (case l => k_is); (case c => k_is); (case k => k_is))
    (case r16 => k_is); (case p16 => k_is)
    case A17 => (refine' G.clsA_mk PySem.F.excBase_ValueError PySem.F.store_ValueError ?hn ?ht ?n ?c ?m ?q1 ?q2 ?ty ?sa ?kC ?hg ?hk ?hs ?hd ?ha ?hm; (case n => k_is); (case c => k_is); (case m => rfl); (case hn => k_is); (case ht => k_is); (case q1 => kx_is); (case q2 => kx_is); (case ty => k_is); (case sa => k_is); (case kC => k_is); (case hg => k_is); (case hk => k_is); (case hs => k_is); (case hd => k_is); (case ha => k_is); (case hm => k_is))
    case I17 => (refine' G.iniA_mk ?iC ?tI ?l ?c ?k (fun _ _ _ _ _ _ us hl => match us, hl with | [_, _], _ => rfl); (case iC => k_is); (case tI => k_is); (case l => k_is); (case c => k_is); (case k => k_is))
    (case r17 => k_is); (case p17 => k_is)
    case A18 => (refine' G.clsA_mk PySem.F.excBase_ValueError PySem.F.store_ValueError ?hn ?ht ?n ?c ?m ?q1 ?q2 ?ty ?sa ?kC ?hg ?hk ?hs ?hd ?ha ?hm; (case n => k_is); (case c => k_is); (case m => rfl); (case hn => k_is); (case ht => k_is); (case q1 => kx_is); (case q2 => kx_is); (case ty => k_is); (case sa => k_is); (case kC => k_is); (case hg => k_is); (case hk => k_is); (case hs => k_is); (case hd => k_is); (case ha => k_is); (case hm => k_is))
    case I18 => (refine' G.iniA_mk ?iC ?tI ?l ?c ?k (fun _ _ _ _ _ _ us hl => match us, hl with | [_, _], _ => rfl); (case iC => k_is); (case tI => k_is); (case l => k_is); (case c => k_is); (case k => k_is))
    (case r18 => k_is); (case p18 => k_is)
    case A19 => (refine' G.clsA_mk PySem.F.excBase_ValueError PySem.F.store_ValueError ?hn ?ht ?n ?c ?m ?q1 ?q2 ?ty ?sa ?kC ?hg ?hk ?hs ?hd ?ha ?hm; (case n => k_is); (case c => k_is); (case m => rfl); (case hn => k_is); (case ht => k_is); (case q1 => kx_is); (case q2 => kx_is); (case ty => k_is); (case sa => k_is); (case kC => k_is); (case hg => k_is); (case hk => k_is); (case hs => k_is); (case hd => k_is); (case ha => k_is); (case hm => k_is))
    case I19 => (refine' G.iniA_mk ?iC ?tI ?l ?c ?k (fun _ _ _ _ _ _ us hl => match us, hl with | [_, _], _ => rfl); (case iC => k_is); (case tI => k_is); (case l => k_is); (case c => k_is); (case k => k_is))
    (case r19 => k_is); (case p19 => k_is)
    case A20 => (refine' G.clsA_mk PySem.F.excBase_ValueError PySem.F.store_ValueError ?hn ?ht ?n ?c ?m ?q1 ?q2 ?ty ?sa ?kC ?hg ?hk ?hs ?hd ?ha ?hm; (case n => k_is); (case c => k_is); (case m => rfl); (case hn => k_is); (case ht => k_is); (case q1 => kx_is); (case q2 => kx_is); (case ty => k_is); (case sa => k_is); (case kC => k_is); (case hg => k_is); (case hk => k_is); (case hs => k_is); (case hd => k_is); (case ha => k_is); (case hm => k_is))
    case I20 => (refine' G.iniA_mk ?iC ?tI ?l ?c ?k (fun _ _ _ _ _ _ us hl => match us, hl with | [_, _], _ => rfl); (case iC => k_is); (case tI => k_is); (case l => k_is); (case c => k_is); (case k => k_is))
    (case r20 => k_is); (case p20 => k_is)
    case A21 => (refine' G.clsA_mk PySem.F.excBase_ValueError PySem.F.store_ValueError ?hn ?ht ?n ?c ?m ?q1 ?q2 ?ty ?sa ?kC ?hg ?hk ?hs ?hd ?ha ?hm; (case n => k_is); (case c => k_is); (case m => rfl); (case hn => k_is); (case ht => k_is); (case q1 => kx_is); (case q2 => kx_is); (case ty => k_is); (case sa => k_is); (case kC => k_is); (case hg => k_is); (case hk => k_is); (case hs => k_is); (case hd => k_is); (case ha => k_is); (case hm => k_is))
    case I21 => (refine' G.iniA_mk ?iC ?tI ?l ?c ?k (fun _ _ _ _ _ _ us hl => match us, hl with | [_], _ => rfl); (case iC => k_is); (case tI => k_is); (case l => k_is); (case c => k_is); (case k => k_is))
    (case r21 => k_is)
    case A22 => (refine' G.clsA_mk PySem.F.excBase_ValueError PySem.F.store_ValueError ?hn ?ht ?n ?c ?m ?q1 ?q2 ?ty ?sa ?kC ?hg ?hk ?hs ?hd ?ha ?hm; (case n => k_is); (case c => k_is); (case m => rfl); (case hn => k_is); (case ht => k_is); (case q1 => kx_is); (case q2 => kx_is); (case ty => k_is); (case sa => k_is); (case kC => k_is); (case hg => k_is); (case hk => k_is); (case hs => k_is); (case hd => k_is); (case ha => k_is); (case hm => k_is))
    case I22 => (refine' G.iniA_mk ?iC ?tI ?l ?c ?k (fun _ _ _ _ _ _ us hl => match us, hl with | [_], _ => rfl); (case iC => k_is); (case tI => k_is); (case l => k_is); (case c => k_is); (case k => k_is))
    (case r22 => k_is)
    case A23 => (refine' G.clsA_mk PySem.F.excBase_ValueError PySem.F.store_ValueError ?hn ?ht ?n ?c ?m ?q1 ?q2 ?ty ?sa ?kC ?hg ?hk ?hs ?hd ?ha ?hm; (case n => k_is); (case c => k_is); (case m => rfl); (case hn => k_is); (case ht => k_is); (case q1 => kx_is); (case q2 => kx_is); (case ty => k_is); (case sa => k_is); (case kC => k_is); (case hg => k_is); (case hk => k_is); (case hs => k_is); (case hd => k_is); (case ha => k_is); (case hm => k_is))
    case I23 => (refine' G.iniA_mk ?iC ?tI ?l ?c ?k (fun _ _ _ _ _ _ us hl => match us, hl with | [_], _ => rfl); (case iC => k_is); (case tI => k_is); (case l => k_is); (case c => k_is); (case k => k_is))
    (case r23 => k_is)
    case A24 => (refine' G.clsA_mk PySem.F.excBase_ValueError PySem.F.store_ValueError ?hn ?ht ?n ?c ?m ?q1 ?q2 ?ty ?sa ?kC ?hg ?hk ?hs ?hd ?ha ?hm; (case n => k_is); (case c => k_is); (case m => rfl); (case hn => k_is); (case ht => k_is); (case q1 => kx_is); (case q2 => kx_is); (case ty => k_is); (case sa => k_is); (case kC => k_is); (case hg => k_is); (case hk => k_is); (case hs => k_is); (case hd => k_is); (case ha => k_is); (case hm => k_is))
    case I24 => (refine' G.iniA_mk ?iC ?tI ?l ?c ?k (fun _ _ _ _ _ _ us hl => match us, hl with | [_], _ => rfl); (case iC => k_is); (case tI => k_is); (case l => k_is); (case c => k_is); (case k => k_is))
    (case r24 => k_is)
    case A25 => (refine' G.clsA_mk PySem.F.excBase_LookupError PySem.F.store_LookupError ?hn ?ht ?n ?c ?m ?q1 ?q2 ?ty ?sa ?kC ?hg ?hk ?hs ?hd ?ha ?hm; (case n => k_is); (case c => k_is); (case m => rfl); (case hn => k_is); (case ht => k_is); (case q1 => kx_is); (case q2 => kx_is); (case ty => k_is); (case sa => k_is); (case kC => k_is); (case hg => k_is); (case hk => k_is); (case hs => k_is); (case hd => k_is); (case ha => k_is); (case hm => k_is))
    case I25 => (refine' G.iniA_mk ?iC ?tI ?l ?c ?k (fun _ _ _ _ _ _ us hl => match us, hl with | [_, _], _ => rfl); (case iC => k_is); (case tI => k_is); (case l => k_is); (case c => k_is); (case k => k_is))
    (case r25 => k_is); (case p25 => k_is)
    case A26 => (refine' G.clsA_mk PySem.F.excBase_IndexError PySem.F.store_IndexError ?hn ?ht ?n ?c ?m ?q1 ?q2 ?ty ?sa ?kC ?hg ?hk ?hs ?hd ?ha ?hm; (case n => k_is); (case c => k_is); (case m => rfl); (case hn => k_is); (case ht => k_is); (case q1 => kx_is); (case q2 => kx_is); (case ty => k_is); (case sa => k_is); (case kC => k_is); (case hg => k_is); (case hk => k_is); (case hs => k_is); (case hd => k_is); (case ha => k_is); (case hm => k_is))
    case I26 => (refine' G.iniA_mk ?iC ?tI ?l ?c ?k (fun _ _ _ _ _ _ us hl => match us, hl with | [_], _ => rfl); (case iC => k_is); (case tI => k_is); (case l => k_is); (case c => k_is); (case k => k_is))
    (case r26 => k_is)
    case nd => decide
