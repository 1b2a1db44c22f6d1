import PyProof.Rows.All
import HandS.ForMost
import HandS.Wide
import HandS.IsInst
import HandS.TupAny
import HandS.Zip
import HandS.Flow
import HandS.Gcd
import HandS.FStr
import HandS.Defaults
import HandS.ExcInit
import HandS.ExcIs
import HandS.ExcField
import KE.KExcInit
import HandS.CallLocal
import HandS.Iter
import HandS.Text
import HandS.TupMul
import HandS.WideBits
import HandS.Evl
import PySem.Challenge.RW_fewtell_k11_measures_of_programs
set_option Elab.async false
set_option linter.all false
set_option maxRecDepth 100000
set_option maxHeartbeats 1000000
namespace G
open PySem PySem.Spec PyProof.Rows L2

/-! ### data -/
inductive D where
  | non | bl (b : Bool) | int (i : Int) | str (s : Str) | ty (n : String)
  | tup (l : List D) | lst (l : List D) | src
  | exc (C : Addr) (ns : List Str) (ds : List D) | cls (C : Addr)

def KT (K : PySem.W.Frag) (a : Addr) (xs : List V) : Prop :=
  ∃ (o : Obj) (its : Array Value) (n : Nat), K.lookup a = some o ∧ o.cls = .type "tuple" ∧ o.data = .seq its n ∧ its.size ≤ sizeLine ∧ Vals xs its.toList
def KL (K : PySem.W.Frag) (a : Addr) (xs : List V) : Prop :=
  ∃ (o : Obj) (its : Array Value) (n : Nat), K.lookup a = some o ∧ o.cls = .type "list" ∧ o.dict = none ∧ o.data = .seq its n ∧ its.size ≤ sizeLine ∧ Vals xs its.toList
def TAt (K : PySem.W.Frag) (M : List Addr) (H : Hp) (a : Addr) (xs : List V) : Prop := (a ∉ M ∧ Rd H a (.tup xs)) ∨ KT K a xs
def LAt (K : PySem.W.Frag) (M : List Addr) (H : Hp) (a : Addr) (xs : List V) : Prop := (a ∉ M ∧ Rd H a (.lst xs)) ∨ KL K a xs
theorem TAt.sq {K M H a xs} (h : TAt K M H a xs) : SqT K H a xs := h.elim (fun z => .inl z.2) .inr
theorem LAt.sq {K M H a xs} (h : LAt K M H a xs) : SqL K H a xs := h.elim (fun z => .inl z.2) .inr

/-- the law's source of draws: the list at a, its first item the list at l -/
structure Sr where
  a : Addr
  l : Addr
def SrcOk (K : PySem.W.Frag) (S : Sr) (H : Hp) : Prop :=
  ∃ (i c s t : Int) (ns : List Int), H S.a = some (.lst [.ref S.l, .int i, .int c, .int s, .int t]) ∧ H S.l = some (.lst (ns.map V.int)) ∧ 0 ≤ i ∧ 0 ≤ c ∧ 0 ≤ s ∧ s < 2147483629 ∧ 0 ≤ t
def Live (S : Sr) (H : Hp) : Prop := (∃ o, H S.a = some o) ∧ (∃ o, H S.l = some o) ∧ S.l ≠ S.a
structure Ext (K : PySem.W.Frag) (S : Sr) (H H' : Hp) : Prop where
  keep : ∀ b o, b ≠ S.a → H b = some o → H' b = some o
  src : Live S H → SrcOk K S H → SrcOk K S H'
  live : Live S H → Live S H'
theorem Ext.refl {K S H} : Ext K S H H := ⟨fun _ _ _ h => h, fun _ h => h, fun h => h⟩
theorem Ext.trans {K S H H1 H2} (a : Ext K S H H1) (b : Ext K S H1 H2) : Ext K S H H2 :=
  ⟨fun c o n h => b.keep c o n (a.keep c o n h), fun l h => b.src (a.live l) (a.src l h), fun l => b.live (a.live l)⟩
theorem Ext.same {K S H H'} (e : Same H H') : Ext K S H H' :=
  ⟨fun b o _ h => e b o h, fun _ ⟨i, c, s, t, ns, h1, h2, h3⟩ => ⟨i, c, s, t, ns, e _ _ h1, e _ _ h2, h3⟩, fun ⟨⟨o, h1⟩, ⟨o', h2⟩, n⟩ => ⟨⟨o, e _ _ h1⟩, ⟨o', e _ _ h2⟩, n⟩⟩
/-- a place that was new may change -/
theorem Ext.mut {K S H H1 p o} (e : Ext K S H H1) (l : Live S H) (h : H p = none) : Ext K S H (upd H1 p o) := by
  obtain ⟨⟨o1, h1⟩, ⟨o2, h2⟩, n⟩ := id l
  have n1 : S.a ≠ p := ne_of_none h1 h
  have n2 : S.l ≠ p := ne_of_none h2 h
  refine ⟨fun b x nb hb => ?_, fun _ hs => ?_, fun _ => ?_⟩
  · rw [upd_ne (ne_of_none hb h)]; exact e.keep b x nb hb
  · obtain ⟨i, c, s, t, ns, g1, g2, g3⟩ := e.src l hs
    exact ⟨i, c, s, t, ns, by rw [upd_ne n1]; exact g1, by rw [upd_ne n2]; exact g2, g3⟩
  · obtain ⟨⟨o3, h3⟩, ⟨o4, h4⟩, n⟩ := e.live l
    exact ⟨⟨o3, by rw [upd_ne n1]; exact h3⟩, ⟨o4, by rw [upd_ne n2]; exact h4⟩, n⟩
theorem same_upd {H : Hp} {p : Addr} {o : HO} (h : H p = none) : Same H (upd H p o) := fun b x e => by
  rw [upd_ne (ne_of_none e h)]
  exact e
theorem Ext.new {K S H p o} (h : H p = none) : Ext K S H (upd H p o) := .same (same_upd h)

mutual
inductive Rep (K : PySem.W.Frag) (S : Sr) (M : List Addr) (H : Hp) : V → D → Prop
  | non : Rep K S M H .non .non
  | bl (b : Bool) : Rep K S M H (.bl b) (.bl b)
  | int (i : Int) : Rep K S M H (.int i) (.int i)
  | str (s : Str) : Rep K S M H (.str s) (.str s)
  | ty (n : String) : Rep K S M H (.ty n) (.ty n)
  | tup {a : Addr} {vs : List V} {ds : List D} (h : TAt K M H a vs) (r : RepAll K S M H vs ds) : Rep K S M H (.ref a) (.tup ds)
  | lst {a : Addr} {vs : List V} {ds : List D} (h : LAt K M H a vs) (r : RepAll K S M H vs ds) : Rep K S M H (.ref a) (.lst ds)
  | src (h : SrcOk K S H) (m : S.a ∈ M) : Rep K S M H (.ref S.a) .src
  | exc {a dx C : Addr} {ns : List Str} {vs : List V} {ds : List D} (h : a ∉ M) (ha : H a = some (exo a C (some dx))) (h2 : dx ∉ M) (hd : H dx = some (exd dx (ns.zip vs))) (r : RepAll K S M H vs ds) : Rep K S M H (.ref a) (.exc C ns ds)
  | cls (C : Addr) : Rep K S M H (.ref C) (.cls C)
inductive RepAll (K : PySem.W.Frag) (S : Sr) (M : List Addr) (H : Hp) : List V → List D → Prop
  | nil : RepAll K S M H [] []
  | cons {v : V} {d : D} {vs : List V} {ds : List D} (h : Rep K S M H v d) (t : RepAll K S M H vs ds) : RepAll K S M H (v :: vs) (d :: ds)
end

mutual
theorem Rep.imp {K : PySem.W.Frag} {S : Sr} {M M' : List Addr} {H H' : Hp} (ht : ∀ a xs, TAt K M H a xs → TAt K M' H' a xs) (hl : ∀ a xs, LAt K M H a xs → LAt K M' H' a xs) (hs : SrcOk K S H → S.a ∈ M → SrcOk K S H' ∧ S.a ∈ M') (hx : ∀ a o, a ∉ M → H a = some o → a ∉ M' ∧ H' a = some o) :
    ∀ {v : V} {d : D}, Rep K S M H v d → Rep K S M' H' v d
  | _, _, .non => .non
  | _, _, .bl b => .bl b
  | _, _, .int i => .int i
  | _, _, .str s => .str s
  | _, _, .ty n => .ty n
  | _, _, .tup h r => .tup (ht _ _ h) (RepAll.imp ht hl hs hx r)
  | _, _, .lst h r => .lst (hl _ _ h) (RepAll.imp ht hl hs hx r)
  | _, _, .src h m => .src (hs h m).1 (hs h m).2
  | _, _, .exc h ha h2 hd r => .exc (hx _ _ h ha).1 (hx _ _ h ha).2 (hx _ _ h2 hd).1 (hx _ _ h2 hd).2 (RepAll.imp ht hl hs hx r)
  | _, _, .cls C => .cls C
theorem RepAll.imp {K : PySem.W.Frag} {S : Sr} {M M' : List Addr} {H H' : Hp} (ht : ∀ a xs, TAt K M H a xs → TAt K M' H' a xs) (hl : ∀ a xs, LAt K M H a xs → LAt K M' H' a xs) (hs : SrcOk K S H → S.a ∈ M → SrcOk K S H' ∧ S.a ∈ M') (hx : ∀ a o, a ∉ M → H a = some o → a ∉ M' ∧ H' a = some o) :
    ∀ {vs : List V} {ds : List D}, RepAll K S M H vs ds → RepAll K S M' H' vs ds
  | _, _, .nil => .nil
  | _, _, .cons h t => .cons (Rep.imp ht hl hs hx h) (RepAll.imp ht hl hs hx t)
end
section
variable {K : PySem.W.Frag} {S : Sr} {M M' : List Addr} {H H' : Hp} {v : V} {d : D} {vs : List V} {ds : List D}
theorem rd_ext (e : Ext K S H H') {a : Addr} {u : HO} (n : a ≠ S.a) (h : Rd H a u) : Rd H' a u := by
  rcases h with h | ⟨o, h⟩
  · exact .inl (e.keep a _ n h)
  · exact .inr ⟨o, e.keep a _ n h⟩
theorem TAt.ext (e : Ext K S H H') (m : S.a ∈ M) {a : Addr} {xs : List V} (h : TAt K M H a xs) : TAt K M H' a xs :=
  h.imp (fun z => ⟨z.1, rd_ext e (fun q => z.1 (q ▸ m)) z.2⟩) id
theorem LAt.ext (e : Ext K S H H') (m : S.a ∈ M) {a : Addr} {xs : List V} (h : LAt K M H a xs) : LAt K M H' a xs :=
  h.imp (fun z => ⟨z.1, rd_ext e (fun q => z.1 (q ▸ m)) z.2⟩) id
theorem Rep.ext (e : Ext K S H H') (lv : Live S H) (m : S.a ∈ M) (r : Rep K S M H v d) : Rep K S M H' v d :=
  r.imp (fun _ _ => TAt.ext e m) (fun _ _ => LAt.ext e m) (fun h q => ⟨e.src lv h, q⟩) fun a o n h => ⟨n, e.keep a o (fun q => n (q ▸ m)) h⟩
theorem RepAll.ext (e : Ext K S H H') (lv : Live S H) (m : S.a ∈ M) (r : RepAll K S M H vs ds) : RepAll K S M H' vs ds :=
  r.imp (fun _ _ => TAt.ext e m) (fun _ _ => LAt.ext e m) (fun h q => ⟨e.src lv h, q⟩) fun a o n h => ⟨n, e.keep a o (fun q => n (q ▸ m)) h⟩
theorem Rep.less (hm : ∀ a ∈ M', a ∈ M) (s : S.a ∈ M') (r : Rep K S M H v d) : Rep K S M' H v d :=
  r.imp (fun _ _ h => h.imp (fun z => ⟨fun q => z.1 (hm _ q), z.2⟩) id) (fun _ _ h => h.imp (fun z => ⟨fun q => z.1 (hm _ q), z.2⟩) id) (fun h _ => ⟨h, s⟩) fun a o n h => ⟨fun q => n (hm _ q), h⟩
theorem RepAll.less (hm : ∀ a ∈ M', a ∈ M) (s : S.a ∈ M') (r : RepAll K S M H vs ds) : RepAll K S M' H vs ds :=
  r.imp (fun _ _ h => h.imp (fun z => ⟨fun q => z.1 (hm _ q), z.2⟩) id) (fun _ _ h => h.imp (fun z => ⟨fun q => z.1 (hm _ q), z.2⟩) id) (fun h _ => ⟨h, s⟩) fun a o n h => ⟨fun q => n (hm _ q), h⟩
theorem rd_ne {a p : Addr} {u : HO} (h : Rd H a u) (n : H p = none) : a ≠ p := by
  rcases h with h | ⟨o, h⟩ <;> exact ne_of_none h n
/-- more places that may change: they were new -/
theorem Rep.fresh {p : Addr} (n : H p = none) (r : Rep K S M H v d) : Rep K S (M ++ [p]) H v d :=
  r.imp (fun _ _ h => h.imp (fun z => ⟨fun q => (List.mem_append.mp q).elim z.1 fun q => rd_ne z.2 n (by simpa using q), z.2⟩) id)
    (fun _ _ h => h.imp (fun z => ⟨fun q => (List.mem_append.mp q).elim z.1 fun q => rd_ne z.2 n (by simpa using q), z.2⟩) id) (fun h m => ⟨h, List.mem_append_left _ m⟩) fun a o n0 h => ⟨fun q => (List.mem_append.mp q).elim n0 fun q => ne_of_none h n (by simpa using q), h⟩
theorem RepAll.length : ∀ {vs : List V} {ds : List D}, RepAll K S M H vs ds → vs.length = ds.length
  | _, _, .nil => rfl
  | _, _, .cons _ t => congrArg (· + 1) t.length
theorem RepAll.get : ∀ {vs : List V} {ds : List D} {i : Nat} {d : D}, RepAll K S M H vs ds → ds[i]? = some d → ∃ v, vs[i]? = some v ∧ Rep K S M H v d
  | _, _, _, _, .nil, h => by simp at h
  | _, _, 0, _, .cons h t, e => by
    have e' := Option.some.inj e
    subst e'
    exact ⟨_, rfl, h⟩
  | _, _, i + 1, _, .cons h t, e => RepAll.get (i := i) t e
theorem RepAll.getV : ∀ {vs : List V} {ds : List D} {i : Nat} {v : V}, RepAll K S M H vs ds → vs[i]? = some v → ∃ d, ds[i]? = some d ∧ Rep K S M H v d
  | _, _, _, _, .nil, h => by simp at h
  | _, _, 0, _, .cons h t, e => by
    have e' := Option.some.inj e
    subst e'
    exact ⟨_, rfl, h⟩
  | _, _, i + 1, _, .cons h t, e => RepAll.getV (i := i) t e
theorem RepAll.append : ∀ {vs ws : List V} {ds es : List D}, RepAll K S M H vs ds → RepAll K S M H ws es → RepAll K S M H (vs ++ ws) (ds ++ es)
  | _, _, _, _, .nil, s => s
  | _, _, _, _, .cons h t, s => .cons h (t.append s)
theorem RepAll.take : ∀ {vs : List V} {ds : List D} (n : Nat), RepAll K S M H vs ds → RepAll K S M H (vs.take n) (ds.take n)
  | _, _, 0, _ => by simp; exact .nil
  | _, _, _ + 1, .nil => .nil
  | _, _, n + 1, .cons h t => .cons h (t.take n)
theorem RepAll.drop : ∀ {vs : List V} {ds : List D} (n : Nat), RepAll K S M H vs ds → RepAll K S M H (vs.drop n) (ds.drop n)
  | _, _, 0, r => r
  | _, _, _ + 1, .nil => .nil
  | _, _, n + 1, .cons _ t => t.drop n
theorem RepAll.ints : ∀ {vs : List V} {ns : List Int}, RepAll K S M H vs (ns.map D.int) → vs = ns.map V.int
  | _, [], .nil => rfl
  | _, n :: ns, .cons h t => by cases h; rw [t.ints]; rfl
theorem RepAll.bls : ∀ {vs : List V} {ns : List Bool}, RepAll K S M H vs (ns.map D.bl) → vs = ns.map V.bl
  | _, [], .nil => rfl
  | _, n :: ns, .cons h t => by cases h; rw [t.bls]; rfl
theorem RepAll.strs : ∀ {vs : List V} {ns : List Str}, RepAll K S M H vs (ns.map D.str) → vs = ns.map V.str
  | _, [], .nil => rfl
  | _, n :: ns, .cons h t => by cases h; rw [t.strs]; rfl
end

/-! ### what the names hold -/
inductive E where
  | no | is (d : D) | own (k : Nat) (ds : List D)
def EntOk (K : PySem.W.Frag) (S : Sr) (B O : List Addr) (H : Hp) : Option V → E → Prop
  | _, .no => True
  | x, .is d => ∃ v, x = some v ∧ Rep K S (B ++ O) H v d
  | x, .own k ds => ∃ m vs, x = some (.ref m) ∧ O[k]? = some m ∧ H m = some (.lst vs) ∧ RepAll K S (B ++ O) H vs ds
/-- B: what may change anywhere (the source in it); O: the lists of this def's own -/
structure StOk (K : PySem.W.Frag) (S : Sr) (B O : List Addr) (H0 H : Hp) (σ : L2.St) (Γ : List E) : Prop where
  len : σ.length = Γ.length
  ent : ∀ (i : Nat) (g : E), Γ[i]? = some g → ∃ x, σ[i]? = some x ∧ EntOk K S B O H x g
  ext : Ext K S H0 H
  live0 : Live S H0
  mem : S.a ∈ B
  bl : ∀ m ∈ B, ∃ o, H0 m = some o
  nd : O.Nodup
  out : ∀ m ∈ O, m ∉ B
  new : ∀ m ∈ O, H0 m = none
  liv : ∀ m ∈ O, ∃ xs, H m = some (.lst xs)
section
variable {K : PySem.W.Frag} {S : Sr} {B O : List Addr} {H0 H H' : Hp} {σ : L2.St} {Γ Γ' : List E} {v : V} {d : D}
theorem StOk.m (st : StOk K S B O H0 H σ Γ) : S.a ∈ B ++ O := List.mem_append_left _ st.mem
theorem StOk.live (st : StOk K S B O H0 H σ Γ) : Live S H := st.ext.live st.live0
theorem StOk.ne (st : StOk K S B O H0 H σ Γ) {m : Addr} (h : m ∈ O) : m ≠ S.a := fun e => st.out m h (e ▸ st.mem)
theorem StOk.ne2 (st : StOk K S B O H0 H σ Γ) {k : Nat} {m : Addr} (h : O[k]? = some m) : m ≠ S.a := st.ne (List.mem_of_getElem? h)
theorem StOk.free (st : StOk K S B O H0 H σ Γ) {p : Addr} (n : H p = none) : p ∉ B ++ O := fun q => by
  rcases List.mem_append.mp q with q | q
  · obtain ⟨o, e⟩ := st.bl p q
    by_cases hp : p = S.a
    · obtain ⟨⟨o', e'⟩, _⟩ := st.live
      rw [← hp, n] at e'; cases e'
    · have := st.ext.keep p o hp e
      rw [n] at this; cases this
  · obtain ⟨xs, e⟩ := st.liv p q
    rw [n] at e; cases e
theorem StOk.to (st : StOk K S B O H0 H σ Γ) (e : Ext K S H H') : StOk K S B O H0 H' σ Γ where
  len := st.len
  ent := fun i g hg => by
    obtain ⟨x, hx, o⟩ := st.ent i g hg
    refine ⟨x, hx, ?_⟩
    cases g with
    | no => trivial
    | is d => obtain ⟨v, e1, r⟩ := o; exact ⟨v, e1, r.ext e st.live st.m⟩
    | own k ds => obtain ⟨m, vs, e1, e2, e3, r⟩ := o; exact ⟨m, vs, e1, e2, e.keep _ _ (st.ne2 e2) e3, r.ext e st.live st.m⟩
  ext := st.ext.trans e
  live0 := st.live0
  mem := st.mem
  bl := st.bl
  nd := st.nd
  out := st.out
  new := st.new
  liv := fun m hm => let ⟨xs, h⟩ := st.liv m hm; ⟨xs, e.keep _ _ (st.ne hm) h⟩
theorem StOk.set (st : StOk K S B O H0 H σ Γ) (i : Nat) (r : Rep K S (B ++ O) H v d) : StOk K S B O H0 H (σ.set i (some v)) (Γ.set i (.is d)) where
  len := by simpa using st.len
  ent := fun j g hg => by
    by_cases h : i = j
    · subst h
      have hl : i < Γ.length := by
        have := (List.getElem?_eq_some_iff.mp hg).1
        simpa using this
      rw [List.getElem?_set_self hl] at hg
      cases hg
      exact ⟨some v, by rw [List.getElem?_set_self (by rw [st.len]; exact hl)], v, rfl, r⟩
    · rw [List.getElem?_set_ne h] at hg ⊢
      exact st.ent j g hg
  ext := st.ext
  live0 := st.live0
  mem := st.mem
  bl := st.bl
  nd := st.nd
  out := st.out
  new := st.new
  liv := st.liv
/-- less is known -/
inductive LeE : E → E → Prop
  | refl (g) : LeE g g
  | no (g) : LeE g .no
def Le : List E → List E → Prop
  | [], [] => True
  | g :: r, g' :: r' => LeE g g' ∧ Le r r'
  | _, _ => False
theorem Le.length : ∀ {Γ Γ' : List E}, Le Γ Γ' → Γ.length = Γ'.length
  | [], [], _ => rfl
  | g :: r, g' :: r', h => congrArg (· + 1) (Le.length (Γ := r) h.2)
theorem Le.get : ∀ {Γ Γ' : List E} {i : Nat} {g' : E}, Le Γ Γ' → Γ'[i]? = some g' → ∃ g, Γ[i]? = some g ∧ LeE g g'
  | [], [], _, _, _, h => by simp at h
  | g :: r, g' :: r', 0, _, h, e => by
    have e' := Option.some.inj e
    subst e'
    exact ⟨g, rfl, h.1⟩
  | g :: r, g' :: r', i + 1, _, h, e => Le.get (Γ := r) (Γ' := r') (i := i) h.2 e
theorem Le.refl : ∀ Γ : List E, Le Γ Γ
  | [] => trivial
  | g :: r => ⟨.refl g, Le.refl r⟩
theorem StOk.le (st : StOk K S B O H0 H σ Γ) (h : Le Γ Γ') : StOk K S B O H0 H σ Γ' where
  len := st.len.trans h.length
  ent := fun i g hg => by
    obtain ⟨g0, e0, l⟩ := h.get hg
    obtain ⟨x, hx, o⟩ := st.ent i g0 e0
    cases l with
    | refl => exact ⟨x, hx, o⟩
    | no => exact ⟨x, hx, trivial⟩
  ext := st.ext
  live0 := st.live0
  mem := st.mem
  bl := st.bl
  nd := st.nd
  out := st.out
  new := st.new
  liv := st.liv
/-- the same names forgotten -/
def wipeE (Γ : List E) : List Nat → List E
  | [] => Γ
  | v :: vs => (wipeE Γ vs).set v .no
theorem StOk.no (st : StOk K S B O H0 H σ Γ) (i : Nat) (x : Option V) : StOk K S B O H0 H (σ.set i x) (Γ.set i .no) where
  len := by simpa using st.len
  ent := fun j g hg => by
    by_cases h : i = j
    · subst h
      have hl : i < Γ.length := by
        have := (List.getElem?_eq_some_iff.mp hg).1
        simpa using this
      rw [List.getElem?_set_self hl] at hg
      cases hg
      exact ⟨x, by rw [List.getElem?_set_self (by rw [st.len]; exact hl)], trivial⟩
    · rw [List.getElem?_set_ne h] at hg ⊢
      exact st.ent j g hg
  ext := st.ext
  live0 := st.live0
  mem := st.mem
  bl := st.bl
  nd := st.nd
  out := st.out
  new := st.new
  liv := st.liv
theorem StOk.wipe (st : StOk K S B O H0 H σ Γ) : ∀ vs : List Nat, StOk K S B O H0 H (L2.wipe σ vs) (wipeE Γ vs)
  | [] => st
  | v :: vs => (st.wipe vs).no v none
end
end G
set_option Elab.async false
set_option linter.all false
set_option maxRecDepth 100000
set_option maxHeartbeats 1000000
namespace G
open PySem PySem.Spec PyProof.Rows L2

/-! ### judgements -/
def semE (X : Cx) (e : Expr) : TE := fun σ H Q => ∀ pins s, Inv X pins σ H s → wpAny (model X.prog X.w) X.A (eval e X.env) (EP X pins σ Q) X.xe s
theorem pe_sem {X : Cx} {e : Expr} : PE X e (semE X e) := ⟨fun pins s σ H Q I h => h pins s I⟩
theorem semE_of {X : Cx} {e : Expr} {t : TE} {σ : L2.St} {H : Hp} {Q : VK} (h : PE X e t) (q : t σ H Q) : semE X e σ H Q := fun pins s I => h.run pins s σ H Q I q
def semT (X : Cx) (e : Expr) : TT := fun σ H Q => ∀ pins s, Inv X pins σ H s → wpAny (model X.prog X.w) X.A (isTrue e X.env (eval e X.env)) (TP X pins σ Q) X.xe s
theorem pt_sem {X : Cx} {e : Expr} : PT X e (semT X e) := ⟨fun pins s σ H Q I h => h pins s I⟩
theorem semT_of {X : Cx} {e : Expr} {t : TT} {σ : L2.St} {H : Hp} {Q : Bool → Hp → Prop} (h : PT X e t) (q : t σ H Q) : semT X e σ H Q := fun pins s I => h.run pins s σ H Q I q
def semW (X : Cx) (e : Expr) : TT := fun σ H Q => ∀ whole pins s, Inv X pins σ H s → wpAny (model X.prog X.w) X.A (isTrue e X.env whole) (TP X pins σ Q) X.xe s
theorem pw_sem {X : Cx} {e : Expr} : PW X e (semW X e) := ⟨fun wh pins s σ H Q I h => h wh pins s I⟩
theorem semW_of {X : Cx} {e : Expr} {t : TT} {σ : L2.St} {H : Hp} {Q : Bool → Hp → Prop} (h : PW X e t) (q : t σ H Q) : semW X e σ H Q := fun wh pins s I => h.run wh pins s σ H Q I q
def semA (X : Cx) (es : List Expr) : TA := fun σ H Q => ∀ pos pins s, Inv X pins σ H s → wpAny (model X.prog X.w) X.A (spliced (backTo pos (starEach es X.env))) (AP X pins σ Q) X.xe s
theorem pa_sem {X : Cx} {es : List Expr} : PA X es (semA X es) := ⟨fun pos pins s σ H Q I h => h pos pins s I⟩
theorem semA_of {X : Cx} {es : List Expr} {t : TA} {σ : L2.St} {H : Hp} {Q : List V → Hp → Prop} (h : PA X es t) (q : t σ H Q) : semA X es σ H Q := fun pos pins s I => h.run pos pins s σ H Q I q
def semK (X : Cx) (es : List Keyword) : TA := fun σ H Q => ∀ pos pins s, Inv X pins σ H s → wpAny (model X.prog X.w) X.A (evalAll ((backToKw pos (keywordEach es X.env)).map (·.2))) (AP X pins σ Q) X.xe s
theorem pk_sem {X : Cx} {es : List Keyword} : PK X es (semK X es) := ⟨fun pos pins s σ H Q I h => h pos pins s I⟩
theorem semK_of {X : Cx} {es : List Keyword} {t : TA} {σ : L2.St} {H : Hp} {Q : List V → Hp → Prop} (h : PK X es t) (q : t σ H Q) : semK X es σ H Q := fun pos pins s I => h.run pos pins s σ H Q I q
def semI (X : Cx) (tg iter : Expr) : TI := fun σ H R => ∀ pins s, Inv X pins σ H s → wpAny (model X.prog X.w) X.A (eval iter X.env) (fun v s1 => wpAny (model X.prog X.w) X.A (pyIter v) (PIE X pins σ tg R) X.xe s1) X.xe s
theorem pi_sem {X : Cx} {tg iter : Expr} : PI X tg iter (semI X tg iter) := ⟨fun pins s σ H R I h => h pins s I⟩
theorem semI_of {X : Cx} {tg iter : Expr} {t : TI} {σ : L2.St} {H : Hp} {R : It → Hp → Prop} (h : PI X tg iter t) (q : t σ H R) : semI X tg iter σ H R := fun pins s I => h.run pins s σ H R I q
def semS (X : Cx) (st : Stmt) : TS := fun Dn σ H => ∀ pins s, Inv X pins σ H s → wpAny (model X.prog X.w) X.A (exec st X.env) (SP X pins Dn) X.xe s
theorem ps_sem {X : Cx} {st : Stmt} : PS X st (semS X st) := ⟨fun pins s σ H Dn I h => h pins s I⟩
theorem semS_of {X : Cx} {st : Stmt} {t : TS} {σ : L2.St} {H : Hp} {Dn : Ends} (h : PS X st t) (q : t Dn σ H) : semS X st Dn σ H := fun pins s I => h.run pins s σ H Dn I q
def semSs (X : Cx) (st : List Stmt) : TS := fun Dn σ H => ∀ pins s, Inv X pins σ H s → wpAny (model X.prog X.w) X.A (execs st X.env) (SP X pins Dn) X.xe s
theorem pss_sem {X : Cx} {st : List Stmt} : PSs X st (semSs X st) := ⟨fun pins s σ H Dn I h => h pins s I⟩
theorem semSs_of {X : Cx} {st : List Stmt} {t : TS} {σ : L2.St} {H : Hp} {Dn : Ends} (h : PSs X st t) (q : t Dn σ H) : semSs X st Dn σ H := fun pins s I => h.run pins s σ H Dn I q

def KE (K : PySem.W.Frag) (S : Sr) (M : List Addr) (H : Hp) (P : D → Prop) (Q : VK) : Prop := ∀ v d H', Ext K S H H' → Rep K S M H' v d → P d → Q v H'
def KA (K : PySem.W.Frag) (S : Sr) (M : List Addr) (H : Hp) (P : List D → Prop) (Q : List V → Hp → Prop) : Prop := ∀ vs ds H', Ext K S H H' → RepAll K S M H' vs ds → P ds → Q vs H'
def KB (K : PySem.W.Frag) (S : Sr) (H : Hp) (P : Bool → Prop) (Q : Bool → Hp → Prop) : Prop := ∀ b H', Ext K S H H' → P b → Q b H'
theorem KE.to {K S M H H1 P Q} (k : KE K S M H P Q) (e : Ext K S H H1) : KE K S M H1 P Q := fun v d H' e' r p => k v d H' (e.trans e') r p
theorem KA.to {K S M H H1 P Q} (k : KA K S M H P Q) (e : Ext K S H H1) : KA K S M H1 P Q := fun v d H' e' r p => k v d H' (e.trans e') r p
theorem KB.to {K S H H1 P Q} (k : KB K S H P Q) (e : Ext K S H H1) : KB K S H1 P Q := fun b H' e' p => k b H' (e.trans e') p

def EX (X : Cx) (e : Expr) (Γ : List E) (P : D → Prop) : Prop := ∀ S B O H0 H σ, StOk X.K S B O H0 H σ Γ → ∀ Q, KE X.K S (B ++ O) H P Q → semE X e σ H Q
def TX (X : Cx) (e : Expr) (Γ : List E) (P : Bool → Prop) : Prop := ∀ S B O H0 H σ, StOk X.K S B O H0 H σ Γ → ∀ Q, KB X.K S H P Q → semT X e σ H Q
def TW (X : Cx) (e : Expr) (Γ : List E) (P : Bool → Prop) : Prop := ∀ S B O H0 H σ, StOk X.K S B O H0 H σ Γ → ∀ Q, KB X.K S H P Q → semW X e σ H Q
def AX (X : Cx) (es : List Expr) (Γ : List E) (P : List D → Prop) : Prop := ∀ S B O H0 H σ, StOk X.K S B O H0 H σ Γ → ∀ Q, KA X.K S (B ++ O) H P Q → semA X es σ H Q
def KX (X : Cx) (es : List Keyword) (Γ : List E) (P : List D → Prop) : Prop := ∀ S B O H0 H σ, StOk X.K S B O H0 H σ Γ → ∀ Q, KA X.K S (B ++ O) H P Q → semK X es σ H Q

/-! ### names, constants -/
@[reducible] def nth {α : Type} : List α → Nat → Option α
  | [], _ => none
  | x :: _, 0 => some x
  | _ :: r, i + 1 => nth r i
theorem nth_eq {α : Type} : ∀ (l : List α) (i : Nat), nth l i = l[i]?
  | [], i => by simp [nth]
  | x :: _, 0 => rfl
  | _ :: r, i + 1 => by
    show nth r i = _
    rw [nth_eq r i]
    rfl
@[reducible] def put : List E → Nat → E → List E
  | [], _, _ => []
  | _ :: r, 0, g => g :: r
  | x :: r, i + 1, g => x :: put r i g
theorem put_eq : ∀ (l : List E) (i : Nat) (g : E), put l i g = l.set i g
  | [], i, g => by simp [put]
  | x :: _, 0, g => rfl
  | x :: r, i + 1, g => by
    show x :: put r i g = _
    rw [put_eq r i g]
    rfl
section
variable {X : Cx} {Γ : List E} {P : D → Prop} {pos : Pos}
theorem ex_of {e : Expr} {t : TE} (hp : PE X e t) (h : ∀ S B O H0 H σ, StOk X.K S B O H0 H σ Γ → ∀ Q, KE X.K S (B ++ O) H P Q → t σ H Q) : EX X e Γ P :=
  fun S B O H0 H σ st Q k => semE_of hp (h S B O H0 H σ st Q k)
theorem ex_name (i : Nat) {N : List Str} {x : Str} {d : D} (hX : X.N = N) (hN : nth N i = some x) (hΓ : nth Γ i = some (.is d)) (hv : Vis X.env.scope x) (h : P d) (hd : (x == ("__debug__" : Str)) = false := by decide) (hcd : (x == ("__classdict__" : Str)) = false := by decide) :
    EX X (.Name x pos) Γ P := by
  rw [nth_eq] at hN hΓ
  refine ex_of (pe_var (i := i) (by rw [hX]; exact hN) hv hd hcd) fun S B O H0 H σ st Q k => ?_
  obtain ⟨y, hy, v, rfl, r⟩ := st.ent i _ hΓ
  exact ⟨v, hy, k v d H .refl r h⟩
theorem ex_int {i : Int} {j} (h : P (.int i)) : EX X (.Constant (.int i) j pos) Γ P := ex_of pe_int fun S B O H0 H σ st Q k => k _ _ H .refl (.int i) h
theorem ex_bl {i : Bool} {j} (h : P (.bl i)) : EX X (.Constant (.bool i) j pos) Γ P := ex_of pe_bl fun S B O H0 H σ st Q k => k _ _ H .refl (.bl i) h
theorem ex_non {j} (h : P .non) : EX X (.Constant .none j pos) Γ P := ex_of pe_non fun S B O H0 H σ st Q k => k _ _ H .refl .non h
theorem ex_str {z : Str} {j} (h : P (.str z)) : EX X (.Constant (.str z) j pos) Γ P := ex_of pe_str fun S B O H0 H σ st Q k => k _ _ H .refl (.str z) h
/-- a module's constant -/
structure ConstOk (X : Cx) (x : Str) (d : D) : Prop where
  ex : ∃ v u, X.mg x = some u ∧ RelV v u ∧ ∀ S M H, Rep X.K S M H v d
theorem ex_glob {x : Str} {d : D} (c : ConstOk X x d) (hg : Gl X x) (h : P d) (hd : (x == ("__debug__" : Str)) = false := by decide) : EX X (.Name x pos) Γ P := by
  obtain ⟨v, u, hm, rv, hr⟩ := c.ex
  exact ex_of (pe_glob hg hm rv hd) fun S B O H0 H σ st Q k => k v d H .refl (hr S _ H) h
theorem ex_ty {x : Str} {n : String} (hm : X.mg x = none) (hg : Gl X x) (hv : bootBuiltins x = some (.type n)) (h : P (.ty n)) (hn : x ≠ "__name__" := by decide) (hd : (x == ("__debug__" : Str)) = false := by decide) : EX X (.Name x pos) Γ P :=
  ex_of (pe_bltn (v := .ty n) hg hm hv rfl hn hd) fun S B O H0 H σ st Q k => k _ _ H .refl (.ty n) h

/-! ### argument lists, displays -/
theorem ax_nil {P : List D → Prop} (h : P []) : AX X [] Γ P := fun S B O H0 H σ st Q k => semA_of pa_nil (k [] [] H .refl .nil h)
theorem ax_cons {e : Expr} {es : List Expr} {P : List D → Prop} (h : EX X e Γ fun d => AX X es Γ fun ds => P (d :: ds)) (hs : starEach (e :: es) X.env = (false, eval e X.env) :: starEach es X.env := by rfl) : AX X (e :: es) Γ P :=
  fun S B O H0 H σ st Q k => semA_of (pa_cons pe_sem pa_sem hs) (h S B O H0 H σ st _ fun v d H1 e1 r1 p1 => p1 S B O H0 H1 σ (st.to e1) _ fun vs ds H2 e2 r2 p2 =>
    k (v :: vs) (d :: ds) H2 (e1.trans e2) (.cons (r1.ext e2 (st.to e1).live st.m) r2) p2)
theorem kx_nil {P : List D → Prop} (h : P []) : KX X [] Γ P := fun S B O H0 H σ st Q k => semK_of pk_nil (k [] [] H .refl .nil h)
theorem kx_cons {nm kpos} {e : Expr} {es : List Keyword} {P : List D → Prop} (h : EX X e Γ fun d => KX X es Γ fun ds => P (d :: ds)) : KX X (⟨nm, e, kpos⟩ :: es) Γ P :=
  fun S B O H0 H σ st Q k => semK_of (pk_cons pe_sem pk_sem) (h S B O H0 H σ st _ fun v d H1 e1 r1 p1 => p1 S B O H0 H1 σ (st.to e1) _ fun vs ds H2 e2 r2 p2 =>
    k (v :: vs) (d :: ds) H2 (e1.trans e2) (.cons (r1.ext e2 (st.to e1).live st.m) r2) p2)
theorem small {n : Nat} (h : n ≤ 100000) : n ≤ sizeLine := Nat.le_trans h (by decide)
/-- a new tuple, a new list -/
theorem rep_tup {K S B O H0 H σ Γ p vs ds} (st : StOk K S B O H0 H σ Γ) (r : RepAll K S (B ++ O) H vs ds) (n : H p = none) : Rep K S (B ++ O) (upd H p (.tup vs)) (.ref p) (.tup ds) :=
  .tup (.inl ⟨st.free n, .inl upd_same⟩) (r.ext (.new n) st.live st.m)
theorem rep_lst {K S B O H0 H σ Γ p vs ds} (st : StOk K S B O H0 H σ Γ) (r : RepAll K S (B ++ O) H vs ds) (n : H p = none) : Rep K S (B ++ O) (upd H p (.lst vs)) (.ref p) (.lst ds) :=
  .lst (.inl ⟨st.free n, .inl upd_same⟩) (r.ext (.new n) st.live st.m)
theorem ex_tup {es : List Expr} {j} (h : AX X es Γ fun ds => ds.length ≤ 100000 ∧ P (.tup ds)) : EX X (.Tuple es j pos) Γ P :=
  ex_of (pe_tup pa_sem) fun S B O H0 H σ st Q k => h S B O H0 H σ st _ fun vs ds H1 e1 r1 p1 => ⟨by rw [r1.length]; exact small p1.1, fun p np => k _ _ _ (e1.trans (.new np)) (rep_tup (st.to e1) r1 np) p1.2⟩
theorem ex_lst {es : List Expr} (h : AX X es Γ fun ds => ds.length ≤ 100000 ∧ P (.lst ds)) : EX X (.List es pos) Γ P :=
  ex_of (pe_lst pa_sem) fun S B O H0 H σ st Q k => h S B O H0 H σ st _ fun vs ds H1 e1 r1 p1 => ⟨by rw [r1.length]; exact small p1.1, fun p np => k _ _ _ (e1.trans (.new np)) (rep_lst (st.to e1) r1 np) p1.2⟩

/-! ### operations on values -/
/-- what an operation on two data gives -/
abbrev W2 := D → D → (D → Prop) → Prop
def OpD (X : Cx) (f : Value → Value → Sem Value) (w : W2) : Prop :=
  ∀ S B O H0 H σ Γ (P : D → Prop) x y a b, StOk X.K S B O H0 H σ Γ → Rep X.K S (B ++ O) H x a → Rep X.K S (B ++ O) H y b → w a b P → ∃ r : R2, OpR X f r ∧ ∀ Q, KE X.K S (B ++ O) H P Q → r x y H Q
/-- any rule, at the values at hand -/
def semO (X : Cx) (f : Value → Value → Sem Value) : R2 := fun x y H Q => ∀ pins s σ v u, Inv X pins σ H s → RelV x v → RelV y u → wpAny (model X.prog X.w) X.A (f v u) (EP X pins σ Q) X.xe s
theorem op_sem {f : Value → Value → Sem Value} : OpR X f (semO X f) := fun pins s σ H x y v u Q I rx ry h => h pins s σ v u I rx ry
theorem semO_of {f : Value → Value → Sem Value} {r : R2} (h : OpR X f r) {x y : V} {H : Hp} {Q : VK} (q : r x y H Q) : semO X f x y H Q := fun pins s σ v u I rx ry => h pins s σ H x y v u Q I rx ry q
theorem ex_bin {op : Operator} {a b : Expr} {w : W2} (ho : OpD X (binaryOp op) w) (h : EX X a Γ fun x => EX X b Γ fun y => w x y P) : EX X (.BinOp a op b pos) Γ P :=
  ex_of (pe_op op_sem pe_sem pe_sem) fun S B O H0 H σ st Q k => h S B O H0 H σ st _ fun v d H1 e1 r1 p1 => p1 S B O H0 H1 σ (st.to e1) _ fun v2 d2 H2 e2 r2 p2 => by
    obtain ⟨r, hr, hq⟩ := ho S B O H0 H2 σ Γ P v v2 d d2 (st.to (e1.trans e2)) (r1.ext e2 (st.to e1).live st.m) r2 p2
    exact semO_of hr (hq Q (k.to (e1.trans e2)))
theorem ex_cmp {op : CmpOp} {a b : Expr} {w : W2} (ho : OpD X (compareOp op) w) (h : EX X a Γ fun x => EX X b Γ fun y => w x y P) (hm : behindInMarks op b = false := by first | exact nomark _ | rfl) : EX X (.Compare a [op] [b] pos) Γ P :=
  ex_of (pe_cmpR op_sem pe_sem pe_sem hm) fun S B O H0 H σ st Q k => h S B O H0 H σ st _ fun v d H1 e1 r1 p1 => p1 S B O H0 H1 σ (st.to e1) _ fun v2 d2 H2 e2 r2 p2 => by
    obtain ⟨r, hr, hq⟩ := ho S B O H0 H2 σ Γ P v v2 d d2 (st.to (e1.trans e2)) (r1.ext e2 (st.to e1).live st.m) r2 p2
    exact semO_of hr (hq Q (k.to (e1.trans e2)))
/-- a <= b <= c -/
def asB (P : Bool → Prop) : D → Prop
  | .bl k => P k
  | _ => False
theorem asB_use {K S M H} {v : V} {d : D} {P : Bool → Prop} (r : Rep K S M H v d) (h : asB P d) : ∃ k, v = .bl k ∧ d = .bl k ∧ P k := by
  cases r <;> first | exact h.elim | exact ⟨_, rfl, rfl, h⟩
theorem ex_chain {op op' : CmpOp} {a b c : Expr} {w w' : W2} (ho : OpD X (compareOp op) w) (ho' : OpD X (compareOp op') w')
    (h : EX X a Γ fun x => EX X b Γ fun y => w x y (asB fun k => if k then EX X c Γ fun z => w' y z P else P (.bl false))) (hm : lastMarks [op, op'] [b, c] = false := by with_unfolding_all rfl) : EX X (.Compare a [op, op'] [b, c] pos) Γ P :=
  ex_of (pe_chain op_sem op_sem pe_sem pe_sem pe_sem hm) fun S B O H0 H σ st Q k => h S B O H0 H σ st _ fun v d H1 e1 r1 p1 => p1 S B O H0 H1 σ (st.to e1) _ fun v2 d2 H2 e2 r2 p2 => by
    obtain ⟨r, hr, hq⟩ := ho S B O H0 H2 σ Γ _ v v2 d d2 (st.to (e1.trans e2)) (r1.ext e2 (st.to e1).live st.m) r2 p2
    refine semO_of hr (hq _ fun z dz H3 e3 r3 p3 => ?_)
    obtain ⟨b, rfl, rfl, p3⟩ := asB_use r3 p3
    refine ⟨b, rfl, ?_⟩
    cases b with
    | true =>
      have st3 := st.to (e1.trans (e2.trans e3))
      refine iteT (p3 S B O H0 H3 σ st3 _ fun v4 d4 H4 e4 r4 p4 => ?_)
      obtain ⟨r', hr', hq'⟩ := ho' S B O H0 H4 σ Γ P v2 v4 d2 d4 (st3.to e4) (r2.ext (e3.trans e4) (st.to (e1.trans e2)).live st.m) r4 p4
      exact semO_of hr' (hq' Q (k.to (e1.trans (e2.trans (e3.trans e4)))))
    | false => exact iteF (k _ _ H3 (e1.trans (e2.trans e3)) (.bl false) p3)

/-! ### tests -/
section
variable {P : Bool → Prop}
theorem tx_of {e : Expr} {t : TT} (hp : PT X e t) (h : ∀ S B O H0 H σ, StOk X.K S B O H0 H σ Γ → ∀ Q, KB X.K S H P Q → t σ H Q) : TX X e Γ P :=
  fun S B O H0 H σ st Q k => semT_of hp (h S B O H0 H σ st Q k)
theorem tx_cmp {op : CmpOp} {a b : Expr} {w : W2} (ho : OpD X (compareOp op) w) (h : EX X a Γ fun x => EX X b Γ fun y => w x y (asB P)) (hm : behindInMarks op b = false := by first | exact nomark _ | rfl) : TX X (.Compare a [op] [b] pos) Γ P :=
  tx_of (pt_cmpR op_sem pe_sem pe_sem hm) fun S B O H0 H σ st Q k => h S B O H0 H σ st _ fun v d H1 e1 r1 p1 => p1 S B O H0 H1 σ (st.to e1) _ fun v2 d2 H2 e2 r2 p2 => by
    obtain ⟨r, hr, hq⟩ := ho S B O H0 H2 σ Γ _ v v2 d d2 (st.to (e1.trans e2)) (r1.ext e2 (st.to e1).live st.m) r2 p2
    refine semO_of hr (hq _ fun z dz H3 e3 r3 p3 => ?_)
    obtain ⟨b, rfl, rfl, p3⟩ := asB_use r3 p3
    exact ⟨b, rfl, k b H3 (e1.trans (e2.trans e3)) p3⟩
theorem tx_chain {op op' : CmpOp} {a b c : Expr} {w w' : W2} (ho : OpD X (compareOp op) w) (ho' : OpD X (compareOp op') w')
    (h : EX X a Γ fun x => EX X b Γ fun y => w x y (asB fun k => if k then EX X c Γ fun z => w' y z (asB P) else P false)) (hm : lastMarks [op, op'] [b, c] = false := by with_unfolding_all rfl) : TX X (.Compare a [op, op'] [b, c] pos) Γ P :=
  tx_of (pt_chain op_sem op_sem pe_sem pe_sem pe_sem hm) fun S B O H0 H σ st Q k => h S B O H0 H σ st _ fun v d H1 e1 r1 p1 => p1 S B O H0 H1 σ (st.to e1) _ fun v2 d2 H2 e2 r2 p2 => by
    obtain ⟨r, hr, hq⟩ := ho S B O H0 H2 σ Γ _ v v2 d d2 (st.to (e1.trans e2)) (r1.ext e2 (st.to e1).live st.m) r2 p2
    refine semO_of hr (hq _ fun z dz H3 e3 r3 p3 => ?_)
    obtain ⟨b, rfl, rfl, p3⟩ := asB_use r3 p3
    refine ⟨b, rfl, ?_⟩
    cases b with
    | true =>
      have st3 := st.to (e1.trans (e2.trans e3))
      refine iteT (p3 S B O H0 H3 σ st3 _ fun v4 d4 H4 e4 r4 p4 => ?_)
      obtain ⟨r', hr', hq'⟩ := ho' S B O H0 H4 σ Γ _ v2 v4 d2 d4 (st3.to e4) (r2.ext (e3.trans e4) (st.to (e1.trans e2)).live st.m) r4 p4
      refine semO_of hr' (hq' _ fun z5 dz5 H5 e5 r5 p5 => ?_)
      obtain ⟨b5, rfl, rfl, p5⟩ := asB_use r5 p5
      exact ⟨b5, rfl, k b5 H5 (e1.trans (e2.trans (e3.trans (e4.trans e5)))) p5⟩
    | false => exact iteF ⟨false, rfl, k _ H3 (e1.trans (e2.trans e3)) p3⟩
/-- a value's truth -/
def asTru (P : Bool → Prop) : D → Prop
  | .non => P false
  | .bl k => P k
  | .int i => P (i != 0)
  | .str s => s.length ≤ sizeLine ∧ P ((s.length : Int) != 0)
  | .tup l => P (!l.isEmpty)
  | .lst l => P (!l.isEmpty)
  | _ => False
theorem RepAll.empty {K S M H} : ∀ {vs : List V} {ds : List D}, RepAll K S M H vs ds → vs.isEmpty = ds.isEmpty
  | _, _, .nil => rfl
  | _, _, .cons _ _ => rfl
theorem asTru_use {K S M H} {v : V} {d : D} {P : Bool → Prop} (r : Rep K S M H v d) (h : asTru P d) : ∃ k, TruV K v H k ∧ P k := by
  cases r with
  | non => exact ⟨false, rfl, h⟩
  | bl b => exact ⟨b, rfl, h⟩
  | int i => exact ⟨_, rfl, h⟩
  | str s => exact ⟨_, ⟨h.1, rfl⟩, h.2⟩
  | ty n => exact h.elim
  | @tup a vs ds ha r => exact ⟨!vs.isEmpty, .inr (.inl ⟨vs, ha.sq, rfl⟩), by rw [r.empty]; exact h⟩
  | @lst a vs ds ha r => exact ⟨!vs.isEmpty, .inl ⟨vs, ha.sq, rfl⟩, by rw [r.empty]; exact h⟩
  | src _ _ => exact h.elim
  | exc _ _ _ _ _ => exact h.elim
  | cls _ => exact h.elim
theorem tx_truth {e : Expr} (h : EX X e Γ (asTru P)) (he : ∀ whole, isTrue e X.env whole = (do let v ← whole; standAt e.pos; holding [v] (truthy v)) := by intro _; rfl) : TX X e Γ P :=
  tx_of (pt_truth pe_sem he) fun S B O H0 H σ st Q k => h S B O H0 H σ st _ fun v d H1 e1 r1 p1 =>
    let ⟨c, hc, pc⟩ := asTru_use r1 p1; ⟨c, hc, k c H1 e1 pc⟩
theorem tx_not {e : Expr} (h : TX X e Γ fun b => P (!b)) : TX X (.UnaryOp .Not e pos) Γ P :=
  tx_of (pt_not pt_sem) fun S B O H0 H σ st Q k => h S B O H0 H σ st _ fun b H1 e1 p1 => k _ H1 e1 p1
theorem tw_and1 {e : Expr} (h : TX X e Γ P) : TW X (.BoolOp .And [e] pos) Γ P := fun S B O H0 H σ st Q k => semW_of (pw_and1 pt_sem) (h S B O H0 H σ st Q k)
theorem tw_or1 {e : Expr} (h : TX X e Γ P) : TW X (.BoolOp .Or [e] pos) Γ P := fun S B O H0 H σ st Q k => semW_of (pw_or1 pt_sem) (h S B O H0 H σ st Q k)
theorem tw_and {e e2 : Expr} {es : List Expr} (h : TX X e Γ fun b => if b then TW X (.BoolOp .And (e2 :: es) pos) Γ P else P false) : TW X (.BoolOp .And (e :: e2 :: es) pos) Γ P :=
  fun S B O H0 H σ st Q k => semW_of (pw_and pt_sem pw_sem) (h S B O H0 H σ st _ fun b H1 e1 p1 => by
    cases b with
    | true => exact iteT (p1 S B O H0 H1 σ (st.to e1) Q (k.to e1))
    | false => exact iteF (k _ H1 e1 p1))
theorem tw_or {e e2 : Expr} {es : List Expr} (h : TX X e Γ fun b => if b then P true else TW X (.BoolOp .Or (e2 :: es) pos) Γ P) : TW X (.BoolOp .Or (e :: e2 :: es) pos) Γ P :=
  fun S B O H0 H σ st Q k => semW_of (pw_or pt_sem pw_sem) (h S B O H0 H σ st _ fun b H1 e1 p1 => by
    cases b with
    | true => exact iteT (k _ H1 e1 p1)
    | false => exact iteF (p1 S B O H0 H1 σ (st.to e1) Q (k.to e1)))
theorem tx_w {e : Expr} (h : TW X e Γ P) : TX X e Γ P := tx_of (PW.pt pw_sem) fun S B O H0 H σ st Q k => h S B O H0 H σ st Q k
end
/-! .. as values -/
theorem ex_one {op} {e : Expr} (h : EX X e Γ P) : EX X (.BoolOp op [e] pos) Γ P := ex_of (pe_one pe_sem) fun S B O H0 H σ st Q k => h S B O H0 H σ st Q k
theorem ex_and {e e2 : Expr} {es : List Expr} (h : EX X e Γ (asB fun b => if b then EX X (.BoolOp .And (e2 :: es) pos) Γ P else P (.bl false))) : EX X (.BoolOp .And (e :: e2 :: es) pos) Γ P :=
  ex_of (pe_and pe_sem pe_sem) fun S B O H0 H σ st Q k => h S B O H0 H σ st _ fun v d H1 e1 r1 p1 => by
    obtain ⟨b, rfl, rfl, p1⟩ := asB_use r1 p1
    refine ⟨b, rfl, ?_⟩
    cases b with
    | true => exact iteT (p1 S B O H0 H1 σ (st.to e1) Q (k.to e1))
    | false => exact iteF (k _ _ H1 e1 (.bl _) p1)
theorem ex_or {e e2 : Expr} {es : List Expr} (h : EX X e Γ (asB fun b => if b then P (.bl true) else EX X (.BoolOp .Or (e2 :: es) pos) Γ P)) : EX X (.BoolOp .Or (e :: e2 :: es) pos) Γ P :=
  ex_of (pe_or pe_sem pe_sem) fun S B O H0 H σ st Q k => h S B O H0 H σ st _ fun v d H1 e1 r1 p1 => by
    obtain ⟨b, rfl, rfl, p1⟩ := asB_use r1 p1
    refine ⟨b, rfl, ?_⟩
    cases b with
    | true => exact iteT (k _ _ H1 e1 (.bl _) p1)
    | false => exact iteF (p1 S B O H0 H1 σ (st.to e1) Q (k.to e1))
theorem ex_not {e : Expr} (h : EX X e Γ (asB fun b => P (.bl (!b)))) : EX X (.UnaryOp .Not e pos) Γ P :=
  ex_of (pe_not pe_sem) fun S B O H0 H σ st Q k => h S B O H0 H σ st _ fun v d H1 e1 r1 p1 => by
    obtain ⟨b, rfl, rfl, p1⟩ := asB_use r1 p1
    exact ⟨b, rfl, k _ _ H1 e1 (.bl _) p1⟩
theorem ex_ifExp {c a b : Expr} (h : TX X c Γ fun k => if k then EX X a Γ P else EX X b Γ P) : EX X (.IfExp c a b pos) Γ P :=
  ex_of (pe_ifExp pt_sem pe_sem pe_sem) fun S B O H0 H σ st Q k => h S B O H0 H σ st _ fun b H1 e1 p1 => by
    cases b with
    | true => exact iteT (p1 S B O H0 H1 σ (st.to e1) Q (k.to e1))
    | false => exact iteF (p1 S B O H0 H1 σ (st.to e1) Q (k.to e1))
def asI (P : Int → Prop) : D → Prop
  | .int k => P k
  | _ => False
theorem asI_use {K S M H} {v : V} {d : D} {P : Int → Prop} (r : Rep K S M H v d) (h : asI P d) : ∃ k, v = .int k ∧ d = .int k ∧ P k := by
  cases r <;> first | exact h.elim | exact ⟨_, rfl, rfl, h⟩
theorem ex_neg {e : Expr} (h : EX X e Γ (asI fun i => P (.int (-i)))) : EX X (.UnaryOp .USub e pos) Γ P :=
  ex_of (pe_un un_neg pe_sem) fun S B O H0 H σ st Q k => h S B O H0 H σ st _ fun v d H1 e1 r1 p1 => by
    obtain ⟨b, rfl, rfl, p1⟩ := asI_use r1 p1
    exact ⟨b, rfl, k _ _ H1 e1 (.int _) p1⟩
end
end G
set_option Elab.async false
set_option linter.all false
set_option maxRecDepth 100000
set_option maxHeartbeats 1000000
namespace G
open PySem PySem.Spec PyProof.Rows L2
/-! ### operators on data -/
section
variable {X : Cx}
def wI (C : Int → Int → Prop) (g : Int → Int → D) : W2 := fun a b P => match a, b with
  | .int i, .int j => C i j ∧ P (g i j)
  | _, _ => False
theorem opd_I {f : Value → Value → Sem Value} {C : Int → Int → Prop} {g : Int → Int → D} {gv : Int → Int → V} (ho : OpR X f (rI C gv)) (hg : ∀ S M H i j, Rep X.K S M H (gv i j) (g i j)) : OpD X f (wI C g) := by
  intro S B O H0 H σ Γ P x y a b st r1 r2 h
  cases r1 <;> try exact h.elim
  cases r2 <;> try exact h.elim
  exact ⟨_, ho, fun Q k => ⟨_, _, rfl, rfl, h.1, k _ _ H .refl (hg ..) h.2⟩⟩
theorem opd_I0 {f : Value → Value → Sem Value} {g : Int → Int → D} {gv : Int → Int → V} (ho : OpR X f (rI0 gv)) (hg : ∀ S M H i j, Rep X.K S M H (gv i j) (g i j)) : OpD X f (wI (fun _ _ => True) g) := by
  intro S B O H0 H σ Γ P x y a b st r1 r2 h
  cases r1 <;> try exact h.elim
  cases r2 <;> try exact h.elim
  exact ⟨_, ho, fun Q k => ⟨_, _, rfl, rfl, k _ _ H .refl (hg ..) h.2⟩⟩
def CBig (i j : Int) : Prop := i.natAbs < 2 ^ 100000 ∧ j.natAbs < 2 ^ 100000
def CDv (_ j : Int) : Prop := j ≠ 0 ∧ j.natAbs < 2 ^ 8000
abbrev wSub : W2 := wI (fun _ _ => True) fun i j => .int (i - j)
abbrev wMod : W2 := wI (fun _ j => j ≠ 0) fun i j => .int (i.fmod j)
abbrev wFdiv : W2 := wI CDv fun i j => .int (i.fdiv j)
abbrev wPow : W2 := wI CPow fun i j => .int (i ^ j.toNat)
abbrev wLt : W2 := wI (fun _ _ => True) fun i j => .bl (decide (i < j))
abbrev wLe : W2 := wI (fun _ _ => True) fun i j => .bl (decide (i ≤ j))
abbrev wGt : W2 := wI (fun _ _ => True) fun i j => .bl (decide (j < i))
abbrev wGe : W2 := wI (fun _ _ => True) fun i j => .bl (decide (j ≤ i))
theorem od_sub : OpD X (binaryOp .Sub) wSub := opd_I0 op_sub fun _ _ _ _ _ => .int _
theorem od_mod : OpD X (binaryOp .Mod) wMod := opd_I op_modN fun _ _ _ _ _ => .int _
theorem op_fdivG : OpR X (binaryOp .FloorDiv) (rI CDv fun i j => .int (i.fdiv j)) := opI fun i j _ _ _ _ _ hc q => by
  have h1 : j ≠ 0 := hc.1
  exact floordiv_int h1 q (.inl (PyProof.noPylong_of_log2 (Nat.lt_trans (PySem.Flt.log2_lt_of (by decide) hc.2) (by decide))))
theorem od_fdiv : OpD X (binaryOp .FloorDiv) wFdiv := opd_I op_fdivG fun _ _ _ _ _ => .int _
theorem od_pow : OpD X (binaryOp .Pow) wPow := opd_I op_pow fun _ _ _ _ _ => .int _
theorem od_lt : OpD X (compareOp .Lt) wLt := opd_I0 op_lt fun _ _ _ _ _ => .bl _
theorem od_le : OpD X (compareOp .LtE) wLe := opd_I0 op_le fun _ _ _ _ _ => .bl _
theorem od_gt : OpD X (compareOp .Gt) wGt := opd_I0 op_gt fun _ _ _ _ _ => .bl _
theorem od_ge : OpD X (compareOp .GtE) wGe := opd_I0 op_ge fun _ _ _ _ _ => .bl _
/-- + -/
def wAdd : W2 := fun a b P => match a, b with
  | .int i, .int j => P (.int (i + j))
  | .str s, .str t => s.length + t.length ≤ sizeLine ∧ P (.str (s ++ t))
  | .tup l, .tup m => l.length + m.length ≤ sizeLine ∧ P (.tup (l ++ m))
  | _, _ => False
theorem od_add : OpD X (binaryOp .Add) wAdd := by
  intro S B O H0 H σ Γ P x y a b st r1 r2 h
  cases r1 with
  | int i =>
    cases r2 <;> try exact h.elim
    exact ⟨_, op_add, fun Q k => ⟨_, _, rfl, rfl, k _ _ H .refl (.int _) h⟩⟩
  | str s =>
    cases r2 <;> try exact h.elim
    exact ⟨_, op_add_str, fun Q k => ⟨_, _, rfl, rfl, h.1, k _ _ H .refl (.str _) h.2⟩⟩
  | @tup a vs ds ha ra =>
    cases r2 <;> try exact h.elim
    rename_i b ws es hb rb
    refine ⟨_, op_catA, fun Q k => ⟨a, b, vs, ws, rfl, rfl, ha.sq, hb.sq, by rw [ra.length, rb.length]; exact h.1, fun e => ?_, fun _ e => ?_, fun _ _ p np => ?_⟩⟩
    · subst e
      cases ra
      exact k _ _ H .refl (.tup hb rb) h.2
    · subst e
      cases rb
      have h2 := h.2
      rw [List.append_nil] at h2
      exact k _ _ H .refl (.tup ha ra) h2
    · exact k _ _ _ (.new np) (rep_tup st (ra.append rb) np) h.2
  | _ => exact h.elim
/-- * of numbers -/
def wMul : W2 := wI CBig fun i j => .int (i * j)
theorem od_mul : OpD X (binaryOp .Mult) wMul := by
  intro S B O H0 H σ Γ P x y a b st r1 r2 h
  cases r1 <;> try exact h.elim
  cases r2 <;> try exact h.elim
  exact ⟨_, op_mulW, fun Q k => ⟨_, _, rfl, rfl, wide_mul h.1.1 h.1.2 (by decide) (by decide) (by decide), k _ _ H .refl (.int _) h.2⟩⟩
/-- == of plain values -/
def sEq : D → D → Option Bool
  | .non, .non => some true
  | .int i, .int j => some (decide (i = j))
  | .bl i, .bl j => some (decide (i = j))
  | .str i, .str j => some (decide (i = j))
  | .non, .int _ => some false | .int _, .non => some false | .non, .bl _ => some false | .bl _, .non => some false | .non, .str _ => some false | .str _, .non => some false
  | .int _, .str _ => some false | .str _, .int _ => some false | .bl _, .str _ => some false | .str _, .bl _ => some false
  | _, _ => none
def wEq : W2 := fun a b P => match sEq a b with
  | some k => P (.bl k)
  | none => False
def wNe : W2 := fun a b P => match sEq a b with
  | some k => P (.bl (!k))
  | none => False
theorem sEq_ok {K S M H x y a b k} (r1 : Rep K S M H x a) (r2 : Rep K S M H y b) (h : sEq a b = some k) : scal x y = true ∧ decide (x = y) = k := by
  cases r1 <;> cases r2 <;> simp_all [sEq, scal]
theorem od_eq : OpD X (compareOp .Eq) wEq := by
  intro S B O H0 H σ Γ P x y a b st r1 r2 h
  unfold wEq at h
  split at h
  · rename_i k hk
    obtain ⟨e1, e2⟩ := sEq_ok r1 r2 hk
    exact ⟨_, op_eq, fun Q kk => ⟨e1, by rw [e2]; exact kk _ _ H .refl (.bl _) h⟩⟩
  · exact h.elim
theorem od_ne : OpD X (compareOp .NotEq) wNe := by
  intro S B O H0 H σ Γ P x y a b st r1 r2 h
  unfold wNe at h
  split at h
  · rename_i k hk
    obtain ⟨e1, e2⟩ := sEq_ok r1 r2 hk
    exact ⟨_, op_ne, fun Q kk => ⟨e1, by rw [e2]; exact kk _ _ H .refl (.bl _) h⟩⟩
  · exact h.elim
/-- is None -/
def isNon : D → Bool
  | .non => true
  | _ => false
def wIs : W2 := fun a b P => match b with
  | .non => P (.bl (isNon a))
  | _ => False
def wIsNot : W2 := fun a b P => match b with
  | .non => P (.bl (!isNon a))
  | _ => False
theorem isNon_ok {K S M H x a} (r : Rep K S M H x a) : decide (x = .non) = isNon a := by cases r <;> simp [isNon]
theorem od_is : OpD X (compareOp .Is) wIs := by
  intro S B O H0 H σ Γ P x y a b st r1 r2 h
  cases r2 <;> try exact h.elim
  exact ⟨_, op_isN, fun Q k => ⟨rfl, by rw [isNon_ok r1]; exact k _ _ H .refl (.bl _) h⟩⟩
theorem od_isnot : OpD X (compareOp .IsNot) wIsNot := by
  intro S B O H0 H σ Γ P x y a b st r1 r2 h
  cases r2 <;> try exact h.elim
  exact ⟨_, op_notN, fun Q k => ⟨rfl, by rw [isNon_ok r1]; exact k _ _ H .refl (.bl _) h⟩⟩

/-! ### subscripts -/
def wIx : W2 := fun a b P => match a, b with
  | .lst l, .int k => ∃ d, atI l k = some d ∧ P d
  | .tup l, .int k => ∃ d, atI l k = some d ∧ P d
  | .str z, .int k => ∃ c, z.length ≤ sizeLine ∧ atI z.cps.toList k = some c ∧ P (.str ⟨#[c]⟩)
  | _, _ => False
theorem RepAll.atI {K S M H vs ds k d} (r : RepAll K S M H vs ds) (h : L2.atI ds k = some d) : ∃ v, L2.atI vs k = some v ∧ Rep K S M H v d := by
  unfold L2.atI at h ⊢
  rw [r.length]
  cases e : ixN ds.length k with
  | none => rw [e] at h; cases h
  | some j =>
    rw [e] at h
    exact r.get h
variable {Γ : List E} {P : D → Prop} {pos : Pos}
theorem ex_ix {a b : Expr} (h : EX X a Γ fun x => EX X b Γ fun y => wIx x y P) (hs : PlainIx b := by intro _ _; rfl) : EX X (.Subscript a b pos) Γ P :=
  ex_of (pe_ix ix_seq pe_sem pe_sem hs) fun S B O H0 H σ st Q k => h S B O H0 H σ st _ fun v d H1 e1 r1 p1 => p1 S B O H0 H1 σ (st.to e1) _ fun v2 d2 H2 e2 r2 p2 => by
    have r1' := r1.ext e2 (st.to e1).live st.m
    cases r1' with
    | @lst a vs ds ha ra =>
      cases r2 <;> try exact p2.elim
      obtain ⟨d, hd, p⟩ := p2
      obtain ⟨v, hv, rv⟩ := ra.atI hd
      exact .inl ⟨a, vs, _, v, rfl, rfl, ha.sq, hv, k _ _ H2 (e1.trans e2) rv p⟩
    | @tup a vs ds ha ra =>
      cases r2 <;> try exact p2.elim
      obtain ⟨d, hd, p⟩ := p2
      obtain ⟨v, hv, rv⟩ := ra.atI hd
      exact .inr (.inl ⟨a, vs, _, v, rfl, rfl, ha.sq, hv, k _ _ H2 (e1.trans e2) rv p⟩)
    | str z =>
      cases r2 <;> try exact p2.elim
      obtain ⟨c, hz, hc, p⟩ := p2
      exact .inr (.inr ⟨z, _, c, rfl, rfl, hz, hc, k _ _ H2 (e1.trans e2) (.str _) p⟩)
    | _ => exact p2.elim

/-! ### built-ins -/
abbrev WA := List D → (D → Prop) → Prop
def semC (X : Cx) (f : Value) : List V → Hp → VK → Prop := fun vs H Q => ∀ pins s σ us, Inv X pins σ H s → Vals vs us → wpAny (model X.prog X.w) X.A (call f us) (EP X pins σ Q) X.xe s
theorem cr_sem {f : Value} : CallR X f (semC X f) := fun pins s σ H vs us Q I r h => h pins s σ us I r
theorem semC_of {f : Value} {r : List V → Hp → VK → Prop} (h : CallR X f r) {vs : List V} {H : Hp} {Q : VK} (q : r vs H Q) : semC X f vs H Q := fun pins s σ us I rv => h pins s σ H vs us Q I rv q
def BiD (X : Cx) (f : Value) (w : WA) : Prop :=
  ∀ S B O H0 H σ Γ (P : D → Prop) vs ds, StOk X.K S B O H0 H σ Γ → RepAll X.K S (B ++ O) H vs ds → w ds P → ∃ r : List V → Hp → VK → Prop, CallR X f r ∧ ∀ Q, KE X.K S (B ++ O) H P Q → r vs H Q
theorem ex_bi {x : Str} {id : String} {w : WA} {p : Pos} {e : Expr} {es : List Expr} (hb : BiD X (.builtin id) w) (hm : X.mg x = none) (hg : Gl X x) (hv : bootBuiltins x = some (.builtin id)) (h : AX X (e :: es) Γ fun ds => w ds P)
    (hn : x ≠ "__name__" := by decide) (hdb : (x == ("__debug__" : Str)) = false := by decide)
    (he : starEach (e :: es) X.env = (false, eval e X.env) :: starEach es X.env := by rfl) (hpl : (backTo pos (starEach es X.env)).any (·.1) = false := by rfl) : EX X (.Call (.Name x p) (e :: es) [] pos) Γ P :=
  ex_of (pe_callB cr_sem hg hm hv pa_sem hn hdb he hpl) fun S B O H0 H σ st Q k => h S B O H0 H σ st _ fun vs ds H1 e1 r1 p1 => by
    obtain ⟨r, hr, hq⟩ := hb S B O H0 H1 σ Γ P vs ds (st.to e1) r1 p1
    exact semC_of hr (hq Q (k.to e1))
theorem ex_bt {x : Str} {T : String} {w : WA} {p : Pos} {e : Expr} {es : List Expr} (hb : BiD X (.type T) w) (hm : X.mg x = none) (hg : Gl X x) (hv : bootBuiltins x = some (.type T)) (h : AX X (e :: es) Γ fun ds => w ds P)
    (hn : x ≠ "__name__" := by decide) (hdb : (x == ("__debug__" : Str)) = false := by decide)
    (he : starEach (e :: es) X.env = (false, eval e X.env) :: starEach es X.env := by rfl) (hpl : (backTo pos (starEach es X.env)).any (·.1) = false := by rfl) : EX X (.Call (.Name x p) (e :: es) [] pos) Γ P :=
  ex_of (pe_callTy cr_sem hg hm hv pa_sem hn hdb he hpl) fun S B O H0 H σ st Q k => h S B O H0 H σ st _ fun vs ds H1 e1 r1 p1 => by
    obtain ⟨r, hr, hq⟩ := hb S B O H0 H1 σ Γ P vs ds (st.to e1) r1 p1
    exact semC_of hr (hq Q (k.to e1))
theorem ex_bf {x : Str} {id : String} {w : WA} {p : Pos} {e : Expr} {es : List Expr} (hb : BiD X (.builtin id) w) (hm : X.mg x = some (.builtin id)) (hg : Gl X x) (h : AX X (e :: es) Γ fun ds => w ds P)
    (hdb : (x == ("__debug__" : Str)) = false := by decide)
    (he : starEach (e :: es) X.env = (false, eval e X.env) :: starEach es X.env := by rfl) (hpl : (backTo pos (starEach es X.env)).any (·.1) = false := by rfl) : EX X (.Call (.Name x p) (e :: es) [] pos) Γ P :=
  ex_of (pe_callBfun cr_sem hg hm pa_sem hdb he hpl) fun S B O H0 H σ st Q k => h S B O H0 H σ st _ fun vs ds H1 e1 r1 p1 => by
    obtain ⟨r, hr, hq⟩ := hb S B O H0 H1 σ Γ P vs ds (st.to e1) r1 p1
    exact semC_of hr (hq Q (k.to e1))
def wLen : WA := fun ds P => match ds with
  | [.lst l] => P (.int l.length)
  | [.tup l] => P (.int l.length)
  | [.str z] => z.length ≤ sizeLine ∧ P (.int z.length)
  | _ => False
theorem RepAll.one {K S M H vs d} (r : RepAll K S M H vs [d]) : ∃ v, vs = [v] ∧ Rep K S M H v d := by
  cases r with
  | cons h t => cases t; exact ⟨_, rfl, h⟩
theorem RepAll.two {K S M H vs d d2} (r : RepAll K S M H vs [d, d2]) : ∃ v v2, vs = [v, v2] ∧ Rep K S M H v d ∧ Rep K S M H v2 d2 := by
  cases r with
  | cons h t =>
    obtain ⟨w, rfl, r⟩ := t.one
    exact ⟨_, _, rfl, h, r⟩
theorem bi_len : BiD X (.builtin "len") wLen := by
  intro S B O H0 H σ Γ P vs ds st r h
  match ds, r, h with
  | [.lst l], r, h =>
    obtain ⟨v, rfl, r1⟩ := r.one
    cases r1 with
    | @lst a vs _ ha ra => exact ⟨_, call_len, fun Q k => ⟨_, vs.length, rfl, .inl ⟨vs, ha.sq, rfl⟩, by rw [ra.length]; exact k _ _ H .refl (.int _) h⟩⟩
  | [.tup l], r, h =>
    obtain ⟨v, rfl, r1⟩ := r.one
    cases r1 with
    | @tup a vs _ ha ra => exact ⟨_, call_len, fun Q k => ⟨_, vs.length, rfl, .inr ⟨vs, ha.sq, rfl⟩, by rw [ra.length]; exact k _ _ H .refl (.int _) h⟩⟩
  | [.str z], r, h =>
    obtain ⟨v, rfl, r1⟩ := r.one
    cases r1 with
    | str _ => exact ⟨_, call_len, fun Q k => ⟨_, z.length, rfl, ⟨h.1, rfl⟩, k _ _ H .refl (.int _) h.2⟩⟩
def wAbs : WA := fun ds P => match ds with
  | [.int i] => P (.int (if i < 0 then -i else i))
  | _ => False
theorem bi_abs : BiD X (.builtin "abs") wAbs := by
  intro S B O H0 H σ Γ P vs ds st r h
  match ds, r, h with
  | [.int l], r, h =>
    obtain ⟨v, rfl, r1⟩ := r.one
    cases r1
    exact ⟨_, call_abs, fun Q k => ⟨_, rfl, k _ _ H .refl (.int _) h⟩⟩
def wInt : WA := fun ds P => match ds with
  | [.int i] => P (.int i)
  | _ => False
theorem bi_int : BiD X (.type "int") wInt := by
  intro S B O H0 H σ Γ P vs ds st r h
  match ds, r, h with
  | [.int l], r, h =>
    obtain ⟨v, rfl, r1⟩ := r.one
    cases r1
    exact ⟨_, call_int1, fun Q k => .inl ⟨_, rfl, k _ _ H .refl (.int _) h⟩⟩
def wStr : WA := fun ds P => match ds with
  | [.int i] => i.natAbs.log2 < 1920 ∧ P (.str (toString i))
  | _ => False
theorem bi_str : BiD X (.type "str") wStr := by
  intro S B O H0 H σ Γ P vs ds st r h
  match ds, r, h with
  | [.int l], r, h =>
    obtain ⟨v, rfl, r1⟩ := r.one
    cases r1
    exact ⟨_, call_str_int, fun Q k => ⟨_, rfl, h.1, k _ _ H .refl (.str _) h.2⟩⟩
def wList : WA := fun ds P => match ds with
  | [.lst l] => P (.lst l)
  | [.tup l] => P (.lst l)
  | _ => False
theorem bi_list : BiD X (.type "list") wList := by
  intro S B O H0 H σ Γ P vs ds st r h
  match ds, r, h with
  | [.lst l], r, h =>
    obtain ⟨v, rfl, r1⟩ := r.one
    cases r1 with
    | @lst a vs _ ha ra => exact ⟨_, call_list_of, fun Q k => ⟨a, vs, rfl, .inl ha.sq, fun p np => k _ _ _ (.new np) (rep_lst st ra np) h⟩⟩
  | [.tup l], r, h =>
    obtain ⟨v, rfl, r1⟩ := r.one
    cases r1 with
    | @tup a vs _ ha ra => exact ⟨_, call_list_of, fun Q k => ⟨a, vs, rfl, .inr ha.sq, fun p np => k _ _ _ (.new np) (rep_lst st ra np) h⟩⟩
def wTuple : WA := fun ds P => match ds with
  | [.lst l] => P (.tup l)
  | [.tup l] => P (.tup l)
  | _ => False
theorem bi_tuple : BiD X (.type "tuple") wTuple := by
  intro S B O H0 H σ Γ P vs ds st r h
  match ds, r, h with
  | [.lst l], r, h =>
    obtain ⟨v, rfl, r1⟩ := r.one
    cases r1 with
    | @lst a vs _ ha ra => exact ⟨_, call_tuple_of, fun Q k => ⟨a, vs, rfl, .inl ⟨ha.sq, fun p np => k _ _ _ (.new np) (rep_tup st ra np) h⟩⟩⟩
  | [.tup l], r, h =>
    obtain ⟨v, rfl, r1⟩ := r.one
    cases r1 with
    | @tup a vs _ ha ra => exact ⟨_, call_tuple_of, fun Q k => ⟨a, vs, rfl, .inr ⟨ha.sq, k _ _ H .refl (.tup ha ra) h⟩⟩⟩
def wAll : WA := fun ds P => match ds with
  | [.lst l] => ∃ bs : List Bool, l = bs.map D.bl ∧ P (.bl (bs.all id))
  | _ => False
theorem bi_all (hc : X.calm = true) : BiD X (.builtin "all") wAll := by
  intro S B O H0 H σ Γ P vs ds st r h
  match ds, r, h with
  | [.lst l], r, h =>
    obtain ⟨v, rfl, r1⟩ := r.one
    obtain ⟨bs, rfl, h⟩ := h
    cases r1 with
    | @lst a vs _ ha ra =>
      have e := ra.bls
      subst e
      exact ⟨_, cr_all hc, fun Q k => ⟨a, bs, rfl, ha.sq, k _ _ H .refl (.bl _) h⟩⟩
def wGcd : WA := fun ds P => match ds with
  | [.int i, .int j] => P (.int ((Nat.gcd i.natAbs j.natAbs : Nat) : Int))
  | _ => False
theorem bi_gcd : BiD X (.builtin "math.gcd") wGcd := by
  intro S B O H0 H σ Γ P vs ds st r h
  match ds, r, h with
  | [.int l, .int m], r, h =>
    obtain ⟨v, w, rfl, r1, r2⟩ := r.two
    cases r1
    cases r2
    exact ⟨_, cr_gcd, fun Q k => ⟨_, _, rfl, k _ _ H .refl (.int _) h⟩⟩
/-- isinstance of plain data -/
def tyD : D → Option String
  | .non => some "NoneType" | .bl _ => some "bool" | .int _ => some "int" | .str _ => some "str" | .tup _ => some "tuple" | .lst _ => some "list" | .src => some "list"
  | _ => none
theorem tyX_of {K S M H x d t} (r : Rep K S M H x d) (h : tyD d = some t) : TyX K H x (.type t) := by
  cases r with
  | non => cases h; exact .base .non
  | bl b => cases h; exact .base (.bl b)
  | int i => cases h; exact .base (.int i)
  | str i => cases h; exact .base (.str i)
  | ty n => cases h
  | @tup a vs ds ha ra =>
    cases h
    rcases ha with ⟨_, ha | ⟨o, ha⟩⟩ | ⟨o, its, n, h1, h2, h3⟩
    · exact .base (.tup ha)
    · exact .fTuple ha
    · exact .kTuple h1 h2
  | @lst a vs ds ha ra =>
    cases h
    rcases ha with ⟨_, ha | ⟨o, ha⟩⟩ | ⟨o, its, n, h1, h2, h3⟩
    · exact .base (.lst ha)
    · exact .base (.frz ha)
    · exact .kList h1 h2
  | src hs m =>
    cases h
    obtain ⟨i, c, s, t, ns, h1, _⟩ := hs
    exact .base (.lst h1)
  | exc _ _ _ _ _ => cases h
  | cls C => cases h
def wIsi : WA := fun ds P => match ds with
  | [d, .ty n] => ∃ t b, tyD d = some t ∧ kitB t n = some b ∧ P (.bl b)
  | _ => False
theorem bi_isi : BiD X (.builtin "isinstance") wIsi := by
  intro S B O H0 H σ Γ P vs ds st r h
  match ds, r, h with
  | [d, .ty n], r, h =>
    obtain ⟨v, w, rfl, r1, r2⟩ := r.two
    cases r2
    obtain ⟨t, b, h1, h2, h⟩ := h
    exact ⟨_, call_isi, fun Q k => ⟨v, _, _, _, b, rfl, .ty n, tyX_of r1 h1, kit_ty h2, k _ _ H .refl (.bl b) h⟩⟩
/-- isinstance(x, (T1, T2)) -/
theorem ex_isi2 {x : Str} {p p2 : Pos} {j} {a b c : Expr} (hm : X.mg x = none) (hg : Gl X x) (hv : bootBuiltins x = some (.builtin "isinstance"))
    (h : EX X a Γ fun d => EX X b Γ fun t1 => EX X c Γ fun t2 => ∃ n1 n2 t k1 k2, t1 = .ty n1 ∧ t2 = .ty n2 ∧ tyD d = some t ∧ kitB t n1 = some k1 ∧ kitB t n2 = some k2 ∧ P (.bl (k1 || k2)))
    (hn : x ≠ "__name__" := by decide) (hdb : (x == ("__debug__" : Str)) = false := by decide)
    (hs : starEach [a, .Tuple [b, c] j p2] X.env = (false, eval a X.env) :: starEach [.Tuple [b, c] j p2] X.env := by rfl) (hs1 : starEach [.Tuple [b, c] j p2] X.env = [(false, eval (.Tuple [b, c] j p2) X.env)] := by rfl)
    (hs2 : starEach [b, c] X.env = (false, eval b X.env) :: starEach [c] X.env := by rfl) (hs3 : starEach [c] X.env = (false, eval c X.env) :: starEach [] X.env := by rfl)
    (hs4 : starEach [.Tuple [b, c] j p2] X.env = (false, eval (.Tuple [b, c] j p2) X.env) :: starEach [] X.env := by rfl) (hpl : (backTo pos (starEach [.Tuple [b, c] j p2] X.env)).any (·.1) = false := by rfl) : EX X (.Call (.Name x p) [a, .Tuple [b, c] j p2] [] pos) Γ P :=
  ex_of (pe_callB call_isiT hg hm hv (pa_cons pe_sem (pa_cons (pe_tup (pa_cons pe_sem (pa_cons pe_sem pa_nil hs3) hs2)) pa_nil hs4) hs) hn hdb hs hpl) fun S B O H0 H σ st Q k => h S B O H0 H σ st _ fun v d H1 e1 r1 p1 => p1 S B O H0 H1 σ (st.to e1) _ fun v2 d2 H2 e2 r2 p2 => p2 S B O H0 H2 σ (st.to (e1.trans e2)) _ fun v3 d3 H3 e3 r3 p3 => by
    obtain ⟨n1, n2, t, k1, k2, rfl, rfl, ht, h1, h2, p⟩ := p3
    cases r2
    cases r3
    have st3 := st.to (e1.trans (e2.trans e3))
    refine ⟨small (n := 2) (by decide), fun q nq => ?_⟩
    refine ⟨v, q, [.ty n1, .ty n2], _, [.type n1, .type n2], (k1 || k2), rfl, upd_same, .cons (.ty n1) (.cons (.ty n2) .nil), tyX_of ((r1.ext (e2.trans e3) (st.to e1).live st.m).ext (.new nq) st3.live st.m) ht, ?_, k _ _ _ (e1.trans (e2.trans (e3.trans (.new nq)))) (.bl _) p⟩
    refine kitAny_cons (kit_ty h1) (fun e => ?_) fun e => by rw [e]; rfl
    rw [e, Bool.false_or]
    exact kitAny_cons (kit_ty h2) (fun e => by rw [e]; exact kitAny_nil) fun e => e
end
end G
set_option Elab.async false
set_option linter.all false
set_option maxRecDepth 100000
set_option maxHeartbeats 1000000
namespace G
open PySem PySem.Spec PyProof.Rows L2
/-! ### defs -/
/-- called with data ds the def gives a datum as W says; all that stood stays, but the source may turn -/
def spW (K : PySem.W.Frag) (W : WA) (n : Nat) : Sp := fun vs H Q _ => vs.length = n ∧ ∃ S B ds P, S.a ∈ B ∧ Live S H ∧ (∀ m ∈ B, ∃ o, H m = some o) ∧ RepAll K S B H vs ds ∧ W ds P ∧ ∀ v d H', Ext K S H H' → Rep K S B H' v d → P d → Q v H'
theorem StOk.bo {K S B O H0 H σ Γ} (st : StOk K S B O H0 H σ Γ) : ∀ m ∈ B ++ O, ∃ o, H m = some o := fun m hm => by
  cases e : H m with
  | some o => exact ⟨o, rfl⟩
  | none => exact absurd hm (st.free e)
structure CallOk (X : Cx) (x : Str) (W : WA) : Prop where
  ex : ∃ k f fd ps n W0 dvs dds us, FnOk X.prog X.w X.K X.mg X.base CX0 k f fd ps (spW X.K W0 n) ∧ Room k X.A ∧ X.mg x = some (.ref f) ∧ PySem.W.keepIn X.K (.ref f) = true ∧ Binds X.K fd ps us ∧ Vals dvs us ∧
    (∀ S M H, RepAll X.K S M H dvs dds) ∧ ∀ es P, W es P → (es ++ dds).length = n ∧ W0 (es ++ dds) P
section
variable {X : Cx} {Γ : List E} {P : D → Prop} {pos : Pos}
theorem ex_call {x : Str} {W : WA} {p : Pos} {e : Expr} {es : List Expr} (c : CallOk X x W) (hg : Gl X x) (h : AX X (e :: es) Γ fun ds => W ds P) (hdb : (x == ("__debug__" : Str)) = false := by decide)
    (he : starEach (e :: es) X.env = (false, eval e X.env) :: starEach es X.env := by rfl) (hpl : (backTo pos (starEach es X.env)).any (·.1) = false := by rfl) : EX X (.Call (.Name x p) (e :: es) [] pos) Γ P := by
  obtain ⟨k, f, fd, ps, n, W0, dvs, dds, us, F, hr, hm, hk, hb, hd, hdd, hW⟩ := c.ex
  refine ex_of (pe_call F hr hg hm hk hb hd pass0 pa_sem hdb he hpl) fun S B O H0 H σ st Q k => h S B O H0 H σ st _ fun vs ds H1 e1 r1 p1 => ?_
  obtain ⟨h1, h2⟩ := hW _ _ p1
  have st1 := st.to e1
  have r2 := r1.append (hdd S (B ++ O) H1)
  exact ⟨by rw [r2.length]; exact h1, S, B ++ O, ds ++ dds, P, st.m, st1.live, st1.bo, r2, h2, fun v d H' e r p => k v d H' (e1.trans e) r p⟩
/-- a call by keywords -/
structure CallOkK (X : Cx) (x : Str) (np : Nat) (ks : List Str) (W : List D → WA) : Prop where
  ex : ∃ (k : Nat) (f : Addr) (fd : FuncData) (ps : List Str) (n : Nat) (W0 : WA) (g : List Value → List Value → List Value) (gV : List V → List V → List V) (gD : List D → List D → List D), FnOk X.prog X.w X.K X.mg X.base CX0 k f fd ps (spW X.K W0 n) ∧ Room k X.A ∧ X.mg x = some (.ref f) ∧ PySem.W.keepIn X.K (.ref f) = true ∧ KBn X.K fd ps np ks g gV ∧
    (∀ S M H vs zs ds es, RepAll X.K S M H vs ds → RepAll X.K S M H zs es → ds.length = np → es.length = ks.length → RepAll X.K S M H (gV vs zs) (gD ds es)) ∧ ∀ ds es P, W ds es P → ds.length = np ∧ es.length = ks.length ∧ (gD ds es).length = n ∧ W0 (gD ds es) P
theorem pe_callK0 {CX : CXT} {k : Nat} {f : Addr} {fd : FuncData} {ps ks : List Str} {sp : Sp} {Ex : XK} {x : Str} {p : Pos} {kws : List Keyword} {tk : TA} {g gV}
    (F : FnOk X.prog X.w X.K X.mg X.base CX k f fd ps sp) (hr : Room k X.A) (hg : Gl X x) (hm : X.mg x = some (.ref f)) (hk : PySem.W.keepIn X.K (.ref f) = true) (hb : KBn X.K fd ps 0 ks g gV) (hx : Passes CX X Ex) (hkw : PK X kws tk)
    (hall : (backToKw pos (keywordEach kws X.env)).all (·.1.isSome) = true := by rfl) (hks : (backToKw pos (keywordEach kws X.env)).filterMap (·.1) = ks := by rfl) (hdb : (x == ("__debug__" : Str)) = false := by decide)
    (hpl : ((backTo pos (starEach [] X.env)).any (·.1) || (backToKw pos (keywordEach kws X.env)).any (·.1.isNone)) = false := by rfl) :
    PE X (.Call (.Name x p) [] kws pos) (tCallN 0 ks.length sp gV Ex tNil tk) := by
  refine ⟨fun pins s σ H Q I h => ?_⟩
  refine wpAny_Call_Name_kw (ld_glob I hg hm ?_ hdb)
  refine PySem.W.callWith_KW0 (h₀ := X.base) I.ok.mod.kin hk hall ?_ hpl
  refine thn (hkw.run pos pins s σ H _ I h) fun ws s2 ⟨zs, H2, I2, rz, l1, l2, q2⟩ => ⟨I2.kIn, ?_⟩
  rw [hks]
  exact run_fnN (us := []) (vs := []) F hr hb hx I2 .nil rz rfl l2 q2
theorem ex_callK0 {x : Str} {ks : List Str} {W : List D → WA} {p : Pos} {kws : List Keyword} (c : CallOkK X x 0 ks W) (hg : Gl X x) (h : KX X kws Γ fun es => W [] es P)
    (hall : (backToKw pos (keywordEach kws X.env)).all (·.1.isSome) = true := by rfl) (hks : (backToKw pos (keywordEach kws X.env)).filterMap (·.1) = ks := by rfl) (hdb : (x == ("__debug__" : Str)) = false := by decide)
    (hpl : ((backTo pos (starEach [] X.env)).any (·.1) || (backToKw pos (keywordEach kws X.env)).any (·.1.isNone)) = false := by rfl) : EX X (.Call (.Name x p) [] kws pos) Γ P := by
  obtain ⟨k, f, fd, ps, n, W0, g, gV, gD, F, hr, hm, hk, hb, hrel, hW⟩ := c.ex
  refine ex_of (pe_callK0 F hr hg hm hk hb pass0 pk_sem hall hks hdb hpl) fun S B O H0 H σ st Q k => h S B O H0 H σ st _ fun zs es H1 e1 r1 p1 => ?_
  obtain ⟨h0, h1, h2, h3⟩ := hW _ _ _ p1
  have st1 := st.to e1
  have r2 := hrel S (B ++ O) H1 [] zs [] es .nil r1 h0 h1
  exact ⟨rfl, by rw [r1.length]; exact h1, by rw [r2.length]; exact h2, S, B ++ O, _, P, st.m, st1.live, st1.bo, r2, h3, fun v d H' e r p => k v d H' (e1.trans e) r p⟩
theorem ex_callK {x : Str} {np : Nat} {ks : List Str} {W : List D → WA} {p : Pos} {e : Expr} {es : List Expr} {kws : List Keyword} (c : CallOkK X x np ks W) (hg : Gl X x) (h : AX X (e :: es) Γ fun ds => KX X kws Γ fun zs => W ds zs P)
    (hall : (backToKw pos (keywordEach kws X.env)).all (·.1.isSome) = true := by rfl) (hks : (backToKw pos (keywordEach kws X.env)).filterMap (·.1) = ks := by rfl) (hdb : (x == ("__debug__" : Str)) = false := by decide)
    (he : starEach (e :: es) X.env = (false, eval e X.env) :: starEach es X.env := by rfl)
    (hpl : ((backTo pos (starEach (e :: es) X.env)).any (·.1) || (backToKw pos (keywordEach kws X.env)).any (·.1.isNone)) = false := by rfl) : EX X (.Call (.Name x p) (e :: es) kws pos) Γ P := by
  obtain ⟨k, f, fd, ps, n, W0, g, gV, gD, F, hr, hm, hk, hb, hrel, hW⟩ := c.ex
  refine ex_of (pe_callN F hr hg hm hk hb pass0 pa_sem pk_sem hall hks hdb he hpl) fun S B O H0 H σ st Q k => h S B O H0 H σ st _ fun vs ds H1 e1 r1 p1 => p1 S B O H0 H1 σ (st.to e1) _ fun zs es H2 e2 r2 p2 => ?_
  obtain ⟨h0, h1, h2, h3⟩ := hW _ _ _ p2
  have st2 := st.to (e1.trans e2)
  have r1' := r1.ext e2 (st.to e1).live st.m
  have r3 := hrel S (B ++ O) H2 vs zs ds es r1' r2 h0 h1
  exact ⟨by rw [r1.length]; exact h0, by rw [r2.length]; exact h1, by rw [r3.length]; exact h2, S, B ++ O, _, P, st.m, st2.live, st2.bo, r3, h3, fun v d H' e r p => k v d H' (e1.trans (e2.trans e)) r p⟩

/-! ### statements -/
structure Po where
  nx : List E → Prop
  rt : D → Prop
  bk : List E → Prop := fun _ => False
  ct : List E → Prop := fun _ => False
/-- what stood stays but for B and O; the lists made since are new -/
structure Adv (K : PySem.W.Frag) (S : Sr) (B O : List Addr) (H : Hp) (O' : List Addr) (H' : Hp) : Prop where
  src : SrcOk K S H → SrcOk K S H'
  keep : ∀ b o, b ∉ B ++ O → H b = some o → H' b = some o
  new : ∀ m ∈ O', m ∉ O → H m = none
  out : ∀ m ∈ O', m ∉ B
theorem Adv.refl {K S B O H} (h : ∀ m ∈ O, m ∉ B) : Adv K S B O H O H := ⟨id, fun _ _ _ h => h, fun m a b => absurd a b, h⟩
theorem Adv.trans {K S B O H O1 H1 O2 H2} (a : Adv K S B O H O1 H1) (b : Adv K S B O1 H1 O2 H2) : Adv K S B O H O2 H2 where
  src := fun h => b.src (a.src h)
  keep := fun c o n h => b.keep c o (fun q => (List.mem_append.mp q).elim (fun q => n (List.mem_append_left _ q)) fun q => by
    by_cases hc : c ∈ O
    · exact n (List.mem_append_right _ hc)
    · rw [a.new c q hc] at h; cases h) (a.keep c o n h)
  new := fun m h n => by
    by_cases h1 : m ∈ O1
    · exact a.new m h1 n
    · cases e : H m with
      | none => rfl
      | some o =>
        have := a.keep m o (fun q => (List.mem_append.mp q).elim (b.out m h) n) e
        rw [b.new m h h1] at this
        cases this
  out := b.out
theorem StOk.adv {K S B O H0 H σ Γ H'} (st : StOk K S B O H0 H σ Γ) (e : Ext K S H H') : Adv K S B O H O H' :=
  ⟨e.src st.live, fun b o n h => e.keep b o (fun q => n (List.mem_append_left _ (q ▸ st.mem))) h, fun m a b => absurd a b, st.out⟩
structure EndsK (K : PySem.W.Frag) (S : Sr) (B O : List Addr) (H0 H : Hp) (po : Po) (Dn : Ends) : Prop where
  nx : ∀ O' H' σ Γ, StOk K S B O' H0 H' σ Γ → Adv K S B O H O' H' → po.nx Γ → Dn.nx σ H'
  rt : ∀ v d H, Ext K S H0 H → Rep K S B H v d → po.rt d → Dn.rt v H
  bk : ∀ O' H' σ Γ, StOk K S B O' H0 H' σ Γ → Adv K S B O H O' H' → po.bk Γ → Dn.bk σ H'
  ct : ∀ O' H' σ Γ, StOk K S B O' H0 H' σ Γ → Adv K S B O H O' H' → po.ct Γ → Dn.ct σ H'
theorem EndsK.to {K S B O H0 H po Dn O1 H1} (k : EndsK K S B O H0 H po Dn) (a : Adv K S B O H O1 H1) : EndsK K S B O1 H0 H1 po Dn :=
  ⟨fun O' H' σ Γ st b p => k.nx O' H' σ Γ st (a.trans b) p, k.rt, fun O' H' σ Γ st b p => k.bk O' H' σ Γ st (a.trans b) p, fun O' H' σ Γ st b p => k.ct O' H' σ Γ st (a.trans b) p⟩
def S1 (X : Cx) (st : Stmt) (Γ : List E) (po : Po) : Prop := ∀ S B O H0 H σ, StOk X.K S B O H0 H σ Γ → ∀ Dn, EndsK X.K S B O H0 H po Dn → semS X st Dn σ H
def SX (X : Cx) (st : List Stmt) (Γ : List E) (po : Po) : Prop := ∀ S B O H0 H σ, StOk X.K S B O H0 H σ Γ → ∀ Dn, EndsK X.K S B O H0 H po Dn → semSs X st Dn σ H
variable {po : Po}
theorem sx_nil (h : po.nx Γ) : SX X [] Γ po := fun S B O H0 H σ st Dn k => semSs_of pss_nil (k.nx O H σ Γ st (.refl st.out) h)
theorem sx_cons {s : Stmt} {ss : List Stmt} (h : S1 X s Γ { po with nx := fun Γ' => SX X ss Γ' po }) : SX X (s :: ss) Γ po :=
  fun S B O H0 H σ st Dn k => semSs_of (pss_cons ps_sem pss_sem) (h S B O H0 H σ st _ ⟨fun O' H' σ' Γ' st' a p => p S B O' H0 H' σ' st' Dn (k.to a), k.rt, k.bk, k.ct⟩)
theorem sx_one {s : Stmt} (h : S1 X s Γ po) : SX X [s] Γ po :=
  fun S B O H0 H σ st Dn k => semSs_of (pss_one ps_sem) (h S B O H0 H σ st _ k)
theorem rep_out {K S B O H0 H σ Γ v d} (st : StOk K S B O H0 H σ Γ) (r : Rep K S (B ++ O) H v d) : Rep K S B H v d := r.less (fun _ => List.mem_append_left _) st.mem
theorem s_ret {e : Expr} (h : EX X e Γ po.rt) : S1 X (.Return (some e) pos) Γ po :=
  fun S B O H0 H σ st Dn k => semS_of (ps_ret pe_sem) (h S B O H0 H σ st _ fun v d H1 e1 r1 p1 => k.rt v d H1 (st.ext.trans e1) (rep_out (st.to e1) r1) p1)
theorem s_retN (h : po.rt .non) : S1 X (.Return none pos) Γ po :=
  fun S B O H0 H σ st Dn k => semS_of ps_retN (k.rt .non .non H st.ext .non h)
theorem s_if {c : Expr} {a b : List Stmt} (h : TX X c Γ fun k => if k then SX X a Γ po else SX X b Γ po) : S1 X (.If c a b pos) Γ po :=
  fun S B O H0 H σ st Dn k => semS_of (ps_if pt_sem pss_sem pss_sem) (h S B O H0 H σ st _ fun b H1 e1 p1 => by
    cases b with
    | true => exact iteT (p1 S B O H0 H1 σ (st.to e1) Dn (k.to (st.adv e1)))
    | false => exact iteF (p1 S B O H0 H1 σ (st.to e1) Dn (k.to (st.adv e1))))
theorem s_pass (h : po.nx Γ) : S1 X (.Pass pos) Γ po := fun S B O H0 H σ st Dn k => semS_of ps_pass (k.nx O H σ Γ st (.refl st.out) h)
theorem s_break (h : po.bk Γ) : S1 X (.Break pos) Γ po := fun S B O H0 H σ st Dn k => semS_of ps_break (k.bk O H σ Γ st (.refl st.out) h)
theorem s_cont (h : po.ct Γ) : S1 X (.Continue pos) Γ po := fun S B O H0 H σ st Dn k => semS_of ps_continue (k.ct O H σ Γ st (.refl st.out) h)
theorem s_set (i : Nat) {N : List Str} {x : Str} {e : Expr} {pos' : Pos} (hX : X.N = N) (hnd : N.Nodup) (hN : nth N i = some x) (hx : Loc X.env.scope x) (h : EX X e Γ fun d => po.nx (put Γ i (.is d)))
    (hs : swapsWith e (some (.Name x pos')) pos.line X.env = pure false := by rfl) (hf : X.fn x = true ∨ X.env.scope.names.lookup x = some .local := by first | exact .inl rfl | exact .inr rfl | assumption) : S1 X (.Assign [.Name x pos'] e pos) Γ po := by
  rw [nth_eq] at hN
  exact fun S B O H0 H σ st Dn k => semS_of (ps_set (i := i) (by rw [hX]; exact hnd) (by rw [hX]; exact hN) hx pe_sem hs hf) (h S B O H0 H σ st _ fun v d H1 e1 r1 p1 => k.nx O H1 _ _ (by rw [put_eq]; exact (st.to e1).set i r1) (st.adv e1) p1)
/-- x, y = a, b -/
theorem s_par (i j : Nat) {N : List Str} {x y : Str} {a b : Expr} {px py pt : Pos} {kt k2 pt2} (hX : X.N = N) (hnd : N.Nodup) (hc : X.calm = true) (hN : nth N i = some x) (hM : nth N j = some y) (hij : i ≠ j) (hx : X.env.scope.names.lookup x = some .local) (hy : X.env.scope.names.lookup y = some .local)
    (hw : swappedStores [.Tuple [.Name x px, .Name y py] kt pt] (.Tuple [a, b] k2 pt2) X.env = pure (some [x, y])) (h : EX X a Γ fun d => EX X b Γ fun d2 => po.nx (put (put Γ i (.is d)) j (.is d2)))
    (hs : swapsWithSole [.Tuple [.Name x px, .Name y py] kt pt] (.Tuple [a, b] k2 pt2) pos.line X.env = pure false := by rfl)
    (hs2 : starEach [a, b] X.env = (false, eval a X.env) :: starEach [b] X.env := by rfl) (hs3 : starEach [b] X.env = (false, eval b X.env) :: starEach [] X.env := by rfl) :
    S1 X (.Assign [.Tuple [.Name x px, .Name y py] kt pt] (.Tuple [a, b] k2 pt2) pos) Γ po := by
  rw [nth_eq] at hN hM
  exact fun S B O H0 H σ st Dn k => semS_of (ps_par (i := i) (j := j) hc (by rw [hX]; exact hnd) (by rw [hX]; exact hN) (by rw [hX]; exact hM) hij hx hy (pa_cons pe_sem (pa_cons pe_sem pa_nil hs3) hs2) hw hs)
    (h S B O H0 H σ st _ fun v d H1 e1 r1 p1 => p1 S B O H0 H1 σ (st.to e1) _ fun v2 d2 H2 e2 r2 p2 =>
      ⟨v, v2, rfl, k.nx O H2 _ _ (by rw [put_eq, put_eq]; exact ((st.to (e1.trans e2)).set i (r1.ext e2 (st.to e1).live st.m)).set j r2) (st.adv (e1.trans e2)) p2⟩)
theorem s_expr {e : Expr} (h : EX X e Γ fun _ => po.nx Γ) (hs : swapsWith e none pos.line X.env = pure false := by rfl) : S1 X (.Expr e pos) Γ po :=
  fun S B O H0 H σ st Dn k => semS_of (ps_expr pe_sem hs) (h S B O H0 H σ st _ fun v d H1 e1 r1 p1 => k.nx O H1 σ Γ (st.to e1) (st.adv e1) p1)
/-- while: I by a measure -/
theorem s_while {c : Expr} {body : List Stmt} (hp : PassesOwn (model X.prog X.w) X.A X.env X.xe) (I : Nat → List E → Prop) (m0 : Nat) (h0 : I m0 Γ)
    (h : ∀ m Γ, I m Γ → TX X c Γ fun b => if b then SX X body Γ { po with nx := fun Γ' => ∃ m', m' < m ∧ I m' Γ', ct := fun Γ' => ∃ m', m' < m ∧ I m' Γ', bk := po.nx } else po.nx Γ) : S1 X (.While c body [] pos) Γ po :=
  fun S B O H0 H σ st Dn k => semS_of (ps_while hp pt_sem pss_sem) (by
    refine ⟨fun m σ' H' => ∃ O' Γ, StOk X.K S B O' H0 H' σ' Γ ∧ Adv X.K S B O H O' H' ∧ I m Γ, ⟨m0, O, Γ, st, .refl st.out, h0⟩, ?_⟩
    rintro m σ1 H1 ⟨O1, Γ1, st1, a1, i1⟩
    refine h m Γ1 i1 S B O1 H0 H1 σ1 st1 _ fun b H2 e2 p2 => ?_
    cases b with
    | true =>
      refine iteT ⟨_, fun _ _ n => n, ?_⟩
      have p2' : SX X body Γ1 _ := p2
      have a2 := a1.trans (st1.adv e2)
      refine p2' S B O1 H0 H2 σ1 (st1.to e2) _ ⟨?_, k.rt, fun O H σ Γ st a p => k.nx O H σ Γ st (a2.trans a) p, ?_⟩
      · rintro O3 H3 σ3 Γ3 st3 a3 ⟨m', hm, i3⟩
        exact ⟨m', hm, O3, Γ3, st3, a2.trans a3, i3⟩
      · rintro O3 H3 σ3 Γ3 st3 a3 ⟨m', hm, i3⟩
        exact ⟨m', hm, O3, Γ3, st3, a2.trans a3, i3⟩
    | false => exact iteF (k.nx O1 H2 σ1 Γ1 (st1.to e2) (a1.trans (st1.adv e2)) p2))
end
/-! ### a def by its body -/
def startE (N : List Str) (ds : List D) : List E := ds.map .is ++ List.replicate (N.length - ds.length) .no
theorem st_start {K : PySem.W.Frag} {S : Sr} {B : List Addr} {H : Hp} {N : List Str} {vs : List V} {ds : List D} (m : S.a ∈ B) (l : Live S H) (b : ∀ m ∈ B, ∃ o, H m = some o) (r : RepAll K S B H vs ds) : StOk K S B [] H H (L2.start N vs) (startE N ds) where
  len := by simp [L2.start, startE, r.length]
  ent := fun i g hg => by
    unfold startE at hg
    unfold L2.start
    by_cases hi : i < ds.length
    · rw [List.getElem?_append_left (by simpa using hi), List.getElem?_map] at hg
      cases e : ds[i]? with
      | none => rw [e] at hg; cases hg
      | some d =>
        rw [e] at hg
        cases hg
        obtain ⟨v, hv, rv⟩ := r.get e
        refine ⟨some v, ?_, v, rfl, by rw [List.append_nil]; exact rv⟩
        rw [List.getElem?_append_left (by rw [List.length_map, r.length]; exact hi), List.getElem?_map, hv]
        rfl
    · rw [List.getElem?_append_right (by simpa using hi), List.getElem?_replicate] at hg
      split at hg
      · rename_i h
        cases hg
        refine ⟨none, ?_, trivial⟩
        rw [List.getElem?_append_right (by rw [List.length_map, r.length]; omega), List.getElem?_replicate, if_pos (by simpa [r.length] using h)]
      · cases hg
  ext := .refl
  live0 := l
  mem := m
  bl := b
  nd := List.nodup_nil
  out := fun _ h => absurd h (by simp)
  new := fun _ h => absurd h (by simp)
  liv := fun _ h => absurd h (by simp)
section
variable {P : Program} {w : World} {K : PySem.W.Frag} {mg : Str → Option Value} {base : Heap}
/-- THE RULE: a def's body shows what it gives -/
theorem fn_body {X : Cx} {N : List Str} {st : List Stmt} {W : WA} {n : Nat} {vs : List V} {H : Hp} {Q : VK} {Ex : XK} (hsp : spW X.K W n vs H Q Ex)
    (h : ∀ ds Po', W ds Po' → ds.length = n → SX X st (startE N ds) { nx := fun _ => Po' .non, rt := Po' }) : ∃ t, PSs X st t ∧ t { nx := fun _ H' => Q .non H', rt := Q } (L2.start N vs) H := by
  obtain ⟨hl, S, B, ds, Po', m, l, b, r, hw, hq⟩ := hsp
  exact ⟨_, pss_sem, h ds Po' hw (r.length ▸ hl) S B [] H H _ (st_start m l b r) _ ⟨fun O H σ Γ st _ p => hq .non .non H st.ext .non p, fun v d H e r p => hq v d H e r p, fun _ _ _ _ _ _ z => z, fun _ _ _ _ _ _ z => z⟩⟩
end
end G
set_option Elab.async false
set_option linter.all false
set_option maxRecDepth 100000
set_option maxHeartbeats 1000000
namespace G
open PySem PySem.Spec PyProof.Rows L2
/-! ### what is walked -/
def Keeps (M : List Addr) (H H' : Hp) : Prop := ∀ b o, b ∉ M → H b = some o → H' b = some o
/-- the items, by data; pairs are new tuples -/
structure WalksP (K : PySem.W.Frag) (S : Sr) (M : List Addr) (J : It) (H1 : Hp) (ds : List D) : Prop where
  go : ∀ i H, Keeps M H1 H → i < ds.length → J.go i H
  stop : ∀ H, Keeps M H1 H → J.stop ds.length H
  yld : ∀ i H x H', Keeps M H1 H → i < ds.length → J.yld i H x H' → ∃ d, ds[i]? = some d ∧
    ((H' = H ∧ Rep K S M H1 x d) ∨ ∃ p vs es, x = .ref p ∧ d = .tup es ∧ H p = none ∧ H' = upd H p (.tup vs) ∧ RepAll K S M H1 vs es)
def WX (X : Cx) (tg iter : Expr) (Γ : List E) (P : List D → Prop) : Prop :=
  ∀ S B O H0 H σ, StOk X.K S B O H0 H σ Γ → ∀ R, (∀ J H' ds, Ext X.K S H H' → WalksP X.K S (B ++ O) J H' ds → P ds → R J H') → semI X tg iter σ H R
section
variable {X : Cx} {Γ : List E} {pos : Pos} {tg : Expr}
theorem keeps_rd {M H H' a u} (k : Keeps M H H') (n : a ∉ M) (h : Rd H a u) : Rd H' a u := by
  rcases h with h | ⟨o, h⟩
  · exact .inl (k a _ n h)
  · exact .inr ⟨o, k a _ n h⟩
theorem LAt.keeps {K M H H' a xs} (k : Keeps M H H') (h : LAt K M H a xs) : LAt K M H' a xs := h.imp (fun z => ⟨z.1, keeps_rd k z.1 z.2⟩) id
theorem TAt.keeps {K M H H' a xs} (k : Keeps M H H') (h : TAt K M H a xs) : TAt K M H' a xs := h.imp (fun z => ⟨z.1, keeps_rd k z.1 z.2⟩) id
def asL (P : List D → Prop) : D → Prop
  | .lst l => P l
  | _ => False
def asT (P : List D → Prop) : D → Prop
  | .tup l => P l
  | _ => False
theorem wx_list {e : Expr} {P : List D → Prop} (h : EX X e Γ (asL P)) : WX X tg e Γ P :=
  fun S B O H0 H σ st R k => semI_of (pi_list pe_sem) (h S B O H0 H σ st _ fun v d H1 e1 r1 p1 => by
    cases r1 <;> try exact p1.elim
    rename_i a vs ds ha ra
    refine ⟨a, rfl, ⟨vs, ha.sq⟩, k _ H1 ds e1 ⟨fun i H kp hi => ?_, fun H kp => ⟨vs, (ha.keeps kp).sq, by rw [ra.length]; exact Nat.le_refl _⟩, fun i H x H' kp hi y => ?_⟩ p1⟩
    · exact ⟨vs, vs[i]'(by rw [ra.length]; exact hi), (ha.keeps kp).sq, List.getElem?_eq_getElem _⟩
    · obtain ⟨rfl, y⟩ := y
      obtain ⟨d, hd, rd⟩ := ra.getV (y vs (ha.keeps kp).sq)
      exact ⟨d, hd, .inl ⟨rfl, rd⟩⟩)
theorem wx_tup {e : Expr} {P : List D → Prop} (h : EX X e Γ (asT P)) : WX X tg e Γ P :=
  fun S B O H0 H σ st R k => semI_of (pi_tup pe_sem) (h S B O H0 H σ st _ fun v d H1 e1 r1 p1 => by
    cases r1 <;> try exact p1.elim
    rename_i a vs ds ha ra
    refine ⟨a, rfl, ⟨vs, ha.sq⟩, k _ H1 ds e1 ⟨fun i H kp hi => ?_, fun H kp => ⟨vs, (ha.keeps kp).sq, by rw [ra.length]; exact Nat.le_refl _⟩, fun i H x H' kp hi y => ?_⟩ p1⟩
    · exact ⟨vs, vs[i]'(by rw [ra.length]; exact hi), (ha.keeps kp).sq, List.getElem?_eq_getElem _⟩
    · obtain ⟨rfl, y⟩ := y
      obtain ⟨d, hd, rd⟩ := ra.getV (y vs (ha.keeps kp).sq)
      exact ⟨d, hd, .inl ⟨rfl, rd⟩⟩)
def rangeD (n : Nat) : List D := (List.range n).map fun (k : Nat) => D.int (k : Int)
theorem rangeD_len (n : Nat) : (rangeD n).length = n := by simp [rangeD]
theorem rangeD_get {n i : Nat} (h : i < n) : (rangeD n)[i]? = some (.int (i : Int)) := by simp [rangeD, h]
theorem wx_range {e : Expr} {p pr : Pos} {P : List D → Prop} (hm : X.mg "range" = none) (hg : Gl X "range") (h : EX X e Γ (asI fun j => j < 2 ^ 62 ∧ -(2 ^ 62) ≤ j ∧ P (rangeD j.toNat)))
    (hs : starEach [e] X.env = (false, eval e X.env) :: starEach [] X.env := by rfl) (hs1 : starEach [e] X.env = [(false, eval e X.env)] := by rfl) : WX X tg (.Call (.Name "range" p) [e] [] pr) Γ P :=
  fun S B O H0 H σ st R k => semI_of (pi_range1 hg hm (pa_cons pe_sem pa_nil hs) hs1) (h S B O H0 H σ st _ fun v d H1 e1 r1 p1 => by
    obtain ⟨j, rfl, rfl, h1, h2, p⟩ := asI_use r1 p1
    refine ⟨j, rfl, h2, h1, k _ H1 (rangeD j.toNat) e1 ⟨fun i H kp hi => by rw [rangeD_len] at hi; exact hi, fun H kp => by rw [rangeD_len]; exact Nat.le_refl _, fun i H x H' kp hi y => ?_⟩ p⟩
    obtain ⟨rfl, rfl⟩ := y
    rw [rangeD_len] at hi
    exact ⟨_, rangeD_get hi, .inl ⟨rfl, by rw [show (0 : Int) + (i : Int) = (i : Int) from Int.zero_add _]; exact .int _⟩⟩)
def strD (s : Str) : List D := s.cps.toList.map fun c => .str ⟨#[c]⟩
theorem wx_str {e : Expr} {P : List D → Prop} (h : EX X e Γ fun d => ∃ s, d = .str s ∧ P (strD s)) : WX X tg e Γ P :=
  fun S B O H0 H σ st R k => semI_of (pi_str pe_sem) (h S B O H0 H σ st _ fun v d H1 e1 r1 p1 => by
    obtain ⟨s, rfl, p⟩ := p1
    cases r1
    refine ⟨s, rfl, k _ H1 (strD s) e1 ⟨fun i H kp hi => (show i < s.cps.size by simpa [strD] using hi), fun H kp => by simp [strD, Its], fun i H x H' kp hi y => ?_⟩ p⟩
    obtain ⟨rfl, c, hc, rfl⟩ := y
    exact ⟨.str ⟨#[c]⟩, by simp [strD, hc], .inl ⟨rfl, .str _⟩⟩)
def zipD (l m : List D) : List D := (l.zip m).map fun q => .tup [q.1, q.2]
theorem zipD_len (l m : List D) : (zipD l m).length = min l.length m.length := by simp [zipD]
theorem zip_at {K S M H} {xs ys : List V} {l m : List D} {i : Nat} {x y : V} (r1 : RepAll K S M H xs l) (r2 : RepAll K S M H ys m) (hx : xs[i]? = some x) (hy : ys[i]? = some y) :
    ∃ a b, (zipD l m)[i]? = some (.tup [a, b]) ∧ Rep K S M H x a ∧ Rep K S M H y b := by
  obtain ⟨a, ha, ra⟩ := r1.getV hx
  obtain ⟨b, hb, rb⟩ := r2.getV hy
  refine ⟨a, b, ?_, ra, rb⟩
  unfold zipD
  rw [List.getElem?_map, List.getElem?_zip_eq_some (z := (a, b)) |>.mpr ⟨ha, hb⟩]
  rfl
theorem wx_zipL {elts : List Expr} {kk : Nat} {tpos p pr : Pos} {e e2 : Expr} {P : List D → Prop} (hm : X.mg "zip" = none) (hg : Gl X "zip") (h : AX X [e, e2] Γ fun ds => ∃ l m, ds = [.lst l, .lst m] ∧ P (zipD l m))
    (hs : starEach [e, e2] X.env = (false, eval e X.env) :: starEach [e2] X.env := by rfl) (hpl : (backTo pr (starEach [e2] X.env)).any (·.1) = false := by rfl) : WX X (.Tuple elts kk tpos) (.Call (.Name "zip" p) [e, e2] [] pr) Γ P :=
  fun S B O H0 H σ st R k => semI_of (pi_zip hg hm pa_sem hs hpl) (h S B O H0 H σ st _ fun vs ds H1 e1 r1 p1 => by
    obtain ⟨l, m, rfl, p⟩ := p1
    obtain ⟨v, w, rfl, q1, q2⟩ := r1.two
    cases q1 with
    | @lst a xs _ ha ra =>
    cases q2 with
    | @lst b ys _ hb rb =>
    refine ⟨a, b, xs, ys, rfl, ha.sq, hb.sq, k _ H1 (zipD l m) e1 ⟨fun i H kp hi => ?_, fun H kp => ⟨xs, ys, (ha.keeps kp).sq, (hb.keeps kp).sq, by rw [zipD_len, ra.length, rb.length]; omega⟩, fun i H x H' kp hi y => ?_⟩ p⟩
    · rw [zipD_len] at hi
      have i1 : i < xs.length := by rw [ra.length]; omega
      have i2 : i < ys.length := by rw [rb.length]; omega
      exact ⟨xs, ys, xs[i], ys[i], (ha.keeps kp).sq, (hb.keeps kp).sq, List.getElem?_eq_getElem _, List.getElem?_eq_getElem _⟩
    · obtain ⟨T, x1, y1, rfl, nT, rfl, f1, f2⟩ := y
      obtain ⟨c, d, h1, h2, h3⟩ := zip_at ra rb (f1 xs (ha.keeps kp).sq) (f2 ys (hb.keeps kp).sq)
      exact ⟨_, h1, .inr ⟨T, [x1, y1], [c, d], rfl, rfl, nT, rfl, .cons h2 (.cons h3 .nil)⟩⟩)
theorem wx_zipT {elts : List Expr} {kk : Nat} {tpos p pr : Pos} {e e2 : Expr} {P : List D → Prop} (hm : X.mg "zip" = none) (hg : Gl X "zip") (h : AX X [e, e2] Γ fun ds => ∃ l m, ds = [.tup l, .tup m] ∧ P (zipD l m))
    (hs : starEach [e, e2] X.env = (false, eval e X.env) :: starEach [e2] X.env := by rfl) (hpl : (backTo pr (starEach [e2] X.env)).any (·.1) = false := by rfl) : WX X (.Tuple elts kk tpos) (.Call (.Name "zip" p) [e, e2] [] pr) Γ P :=
  fun S B O H0 H σ st R k => semI_of (RZ.pi_zipA hg hm pa_sem hs hpl) (h S B O H0 H σ st _ fun vs ds H1 e1 r1 p1 => by
    obtain ⟨l, m, rfl, p⟩ := p1
    obtain ⟨v, w, rfl, q1, q2⟩ := r1.two
    cases q1 with
    | @tup a xs _ ha ra =>
    cases q2 with
    | @tup b ys _ hb rb =>
    refine ⟨a, b, xs, ys, rfl, .inr ⟨ha.sq, hb.sq, k _ H1 (zipD l m) e1 ⟨fun i H kp hi => ?_, fun H kp => ⟨xs, ys, (ha.keeps kp).sq, (hb.keeps kp).sq, by rw [zipD_len, ra.length, rb.length]; omega⟩, fun i H x H' kp hi y => ?_⟩ p⟩⟩
    · rw [zipD_len] at hi
      have i1 : i < xs.length := by rw [ra.length]; omega
      have i2 : i < ys.length := by rw [rb.length]; omega
      exact ⟨xs, ys, xs[i], ys[i], (ha.keeps kp).sq, (hb.keeps kp).sq, List.getElem?_eq_getElem _, List.getElem?_eq_getElem _⟩
    · obtain ⟨T, x1, y1, rfl, nT, rfl, f1, f2⟩ := y
      obtain ⟨c, d, h1, h2, h3⟩ := zip_at ra rb (f1 xs (ha.keeps kp).sq) (f2 ys (hb.keeps kp).sq)
      exact ⟨_, h1, .inr ⟨T, [x1, y1], [c, d], rfl, rfl, nT, rfl, .cons h2 (.cons h3 .nil)⟩⟩)

/-! ### targets -/
theorem wipe_set {σ : L2.St} {j : Nat} {x : Option V} : ∀ {vs : List Nat}, j ∈ vs → L2.wipe (σ.set j x) vs = L2.wipe σ vs
  | [], h => absurd h (by simp)
  | v :: vs, h => by
    unfold L2.wipe
    by_cases hj : j ∈ vs
    · rw [wipe_set hj]
    · have e : j = v := (List.mem_cons.mp h).resolve_right hj
      subst e
      have : ∀ (vs : List Nat) (σ : L2.St), j ∉ vs → L2.wipe (σ.set j x) vs = (L2.wipe σ vs).set j x := by
        intro vs
        induction vs with
        | nil => intro σ _; rfl
        | cons u us ih =>
          intro σ hn
          have n1 : j ≠ u := fun e => hn (e ▸ List.mem_cons_self ..)
          unfold L2.wipe
          rw [ih σ fun q => hn (List.mem_cons_of_mem _ q), List.set_comm _ _ n1]
      rw [this vs σ hj, List.set_set]
abbrev GD := D → List E → (List E → Prop) → Prop
abbrev GsD := List D → List E → (List E → Prop) → Prop
structure TgOk (K : PySem.W.Frag) (gt : TG) (G : GD) (js : List Nat) : Prop where
  ok : ∀ S B O H0 H σ Γ v d P Q, StOk K S B O H0 H σ Γ → Rep K S (B ++ O) H v d → G d Γ P → (∀ σ' Γ', StOk K S B O H0 H σ' Γ' → P Γ' → (∀ vs : List Nat, (∀ j ∈ js, j ∈ vs) → L2.wipe σ' vs = L2.wipe σ vs) → Q σ' H) → gt v σ H Q
structure TgsOk (K : PySem.W.Frag) (gt : TGs) (G : GsD) (js : List Nat) : Prop where
  ok : ∀ S B O H0 H σ Γ vs ds P Q, StOk K S B O H0 H σ Γ → RepAll K S (B ++ O) H vs ds → G ds Γ P → (∀ σ' Γ', StOk K S B O H0 H σ' Γ' → P Γ' → (∀ us : List Nat, (∀ j ∈ js, j ∈ us) → L2.wipe σ' us = L2.wipe σ us) → Q σ' H) → gt vs σ H Q
def gdN (j : Nat) : GD := fun d Γ P => P (put Γ j (.is d))
def gdNil : GsD := fun ds Γ P => ds = [] ∧ P Γ
def gdCons (g : GD) (r : GsD) : GsD := fun ds Γ P => ∃ d es, ds = d :: es ∧ g d Γ fun Γ' => r es Γ' P
def gdTup (r : GsD) : GD := fun d Γ P => ∃ ds, d = .tup ds ∧ r ds Γ P
theorem tg_name {K} (j : Nat) : TgOk K (gName j) (gdN j) [j] := ⟨fun S B O H0 H σ Γ v d P Q st r h k => k _ _ (st.set j r) (by rw [← put_eq]; exact h) fun vs hv => wipe_set (hv j (by simp))⟩
theorem tgs_nil {K} : TgsOk K gNil gdNil [] := ⟨fun S B O H0 H σ Γ vs ds P Q st r h k => by
  obtain ⟨rfl, h⟩ := h
  cases r
  exact ⟨rfl, k _ _ st h fun _ _ => rfl⟩⟩
theorem tgs_cons {K gt gts g gs j1 j2} (h1 : TgOk K gt g j1) (h2 : TgsOk K gts gs j2) : TgsOk K (gCons gt gts) (gdCons g gs) (j1 ++ j2) := ⟨fun S B O H0 H σ Γ vs ds P Q st r h k => by
  obtain ⟨d, es, rfl, h⟩ := h
  cases r with
  | @cons v _ vs _ rv rr =>
    refine ⟨v, vs, rfl, h1.ok S B O H0 H σ Γ v d _ _ st rv h fun σ1 Γ1 st1 p1 w1 => ?_⟩
    refine h2.ok S B O H0 H σ1 Γ1 vs es _ _ st1 rr p1 fun σ2 Γ2 st2 p2 w2 => k σ2 Γ2 st2 p2 fun us hu => ?_
    rw [w2 us fun j hj => hu j (List.mem_append_right _ hj), w1 us fun j hj => hu j (List.mem_append_left _ hj)]⟩
theorem tg_tup {K n gts gs js} (h : TgsOk K gts gs js) (hl : ∀ ds Γ P, gs ds Γ P → ds.length = n) : TgOk K (gTup K n gts) (gdTup gs) js := ⟨fun S B O H0 H σ Γ v d P Q st r hg k => by
  obtain ⟨ds, rfl, hg⟩ := hg
  cases r with
  | @tup a vs _ ha ra => exact ⟨a, vs, rfl, ha.sq, by rw [ra.length]; exact hl _ _ _ hg, h.ok S B O H0 H σ Γ vs ds P Q st ra hg k⟩⟩

/-! ### for -/
theorem keeps_adv {K S B O H O' H'} (a : Adv K S B O H O' H') : Keeps (B ++ O) H H' := fun b o n h => a.keep b o n h
theorem Rep.keeps {K S M H H'} (k : Keeps M H H') (s : SrcOk K S H → SrcOk K S H') {v d} (r : Rep K S M H v d) : Rep K S M H' v d := r.imp (fun _ _ => TAt.keeps k) (fun _ _ => LAt.keeps k) (fun h m => ⟨s h, m⟩) fun a o n h => ⟨n, k a o n h⟩
theorem RepAll.keeps {K S M H H'} (k : Keeps M H H') (s : SrcOk K S H → SrcOk K S H') {v d} (r : RepAll K S M H v d) : RepAll K S M H' v d := r.imp (fun _ _ => TAt.keeps k) (fun _ _ => LAt.keeps k) (fun h m => ⟨s h, m⟩) fun a o n h => ⟨n, k a o n h⟩
/-- more that may change, all new -/
theorem Rep.more {K S M M' H v d} (h : ∀ a ∈ M', a ∉ M → H a = none) (hm : S.a ∈ M → S.a ∈ M') (r : Rep K S M H v d) : Rep K S M' H v d :=
  r.imp (fun a _ z => z.imp (fun z => ⟨fun q => absurd rfl (rd_ne z.2 (h a q z.1)), z.2⟩) id) (fun a _ z => z.imp (fun z => ⟨fun q => absurd rfl (rd_ne z.2 (h a q z.1)), z.2⟩) id) (fun z m => ⟨z, hm m⟩) fun a o n z => ⟨fun q => (by rw [h a q n] at z; cases z), z⟩
theorem RepAll.more {K S M M' H v d} (h : ∀ a ∈ M', a ∉ M → H a = none) (hm : S.a ∈ M → S.a ∈ M') (r : RepAll K S M H v d) : RepAll K S M' H v d :=
  r.imp (fun a _ z => z.imp (fun z => ⟨fun q => absurd rfl (rd_ne z.2 (h a q z.1)), z.2⟩) id) (fun a _ z => z.imp (fun z => ⟨fun q => absurd rfl (rd_ne z.2 (h a q z.1)), z.2⟩) id) (fun z m => ⟨z, hm m⟩) fun a o n z => ⟨fun q => (by rw [h a q n] at z; cases z), z⟩
/-- what stood at H stands behind, also with the lists made since -/
theorem Adv.rep {K S B O H O' H' v d} (a : Adv K S B O H O' H') (m : S.a ∈ B) (r : Rep K S (B ++ O) H v d) : Rep K S (B ++ O') H' v d := by
  have hn : ∀ x ∈ B ++ (O ++ O'), x ∉ B ++ O → H x = none := fun x hx n => by
    rcases List.mem_append.mp hx with q | q
    · exact absurd (List.mem_append_left _ q) n
    · rcases List.mem_append.mp q with q | q
      · exact absurd (List.mem_append_right _ q) n
      · exact a.new x q fun z => n (List.mem_append_right _ z)
  have r1 := r.more (M' := B ++ (O ++ O')) hn fun _ => List.mem_append_left _ m
  have r2 := r1.keeps (H' := H') (fun b o n h => a.keep b o (fun q => n ((List.mem_append.mp q).elim (fun q => List.mem_append_left _ q) fun q => List.mem_append_right _ (List.mem_append_left _ q))) h) a.src
  exact r2.less (fun x hx => (List.mem_append.mp hx).elim (fun q => List.mem_append_left _ q) fun q => List.mem_append_right _ (List.mem_append_right _ q)) (List.mem_append_left _ m)
theorem Adv.repAll {K S B O H O' H'} (a : Adv K S B O H O' H') (m : S.a ∈ B) : ∀ {vs : List V} {ds : List D}, RepAll K S (B ++ O) H vs ds → RepAll K S (B ++ O') H' vs ds
  | _, _, .nil => .nil
  | _, _, .cons h t => .cons (a.rep m h) (a.repAll m t)
variable {po : Po}
/-- for target in iter: I by the turn -/
theorem s_for {iter : Expr} {body : List Stmt} {gt : TG} {Gd : GD} {js : List Nat} (hp : PassesOwn (model X.prog X.w) X.A X.env X.xe) (hc : X.calm = true) (hg : PG X tg gt) (hG : TgOk X.K gt Gd js)
    (h : WX X tg iter Γ fun ds => ∃ I : Nat → List E → Prop, I 0 Γ ∧ (∀ i d Γ, ds[i]? = some d → I i Γ → Gd d Γ fun Γ' => SX X body Γ' { po with nx := fun Γ' => ∃ Γ2, Le Γ' Γ2 ∧ I (i + 1) Γ2, ct := fun Γ' => ∃ Γ2, Le Γ' Γ2 ∧ I (i + 1) Γ2, bk := po.nx }) ∧ ∀ Γ, I ds.length Γ → po.nx Γ)
    (hfs : ∀ y, foldedSetIterable iter X.env y = pure y := by intro _; rfl) : S1 X (.For tg iter body [] pos) Γ po :=
  fun S B O H0 H σ st Dn kk => semS_of (ps_for hp hc pi_sem hg pss_sem hfs) (h S B O H0 H σ st _ fun J H1 ds e1 w p => by
    obtain ⟨I, h0, ht, hd⟩ := p
    refine ⟨fun i m σ' H' => m = ds.length - i ∧ i ≤ ds.length ∧ ∃ O' Γ', StOk X.K S B O' H0 H' σ' Γ' ∧ Adv X.K S B O H1 O' H' ∧ I i Γ', ⟨ds.length, rfl, Nat.zero_le _, O, Γ, st.to e1, .refl st.out, h0⟩, ?_⟩
    rintro i m σ2 H2 ⟨rfl, hi, O2, Γ2, st2, a2, i2⟩
    have kp := keeps_adv a2
    have a0 : Adv X.K S B O H O2 H2 := (st.adv e1).trans a2
    by_cases hlt : i < ds.length
    · refine .inr ⟨w.go i H2 kp hlt, fun σ' H' => ∃ O' Γ', StOk X.K S B O' H0 H' σ' Γ' ∧ Adv X.K S B O H1 O' H' ∧ I (i + 1) Γ', ?_, ?_⟩
      · rintro σ3 H3 ⟨O3, Γ3, st3, a3, i3⟩
        exact ⟨ds.length - (i + 1), by omega, rfl, hlt, O3, Γ3, st3, a3, i3⟩
      · intro x H3 y
        obtain ⟨d, hd', y⟩ := w.yld i H2 x H3 kp hlt y
        have go : ∀ H3, Ext X.K S H2 H3 → Rep X.K S (B ++ O2) H3 x d → gt x σ2 H3 fun σ2 H2 => semSs X body { nx := fun σ' H' => ∃ O' Γ', StOk X.K S B O' H0 H' σ' Γ' ∧ Adv X.K S B O H1 O' H' ∧ I (i + 1) Γ', rt := Dn.rt, bk := Dn.nx, ct := fun σ' H' => ∃ O' Γ', StOk X.K S B O' H0 H' σ' Γ' ∧ Adv X.K S B O H1 O' H' ∧ I (i + 1) Γ' } σ2 H2 := fun H3 e3 r3 => by
          refine hG.ok S B O2 H0 H3 σ2 Γ2 x d _ _ (st2.to e3) r3 (ht i d Γ2 hd' i2) fun σ4 Γ4 st4 p4 _ => ?_
          have a3 := a2.trans (st2.adv e3)
          have a4 := a0.trans (st2.adv e3)
          refine p4 S B O2 H0 H3 σ4 st4 _ ⟨?_, kk.rt, fun O5 H5 σ5 Γ5 st5 a5 p5 => kk.nx O5 H5 σ5 Γ5 st5 (a4.trans a5) p5, ?_⟩
          · rintro O5 H5 σ5 Γ5 st5 a5 ⟨Γ6, l, i6⟩
            exact ⟨O5, Γ6, st5.le l, a3.trans a5, i6⟩
          · rintro O5 H5 σ5 Γ5 st5 a5 ⟨Γ6, l, i6⟩
            exact ⟨O5, Γ6, st5.le l, a3.trans a5, i6⟩
        rcases y with ⟨rfl, r⟩ | ⟨p, vs, es, rfl, rfl, np, rfl, r⟩
        · exact go _ .refl (a2.rep st.mem r)
        · exact go _ (.new np) (rep_tup st2 (a2.repAll st.mem r) np)
    · have e : i = ds.length := by omega
      subst e
      exact .inl ⟨w.stop H2 kp, kk.nx O2 H2 σ2 Γ2 st2 a0 (hd Γ2 i2)⟩)

/-! ### list comprehensions -/
def semB (X : Cx) (scope : Scope) (e : Expr) : TE := fun σ H Q => ∀ (s0 : Shared) (H0 : Hp) (C : Addr) (cl : List (Str × Addr)) (fp : List Addr), semE (X.blk s0 H0 scope (compEnvC scope cl C X.env) fp) e σ H Q
theorem pe_semB {scope : Scope} {e : Expr} (s0 : Shared) (H0 : Hp) (C : Addr) (cl : List (Str × Addr)) (fp : List Addr) : PE (X.blk s0 H0 scope (compEnvC scope cl C X.env) fp) e (semB X scope e) := ⟨fun pins s σ H Q I h => h s0 H0 C cl fp pins s I⟩
def semTB (X : Cx) (scope : Scope) (e : Expr) : TT := fun σ H Q => ∀ (s0 : Shared) (H0 : Hp) (C : Addr) (cl : List (Str × Addr)) (fp : List Addr), semT (X.blk s0 H0 scope (compEnvC scope cl C X.env) fp) e σ H Q
theorem pt_semB {scope : Scope} {e : Expr} (s0 : Shared) (H0 : Hp) (C : Addr) (cl : List (Str × Addr)) (fp : List Addr) : PT (X.blk s0 H0 scope (compEnvC scope cl C X.env) fp) e (semTB X scope e) := ⟨fun pins s σ H Q I h => h s0 H0 C cl fp pins s I⟩
def EB (X : Cx) (scope : Scope) (e : Expr) (Γ : List E) (P : D → Prop) : Prop := ∀ (s0 : Shared) (H0 : Hp) (C : Addr) (cl : List (Str × Addr)) (fp : List Addr), EX (X.blk s0 H0 scope (compEnvC scope cl C X.env) fp) e Γ P
def TB (X : Cx) (scope : Scope) (e : Expr) (Γ : List E) (P : Bool → Prop) : Prop := ∀ (s0 : Shared) (H0 : Hp) (C : Addr) (cl : List (Str × Addr)) (fp : List Addr), TX (X.blk s0 H0 scope (compEnvC scope cl C X.env) fp) e Γ P
/-- the tests of a clause -/
def TsB (X : Cx) (scope : Scope) (ifs : List Expr) (Γ : List E) (P : Bool → Prop) : Prop := match ifs with
  | [] => P true
  | [c] => TB X scope c Γ P
  | _ => False
def semTs (X : Cx) (scope : Scope) (ifs : List Expr) : TT := match ifs with
  | [] => tYes
  | [c] => semTB X scope c
  | _ => fun _ _ _ => False
theorem pts_sem {scope : Scope} {ifs : List Expr} (hl : ifs.length ≤ 1) (s0 : Shared) (H0 : Hp) (C : Addr) (cl : List (Str × Addr)) (fp : List Addr) : PTs (X.blk s0 H0 scope (compEnvC scope cl C X.env) fp) ifs (semTs X scope ifs) := by
  match ifs, hl with
  | [], _ => exact pts_nil
  | [c], _ => exact pts_one (pt_semB s0 H0 C cl fp)
  | _ :: _ :: _, hl => simp at hl
/-- a new list that the loop builds, beside the own ones -/
theorem StOk.with {K S B O H0 H1 H σ Γ p xs} (st : StOk K S B O H0 H1 σ Γ) (n : H1 p = none) (e : Ext K S H1 H) (hp : H p = some (.lst xs)) : StOk K S B (O ++ [p]) H0 H σ Γ where
  len := st.len
  ent := fun i g hg => by
    obtain ⟨x, hx, o⟩ := st.ent i g hg
    refine ⟨x, hx, ?_⟩
    have hm : S.a ∈ B ++ (O ++ [p]) := List.mem_append_left _ st.mem
    have hn : ∀ a ∈ B ++ (O ++ [p]), a ∉ B ++ O → H1 a = none := fun a ha na => by
      rw [← List.append_assoc] at ha
      rcases List.mem_append.mp ha with q | q
      · exact absurd q na
      · have : a = p := by simpa using q
        rw [this]; exact n
    cases g with
    | no => trivial
    | is d =>
      obtain ⟨v, e1, r⟩ := o
      exact ⟨v, e1, (r.more hn fun _ => hm).ext e st.live hm⟩
    | own k ds =>
      obtain ⟨m, vs, e1, e2, e3, r⟩ := o
      refine ⟨m, vs, e1, ?_, e.keep _ _ (st.ne2 e2) e3, (r.more hn fun _ => hm).ext e st.live hm⟩
      rw [List.getElem?_append_left (List.getElem?_eq_some_iff.mp e2).1]
      exact e2
  ext := st.ext.trans e
  live0 := st.live0
  mem := st.mem
  bl := st.bl
  nd := List.nodup_append.mpr ⟨st.nd, by simp, fun a ha b hb e => st.free n (List.mem_append_right _ (by
    have : b = p := by simpa using hb
    rw [← this, ← e]; exact ha))⟩
  out := fun m hm => (List.mem_append.mp hm).elim (st.out m) fun q => by
    have : m = p := by simpa using q
    rw [this]
    exact fun z => st.free n (List.mem_append_left _ z)
  new := fun m hm => (List.mem_append.mp hm).elim (st.new m) fun q => by
    have : m = p := by simpa using q
    rw [this]
    cases e0 : H0 p with
    | none => rfl
    | some o =>
      exfalso
      by_cases hp : p = S.a
      · obtain ⟨⟨o', e'⟩, _⟩ := st.live
        rw [← hp, n] at e'; cases e'
      · have := st.ext.keep p o hp e0
        rw [n] at this; cases this
  liv := fun m hm => (List.mem_append.mp hm).elim (fun q => let ⟨ys, h⟩ := st.liv m q; ⟨ys, e.keep _ _ (st.ne q) h⟩) fun q => by
    have : m = p := by simpa using q
    rw [this]; exact ⟨xs, hp⟩
/-- a place that may change changes -/
theorem RepAll.mutp {K S M H p o} (hm : p ∈ M) (h1 : S.a ≠ p) (h2 : S.l ≠ p) {vs ds} (r : RepAll K S M H vs ds) : RepAll K S M (upd H p o) vs ds := by
  have hr : ∀ a u, a ∉ M → Rd H a u → Rd (upd H p o) a u := fun a u n h => by
    have ne : a ≠ p := fun e => n (e ▸ hm)
    rcases h with h | ⟨z, h⟩
    · exact .inl (by rw [upd_ne ne]; exact h)
    · exact .inr ⟨z, by rw [upd_ne ne]; exact h⟩
  exact r.imp (fun a _ z => z.imp (fun z => ⟨z.1, hr _ _ z.1 z.2⟩) id) (fun a _ z => z.imp (fun z => ⟨z.1, hr _ _ z.1 z.2⟩) id) (fun ⟨i, c, s, t, ns, g1, g2, g3⟩ m => ⟨⟨i, c, s, t, ns, by rw [upd_ne h1]; exact g1, by rw [upd_ne h2]; exact g2, g3⟩, m⟩) fun a o n z => ⟨n, by have ne : a ≠ p := fun e => n (e ▸ hm); rw [upd_ne ne]; exact z⟩
theorem lc_read {elt iter : Expr} {ifs : List Expr} {scope : Scope} {own : List (Str × Nat)} {gt : TG} {Gd : GD} {js : List Nat} {P : D → Prop} (hc : X.calm = true) (hG : TgOk X.K gt Gd js) (hj : ∀ j ∈ js, j ∈ own.map (·.2)) (hl : ifs.length ≤ 1) (Γw : List E) (hw : wipeE Γ (own.map (·.2)) = Γw)
    (h : WX X tg iter Γ fun ds => ds.length ≤ 1000000 ∧ ∃ Acc : Nat → List D → Prop, Acc 0 [] ∧ (∀ i d es, ds[i]? = some d → Acc i es → Gd d Γw fun Γ' => TsB X scope ifs Γ' fun b =>
      if b then EB X scope elt Γ' fun y => Acc (i + 1) (es ++ [y]) else Acc (i + 1) es) ∧ ∀ es, Acc ds.length es → P (.lst es)) :
    ∀ S B O H0 H σ, StOk X.K S B O H0 H σ Γ → ∀ Q, KE X.K S (B ++ O) H P Q → tLc (semI X tg iter) gt (semTs X scope ifs) (semB X scope elt) (own.map (·.2)) σ H Q :=
  fun S B O H0 H σ st Q k => h S B O H0 H σ st _ fun J H1 ds e1 w p Dl nD => by
    subst hw
    obtain ⟨hsz, Acc, h0, ht, hd⟩ := p
    have st1 := st.to e1
    have hDB : Dl ∉ B ++ O := st1.free nD
    have hm : S.a ∈ B ++ (O ++ [Dl]) := List.mem_append_left _ st.mem
    have hDM : Dl ∈ B ++ (O ++ [Dl]) := by simp
    have hSa : S.a ≠ Dl := fun e => hDB (e ▸ st.m)
    have hSl : S.l ≠ Dl := by
      obtain ⟨_, ⟨o, e⟩, _⟩ := st1.live
      exact ne_of_none e nD
    let W := fun (i m : Nat) (H' : Hp) => m = ds.length - i ∧ i ≤ ds.length ∧ ∃ acc es, Ext X.K S H1 H' ∧ H' Dl = some (.lst acc) ∧ RepAll X.K S (B ++ (O ++ [Dl])) H' acc es ∧ es.length ≤ i ∧ Acc i es
    refine ⟨W, ⟨ds.length, rfl, Nat.zero_le _, [], [], .mut .refl st1.live nD, upd_same, .nil, Nat.le_refl _, h0⟩, ?_⟩
    rintro i m H2 ⟨rfl, hi, acc, es, e2, hD, ra, hle, ac⟩
    have st2 : StOk X.K S B (O ++ [Dl]) H0 H2 σ Γ := st1.with nD e2 hD
    have kp : Keeps (B ++ O) H1 H2 := fun b o n hb => e2.keep b o (fun q => n (q ▸ st.m)) hb
    by_cases hlt : i < ds.length
    · refine .inr ⟨w.go i H2 kp hlt, fun H' => ∃ m', m' < ds.length - i ∧ W (i + 1) m' H', fun H' z => z, fun x H3 y => ?_⟩
      obtain ⟨d, hd', y⟩ := w.yld i H2 x H3 kp hlt y
      have hn : ∀ a ∈ B ++ (O ++ [Dl]), a ∉ B ++ O → H1 a = none := fun a ha na => by
        rw [← List.append_assoc] at ha
        rcases List.mem_append.mp ha with q | q
        · exact absurd q na
        · have : a = Dl := by simpa using q
          rw [this]; exact nD
      have go : ∀ H3, Ext X.K S H2 H3 → Rep X.K S (B ++ (O ++ [Dl])) H3 x d → gt x (L2.wipe σ (own.map (·.2))) H3 fun σ2 H2 => L2.wipe σ2 (own.map (·.2)) = L2.wipe σ (own.map (·.2)) ∧ semTs X scope ifs σ2 H2 fun b H3 =>
          if b = true then semB X scope elt σ2 H3 fun y H4 => ∃ acc, H4 Dl = some (.lst acc) ∧ acc.length < sizeLine ∧ ∃ m', m' < ds.length - i ∧ W (i + 1) m' (upd H4 Dl (.lst (acc ++ [y]))) else ∃ m', m' < ds.length - i ∧ W (i + 1) m' H3 := fun H3 e3 r3 => by
        have st3 := (st2.to e3).wipe (own.map (·.2))
        refine hG.ok S B (O ++ [Dl]) H0 H3 _ _ x d _ _ st3 r3 (ht i d es hd' ac) fun σ4 Γ4 st4 p4 w4 => ⟨?_, ?_⟩
        · rw [w4 _ hj]
          have : ∀ (vs us : List Nat) (σ : L2.St), (∀ j ∈ us, j ∈ vs) → L2.wipe (L2.wipe σ us) vs = L2.wipe σ vs := by
            intro vs us
            induction us with
            | nil => intro σ _; rfl
            | cons u us ih =>
              intro σ hu
              show L2.wipe ((L2.wipe σ us).set u none) vs = _
              rw [wipe_set (hu u (List.mem_cons_self ..)), ih σ fun j hj => hu j (List.mem_cons_of_mem _ hj)]
          exact this _ _ _ fun _ h => h
        · have fin : ∀ H5, Ext X.K S H3 H5 → Acc (i + 1) es → ∃ m', m' < ds.length - i ∧ W (i + 1) m' H5 := fun H5 e5 a5 =>
            ⟨ds.length - (i + 1), by omega, rfl, hlt, acc, es, e2.trans (e3.trans e5), (e3.trans e5).keep _ _ (Ne.symm hSa) hD, ra.ext (e3.trans e5) st2.live hm, by omega, a5⟩
          have big : ∀ H5, Ext X.K S H3 H5 → EB X scope elt Γ4 (fun y => Acc (i + 1) (es ++ [y])) → semB X scope elt σ4 H5 fun y H4 => ∃ acc, H4 Dl = some (.lst acc) ∧ acc.length < sizeLine ∧ ∃ m', m' < ds.length - i ∧ W (i + 1) m' (upd H4 Dl (.lst (acc ++ [y]))) := fun H5 e5 pb s0 Hb C cl fp => by
            refine pb s0 Hb C cl fp S B (O ++ [Dl]) H0 H5 σ4 (st4.to e5) _ fun v y H6 e6 r6 p6 => ?_
            have e36 := e3.trans (e5.trans e6)
            have l6 : Live S H6 := e36.live st2.live
            refine ⟨acc, e36.keep _ _ (Ne.symm hSa) hD, ?_, ds.length - (i + 1), by omega, rfl, hlt, acc ++ [v], es ++ [y], (e2.trans e36).mut st1.live nD, upd_same, ?_, by simp; omega, p6⟩
            · rw [ra.length]
              exact Nat.lt_of_lt_of_le (show es.length < 2000000 by omega) (by decide)
            · exact RepAll.mutp hDM hSa hSl ((ra.ext e36 st2.live hm).append (.cons r6 .nil))
          match ifs, hl, p4 with
          | [], _, p4 =>
            have p4' : EB X scope elt Γ4 fun y => Acc (i + 1) (es ++ [y]) := by simpa [TsB] using p4
            have q := big H3 .refl p4'
            simp only [semTs, tYes, if_true]
            exact q
          | [c], _, p4 =>
            intro s0 Hb C cl fp
            refine (show TB X scope c Γ4 _ from p4) s0 Hb C cl fp S B (O ++ [Dl]) H0 H3 σ4 st4 _ fun b H5 e5 p5 => ?_
            cases b with
            | true => exact iteT (big H5 e5 (by simpa using p5))
            | false => exact iteF (fin H5 e5 (by simpa using p5))
          | _ :: _ :: _, hl, _ => simp at hl
      rcases y with ⟨rfl, r⟩ | ⟨p, vs, es', rfl, rfl, np, rfl, r⟩
      · exact go _ .refl ((r.more hn fun _ => hm).ext e2 st1.live hm)
      · exact go _ (.new np) (rep_tup st2 ((r.more hn fun _ => hm).ext e2 st1.live hm) np)
    · have e : i = ds.length := by omega
      subst e
      refine .inl ⟨w.stop H2 kp, k _ _ H2 (e1.trans e2) (.lst (.inl ⟨hDB, .inl hD⟩) (ra.less (fun a ha => ?_) st.m)) (hd es ac)⟩
      rcases List.mem_append.mp ha with q | q
      · exact List.mem_append_left _ q
      · exact List.mem_append_right _ (List.mem_append_left _ q)

theorem ex_lc {elt iter : Expr} {ifs : List Expr} {scope : Scope} {own : List (Str × Nat)} {gt : TG} {Gd : GD} {js : List Nat} {P : D → Prop} (hc : X.calm = true) (hnd : X.N.Nodup) (ok : BlkOk X.N X.env.scope scope own)
    (hg : ∀ (s : Shared) (H : Hp) (C : Addr) (cl : List (Str × Addr)) (fp : List Addr), PG (X.blk s H scope (compEnvC scope cl C X.env) fp) tg gt) (hG : TgOk X.K gt Gd js) (hj : ∀ j ∈ js, j ∈ own.map (·.2)) (hl : ifs.length ≤ 1) (Γw : List E) (hw : wipeE Γ (own.map (·.2)) = Γw)
    (h : WX X tg iter Γ fun ds => ds.length ≤ 1000000 ∧ ∃ Acc : Nat → List D → Prop, Acc 0 [] ∧ (∀ i d es, ds[i]? = some d → Acc i es → Gd d Γw fun Γ' => TsB X scope ifs Γ' fun b =>
      if b then EB X scope elt Γ' fun y => Acc (i + 1) (es ++ [y]) else Acc (i + 1) es) ∧ ∀ es, Acc ds.length es → P (.lst es))
    (hs : ∀ x, foldedSetIterable iter X.env x = pure x := by intro _; rfl) : EX X (.ListComp elt [⟨tg, iter, ifs, 0⟩] scope pos) Γ P :=
  ex_of (pe_lc hc hnd pi_sem ok hg (pts_sem hl) pe_semB hs) (lc_read hc hG hj hl Γw hw h)
theorem s_setLc (i : Nat) {N : List Str} {y : Str} {py spos : Pos} {elt iter : Expr} {ifs : List Expr} {scope : Scope} {own : List (Str × Nat)} {gt : TG} {Gd : GD} {js : List Nat} (hX : X.N = N) (hc : X.calm = true) (hnd : X.N.Nodup) (ok : BlkOk X.N X.env.scope scope own)
    (hg : ∀ (s : Shared) (H : Hp) (C : Addr) (cl : List (Str × Addr)) (fp : List Addr), PG (X.blk s H scope (compEnvC scope cl C X.env) fp) tg gt) (hG : TgOk X.K gt Gd js) (hj : ∀ j ∈ js, j ∈ own.map (·.2)) (hl : ifs.length ≤ 1) (Γw : List E) (hw : wipeE Γ (own.map (·.2)) = Γw)
    (h : WX X tg iter Γ fun ds => ds.length ≤ 1000000 ∧ ∃ Acc : Nat → List D → Prop, Acc 0 [] ∧ (∀ i d es, ds[i]? = some d → Acc i es → Gd d Γw fun Γ' => TsB X scope ifs Γ' fun b =>
      if b then EB X scope elt Γ' fun y => Acc (i + 1) (es ++ [y]) else Acc (i + 1) es) ∧ ∀ es, Acc ds.length es → po.nx (put Γ i (.is (.lst es))))
    (hN : nth N i = some y) (hyl : X.env.scope.names.lookup y = some .local) (hsw : swapsWith (.ListComp elt [⟨tg, iter, ifs, 0⟩] scope pos) (some (.Name y py)) spos.line X.env = pure true)
    (hs : ∀ x, foldedSetIterable iter X.env x = pure x := by intro _; rfl) : S1 X (.Assign [.Name y py] (.ListComp elt [⟨tg, iter, ifs, 0⟩] scope pos) spos) Γ po := by
  rw [nth_eq] at hN
  exact fun S B O H0 H σ st Dn kk => semS_of (ps_setLc (i := i) hc hnd (by rw [hX]; exact hN) hyl hsw pi_sem ok hg (pts_sem hl) pe_semB hs)
    (lc_read (P := fun d => po.nx (put Γ i (.is d))) hc hG hj hl Γw hw h S B O H0 H σ st _ fun v d H1 e1 r1 p1 => kk.nx O H1 _ _ (by rw [put_eq]; exact (st.to e1).set i r1) (st.adv e1) p1)
end
end G
set_option Elab.async false
set_option linter.all false
set_option maxRecDepth 100000
set_option maxHeartbeats 1000000
namespace G
open PySem PySem.Spec PyProof.Rows L2
section
variable {P : D → Prop}
theorem o_add {i j : Int} (h : P (.int (i + j))) : wAdd (.int i) (.int j) P := h
theorem o_adds {i j : Str} (h0 : i.length + j.length ≤ sizeLine) (h : P (.str (i ++ j))) : wAdd (.str i) (.str j) P := ⟨h0, h⟩
theorem o_addt {i j : List D} (h0 : i.length + j.length ≤ sizeLine) (h : P (.tup (i ++ j))) : wAdd (.tup i) (.tup j) P := ⟨h0, h⟩
theorem o_sub {i j : Int} (h : P (.int (i - j))) : wSub (.int i) (.int j) P := ⟨trivial, h⟩
theorem o_mul {i j : Int} (h0 : CBig i j) (h : P (.int (i * j))) : wMul (.int i) (.int j) P := ⟨h0, h⟩
theorem o_mod {i j : Int} (h0 : j ≠ 0) (h : P (.int (i.fmod j))) : wMod (.int i) (.int j) P := ⟨h0, h⟩
theorem o_fdiv {i j : Int} (h0 : CDv i j) (h : P (.int (i.fdiv j))) : wFdiv (.int i) (.int j) P := ⟨h0, h⟩
theorem o_pow {i j : Int} (h0 : CPow i j) (h : P (.int (i ^ j.toNat))) : wPow (.int i) (.int j) P := ⟨h0, h⟩
theorem o_lt {i j : Int} (h : P (.bl (decide (i < j)))) : wLt (.int i) (.int j) P := ⟨trivial, h⟩
theorem o_le {i j : Int} (h : P (.bl (decide (i ≤ j)))) : wLe (.int i) (.int j) P := ⟨trivial, h⟩
theorem o_gt {i j : Int} (h : P (.bl (decide (j < i)))) : wGt (.int i) (.int j) P := ⟨trivial, h⟩
theorem o_ge {i j : Int} (h : P (.bl (decide (j ≤ i)))) : wGe (.int i) (.int j) P := ⟨trivial, h⟩
theorem o_eq {a b : D} {k : Bool} (e : sEq a b = some k) (h : P (.bl k)) : wEq a b P := by
  unfold wEq
  rw [e]
  exact h
theorem o_ne {a b : D} {k : Bool} (e : sEq a b = some k) (h : P (.bl (!k))) : wNe a b P := by
  unfold wNe
  rw [e]
  exact h
theorem o_is {a : D} (h : P (.bl (isNon a))) : wIs a .non P := h
theorem o_isnot {a : D} (h : P (.bl (!isNon a))) : wIsNot a .non P := h
theorem o_ixl {l : List D} {k : Int} {d : D} (e : atI l k = some d) (h : P d) : wIx (.lst l) (.int k) P := ⟨d, e, h⟩
theorem o_ixt {l : List D} {k : Int} {d : D} (e : atI l k = some d) (h : P d) : wIx (.tup l) (.int k) P := ⟨d, e, h⟩
theorem o_lenl {l : List D} (h : P (.int l.length)) : wLen [.lst l] P := h
theorem o_lent {l : List D} (h : P (.int l.length)) : wLen [.tup l] P := h
theorem o_lens {z : Str} (h0 : z.length ≤ sizeLine) (h : P (.int z.length)) : wLen [.str z] P := ⟨h0, h⟩
theorem o_abs {i : Int} (h : P (.int (if i < 0 then -i else i))) : wAbs [.int i] P := h
theorem o_int {i : Int} (h : P (.int i)) : wInt [.int i] P := h
theorem o_str {i : Int} (h0 : i.natAbs.log2 < 1920) (h : P (.str (toString i))) : wStr [.int i] P := ⟨h0, h⟩
theorem o_listl {l : List D} (h : P (.lst l)) : wList [.lst l] P := h
theorem o_listt {l : List D} (h : P (.lst l)) : wList [.tup l] P := h
theorem o_tupl {l : List D} (h : P (.tup l)) : wTuple [.lst l] P := h
theorem o_tupt {l : List D} (h : P (.tup l)) : wTuple [.tup l] P := h
theorem o_all {bs : List Bool} (h : P (.bl (bs.all id))) : wAll [.lst (bs.map D.bl)] P := ⟨bs, rfl, h⟩
theorem o_gcd {i j : Int} (h : P (.int ((Nat.gcd i.natAbs j.natAbs : Nat) : Int))) : wGcd [.int i, .int j] P := h
theorem o_isi {d : D} {n t : String} {b : Bool} (e1 : tyD d = some t) (e2 : kitB t n = some b) (h : P (.bl b)) : wIsi [d, .ty n] P := ⟨t, b, e1, e2, h⟩
theorem o_isi2 {d : D} {n1 n2 t : String} {b1 b2 : Bool} (e1 : tyD d = some t) (e2 : kitB t n1 = some b1) (e3 : kitB t n2 = some b2) (h : P (.bl (b1 || b2))) :
    ∃ n1' n2' t k1 k2, D.ty n1 = .ty n1' ∧ D.ty n2 = .ty n2' ∧ tyD d = some t ∧ kitB t n1' = some k1 ∧ kitB t n2' = some k2 ∧ P (.bl (k1 || k2)) := ⟨n1, n2, t, b1, b2, rfl, rfl, e1, e2, e3, h⟩
theorem o_asB {P : Bool → Prop} {b : Bool} (h : P b) : asB P (.bl b) := h
theorem o_asI {P : Int → Prop} {b : Int} (h : P b) : asI P (.int b) := h
theorem o_asL {P : List D → Prop} {b : List D} (h : P b) : asL P (.lst b) := h
theorem o_asT {P : List D → Prop} {b : List D} (h : P b) : asT P (.tup b) := h
theorem o_truB {P : Bool → Prop} {b : Bool} (h : P b) : asTru P (.bl b) := h
theorem o_truN {P : Bool → Prop} (h : P false) : asTru P .non := h
theorem o_truL {P : Bool → Prop} {l : List D} (h : P (!l.isEmpty)) : asTru P (.lst l) := h
theorem o_truT {P : Bool → Prop} {l : List D} (h : P (!l.isEmpty)) : asTru P (.tup l) := h
theorem if_t {p q : Prop} (h : p) : if true = true then p else q := iteT h
theorem if_f {p q : Prop} (h : q) : if false = true then p else q := iteF h
theorem if_d {p q : Prop} {b : Bool} (h1 : b = true → p) (h2 : b = false → q) : if b = true then p else q := by
  cases b with
  | true => exact iteT (h1 rfl)
  | false => exact iteF (h2 rfl)
theorem if_nf {p q : Prop} (h : p) : if (!false) = true then p else q := iteT h
theorem if_nt {p q : Prop} (h : q) : if (!true) = true then p else q := iteF h
theorem if_ev_t {p q : Prop} {b : Bool} (e : b = true) (h : p) : if b = true then p else q := by
  rw [e]
  exact iteT h
theorem if_ev_f {p q : Prop} {b : Bool} (e : b = false) (h : q) : if b = true then p else q := by
  rw [e]
  exact iteF h
/-- the arms of a test of truth, by the proposition -/
theorem if_dec {p q c : Prop} [Decidable c] (h1 : c → p) (h2 : ¬ c → q) : if decide c = true then p else q := by
  by_cases h : c
  · rw [decide_eq_true h]; exact iteT (h1 h)
  · rw [decide_eq_false h]; exact iteF (h2 h)
theorem if_ndec {p q c : Prop} [Decidable c] (h1 : ¬ c → p) (h2 : c → q) : if (!decide c) = true then p else q := by
  by_cases h : c
  · rw [decide_eq_true h]; exact iteF (h2 h)
  · rw [decide_eq_false h]; exact iteT (h1 h)
end
section
variable {X : Cx} {x : Str} {W : WA}
theorem CallOk.blk (h : CallOk X x W) {s H sc env fp} : CallOk (X.blk s H sc env fp) x W := ⟨h.ex⟩
theorem CallOkK.blk {np ks} {W : List D → WA} (h : CallOkK X x np ks W) {s H sc env fp} : CallOkK (X.blk s H sc env fp) x np ks W := ⟨h.ex⟩
theorem ConstOk.blk {d} (h : ConstOk X x d) {s H sc env fp} : ConstOk (X.blk s H sc env fp) x d := ⟨h.ex⟩
end
theorem bt_isi : bootBuiltins "isinstance" = some (.builtin "isinstance") := by decide +kernel
theorem bt_len : bootBuiltins "len" = some (.builtin "len") := by decide +kernel
theorem bt_all : bootBuiltins "all" = some (.builtin "all") := by decide +kernel
theorem bt_abs : bootBuiltins "abs" = some (.builtin "abs") := by decide +kernel
theorem bt_int : bootBuiltins "int" = some (.type "int") := by decide +kernel
theorem bt_str : bootBuiltins "str" = some (.type "str") := by decide +kernel
theorem bt_bool : bootBuiltins "bool" = some (.type "bool") := by decide +kernel
theorem bt_list : bootBuiltins "list" = some (.type "list") := by decide +kernel
theorem bt_tuple : bootBuiltins "tuple" = some (.type "tuple") := by decide +kernel
theorem kb0 : kitB "NoneType" "int" = some false := by decide +kernel
theorem kb1 : kitB "NoneType" "bool" = some false := by decide +kernel
theorem kb2 : kitB "NoneType" "str" = some false := by decide +kernel
theorem kb3 : kitB "NoneType" "list" = some false := by decide +kernel
theorem kb4 : kitB "NoneType" "tuple" = some false := by decide +kernel
theorem kb5 : kitB "bool" "int" = some true := by decide +kernel
theorem kb6 : kitB "bool" "bool" = some true := by decide +kernel
theorem kb7 : kitB "bool" "str" = some false := by decide +kernel
theorem kb8 : kitB "bool" "list" = some false := by decide +kernel
theorem kb9 : kitB "bool" "tuple" = some false := by decide +kernel
theorem kb10 : kitB "int" "int" = some true := by decide +kernel
theorem kb11 : kitB "int" "bool" = some false := by decide +kernel
theorem kb12 : kitB "int" "str" = some false := by decide +kernel
theorem kb13 : kitB "int" "list" = some false := by decide +kernel
theorem kb14 : kitB "int" "tuple" = some false := by decide +kernel
theorem kb15 : kitB "str" "int" = some false := by decide +kernel
theorem kb16 : kitB "str" "bool" = some false := by decide +kernel
theorem kb17 : kitB "str" "str" = some true := by decide +kernel
theorem kb18 : kitB "str" "list" = some false := by decide +kernel
theorem kb19 : kitB "str" "tuple" = some false := by decide +kernel
theorem kb20 : kitB "tuple" "int" = some false := by decide +kernel
theorem kb21 : kitB "tuple" "bool" = some false := by decide +kernel
theorem kb22 : kitB "tuple" "str" = some false := by decide +kernel
theorem kb23 : kitB "tuple" "list" = some false := by decide +kernel
theorem kb24 : kitB "tuple" "tuple" = some true := by decide +kernel
theorem kb25 : kitB "list" "int" = some false := by decide +kernel
theorem kb26 : kitB "list" "bool" = some false := by decide +kernel
theorem kb27 : kitB "list" "str" = some false := by decide +kernel
theorem kb28 : kitB "list" "list" = some true := by decide +kernel
theorem kb29 : kitB "list" "tuple" = some false := by decide +kernel
end G
set_option Elab.async false
set_option linter.all false
set_option maxRecDepth 100000
set_option maxHeartbeats 4000000
namespace G
open PySem PySem.Spec PyProof.Rows L2
/-! ### own exception classes, their instances as data -/
/-- what is asked of an own exception class -/
structure ExK (K : PySem.W.Frag) (C : Addr) : Prop where
  base : ∃ B newId initId bmB, ExcBaseFacts B newId initId bmB ∧ StoreFacts B bmB "object.__setattr__" "object" ∧ PySem.W.excInitIn K C bmB newId = true ∧ PySem.W.excOver K C bmB = true
  sa : PySem.W.findIn K (.ref C) "__setattr__" = some (some (.builtin "object.__setattr__"))
  kC : PySem.W.keepIn K (.ref C) = true
  c : ExcC K C
theorem ExK.hasDict {K C} (T : ExK K C) : PySem.W.hasDictIn K C = true := T.c.hd
theorem taker_of {K : PySem.W.Frag} {C : Addr} {f : Str} (h : PySem.W.findIn K (.ref C) f = some none) : PySem.W.takerIn K C f = some none := by
  unfold PySem.W.takerIn
  rw [h]
  rfl
section
variable {X : Cx} {pins : List (Addr × Obj)} {σ : L2.St} {H : Hp} {s : Shared} {a C dx : Addr} {f : Str} {y : V} {u : Value} {fs : List (Str × V)} {Q : Unit → Shared → Prop} {E : Value → Shared → Prop} {A : Around}
theorem inv_first {hp h' : Heap} {g : Array GenState} {d : Drawn} {t t' : Nat} {os : OsState} {m1 : Str → Option Value} (I : Inv X pins σ H ⟨hp, g, d, t, os⟩) (e : H a = some (exo a C none)) (k : ∀ b o, b ≠ a → hp.get? b = some o → h'.get? b = some o)
    (big : hp.objs.size ≤ dx) (dne : dx ≠ a) {t1 : Addr} (hx : h'.get? a = some ({ cls := .ref C, dict := some dx, data := .fields #[.ref t1, .none, .none, .none, .bool false, .none] } : Obj)) (hn : h'.Ns1 dx m1) (rel : ∀ z, RelO (List.lookup z fs) (m1 z)) :
    Inv X pins σ (upd (upd H dx (exd dx fs)) a (exo a C (some dx))) ⟨h', g, d, t', os⟩ := by
  have free : H dx = none := I.hok.fresh big
  have old : ∀ {b : Addr} {o : Obj}, hp.get? b = some o → b ≠ dx := fun {b o} q => Nat.ne_of_lt (Nat.lt_of_lt_of_le (Heap.lt_size q) big)
  have nota : ∀ {b : Addr}, H b = none → b ≠ a := fun {b} n z => by rw [z, e] at n; cases n
  have two : ∀ {b : Addr} {o : HO}, H b = some o → exo a C none ≠ o → upd (upd H dx (exd dx fs)) a (exo a C (some dx)) b = some o := fun {b o} q z => by
    rw [upd_ne (at_ne e q z), upd_ne (ne_of_none q free)]; exact q
  have step : Un X.fs [] H (upd (upd H dx (exd dx fs)) a (exo a C (some dx))) hp h' := {
    keep := fun b o q n _ _ => k b o (nota n) q
    slot := fun b o q n _ _ => ⟨o.slots, k b o (nota n) q⟩
    free := fun b o q n _ => by rw [upd_ne (nota n), upd_ne (old q)]; exact n
    there := fun b o q _ => if hb : b = a then hb ▸ ⟨_, hx⟩ else ⟨o, k b o hb q⟩
    tups := fun b xs q => two q exo_tup
    frzs := fun b o v q => two q exo_frz
    tbls := fun b ps q => ⟨#[], by rw [two q exo_tbl]; simp⟩ }
  refine I.un (t' := t') step fun b o q => ?_
  by_cases hb : b = a
  · rw [hb, upd_same] at q
    cases q
    rw [hb]
    exact exo_ok hx
  · rw [upd_ne hb] at q
    by_cases hd : b = dx
    · rw [hd, upd_same] at q
      cases q
      rw [hd]
      exact exd_ok hn rel
    · rw [upd_ne hd] at q
      refine (I.hok b o q).stay (fun c v hc z => k c v ?_ z) (fun c hc => two hc exo_own) fun c xs hc => two hc exo_tup
      exact hc.elim (fun hc => hc ▸ hb) fun hc => at_ne e hc exo_own
/-- the first field of an instance -/
theorem set_first (T : ExK X.K C) (I : Inv X pins σ H s) (e : H a = some (exo a C none)) (hno : PySem.W.findIn X.K (.ref C) f = some none) (ry : RelV y u)
    (h : ∀ dx s', H dx = none → dx ≠ a → Inv X pins σ (upd (upd H dx (exd dx [(f, y)])) a (exo a C (some dx))) s' → Q () s') : wpAny (model X.prog X.w) A (setAttr (.ref a) f u) Q E s := by
  obtain ⟨B, newId, initId, bmB, F, SF, q1, q2⟩ := T.base
  obtain ⟨t1, ho⟩ := exo_at I.hok e
  obtain ⟨cd, hc, hd'⟩ := PySem.W.any_some T.hasDict
  obtain ⟨hp, g, d, t, os⟩ := s
  have LC := PySem.W.looks_clsIn (M := model X.prog X.w) I.kIn hc
  refine PySem.W.set_plain I.kIn (ox := { cls := .ref C, dict := none, data := .fields #[.ref t1, .none, .none, .none, .bool false, .none] }) (od := none) ⟨ho, rfl, rfl, trivial⟩ T.sa ?_
  refine PySem.W.osa_openX (od := none) SF (show X.K.In _ from I.kIn) ⟨ho, rfl, rfl, trivial⟩ q2 (taker_of hno) fun b => ?_
  refine wpAny_bind (wpAny_pure (wpAny_bind (PySem.W.instanceDict_exc (t := t1) ho LC hd' ?_)))
  have ne : a ≠ hp.objs.size := Nat.ne_of_lt (Heap.lt_size ho)
  refine PySem.HandSPX.store_in_new ⟨_, #[], _, (Heap.get?_update_ne _ _ _ _ ne.symm).trans (Heap.get?_push_at rfl rfl), rfl, fun e he => absurd he (by simp), fun _ => rfl⟩ fun h' tk' hn' hs => ?_
  have hx : (hp.push { cls := .type "dict", data := .dict #[] }).get? a = _ := Heap.get?_push_of_some _ ho
  have hx' : h'.get? a = some ({ cls := .ref C, dict := some hp.objs.size, data := .fields #[.ref t1, .none, .none, .none, .bool false, .none] } : Obj) := (hs.2 a ne).trans (Heap.get?_update_self _ hx rfl)
  have k : ∀ b o, b ≠ a → hp.get? b = some o → h'.get? b = some o := fun b o hb hq => (hs.2 b (Nat.ne_of_lt (Heap.lt_size hq))).trans ((Heap.get?_update_ne _ _ _ _ hb).trans (Heap.get?_push_of_some _ hq))
  exact h hp.objs.size _ (I.hok.fresh (Nat.le_refl _)) ne.symm (inv_first (t' := tk') I e k (Nat.le_refl _) ne.symm hx' hn' (relO_put (fs := []) ry fun _ => True.intro))
/-- a further field -/
theorem set_more (T : ExK X.K C) (I : Inv X pins σ H s) (e : H a = some (exo a C (some dx))) (ed : H dx = some (exd dx fs)) (hl : fs.length ≤ 900) (hno : PySem.W.findIn X.K (.ref C) f = some none) (ry : RelV y u)
    (h : ∀ s', Inv X pins σ (upd H dx (exd dx ((f, y) :: fs))) s' → Q () s') : wpAny (model X.prog X.w) A (setAttr (.ref a) f u) Q E s := by
  obtain ⟨B, newId, initId, bmB, F, SF, q1, q2⟩ := T.base
  obtain ⟨t1, ho⟩ := exo_at I.hok e
  obtain ⟨mA, hns, rel⟩ := exd_at I.hok ed
  obtain ⟨cd, hc, hd'⟩ := PySem.W.any_some T.hasDict
  have hw := within_of rel
  obtain ⟨hp, g, d, t, os⟩ := s
  obtain ⟨oD, _, _, hoD, _, _⟩ := hns.count hw
  have LC := PySem.W.looks_clsIn (M := model X.prog X.w) I.kIn hc
  refine PySem.W.set_plain I.kIn (ox := { cls := .ref C, dict := some dx, data := .fields #[.ref t1, .none, .none, .none, .bool false, .none] }) (od := some oD) ⟨ho, rfl, rfl, hoD⟩ T.sa ?_
  refine PySem.W.osa_openX (od := some oD) SF (show X.K.In _ from I.kIn) ⟨ho, rfl, rfl, hoD⟩ q2 (taker_of hno) fun b => ?_
  refine wpAny_bind (wpAny_pure (wpAny_bind (wpAny_bind (wpAny_loadPart ho (wpAny_bind (LC.at ?_))))))
  rw [hd']
  refine wpAny_pure (a := some dx) ?_
  refine PySem.OEX.store_in_old hns hw (by rw [List.length_map]; omega) fun h' tk' hn hs => ?_
  have there : ∃ o, h'.get? dx = some o := by
    obtain ⟨o, _, _, e', _⟩ := hn
    exact ⟨o, e'⟩
  exact h _ (I.write (t' := tk') (x := dx) (e := dx) (o := exd dx ((f, y) :: fs)) (by rw [ed]; exact True.intro) (.inl rfl) (fun b o hb hq => (hs.2 b hb).trans hq) there (exd_ok hn (relO_put ry rel)))
end
end G
set_option Elab.async false
set_option linter.all false
set_option maxRecDepth 100000
set_option maxHeartbeats 4000000
namespace G
open PySem PySem.Spec PyProof.Rows L2
/-! ### isinstance of an instance with its dict -/
section
open PySem.W PySem.Calls
theorem find_class {K : PySem.W.Frag} {C : Addr} (c : ExcC K C) (od : Option Obj) : findObj K C od "__class__" = some (.bind (.builtin "getset_descriptor.__get__") (.builtin "object.__class__")) := by
  obtain ⟨cd, hc, _⟩ := any_some c.hd
  unfold findObj
  rw [hc, Option.bind_some, c.ha, Option.bind_some]; simp [c.hn, c.ht]
theorem read_class {prog : Program} {w : World} {A : Around} {E : Value → Shared → Prop} {s : Shared} {K : PySem.W.Frag} {x C : Addr} {ox : Obj} {od : Option Obj} {Q : Option Value → Shared → Prop} (c : ExcC K C) (X : K.In s.heap) (I : InstAt s.heap x ox C od)
    (h : Q (some (.ref C)) { s with toks := s.toks + 1 }) : wpAny (model prog w) A (getAttr? (.ref x) "__class__") Q E s := by
  obtain ⟨hp, g, d, t, os⟩ := s
  have lt := I.type (M := model prog w); have la := looks_findIn (M := model prog w) X c.hg; have lk := looks_findIn (M := model prog w) X c.hk; have lf := looks_find (M := model prog w) X I (find_class c od)
  have sub : Looks (model prog w) hp (isInstance (.ref x) (.type "BaseException")) true := lt.andThen (looks_subIn X c.hs)
  have n2 : (Value.builtin "BaseException.__getattribute__" == Value.builtin "object.__getattribute__") = false := by decide +kernel
  have n1 : (onTheHeap (Value.ref C) && Value.builtin "BaseException.__getattribute__" == Value.builtin "object.__getattribute__") = false := by rw [n2]; rfl
  have n0 : (false && onTheHeap (Value.builtin "BaseException.__getattribute__")) = false := rfl
  unfold getAttr? getAttrBy? getAttrBy; refine wpAny_bind (wpAny_mkText (wpAny_bind (wpAny_attempt (wpAny_holding (wpAny_bind (lt.at (wpAny_bind (la.at ?_))))))))
  show wpAny _ _ (if (onTheHeap (Value.ref C) && Value.builtin "BaseException.__getattribute__" == Value.builtin "object.__getattribute__") = true then _ else _) _ _ _; rw [n1, if_neg Bool.false_ne_true]
  unfold getAttrByItsOwn hookBefore; refine wpAny_bind ?_; rw [if_pos (show onTheHeap (Value.ref C) = true from rfl)]; refine lk.at (wpAny_bind (wpAny_attempt (wpAny_holding ?_)))
  unfold callGetattribute; rw [n0, if_neg Bool.false_ne_true]; unfold boundAndCalled; rw [PySem.F.excAttr_ValueError.ga.bind (.ref x)]; refine wpAny_bind (wpAny_pure ?_)
  show wpAny _ _ (call (.builtin "BaseException.__getattribute__") [.ref x, .str "__class__" t]) _ _ _; refine wpAny_call (codeAny_call_builtin PySem.F.excAttr_ValueError.ga.plain PySem.F.entry_bexc_ga (@check_slot (model prog w) _ _ ⟨hp, g, d, t + 1, os⟩ "BaseException.__getattribute__" "BaseException" "__getattribute__" (.ref x) [.str "__class__" t] [] _ (by decide +kernel) (by decide +kernel) sub (PySem.F.args_bexc_ga (.ref x) (.str "__class__" t)) ?_))
  unfold Builtin.«object.__getattribute__»; refine wpAny_bind (wpAny_of_eq (a := ((Value.ref x : Value), [Value.str "__class__" t])) (by first | rfl | (simp only [slotArgs]; rfl)) (wpAny_bind (wpAny_pure (wpAny_bind (lt.at (wpAny_bind (lf.at ?_)))))))
  show wpAny _ _ (holding [Value.builtin "object.__class__"] (call (.builtin "getset_descriptor.__get__") [.builtin "object.__class__", .ref x, .ref C]) >>= ret) _ _ _; refine wpAny_bind (wpAny_holding (wpAny_call (class_get (s := ⟨hp, g, d, t + 1, os⟩) (ox := ox) (od := od) X I c.hm (wpAny_pure ?_))))
  show wpAny _ _ (handedOut (.ref C)) _ _ _; rw [handedOut_of (v := .ref C) rfl]
  first
    | exact wpAny_pure (wpAny_pure h)
    | exact wpAny_pure h
    | exact wpAny_pure (wpAny_bind (wpAny_pure (wpAny_pure h)))
theorem kit_inst {K : PySem.W.Frag} {x C : Addr} (c : ExcC K C) : KitX K (.ref x) (.ref C) (fun h => ∃ ox od, InstAt h x ox C od) where
  ty := fun _ _ _ ⟨_, _, I⟩ => I.type
  it := fun _ _ X _ => by
    obtain ⟨cd, hc, _⟩ := any_some c.hd; unfold clsIn at hc
    split at hc
    · rename_i ho
      exact fun A' Q' E' s' k q => by unfold isType loadHead; exact wpAny_bind (wpAny_loadPart (k _ _ (X _ _ ho)) (wpAny_pure q))
    · cases hc
  ne := fun h tp dd its n sl X htp => by
    obtain ⟨cd, hc, _⟩ := any_some c.hd
    refine Bool.eq_false_iff.mpr fun q => ?_
    obtain rfl : C = tp := Value.ref.inj (beq_iff_eq.mp q)
    unfold clsIn at hc
    split at hc
    · rename_i ho
      cases (X _ _ ho).symm.trans htp
    · cases hc
  ca := fun X ⟨_, _, I⟩ k => read_class c X I k
end
section
variable {X : Cx} {Γ : List E} {P : D → Prop} {pos : Pos} {C : Addr}
theorem inst_at {P : Program} {w : World} {H : Hp} {h : Heap} {a dx : Addr} {fs : List (Str × V)} (ok : HOk P w H h) (e : H a = some (exo a C (some dx))) (ed : H dx = some (exd dx fs)) : ∃ (ox od : Obj) (mA : Str → Option Value), PySem.W.InstAt h a ox C (some od) ∧ (∀ n, PySem.W.lookIn n od = some (mA n)) ∧ ∀ n, RelO (fs.lookup n) (mA n) := by
  obtain ⟨t1, ho⟩ := exo_at ok e
  obtain ⟨mA, hns, rel⟩ := exd_at ok ed
  obtain ⟨od, hd, hl⟩ := lookIn_ns hns
  exact ⟨_, od, mA, ⟨ho, rfl, rfl, hd⟩, hl, rel⟩
/-- isinstance(e, c) -/
def rIsX (K : PySem.W.Frag) : List V → Hp → VK → Prop := fun xs H Q => ∃ (a C dx : Addr) (fs : List (Str × V)) (c : V) (cv : Value) (b : Bool), xs = [.ref a, c] ∧ ExcC K C ∧ H a = some (exo a C (some dx)) ∧ H dx = some (exd dx fs) ∧ (∀ u, RelV c u → u = cv) ∧ PySem.W.kitOne K (.ref C) cv = some b ∧ Q (.bl b) H
theorem call_isX : CallR X (.builtin "isinstance") (rIsX X.K) := by
  intro pins s σ H xs us Q I r h
  obtain ⟨a, C, dx, fs, c, cv, b, rfl, T, ha, hd, hcv, e, q⟩ := h
  cases r with
  | cons rx rr =>
    cases rr with
    | cons rt rr =>
      cases rr
      cases rx
      obtain rfl := hcv _ rt
      obtain ⟨ox, od, _, J, _⟩ := inst_at I.hok ha hd
      exact PySem.W.kia_one (kit_inst T) I.kIn ⟨ox, _, J⟩ e (fun z => nomatch z) fun tk => ⟨.bl b, H, I.kept (t' := tk) fun _ _ z => z, rfl, q⟩
def wIsiX (K : PySem.W.Frag) : WA := fun ds P => match ds with
  | [.exc C _ _, .cls c] => ∃ b, ExcC K C ∧ PySem.W.kitOne K (.ref C) (.ref c) = some b ∧ P (.bl b)
  | [.exc C _ _, .ty n] => ∃ b, ExcC K C ∧ PySem.W.kitOne K (.ref C) (.type n) = some b ∧ P (.bl b)
  | _ => False
theorem bi_isiX : BiD X (.builtin "isinstance") (wIsiX X.K) := by
  intro S B O H0 H σ Γ P vs ds st r h
  match ds, r, h with
  | [.exc C ns fs, .cls c], r, h =>
    obtain ⟨v, w, rfl, r1, r2⟩ := r.two
    obtain ⟨b, T, e, p⟩ := h
    cases r2
    cases r1 with
    | exc h1 ha h2 hd rr => exact ⟨_, call_isX, fun Q k => ⟨_, _, _, _, _, _, b, rfl, T, ha, hd, fun u ru => ru, e, k _ _ H .refl (.bl b) p⟩⟩
  | [.exc C ns fs, .ty n], r, h =>
    obtain ⟨v, w, rfl, r1, r2⟩ := r.two
    obtain ⟨b, T, e, p⟩ := h
    cases r2
    cases r1 with
    | exc h1 ha h2 hd rr => exact ⟨_, call_isX, fun Q k => ⟨_, _, _, _, _, _, b, rfl, T, ha, hd, fun u ru => ru, e, k _ _ H .refl (.bl b) p⟩⟩
/-- e.f -/
theorem RepAll.look {K S M H} {n : Str} : ∀ {ns : List Str} {vs : List V} {ds : List D} {d : D}, RepAll K S M H vs ds → (ns.zip ds).lookup n = some d → ∃ v, (ns.zip vs).lookup n = some v ∧ Rep K S M H v d
  | [], _, _, _, _, h => by simp [List.lookup] at h
  | _ :: _, _, _, _, .nil, h => by simp [List.lookup] at h
  | m :: ns, _, _, d, .cons (v := v) (d := d0) hv t, h => by
    have lk : ∀ {α : Type} (z : α) (l : List (Str × α)), ((m, z) :: l).lookup n = if n = m then some z else l.lookup n := fun z l => by
      by_cases e : n = m
      · subst e
        simp [List.lookup]
      · have e' : (n == m) = false := by simpa using e
        rw [if_neg e]
        simp [List.lookup, e']
    rw [List.zip_cons_cons, lk] at h ⊢
    by_cases e : n = m
    · rw [if_pos e] at h ⊢
      cases h
      exact ⟨v, rfl, hv⟩
    · rw [if_neg e] at h ⊢
      exact t.look h
structure FldOk (K : PySem.W.Frag) (C : Addr) (n : Str) : Prop where
  c : ExcC K C
  no : PySem.W.findIn K (.ref C) n = some none
theorem pe_fld {e : Expr} {te : TE} {n : Str} (he : PE X e te) (hb : attributeBase e n X.env (eval e X.env) = eval e X.env := by rfl) :
    PE X (.Attribute e n pos) (fun σ H Q => te σ H fun x H1 => ∃ (a C dx : Addr) (fs : List (Str × V)) (v : V), x = .ref a ∧ FldOk X.K C n ∧ H1 a = some (exo a C (some dx)) ∧ H1 dx = some (exd dx fs) ∧ fs.lookup n = some v ∧ Q v H1) := by
  refine ⟨fun pins s σ H Q I h => ?_⟩
  refine attr_of hb (thn (he.run pins s σ H _ I h) fun u s1 ⟨x, H1, I1, rx, a, C, dx, fs, v, ex, T, ha, hd, l, q⟩ => ?_)
  subst ex
  obtain rfl : u = Value.ref a := rx
  obtain ⟨ox, od, mA, J, hl, rel⟩ := inst_at I1.hok ha hd
  obtain ⟨u, hu, ru⟩ := RelO.some_of (v := v) (o := mA n) (by rw [← l]; exact rel n)
  exact HandSPX.exc_get I1.kIn J T.c.hg T.c.hk T.c.hs (PySem.W.findObj_own T.c.hd T.no rfl (by rw [hl, hu])) (handed_of ru) ⟨v, H1, I1.tok _, ru, q⟩
theorem ex_fld {e : Expr} {n : Str} (h : EX X e Γ fun d => ∃ C ns ds y, d = .exc C ns ds ∧ FldOk X.K C n ∧ (List.zip ns ds).lookup n = some y ∧ P y) (hb : attributeBase e n X.env (eval e X.env) = eval e X.env := by rfl) : EX X (.Attribute e n pos) Γ P :=
  ex_of (pe_fld pe_sem hb) fun S B O H0 H σ st Q k => h S B O H0 H σ st _ fun v d H1 e1 r1 ⟨C, ns, ds, y, ed, T, l, p⟩ => by
    subst ed
    cases r1 with
    | exc h1 ha h2 hd rr =>
      obtain ⟨z, hz, rz⟩ := rr.look l
      exact ⟨_, C, _, _, z, rfl, T, ha, hd, hz, k z y H1 e1 rz p⟩

/-! ### making one -/
/-- C's own __init__: told data ds, the instance gets the fields ns with the data rs -/
def spInit (K : PySem.W.Frag) (C : Addr) (n : Nat) (ns : List Str) (R : List D → List D → Prop) : Sp := fun vs H Q _ => vs.length = n + 1 ∧ ∃ (S : Sr) (B : List Addr) (a : Addr) (ws : List V) (ds rs : List D), vs = .ref a :: ws ∧ H a = some (exo a C none) ∧ a ∈ B ∧ a ≠ S.a ∧ S.a ∈ B ∧ Live S H ∧ (∀ m ∈ B, ∃ o, H m = some o) ∧
  RepAll K S B H ws ds ∧ R ds rs ∧ ∀ (dx : Addr) (ys : List V) (H' : Hp), (∀ b o, b ≠ S.a → b ≠ a → H b = some o → H' b = some o) → (SrcOk K S H → SrcOk K S H') → Live S H' → H dx = none → H' a = some (exo a C (some dx)) → H' dx = some (exd dx (ns.zip ys)) → RepAll K S B H' ys rs → Q .non H'
theorem run_make {pins : List (Addr × Obj)} {σ : L2.St} {H : Hp} {s : Shared} {Q : VK} {us : List Value} {ws : List V} {k : Nat} {fI : Addr} {fd : FuncData} {ps : List Str} {sp : Sp} (T : ExK X.K C) (iC : PySem.W.findIn X.K (.ref C) "__init__" = some (some (.ref fI))) (tI : PySem.W.typeIn X.K (.ref fI) = some (.type "function"))
    (F1 : FnOk X.prog X.w X.K X.mg X.base CX0 k fI fd ps sp) (hr : Room (k + 1) X.A) (hb : Binds X.K fd ps []) (I : Inv X pins σ H s) (r : Vals ws us) (hz : ws.length ≤ 1000)
    (h : ∀ a, H a = none → sp (.ref a :: ws) (upd H a (exo a C none)) (fun v H2 => v = .non ∧ Q (.ref a) H2) (fun _ _ _ => False)) : wpAny (model X.prog X.w) X.A (call (.ref C) us) (EP X pins σ Q) X.xe s := by
  obtain ⟨B, newId, initId, bmB, F, SF, q1, q2⟩ := T.base
  obtain ⟨hp, g, dr, tk, os⟩ := s
  obtain ⟨nm, N', qn, bs, bm, hdct, sn, sub, ab, col, dd, k0, k1, k2, k3, k5, hC, hT⟩ := PySem.W.excInit_of I.kIn q1
  have hsz : hp.objs.size ≤ hp.objs.size + 1 := Nat.le_succ _
  have hn : H (hp.objs.size + 1) = none := I.hok.fresh hsz
  have hq := h (hp.objs.size + 1) hn
  have keeps : ∀ b o, hp.get? b = some o → ((hp.push (PySem.W.kdv_tup us)).push (PySem.HandSPX.excO C hp.objs.size)).get? b = some o := fun b o e => Heap.get?_push_of_some _ (Heap.get?_push_of_some _ e)
  have new : ((hp.push (PySem.W.kdv_tup us)).push (PySem.HandSPX.excO C hp.objs.size)).get? (hp.objs.size + 1) = some (PySem.HandSPX.excO C hp.objs.size) := by heap_get
  have I2 : Inv X pins σ (upd H (hp.objs.size + 1) (exo (hp.objs.size + 1) C none)) ⟨(hp.push (PySem.W.kdv_tup us)).push (PySem.HandSPX.excO C hp.objs.size), g, dr, tk, os⟩ := I.laid (t' := tk) (a := hp.objs.size + 1) (o := exo (hp.objs.size + 1) C none) keeps hsz (exo_ok new)
  have r2 : Vals (V.ref (hp.objs.size + 1) :: ws) (Value.ref (hp.objs.size + 1) :: us) := .cons rfl r
  have hl : (Value.ref (hp.objs.size + 1) :: us ++ []).length = ps.length := by
    rw [List.append_nil, ← F1.len _ _ _ _ hq]
    exact r2.length.symm
  have hus : us.length ≤ sizeLine := by
    rw [← Paired.length r, sizeLine_eq]
    omega
  have bnd := hb _ (Value.ref (hp.objs.size + 1) :: us) I2.kIn hl
  rw [List.append_nil] at bnd
  refine wpAny_call (PySem.HandSPX.call_own F hT hC (PySem.W.looks_findIn I.kIn iC) (fun self => PySem.W.bind_fn I.kIn self tI) hus (codeAny_mono (F1.run _ X.stack _ _ ⟨Value.ref (hp.objs.size + 1) :: us, []⟩ _ _ _ (fun _ _ _ => False) (hr.make C us []) (I2.env0.make C us []) bnd r2 hq) fun r s' hq' => ?_))
  cases r with
  | error er => exact pass0 pins σ _ _ er s' I2 hq'
  | ok fl =>
    cases fl with
    | ret u =>
      obtain ⟨v, H2, os2, bare2, un2, hok2, rv, ev, q⟩ := hq'
      subst ev
      exact ⟨rv, .ref (hp.objs.size + 1), H2, I2.call' (ch := []) os2 un2 hok2 bare2 (fun b z => absurd z (by simp)), rfl, q⟩
    | next => exact False.elim hq'
    | brk => exact False.elim hq'
    | cont => exact False.elim hq'
structure MkOk (X : Cx) (x : Str) (C : Addr) (n : Nat) (ns : List Str) (R : List D → List D → Prop) : Prop where
  ex : ∃ (k : Nat) (fI : Addr) (fd : FuncData) (ps : List Str), ExK X.K C ∧ PySem.W.findIn X.K (.ref C) "__init__" = some (some (.ref fI)) ∧ PySem.W.typeIn X.K (.ref fI) = some (.type "function") ∧ FnOk X.prog X.w X.K X.mg X.base CX0 k fI fd ps (spInit X.K C n ns R) ∧ Room (k + 1) X.A ∧ Binds X.K fd ps [] ∧ X.mg x = some (.ref C) ∧ n ≤ 900
theorem made {S B O H0 H σ n ns R vs ds rs Q} (st : StOk X.K S B O H0 H σ Γ) (r : RepAll X.K S (B ++ O) H vs ds) (hl : ds.length = n) (hR : R ds rs) (p : P (.exc C ns rs)) (k : KE X.K S (B ++ O) H P Q) :
    ∀ a, H a = none → spInit X.K C n ns R (.ref a :: vs) (upd H a (exo a C none)) (fun v H2 => v = .non ∧ Q (.ref a) H2) (fun _ _ _ => False) := fun a ha => by
  have ea : Ext X.K S H (upd H a (exo a C none)) := .new ha
  refine ⟨by rw [List.length_cons, r.length, hl], S, a :: (B ++ O), a, vs, ds, rs, rfl, upd_same, List.mem_cons_self, (let ⟨⟨o, e⟩, _⟩ := st.live; Ne.symm (ne_of_none e ha)), List.mem_cons_of_mem _ st.m, ea.live st.live, fun m hm => (List.mem_cons.mp hm).elim (fun e => by subst e; exact ⟨_, upd_same⟩) fun q => (st.to ea).bo m q,
    (r.more (M' := a :: (B ++ O)) (fun x hx n => (List.mem_cons.mp hx).elim (fun e => e ▸ ha) fun q => absurd q n) (List.mem_cons_of_mem _)).ext ea st.live (List.mem_cons_of_mem _ st.m), hR, fun dx ys H' keep src live hd h1 h2 rr => ⟨rfl, ?_⟩⟩
  have ne : dx ≠ a := fun e => by rw [e, upd_same] at hd; cases hd
  rw [upd_ne ne] at hd
  exact k _ _ H' ⟨fun b o n1 h => keep b o n1 (ne_of_none h ha) (by rw [upd_ne (ne_of_none h ha)]; exact h), fun l s => src (ea.src l s), fun _ => live⟩ (.exc (st.free ha) h1 (st.free hd) h2 (rr.less (fun _ => List.mem_cons_of_mem _) st.m)) p
theorem ex_make {x : Str} {n : Nat} {ns : List Str} {R : List D → List D → Prop} {p : Pos} {e : Expr} {es : List Expr} (c : MkOk X x C n ns R) (hg : Gl X x) (h : AX X (e :: es) Γ fun ds => ds.length = n ∧ ∃ rs, R ds rs ∧ P (.exc C ns rs)) (hdb : (x == ("__debug__" : Str)) = false := by decide)
    (he : starEach (e :: es) X.env = (false, eval e X.env) :: starEach es X.env := by rfl) (hpl : (backTo pos (starEach es X.env)).any (·.1) = false := by rfl) : EX X (.Call (.Name x p) (e :: es) [] pos) Γ P := by
  obtain ⟨k, fI, fd, ps, T, iC, tI, F1, hr, hb, hm, hn⟩ := c.ex
  refine ex_of (t := fun σ H Q => semA X (e :: es) σ H fun ws H1 => ws.length ≤ 1000 ∧ ∀ a, H1 a = none → spInit X.K C n ns R (.ref a :: ws) (upd H1 a (exo a C none)) (fun v H2 => v = .non ∧ Q (.ref a) H2) (fun _ _ _ => False))
    ⟨fun pins s σ H Q I q => wpAny_Call_Name_kw (ld_glob I hg hm (PySem.W.callWith_K (h₀ := X.base) I.ok.mod.kin T.kC (thn (pa_sem.run pos pins s σ H _ I q) fun us s1 ⟨vs, H1, I1, r, hz, q1⟩ => ⟨I1.kIn, run_make T iC tI F1 hr hb I1 r hz q1⟩) he hpl) hdb)⟩
    fun S B O H0 H σ st Q kk => h S B O H0 H σ st _ fun vs ds H1 e1 r1 ⟨hl, rs, hR, p⟩ => ⟨by rw [r1.length, hl]; omega, made (st.to e1) r1 hl hR p (kk.to e1)⟩
theorem ex_make0 {x : Str} {ns : List Str} {R : List D → List D → Prop} {p : Pos} (c : MkOk X x C 0 ns R) (hg : Gl X x) (h : ∃ rs, R [] rs ∧ P (.exc C ns rs)) (hdb : (x == ("__debug__" : Str)) = false := by decide) : EX X (.Call (.Name x p) [] [] pos) Γ P := by
  obtain ⟨k, fI, fd, ps, T, iC, tI, F1, hr, hb, hm, hn⟩ := c.ex
  obtain ⟨rs, hR, p⟩ := h
  refine ex_of (t := fun σ H Q => ∀ a, H a = none → spInit X.K C 0 ns R [.ref a] (upd H a (exo a C none)) (fun v H2 => v = .non ∧ Q (.ref a) H2) (fun _ _ _ => False))
    ⟨fun pins s σ H Q I q => wpAny_Call_Name_kw (ld_glob I hg hm (PySem.W.callWith_K0 I.kIn T.kC (run_make (us := []) T iC tI F1 hr hb I .nil (by simp) q)) hdb)⟩
    fun S B O H0 H σ st Q kk => made st .nil rfl hR p kk
end
end G
set_option Elab.async false
set_option linter.all false
set_option maxRecDepth 100000
set_option maxHeartbeats 4000000
namespace G
open PySem PySem.Spec PyProof.Rows L2
section
variable {X : Cx} {Γ : List E} {P : D → Prop} {pos : Pos} {po : Po}
/-- f() -/
theorem ex_call0 {x : Str} {W : WA} {p : Pos} (c : CallOk X x W) (hg : Gl X x) (h : W [] P) (hdb : (x == ("__debug__" : Str)) = false := by decide) : EX X (.Call (.Name x p) [] [] pos) Γ P := by
  obtain ⟨k, f, fd, ps, n, W0, dvs, dds, us, F, hr, hm, hk, hb, hd, hdd, hW⟩ := c.ex
  refine ex_of (pe_call0 F hr hg hm hk hb hd pass0 hdb) fun S B O H0 H σ st Q k => ?_
  obtain ⟨h1, h2⟩ := hW _ _ h
  have r2 := hdd S (B ++ O) H
  exact ⟨by show ([] ++ dvs).length = _; rw [List.nil_append, r2.length]; exact h1, S, B ++ O, dds, P, st.m, st.live, st.bo, r2, h2, fun v d H' e r p => k v d H' e r p⟩
/-- a text in a list of texts -/
def txts : List D → Option (List Str)
  | [] => some []
  | .str z :: r => (txts r).map (z :: ·)
  | _ :: _ => none
theorem strs_map : ∀ {l : List D} {ss : List Str}, txts l = some ss → l = ss.map D.str
  | [], _, h => by cases h; rfl
  | .str z :: r, ss, h => by
    obtain ⟨t, ht, rfl⟩ := Option.map_eq_some_iff.mp h
    rw [strs_map ht]; rfl
  | .non :: _, _, h => nomatch h
  | .bl _ :: _, _, h => nomatch h
  | .int _ :: _, _, h => nomatch h
  | .ty _ :: _, _, h => nomatch h
  | .tup _ :: _, _, h => nomatch h
  | .lst _ :: _, _, h => nomatch h
  | .src :: _, _, h => nomatch h
  | .exc _ _ _ :: _, _, h => nomatch h
  | .cls _ :: _, _, h => nomatch h
def wIn : W2 := fun a b P => ∃ z l ss, a = .str z ∧ b = .lst l ∧ txts l = some ss ∧ P (.bl (decide (z ∈ ss)))
theorem o_in {z : Str} {l : List D} {ss : List Str} (e : txts l = some ss) (h : P (.bl (decide (z ∈ ss)))) : wIn (.str z) (.lst l) P := ⟨z, l, ss, rfl, rfl, e, h⟩
theorem in_strs (z : Str) : ∀ ss : List Str, inV (.str z) (ss.map V.str) = decide (z ∈ ss)
  | [] => rfl
  | s :: r => by
    have ih := in_strs z r
    unfold inV at ih ⊢
    rw [List.map_cons, List.any_cons, ih]
    have : eqV (V.str s) (V.str z) = decide (z = s) := by
      by_cases h : z = s
      · subst h; simp [eqV]
      · have h' : ¬ s = z := fun e => h e.symm
        simp [eqV, h, h']
    rw [this]
    simp
theorem flat_strs : ∀ ss : List Str, (ss.map V.str).all flatV = true
  | [] => rfl
  | _ :: r => by rw [List.map_cons, List.all_cons, flat_strs r]; rfl
theorem od_in : OpD X (compareOp .In) wIn := by
  intro S B O H0 H σ Γ P x y a b st r1 r2 ⟨z, l, ss, ea, eb, e, h⟩
  subst ea eb
  cases strs_map e
  cases r1
  cases r2 with
  | @lst a vs _ ha ra =>
    cases ra.strs
    exact ⟨_, op_in_seq, fun Q k => ⟨a, _, rfl, .inl ha.sq, rfl, flat_strs ss, by
      rw [if_neg Bool.false_ne_true, in_strs]
      exact k _ _ H .refl (.bl _) h⟩⟩
/-- equal lists of booleans -/
def wNeE : W2 := fun a b P => ∃ bs : List Bool, bs.length ≤ 1000 ∧ a = .lst (bs.map D.bl) ∧ b = .lst (bs.map D.bl) ∧ P (.bl false)
theorem dp_bls {K H} : ∀ bs : List Bool, DpAll K H (bs.map V.bl) (bs.map PyData.bool)
  | [] => .nil
  | b :: r => .cons (.bl b) (dp_bls r)
theorem eqv_bls : ∀ bs : List Bool, PyData.eqvAll (bs.map PyData.bool) (bs.map PyData.bool) = true
  | [] => rfl
  | b :: r => by
    rw [List.map_cons]
    unfold PyData.eqvAll
    rw [eqv_bls r]
    simp [PyData.eqv]
theorem lay_bls : ∀ bs : List Bool, PyData.canLayAll0 (bs.map PyData.bool) = true
  | [] => rfl
  | b :: r => by rw [List.map_cons]; unfold PyData.canLayAll0; rw [lay_bls r]; rfl
theorem dep_bls : ∀ bs : List Bool, PyData.depthAll (bs.map PyData.bool) = 0
  | [] => rfl
  | b :: r => by rw [List.map_cons]; unfold PyData.depthAll; rw [dep_bls r]; rfl
theorem shaped_bls (bs : List Bool) : SeqAt.shaped (.list (bs.map PyData.bool)) = true := by
  unfold SeqAt.shaped PyData.canLay0 PyData.depth
  rw [lay_bls, dep_bls]
  rfl
theorem od_neE (hu : X.A.units + 64 < cLine) : OpD X (compareOp .NotEq) wNeE := by
  intro S B O H0 H σ Γ P x y a b st r1 r2 ⟨bs, hl, ea, eb, h⟩
  subst ea eb
  cases r1 with
  | @lst a1 vs _ ha ra =>
    cases r2 with
    | @lst a2 ws _ hb rb =>
      cases ra.bls
      cases rb.bls
      refine ⟨_, op_neD hu, fun Q k => ⟨_, _, .lst ha.sq (dp_bls bs), .lst hb.sq (dp_bls bs), shaped_bls bs, shaped_bls bs, ?_⟩⟩
      have : PyData.eqv (.list (bs.map PyData.bool)) (.list (bs.map PyData.bool)) = true := by unfold PyData.eqv; exact eqv_bls bs
      rw [this]
      exact k _ _ H .refl (.bl _) h
/-- a target = e, any target -/
theorem s_asg {e tg : Expr} {gt : TG} {Gd : GD} {js : List Nat} (hg : PG X tg gt) (hG : TgOk X.K gt Gd js) (h : EX X e Γ fun d => Gd d Γ po.nx) (hs : swapsWithSole [tg] e pos.line X.env = pure false := by rfl) (hw : swappedStores [tg] e X.env = pure none := by rfl)
    (h1 : (assignEach [tg] X.env).map (·.2) = [assign tg X.env] := by rfl) : S1 X (.Assign [tg] e pos) Γ po :=
  fun S B O H0 H σ st Dn k => semS_of (ps_asg pe_sem hg hs hw h1) (h S B O H0 H σ st _ fun v d H1 e1 r1 p1 =>
    hG.ok S B O H0 H1 σ Γ v d _ _ (st.to e1) r1 p1 fun σ' Γ' st' p' _ => k.nx O H1 σ' Γ' st' (st.adv e1) p')
end
/-! ### an own __init__ -/
/-- self.f = e -/
def tSet (K : PySem.W.Frag) (f : Str) (to te : TE) : TS := fun Dn σ H => te σ H fun y H1 => to σ H1 fun x H2 => ∃ a C : Addr, x = .ref a ∧ ExK K C ∧ PySem.W.findIn K (.ref C) f = some none ∧
  ((H2 a = some (exo a C none) ∧ ∀ dx, H2 dx = none → dx ≠ a → Dn.nx σ (upd (upd H2 dx (exd dx [(f, y)])) a (exo a C (some dx)))) ∨
    ∃ (dx : Addr) (fs : List (Str × V)), H2 a = some (exo a C (some dx)) ∧ H2 dx = some (exd dx fs) ∧ fs.length ≤ 900 ∧ Dn.nx σ (upd H2 dx (exd dx ((f, y) :: fs))))
section
variable {X : Cx} {pos : Pos}
theorem ps_set_at {o e : Expr} {to te : TE} {f : Str} {p' : Pos} (ho : PE X o to) (he : PE X e te) (hs : swapsWith e (some (.Attribute o f p')) pos.line X.env = pure false) : PS X (.Assign [.Attribute o f p'] e pos) (tSet X.K f to te) := by
  refine ⟨fun pins s σ H Dn I h => ?_⟩
  refine plainObj_wpAny_Assign_Attribute (thn (he.run pins s σ H _ I h) fun v s1 ⟨y, H1, I1, r1, q1⟩ => thn (ho.run pins s1 σ H1 _ I1 q1) fun u s2 ⟨x, H2, I2, r2, a, C, ex, T, hno, q⟩ => ?_) hs
  subst ex
  obtain rfl : u = Value.ref a := r2
  rcases q with ⟨ea, q⟩ | ⟨dx, fs, ea, ed, hl, q⟩
  · exact set_first T I2 ea hno r1 fun dx s' n ne J => ⟨σ, _, J, q dx n ne⟩
  · exact set_more T I2 ea ed hl hno r1 fun s' J => ⟨σ, _, J, q⟩
theorem src_keep {K : PySem.W.Frag} {S : Sr} {H H' : Hp} (k : ∀ b xs, H b = some (.lst xs) → H' b = some (.lst xs)) (h : SrcOk K S H) : SrcOk K S H' := by
  obtain ⟨i, c, s, t, ns, h1, h2, h3⟩ := h
  exact ⟨i, c, s, t, ns, k _ _ h1, k _ _ h2, h3⟩
theorem exo_lst {e C : Addr} {d : Option Addr} {xs : List V} : exo e C d ≠ .lst xs := fun z => by
  have z' : HO.ext _ = HO.lst xs := z
  cases z'
/-- __init__ of two rows -/
theorem init_two {C : Addr} {fld code : Str} {o1 o2 e : Expr} {p2 p3 p5 p6 p7 : Pos} {j} {R : D → Prop} {vs : List V} {H : Hp} {Q : VK} {Ex : XK} (T : ExK X.K C) (h1 : PySem.W.findIn X.K (.ref C) fld = some none) (h2 : PySem.W.findIn X.K (.ref C) "code" = some none)
    (he : ∀ d, R d → EX X e [.no, .is d] fun d' => d' = d) (ho1 : PE X o1 (tVar 0)) (ho2 : PE X o2 (tVar 0)) (hs1 : swapsWith e (some (.Attribute o1 fld p2)) p3.line X.env = pure false) (hs2 : swapsWith (.Constant (.str code) j p6) (some (.Attribute o2 "code" p5)) p7.line X.env = pure false)
    (hs : spInit X.K C 1 ["code", fld] (fun ds rs => ∃ d, ds = [d] ∧ R d ∧ rs = [.str code, d]) vs H Q Ex) :
    ∃ t, PSs X [.Assign [.Attribute o1 fld p2] e p3, .Assign [.Attribute o2 "code" p5] (.Constant (.str code) j p6) p7] t ∧ t { nx := fun _ H' => Q .non H', rt := Q } (L2.start ["self", fld] vs) H := by
  obtain ⟨hl, S, B, a, ws, ds, rs, rfl, ha, mB, hS, mS, lv, hB, rr, ⟨d, rfl, hR, rfl⟩, q⟩ := hs
  obtain ⟨v, rfl, r1⟩ := rr.one
  have st : StOk X.K S B [] H H [some (.ref a), some v] [.no, .is d] := {
    len := rfl
    ent := fun i g hg => by
      match i, hg with
      | 0, hg => cases hg; exact ⟨_, rfl, trivial⟩
      | 1, hg => cases hg; exact ⟨_, rfl, v, rfl, by rw [List.append_nil]; exact r1⟩
      | _ + 2, hg => exact absurd hg (by simp)
    ext := .refl
    live0 := lv
    mem := mS
    bl := hB
    nd := List.nodup_nil
    out := fun _ h => absurd h (by simp)
    new := fun _ h => absurd h (by simp)
    liv := fun _ h => absurd h (by simp) }
  refine ⟨_, pss_cons (ps_set_at ho1 pe_sem hs1) (pss_one (ps_set_at ho2 pe_str hs2)), ?_⟩
  refine he d hR S B [] H H _ st _ fun v' d' H1 e1 r1' p1 => ?_
  subst p1
  have ha1 : H1 a = some (exo a C none) := e1.keep a _ hS ha
  refine ⟨.ref a, rfl, a, C, rfl, T, h1, .inl ⟨ha1, fun dx hd ne => ?_⟩⟩
  refine ⟨.ref a, rfl, a, C, rfl, T, h2, .inr ⟨dx, [(fld, v')], upd_same, (upd_ne ne).trans upd_same, by simp, ?_⟩⟩
  have hx : ∀ b o, b ≠ a → H1 b = some o → upd (upd (upd H1 dx (exd dx [(fld, v')])) a (exo a C (some dx))) dx (exd dx [("code", .str code), (fld, v')]) b = some o := fun b o n h => by
    have nd : b ≠ dx := ne_of_none h hd
    rw [upd_ne nd, upd_ne n, upd_ne nd]; exact h
  have hl : ∀ b xs, H1 b = some (.lst xs) → upd (upd (upd H1 dx (exd dx [(fld, v')])) a (exo a C (some dx))) dx (exd dx [("code", .str code), (fld, v')]) b = some (.lst xs) := fun b xs h => hx b _ (at_ne ha1 h exo_lst) h
  have lv1 := e1.live lv
  have ex : ∀ b, (∃ o, H1 b = some o) → ∃ o, upd (upd (upd H1 dx (exd dx [(fld, v')])) a (exo a C (some dx))) dx (exd dx [("code", .str code), (fld, v')]) b = some o := fun b ⟨o, h⟩ => by
    by_cases hb : b = a
    · rw [hb, upd_ne (Ne.symm ne), upd_same]; exact ⟨_, rfl⟩
    · exact ⟨o, hx b o hb h⟩
  have dn : H dx = none := by
    cases e : H dx with
    | none => rfl
    | some o =>
      by_cases hz : dx = S.a
      · obtain ⟨⟨o', h'⟩, _⟩ := lv1
        rw [← hz, hd] at h'; cases h'
      · have := e1.keep dx o hz e
        rw [hd] at this; cases this
  refine q dx [.str code, v'] _ (fun b o n1 n2 h => hx b o n2 (e1.keep b o n1 h)) (fun s => src_keep hl (e1.src lv s)) ⟨ex _ lv1.1, ex _ lv1.2.1, lv1.2.2⟩ dn ?_ upd_same ?_
  · rw [upd_ne (Ne.symm ne), upd_same]
  · rw [List.append_nil] at r1'
    exact .cons (.str code) (.cons (r1'.keeps (fun b o n h => hx b o (fun z => n (z ▸ mB)) h) (src_keep hl)) .nil)
/-- __init__ of one row -/
theorem init_one {C : Addr} {code : Str} {o2 : Expr} {p5 p6 p7 : Pos} {j} {vs : List V} {H : Hp} {Q : VK} {Ex : XK} (T : ExK X.K C) (h2 : PySem.W.findIn X.K (.ref C) "code" = some none) (ho2 : PE X o2 (tVar 0))
    (hs2 : swapsWith (.Constant (.str code) j p6) (some (.Attribute o2 "code" p5)) p7.line X.env = pure false) (hs : spInit X.K C 0 ["code"] (fun ds rs => ds = [] ∧ rs = [.str code]) vs H Q Ex) :
    ∃ t, PSs X [.Assign [.Attribute o2 "code" p5] (.Constant (.str code) j p6) p7] t ∧ t { nx := fun _ H' => Q .non H', rt := Q } (L2.start ["self"] vs) H := by
  obtain ⟨hl, S, B, a, ws, ds, rs, rfl, ha, mB, hS, mS, lv, hB, rr, ⟨rfl, rfl⟩, q⟩ := hs
  cases rr
  refine ⟨_, pss_one (ps_set_at ho2 pe_str hs2), ?_⟩
  refine ⟨.ref a, rfl, a, C, rfl, T, h2, .inl ⟨ha, fun dx hd ne => ?_⟩⟩
  have hx : ∀ b o, b ≠ a → H b = some o → upd (upd H dx (exd dx [("code", .str code)])) a (exo a C (some dx)) b = some o := fun b o n h => by
    rw [upd_ne n, upd_ne (ne_of_none h hd)]; exact h
  have hl : ∀ b xs, H b = some (.lst xs) → upd (upd H dx (exd dx [("code", .str code)])) a (exo a C (some dx)) b = some (.lst xs) := fun b xs h => hx b _ (at_ne ha h exo_lst) h
  have ex : ∀ b, (∃ o, H b = some o) → ∃ o, upd (upd H dx (exd dx [("code", .str code)])) a (exo a C (some dx)) b = some o := fun b ⟨o, h⟩ => by
    by_cases hb : b = a
    · rw [hb, upd_same]; exact ⟨_, rfl⟩
    · exact ⟨o, hx b o hb h⟩
  refine q dx [.str code] _ (fun b o n1 n2 h => hx b o n2 h) (src_keep hl) ⟨ex _ lv.1, ex _ lv.2.1, lv.2.2⟩ hd upd_same ?_ (.cons (.str code) .nil)
  rw [upd_ne ne, upd_same]
  rfl
end
end G
set_option Elab.async false
set_option linter.all false
set_option maxRecDepth 100000
set_option maxHeartbeats 4000000
namespace G
open PySem PySem.Spec PyProof.Rows L2
/-! ### lists of a def's own: begun, grown, asked, given back -/
def isOwn : E → Bool
  | .own _ _ => true
  | _ => false
/-- no name but the i-th holds a list of the def's own -/
def lone (Γ : List E) (i : Nat) : Bool := (put Γ i .no).all fun g => !isOwn g
theorem lone_at {Γ : List E} {i j : Nat} {k : Nat} {ds : List D} (h : lone Γ i = true) (hg : Γ[j]? = some (.own k ds)) : j = i := by
  by_cases e : j = i
  · exact e
  · exfalso
    have h' := List.all_eq_true.mp h (.own k ds) (by
      rw [put_eq]
      refine List.mem_of_getElem? (i := j) ?_
      rw [List.getElem?_set_ne (Ne.symm e)]
      exact hg)
    exact Bool.noConfusion h'
theorem Rep.mutp {K : PySem.W.Frag} {S : Sr} {M : List Addr} {H : Hp} {p : Addr} {o : HO} (hm : p ∈ M) (h1 : S.a ≠ p) (h2 : S.l ≠ p) {v : V} {d : D} (r : Rep K S M H v d) : Rep K S M (upd H p o) v d := by
  have q := RepAll.mutp (o := o) hm h1 h2 (.cons r .nil)
  cases q with
  | cons r _ => exact r
section
variable {X : Cx} {Γ : List E} {pos : Pos} {po : Po} {K : PySem.W.Frag} {S : Sr} {B O : List Addr} {H0 H : Hp} {σ : L2.St}
theorem StOk.ne_l (st : StOk K S B O H0 H σ Γ) {m : Addr} (h : m ∈ O) : m ≠ S.l := fun e => by
  obtain ⟨_, ⟨o, ho⟩, _⟩ := st.live0
  rw [← e, st.new m h] at ho
  cases ho
/-- the i-th name's own list becomes another -/
theorem StOk.rewrite (st : StOk K S B O H0 H σ Γ) {i k : Nat} {es : List D} {m : Addr} {ws : List V} (hi : i < Γ.length) (hl : lone Γ i = true) (hk : O[k]? = some m) (hs : σ[i]? = some (some (.ref m))) (r : RepAll K S (B ++ O) (upd H m (.lst ws)) ws es) :
    StOk K S B O H0 (upd H m (.lst ws)) σ (put Γ i (.own k es)) := by
  have mO := List.mem_of_getElem? hk
  have n1 : S.a ≠ m := (st.ne mO).symm
  have n2 : S.l ≠ m := (st.ne_l mO).symm
  exact {
    len := by rw [put_eq, List.length_set]; exact st.len
    ent := fun j g hg => by
      rw [put_eq] at hg
      by_cases e : i = j
      · subst e
        rw [List.getElem?_set_self hi] at hg
        cases hg
        exact ⟨_, hs, m, ws, rfl, hk, upd_same, r⟩
      · rw [List.getElem?_set_ne e] at hg
        obtain ⟨x, hx, o⟩ := st.ent j g hg
        refine ⟨x, hx, ?_⟩
        cases g with
        | no => trivial
        | is d =>
          obtain ⟨v, e1, r⟩ := o
          exact ⟨v, e1, r.mutp (List.mem_append_right _ mO) n1 n2⟩
        | own k' ds' => exact absurd (lone_at hl hg).symm e
    ext := st.ext.mut st.live0 (st.new m mO)
    live0 := st.live0
    mem := st.mem
    bl := st.bl
    nd := st.nd
    out := st.out
    new := st.new
    liv := fun m' hm' => by
      by_cases e : m' = m
      · rw [e]; exact ⟨_, upd_same⟩
      · obtain ⟨xs, h⟩ := st.liv m' hm'
        exact ⟨xs, by rw [upd_ne e]; exact h⟩ }
theorem StOk.advw (st : StOk K S B O H0 H σ Γ) {m : Addr} {o : HO} (mO : m ∈ O) : Adv K S B O H O (upd H m o) where
  src := fun ⟨i, c, s, t, ns, h1, h2, h3⟩ => ⟨i, c, s, t, ns, by rw [upd_ne (st.ne mO).symm]; exact h1, by rw [upd_ne (st.ne_l mO).symm]; exact h2, h3⟩
  keep := fun b o n h => by
    have ne : b ≠ m := fun e => n (List.mem_append_right _ (e ▸ mO))
    rw [upd_ne ne]; exact h
  new := fun m a b => absurd a b
  out := st.out
theorem append_ps {x : V} {l : Addr} {xs : List V} {y : V} {Q : VK} {H : Hp} (ex : x = .ref l) (h : H l = some (.lst xs)) (hz : xs.length < sizeLine) (q : Q .non (upd H l (.lst (xs ++ [y])))) : rAppend x [y] H Q := ⟨l, xs, y, ex, rfl, h, hz, q⟩
/-- x.append(e) -/
theorem s_append (i : Nat) {N : List Str} {x : Str} {e : Expr} {k : Nat} {ds : List D} {p apos cpos : Pos} (hX : X.N = N) (hN : nth N i = some x) (hΓ : nth Γ i = some (.own k ds)) (hv : Vis X.env.scope x) (hl : lone Γ i = true) (hlen : ds.length < 100000)
    (h : EX X e Γ fun d => po.nx (put Γ i (.own k (ds ++ [d])))) (hd : (x == ("__debug__" : Str)) = false := by decide) (hcd : (x == ("__classdict__" : Str)) = false := by decide)
    (hbase : attributeBase (.Name x p) "append" X.env (eval (.Name x p) X.env) = eval (.Name x p) X.env := by rfl)
    (hfew : ((backTo cpos (starEach (e :: []) X.env)).all (fun x => !x.1) && (backToKw cpos (keywordEach [] X.env)).all (fun x => x.1.isSome)
      && decide ((e :: []).length + ([] : List Keyword).length + (if ([] : List Keyword).isEmpty then 0 else 1) < 30)) = true := by rfl)
    (hline : (apos.endLine == cpos.line) = true := by rfl) (hs : starEach (e :: []) X.env = (false, eval e X.env) :: starEach [] X.env := by rfl) (hplain : (backTo cpos (starEach [] X.env)).any (·.1) = false := by rfl)
    (hsw : swapsWith (.Call (.Attribute (.Name x p) "append" apos) [e] [] cpos) none pos.line X.env = pure false := by rfl) :
    S1 X (.Expr (.Call (.Attribute (.Name x p) "append" apos) [e] [] cpos) pos) Γ po := by
  rw [nth_eq] at hN hΓ
  intro S B O H0 H σ st Dn kk
  refine semS_of (ps_expr (pe_bm PySem.F.plainAttrs_list PySem.F.slot_list_append PySem.F.type_list_append mt_append (pe_var (i := i) (by rw [hX]; exact hN) hv hd hcd) (pa_cons pe_sem pa_nil hs) hbase hfew hline hs hplain) hsw) ?_
  obtain ⟨y, hy, m, vs, rfl, hk, hm, rr⟩ := st.ent i _ hΓ
  have mO := List.mem_of_getElem? hk
  refine ⟨.ref m, hy, .inl ⟨rfl, _, SqL.of hm⟩, ?_⟩
  refine h S B O H0 H σ st _ fun v d H1 e1 r1 p1 => ?_
  have st1 := st.to e1
  have hm1 : H1 m = some (.lst vs) := e1.keep _ _ (st.ne mO) hm
  have rr1 := rr.ext e1 st.live st.m
  have n1 : S.a ≠ m := (st.ne mO).symm
  have n2 : S.l ≠ m := (st.ne_l mO).symm
  have hi : i < Γ.length := (List.getElem?_eq_some_iff.mp hΓ).1
  have hmM : m ∈ B ++ O := List.mem_append_right _ mO
  have ap : RepAll X.K S (B ++ O) (upd H1 m (.lst (vs ++ [v]))) (vs ++ [v]) (ds ++ [d]) := (rr1.append (.cons r1 .nil)).mutp hmM n1 n2
  unfold tNil
  refine append_ps rfl hm1 (by rw [rr.length]; exact Nat.lt_of_lt_of_le hlen (by decide)) ?_
  exact kk.nx O _ σ _ (st1.rewrite hi hl hk hy ap) ((st.adv e1).trans (st1.advw mO)) p1
/-- x = [] -/
theorem s_setNil (i : Nat) {N : List Str} {x : Str} {p' lp : Pos} (hX : X.N = N) (hnd : N.Nodup) (hN : nth N i = some x) (hx : Loc X.env.scope x) (h : ∀ k, po.nx (put Γ i (.own k [])))
    (hs : swapsWith (.List [] lp) (some (.Name x p')) pos.line X.env = pure false := by rfl) (hf : X.fn x = true ∨ X.env.scope.names.lookup x = some .local := by first | exact .inl rfl | exact .inr rfl | assumption) : S1 X (.Assign [.Name x p'] (.List [] lp) pos) Γ po := by
  rw [nth_eq] at hN
  intro S B O H0 H σ st Dn kk
  refine semS_of (ps_set (i := i) (by rw [hX]; exact hnd) (by rw [hX]; exact hN) hx (pe_lst pa_nil) hs hf) ?_
  refine ⟨small (n := 0) (by decide), fun m nm => ?_⟩
  have e : Ext X.K S H (upd H m (.lst [])) := .new nm
  have st1 := st.with nm e (xs := []) upd_same
  refine kk.nx (O ++ [m]) _ _ _ ?_ ?_ (h O.length)
  · have st2 := st1.no i (some (.ref m))
    have hlen := st.len
    exact { st2 with
      len := by rw [put_eq, List.length_set, List.length_set]; exact hlen
      ent := fun j g hg => by
        rw [put_eq] at hg
        by_cases ej : i = j
        · subst ej
          have hi : i < Γ.length := by
            have := (List.getElem?_eq_some_iff.mp hg).1
            rwa [List.length_set] at this
          rw [List.getElem?_set_self hi] at hg
          cases hg
          exact ⟨_, by rw [List.getElem?_set_self (by rw [hlen]; exact hi)], m, [], rfl, by simp, upd_same, .nil⟩
        · rw [List.getElem?_set_ne ej] at hg
          obtain ⟨x, hx, o⟩ := st1.ent j g hg
          exact ⟨x, by rw [List.getElem?_set_ne ej]; exact hx, o⟩ }
  · have a := st.adv e
    exact ⟨a.src, a.keep, fun x hx n => (List.mem_append.mp hx).elim (fun q => absurd q n) fun q => by
      have : x = m := by simpa using q
      rw [this]; exact nm, st1.out⟩
/-- return x, x a list of its own -/
theorem s_retOwn (i : Nat) {N : List Str} {x : Str} {k : Nat} {ds : List D} {p : Pos} (hX : X.N = N) (hN : nth N i = some x) (hΓ : nth Γ i = some (.own k ds)) (hv : Vis X.env.scope x) (h : po.rt (.lst ds)) (hc : (Γ.all fun g => match g with | .own _ _ => true | _ => true) = true := by rfl)
    (hd : (x == ("__debug__" : Str)) = false := by decide) (hcd : (x == ("__classdict__" : Str)) = false := by decide) : S1 X (.Return (some (.Name x p)) pos) Γ po := by
  rw [nth_eq] at hN hΓ
  intro S B O H0 H σ st Dn kk
  refine semS_of (ps_ret (pe_var (i := i) (by rw [hX]; exact hN) hv hd hcd)) ?_
  obtain ⟨y, hy, m, vs, rfl, hk, hm, rr⟩ := st.ent i _ hΓ
  have mO := List.mem_of_getElem? hk
  exact ⟨.ref m, hy, kk.rt _ _ H st.ext (.lst (.inl ⟨st.out m mO, .inl hm⟩) (rr.less (fun _ => List.mem_append_left _) st.mem)) h⟩
end
end G
set_option Elab.async false
set_option linter.all false
set_option maxRecDepth 100000
set_option maxHeartbeats 4000000
namespace G
open PySem PySem.Spec PyProof.Rows L2
section
variable {X : Cx} {Γ : List E} {P : D → Prop} {pos : Pos} {po : Po}
/-! ### enumerate, a def that a name holds, a text in a list of one's own -/
def enumD (l : List D) : List D := l.mapIdx fun i d => .tup [.int (i : Int), d]
theorem enumD_len (l : List D) : (enumD l).length = l.length := by simp [enumD]
theorem enumD_get {l : List D} {i : Nat} {d : D} (h : l[i]? = some d) : (enumD l)[i]? = some (.tup [.int (i : Int), d]) := by
  unfold enumD
  rw [List.getElem?_mapIdx, h]
  rfl
theorem enumD_at {l : List D} {i : Nat} {d : D} (h : (enumD l)[i]? = some d) : ∃ x, l[i]? = some x ∧ d = .tup [.int (i : Int), x] := by
  unfold enumD at h
  rw [List.getElem?_mapIdx] at h
  obtain ⟨x, hx, e⟩ := Option.map_eq_some_iff.mp h
  exact ⟨x, hx, e.symm⟩
theorem wx_enum {elts : List Expr} {kk : Nat} {tpos p pr : Pos} {e : Expr} {P : List D → Prop} (hm : X.mg "enumerate" = none) (hg : Gl X "enumerate") (h : AX X [e] Γ fun ds => ∃ l, ds = [.lst l] ∧ P (enumD l)) (hs : starEach [e] X.env = [(false, eval e X.env)] := by rfl) :
    WX X (.Tuple elts kk tpos) (.Call (.Name "enumerate" p) [e] [] pr) Γ P :=
  fun S B O H0 H σ st R k => semI_of (pi_enum hg hm pa_sem hs) (h S B O H0 H σ st _ fun vs ds H1 e1 r1 p1 => by
    obtain ⟨l, rfl, p⟩ := p1
    obtain ⟨v, rfl, q1⟩ := r1.one
    cases q1 with
    | @lst a xs _ ha ra =>
    refine ⟨a, xs, rfl, ha.sq, k _ H1 (enumD l) e1 ⟨fun i H kp hi => ?_, fun H kp => ⟨xs, (ha.keeps kp).sq, by rw [enumD_len, ra.length]; exact Nat.le_refl _⟩, fun i H x H' kp hi y => ?_⟩ p⟩
    · rw [enumD_len] at hi
      have i1 : i < xs.length := by rw [ra.length]; exact hi
      exact ⟨xs, xs[i], (ha.keeps kp).sq, List.getElem?_eq_getElem _⟩
    · obtain ⟨T, x1, rfl, nT, rfl, f1⟩ := y
      obtain ⟨d, h1, h2⟩ := ra.getV (f1 xs (ha.keeps kp).sq)
      exact ⟨_, enumD_get h1, .inr ⟨T, [.int (i : Nat), x1], [.int (i : Int), d], rfl, rfl, nT, rfl, .cons (.int _) (.cons h2 .nil)⟩⟩)
/-- a def that keeps W, at an address -/
structure HeldOk (X : Cx) (f : Addr) (W : WA) : Prop where
  ex : ∃ k fd ps n, FnOk X.prog X.w X.K X.mg X.base CX0 k f fd ps (spW X.K W n) ∧ Room k X.A ∧ PySem.W.keepIn X.K (.ref f) = true ∧ Binds X.K fd ps [] ∧ ∀ es P, W es P → es.length = n
/-- x(e, ..), the i-th name holding a def -/
theorem ex_callL (i : Nat) {N : List Str} {x : Str} {f : Addr} {W : WA} {p : Pos} {e : Expr} {es : List Expr} (hX : X.N = N) (hN : nth N i = some x) (hΓ : nth Γ i = some (.is (.cls f))) (hv : Vis X.env.scope x) (c : HeldOk X f W) (h : AX X (e :: es) Γ fun ds => W ds P)
    (hdb : (x == ("__debug__" : Str)) = false := by decide) (hcd : (x == ("__classdict__" : Str)) = false := by decide)
    (he : starEach (e :: es) X.env = (false, eval e X.env) :: starEach es X.env := by rfl) (hpl : (backTo pos (starEach es X.env)).any (·.1) = false := by rfl) : EX X (.Call (.Name x p) (e :: es) [] pos) Γ P := by
  obtain ⟨k, fd, ps, n, F, hr, hk, hb, hW⟩ := c.ex
  rw [nth_eq] at hN hΓ
  refine ex_of (pe_callL (i := i) F hr (by rw [hX]; exact hN) hv hk hb .nil pass0 pa_sem hdb hcd he hpl) fun S B O H0 H σ st Q k => ?_
  obtain ⟨y, hy, v, rfl, r⟩ := st.ent i _ hΓ
  cases r
  refine ⟨hy, h S B O H0 H σ st _ fun vs ds H1 e1 r1 p1 => ?_⟩
  have st1 := st.to e1
  rw [List.append_nil]
  exact ⟨by rw [r1.length]; exact hW _ _ p1, S, B ++ O, ds, P, st.m, st1.live, st1.bo, r1, p1, fun v d H' e r p => k v d H' (e1.trans e) r p⟩
/-- z in x, x a list of texts of one's own -/
theorem ex_inOwn (i : Nat) {N : List Str} {x : Str} {a : Expr} {k : Nat} {ss : List Str} {p : Pos} (hX : X.N = N) (hN : nth N i = some x) (hΓ : nth Γ i = some (.own k (ss.map D.str))) (hv : Vis X.env.scope x) (h : EX X a Γ fun d => ∃ z, d = .str z ∧ P (.bl (decide (z ∈ ss))))
    (hd : (x == ("__debug__" : Str)) = false := by decide) (hcd : (x == ("__classdict__" : Str)) = false := by decide) (hm : behindInMarks .In (.Name x p) = false := by first | exact nomark _ | rfl) : EX X (.Compare a [.In] [.Name x p] pos) Γ P := by
  rw [nth_eq] at hN hΓ
  refine ex_of (pe_cmpR op_in_seq pe_sem (pe_var (i := i) (by rw [hX]; exact hN) hv hd hcd) hm) fun S B O H0 H σ st Q kk => h S B O H0 H σ st _ fun v d H1 e1 r1 p1 => ?_
  obtain ⟨z, rfl, p1⟩ := p1
  cases r1
  obtain ⟨y, hy, m, vs, rfl, hk, hm, rr⟩ := (st.to e1).ent i _ hΓ
  cases rr.strs
  refine ⟨.ref m, hy, m, _, rfl, .inl (SqL.of hm), rfl, flat_strs ss, ?_⟩
  rw [if_neg Bool.false_ne_true, in_strs]
  exact kk _ _ H1 e1 (.bl _) p1
theorem tx_inOwn (i : Nat) {N : List Str} {x : Str} {a : Expr} {k : Nat} {ss : List Str} {p : Pos} {P : Bool → Prop} (hX : X.N = N) (hN : nth N i = some x) (hΓ : nth Γ i = some (.own k (ss.map D.str))) (hv : Vis X.env.scope x) (h : EX X a Γ fun d => ∃ z, d = .str z ∧ P (decide (z ∈ ss)))
    (hd : (x == ("__debug__" : Str)) = false := by decide) (hcd : (x == ("__classdict__" : Str)) = false := by decide) (hm : behindInMarks .In (.Name x p) = false := by first | exact nomark _ | rfl) : TX X (.Compare a [.In] [.Name x p] pos) Γ P := by
  rw [nth_eq] at hN hΓ
  refine tx_of (pt_cmpR op_in_seq pe_sem (pe_var (i := i) (by rw [hX]; exact hN) hv hd hcd) hm) fun S B O H0 H σ st Q kk => h S B O H0 H σ st _ fun v d H1 e1 r1 p1 => ?_
  obtain ⟨z, rfl, p1⟩ := p1
  cases r1
  obtain ⟨y, hy, m, vs, rfl, hk, hm, rr⟩ := (st.to e1).ent i _ hΓ
  cases rr.strs
  refine ⟨.ref m, hy, m, _, rfl, .inl (SqL.of hm), rfl, flat_strs ss, ?_⟩
  rw [if_neg Bool.false_ne_true, in_strs]
  exact ⟨_, rfl, kk _ H1 e1 p1⟩
end
end G
set_option Elab.async false
set_option linter.all false
set_option maxRecDepth 100000
set_option maxHeartbeats 4000000
namespace G
open PySem PySem.Spec PyProof.Rows L2
section
variable {X : Cx} {Γ : List E} {P : D → Prop} {pos : Pos}
/-- a.join(list of texts) -/
theorem ex_join {o e : Expr} {apos : Pos} (h : EX X o Γ fun d => ∃ a, d = .str a ∧ EX X e Γ fun d2 => ∃ ys : List Str, d2 = .lst (ys.map D.str) ∧ (ys.map (·.length)).sum + ys.length * a.length ≤ 16777216 ∧ P (.str (Txt.join a ys)))
    (hs : starEach [e] X.env = [(false, eval e X.env)] := by rfl) (hbase : attributeBase o "join" X.env (eval o X.env) = eval o X.env := by rfl) (hline : (apos.endLine == pos.line) = true := by rfl) : EX X (.Call (.Attribute o "join" apos) [e] [] pos) Γ P :=
  ex_of (pe_join pe_sem pe_sem hs hbase hline) fun S B O H0 H σ st Q k => h S B O H0 H σ st _ fun v d H1 e1 r1 p1 => by
    obtain ⟨a, rfl, p1⟩ := p1
    cases r1
    refine ⟨⟨a, rfl⟩, p1 S B O H0 H1 σ (st.to e1) _ fun v2 d2 H2 e2 r2 p2 => ?_⟩
    obtain ⟨ys, rfl, hz, p2⟩ := p2
    cases r2 with
    | @lst l vs _ ha ra =>
      cases ra.strs
      exact ⟨a, l, ys, rfl, rfl, .inl ha.sq, hz, k _ _ H2 (e1.trans e2) (.str _) p2⟩
theorem cps_app (a b : Str) : (a ++ b).cps = a.cps ++ b.cps := rfl
theorem join_chars : ∀ cs : List Nat, (Str.join "" (cs.map fun c => (⟨#[c]⟩ : Str))).cps.toList = cs
  | [] => rfl
  | [_] => rfl
  | c :: d :: r => by
    have ih := join_chars (d :: r)
    show ((⟨#[c]⟩ : Str) ++ "" ++ Str.join "" ((d :: r).map fun c => (⟨#[c]⟩ : Str))).cps.toList = _
    rw [cps_app, Array.toList_append, ih, cps_app, Array.toList_append]
    rfl
end
end G
set_option Elab.async false
set_option linter.all false
set_option maxRecDepth 100000
set_option maxHeartbeats 4000000
namespace G
open PySem PySem.Spec PyProof.Rows L2
/-! ### lists joined and repeated, texts in a tuple, slices of tuples, sum and max -/
section
variable {X : Cx}
def rCatS (K : PySem.W.Frag) : R2 := fun x y H Q => ∃ a b xs ys, x = .ref a ∧ y = .ref b ∧ SqL K H a xs ∧ SqL K H b ys ∧ xs.length + ys.length ≤ sizeLine ∧ ∀ p, H p = none → Q (.ref p) (upd H p (.lst (xs ++ ys)))
theorem op_catS : OpR X (binaryOp .Add) (rCatS X.K) := by
  intro pins s σ H x y v u Q I rx ry h
  obtain ⟨a, b, xs, ys, rfl, rfl, ha, hb, hz, q⟩ := h
  cases rx
  cases ry
  obtain ⟨its, r, p1, _⟩ := I.list ha
  obtain ⟨its2, r2, p2, _⟩ := I.list hb
  obtain ⟨⟨cls, dd, data, sl⟩, n, ho, hc, hdn, hd⟩ := p1
  obtain ⟨⟨cls2, dd2, data2, sl2⟩, n2, ho2, hc2, hdn2, hd2⟩ := p2
  simp only at hc hdn hd hc2 hdn2 hd2
  subst hc hdn hd hc2 hdn2 hd2
  have l1 := r.length
  have l2 := r2.length
  refine concat_meets ⟨_, ho, rfl⟩ ⟨_, ho2, rfl⟩ noFill_list_add seq_list_add PySem.F.slot_list_add PySem.F.entry_list_add (PySem.F.args_list_add_2 _ _) (list_addW a b its.toArray its2.toArray n n2 none none sl sl2 (by rw [List.size_toArray, List.size_toArray]; omega)) ⟨ho, ho2, ?_⟩
  have ea : its.toArray ++ its2.toArray = (its ++ its2).toArray := by simp
  rw [ea]
  exact ⟨.ref _, _, I.lnew (t' := s.toks) (r.append r2) (by rw [List.length_append]; omega), rfl, q _ I.fresh⟩
theorem int_rmul_listW (a : Int) (t : Tok) (l : Addr) (items : Array Value) (n : Nat) (dd : Option Addr) (sl : Array (Option Value)) :
    Meets (Builtin.«int.__rmul__» ⟨[.int a t, .ref l], []⟩) (fun _ R s => s.heap.get? l = some { cls := .type "list", dict := dd, data := .seq items n, slots := sl } ∧ R (.ok (.ret Value.notImplemented)) s) :=
  .of_wp fun prog w A R s h => by obtain ⟨hp, g, d, tk, os⟩ := s; obtain ⟨hl, h⟩ := h; wp_walk using wpAny_loadPart' hl; exact ⟨_, rfl, h⟩
theorem list_mulW (l : Addr) (items : Array Value) (n : Nat) (dd : Option Addr) (sl : Array (Option Value)) (x : Int) (u : Tok) (hc0 : ¬(!Builtin.List.listFitsIndex x) = true) (hc1 : ¬items.size * x.toNat > (2 ^ 63 - 1) / 8) (hc2 : ¬Builtin.List.listTooLong (items.size * x.toNat) = true) :
    Meets (Builtin.«list.__mul__» ⟨[.ref l, .int x u], []⟩) (fun _ R s => s.heap.get? l = some { cls := .type "list", dict := dd, data := .seq items n, slots := sl } ∧ R (.ok (.ret (Value.ref s.heap.objs.size))) { s with heap := s.heap.push { cls := Value.type "list", data := Data.seq (List.foldl (fun x1 x2 => x1 ++ x2) #[] (List.replicate (if items.isEmpty = true then 0 else x.toNat) items)) }, toks := s.toks }) :=
  .of_wp fun prog w A R s h => by
    obtain ⟨hp, g, d, tk, os⟩ := s; obtain ⟨hl, h⟩ := h
    have hsz := AutoListH.joined_fits hc2
    wp_walk using wpAny_loadPart' hl
    refine wpAny_ite_false (decide_eq_false (Nat.not_lt.mpr hsz)) ?_
    wp_walk using wpAny_loadPart' hl
    exact ⟨_, rfl, h⟩
def rRepS (K : PySem.W.Frag) : R2 := fun x y H Q => ∃ l k xs, x = .ref l ∧ y = .int k ∧ SqL K H l xs ∧ 0 ≤ k ∧ k ≤ 1000 ∧ xs.length ≤ 1000 ∧ ∀ p, H p = none → Q (.ref p) (upd H p (.lst (List.replicate k.toNat xs).flatten))
theorem op_repS : OpR X (binaryOp .Mult) (rRepS X.K) := by
  intro pins s σ H x y v u Q I rx ry h
  obtain ⟨l, k, xs, rfl, rfl, hL, h1, h2, hz0, q⟩ := h
  cases rx
  obtain ⟨t, rfl⟩ := ry
  obtain ⟨its, r, p1, _⟩ := I.list hL
  obtain ⟨⟨cls, dd, data, sl⟩, n, e, hc, hdn, hd⟩ := p1
  simp only at hc hdn hd
  subst hc hdn hd
  have hl := r.length
  have hz : xs.length * k.toNat ≤ sizeLine := Nat.le_trans (Nat.mul_le_mul hz0 (show k.toNat ≤ 1000 by omega)) (by decide)
  have hlen : its.toArray.size * k.toNat ≤ sizeLine := by rw [List.size_toArray, ← hl]; exact hz
  have hcap : ¬ its.toArray.size * k.toNat > (2 ^ 63 - 1) / 8 := by
    have : (sizeLine : Nat) ≤ (2 ^ 63 - 1) / 8 := by decide
    omega
  have hfit : ¬ (!Builtin.List.listFitsIndex k) = true := by
    rw [fitsIndex_both (by omega) (by omega)]
    exact Bool.false_ne_true
  have hlong : ¬ Builtin.List.listTooLong (its.toArray.size * k.toNat) = true := by
    rw [notLongL hlen]
    exact Bool.false_ne_true
  have hnew : List.foldl (fun x1 x2 => x1 ++ x2) #[] (List.replicate (if its.toArray.isEmpty = true then 0 else k.toNat) its.toArray) = (List.replicate k.toNat its).flatten.toArray := by
    have f0 : ∀ m : Nat, List.foldl (fun x1 x2 => x1 ++ x2) #[] (List.replicate m its.toArray) = (List.replicate m its).flatten.toArray := fun m => by
      have := foldl_rep its m []
      rw [List.nil_append] at this
      exact this
    rw [f0]
    cases its with
    | nil => simp
    | cons a r' => rw [if_neg (by simp)]
  refine wpAny_binaryOp_repeat_ref (T := "list") (U := "int") (by decide) ⟨_, e, rfl⟩ (fun s' => typeIs_int s' k t) noFill_list_mul F.fills_int_mul F.slot_int_rmul repeat_list F.slot_int_index.lookup
    (call_meets F.slot_int_rmul (typeIs_int s k t) F.entry_int_rmul (F.args_int_rmul_2 _ _) (int_rmul_listW k t l its.toArray n none sl)
      ⟨e, rfl, ⟨_, e, rfl⟩, call_meets F.slot_list_mul ⟨_, e, rfl⟩ F.entry_list_mul (F.args_list_mul_2 _ _) (list_mulW l its.toArray n none sl k t hfit hcap hlong) ⟨e, ?_⟩⟩)
  rw [hnew]
  exact ⟨.ref _, _, I.lnew (t' := s.toks) (r.rep k.toNat) (by rw [PyProof.Rows.lm_len_rep_flat, Nat.mul_comm]; exact hz), rfl, q _ I.fresh⟩
theorem RepAll.rep {K S M H} {vs : List V} {ds : List D} (r : RepAll K S M H vs ds) : ∀ n : Nat, RepAll K S M H (List.replicate n vs).flatten (List.replicate n ds).flatten
  | 0 => .nil
  | n + 1 => by
    rw [List.replicate_succ, List.replicate_succ, List.flatten_cons, List.flatten_cons]
    exact r.append (RepAll.rep r n)
def wCatL : W2 := fun a b P => ∃ l m, a = .lst l ∧ b = .lst m ∧ l.length + m.length ≤ sizeLine ∧ P (.lst (l ++ m))
theorem od_catL : OpD X (binaryOp .Add) wCatL := by
  intro S B O H0 H σ Γ P x y a b st r1 r2 ⟨l, m, ea, eb, hz, h⟩
  subst ea eb
  cases r1 with
  | @lst a vs _ ha ra =>
    cases r2 with
    | @lst b ws _ hb rb =>
      exact ⟨_, op_catS, fun Q k => ⟨a, b, vs, ws, rfl, rfl, ha.sq, hb.sq, by rw [ra.length, rb.length]; exact hz, fun p np => k _ _ _ (.new np) (rep_lst st (ra.append rb) np) h⟩⟩
def wRepL : W2 := fun a b P => ∃ l k, a = .lst l ∧ b = .int k ∧ 0 ≤ k ∧ k ≤ 1000 ∧ l.length ≤ 1000 ∧ P (.lst (List.replicate k.toNat l).flatten)
theorem od_repL : OpD X (binaryOp .Mult) wRepL := by
  intro S B O H0 H σ Γ P x y a b st r1 r2 ⟨l, k, ea, eb, h1, h2, hz, h⟩
  subst ea eb
  cases r1 with
  | @lst a vs _ ha ra =>
    cases r2
    exact ⟨_, op_repS, fun Q kk => ⟨a, k, vs, rfl, rfl, ha.sq, h1, h2, by rw [ra.length]; exact hz, fun p np => kk _ _ _ (.new np) (rep_lst st (ra.rep _) np) h⟩⟩
def wInT : W2 := fun a b P => ∃ z l ss, a = .str z ∧ b = .tup l ∧ txts l = some ss ∧ P (.bl (decide (z ∈ ss)))
theorem o_inT {P : D → Prop} {z : Str} {l : List D} {ss : List Str} (e : txts l = some ss) (h : P (.bl (decide (z ∈ ss)))) : wInT (.str z) (.tup l) P := ⟨z, l, ss, rfl, rfl, e, h⟩
theorem od_inT : OpD X (compareOp .In) wInT := by
  intro S B O H0 H σ Γ P x y a b st r1 r2 ⟨z, l, ss, ea, eb, e, h⟩
  subst ea eb
  cases strs_map e
  cases r1
  cases r2 with
  | @tup a vs _ ha ra =>
    cases ra.strs
    exact ⟨_, op_in_seq, fun Q k => ⟨a, _, rfl, .inr ha.sq, rfl, flat_strs ss, by
      rw [if_neg Bool.false_ne_true, in_strs]
      exact k _ _ H .refl (.bl _) h⟩⟩
def wSum : WA := fun ds P => ∃ ns : List Int, ds = [.lst (ns.map D.int)] ∧ P (.int ns.sum)
theorem bi_sum (hc : X.calm = true) : BiD X (.builtin "sum") wSum := by
  intro S B O H0 H σ Γ P vs ds st r ⟨ns, e, h⟩
  subst e
  obtain ⟨v, rfl, r1⟩ := r.one
  cases r1 with
  | @lst a vs _ ha ra =>
    cases ra.ints
    exact ⟨_, cr_sum hc, fun Q k => ⟨a, ns, rfl, ha.sq, k _ _ H .refl (.int _) h⟩⟩
def wMax : WA := fun ds P => ∃ ns : List Int, ds = [.lst (ns.map D.int)] ∧ 0 < ns.length ∧ ∀ m, m ∈ ns → (∀ y, y ∈ ns → y ≤ m) → P (.int m)
theorem bi_max (hc : X.calm = true) : BiD X (.builtin "max") wMax := by
  intro S B O H0 H σ Γ P vs ds st r ⟨ns, e, hne, h⟩
  subst e
  obtain ⟨v, rfl, r1⟩ := r.one
  cases r1 with
  | @lst a vs _ ha ra =>
    cases ra.ints
    exact ⟨_, cr_max hc, fun Q k => ⟨a, ns, rfl, ha.sq, hne, fun m h1 h2 => k _ _ H .refl (.int _) (h m h1 h2)⟩⟩
theorem bt_sum : bootBuiltins "sum" = some (.builtin "sum") := by decide +kernel
theorem bt_max : bootBuiltins "max" = some (.builtin "max") := by decide +kernel
theorem at0 {x : D} {l : List D} : atI (x :: l) 0 = some x := atI_nat (j := 0) rfl
def cutD (l : List D) (lo hi : Option Int) : List D := (l.drop (HT.sIx l.length 0 lo)).take (HT.sIx l.length l.length hi - HT.sIx l.length 0 lo)
theorem RepAll.cut {K S M H} {vs : List V} {ds : List D} (r : RepAll K S M H vs ds) (lo hi : Option Int) : RepAll K S M H (cutV vs lo hi) (cutD ds lo hi) := by
  unfold cutV cutD
  rw [r.length]
  exact (r.drop _).take _
def OL (X : Cx) (o : Option Expr) (v : Option Int) : Prop := ∃ t, PO X o t ∧ ∀ σ H Q, Q v H → t σ H Q
theorem ol_none : OL X none none := ⟨_, po_none, fun _ _ _ h => h⟩
theorem ol_lit {i : Int} {j pos} : OL X (some (.Constant (.int i) j pos)) (some i) := ⟨_, po_some pe_int, fun σ H Q h => ⟨i, rfl, h⟩⟩
theorem ex_slT {Γ : List E} {P : D → Prop} {pos p2 : Pos} {e : Expr} {lo hi : Option Expr} {vl vh : Option Int} (ol : OL X lo vl) (oh : OL X hi vh) (h : EX X e Γ (asT fun l => P (.tup (cutD l vl vh)))) : EX X (.Subscript e (.Slice lo hi none p2) pos) Γ P := by
  obtain ⟨tl, hl, ql⟩ := ol
  obtain ⟨th, hh, qh⟩ := oh
  refine ex_of (pe_slice sl_tupA pe_sem hl hh) fun S B O H0 H σ st Q k => h S B O H0 H σ st _ fun v d H1 e1 r1 p1 => ?_
  cases r1 <;> try exact p1.elim
  rename_i a vs ds ha ra
  have p1' : P (.tup (cutD ds vl vh)) := p1
  refine ql _ _ _ (qh _ _ _ ⟨a, vs, rfl, ha.sq, fun hw => ?_, fun hn p np => ?_⟩)
  · have e : cutD ds vl vh = ds := by
      unfold cutD
      rw [← ra.length, hw.1, hw.2, ra.length, List.drop_zero, Nat.sub_zero, List.take_length]
    rw [e] at p1'
    exact k _ _ H1 e1 (.tup ha ra) p1'
  · exact k _ _ _ (e1.trans (.new np)) (rep_tup (st.to e1) (ra.cut vl vh) np) p1'
end
end G
set_option Elab.async false
set_option linter.all false
set_option maxRecDepth 100000
set_option maxHeartbeats 4000000
namespace G
open PySem PySem.Spec PyProof.Rows L2
def topS (i : Nat) : Stmt := PySem.Challenge.pw_fewtell_k11_measures_of_programs.main.body.getD i (.Pass ⟨0, 0, 0, 0⟩)
abbrev sSource : Stmt := topS 9
abbrev sDraw : Stmt := topS 10
theorem scSource : FnScope ["_law_script"] ["_law_script"] (defScope sSource) := ⟨rfl, rfl, rfl, by decide +kernel, rfl, by decide +kernel, by decide +kernel⟩
theorem scDraw : FnScope ["_law_src", "_law_many7", "_law_cell7", "_law_digit", "_law_seed"] ["_law_src", "_law_many7"] (defScope sDraw) := ⟨rfl, rfl, rfl, by decide +kernel, rfl, by decide +kernel, by decide +kernel⟩
def Wdraw : WA := fun ds P => ∃ n : Int, ds = [.src, .int n] ∧ 1 ≤ n ∧ n.natAbs < 2 ^ 8000 ∧ ∀ k, 0 ≤ k → k < n → P (.int k)
/-- the source's slots -/
structure Slots (K : PySem.W.Frag) (S : Sr) (H H' : Hp) (i c s t : Int) (ns : List Int) : Prop where
  at_ : H' S.a = some (.lst [.ref S.l, .int i, .int c, .int s, .int t])
  ls : H' S.l = some (.lst (ns.map V.int))
  keep : ∀ b o, b ≠ S.a → H b = some o → H' b = some o
  ne : S.l ≠ S.a
  i0 : 0 ≤ i
  c0 : 0 ≤ c
  s0 : 0 ≤ s
  s1 : s < 2147483629
  t0 : 0 ≤ t
theorem Slots.ext {K S H H' i c s t ns} (z : Slots K S H H' i c s t ns) : Ext K S H H' :=
  ⟨z.keep, fun _ _ => ⟨i, c, s, t, ns, z.at_, z.ls, z.i0, z.c0, z.s0, z.s1, z.t0⟩, fun _ => ⟨⟨_, z.at_⟩, ⟨_, z.ls⟩, z.ne⟩⟩
theorem Slots.put {K S H H' i c s t ns i' c' s' t'} (z : Slots K S H H' i c s t ns) (h1 : 0 ≤ i') (h2 : 0 ≤ c') (h3 : 0 ≤ s') (h4 : s' < 2147483629) (h5 : 0 ≤ t') :
    Slots K S H (upd H' S.a (.lst [.ref S.l, .int i', .int c', .int s', .int t'])) i' c' s' t' ns :=
  ⟨upd_same, by rw [upd_ne z.ne]; exact z.ls, fun b o n h => by rw [upd_ne n]; exact z.keep b o n h, z.ne, h1, h2, h3, h4, h5⟩
theorem dec0 {c : Int} : decide (V.int c = V.int 0) = decide (c = 0) := by
  by_cases h : c = 0
  · subst h; simp
  · rw [decide_eq_false h, decide_eq_false (fun e => h (V.int.inj e))]
section
variable {P : Program} {w : World} {K : PySem.W.Frag} {mg : Str → Option Value} {base : Heap}
theorem ok_draw {f : Addr} {fd : FuncData} {k : Nat} (F : Fun K "_law_draw" "_law_draw" sDraw f fd) (ml : mg "len" = none) (mi : mg "int" = none) : FnOk P w K mg base CX0 (k + 1) f fd ["_law_src", "_law_many7"] (spW K Wdraw 2) := by
  refine F.ok scDraw (fun vs H Q E h => h.1) (fun cdv A outer s H vs Q E hr h => ?_)
  obtain ⟨_, S, B, ds, P', hSB, hlive, hB, hrep, ⟨n, rfl, hn1, hn2, hP⟩, hQ⟩ := h
  obtain ⟨v1, v2, rfl, r1, r2⟩ := hrep.two
  cases r1 with
  | src hsrc hm =>
  cases r2
  obtain ⟨i, c, s, t, ns, hS, hL, hi, hc, hs0, hs1, ht⟩ := hsrc
  have z0 : Slots K S H H i c s t ns := ⟨hS, hL, fun _ _ _ h => h, hlive.2.2, hi, hc, hs0, hs1, ht⟩
  let cxc := scDraw.nd
  refine ⟨_, Evl.pss_cut (ps_if (PW.pt (pw_and (pt_cmpR op_eq (pe_ix ix_list (pv 0) pe_int (fun _ _ => rfl)) pe_int (nomark _)) (pw_and1 (pt_cmpR op_lt (pe_ix ix_list (pv 0) pe_int (fun _ _ => rfl)) (pe_callB call_len_seq (by rfl) ml PySem.boot_len (pa_cons (pe_ix ix_list (pv 0) pe_int (fun _ _ => rfl)) pa_nil)) (nomark _)))))
      (pss_cons (ps_set (i := 2) scDraw.nd rfl (.inl rfl) (pe_ix ix_list (pe_ix ix_list (pv 0) pe_int (fun _ _ => rfl)) (pe_ix ix_list (pv 0) pe_int (fun _ _ => rfl)) (fun _ _ => rfl)))
      (pss_cons (ps_asg (pe_op op_add (pe_ix ix_list (pv 0) pe_int (fun _ _ => rfl)) pe_int) (pg_sub (pv 0) pe_int set_list))
      (pss_one (ps_if (pt_cmpR op_ge (pv 2) (pe_op op_pow pe_int pe_int) (nomark _))
        (pss_one (ps_asg (pv 2) (pg_sub (pv 0) pe_int set_list)))
        (pss_one (ps_asg (pe_op op_mod (pe_callTy call_int1 (by rfl) mi bt_int (pa_cons (pe_op op_add (pe_op op_add (pe_op op_mul (pe_ix ix_list (pv 0) pe_int (fun _ _ => rfl)) pe_int) (pe_op op_mul (pe_op op_mod (pe_callTy call_int1 (by rfl) mi bt_int (pa_cons (pv 2) pa_nil)) pe_int) pe_int)) pe_int) pa_nil)) pe_int) (pg_sub (pv 0) pe_int set_list)))))))
      pss_nil)
    (Evl.pss_cut (ps_if (pt_cmpR op_gt (pe_ix ix_list (pv 0) pe_int (fun _ _ => rfl)) pe_int (nomark _))
      (pss_cons (ps_set (i := 3) scDraw.nd rfl (.inl rfl) (pe_op op_mod (pe_callTy call_int1 (by rfl) mi bt_int (pa_cons (pe_ix ix_list (pv 0) pe_int (fun _ _ => rfl)) pa_nil)) (pv 1)))
      (pss_cons (ps_asg (pe_op op_fdivG (pe_ix ix_list (pv 0) pe_int (fun _ _ => rfl)) (pv 1)) (pg_sub (pv 0) pe_int set_list))
      (pss_one (ps_ret (pv 3))))) pss_nil)
    (pss_cons (ps_asg (pe_op op_add (pe_ix ix_list (pv 0) pe_int (fun _ _ => rfl)) pe_int) (pg_sub (pv 0) pe_int set_list))
    (pss_cons (ps_set (i := 4) scDraw.nd rfl (.inl rfl) (pe_ix ix_list (pv 0) pe_int (fun _ _ => rfl)))
    (pss_cons (ps_asg (pe_op op_mod (pe_callTy call_int1 (by rfl) mi bt_int (pa_cons (pe_op op_add (pe_op op_add (pe_op op_add (pe_op op_mul (pv 4) (pv 4)) (pe_op op_mul (pv 4) pe_int)) (pe_op op_mul (pe_ix ix_list (pv 0) pe_int (fun _ _ => rfl)) pe_int)) pe_int) pa_nil)) pe_int) (pg_sub (pv 0) pe_int set_list))
    (pss_one (ps_ret (pe_op op_mod (pe_callTy call_int1 (by rfl) mi bt_int (pa_cons (pe_op op_add (pe_op op_fdiv (pe_ix ix_list (pv 0) pe_int (fun _ _ => rfl)) pe_int) (pe_op op_mul (pe_op op_mod (pe_callTy call_int1 (by rfl) mi bt_int (pa_cons (pe_ix ix_list (pv 0) pe_int (fun _ _ => rfl)) pa_nil)) pe_int) pe_int)) pa_nil)) (pv 1)))))))), ?_⟩
  -- the first if
  refine ⟨fun σ H' => ∃ y i c s t, σ = [some (.ref S.a), some (.int n), y, none, none] ∧ Slots K S H H' i c s t ns, ?_, ?_⟩
  · refine ⟨_, rfl, S.a, _, 2, _, rfl, rfl, SqL.of z0.at_, rfl, rfl, _, rfl, ?_⟩
    rw [dec0]
    refine ite2 (fun hc0 => ?_) fun _ => iteF ⟨_, i, c, s, t, rfl, z0⟩
    refine ⟨_, rfl, S.a, _, 1, _, rfl, rfl, SqL.of z0.at_, rfl, ?_⟩
    refine ⟨_, rfl, S.a, _, 0, _, rfl, rfl, SqL.of z0.at_, rfl, S.l, _, rfl, .inl (SqL.of z0.ls), _, _, rfl, rfl, _, rfl, ?_⟩
    refine ite2 (fun hi1 => ?_) fun _ => ⟨_, i, c, s, t, rfl, z0⟩
    have hi2 : i < ((ns.map V.int).length : Int) := of_decide_eq_true hi1
    rw [List.length_map] at hi2
    have hi3 : i.toNat < ns.length := by omega
    obtain ⟨cell, g⟩ : ∃ cell, atI (ns.map V.int) i = some (.int cell) := by
      obtain ⟨j, rfl⟩ : ∃ j : Nat, i = (j : Int) := ⟨i.toNat, by omega⟩
      have hj : j < ns.length := by omega
      exact ⟨ns[j], atI_nat (by rw [List.getElem?_map]; simp [hj])⟩
    -- cell = src[0][src[1]]
    refine ⟨_, rfl, S.a, _, 0, _, rfl, rfl, SqL.of z0.at_, rfl, ?_⟩
    refine ⟨_, rfl, S.a, _, 1, _, rfl, rfl, SqL.of z0.at_, rfl, S.l, _, i, _, rfl, rfl, SqL.of z0.ls, g, ?_⟩
    -- src[1] = src[1] + 1
    refine ⟨_, rfl, S.a, _, 1, _, rfl, rfl, SqL.of z0.at_, rfl, i, 1, rfl, rfl, _, rfl, S.a, _, 1, 1, rfl, rfl, z0.at_, rfl, ?_⟩
    have z1 := z0.put (i' := i + 1) (c' := c) (s' := s) (t' := t) (by omega) hc hs0 hs1 ht
    -- if cell >= 10 ** 18
    refine ⟨.int cell, rfl, 10, 18, rfl, rfl, ⟨by decide, by decide, by decide⟩, cell, 10 ^ 18, rfl, rfl, _, rfl, ite2 (fun hb => ?_) fun hb => ?_⟩
    · have hb' : (10 : Int) ^ 18 ≤ cell := of_decide_eq_true hb
      refine ⟨.int cell, rfl, _, rfl, S.a, _, 2, 2, rfl, rfl, z1.at_, rfl, ?_⟩
      have z2 := z1.put (i' := i + 1) (c' := cell) (s' := s) (t' := t) (by omega) (Int.le_trans (by decide) hb') hs0 hs1 ht
      exact ⟨_, _, _, _, _, rfl, z2⟩
    · refine ⟨_, rfl, S.a, _, 3, _, rfl, rfl, SqL.of z1.at_, rfl, s, 40487, rfl, rfl, .inr (by decide), ?_⟩
      refine ⟨.int cell, rfl, .inl ⟨cell, rfl, cell, 2147483587, rfl, rfl, (show (0 : Int) < 2147483587 by decide), cell % 2147483587, 6113, rfl, rfl, .inr (by decide), _, _, rfl, rfl, _, 97, rfl, rfl, .inl ⟨_, rfl, _, 2147483629, rfl, rfl, (show (0 : Int) < 2147483629 by decide), ?_⟩⟩⟩
      refine ⟨_, rfl, S.a, _, 3, 3, rfl, rfl, z1.at_, rfl, ?_⟩
      have z2 := z1.put (i' := i + 1) (c' := c) (s' := (s * 40487 + cell % 2147483587 * 6113 + 97) % 2147483629) (t' := t) (by omega) hc (Int.emod_nonneg _ (by decide)) (Int.emod_lt_of_pos _ (by decide)) ht
      exact ⟨_, _, _, _, _, rfl, z2⟩
  rintro σ H1 ⟨y, i1, c1, s1, t1, rfl, z1⟩
  refine ⟨fun σ H' => ∃ y i c s t, σ = [some (.ref S.a), some (.int n), y, none, none] ∧ Slots K S H H' i c s t ns, ?_, ?_⟩
  · refine ⟨_, rfl, S.a, _, 2, _, rfl, rfl, SqL.of z1.at_, rfl, c1, 0, rfl, rfl, _, rfl, ite2 (fun hb => ?_) fun _ => ⟨_, i1, c1, s1, t1, rfl, z1⟩⟩
    refine ⟨_, rfl, S.a, _, 2, _, rfl, rfl, SqL.of z1.at_, rfl, .inl ⟨c1, rfl, .int n, rfl, c1, n, rfl, rfl, by omega, ?_⟩⟩
    refine ⟨_, rfl, S.a, _, 2, _, rfl, rfl, SqL.of z1.at_, rfl, .int n, rfl, c1, n, rfl, rfl, ⟨by omega, hn2⟩, _, rfl, S.a, _, 2, 2, rfl, rfl, z1.at_, rfl, ?_⟩
    have z2 := z1.put (i' := i1) (c' := c1.fdiv n) (s' := s1) (t' := t1) z1.i0 (by rw [Int.fdiv_eq_ediv_of_nonneg _ (by omega)]; exact Int.ediv_nonneg z1.c0 (by omega)) z1.s0 z1.s1 z1.t0
    exact ⟨.int (c1 % n), rfl, hQ _ _ _ z2.ext (.int _) (hP _ (Int.emod_nonneg _ (by omega)) (Int.emod_lt_of_pos _ (by omega)))⟩
  rintro σ H2 ⟨y2, i2, c2, s2, t2, rfl, z2⟩
  refine ⟨_, rfl, S.a, _, 4, _, rfl, rfl, SqL.of z2.at_, rfl, t2, 1, rfl, rfl, _, rfl, S.a, _, 4, 4, rfl, rfl, z2.at_, rfl, ?_⟩
  have z3 := z2.put (i' := i2) (c' := c2) (s' := s2) (t' := t2 + 1) z2.i0 z2.c0 z2.s0 z2.s1 (by have := z2.t0; omega)
  refine ⟨_, rfl, S.a, _, 3, _, rfl, rfl, SqL.of z3.at_, rfl, ?_⟩
  have b0 := z2.s0
  have b1 := z2.s1
  refine ⟨.int s2, rfl, .int s2, rfl, s2, s2, rfl, rfl, .inr ⟨by omega, by omega⟩, .int s2, rfl, s2, 26399, rfl, rfl, .inr (by decide), _, _, rfl, rfl, ?_⟩
  refine ⟨_, rfl, S.a, _, 4, _, rfl, rfl, SqL.of z3.at_, rfl, t2 + 1, 1000931, rfl, rfl, .inr (by decide), _, _, rfl, rfl, _, 80671, rfl, rfl, .inl ⟨_, rfl, _, 2147483629, rfl, rfl, (show (0 : Int) < 2147483629 by decide), ?_⟩⟩
  refine ⟨_, rfl, S.a, _, 3, 3, rfl, rfl, z3.at_, rfl, ?_⟩
  have z4 := z3.put (i' := i2) (c' := c2) (s' := (s2 * s2 + s2 * 26399 + (t2 + 1) * 1000931 + 80671) % 2147483629) (t' := t2 + 1) z2.i0 z2.c0 (Int.emod_nonneg _ (by decide)) (Int.emod_lt_of_pos _ (by decide)) (by have := z2.t0; omega)
  refine ⟨_, rfl, S.a, _, 3, _, rfl, rfl, SqL.of z4.at_, rfl, _, 71, rfl, rfl, ⟨by decide, by decide⟩, ?_⟩
  refine ⟨_, rfl, S.a, _, 3, _, rfl, rfl, SqL.of z4.at_, rfl, .inl ⟨_, rfl, _, 7919, rfl, rfl, (show (0 : Int) < 7919 by decide), _, 43, rfl, rfl, .inr (by decide), _, _, rfl, rfl, .inl ⟨_, rfl, .int n, rfl, _, n, rfl, rfl, (show (0 : Int) < n by omega), ?_⟩⟩⟩
  exact hQ _ _ _ z4.ext (.int _) (hP _ (Int.emod_nonneg _ (by omega)) (Int.emod_lt_of_pos _ (by omega)))
end

/-! ### the source made -/
def spSource (K : PySem.W.Frag) : Sp := fun vs H Q _ => ∃ (a : Addr) (ns : List Int), vs = [.ref a] ∧ SqL K H a (ns.map V.int) ∧ ns.length ≤ 63 ∧
  ∀ (p l : Addr) (ms : List Int) H', Same H H' → H p = none → H l = none → l ≠ p → H' p = some (.lst [.ref l, .int 0, .int 0, .int 12023, .int 0]) → H' l = some (.lst (ms.map V.int)) → Q (.ref p) H'
section
variable {P : Program} {w : World} {K : PySem.W.Frag} {mg : Str → Option Value} {base : Heap}
theorem cut_map (ns : List Int) (lo hi : Option Int) : ∃ ms : List Int, cutV (ns.map V.int) lo hi = ms.map V.int := by
  unfold cutV
  rw [List.length_map]
  exact ⟨_, by rw [← List.map_drop, ← List.map_take]⟩
theorem ok_source {f : Addr} {fd : FuncData} {k : Nat} (F : Fun K "_law_source" "_law_source" sSource f fd) (ml : mg "list" = none) : FnOk P w K mg base CX0 (k + 1) f fd ["_law_script"] (spSource K) := by
  refine F.ok scSource (fun vs H Q E h => ?_) (fun cdv A outer s H vs Q E hr h => ?_)
  · obtain ⟨a, ns, rfl, _⟩ := h
    rfl
  · obtain ⟨a, ns, rfl, hS, hlen, q⟩ := h
    refine ⟨_, pss_one (ps_ret (pe_lst (pa_cons (pe_callTy call_list_of (by rfl) ml bt_list (pa_cons (pe_slice sl_list (pv 0) po_none (po_some pe_int)) pa_nil)) (pa_cons pe_int (pa_cons pe_int (pa_cons pe_int (pa_cons pe_int pa_nil))))))), ?_⟩
    obtain ⟨ms, hms⟩ := cut_map ns none (some 63)
    refine ⟨.ref a, rfl, 63, rfl, a, _, rfl, hS, fun c nc => ?_⟩
    rw [hms]
    refine ⟨c, _, rfl, .inl (SqL.of upd_same), fun l nl => ?_⟩
    have ncl : c ≠ l := ne_of_none (o := .lst (ms.map V.int)) upd_same nl
    refine ⟨small (n := 5) (by decide), fun p np => ?_⟩
    have npl : l ≠ p := ne_of_none (o := .lst (ms.map V.int)) upd_same np
    have s1 := same_upd (o := .lst (ms.map V.int)) nc
    have s2 := same_upd (o := .lst (ms.map V.int)) nl
    have s3 := same_upd (o := .lst [.ref l, .int 0, .int 0, .int 12023, .int 0]) np
    exact q p l ms _ ((s1.trans s2).trans s3) ((s1.trans s2).free np) (s1.free nl) npl upd_same (by rw [upd_ne npl]; exact upd_same)
end
end G
set_option Elab.async false
set_option linter.all false
set_option maxRecDepth 100000
set_option maxHeartbeats 4000000
namespace G
open PySem PySem.Spec PyProof.Rows L2
local macro_rules | `(tactic| wtm_at "vis") => `(tactic| first | exact Or.inl rfl | exact Or.inr (Or.inl rfl) | exact Or.inr (Or.inr rfl))
local macro_rules | `(tactic| wtm_at "cal") => `(tactic| first | assumption | exact CallOk.blk (by assumption) | exact CallOkK.blk (by assumption) | exact ConstOk.blk (by assumption))
local macro_rules | `(tactic| wtm_at "nm") => `(tactic| first
  | refine ex_name 0 (by assumption) (by with_reducible rfl) (by with_reducible rfl) (by wtm_at "vis") ?_
  | refine ex_name 1 (by assumption) (by with_reducible rfl) (by with_reducible rfl) (by wtm_at "vis") ?_
  | refine ex_name 2 (by assumption) (by with_reducible rfl) (by with_reducible rfl) (by wtm_at "vis") ?_
  | refine ex_name 3 (by assumption) (by with_reducible rfl) (by with_reducible rfl) (by wtm_at "vis") ?_
  | refine ex_name 4 (by assumption) (by with_reducible rfl) (by with_reducible rfl) (by wtm_at "vis") ?_
  | refine ex_name 5 (by assumption) (by with_reducible rfl) (by with_reducible rfl) (by wtm_at "vis") ?_
  | refine ex_name 6 (by assumption) (by with_reducible rfl) (by with_reducible rfl) (by wtm_at "vis") ?_
  | refine ex_name 7 (by assumption) (by with_reducible rfl) (by with_reducible rfl) (by wtm_at "vis") ?_
  | refine ex_name 8 (by assumption) (by with_reducible rfl) (by with_reducible rfl) (by wtm_at "vis") ?_
  | refine ex_name 9 (by assumption) (by with_reducible rfl) (by with_reducible rfl) (by wtm_at "vis") ?_
  | refine ex_name 10 (by assumption) (by with_reducible rfl) (by with_reducible rfl) (by wtm_at "vis") ?_
  | refine ex_name 11 (by assumption) (by with_reducible rfl) (by with_reducible rfl) (by wtm_at "vis") ?_
  | refine ex_name 12 (by assumption) (by with_reducible rfl) (by with_reducible rfl) (by wtm_at "vis") ?_
  | refine ex_name 13 (by assumption) (by with_reducible rfl) (by with_reducible rfl) (by wtm_at "vis") ?_
  | refine ex_name 14 (by assumption) (by with_reducible rfl) (by with_reducible rfl) (by wtm_at "vis") ?_
  | refine ex_name 15 (by assumption) (by with_reducible rfl) (by with_reducible rfl) (by wtm_at "vis") ?_
  | refine ex_name 16 (by assumption) (by with_reducible rfl) (by with_reducible rfl) (by wtm_at "vis") ?_
  | refine ex_name 17 (by assumption) (by with_reducible rfl) (by with_reducible rfl) (by wtm_at "vis") ?_
  | refine ex_name 18 (by assumption) (by with_reducible rfl) (by with_reducible rfl) (by wtm_at "vis") ?_
  | refine ex_name 19 (by assumption) (by with_reducible rfl) (by with_reducible rfl) (by wtm_at "vis") ?_
  | refine ex_name 20 (by assumption) (by with_reducible rfl) (by with_reducible rfl) (by wtm_at "vis") ?_
  | refine ex_name 21 (by assumption) (by with_reducible rfl) (by with_reducible rfl) (by wtm_at "vis") ?_
  | refine ex_name 22 (by assumption) (by with_reducible rfl) (by with_reducible rfl) (by wtm_at "vis") ?_
  | refine ex_name 23 (by assumption) (by with_reducible rfl) (by with_reducible rfl) (by wtm_at "vis") ?_)
local macro_rules | `(tactic| wtm_at "kb") => `(tactic| first | exact kb0 | exact kb1 | exact kb2 | exact kb3 | exact kb4 | exact kb5 | exact kb6 | exact kb7 | exact kb8 | exact kb9 | exact kb10 | exact kb11 | exact kb12 | exact kb13 | exact kb14 | exact kb15 | exact kb16 | exact kb17 | exact kb18 | exact kb19 | exact kb20 | exact kb21 | exact kb22 | exact kb23 | exact kb24 | exact kb25 | exact kb26 | exact kb27 | exact kb28 | exact kb29)
local macro_rules | `(tactic| wtm_at "loc") => `(tactic| first | exact Or.inl rfl | exact Or.inr rfl)
local macro_rules | `(tactic| wtm_at "set") => `(tactic| first
  | refine s_set 0 (by assumption) (by assumption) (by with_reducible rfl) (by wtm_at "loc") ?_
  | refine s_set 1 (by assumption) (by assumption) (by with_reducible rfl) (by wtm_at "loc") ?_
  | refine s_set 2 (by assumption) (by assumption) (by with_reducible rfl) (by wtm_at "loc") ?_
  | refine s_set 3 (by assumption) (by assumption) (by with_reducible rfl) (by wtm_at "loc") ?_
  | refine s_set 4 (by assumption) (by assumption) (by with_reducible rfl) (by wtm_at "loc") ?_
  | refine s_set 5 (by assumption) (by assumption) (by with_reducible rfl) (by wtm_at "loc") ?_
  | refine s_set 6 (by assumption) (by assumption) (by with_reducible rfl) (by wtm_at "loc") ?_
  | refine s_set 7 (by assumption) (by assumption) (by with_reducible rfl) (by wtm_at "loc") ?_
  | refine s_set 8 (by assumption) (by assumption) (by with_reducible rfl) (by wtm_at "loc") ?_
  | refine s_set 9 (by assumption) (by assumption) (by with_reducible rfl) (by wtm_at "loc") ?_
  | refine s_set 10 (by assumption) (by assumption) (by with_reducible rfl) (by wtm_at "loc") ?_
  | refine s_set 11 (by assumption) (by assumption) (by with_reducible rfl) (by wtm_at "loc") ?_
  | refine s_set 12 (by assumption) (by assumption) (by with_reducible rfl) (by wtm_at "loc") ?_
  | refine s_set 13 (by assumption) (by assumption) (by with_reducible rfl) (by wtm_at "loc") ?_
  | refine s_set 14 (by assumption) (by assumption) (by with_reducible rfl) (by wtm_at "loc") ?_
  | refine s_set 15 (by assumption) (by assumption) (by with_reducible rfl) (by wtm_at "loc") ?_
  | refine s_set 16 (by assumption) (by assumption) (by with_reducible rfl) (by wtm_at "loc") ?_
  | refine s_set 17 (by assumption) (by assumption) (by with_reducible rfl) (by wtm_at "loc") ?_
  | refine s_set 18 (by assumption) (by assumption) (by with_reducible rfl) (by wtm_at "loc") ?_
  | refine s_set 19 (by assumption) (by assumption) (by with_reducible rfl) (by wtm_at "loc") ?_
  | refine s_set 20 (by assumption) (by assumption) (by with_reducible rfl) (by wtm_at "loc") ?_
  | refine s_set 21 (by assumption) (by assumption) (by with_reducible rfl) (by wtm_at "loc") ?_
  | refine s_set 22 (by assumption) (by assumption) (by with_reducible rfl) (by wtm_at "loc") ?_
  | refine s_set 23 (by assumption) (by assumption) (by with_reducible rfl) (by wtm_at "loc") ?_)
local macro_rules | `(tactic| wtm_at "ex") => `(tactic| first
  | ((with_reducible show EX _ (PySem.Expr.Name "int" _) _ _); refine ex_ty (by assumption) (by rfl) bt_int ?_)
  | ((with_reducible show EX _ (PySem.Expr.Name "str" _) _ _); refine ex_ty (by assumption) (by rfl) bt_str ?_)
  | ((with_reducible show EX _ (PySem.Expr.Name "bool" _) _ _); refine ex_ty (by assumption) (by rfl) bt_bool ?_)
  | ((with_reducible show EX _ (PySem.Expr.Name "list" _) _ _); refine ex_ty (by assumption) (by rfl) bt_list ?_)
  | ((with_reducible show EX _ (PySem.Expr.Name "tuple" _) _ _); refine ex_ty (by assumption) (by rfl) bt_tuple ?_)
  | ((with_reducible show EX _ (PySem.Expr.Name _ _) _ _); first | wtm_at "nm" | refine ex_glob (by wtm_at "cal") (by rfl) ?_)
  | ((with_reducible show EX _ (PySem.Expr.Constant (PySem.Const.int _) _ _) _ _); refine ex_int ?_)
  | ((with_reducible show EX _ (PySem.Expr.Constant (PySem.Const.str _) _ _) _ _); refine ex_str ?_)
  | ((with_reducible show EX _ (PySem.Expr.Constant (PySem.Const.bool _) _ _) _ _); refine ex_bl ?_)
  | ((with_reducible show EX _ (PySem.Expr.Constant PySem.Const.none _ _) _ _); refine ex_non ?_)
  | ((with_reducible show EX _ (PySem.Expr.BinOp _ PySem.Operator.Add _ _) _ _); refine ex_bin od_add ?_)
  | ((with_reducible show EX _ (PySem.Expr.BinOp _ PySem.Operator.Sub _ _) _ _); refine ex_bin od_sub ?_)
  | ((with_reducible show EX _ (PySem.Expr.BinOp _ PySem.Operator.Mult _ _) _ _); refine ex_bin od_mul ?_)
  | ((with_reducible show EX _ (PySem.Expr.BinOp _ PySem.Operator.Mod _ _) _ _); refine ex_bin od_mod ?_)
  | ((with_reducible show EX _ (PySem.Expr.BinOp _ PySem.Operator.FloorDiv _ _) _ _); refine ex_bin od_fdiv ?_)
  | ((with_reducible show EX _ (PySem.Expr.BinOp _ PySem.Operator.Pow _ _) _ _); refine ex_bin od_pow ?_)
  | ((with_reducible show EX _ (PySem.Expr.Compare _ [PySem.CmpOp.Eq] _ _) _ _); refine ex_cmp od_eq ?_)
  | ((with_reducible show EX _ (PySem.Expr.Compare _ [PySem.CmpOp.NotEq] _ _) _ _); refine ex_cmp od_ne ?_)
  | ((with_reducible show EX _ (PySem.Expr.Compare _ [PySem.CmpOp.Lt] _ _) _ _); refine ex_cmp od_lt ?_)
  | ((with_reducible show EX _ (PySem.Expr.Compare _ [PySem.CmpOp.LtE] _ _) _ _); refine ex_cmp od_le ?_)
  | ((with_reducible show EX _ (PySem.Expr.Compare _ [PySem.CmpOp.Gt] _ _) _ _); refine ex_cmp od_gt ?_)
  | ((with_reducible show EX _ (PySem.Expr.Compare _ [PySem.CmpOp.GtE] _ _) _ _); refine ex_cmp od_ge ?_)
  | ((with_reducible show EX _ (PySem.Expr.Compare _ [PySem.CmpOp.Is] _ _) _ _); refine ex_cmp od_is ?_)
  | ((with_reducible show EX _ (PySem.Expr.Compare _ [PySem.CmpOp.IsNot] _ _) _ _); refine ex_cmp od_isnot ?_)
  | ((with_reducible show EX _ (PySem.Expr.Compare _ [PySem.CmpOp.LtE, PySem.CmpOp.LtE] _ _) _ _); refine ex_chain od_le od_le ?_)
  | ((with_reducible show EX _ (PySem.Expr.UnaryOp PySem.UnaryOp.USub _ _) _ _); refine ex_neg ?_)
  | ((with_reducible show EX _ (PySem.Expr.UnaryOp PySem.UnaryOp.Not _ _) _ _); refine ex_not ?_)
  | ((with_reducible show EX _ (PySem.Expr.BoolOp PySem.BoolOp.And (_ :: _ :: _) _) _ _); refine ex_and ?_)
  | ((with_reducible show EX _ (PySem.Expr.BoolOp PySem.BoolOp.Or (_ :: _ :: _) _) _ _); refine ex_or ?_)
  | ((with_reducible show EX _ (PySem.Expr.BoolOp _ [_] _) _ _); refine ex_one ?_)
  | ((with_reducible show EX _ (PySem.Expr.IfExp _ _ _ _) _ _); refine ex_ifExp ?_)
  | ((with_reducible show EX _ (PySem.Expr.Tuple _ _ _) _ _); refine ex_tup ?_)
  | ((with_reducible show EX _ (PySem.Expr.List _ _) _ _); refine ex_lst ?_)
  | ((with_reducible show AX _ (_ :: _) _ _); refine ax_cons ?_)
  | ((with_reducible show AX _ [] _ _); refine ax_nil ?_)
  | ((with_reducible show KX _ (_ :: _) _ _); refine kx_cons ?_)
  | ((with_reducible show KX _ [] _ _); refine kx_nil ?_)
  | ((with_reducible show EX _ (PySem.Expr.Call (PySem.Expr.Name "isinstance" _) [_, PySem.Expr.Tuple [_, _] _ _] [] _) _ _); refine ex_isi2 (by assumption) (by rfl) bt_isi ?_)
  | ((with_reducible show EX _ (PySem.Expr.Call (PySem.Expr.Name "isinstance" _) _ [] _) _ _); refine ex_bi bi_isi (by assumption) (by rfl) bt_isi ?_)
  | ((with_reducible show EX _ (PySem.Expr.Call (PySem.Expr.Name "len" _) _ [] _) _ _); refine ex_bi bi_len (by assumption) (by rfl) bt_len ?_)
  | ((with_reducible show EX _ (PySem.Expr.Call (PySem.Expr.Name "abs" _) _ [] _) _ _); refine ex_bi bi_abs (by assumption) (by rfl) bt_abs ?_)
  | ((with_reducible show EX _ (PySem.Expr.Call (PySem.Expr.Name "all" _) _ [] _) _ _); refine ex_bi (bi_all rfl) (by assumption) (by rfl) bt_all ?_)
  | ((with_reducible show EX _ (PySem.Expr.Call (PySem.Expr.Name "int" _) _ [] _) _ _); refine ex_bt bi_int (by assumption) (by rfl) bt_int ?_)
  | ((with_reducible show EX _ (PySem.Expr.Call (PySem.Expr.Name "str" _) _ [] _) _ _); refine ex_bt bi_str (by assumption) (by rfl) bt_str ?_)
  | ((with_reducible show EX _ (PySem.Expr.Call (PySem.Expr.Name "list" _) _ [] _) _ _); refine ex_bt bi_list (by assumption) (by rfl) bt_list ?_)
  | ((with_reducible show EX _ (PySem.Expr.Call (PySem.Expr.Name "tuple" _) _ [] _) _ _); refine ex_bt bi_tuple (by assumption) (by rfl) bt_tuple ?_)
  | ((with_reducible show EX _ (PySem.Expr.Call (PySem.Expr.Name "gcd" _) _ [] _) _ _); refine ex_bf bi_gcd (by assumption) (by rfl) ?_)
  | ((with_reducible show EX _ (PySem.Expr.Call (PySem.Expr.Name _ _) (_ :: _) [] _) _ _); refine ex_call (by wtm_at "cal") (by rfl) ?_)
  | ((with_reducible show EX _ (PySem.Expr.Call (PySem.Expr.Name _ _) [] (_ :: _) _) _ _); refine ex_callK0 (by wtm_at "cal") (by rfl) ?_)
  | ((with_reducible show EX _ (PySem.Expr.Call (PySem.Expr.Name _ _) (_ :: _) (_ :: _) _) _ _); refine ex_callK (by wtm_at "cal") (by rfl) ?_)
  | ((with_reducible show EX _ (PySem.Expr.Subscript _ _ _) _ _); refine ex_ix ?_))
local macro_rules | `(tactic| wtm_at "tx") => `(tactic| first
  | ((with_reducible show TX _ (PySem.Expr.Compare _ [PySem.CmpOp.Eq] _ _) _ _); refine tx_cmp od_eq ?_)
  | ((with_reducible show TX _ (PySem.Expr.Compare _ [PySem.CmpOp.NotEq] _ _) _ _); refine tx_cmp od_ne ?_)
  | ((with_reducible show TX _ (PySem.Expr.Compare _ [PySem.CmpOp.Lt] _ _) _ _); refine tx_cmp od_lt ?_)
  | ((with_reducible show TX _ (PySem.Expr.Compare _ [PySem.CmpOp.LtE] _ _) _ _); refine tx_cmp od_le ?_)
  | ((with_reducible show TX _ (PySem.Expr.Compare _ [PySem.CmpOp.Gt] _ _) _ _); refine tx_cmp od_gt ?_)
  | ((with_reducible show TX _ (PySem.Expr.Compare _ [PySem.CmpOp.GtE] _ _) _ _); refine tx_cmp od_ge ?_)
  | ((with_reducible show TX _ (PySem.Expr.Compare _ [PySem.CmpOp.Is] _ _) _ _); refine tx_cmp od_is ?_)
  | ((with_reducible show TX _ (PySem.Expr.Compare _ [PySem.CmpOp.IsNot] _ _) _ _); refine tx_cmp od_isnot ?_)
  | ((with_reducible show TX _ (PySem.Expr.Compare _ [PySem.CmpOp.LtE, PySem.CmpOp.LtE] _ _) _ _); refine tx_chain od_le od_le ?_)
  | ((with_reducible show TX _ (PySem.Expr.UnaryOp PySem.UnaryOp.Not _ _) _ _); refine tx_not ?_)
  | ((with_reducible show TX _ (PySem.Expr.BoolOp _ _ _) _ _); refine tx_w ?_)
  | ((with_reducible show TW _ (PySem.Expr.BoolOp PySem.BoolOp.And (_ :: _ :: _) _) _ _); refine tw_and ?_)
  | ((with_reducible show TW _ (PySem.Expr.BoolOp PySem.BoolOp.Or (_ :: _ :: _) _) _ _); refine tw_or ?_)
  | ((with_reducible show TW _ (PySem.Expr.BoolOp PySem.BoolOp.And [_] _) _ _); refine tw_and1 ?_)
  | ((with_reducible show TW _ (PySem.Expr.BoolOp PySem.BoolOp.Or [_] _) _ _); refine tw_or1 ?_)
  | ((with_reducible show TX _ _ _ _); refine tx_truth ?_))
local macro_rules | `(tactic| wtm_at "st") => `(tactic| first
  | ((with_reducible show SX _ [_] _ _); refine sx_one ?_)
  | ((with_reducible show SX _ (_ :: _) _ _); refine sx_cons ?_)
  | ((with_reducible show SX _ [] _ _); refine sx_nil ?_)
  | ((with_reducible show S1 _ (PySem.Stmt.Return (some _) _) _ _); refine s_ret ?_)
  | ((with_reducible show S1 _ (PySem.Stmt.If _ _ _ _) _ _); refine s_if ?_)
  | ((with_reducible show S1 _ (PySem.Stmt.Expr _ _) _ _); refine s_expr ?_)
  | ((with_reducible show S1 _ (PySem.Stmt.Pass _) _ _); refine s_pass ?_)
  | ((with_reducible show S1 _ (PySem.Stmt.Assign [PySem.Expr.Name _ _] _ _) _ _); wtm_at "set"))
local macro_rules | `(tactic| wtm_at "op") => `(tactic| with_reducible first
  | refine o_add ?_
  | refine o_sub ?_
  | refine o_lt ?_
  | refine o_le ?_
  | refine o_gt ?_
  | refine o_ge ?_
  | refine o_is ?_
  | refine o_isnot ?_
  | refine o_lenl ?_
  | refine o_lent ?_
  | refine o_abs ?_
  | refine o_int ?_
  | refine o_listl ?_
  | refine o_listt ?_
  | refine o_tupl ?_
  | refine o_tupt ?_
  | refine o_all ?_
  | refine o_gcd ?_
  | refine o_asB ?_
  | refine o_asI ?_
  | refine o_asL ?_
  | refine o_asT ?_
  | refine o_truB ?_
  | refine o_truN ?_
  | refine o_truL ?_
  | refine o_truT ?_
  | refine if_t ?_
  | refine if_f ?_
  | refine if_nf ?_
  | refine if_nt ?_)
local macro_rules | `(tactic| wtm_at "op2") => `(tactic| first
  | ((with_reducible show if _ = true then _ else _); first | refine if_ev_t rfl ?_ | refine if_ev_f rfl ?_)
  | ((with_reducible show wIsi [_, D.ty _] _); refine o_isi rfl (by wtm_at "kb") ?_)
  | ((with_reducible show wEq _ _ _); refine o_eq rfl ?_)
  | ((with_reducible show wNe _ _ _); refine o_ne rfl ?_)
  | ((with_reducible show wIx (D.lst _) (D.int _) _); refine o_ixl rfl ?_)
  | ((with_reducible show wIx (D.tup _) (D.int _) _); refine o_ixt rfl ?_)
  | ((with_reducible show wPow _ _ _); refine o_pow ⟨by decide, by decide, by decide⟩ ?_)
  | ((with_reducible show (_ ≤ 100000) ∧ _); refine ⟨Nat.le_of_ble_eq_true rfl, ?_⟩)
  | ((with_reducible show ∃ n1 n2 t k1 k2, _); refine o_isi2 rfl (by wtm_at "kb") (by wtm_at "kb") ?_))
local macro_rules | `(tactic| wtm_at "go") => `(tactic| first | wtm_at "ex" | wtm_at "op" | wtm_at "op2" | wtm_at "tx" | wtm_at "st")
local macro_rules | `(tactic| wtm_at "ex") => `(tactic| first
  | ((with_reducible show EX _ (PySem.Expr.Compare _ [PySem.CmpOp.In] _ _) _ _); refine ex_cmp od_in ?_)
  | ((with_reducible show EX _ (PySem.Expr.Attribute _ _ _) _ _); refine ex_fld ?_)
  | ((with_reducible show EX _ (PySem.Expr.Call (PySem.Expr.Name _ _) (_ :: _) [] _) _ _); refine ex_make (by assumption) (by rfl) ?_)
  | ((with_reducible show EX _ (PySem.Expr.Call (PySem.Expr.Name _ _) [] [] _) _ _); first | refine ex_make0 (by assumption) (by rfl) ?_ | refine ex_call0 (by wtm_at "cal") (by rfl) ?_))
local macro_rules | `(tactic| wtm_at "op2") => `(tactic| first
  | ((with_reducible show wIn (D.str _) (D.lst _) _); refine o_in rfl ?_))
local macro_rules | `(tactic| wtm_at "tx") => `(tactic| first
  | ((with_reducible show TX _ (PySem.Expr.Compare _ [PySem.CmpOp.In] _ _) _ _); refine tx_cmp od_in ?_))
/-! ### the defs of the text -/
def FdAt (K : PySem.W.Frag) (f : Addr) (fd : FuncData) : Prop := ∃ oc od sl, K.lookup f = some ⟨oc, od, .func fd, sl⟩
theorem FdAt.eq {K f fd fd'} (h : FdAt K f fd) (h' : FdAt K f fd') : fd = fd' := by
  obtain ⟨_, _, _, h⟩ := h
  obtain ⟨_, _, _, h'⟩ := h'
  rw [h] at h'
  injection h' with h'
  injection h' with _ _ h'
  injection h'
theorem _root_.L2.Fun.at {K x q st f fd} (F : Fun K x q st f fd) : FdAt K f fd := by
  obtain ⟨oc, od, _, _, _, _, _, _, sl, _, h, _⟩ := F.ex
  exact ⟨oc, od, sl, h⟩
structure Df (P : Program) (w : World) (K : PySem.W.Frag) (mg : Str → Option Value) (base : Heap) (x : Str) (W : WA) (k : Nat) : Prop where
  ex : ∃ (f : Addr) (fd : FuncData) (ps : List Str) (n : Nat), FnOk P w K mg base CX0 k f fd ps (spW K W n) ∧ mg x = some (.ref f) ∧ PySem.W.keepIn K (.ref f) = true ∧ Binds K fd ps [] ∧ FdAt K f fd ∧ fd.params.args.map (·.arg) = ps ∧ ∀ es Po', W es Po' → es.length = n
theorem Df.call {X : Cx} {x : Str} {W : WA} {k j : Nat} (d : Df X.prog X.w X.K X.mg X.base x W j) (hr : Room k X.A) (h : j ≤ k := by decide) : CallOk X x W := by
  obtain ⟨f, fd, ps, n, F, hm, hk, hb, _, _, hn⟩ := d.ex
  exact ⟨_, f, fd, ps, n, W, [], [], [], F, hr.mono h, hm, hk, hb, .nil, fun _ _ _ => .nil, fun es P h => by rw [List.append_nil]; exact ⟨hn es P h, h⟩⟩
/-- a def of the top, as it stands -/
structure Top (K : PySem.W.Frag) (mg : Str → Option Value) (x : Str) (st : Stmt) (ps : List Str) : Prop where
  ex : ∃ (f : Addr) (fd : FuncData), Fun K x x st f fd ∧ mg x = some (.ref f) ∧ Binds K fd ps []
section
variable {P : Program} {w : World} {K : PySem.W.Frag} {mg : Str → Option Value} {base : Heap}
/-- a def keeps W if its body does, whatever stands around -/
theorem Top.df {x : Str} {st : Stmt} {ps N : List Str} {W : WA} {k : Nat} (T : Top K mg x st ps) (S : FnScope N ps (defScope st)) (hn : ∀ es Po', W es Po' → es.length = ps.length)
    (h : ∀ (f : Addr) (cdv : Value) (A : Around) (outer : List Env) (s : Shared) (H : Hp) (E : XK), Room k (A.deeper (envOfC x (defScope st) s.heap.objs.size f cdv)) → N.Nodup → ∀ ds Po', W ds Po' → ds.length = ps.length →
      SX (cxOf CX0 P w K mg base N x (defScope st) f cdv A outer s H E).nox (defBody st) (startE N ds) { nx := fun _ => Po' .non, rt := Po' }) (hps : (defArgs st).args.map (·.arg) = ps := by rfl) : Df P w K mg base x W (k + 1) := by
  obtain ⟨f, fd, F, hm, hb⟩ := T.ex
  exact ⟨f, fd, ps, ps.length, F.ok S (fun vs H Q E h => h.1) fun cdv A outer s H vs Q E hr hs => fn_body hs fun ds Po' hw hl => h f cdv A outer s H E hr S.nd ds Po' hw hl, hm, F.kp, hb, F.at, by obtain ⟨oc, od, kV, doc, pm, an, cdv, ct, osl, rfl, _⟩ := F.ex; exact hps, hn⟩
end
/-- plain data: what isinstance tells of it -/
def plain : D → Bool
  | .non | .bl _ | .int _ | .str _ | .tup _ | .lst _ => true
  | _ => false
abbrev sOf : Stmt := topS 11
abbrev sSame : Stmt := topS 13
theorem scOf : FnScope ["_law_src", "_law_things7"] ["_law_src", "_law_things7"] (defScope sOf) := ⟨rfl, rfl, rfl, by decide +kernel, rfl, by decide +kernel, by decide +kernel⟩
theorem scSame : FnScope ["_law_found", "_law_due", "_law_part7", "_law_late7"] ["_law_found", "_law_due"] (defScope sSame) := ⟨rfl, rfl, rfl, by decide +kernel, rfl, by decide +kernel, by decide +kernel⟩
/-- one of a list's items -/
def Wof : WA := fun ds P => ∃ l, ds = [.src, .lst l] ∧ l ≠ [] ∧ l.length ≤ 100000 ∧ ∀ d ∈ l, P d
/-- plain data of a depth -/
def shp : Nat → D → Bool
  | _, .non | _, .bl _ | _, .int _ | _, .str _ => true
  | n + 1, .tup l => decide (l.length ≤ 100000) && l.all (shp n)
  | n + 1, .lst l => decide (l.length ≤ 100000) && l.all (shp n)
  | _, _ => false
def Wsame (n : Nat) : WA := fun ds P => ∃ d, ds = [d, d] ∧ shp n d = true ∧ P (.bl true)
section
variable {P : Program} {w : World} {K : PySem.W.Frag} {mg : Str → Option Value} {base : Heap}
theorem df_draw (T : Top K mg "_law_draw" sDraw ["_law_src", "_law_many7"]) (ml : mg "len" = none) (mi : mg "int" = none) : Df P w K mg base "_law_draw" Wdraw 1 := by
  obtain ⟨f, fd, F, hm, hb⟩ := T.ex
  exact ⟨f, fd, _, 2, ok_draw F ml mi, hm, F.kp, hb, F.at, by obtain ⟨oc, od, kV, doc, pm, an, cdv, ct, osl, rfl, _⟩ := F.ex; rfl, fun _ _ ⟨_, h, _⟩ => by rw [h]; rfl⟩
end
section
variable {P : Program} {w : World} {K : PySem.W.Frag} {mg : Str → Option Value} {base : Heap}
theorem zip_self {l : List D} {i : Nat} {d : D} (h : (zipD l l)[i]? = some d) : ∃ x ∈ l, d = .tup [x, x] := by
  unfold zipD at h
  rw [List.getElem?_map] at h
  cases e : (l.zip l)[i]? with
  | none => rw [e] at h; cases h
  | some q =>
    rw [e] at h
    obtain ⟨a, b⟩ := q
    obtain ⟨h1, h2⟩ := (List.getElem?_zip_eq_some (z := (a, b))).mp e
    have e' : a = b := Option.some.inj (h1.symm.trans h2)
    subst e'
    exact ⟨a, List.mem_of_getElem? h1, (Option.some.inj h).symm⟩
abbrev nSame : List Str := ["_law_found", "_law_due", "_law_part7", "_law_late7"]
abbrev oSame : List (Str × Nat) := [("_law_part7", 2), ("_law_late7", 3)]
theorem two_len : ∀ (ds : List D) (Γ : List G.E) (P : List G.E → Prop), gdCons (gdN 2) (gdCons (gdN 3) gdNil) ds Γ P → ds.length = 2 := fun ds Γ P h => by
  obtain ⟨a, r, rfl, b, r2, rfl, rfl, _⟩ := h
  rfl
theorem shp_plain {n : Nat} {d : D} (h : shp n d = true) : plain d = true := by
  cases n <;> cases d <;> first | rfl | exact Bool.noConfusion h
set_option maxHeartbeats 16000000 in
theorem df_same (T : Top K mg "_law_same" sSame ["_law_found", "_law_due"]) (m1 : mg "isinstance" = none) (m2 : mg "list" = none) (m3 : mg "tuple" = none) (m4 : mg "len" = none) (m5 : mg "all" = none) (m6 : mg "zip" = none)
    (m7 : mg "bool" = none) (m8 : mg "int" = none) (m9 : mg "str" = none) : ∀ n, Df P w K mg base "_law_same" (Wsame n) (n + 1) := by
  intro n
  induction n with
  | zero =>
    refine T.df scSame (fun _ _ ⟨_, h, _⟩ => by rw [h]; rfl) fun f cdv A outer s H E hr hnd ds Po' hw hl => ?_
    obtain ⟨d, rfl, hs, hP⟩ := hw
    have hX : (cxOf CX0 P w K mg base nSame "_law_same" (defScope sSame) f cdv A outer s H E).nox.N = nSame := rfl
    show SX _ (_ :: _) [_, _, _, _] _
    cases d <;> try exact Bool.noConfusion hs
    all_goals (repeat wtm_at "go")
    all_goals first | exact hP | simpa using hP
  | succ n ih =>
    refine T.df scSame (fun _ _ ⟨_, h, _⟩ => by rw [h]; rfl) fun f cdv A outer s H E hr hnd ds Po' hw hl => ?_
    obtain ⟨d, rfl, hs, hP⟩ := hw
    have hX : (cxOf CX0 P w K mg base nSame "_law_same" (defScope sSame) f cdv A outer s H E).nox.N = nSame := rfl
    have c1 : CallOk (cxOf CX0 P w K mg base nSame "_law_same" (defScope sSame) f cdv A outer s H E).nox "_law_same" (Wsame n) := ih.call hr (Nat.le_refl _)
    show SX _ (_ :: _) [_, _, _, _] _
    cases d <;> try exact Bool.noConfusion hs
    all_goals (repeat wtm_at "go")
    case tup l =>
      have hs' : l.length ≤ 100000 ∧ ∀ x ∈ l, shp n x = true := by simpa [shp] using hs
      refine if_dec (fun _ => ?_) fun h => absurd rfl h
      repeat wtm_at "go"
      refine ex_lc (own := oSame) (js := [2, 3]) rfl hnd (blkOk_by (N := nSame) (sc := defScope sSame) (by decide +kernel)) (fun _ _ _ _ _ => pg_tup rfl (pgs_cons (pg_name (i := 2) hnd rfl (Or.inl rfl)) (pgs_cons (pg_name (i := 3) hnd rfl (Or.inl rfl)) pgs_nil)))
        (tg_tup (tgs_cons (tg_name 2) (tgs_cons (tg_name 3) tgs_nil)) two_len) (by decide) (by decide) [.is (.tup l), .is (.tup l), .no, .no] rfl ?_
      refine wx_zipT (by assumption) (by rfl) ?_
      repeat wtm_at "go"
      refine ⟨l, l, rfl, ?_, fun i es => es = List.replicate i (.bl true), rfl, fun i d es hd he => ?_, fun es he => ?_⟩
      · rw [zipD_len]; omega
      · obtain ⟨x, hx, rfl⟩ := zip_self hd
        subst he
        refine ⟨[x, x], rfl, x, [x], rfl, x, [], rfl, rfl, ?_⟩
        show EB _ _ _ _ _
        intro s0 H0 C cl fp
        repeat wtm_at "go"
        refine ⟨x, rfl, hs'.2 x hx, ?_⟩
        show List.replicate i (D.bl true) ++ [D.bl true] = _
        rw [List.replicate_succ']
      · subst he
        repeat wtm_at "go"
        refine ⟨List.replicate _ true, by rw [List.map_replicate], ?_⟩
        simpa using hP
    case lst l =>
      have hs' : l.length ≤ 100000 ∧ ∀ x ∈ l, shp n x = true := by simpa [shp] using hs
      refine if_dec (fun _ => ?_) fun h => absurd rfl h
      repeat wtm_at "go"
      refine ex_lc (own := oSame) (js := [2, 3]) rfl hnd (blkOk_by (N := nSame) (sc := defScope sSame) (by decide +kernel)) (fun _ _ _ _ _ => pg_tup rfl (pgs_cons (pg_name (i := 2) hnd rfl (Or.inl rfl)) (pgs_cons (pg_name (i := 3) hnd rfl (Or.inl rfl)) pgs_nil)))
        (tg_tup (tgs_cons (tg_name 2) (tgs_cons (tg_name 3) tgs_nil)) two_len) (by decide) (by decide) [.is (.lst l), .is (.lst l), .no, .no] rfl ?_
      refine wx_zipL (by assumption) (by rfl) ?_
      repeat wtm_at "go"
      refine ⟨l, l, rfl, ?_, fun i es => es = List.replicate i (.bl true), rfl, fun i d es hd he => ?_, fun es he => ?_⟩
      · rw [zipD_len]; omega
      · obtain ⟨x, hx, rfl⟩ := zip_self hd
        subst he
        refine ⟨[x, x], rfl, x, [x], rfl, x, [], rfl, rfl, ?_⟩
        show EB _ _ _ _ _
        intro s0 H0 C cl fp
        repeat wtm_at "go"
        refine ⟨x, rfl, hs'.2 x hx, ?_⟩
        show List.replicate i (D.bl true) ++ [D.bl true] = _
        rw [List.replicate_succ']
      · subst he
        repeat wtm_at "go"
        refine ⟨List.replicate _ true, by rw [List.map_replicate], ?_⟩
        simpa using hP
    all_goals first | exact hP | simpa using hP
end
def WofA : WA := fun ds P => Wof ds P ∨ ∃ z : Str, ds = [.src, .str z] ∧ 1 ≤ z.length ∧ z.length ≤ 1000 ∧ ∀ c ∈ z.cps.toList, P (.str ⟨#[c]⟩)
section
variable {P : Program} {w : World} {K : PySem.W.Frag} {mg : Str → Option Value} {base : Heap}
theorem df_ofA (T : Top K mg "_law_of" sOf ["_law_src", "_law_things7"]) (m1 : mg "len" = none) (d1 : Df P w K mg base "_law_draw" Wdraw 1) : Df P w K mg base "_law_of" WofA 2 :=
  T.df scOf (fun _ _ h => by rcases h with ⟨_, h, _⟩ | ⟨_, h, _⟩ <;> (rw [h]; rfl)) fun f cdv A outer s H E hr hnd ds Po' hw hl => by
  have hX : (cxOf CX0 P w K mg base ["_law_src", "_law_things7"] "_law_of" (defScope sOf) f cdv A outer s H E).nox.N = (["_law_src", "_law_things7"] : List Str) := rfl
  have c1 : CallOk (cxOf CX0 P w K mg base ["_law_src", "_law_things7"] "_law_of" (defScope sOf) f cdv A outer s H E).nox "_law_draw" Wdraw := d1.call hr
  show SX _ (_ :: _) (startE _ ds) _
  rcases hw with ⟨l, rfl, hne, hlen, hP⟩ | ⟨z, rfl, hz1, hz2, hP⟩
  · show SX _ (_ :: _) [_, _] _
    repeat wtm_at "go"
    have h0 : 0 < l.length := List.length_pos_iff.mpr hne
    refine ⟨_, rfl, by omega, ?_, fun k h1 h2 => ?_⟩
    · exact Nat.lt_of_le_of_lt (show ((l.length : Int)).natAbs ≤ 100000 by omega) (Nat.lt_of_lt_of_le (show 100000 < 2 ^ 20 by decide) (Nat.pow_le_pow_right (by decide) (by decide)))
    · obtain ⟨j, rfl⟩ : ∃ j : Nat, k = (j : Int) := ⟨k.toNat, by omega⟩
      have hj : j < l.length := by omega
      exact ⟨l[j], atI_nat (List.getElem?_eq_getElem hj), hP _ (List.getElem_mem hj)⟩
  · show SX _ (_ :: _) [_, _] _
    repeat wtm_at "go"
    refine o_lens (Nat.le_trans hz2 (by decide)) ?_
    repeat wtm_at "go"
    refine ⟨_, rfl, by omega, ?_, fun k h1 h2 => ?_⟩
    · exact Nat.lt_of_le_of_lt (show ((z.length : Int)).natAbs ≤ 1000 by omega) (Nat.lt_of_lt_of_le (show 1000 < 2 ^ 20 by decide) (Nat.pow_le_pow_right (by decide) (by decide)))
    · obtain ⟨j, rfl⟩ : ∃ j : Nat, k = (j : Int) := ⟨k.toNat, by omega⟩
      have hj : j < z.cps.toList.length := by
        rw [Array.length_toList]
        have : (j : Int) < (z.length : Int) := h2
        exact Int.ofNat_lt.mp this
      exact ⟨z.cps.toList[j], Nat.le_trans hz2 (by decide), atI_nat (List.getElem?_eq_getElem hj), hP _ (List.getElem_mem hj)⟩
end
theorem range_int' {n i : Nat} {d : D} (h : (rangeD n)[i]? = some d) : d = .int (i : Int) := by
  have hi : i < n := by
    have := (List.getElem?_eq_some_iff.mp h).1
    rwa [rangeD_len] at this
  rw [rangeD_get hi] at h
  exact (Option.some.inj h).symm
def lettersS : Str := "abcdefghijklmnopqrstuvwxyz"
abbrev sWord : Stmt := topS 12
abbrev nWord : List Str := ["_law_src", "_law_most", "_law_k"]
theorem scWord : FnScope nWord ["_law_src", "_law_most"] (defScope sWord) := ⟨rfl, rfl, rfl, by decide +kernel, rfl, by decide +kernel, by decide +kernel⟩
/-- a text of small letters, at most so many -/
def Small (m : Nat) (z : Str) : Prop := 1 ≤ z.length ∧ z.length ≤ m ∧ ∀ c ∈ z.cps.toList, c ∈ lettersS.cps.toList
def Wword : WA := fun ds P => ∃ m : Nat, ds = [.src, .int (m : Int)] ∧ 1 ≤ m ∧ m ≤ 100 ∧ ∀ z, Small m z → P (.str z)
section
variable {P : Program} {w : World} {K : PySem.W.Frag} {mg : Str → Option Value} {base : Heap}
theorem df_word (T : Top K mg "_law_word" sWord ["_law_src", "_law_most"]) (m2 : mg "range" = none) (d1 : Df P w K mg base "_law_draw" Wdraw 1) (d2 : Df P w K mg base "_law_of" WofA 2) : Df P w K mg base "_law_word" Wword 3 :=
  T.df (k := 2) scWord (fun _ _ ⟨_, h, _⟩ => by rw [h]; rfl) fun f cdv A outer s H E hr hnd ds Po' hw hl => by
  obtain ⟨m, rfl, hm1, hm2, hP⟩ := hw
  have hX : (cxOf CX0 P w K mg base nWord "_law_word" (defScope sWord) f cdv A outer s H E).nox.N = nWord := rfl
  have c1 : CallOk (cxOf CX0 P w K mg base nWord "_law_word" (defScope sWord) f cdv A outer s H E).nox "_law_draw" Wdraw := d1.call hr
  have c2 : CallOk (cxOf CX0 P w K mg base nWord "_law_word" (defScope sWord) f cdv A outer s H E).nox "_law_of" WofA := d2.call hr
  show SX _ (_ :: _) [_, _, _] _
  wtm_at "st"
  wtm_at "st"
  refine ex_join ?_
  repeat wtm_at "go"
  refine ⟨"", rfl, ?_⟩
  refine ex_lc (own := [("_law_k", 2)]) (js := [2]) rfl hnd (blkOk_by (N := nWord) (sc := defScope sWord) (by decide +kernel)) (fun _ _ _ _ _ => pg_name (i := 2) hnd rfl (Or.inl rfl)) (tg_name 2) (by decide) (by decide) [.is .src, .is (.int (m : Int)), .no] rfl ?_
  refine wx_range (by assumption) (by rfl) ?_
  repeat wtm_at "go"
  refine ⟨_, rfl, by omega, Nat.lt_of_le_of_lt (show ((m : Int)).natAbs ≤ 100 by omega) (Nat.lt_of_lt_of_le (show 100 < 2 ^ 20 by decide) (Nat.pow_le_pow_right (by decide) (by decide))), fun n h1 h2 => ?_⟩
  repeat wtm_at "go"
  refine ⟨by omega, by omega, by rw [rangeD_len]; omega, fun i es => ∃ cs : List Nat, cs.length = i ∧ (∀ c ∈ cs, c ∈ lettersS.cps.toList) ∧ es = (cs.map fun c => (⟨#[c]⟩ : Str)).map D.str, ⟨[], rfl, by simp, rfl⟩, fun i d es hd ha => ?_, fun es ha => ?_⟩
  · have ei := range_int' hd
    subst ei
    obtain ⟨cs, hl, hall, rfl⟩ := ha
    show EB _ _ _ _ _
    intro s0 H0 C cl fp
    repeat wtm_at "go"
    refine .inr ⟨lettersS, rfl, by decide, by decide, fun c hc => ?_⟩
    refine ⟨cs ++ [c], by rw [List.length_append, hl]; rfl, fun x hx => (List.mem_append.mp hx).elim (hall x) fun q => ?_, ?_⟩
    · have : x = c := by simpa using q
      rw [this]; exact hc
    · rw [List.map_append, List.map_append]
      rfl
  · obtain ⟨cs, hl, hall, rfl⟩ := ha
    rw [rangeD_len] at hl
    refine ⟨cs.map fun c => (⟨#[c]⟩ : Str), rfl, ?_, ?_⟩
    · have h1 : ((cs.map fun c => (⟨#[c]⟩ : Str)).map fun z => z.length).sum = cs.length := by
        rw [List.map_map]
        clear hl hall
        induction cs with
        | nil => rfl
        | cons c r ih => rw [List.map_cons, List.sum_cons, ih, List.length_cons]; show 1 + r.length = _; omega
      rw [h1, List.length_map, hl]
      show (1 + n).toNat + (1 + n).toNat * 0 ≤ _
      omega
    · have e := join_chars cs
      refine hP _ ⟨?_, ?_, fun c hc => ?_⟩
      · show 1 ≤ Array.size _
        rw [← Array.length_toList, TL.join_eq, e, hl]; omega
      · show Array.size _ ≤ m
        rw [← Array.length_toList, TL.join_eq, e, hl]; omega
      · rw [TL.join_eq, e] at hc
        exact hall c hc
end
local macro_rules | `(tactic| wtm_at "ex") => `(tactic| first
  | ((with_reducible show EX _ (PySem.Expr.Compare _ [PySem.CmpOp.In] _ _) _ _); refine ex_cmp od_inT ?_)
  | ((with_reducible show EX _ (PySem.Expr.Call (PySem.Expr.Name "sum" _) _ [] _) _ _); refine ex_bi (bi_sum rfl) (by assumption) (by rfl) bt_sum ?_)
  | ((with_reducible show EX _ (PySem.Expr.Call (PySem.Expr.Name "max" _) _ [] _) _ _); refine ex_bi (bi_max rfl) (by assumption) (by rfl) bt_max ?_)
  | ((with_reducible show EX _ (PySem.Expr.Subscript _ (PySem.Expr.Slice _ _ _ _) _) _ _); refine ex_slT (by first | exact ol_none | exact ol_lit) (by first | exact ol_none | exact ol_lit) ?_))
local macro_rules | `(tactic| wtm_at "op2") => `(tactic| first
  | ((with_reducible show wInT (D.str _) (D.tup _) _); refine o_inT rfl ?_)
  | ((with_reducible show wIx (D.tup (_ :: _)) (D.int 0) _); refine o_ixt at0 ?_)
  | ((with_reducible show wIx (D.lst (_ :: _)) (D.int 0) _); refine o_ixl at0 ?_))
local macro_rules | `(tactic| wtm_at "tx") => `(tactic| first
  | ((with_reducible show TX _ (PySem.Expr.Compare _ [PySem.CmpOp.In] _ _) _ _); refine tx_cmp od_inT ?_))
/-! ### sizes -/
set_option exponentiation.threshold 200000
def Bd (n : Nat) (x : Int) : Prop := x.natAbs < 2 ^ n
theorem Bd.mono {n m : Nat} {x : Int} (h : Bd n x) (l : n ≤ m) : Bd m x := Nat.lt_of_lt_of_le h (Nat.pow_le_pow_right (by decide) l)
theorem Bd.mul {n m : Nat} {x y : Int} (h : Bd n x) (h' : Bd m y) : Bd (n + m) (x * y) := by
  unfold Bd at *
  rw [Int.natAbs_mul, Nat.pow_add]
  exact Nat.mul_lt_mul'' h h'
theorem Bd.add {n : Nat} {x y : Int} (h : Bd n x) (h' : Bd n y) : Bd (n + 1) (x + y) := by
  unfold Bd at *
  have := Int.natAbs_add_le x y
  rw [Nat.pow_succ]
  omega
theorem Bd.neg {n : Nat} {x : Int} (h : Bd n x) : Bd n (-x) := by
  unfold Bd at *
  rw [Int.natAbs_neg]
  exact h
theorem Bd.sub {n : Nat} {x y : Int} (h : Bd n x) (h' : Bd n y) : Bd (n + 1) (x - y) := by
  rw [Int.sub_eq_add_neg]
  exact h.add h'.neg
theorem Bd.le {n : Nat} {x y : Int} (h : Bd n y) (l : x.natAbs ≤ y.natAbs) : Bd n x := Nat.lt_of_le_of_lt l h
theorem Bd.big {n m : Nat} {x y : Int} (h : Bd n x) (h' : Bd m y) (l : n ≤ 100000 := by decide) (l' : m ≤ 100000 := by decide) : CBig x y := ⟨h.mono l, h'.mono l'⟩
theorem Bd.log {n : Nat} {x : Int} (h : Bd n x) (l : n ≤ 1900 := by decide) : x.natAbs.log2 < 1920 := Nat.lt_of_lt_of_le (PySem.Flt.log2_lt_of (by decide) (h.mono (m := 1900) l)) (by decide)
def gcdI (a b : Int) : Int := ((Nat.gcd a.natAbs b.natAbs : Nat) : Int)
def sgI (b : Int) : Int := if 0 < b then 1 else -1
def lowN (a b : Int) : Int × Int := ((sgI b * a).fdiv (gcdI a b), (sgI b * b).fdiv (gcdI a b))
def lowD (a b : Int) : D := .tup [.int (lowN a b).1, .int (lowN a b).2]
theorem gcd_pos {a b : Int} (h : b ≠ 0) : 0 < gcdI a b := by
  have : 0 < b.natAbs := by omega
  have := Nat.gcd_pos_of_pos_right a.natAbs this
  unfold gcdI
  omega
theorem gcd_bd {a b : Int} {n : Nat} (h : b ≠ 0) (hb : Bd n b) : Bd n (gcdI a b) := hb.le (by
  have : 0 < b.natAbs := by omega
  have := Nat.gcd_le_right a.natAbs this
  unfold gcdI
  omega)
theorem gcd_dv {a b : Int} {n : Nat} (h : b ≠ 0) (hb : Bd n b) (l : n ≤ 8000 := by decide) {x : Int} : CDv x (gcdI a b) := ⟨by have := gcd_pos (a := a) h; omega, (gcd_bd h hb).mono l⟩
theorem bd1 : Bd 1 1 := by
  show (1 : Int).natAbs < 2 ^ 1
  decide
theorem sg_bd (b : Int) : Bd 1 (sgI b) := by
  unfold sgI
  split
  · exact bd1
  · show (-1 : Int).natAbs < 2 ^ 1
    decide
theorem fdiv_bd {n : Nat} {x g : Int} (h : Bd n x) (hg : 0 < g) : Bd (n + 1) (x.fdiv g) := by
  unfold Bd at *
  rw [Int.fdiv_eq_ediv_of_nonneg _ (by omega)]
  have h1 : (x / g).natAbs ≤ x.natAbs := by
    have := Int.natAbs_ediv_le_natAbs x g
    exact this
  rw [Nat.pow_succ]
  omega

abbrev sRaised : Stmt := topS 1
abbrev sParts : Stmt := topS 3
abbrev sCommon : Stmt := topS 14
abbrev sLow : Stmt := topS 15
abbrev sShare : Stmt := topS 16
abbrev sInner : Stmt := topS 17
theorem scRaised : FnScope ["number", "count", "found"] ["number", "count"] (defScope sRaised) := ⟨rfl, rfl, rfl, by decide +kernel, rfl, by decide +kernel, by decide +kernel⟩
theorem scParts : FnScope ["program"] ["program"] (defScope sParts) := ⟨rfl, rfl, rfl, by decide +kernel, rfl, by decide +kernel, by decide +kernel⟩
theorem scCommon : FnScope ["_law_one", "_law_two"] ["_law_one", "_law_two"] (defScope sCommon) := ⟨rfl, rfl, rfl, by decide +kernel, rfl, by decide +kernel, by decide +kernel⟩
theorem scLow : FnScope ["_law_high7", "_law_under", "_law_common_here", "_law_sign"] ["_law_high7", "_law_under"] (defScope sLow) := ⟨rfl, rfl, rfl, by decide +kernel, rfl, by decide +kernel, by decide +kernel⟩
theorem scShare : FnScope ["_law_src", "_law_most", "_law_high7"] ["_law_src", "_law_most"] (defScope sShare) := ⟨rfl, rfl, rfl, by decide +kernel, rfl, by decide +kernel, by decide +kernel⟩
theorem scInner : FnScope ["_law_program", "_law_word_here"] ["_law_program"] (defScope sInner) := ⟨rfl, rfl, rfl, by decide +kernel, rfl, by decide +kernel, by decide +kernel⟩
def Wcommon : WA := fun ds P => ∃ a b, ds = [.int a, .int b] ∧ P (.int (gcdI a b))
def Wlow : WA := fun ds P => ∃ a b, ds = [.int a, .int b] ∧ b ≠ 0 ∧ Bd 4000 a ∧ Bd 4000 b ∧ P (lowD a b)
def Wshare : WA := fun ds P => ∃ m : Nat, ds = [.src, .int (m : Int)] ∧ 1 ≤ m ∧ m ≤ 1000000 ∧ ∀ x y : Int, P (.tup [.int x, .int y])
section
variable {P : Program} {w : World} {K : PySem.W.Frag} {mg : Str → Option Value} {base : Heap}
theorem df_common (T : Top K mg "_law_common" sCommon ["_law_one", "_law_two"]) (m1 : mg "abs" = none) (m2 : mg "int" = none) : Df P w K mg base "_law_common" Wcommon 1 :=
  T.df scCommon (fun _ _ ⟨_, _, h, _⟩ => by rw [h]; rfl) fun f cdv A outer s H E hr hnd ds Po' hw hl => by
  obtain ⟨a, b, rfl, hP⟩ := hw
  have hX : (cxOf CX0 P w K mg base ["_law_one", "_law_two"] "_law_common" (defScope sCommon) f cdv A outer s H E).nox.N = (["_law_one", "_law_two"] : List Str) := rfl
  have ab : ∀ x : Int, (if x < 0 then -x else x) = ((x.natAbs : Nat) : Int) := fun x => by split <;> omega
  show SX _ (_ :: _) [_, _] _
  wtm_at "st"
  refine s_par 0 1 hX hnd rfl (by with_reducible rfl) (by with_reducible rfl) (by decide) (by rfl) (by rfl) (by rfl) ?_
  repeat wtm_at "go"
  rw [ab a, ab b]
  refine s_while .never (fun m Γ => ∃ x y : Nat, Γ = [.is (.int (x : Int)), .is (.int (y : Int))] ∧ m = y ∧ Nat.gcd x y = Nat.gcd a.natAbs b.natAbs) b.natAbs ⟨a.natAbs, b.natAbs, rfl, rfl, rfl⟩ fun m Γ hΓ => ?_
  obtain ⟨x, y, rfl, rfl, hg⟩ := hΓ
  repeat wtm_at "go"
  refine if_ndec (fun hy => ?_) fun hy => ?_
  · have hy0 : (m : Int) ≠ 0 := hy
    show SX _ (_ :: _) [_, _] _
    wtm_at "st"
    refine s_par 0 1 (by assumption) hnd rfl (by with_reducible rfl) (by with_reducible rfl) (by decide) (by rfl) (by rfl) (by rfl) ?_
    repeat wtm_at "go"
    refine o_mod hy0 ?_
    have e : (x : Int).fmod (m : Int) = ((x % m : Nat) : Int) := by
      rw [Int.fmod_eq_emod_of_nonneg _ (by omega)]
      rfl
    refine ⟨x % m, Nat.mod_lt _ (by omega), m, x % m, ?_, rfl, ?_⟩
    · show [G.E.is (.int (m : Int)), G.E.is (.int ((x : Int).fmod (m : Int)))] = _
      rw [e]
    · rw [Nat.gcd_comm, ← Nat.gcd_rec, Nat.gcd_comm, hg]
  · have hy0 : (m : Int) = 0 := hy
    have e : m = 0 := by omega
    subst e
    repeat wtm_at "go"
    rw [Nat.gcd_zero_right] at hg
    show Po' (.int (x : Int))
    rw [hg]
    exact hP
theorem df_low (T : Top K mg "_law_low" sLow ["_law_high7", "_law_under"]) (d1 : Df P w K mg base "_law_common" Wcommon 1) : Df P w K mg base "_law_low" Wlow 2 :=
  T.df scLow (fun _ _ ⟨_, _, h, _⟩ => by rw [h]; rfl) fun f cdv A outer s H E hr hnd ds Po' hw hl => by
  obtain ⟨a, b, rfl, hb, ba, bb, hP⟩ := hw
  have hX : (cxOf CX0 P w K mg base ["_law_high7", "_law_under", "_law_common_here", "_law_sign"] "_law_low" (defScope sLow) f cdv A outer s H E).nox.N = (["_law_high7", "_law_under", "_law_common_here", "_law_sign"] : List Str) := rfl
  have c1 : CallOk (cxOf CX0 P w K mg base ["_law_high7", "_law_under", "_law_common_here", "_law_sign"] "_law_low" (defScope sLow) f cdv A outer s H E).nox "_law_common" Wcommon := d1.call hr
  have e1 : ∀ x, CDv x (gcdI a b) := fun x => gcd_dv hb bb
  have hP' : Po' (.tup [.int ((sgI b * a).fdiv (gcdI a b)), .int ((sgI b * b).fdiv (gcdI a b))]) := hP
  show SX _ (_ :: _) [_, _, _, _] _
  repeat wtm_at "go"
  refine ⟨a, b, rfl, ?_⟩
  repeat wtm_at "go"
  have step : ∀ sg : Int, sg = sgI b → SX (cxOf CX0 P w K mg base ["_law_high7", "_law_under", "_law_common_here", "_law_sign"] "_law_low" (defScope sLow) f cdv A outer s H E).nox [(defBody sLow).getD 2 (.Pass ⟨0, 0, 0, 0⟩)] [.is (.int a), .is (.int b), .is (.int (gcdI a b)), .is (.int sg)] { nx := fun _ => Po' .non, rt := Po' } := fun sg hsg => by
    subst hsg
    show SX _ [.Return (some _) _] [_, _, _, _] _
    repeat wtm_at "go"
    refine o_mul ((sg_bd b).big ba) ?_
    repeat wtm_at "go"
    refine o_fdiv (e1 _) ?_
    repeat wtm_at "go"
    refine o_mul ((sg_bd b).big bb) ?_
    repeat wtm_at "go"
    refine o_fdiv (e1 _) ?_
    repeat wtm_at "go"
    exact hP'
  refine if_dec (fun hc => ?_) fun hc => ?_
  · repeat wtm_at "ex"
    exact step 1 (by unfold sgI; rw [if_pos hc])
  · repeat (first | wtm_at "ex" | wtm_at "op")
    exact step (-1) (by unfold sgI; rw [if_neg hc])
theorem df_share (T : Top K mg "_law_share" sShare ["_law_src", "_law_most"]) (d1 : Df P w K mg base "_law_draw" Wdraw 1) (d2 : Df P w K mg base "_law_of" WofA 2) (d3 : Df P w K mg base "_law_low" Wlow 2) : Df P w K mg base "_law_share" Wshare 3 :=
  T.df (k := 2) scShare (fun _ _ ⟨_, h, _⟩ => by rw [h]; rfl) fun f cdv A outer s H E hr hnd ds Po' hw hl => by
  obtain ⟨m, rfl, hm1, hm2, hP⟩ := hw
  have hX : (cxOf CX0 P w K mg base ["_law_src", "_law_most", "_law_high7"] "_law_share" (defScope sShare) f cdv A outer s H E).nox.N = (["_law_src", "_law_most", "_law_high7"] : List Str) := rfl
  have c1 : CallOk (cxOf CX0 P w K mg base ["_law_src", "_law_most", "_law_high7"] "_law_share" (defScope sShare) f cdv A outer s H E).nox "_law_draw" Wdraw := d1.call hr
  have c2 : CallOk (cxOf CX0 P w K mg base ["_law_src", "_law_most", "_law_high7"] "_law_share" (defScope sShare) f cdv A outer s H E).nox "_law_of" WofA := d2.call hr
  have c3 : CallOk (cxOf CX0 P w K mg base ["_law_src", "_law_most", "_law_high7"] "_law_share" (defScope sShare) f cdv A outer s H E).nox "_law_low" Wlow := d3.call hr
  have big : ∀ z : Int, z.natAbs ≤ 1000001 → Bd 4000 z := fun z hz => Nat.lt_of_le_of_lt hz (Nat.lt_of_lt_of_le (show 1000001 < 2 ^ 20 by decide) (Nat.pow_le_pow_right (by decide) (by decide)))
  show SX _ (_ :: _) [_, _, _] _
  repeat wtm_at "go"
  refine ⟨_, rfl, by omega, Nat.lt_of_le_of_lt (show ((m : Int)).natAbs ≤ 1000000 by omega) (Nat.lt_of_lt_of_le (show 1000000 < 2 ^ 20 by decide) (Nat.pow_le_pow_right (by decide) (by decide))), fun k h1 h2 => ?_⟩
  repeat wtm_at "go"
  refine .inl ⟨_, rfl, by simp, by simp, fun d hd => ?_⟩
  obtain ⟨x, rfl, hx⟩ : ∃ x, d = .int x ∧ Bd 4000 x := by
    rcases List.mem_cons.mp hd with h | h
    · exact ⟨_, h, big _ (by omega)⟩
    · exact ⟨_, by simpa using h, big _ (by omega)⟩
  repeat wtm_at "go"
  refine ⟨4, rfl, by decide, Nat.lt_of_lt_of_le (show 4 < 2 ^ 20 by decide) (Nat.pow_le_pow_right (by decide) (by decide)), fun j j1 j2 => ?_⟩
  repeat wtm_at "go"
  exact ⟨x, 1 + j, rfl, by omega, hx, big _ (by omega), hP _ _⟩
end
/-! ### powers of numbers -/
def Wraised : WA := fun ds P => ∃ m k : Nat, ds = [.int (m : Int), .int (k : Int)] ∧ k ≤ 4 ∧ m < 2 ^ 7000 ∧ P (.int ((m ^ k : Nat) : Int))
theorem pow_big {m k : Nat} (h : m < 2 ^ 7000) (hk : k ≤ 4) : m ^ k < 2 ^ 100000 :=
  Nat.lt_of_le_of_lt (Nat.pow_le_pow_left (Nat.le_of_lt h) k) (by rw [← Nat.pow_mul]; exact Nat.pow_lt_pow_right (by decide) (by omega))
def whileOf : Stmt → List Stmt
  | .While _ b _ _ => b
  | _ => []
abbrev whileB : List Stmt := whileOf ((defBody sRaised).getD 1 (.Pass ⟨0, 0, 0, 0⟩))
def wOdd : W2 := fun a b P => ∃ n : Nat, a = .int (n : Int) ∧ b = .int 1 ∧ P (.int ((n % 2 : Nat) : Int))
theorem od_odd {X : Cx} : OpD X (binaryOp .BitAnd) wOdd := by
  intro S B O H0 H σ Γ P x y a b st r1 r2 ⟨n, ea, eb, h⟩
  subst ea eb
  cases r1
  cases r2
  exact ⟨_, L2.op_odd, fun Q k => ⟨n, rfl, rfl, k _ _ H .refl (.int _) h⟩⟩
def wHalf : W2 := fun a b P => ∃ n : Nat, a = .int (n : Int) ∧ b = .int 1 ∧ P (.int ((n / 2 : Nat) : Int))
theorem od_half {X : Cx} : OpD X (binaryOp .RShift) wHalf := by
  intro S B O H0 H σ Γ P x y a b st r1 r2 ⟨n, ea, eb, h⟩
  subst ea eb
  cases r1
  cases r2
  exact ⟨_, L2.op_halfN, fun Q k => ⟨n, rfl, rfl, k _ _ H .refl (.int _) h⟩⟩
section
local macro_rules | `(tactic| wtm_at "ex") => `(tactic| first
  | ((with_reducible show EX _ (PySem.Expr.BinOp _ PySem.Operator.BitAnd _ _) _ _); refine ex_bin od_odd ?_)
  | ((with_reducible show EX _ (PySem.Expr.BinOp _ PySem.Operator.RShift _ _) _ _); refine ex_bin od_half ?_))
variable {P : Program} {w : World} {K : PySem.W.Frag} {mg : Str → Option Value} {base : Heap}
theorem df_raised (T : Top K mg "raised" sRaised ["number", "count"]) (m1 : mg "range" = none) : Df P w K mg base "raised" Wraised 1 :=
  T.df (k := 0) scRaised (fun _ _ ⟨_, _, h, _⟩ => by rw [h]; rfl) fun f cdv A outer s H E hr hnd ds Po' hw hl => by
  obtain ⟨m, k, rfl, hk, hm, hP⟩ := hw
  have hX : (cxOf CX0 P w K mg base ["number", "count", "found"] "raised" (defScope sRaised) f cdv A outer s H E).nox.N = (["number", "count", "found"] : List Str) := rfl
  have bg : ∀ a, a ≤ 4 → ((m ^ a : Nat) : Int).natAbs < 2 ^ 100000 := fun a ha => by rw [Int.natAbs_natCast]; exact pow_big hm ha
  show SX _ (_ :: _) [_, _, _] _
  repeat wtm_at "go"
  refine s_while .never (fun c Γ => ∃ a b : Nat, a + b * c = k ∧ Γ = [.is (.int ((m ^ b : Nat) : Int)), .is (.int (c : Int)), .is (.int ((m ^ a : Nat) : Int))]) k ⟨0, 1, by omega, by simp⟩ ?_
  rintro c Γ ⟨a, b, hab, rfl⟩
  repeat wtm_at "go"
  by_cases hc : (0 : Int) < (c : Int)
  · rw [if_pos (decide_eq_true hc)]
    have c1 : 1 ≤ c := by omega
    have hb4 : b ≤ 4 := by
      have : b * 1 ≤ b * c := Nat.mul_le_mul_left b c1
      omega
    have ha4 : a ≤ 4 := by omega
    show SX _ (_ :: _) [_, _, _] _
    have tail : ∀ a' : Nat, a' + b * (2 * (c / 2)) = k → SX (cxOf CX0 P w K mg base ["number", "count", "found"] "raised" (defScope sRaised) f cdv A outer s H E).nox (whileB.drop 1) [.is (.int ((m ^ b : Nat) : Int)), .is (.int (c : Int)), .is (.int ((m ^ a' : Nat) : Int))]
        { nx := fun Γ' => ∃ m', m' < c ∧ ∃ a b : Nat, a + b * m' = k ∧ Γ' = [.is (.int ((m ^ b : Nat) : Int)), .is (.int (m' : Int)), .is (.int ((m ^ a : Nat) : Int))], rt := Po', ct := fun Γ' => ∃ m', m' < c ∧ ∃ a b : Nat, a + b * m' = k ∧ Γ' = [.is (.int ((m ^ b : Nat) : Int)), .is (.int (m' : Int)), .is (.int ((m ^ a : Nat) : Int))], bk := fun Γ' => SX (cxOf CX0 P w K mg base ["number", "count", "found"] "raised" (defScope sRaised) f cdv A outer s H E).nox ((defBody sRaised).drop 2) Γ' { nx := fun _ => Po' .non, rt := Po' } } := fun a' ha' => by
      show SX _ (_ :: _) [_, _, _] _
      repeat wtm_at "go"
      refine ⟨c, rfl, rfl, ?_⟩
      show SX _ (_ :: _) [_, _, _] _
      repeat wtm_at "go"
      by_cases h2 : (0 : Int) < ((c / 2 : Nat) : Int)
      · rw [if_pos (decide_eq_true h2)]
        show SX _ (_ :: _) [_, _, _] _
        repeat wtm_at "go"
        refine o_mul ⟨bg b hb4, bg b hb4⟩ ?_
        refine ⟨c / 2, by omega, a', 2 * b, ?_, ?_⟩
        · have : 2 * b * (c / 2) = b * (2 * (c / 2)) := by rw [Nat.mul_comm 2 b, Nat.mul_assoc]
          omega
        · rw [← Int.natCast_mul, ← Nat.pow_add, show b + b = 2 * b by omega]
      · rw [if_neg (by simpa using h2)]
        refine sx_nil ?_
        have h0 : c / 2 = 0 := by omega
        refine ⟨c / 2, by omega, a', b, ?_, rfl⟩
        rw [h0] at ha' ⊢
        simpa using ha'
    repeat wtm_at "go"
    refine ⟨c, rfl, rfl, ?_⟩
    repeat wtm_at "go"
    by_cases h1 : ((c % 2 : Nat) : Int) = 1
    · rw [if_pos (decide_eq_true h1)]
      show SX _ (_ :: _) [_, _, _] _
      repeat wtm_at "go"
      refine o_mul ⟨bg a ha4, bg b hb4⟩ ?_
      rw [← Int.natCast_mul, ← Nat.pow_add]
      refine tail (a + b) ?_
      have e : c = 2 * (c / 2) + 1 := by omega
      have : b * c = b * (2 * (c / 2)) + b := by
        conv => lhs; rw [e]
        rw [Nat.mul_add, Nat.mul_one]
      omega
    · rw [if_neg (by simpa using h1)]
      refine sx_nil ?_
      refine tail a ?_
      have e : c = 2 * (c / 2) := by omega
      rw [← e]
      exact hab
  · rw [if_neg (by simpa using hc)]
    show SX _ (_ :: _) [_, _, _] _
    repeat wtm_at "go"
    have c0 : c = 0 := by omega
    subst c0
    have : a = k := by simpa using hab
    subst this
    exact hP
end
/-! ### programs, by what they measure -/
structure Pt where
  d : D
  w : Nat
  g : Nat
  p : Nat
def maxN : List Nat → Nat
  | [] => 0
  | x :: r => max x (maxN r)
def prodN : List Nat → Nat
  | [] => 1
  | x :: r => x * prodN r
def inK (k : Str) : Prop := k ≠ "sum" ∧ k ≠ "power" ∧ k ≠ "plus" ∧ k ≠ "times"
def Leaf (d : D) (w g p : Nat) : Prop := ∃ k r, d = .tup (.str k :: r) ∧ inK k ∧ w = 0 ∧ p = 1 ∧ ((k = "trait" ∧ g = 1) ∨ (k ≠ "trait" ∧ g = 0))
def Msr : Nat → D → Nat → Nat → Nat → Prop
  | 0, d, w, g, p => Leaf d w g p
  | n + 1, d, w, g, p => Leaf d w g p ∨
    (∃ v q w', d = .tup [.str "sum", v, q] ∧ Msr n q w' g p ∧ w = w' + 1) ∨
    (∃ (q : D) (k w' g' p' : Nat), d = .tup [.str "power", q, .int (k : Int)] ∧ k ≤ 4 ∧ Msr n q w' g' p' ∧ w = k * w' ∧ g = k * g' ∧ p = p' ^ k) ∨
    (∃ ms : List Pt, 2 ≤ ms.length ∧ ms.length ≤ 4 ∧ (∀ m ∈ ms, Msr n m.d m.w m.g m.p) ∧
      ((d = .tup (.str "plus" :: ms.map (·.d)) ∧ w = maxN (ms.map (·.w)) ∧ g = maxN (ms.map (·.g)) ∧ p = (ms.map (·.p)).sum) ∨
       (d = .tup (.str "times" :: ms.map (·.d)) ∧ w = (ms.map (·.w)).sum ∧ g = (ms.map (·.g)).sum ∧ p = prodN (ms.map (·.p)))))
theorem Msr.leaf {n d w g p} (h : Leaf d w g p) : Msr n d w g p := by
  cases n with
  | zero => exact h
  | succ n => exact .inl h
theorem Msr.up : ∀ {n d w g p}, Msr n d w g p → Msr (n + 1) d w g p
  | 0, _, _, _, _, h => .inl h
  | n + 1, _, _, _, _, h => by
    rcases h with h | ⟨v, q, w', e, h, hw⟩ | ⟨q, k, w', g', p', e, hk, h, hr⟩ | ⟨ms, h1, h2, h3, h4⟩
    · exact .inl h
    · exact .inr (.inl ⟨v, q, w', e, h.up, hw⟩)
    · exact .inr (.inr (.inl ⟨q, k, w', g', p', e, hk, h.up, hr⟩))
    · exact .inr (.inr (.inr ⟨ms, h1, h2, fun m hm => (h3 m hm).up, h4⟩))
theorem Msr.add {n d w g p} (h : Msr n d w g p) : ∀ k, Msr (n + k) d w g p
  | 0 => h
  | k + 1 => (h.add k).up
def BB : Nat → Nat
  | 0 => 4
  | n + 1 => BB n ^ 5
theorem BB_ge : ∀ n, 4 ≤ BB n
  | 0 => Nat.le_refl _
  | n + 1 => Nat.le_trans (BB_ge n) (by
    show BB n ≤ BB n ^ 5
    exact Nat.le_self_pow (by decide) _)
theorem BB5 : BB 5 < 2 ^ 7000 := by decide +kernel
theorem BB_mono {n : Nat} : ∀ k, BB n ≤ BB (n + k)
  | 0 => Nat.le_refl _
  | k + 1 => Nat.le_trans (BB_mono k) (Nat.le_self_pow (by decide) _)
theorem sum_le {B : Nat} : ∀ {l : List Nat}, (∀ x ∈ l, x ≤ B) → l.sum ≤ l.length * B
  | [], _ => Nat.zero_le _
  | x :: r, h => by
    rw [List.sum_cons, List.length_cons, Nat.succ_mul]
    have h1 := sum_le (l := r) fun y hy => h y (List.mem_cons_of_mem _ hy)
    have h2 := h x (List.mem_cons_self ..)
    omega
theorem max_le' {B : Nat} : ∀ {l : List Nat}, (∀ x ∈ l, x ≤ B) → maxN l ≤ B
  | [], _ => Nat.zero_le _
  | x :: r, h => Nat.max_le.mpr ⟨h x (List.mem_cons_self ..), max_le' fun y hy => h y (List.mem_cons_of_mem _ hy)⟩
theorem prod_le {B : Nat} : ∀ {l : List Nat}, (∀ x ∈ l, x ≤ B) → prodN l ≤ B ^ l.length
  | [], _ => Nat.le_refl _
  | x :: r, h => by
    show x * prodN r ≤ B ^ (r.length + 1)
    rw [Nat.pow_succ, Nat.mul_comm]
    exact Nat.mul_le_mul (prod_le fun y hy => h y (List.mem_cons_of_mem _ hy)) (h x (List.mem_cons_self ..))
theorem Msr.bd : ∀ {n d w g p}, Msr n d w g p → w ≤ BB n ∧ g ≤ BB n ∧ p ≤ BB n
  | n, d, w, g, p, h => by
    have leaf : ∀ {n d w g p}, Leaf d w g p → w ≤ BB n ∧ g ≤ BB n ∧ p ≤ BB n := fun {n d w g p} ⟨k, r, e, hk, h1, h2, h3⟩ => by
      have := BB_ge n
      rcases h3 with h3 | h3 <;> omega
    match n, h with
    | 0, h => exact leaf h
    | n + 1, h =>
      have b4 := BB_ge n
      have e5 : BB (n + 1) = BB n ^ 4 * BB n := by show BB n ^ (4 + 1) = _; exact Nat.pow_succ _ _
      have e4 : BB n ≤ BB n ^ 4 := Nat.le_self_pow (by decide) _
      have h4 : 4 * BB n ≤ BB (n + 1) := by rw [e5]; exact Nat.mul_le_mul_right _ (Nat.le_trans b4 e4)
      have hp4 : BB n ^ 4 ≤ BB (n + 1) := Nat.pow_le_pow_right (by omega) (by decide)
      rcases h with h | ⟨v, q, w', e, h, hw⟩ | ⟨q, k, w', g', p', e, hk, h, hw, hg, hp⟩ | ⟨ms, l1, l2, h3, h5⟩
      · exact leaf h
      · have := h.bd; omega
      · obtain ⟨a, b, c⟩ := h.bd
        subst hw hg hp
        have m1 : k * w' ≤ 4 * BB n := Nat.mul_le_mul hk a
        have m2 : k * g' ≤ 4 * BB n := Nat.mul_le_mul hk b
        have m3 : p' ^ k ≤ BB n ^ 4 := Nat.le_trans (Nat.pow_le_pow_left c k) (Nat.pow_le_pow_right (by omega) hk)
        omega
      · have q1 : ∀ x ∈ ms.map (·.w), x ≤ BB n := fun x hx => by
          obtain ⟨m, hm, rfl⟩ := List.mem_map.mp hx
          exact (h3 m hm).bd.1
        have q2 : ∀ x ∈ ms.map (·.g), x ≤ BB n := fun x hx => by
          obtain ⟨m, hm, rfl⟩ := List.mem_map.mp hx
          exact (h3 m hm).bd.2.1
        have q3 : ∀ x ∈ ms.map (·.p), x ≤ BB n := fun x hx => by
          obtain ⟨m, hm, rfl⟩ := List.mem_map.mp hx
          exact (h3 m hm).bd.2.2
        have s : ∀ l : List Nat, l.length = ms.length → l.length * BB n ≤ 4 * BB n := fun l hl => Nat.mul_le_mul_right _ (by omega)
        rcases h5 with ⟨e, hw, hg, hp⟩ | ⟨e, hw, hg, hp⟩ <;> subst hw hg hp
        · have a1 := max_le' q1
          have a2 := max_le' q2
          have a3 := sum_le q3
          have a4 := s (ms.map (·.p)) (by simp)
          omega
        · have a1 := sum_le q1
          have a2 := sum_le q2
          have a3 := prod_le q3
          have a4 := s (ms.map (·.w)) (by simp)
          have a5 := s (ms.map (·.g)) (by simp)
          have a6 : BB n ^ (ms.map (·.p)).length ≤ BB n ^ 4 := Nat.pow_le_pow_right (by omega) (by simpa using l2)
          omega
theorem Msr.small {n d w g p} (h : Msr n d w g p) (hn : n ≤ 5) : w < 2 ^ 7000 ∧ g < 2 ^ 7000 ∧ p < 2 ^ 7000 := by
  obtain ⟨a, b, c⟩ := h.bd
  have : BB n ≤ BB 5 := by
    have e : n + (5 - n) = 5 := by omega
    have := BB_mono (n := n) (5 - n)
    rwa [e] at this
  have := BB5
  omega
/-! ### the parts -/
inductive Pr : D → List D → Prop
  | leaf {k : Str} {r : List D} (h : inK k) : Pr (.tup (.str k :: r)) []
  | sum (v q : D) : Pr (.tup [.str "sum", v, q]) [q]
  | pow (q c : D) : Pr (.tup [.str "power", q, c]) [q]
  | plus (ms : List D) (h : ms.length ≤ 4) : Pr (.tup (.str "plus" :: ms)) ms
  | times (ms : List D) (h : ms.length ≤ 4) : Pr (.tup (.str "times" :: ms)) ms
theorem cut1 (x : D) (l : List D) : cutD (x :: l) (some 1) none = l := by
  unfold cutD
  rw [HT.sIx_none, show (some (1 : Int)) = some (((1 : Nat) : Int)) from rfl, HT.sIx_nat]
  have : min 1 (x :: l).length = 1 := by rw [List.length_cons]; omega
  rw [this, List.drop_one, List.tail_cons, List.length_cons]
  exact List.take_of_length_le (by omega)
def Wparts : WA := fun ds P => ∃ d ps, ds = [d] ∧ Pr d ps ∧ P (.tup ps)
def Winner : WA := fun ds P => ∃ d ps, ds = [d] ∧ Pr d ps ∧ P (.lst ps)
theorem not2 {k : Str} (h : inK k) : ¬ k ∈ (["plus", "times"] : List Str) := by
  simp [h.2.2.1, h.2.2.2]
section
variable {P : Program} {w : World} {K : PySem.W.Frag} {mg : Str → Option Value} {base : Heap}
theorem df_parts (T : Top K mg "parts_of" sParts ["program"]) : Df P w K mg base "parts_of" Wparts 1 :=
  T.df (k := 0) scParts (fun _ _ ⟨_, _, h, _⟩ => by rw [h]; rfl) fun f cdv A outer s H E hr hnd ds Po' hw hl => by
  obtain ⟨d, ps, rfl, hd, hP⟩ := hw
  have hX : (cxOf CX0 P w K mg base ["program"] "parts_of" (defScope sParts) f cdv A outer s H E).nox.N = (["program"] : List Str) := rfl
  show SX _ (_ :: _) [_] _
  cases hd with
  | @leaf k r h =>
    repeat wtm_at "go"
    refine if_dec (fun e => absurd e h.1) fun _ => ?_
    repeat wtm_at "go"
    refine if_dec (fun e => absurd e h.2.1) fun _ => ?_
    repeat wtm_at "go"
    refine if_dec (fun e => absurd e (not2 h)) fun _ => ?_
    repeat wtm_at "go"
    exact hP
  | sum v q =>
    repeat wtm_at "go"
    exact hP
  | pow q c =>
    repeat wtm_at "go"
    exact hP
  | plus ms h =>
    repeat wtm_at "go"
    rw [cut1]
    exact hP
  | times ms h =>
    repeat wtm_at "go"
    rw [cut1]
    exact hP
theorem df_inner (T : Top K mg "_law_inner" sInner ["_law_program"]) (m1 : mg "list" = none) : Df P w K mg base "_law_inner" Winner 1 :=
  T.df (k := 0) scInner (fun _ _ ⟨_, _, h, _⟩ => by rw [h]; rfl) fun f cdv A outer s H E hr hnd ds Po' hw hl => by
  obtain ⟨d, ps, rfl, hd, hP⟩ := hw
  have hX : (cxOf CX0 P w K mg base ["_law_program", "_law_word_here"] "_law_inner" (defScope sInner) f cdv A outer s H E).nox.N = (["_law_program", "_law_word_here"] : List Str) := rfl
  show SX _ (_ :: _) [_, _] _
  cases hd with
  | @leaf k r h =>
    repeat wtm_at "go"
    refine if_dec (fun e => absurd e h.1) fun _ => ?_
    repeat wtm_at "go"
    refine if_dec (fun e => absurd e h.2.1) fun _ => ?_
    repeat wtm_at "go"
    refine if_dec (fun e => absurd e (not2 h)) fun _ => ?_
    repeat wtm_at "go"
    exact hP
  | sum v q =>
    repeat wtm_at "go"
    exact hP
  | pow q c =>
    repeat wtm_at "go"
    exact hP
  | plus ms h =>
    repeat wtm_at "go"
    rw [cut1]
    exact hP
  | times ms h =>
    repeat wtm_at "go"
    rw [cut1]
    exact hP
end
theorem all_n {Q : Nat → Prop} (h : ∀ n, (∀ m, n = m + 1 → Q m) → Q n) : ∀ n, Q n
  | 0 => h 0 fun _ e => by cases e
  | n + 1 => h (n + 1) fun m e => by
    have e' : n = m := by omega
    rw [← e']
    exact all_n h n
inductive Nd (ms : List Pt) : D → Nat → Nat → Nat → Prop
  | sum (v : D) (x : Pt) (e : ms = [x]) : Nd ms (.tup [.str "sum", v, x.d]) (x.w + 1) x.g x.p
  | pow (x : Pt) (k : Nat) (e : ms = [x]) (hk : k ≤ 4) : Nd ms (.tup [.str "power", x.d, .int (k : Int)]) (k * x.w) (k * x.g) (x.p ^ k)
  | plus (h2 : 2 ≤ ms.length) (h4 : ms.length ≤ 4) : Nd ms (.tup (.str "plus" :: ms.map (·.d))) (maxN (ms.map (·.w))) (maxN (ms.map (·.g))) (ms.map (·.p)).sum
  | times (h2 : 2 ≤ ms.length) (h4 : ms.length ≤ 4) : Nd ms (.tup (.str "times" :: ms.map (·.d))) (ms.map (·.w)).sum (ms.map (·.g)).sum (prodN (ms.map (·.p)))
theorem Nd.len {ms d w g p} (h : Nd ms d w g p) : 1 ≤ ms.length ∧ ms.length ≤ 4 := by
  cases h with
  | sum v x e => subst e; exact ⟨Nat.le_refl 1, (by omega : 1 ≤ 4)⟩
  | pow x k e hk => subst e; exact ⟨Nat.le_refl 1, (by omega : 1 ≤ 4)⟩
  | plus h2 h4 => exact ⟨by omega, h4⟩
  | times h2 h4 => exact ⟨by omega, h4⟩
theorem Nd.pr {ms d w g p} (h : Nd ms d w g p) : Pr d (ms.map (·.d)) := by
  cases h with
  | sum v x e => subst e; exact .sum v x.d
  | pow x k e hk => subst e; exact .pow x.d _
  | plus h2 h4 => exact .plus _ (by rw [List.length_map]; exact h4)
  | times h2 h4 => exact .times _ (by rw [List.length_map]; exact h4)
theorem Msr.view {n d w g p} (h : Msr n d w g p) : Leaf d w g p ∨ ∃ m ms, n = m + 1 ∧ (∀ x ∈ ms, Msr m x.d x.w x.g x.p) ∧ Nd ms d w g p := by
  cases n with
  | zero => exact .inl h
  | succ n =>
    rcases h with h | ⟨v, q, w', e, h, hw⟩ | ⟨q, k, w', g', p', e, hk, h, hw, hg, hp⟩ | ⟨ms, l1, l2, h3, ⟨e, hw, hg, hp⟩ | ⟨e, hw, hg, hp⟩⟩
    · exact .inl h
    · subst e hw
      exact .inr ⟨n, [⟨q, w', g, p⟩], rfl, fun x hx => by rw [List.mem_singleton.mp hx]; exact h, .sum v ⟨q, w', g, p⟩ rfl⟩
    · subst e hw hg hp
      exact .inr ⟨n, [⟨q, w', g', p'⟩], rfl, fun x hx => by rw [List.mem_singleton.mp hx]; exact h, .pow ⟨q, w', g', p'⟩ k rfl hk⟩
    · subst e hw hg hp
      exact .inr ⟨n, ms, rfl, h3, .plus l1 l2⟩
    · subst e hw hg hp
      exact .inr ⟨n, ms, rfl, h3, .times l1 l2⟩
theorem max_mem : ∀ {l : List Nat}, 0 < l.length → maxN l ∈ l
  | [], h => absurd h (by decide)
  | [x], _ => by show max x 0 ∈ _; rw [Nat.max_zero]; exact List.mem_singleton.mpr rfl
  | x :: y :: r, _ => by
    have ih := max_mem (l := y :: r) (by simp)
    show max x (maxN (y :: r)) ∈ _
    by_cases h : maxN (y :: r) ≤ x
    · rw [Nat.max_eq_left h]; exact List.mem_cons_self ..
    · rw [Nat.max_eq_right (by omega)]; exact List.mem_cons_of_mem _ ih
theorem max_ge : ∀ {l : List Nat} {x : Nat}, x ∈ l → x ≤ maxN l
  | y :: r, x, h => by
    show x ≤ max y (maxN r)
    rcases List.mem_cons.mp h with rfl | h
    · exact Nat.le_max_left ..
    · exact Nat.le_trans (max_ge h) (Nat.le_max_right ..)
theorem max_is {l : List Nat} {m : Int} (hl : 0 < l.length) (h1 : m ∈ l.map fun n : Nat => (n : Int)) (h2 : ∀ y, y ∈ (l.map fun n : Nat => (n : Int)) → y ≤ m) : m = (maxN l : Int) := by
  obtain ⟨x, hx, rfl⟩ := List.mem_map.mp h1
  have a := max_ge hx
  have b := h2 _ (List.mem_map.mpr ⟨_, max_mem hl, rfl⟩)
  omega
theorem sum_is : ∀ l : List Nat, (l.map fun n : Nat => (n : Int)).sum = ((l.sum : Nat) : Int)
  | [] => rfl
  | x :: r => by rw [List.map_cons, List.sum_cons, List.sum_cons, sum_is r, Int.natCast_add]
theorem dints (l : List Nat) : (l.map fun n : Nat => D.int (n : Int)) = (l.map fun n : Nat => (n : Int)).map D.int := by rw [List.map_map]; rfl
theorem w_max {l : List Nat} {P : D → Prop} (hl : 0 < l.length) (h : P (.int (maxN l : Nat))) : wMax [.lst (l.map fun n : Nat => D.int (n : Int))] P :=
  ⟨l.map fun n : Nat => (n : Int), by rw [dints], by rw [List.length_map]; exact hl, fun m h1 h2 => by rw [max_is hl h1 h2]; exact h⟩
theorem w_sum {l : List Nat} {P : D → Prop} (h : P (.int (l.sum : Nat))) : wSum [.lst (l.map fun n : Nat => D.int (n : Int))] P :=
  ⟨l.map fun n : Nat => (n : Int), by rw [dints], by rw [sum_is]; exact h⟩
theorem bigN {a b : Nat} (ha : a < 2 ^ 28001) (hb : b < 2 ^ 28001) : CBig (a : Int) (b : Int) :=
  ⟨Nat.lt_of_lt_of_le ha (Nat.pow_le_pow_right (by decide) (by decide)), Nat.lt_of_lt_of_le hb (Nat.pow_le_pow_right (by decide) (by decide))⟩
theorem big1 {a : Nat} (h : a < 2 ^ 7000) : a < 2 ^ 28001 := Nat.lt_of_lt_of_le h (Nat.pow_le_pow_right (by decide) (by decide))
theorem big4 {k : Nat} (h : k ≤ 4) : k < 2 ^ 28001 := Nat.lt_of_le_of_lt h (Nat.lt_of_lt_of_le (show 4 < 2 ^ 3 by decide) (Nat.pow_le_pow_right (by decide) (by decide)))
def ot (b : Bool) : Int := cond b 0 1
def os (b : Bool) : Int := cond b 1 0
def me (b : Bool) (w g : Nat) : Nat := cond b w g

abbrev sAdded : Stmt := topS 4
abbrev sWidth : Stmt := topS 5
abbrev sDegree : Stmt := topS 6
abbrev sProducts : Stmt := topS 7
abbrev nAdded : List Str := ["program", "of_trait", "of_sum", "kind", "measures", "part"]
abbrev oAdded : List (Str × Nat) := [("part", 5)]
theorem scAdded : FnScope nAdded ["program", "of_trait", "of_sum"] (defScope sAdded) := ⟨rfl, rfl, rfl, by decide +kernel, rfl, by decide +kernel, by decide +kernel⟩
theorem scWidth : FnScope ["program"] ["program"] (defScope sWidth) := ⟨rfl, rfl, rfl, by decide +kernel, rfl, by decide +kernel, by decide +kernel⟩
theorem scDegree : FnScope ["program"] ["program"] (defScope sDegree) := ⟨rfl, rfl, rfl, by decide +kernel, rfl, by decide +kernel, by decide +kernel⟩
abbrev nProducts : List Str := ["program", "kind", "measures", "found", "measure", "part"]
abbrev oProducts : List (Str × Nat) := [("part", 5)]
theorem scProducts : FnScope nProducts ["program"] (defScope sProducts) := ⟨rfl, rfl, rfl, by decide +kernel, rfl, by decide +kernel, by decide +kernel⟩
def Wam (n : Nat) : WA := fun ds P => ∃ b d w g p, ds = [d, .int (ot b), .int (os b)] ∧ Msr n d w g p ∧ P (.int (me b w g : Nat))
def Ww (n : Nat) : WA := fun ds P => ∃ d w g p, ds = [d] ∧ Msr n d w g p ∧ P (.int (w : Nat))
def Wg (n : Nat) : WA := fun ds P => ∃ d w g p, ds = [d] ∧ Msr n d w g p ∧ P (.int (g : Nat))
def Wp (n : Nat) : WA := fun ds P => ∃ d w g p, ds = [d] ∧ Msr n d w g p ∧ P (.int (p : Nat))
section
variable {P : Program} {w : World} {K : PySem.W.Frag} {mg : Str → Option Value} {base : Heap}
set_option maxHeartbeats 16000000 in
theorem df_added (T : Top K mg "added_measure" sAdded ["program", "of_trait", "of_sum"]) (m1 : mg "max" = none) (m2 : mg "sum" = none) (d1 : Df P w K mg base "parts_of" Wparts 1) : ∀ n, n ≤ 6 → Df P w K mg base "added_measure" (Wam n) (n + 2) := by
  refine all_n fun n ih hn => ?_
  refine T.df (k := n + 1) scAdded (fun _ _ ⟨_, _, _, _, _, h, _⟩ => by rw [h]; rfl) fun f cdv A outer s H E hr hnd ds Po' hw hl => ?_
  obtain ⟨b, d, w1, g1, p1, rfl, hm, hP⟩ := hw
  have hX : (cxOf CX0 P w K mg base nAdded "added_measure" (defScope sAdded) f cdv A outer s H E).nox.N = nAdded := rfl
  have c1 : CallOk (cxOf CX0 P w K mg base nAdded "added_measure" (defScope sAdded) f cdv A outer s H E).nox "parts_of" Wparts := d1.call hr (by omega)
  show SX _ (_ :: _) [_, _, _, _, _, _] _
  rcases hm.view with ⟨k, r, rfl, hk, rfl, rfl, hg⟩ | ⟨m, ms, rfl, hms, hN⟩
  · have hpr : Pr (.tup (.str k :: r)) (([] : List Pt).map (·.d)) := .leaf hk
    obtain ⟨ms, hms⟩ : ∃ ms : List Pt, ms = [] := ⟨_, rfl⟩
    rw [← hms] at hpr
    have hl4 : ms.length ≤ 4 := by rw [hms]; decide
    repeat wtm_at "go"
    refine if_dec (fun e => ?_) fun e => ?_
    · repeat wtm_at "go"
      rcases hg with ⟨_, rfl⟩ | ⟨h, _⟩
      · cases b <;> exact hP
      · exact absurd e h
    · repeat wtm_at "go"
      refine s_setLc 4 (own := oAdded) (js := [5]) hX rfl hnd (blkOk_by (N := nAdded) (sc := defScope sAdded) (by decide +kernel)) (fun _ _ _ _ _ => pg_name (i := 5) hnd rfl (Or.inl rfl)) (tg_name 5) (by decide) (by decide) [.is _, .is _, .is _, .is _, .no, .no] rfl ?_ (by with_reducible rfl) rfl (sw_true rfl rfl rfl (by decide +kernel))
      refine wx_tup ?_
      repeat wtm_at "go"
      refine ⟨_, _, rfl, hpr, ?_⟩
      repeat wtm_at "go"
      refine ⟨by rw [List.length_map]; omega, fun i es => es = ((ms.take i).map fun x => me b x.w x.g).map fun n : Nat => D.int (n : Int), by simp, fun i y es hd ha => ?_, fun es ha => ?_⟩
      · obtain ⟨x, hx, rfl⟩ : ∃ x, ms[i]? = some x ∧ x.d = y := by rw [List.getElem?_map] at hd; exact Option.map_eq_some_iff.mp hd
        subst ha
        show EB _ _ _ _ _
        intro s0 H0 C cl fp
        repeat wtm_at "go"
        exact absurd (List.mem_of_getElem? hx) (by rw [hms]; simp)
      rw [List.length_map, List.take_length] at ha
      subst ha
      subst hms
      repeat wtm_at "go"
      refine if_dec (fun e => absurd e hk.1) fun _ => ?_
      repeat wtm_at "go"
      refine if_dec (fun e => absurd e hk.2.2.1) fun _ => ?_
      repeat wtm_at "go"
      refine if_dec (fun e => absurd e hk.2.1) fun _ => ?_
      repeat wtm_at "go"
      refine w_sum (l := []) ?_
      rcases hg with ⟨h, _⟩ | ⟨_, rfl⟩
      · exact absurd h e
      · cases b <;> exact hP
  · have c2 : CallOk (cxOf CX0 P w K mg base nAdded "added_measure" (defScope sAdded) f cdv A outer s H E).nox "added_measure" (Wam m) := (ih m rfl (by omega)).call hr (Nat.le_refl _)
    have hpr := hN.pr
    have hl4 := hN.len
    have sm : ∀ x ∈ ms, me b x.w x.g < 2 ^ 7000 := fun x hx => by
      have := (hms x hx).small (by omega)
      cases b
      · exact this.2.1
      · exact this.1
    have wit : ∀ (x : Pt) (P : D → Prop), x ∈ ms → P (.int (me b x.w x.g : Nat)) → Wam m [x.d, .int (ot b), .int (os b)] P := fun x P hx h => ⟨b, x.d, x.w, x.g, x.p, rfl, hms x hx, h⟩
    cases hN with
    | sum v x0 e =>
      repeat wtm_at "go"
      refine s_setLc 4 (own := oAdded) (js := [5]) hX rfl hnd (blkOk_by (N := nAdded) (sc := defScope sAdded) (by decide +kernel)) (fun _ _ _ _ _ => pg_name (i := 5) hnd rfl (Or.inl rfl)) (tg_name 5) (by decide) (by decide) [.is _, .is _, .is _, .is _, .no, .no] rfl ?_ (by with_reducible rfl) rfl (sw_true rfl rfl rfl (by decide +kernel))
      refine wx_tup ?_
      repeat wtm_at "go"
      refine ⟨_, _, rfl, hpr, ?_⟩
      repeat wtm_at "go"
      refine ⟨by rw [List.length_map]; omega, fun i es => es = ((ms.take i).map fun x => me b x.w x.g).map fun n : Nat => D.int (n : Int), by simp, fun i y es hd ha => ?_, fun es ha => ?_⟩
      · obtain ⟨x, hx, rfl⟩ : ∃ x, ms[i]? = some x ∧ x.d = y := by rw [List.getElem?_map] at hd; exact Option.map_eq_some_iff.mp hd
        subst ha
        show EB _ _ _ _ _
        intro s0 H0 C cl fp
        repeat wtm_at "go"
        refine wit x _ (List.mem_of_getElem? hx) ?_
        show List.map _ (List.map _ (ms.take i)) ++ [_] = _
        rw [List.take_add_one, hx, List.map_append, List.map_append]; rfl
      rw [List.length_map, List.take_length] at ha
      subst ha
      subst e
      repeat wtm_at "go"
      have e2 : os b + ((me b x0.w x0.g : Nat) : Int) = ((me b (x0.w + 1) x0.g : Nat) : Int) := by
        cases b
        · exact Int.zero_add _
        · show (1 : Int) + (x0.w : Int) = ((x0.w + 1 : Nat) : Int)
          omega
      rw [e2]
      exact hP
    | pow x0 k e hk =>
      repeat wtm_at "go"
      refine s_setLc 4 (own := oAdded) (js := [5]) hX rfl hnd (blkOk_by (N := nAdded) (sc := defScope sAdded) (by decide +kernel)) (fun _ _ _ _ _ => pg_name (i := 5) hnd rfl (Or.inl rfl)) (tg_name 5) (by decide) (by decide) [.is _, .is _, .is _, .is _, .no, .no] rfl ?_ (by with_reducible rfl) rfl (sw_true rfl rfl rfl (by decide +kernel))
      refine wx_tup ?_
      repeat wtm_at "go"
      refine ⟨_, _, rfl, hpr, ?_⟩
      repeat wtm_at "go"
      refine ⟨by rw [List.length_map]; omega, fun i es => es = ((ms.take i).map fun x => me b x.w x.g).map fun n : Nat => D.int (n : Int), by simp, fun i y es hd ha => ?_, fun es ha => ?_⟩
      · obtain ⟨x, hx, rfl⟩ : ∃ x, ms[i]? = some x ∧ x.d = y := by rw [List.getElem?_map] at hd; exact Option.map_eq_some_iff.mp hd
        subst ha
        show EB _ _ _ _ _
        intro s0 H0 C cl fp
        repeat wtm_at "go"
        refine wit x _ (List.mem_of_getElem? hx) ?_
        show List.map _ (List.map _ (ms.take i)) ++ [_] = _
        rw [List.take_add_one, hx, List.map_append, List.map_append]; rfl
      rw [List.length_map, List.take_length] at ha
      subst ha
      subst e
      repeat wtm_at "go"
      refine o_mul (bigN (big4 hk) (big1 (sm x0 (by simp)))) ?_
      have e2 : (k : Int) * ((me b x0.w x0.g : Nat) : Int) = ((me b (k * x0.w) (k * x0.g) : Nat) : Int) := by cases b <;> exact (Int.natCast_mul _ _).symm
      rw [e2]
      exact hP
    | plus h2 h4 =>
      repeat wtm_at "go"
      refine s_setLc 4 (own := oAdded) (js := [5]) hX rfl hnd (blkOk_by (N := nAdded) (sc := defScope sAdded) (by decide +kernel)) (fun _ _ _ _ _ => pg_name (i := 5) hnd rfl (Or.inl rfl)) (tg_name 5) (by decide) (by decide) [.is _, .is _, .is _, .is _, .no, .no] rfl ?_ (by with_reducible rfl) rfl (sw_true rfl rfl rfl (by decide +kernel))
      refine wx_tup ?_
      repeat wtm_at "go"
      refine ⟨_, _, rfl, hpr, ?_⟩
      repeat wtm_at "go"
      refine ⟨by rw [List.length_map]; omega, fun i es => es = ((ms.take i).map fun x => me b x.w x.g).map fun n : Nat => D.int (n : Int), by simp, fun i y es hd ha => ?_, fun es ha => ?_⟩
      · obtain ⟨x, hx, rfl⟩ : ∃ x, ms[i]? = some x ∧ x.d = y := by rw [List.getElem?_map] at hd; exact Option.map_eq_some_iff.mp hd
        subst ha
        show EB _ _ _ _ _
        intro s0 H0 C cl fp
        repeat wtm_at "go"
        refine wit x _ (List.mem_of_getElem? hx) ?_
        show List.map _ (List.map _ (ms.take i)) ++ [_] = _
        rw [List.take_add_one, hx, List.map_append, List.map_append]; rfl
      rw [List.length_map, List.take_length] at ha
      subst ha
      repeat wtm_at "go"
      refine w_max (by rw [List.length_map]; omega) ?_
      cases b <;> exact hP
    | times h2 h4 =>
      repeat wtm_at "go"
      refine s_setLc 4 (own := oAdded) (js := [5]) hX rfl hnd (blkOk_by (N := nAdded) (sc := defScope sAdded) (by decide +kernel)) (fun _ _ _ _ _ => pg_name (i := 5) hnd rfl (Or.inl rfl)) (tg_name 5) (by decide) (by decide) [.is _, .is _, .is _, .is _, .no, .no] rfl ?_ (by with_reducible rfl) rfl (sw_true rfl rfl rfl (by decide +kernel))
      refine wx_tup ?_
      repeat wtm_at "go"
      refine ⟨_, _, rfl, hpr, ?_⟩
      repeat wtm_at "go"
      refine ⟨by rw [List.length_map]; omega, fun i es => es = ((ms.take i).map fun x => me b x.w x.g).map fun n : Nat => D.int (n : Int), by simp, fun i y es hd ha => ?_, fun es ha => ?_⟩
      · obtain ⟨x, hx, rfl⟩ : ∃ x, ms[i]? = some x ∧ x.d = y := by rw [List.getElem?_map] at hd; exact Option.map_eq_some_iff.mp hd
        subst ha
        show EB _ _ _ _ _
        intro s0 H0 C cl fp
        repeat wtm_at "go"
        refine wit x _ (List.mem_of_getElem? hx) ?_
        show List.map _ (List.map _ (ms.take i)) ++ [_] = _
        rw [List.take_add_one, hx, List.map_append, List.map_append]; rfl
      rw [List.length_map, List.take_length] at ha
      subst ha
      repeat wtm_at "go"
      refine w_sum ?_
      cases b <;> exact hP
theorem df_width (T : Top K mg "width_of" sWidth ["program"]) {n : Nat} (d1 : Df P w K mg base "added_measure" (Wam n) 8) : Df P w K mg base "width_of" (Ww n) 9 :=
  T.df (k := 8) scWidth (fun _ _ ⟨_, _, _, _, h, _⟩ => by rw [h]; rfl) fun f cdv A outer s H E hr hnd ds Po' hw hl => by
  obtain ⟨d, w1, g1, p1, rfl, hm, hP⟩ := hw
  have hX : (cxOf CX0 P w K mg base ["program"] "width_of" (defScope sWidth) f cdv A outer s H E).nox.N = (["program"] : List Str) := rfl
  have c1 : CallOk (cxOf CX0 P w K mg base ["program"] "width_of" (defScope sWidth) f cdv A outer s H E).nox "added_measure" (Wam n) := d1.call hr
  show SX _ (_ :: _) [_] _
  repeat wtm_at "go"
  exact ⟨true, d, w1, g1, p1, rfl, hm, hP⟩
theorem df_degree (T : Top K mg "degree_of" sDegree ["program"]) {n : Nat} (d1 : Df P w K mg base "added_measure" (Wam n) 8) : Df P w K mg base "degree_of" (Wg n) 9 :=
  T.df (k := 8) scDegree (fun _ _ ⟨_, _, _, _, h, _⟩ => by rw [h]; rfl) fun f cdv A outer s H E hr hnd ds Po' hw hl => by
  obtain ⟨d, w1, g1, p1, rfl, hm, hP⟩ := hw
  have hX : (cxOf CX0 P w K mg base ["program"] "degree_of" (defScope sDegree) f cdv A outer s H E).nox.N = (["program"] : List Str) := rfl
  have c1 : CallOk (cxOf CX0 P w K mg base ["program"] "degree_of" (defScope sDegree) f cdv A outer s H E).nox "added_measure" (Wam n) := d1.call hr
  show SX _ (_ :: _) [_] _
  repeat wtm_at "go"
  exact ⟨false, d, w1, g1, p1, rfl, hm, hP⟩
end
abbrev sWide : Stmt := topS 18
abbrev sDegreeL : Stmt := topS 19
abbrev nLw : List Str := ["_law_program", "_law_some", "_law_part7"]
abbrev oLw : List (Str × Nat) := [("_law_part7", 2)]
theorem scWide : FnScope nLw ["_law_program"] (defScope sWide) := ⟨rfl, rfl, rfl, by decide +kernel, rfl, by decide +kernel, by decide +kernel⟩
theorem scDegreeL : FnScope nLw ["_law_program"] (defScope sDegreeL) := ⟨rfl, rfl, rfl, by decide +kernel, rfl, by decide +kernel, by decide +kernel⟩
theorem not2' {k : Str} (h : inK k) : ¬ k ∈ (["sum", "plus"] : List Str) := by
  simp [h.1, h.2.2.1]
section
variable {P : Program} {w : World} {K : PySem.W.Frag} {mg : Str → Option Value} {base : Heap}
set_option maxHeartbeats 16000000 in
theorem df_Wide (T : Top K mg "_law_wide" sWide ["_law_program"]) (m1 : mg "max" = none) (m2 : mg "sum" = none) (d1 : Df P w K mg base "_law_inner" Winner 1) : ∀ n, n ≤ 6 → Df P w K mg base "_law_wide" (Ww n) (n + 2) := by
  refine all_n fun n ih hn => ?_
  refine T.df (k := n + 1) scWide (fun _ _ ⟨_, _, _, _, h, _⟩ => by rw [h]; rfl) fun f cdv A outer s H E hr hnd ds Po' hw hl => ?_
  obtain ⟨d, w1, g1, p1, rfl, hm, hP⟩ := hw
  have hX : (cxOf CX0 P w K mg base nLw "_law_wide" (defScope sWide) f cdv A outer s H E).nox.N = nLw := rfl
  have c1 : CallOk (cxOf CX0 P w K mg base nLw "_law_wide" (defScope sWide) f cdv A outer s H E).nox "_law_inner" Winner := d1.call hr (by omega)
  show SX _ (_ :: _) [_, _, _] _
  rcases hm.view with ⟨k, r, rfl, hk, rfl, rfl, hg⟩ | ⟨m, ms, rfl, hms, hN⟩
  · have hpr : Pr (.tup (.str k :: r)) (([] : List Pt).map (·.d)) := .leaf hk
    obtain ⟨ms, hms⟩ : ∃ ms : List Pt, ms = [] := ⟨_, rfl⟩
    rw [← hms] at hpr
    have hl4 : ms.length ≤ 4 := by rw [hms]; decide
    wtm_at "st"
    · refine s_setLc 1 (own := oLw) (js := [2]) hX rfl hnd (blkOk_by (N := nLw) (sc := defScope sWide) (by decide +kernel)) (fun _ _ _ _ _ => pg_name (i := 2) hnd rfl (Or.inl rfl)) (tg_name 2) (by decide) (by decide) [.is _, .no, .no] rfl ?_ (by with_reducible rfl) rfl (sw_true rfl rfl rfl (by decide +kernel))
      refine wx_list ?_
      repeat wtm_at "go"
      refine ⟨_, _, rfl, hpr, ?_⟩
      repeat wtm_at "go"
      refine ⟨by rw [List.length_map]; omega, fun i es => es = ((ms.take i).map fun x => x.w).map fun n : Nat => D.int (n : Int), by simp, fun i y es hd ha => ?_, fun es ha => ?_⟩
      · obtain ⟨x, hx, rfl⟩ : ∃ x, ms[i]? = some x ∧ x.d = y := by rw [List.getElem?_map] at hd; exact Option.map_eq_some_iff.mp hd
        subst ha
        show EB _ _ _ _ _
        intro s0 H0 C cl fp
        repeat wtm_at "go"
        exact absurd (List.mem_of_getElem? hx) (by rw [hms]; simp)
      rw [List.length_map, List.take_length] at ha
      subst ha
      subst hms
      repeat wtm_at "go"
      refine if_dec (fun e => absurd e hk.1) fun _ => ?_
      repeat wtm_at "go"
      refine if_dec (fun e => absurd e hk.2.2.1) fun _ => ?_
      repeat wtm_at "go"
      refine if_dec (fun e => absurd e hk.2.1) fun _ => ?_
      repeat wtm_at "go"
      exact w_sum (l := []) hP
  · have c2 : CallOk (cxOf CX0 P w K mg base nLw "_law_wide" (defScope sWide) f cdv A outer s H E).nox "_law_wide" (Ww m) := (ih m rfl (by omega)).call hr (Nat.le_refl _)
    have hpr := hN.pr
    have hl4 := hN.len
    have sm : ∀ x ∈ ms, x.w < 2 ^ 7000 := fun x hx => by
      have := (hms x hx).small (by omega)
      exact this.1
    have wit : ∀ (x : Pt) (P : D → Prop), x ∈ ms → P (.int (x.w : Nat)) → Ww m [x.d] P := fun x P hx h => ⟨x.d, x.w, x.g, x.p, rfl, hms x hx, h⟩
    cases hN with
    | sum v x0 e =>
      wtm_at "st"
      refine s_setLc 1 (own := oLw) (js := [2]) hX rfl hnd (blkOk_by (N := nLw) (sc := defScope sWide) (by decide +kernel)) (fun _ _ _ _ _ => pg_name (i := 2) hnd rfl (Or.inl rfl)) (tg_name 2) (by decide) (by decide) [.is _, .no, .no] rfl ?_ (by with_reducible rfl) rfl (sw_true rfl rfl rfl (by decide +kernel))
      refine wx_list ?_
      repeat wtm_at "go"
      refine ⟨_, _, rfl, hpr, ?_⟩
      repeat wtm_at "go"
      refine ⟨by rw [List.length_map]; omega, fun i es => es = ((ms.take i).map fun x => x.w).map fun n : Nat => D.int (n : Int), by simp, fun i y es hd ha => ?_, fun es ha => ?_⟩
      · obtain ⟨x, hx, rfl⟩ : ∃ x, ms[i]? = some x ∧ x.d = y := by rw [List.getElem?_map] at hd; exact Option.map_eq_some_iff.mp hd
        subst ha
        show EB _ _ _ _ _
        intro s0 H0 C cl fp
        repeat wtm_at "go"
        refine wit x _ (List.mem_of_getElem? hx) ?_
        show List.map _ (List.map _ (ms.take i)) ++ [_] = _
        rw [List.take_add_one, hx, List.map_append, List.map_append]; rfl
      rw [List.length_map, List.take_length] at ha
      subst ha
      subst e
      repeat wtm_at "go"
      have e2 : ((x0.w : Nat) : Int) + 1 = ((x0.w + 1 : Nat) : Int) := by omega
      show Po' (.int (((x0.w : Nat) : Int) + 1))
      rw [e2]
      exact hP
    | pow x0 k e hk =>
      wtm_at "st"
      refine s_setLc 1 (own := oLw) (js := [2]) hX rfl hnd (blkOk_by (N := nLw) (sc := defScope sWide) (by decide +kernel)) (fun _ _ _ _ _ => pg_name (i := 2) hnd rfl (Or.inl rfl)) (tg_name 2) (by decide) (by decide) [.is _, .no, .no] rfl ?_ (by with_reducible rfl) rfl (sw_true rfl rfl rfl (by decide +kernel))
      refine wx_list ?_
      repeat wtm_at "go"
      refine ⟨_, _, rfl, hpr, ?_⟩
      repeat wtm_at "go"
      refine ⟨by rw [List.length_map]; omega, fun i es => es = ((ms.take i).map fun x => x.w).map fun n : Nat => D.int (n : Int), by simp, fun i y es hd ha => ?_, fun es ha => ?_⟩
      · obtain ⟨x, hx, rfl⟩ : ∃ x, ms[i]? = some x ∧ x.d = y := by rw [List.getElem?_map] at hd; exact Option.map_eq_some_iff.mp hd
        subst ha
        show EB _ _ _ _ _
        intro s0 H0 C cl fp
        repeat wtm_at "go"
        refine wit x _ (List.mem_of_getElem? hx) ?_
        show List.map _ (List.map _ (ms.take i)) ++ [_] = _
        rw [List.take_add_one, hx, List.map_append, List.map_append]; rfl
      rw [List.length_map, List.take_length] at ha
      subst ha
      subst e
      repeat wtm_at "go"
      refine o_mul (bigN (big4 hk) (big1 (sm x0 (by simp)))) ?_
      show Po' (.int ((k : Int) * ((x0.w : Nat) : Int)))
      rw [← Int.natCast_mul]
      exact hP
    | plus h2 h4 =>
      wtm_at "st"
      refine s_setLc 1 (own := oLw) (js := [2]) hX rfl hnd (blkOk_by (N := nLw) (sc := defScope sWide) (by decide +kernel)) (fun _ _ _ _ _ => pg_name (i := 2) hnd rfl (Or.inl rfl)) (tg_name 2) (by decide) (by decide) [.is _, .no, .no] rfl ?_ (by with_reducible rfl) rfl (sw_true rfl rfl rfl (by decide +kernel))
      refine wx_list ?_
      repeat wtm_at "go"
      refine ⟨_, _, rfl, hpr, ?_⟩
      repeat wtm_at "go"
      refine ⟨by rw [List.length_map]; omega, fun i es => es = ((ms.take i).map fun x => x.w).map fun n : Nat => D.int (n : Int), by simp, fun i y es hd ha => ?_, fun es ha => ?_⟩
      · obtain ⟨x, hx, rfl⟩ : ∃ x, ms[i]? = some x ∧ x.d = y := by rw [List.getElem?_map] at hd; exact Option.map_eq_some_iff.mp hd
        subst ha
        show EB _ _ _ _ _
        intro s0 H0 C cl fp
        repeat wtm_at "go"
        refine wit x _ (List.mem_of_getElem? hx) ?_
        show List.map _ (List.map _ (ms.take i)) ++ [_] = _
        rw [List.take_add_one, hx, List.map_append, List.map_append]; rfl
      rw [List.length_map, List.take_length] at ha
      subst ha
      repeat wtm_at "go"
      exact w_max (by rw [List.length_map]; omega) hP
    | times h2 h4 =>
      wtm_at "st"
      refine s_setLc 1 (own := oLw) (js := [2]) hX rfl hnd (blkOk_by (N := nLw) (sc := defScope sWide) (by decide +kernel)) (fun _ _ _ _ _ => pg_name (i := 2) hnd rfl (Or.inl rfl)) (tg_name 2) (by decide) (by decide) [.is _, .no, .no] rfl ?_ (by with_reducible rfl) rfl (sw_true rfl rfl rfl (by decide +kernel))
      refine wx_list ?_
      repeat wtm_at "go"
      refine ⟨_, _, rfl, hpr, ?_⟩
      repeat wtm_at "go"
      refine ⟨by rw [List.length_map]; omega, fun i es => es = ((ms.take i).map fun x => x.w).map fun n : Nat => D.int (n : Int), by simp, fun i y es hd ha => ?_, fun es ha => ?_⟩
      · obtain ⟨x, hx, rfl⟩ : ∃ x, ms[i]? = some x ∧ x.d = y := by rw [List.getElem?_map] at hd; exact Option.map_eq_some_iff.mp hd
        subst ha
        show EB _ _ _ _ _
        intro s0 H0 C cl fp
        repeat wtm_at "go"
        refine wit x _ (List.mem_of_getElem? hx) ?_
        show List.map _ (List.map _ (ms.take i)) ++ [_] = _
        rw [List.take_add_one, hx, List.map_append, List.map_append]; rfl
      rw [List.length_map, List.take_length] at ha
      subst ha
      repeat wtm_at "go"
      exact w_sum hP
set_option maxHeartbeats 16000000 in
theorem df_DegreeL (T : Top K mg "_law_degree" sDegreeL ["_law_program"]) (m1 : mg "max" = none) (m2 : mg "sum" = none) (d1 : Df P w K mg base "_law_inner" Winner 1) : ∀ n, n ≤ 6 → Df P w K mg base "_law_degree" (Wg n) (n + 2) := by
  refine all_n fun n ih hn => ?_
  refine T.df (k := n + 1) scDegreeL (fun _ _ ⟨_, _, _, _, h, _⟩ => by rw [h]; rfl) fun f cdv A outer s H E hr hnd ds Po' hw hl => ?_
  obtain ⟨d, w1, g1, p1, rfl, hm, hP⟩ := hw
  have hX : (cxOf CX0 P w K mg base nLw "_law_degree" (defScope sDegreeL) f cdv A outer s H E).nox.N = nLw := rfl
  have c1 : CallOk (cxOf CX0 P w K mg base nLw "_law_degree" (defScope sDegreeL) f cdv A outer s H E).nox "_law_inner" Winner := d1.call hr (by omega)
  show SX _ (_ :: _) [_, _, _] _
  rcases hm.view with ⟨k, r, rfl, hk, rfl, rfl, hg⟩ | ⟨m, ms, rfl, hms, hN⟩
  · have hpr : Pr (.tup (.str k :: r)) (([] : List Pt).map (·.d)) := .leaf hk
    obtain ⟨ms, hms⟩ : ∃ ms : List Pt, ms = [] := ⟨_, rfl⟩
    rw [← hms] at hpr
    have hl4 : ms.length ≤ 4 := by rw [hms]; decide
    wtm_at "st"
    · refine s_setLc 1 (own := oLw) (js := [2]) hX rfl hnd (blkOk_by (N := nLw) (sc := defScope sDegreeL) (by decide +kernel)) (fun _ _ _ _ _ => pg_name (i := 2) hnd rfl (Or.inl rfl)) (tg_name 2) (by decide) (by decide) [.is _, .no, .no] rfl ?_ (by with_reducible rfl) rfl (sw_true rfl rfl rfl (by decide +kernel))
      refine wx_list ?_
      repeat wtm_at "go"
      refine ⟨_, _, rfl, hpr, ?_⟩
      repeat wtm_at "go"
      refine ⟨by rw [List.length_map]; omega, fun i es => es = ((ms.take i).map fun x => x.g).map fun n : Nat => D.int (n : Int), by simp, fun i y es hd ha => ?_, fun es ha => ?_⟩
      · obtain ⟨x, hx, rfl⟩ : ∃ x, ms[i]? = some x ∧ x.d = y := by rw [List.getElem?_map] at hd; exact Option.map_eq_some_iff.mp hd
        subst ha
        show EB _ _ _ _ _
        intro s0 H0 C cl fp
        repeat wtm_at "go"
        exact absurd (List.mem_of_getElem? hx) (by rw [hms]; simp)
      rw [List.length_map, List.take_length] at ha
      subst ha
      subst hms
      repeat wtm_at "go"
      refine if_dec (fun e => ?_) fun e => ?_
      · repeat wtm_at "go"
        rcases hg with ⟨_, rfl⟩ | ⟨h, _⟩
        · exact hP
        · exact absurd e h
      repeat wtm_at "go"
      refine if_dec (fun e => absurd e (not2' hk)) fun _ => ?_
      repeat wtm_at "go"
      refine if_dec (fun e => absurd e hk.2.1) fun _ => ?_
      repeat wtm_at "go"
      refine w_sum (l := []) ?_
      rcases hg with ⟨h, _⟩ | ⟨_, rfl⟩
      · exact absurd h e
      · exact hP
  · have c2 : CallOk (cxOf CX0 P w K mg base nLw "_law_degree" (defScope sDegreeL) f cdv A outer s H E).nox "_law_degree" (Wg m) := (ih m rfl (by omega)).call hr (Nat.le_refl _)
    have hpr := hN.pr
    have hl4 := hN.len
    have sm : ∀ x ∈ ms, x.g < 2 ^ 7000 := fun x hx => by
      have := (hms x hx).small (by omega)
      exact this.2.1
    have wit : ∀ (x : Pt) (P : D → Prop), x ∈ ms → P (.int (x.g : Nat)) → Wg m [x.d] P := fun x P hx h => ⟨x.d, x.w, x.g, x.p, rfl, hms x hx, h⟩
    cases hN with
    | sum v x0 e =>
      wtm_at "st"
      refine s_setLc 1 (own := oLw) (js := [2]) hX rfl hnd (blkOk_by (N := nLw) (sc := defScope sDegreeL) (by decide +kernel)) (fun _ _ _ _ _ => pg_name (i := 2) hnd rfl (Or.inl rfl)) (tg_name 2) (by decide) (by decide) [.is _, .no, .no] rfl ?_ (by with_reducible rfl) rfl (sw_true rfl rfl rfl (by decide +kernel))
      refine wx_list ?_
      repeat wtm_at "go"
      refine ⟨_, _, rfl, hpr, ?_⟩
      repeat wtm_at "go"
      refine ⟨by rw [List.length_map]; omega, fun i es => es = ((ms.take i).map fun x => x.g).map fun n : Nat => D.int (n : Int), by simp, fun i y es hd ha => ?_, fun es ha => ?_⟩
      · obtain ⟨x, hx, rfl⟩ : ∃ x, ms[i]? = some x ∧ x.d = y := by rw [List.getElem?_map] at hd; exact Option.map_eq_some_iff.mp hd
        subst ha
        show EB _ _ _ _ _
        intro s0 H0 C cl fp
        repeat wtm_at "go"
        refine wit x _ (List.mem_of_getElem? hx) ?_
        show List.map _ (List.map _ (ms.take i)) ++ [_] = _
        rw [List.take_add_one, hx, List.map_append, List.map_append]; rfl
      rw [List.length_map, List.take_length] at ha
      subst ha
      subst e
      repeat wtm_at "go"
      refine w_max (l := [x0.g]) (Nat.zero_lt_one) ?_
      show Po' (.int (max x0.g 0 : Nat))
      rw [Nat.max_zero]
      exact hP
    | pow x0 k e hk =>
      wtm_at "st"
      refine s_setLc 1 (own := oLw) (js := [2]) hX rfl hnd (blkOk_by (N := nLw) (sc := defScope sDegreeL) (by decide +kernel)) (fun _ _ _ _ _ => pg_name (i := 2) hnd rfl (Or.inl rfl)) (tg_name 2) (by decide) (by decide) [.is _, .no, .no] rfl ?_ (by with_reducible rfl) rfl (sw_true rfl rfl rfl (by decide +kernel))
      refine wx_list ?_
      repeat wtm_at "go"
      refine ⟨_, _, rfl, hpr, ?_⟩
      repeat wtm_at "go"
      refine ⟨by rw [List.length_map]; omega, fun i es => es = ((ms.take i).map fun x => x.g).map fun n : Nat => D.int (n : Int), by simp, fun i y es hd ha => ?_, fun es ha => ?_⟩
      · obtain ⟨x, hx, rfl⟩ : ∃ x, ms[i]? = some x ∧ x.d = y := by rw [List.getElem?_map] at hd; exact Option.map_eq_some_iff.mp hd
        subst ha
        show EB _ _ _ _ _
        intro s0 H0 C cl fp
        repeat wtm_at "go"
        refine wit x _ (List.mem_of_getElem? hx) ?_
        show List.map _ (List.map _ (ms.take i)) ++ [_] = _
        rw [List.take_add_one, hx, List.map_append, List.map_append]; rfl
      rw [List.length_map, List.take_length] at ha
      subst ha
      subst e
      repeat wtm_at "go"
      refine o_mul (bigN (big4 hk) (big1 (sm x0 (by simp)))) ?_
      show Po' (.int ((k : Int) * ((x0.g : Nat) : Int)))
      rw [← Int.natCast_mul]
      exact hP
    | plus h2 h4 =>
      wtm_at "st"
      refine s_setLc 1 (own := oLw) (js := [2]) hX rfl hnd (blkOk_by (N := nLw) (sc := defScope sDegreeL) (by decide +kernel)) (fun _ _ _ _ _ => pg_name (i := 2) hnd rfl (Or.inl rfl)) (tg_name 2) (by decide) (by decide) [.is _, .no, .no] rfl ?_ (by with_reducible rfl) rfl (sw_true rfl rfl rfl (by decide +kernel))
      refine wx_list ?_
      repeat wtm_at "go"
      refine ⟨_, _, rfl, hpr, ?_⟩
      repeat wtm_at "go"
      refine ⟨by rw [List.length_map]; omega, fun i es => es = ((ms.take i).map fun x => x.g).map fun n : Nat => D.int (n : Int), by simp, fun i y es hd ha => ?_, fun es ha => ?_⟩
      · obtain ⟨x, hx, rfl⟩ : ∃ x, ms[i]? = some x ∧ x.d = y := by rw [List.getElem?_map] at hd; exact Option.map_eq_some_iff.mp hd
        subst ha
        show EB _ _ _ _ _
        intro s0 H0 C cl fp
        repeat wtm_at "go"
        refine wit x _ (List.mem_of_getElem? hx) ?_
        show List.map _ (List.map _ (ms.take i)) ++ [_] = _
        rw [List.take_add_one, hx, List.map_append, List.map_append]; rfl
      rw [List.length_map, List.take_length] at ha
      subst ha
      repeat wtm_at "go"
      exact w_max (by rw [List.length_map]; omega) hP
    | times h2 h4 =>
      wtm_at "st"
      refine s_setLc 1 (own := oLw) (js := [2]) hX rfl hnd (blkOk_by (N := nLw) (sc := defScope sDegreeL) (by decide +kernel)) (fun _ _ _ _ _ => pg_name (i := 2) hnd rfl (Or.inl rfl)) (tg_name 2) (by decide) (by decide) [.is _, .no, .no] rfl ?_ (by with_reducible rfl) rfl (sw_true rfl rfl rfl (by decide +kernel))
      refine wx_list ?_
      repeat wtm_at "go"
      refine ⟨_, _, rfl, hpr, ?_⟩
      repeat wtm_at "go"
      refine ⟨by rw [List.length_map]; omega, fun i es => es = ((ms.take i).map fun x => x.g).map fun n : Nat => D.int (n : Int), by simp, fun i y es hd ha => ?_, fun es ha => ?_⟩
      · obtain ⟨x, hx, rfl⟩ : ∃ x, ms[i]? = some x ∧ x.d = y := by rw [List.getElem?_map] at hd; exact Option.map_eq_some_iff.mp hd
        subst ha
        show EB _ _ _ _ _
        intro s0 H0 C cl fp
        repeat wtm_at "go"
        refine wit x _ (List.mem_of_getElem? hx) ?_
        show List.map _ (List.map _ (ms.take i)) ++ [_] = _
        rw [List.take_add_one, hx, List.map_append, List.map_append]; rfl
      rw [List.length_map, List.take_length] at ha
      subst ha
      repeat wtm_at "go"
      exact w_sum hP
end
section
def wMulA : W2 := fun a b P => wMul a b P ∨ wRepL a b P
theorem od_mulA {X : Cx} : OpD X (binaryOp .Mult) wMulA := by
  intro S B O H0 H σ Γ P x y a b st r1 r2 h
  rcases h with h | h
  · exact od_mul S B O H0 H σ Γ P x y a b st r1 r2 h
  · exact od_repL S B O H0 H σ Γ P x y a b st r1 r2 h
local macro_rules | `(tactic| wtm_at "ex") => `(tactic| first
  | ((with_reducible show EX _ (PySem.Expr.BinOp _ PySem.Operator.Mult _ _) _ _); refine ex_bin od_mulA ?_))
abbrev sProductsL : Stmt := topS 20
abbrev nLp : List Str := ["_law_program", "_law_some", "_law_found", "_law_one", "_law_part7"]
abbrev oLp : List (Str × Nat) := [("_law_part7", 4)]
theorem scProductsL : FnScope nLp ["_law_program"] (defScope sProductsL) := ⟨rfl, rfl, rfl, by decide +kernel, rfl, by decide +kernel, by decide +kernel⟩
theorem prod_app (l : List Nat) (x : Nat) : prodN (l ++ [x]) = prodN l * x := by
  induction l with
  | nil => show x * 1 = 1 * x; omega
  | cons y r ih => show y * prodN (r ++ [x]) = y * prodN r * x; rw [ih, Nat.mul_assoc]
theorem prod_step {ls : List Nat} {i x : Nat} (hx : ls[i]? = some x) : prodN (ls.take (i + 1)) = prodN (ls.take i) * x := by
  rw [List.take_add_one, hx]
  exact prod_app _ _
theorem prod_big (ls : List Nat) (l4 : ls.length ≤ 4) (lb : ∀ x ∈ ls, x < 2 ^ 7000) (i : Nat) : prodN (ls.take i) < 2 ^ 28001 := by
  have h := prod_le (B := 2 ^ 7000) (l := ls.take i) fun x hx => Nat.le_of_lt (lb x (List.mem_of_mem_take hx))
  have h2 : (ls.take i).length ≤ 4 := by rw [List.length_take]; omega
  refine Nat.lt_of_le_of_lt h ?_
  rw [← Nat.pow_mul]
  exact Nat.pow_lt_pow_right (by decide) (by omega)
theorem prod_rep (x : Nat) : ∀ k : Nat, prodN (List.replicate k x) = x ^ k
  | 0 => rfl
  | k + 1 => by
    rw [List.replicate_succ]
    show x * prodN (List.replicate k x) = _
    rw [prod_rep x k, Nat.pow_succ, Nat.mul_comm]
theorem flat_rep (x : D) : ∀ k : Nat, (List.replicate k [x]).flatten = List.replicate k x
  | 0 => rfl
  | k + 1 => by rw [List.replicate_succ, List.replicate_succ, List.flatten_cons, flat_rep x k]; rfl
section
variable {P : Program} {w : World} {K : PySem.W.Frag} {mg : Str → Option Value} {base : Heap}
set_option maxHeartbeats 16000000 in
theorem df_products (T : Top K mg "products_of" sProducts ["program"]) (m2 : mg "sum" = none) (d1 : Df P w K mg base "parts_of" Wparts 1) (d3 : Df P w K mg base "raised" Wraised 1) : ∀ n, n ≤ 6 → Df P w K mg base "products_of" (Wp n) (n + 2) := by
  refine all_n fun n ih hn => ?_
  refine T.df (k := n + 1) scProducts (fun _ _ ⟨_, _, _, _, h, _⟩ => by rw [h]; rfl) fun f cdv A outer s H E hr hnd ds Po' hw hl => ?_
  obtain ⟨d, w1, g1, p1, rfl, hm, hP⟩ := hw
  have hX : (cxOf CX0 P w K mg base nProducts "products_of" (defScope sProducts) f cdv A outer s H E).nox.N = nProducts := rfl
  have c1 : CallOk (cxOf CX0 P w K mg base nProducts "products_of" (defScope sProducts) f cdv A outer s H E).nox "parts_of" Wparts := d1.call hr (by omega)
  have c3 : CallOk (cxOf CX0 P w K mg base nProducts "products_of" (defScope sProducts) f cdv A outer s H E).nox "raised" Wraised := d3.call hr (by omega)
  have step : ∀ (kd : D) (ls : List Nat), ls.length ≤ 4 → (∀ x ∈ ls, x < 2 ^ 7000) → Po' (.int (prodN ls : Nat)) → S1 (cxOf CX0 P w K mg base nProducts "products_of" (defScope sProducts) f cdv A outer s H E).nox ((defBody sProducts).getD 5 (.Pass ⟨0, 0, 0, 0⟩)) [.is d, .is kd, .is (.lst (ls.map fun n : Nat => D.int (n : Int))), .is (.int 1), .no, .no] { nx := fun Γ' => SX (cxOf CX0 P w K mg base nProducts "products_of" (defScope sProducts) f cdv A outer s H E).nox ((defBody sProducts).drop 6) Γ' { nx := fun _ => Po' .non, rt := Po' }, rt := Po' } := fun kd ls l4 lb hp => by
    refine s_for .never rfl (pg_name (i := 4) hnd rfl (Or.inl rfl)) (tg_name 4) ?_
    refine wx_list ?_
    repeat wtm_at "go"
    refine ⟨fun i Γ => Γ = [.is d, .is kd, .is (.lst (ls.map fun n : Nat => D.int (n : Int))), .is (.int (prodN (ls.take i) : Nat)), .no, .no], rfl, ?_, ?_⟩
    · rintro i y Γ hy rfl
      obtain ⟨x, hx, rfl⟩ : ∃ x, ls[i]? = some x ∧ D.int (x : Int) = y := by rw [List.getElem?_map] at hy; exact Option.map_eq_some_iff.mp hy
      show SX _ [_] [_, _, _, _, _, _] _
      repeat wtm_at "go"
      refine .inl (o_mul (bigN (prod_big ls l4 lb i) (big1 (lb x (List.mem_of_getElem? hx)))) ?_)
      refine ⟨[.is d, .is kd, .is (.lst (ls.map fun n : Nat => D.int (n : Int))), .is (.int (((prodN (ls.take i) : Nat) : Int) * (x : Int))), .no, .no], ⟨.refl _, .refl _, .refl _, .refl _, .no _, .refl _, trivial⟩, ?_⟩
      show ([.is d, .is kd, .is (.lst (ls.map fun n : Nat => D.int (n : Int))), .is (.int (((prodN (ls.take i) : Nat) : Int) * (x : Int))), .no, .no] : List G.E) = [.is d, .is kd, .is (.lst (ls.map fun n : Nat => D.int (n : Int))), .is (.int (prodN (ls.take (i + 1)) : Nat)), .no, .no]
      rw [prod_step hx, Int.natCast_mul]
    · rintro Γ rfl
      rw [List.length_map, List.take_length]
      show SX _ [_] [_, _, _, _, _, _] _
      repeat wtm_at "go"
      exact hp
  show SX _ (_ :: _) [_, _, _, _, _, _] _
  rcases hm.view with ⟨k, r, rfl, hk, rfl, rfl, hg⟩ | ⟨m, ms, rfl, hms, hN⟩
  · have hpr : Pr (.tup (.str k :: r)) (([] : List Pt).map (·.d)) := .leaf hk
    obtain ⟨ms, hms⟩ : ∃ ms : List Pt, ms = [] := ⟨_, rfl⟩
    rw [← hms] at hpr
    have hl4 : ms.length ≤ 4 := by rw [hms]; decide
    repeat wtm_at "go"
    · refine s_setLc 2 (own := oProducts) (js := [5]) hX rfl hnd (blkOk_by (N := nProducts) (sc := defScope sProducts) (by decide +kernel)) (fun _ _ _ _ _ => pg_name (i := 5) hnd rfl (Or.inl rfl)) (tg_name 5) (by decide) (by decide) [.is _, .is _, .no, .no, .no, .no] rfl ?_ (by with_reducible rfl) rfl (sw_true rfl rfl rfl (by decide +kernel))
      refine wx_tup ?_
      repeat wtm_at "go"
      refine ⟨_, _, rfl, hpr, ?_⟩
      repeat wtm_at "go"
      refine ⟨by rw [List.length_map]; omega, fun i es => es = ((ms.take i).map fun x => x.p).map fun n : Nat => D.int (n : Int), by simp, fun i y es hd ha => ?_, fun es ha => ?_⟩
      · obtain ⟨x, hx, rfl⟩ : ∃ x, ms[i]? = some x ∧ x.d = y := by rw [List.getElem?_map] at hd; exact Option.map_eq_some_iff.mp hd
        subst ha
        show EB _ _ _ _ _
        intro s0 H0 C cl fp
        repeat wtm_at "go"
        exact absurd (List.mem_of_getElem? hx) (by rw [hms]; simp)
      rw [List.length_map, List.take_length] at ha
      subst ha
      subst hms
      repeat wtm_at "go"
      refine if_dec (fun e => absurd e hk.2.2.1) fun _ => ?_
      wtm_at "go"
      repeat wtm_at "go"
      refine if_dec (fun e => absurd e hk.2.1) fun _ => ?_
      repeat wtm_at "go"
      exact step _ [] (by decide) (fun x hx => absurd hx (by simp)) hP
  · have c2 : CallOk (cxOf CX0 P w K mg base nProducts "products_of" (defScope sProducts) f cdv A outer s H E).nox "products_of" (Wp m) := (ih m rfl (by omega)).call hr (Nat.le_refl _)
    have hpr := hN.pr
    have hl4 := hN.len
    have sm : ∀ x ∈ ms, x.p < 2 ^ 7000 := fun x hx => ((hms x hx).small (by omega)).2.2
    have sml : ∀ x ∈ ms.map fun x => x.p, x < 2 ^ 7000 := fun x hx => by
      obtain ⟨y, hy, rfl⟩ := List.mem_map.mp hx
      exact sm y hy
    have wit : ∀ (x : Pt) (P : D → Prop), x ∈ ms → P (.int (x.p : Nat)) → Wp m [x.d] P := fun x P hx h => ⟨x.d, x.w, x.g, x.p, rfl, hms x hx, h⟩
    cases hN with
    | sum v x0 e =>
      repeat wtm_at "go"
      refine s_setLc 2 (own := oProducts) (js := [5]) hX rfl hnd (blkOk_by (N := nProducts) (sc := defScope sProducts) (by decide +kernel)) (fun _ _ _ _ _ => pg_name (i := 5) hnd rfl (Or.inl rfl)) (tg_name 5) (by decide) (by decide) [.is _, .is _, .no, .no, .no, .no] rfl ?_ (by with_reducible rfl) rfl (sw_true rfl rfl rfl (by decide +kernel))
      refine wx_tup ?_
      repeat wtm_at "go"
      refine ⟨_, _, rfl, hpr, ?_⟩
      repeat wtm_at "go"
      refine ⟨by rw [List.length_map]; omega, fun i es => es = ((ms.take i).map fun x => x.p).map fun n : Nat => D.int (n : Int), by simp, fun i y es hd ha => ?_, fun es ha => ?_⟩
      · obtain ⟨x, hx, rfl⟩ : ∃ x, ms[i]? = some x ∧ x.d = y := by rw [List.getElem?_map] at hd; exact Option.map_eq_some_iff.mp hd
        subst ha
        show EB _ _ _ _ _
        intro s0 H0 C cl fp
        repeat wtm_at "go"
        refine wit x _ (List.mem_of_getElem? hx) ?_
        show List.map _ (List.map _ (ms.take i)) ++ [_] = _
        rw [List.take_add_one, hx, List.map_append, List.map_append]; rfl
      rw [List.length_map, List.take_length] at ha
      subst ha
      repeat wtm_at "go"
      rw [e] at sml
      subst e
      exact step _ [x0.p] (by simp) sml (by show Po' (.int ((x0.p * 1 : Nat) : Int)); rw [Nat.mul_one]; exact hP)
    | pow x0 k e hk =>
      repeat wtm_at "go"
      refine s_setLc 2 (own := oProducts) (js := [5]) hX rfl hnd (blkOk_by (N := nProducts) (sc := defScope sProducts) (by decide +kernel)) (fun _ _ _ _ _ => pg_name (i := 5) hnd rfl (Or.inl rfl)) (tg_name 5) (by decide) (by decide) [.is _, .is _, .no, .no, .no, .no] rfl ?_ (by with_reducible rfl) rfl (sw_true rfl rfl rfl (by decide +kernel))
      refine wx_tup ?_
      repeat wtm_at "go"
      refine ⟨_, _, rfl, hpr, ?_⟩
      repeat wtm_at "go"
      refine ⟨by rw [List.length_map]; omega, fun i es => es = ((ms.take i).map fun x => x.p).map fun n : Nat => D.int (n : Int), by simp, fun i y es hd ha => ?_, fun es ha => ?_⟩
      · obtain ⟨x, hx, rfl⟩ : ∃ x, ms[i]? = some x ∧ x.d = y := by rw [List.getElem?_map] at hd; exact Option.map_eq_some_iff.mp hd
        subst ha
        show EB _ _ _ _ _
        intro s0 H0 C cl fp
        repeat wtm_at "go"
        refine wit x _ (List.mem_of_getElem? hx) ?_
        show List.map _ (List.map _ (ms.take i)) ++ [_] = _
        rw [List.take_add_one, hx, List.map_append, List.map_append]; rfl
      rw [List.length_map, List.take_length] at ha
      subst ha
      subst e
      repeat wtm_at "go"
      exact ⟨x0.p, k, rfl, hk, sm x0 (by simp), hP⟩
    | plus h2 h4 =>
      repeat wtm_at "go"
      refine s_setLc 2 (own := oProducts) (js := [5]) hX rfl hnd (blkOk_by (N := nProducts) (sc := defScope sProducts) (by decide +kernel)) (fun _ _ _ _ _ => pg_name (i := 5) hnd rfl (Or.inl rfl)) (tg_name 5) (by decide) (by decide) [.is _, .is _, .no, .no, .no, .no] rfl ?_ (by with_reducible rfl) rfl (sw_true rfl rfl rfl (by decide +kernel))
      refine wx_tup ?_
      repeat wtm_at "go"
      refine ⟨_, _, rfl, hpr, ?_⟩
      repeat wtm_at "go"
      refine ⟨by rw [List.length_map]; omega, fun i es => es = ((ms.take i).map fun x => x.p).map fun n : Nat => D.int (n : Int), by simp, fun i y es hd ha => ?_, fun es ha => ?_⟩
      · obtain ⟨x, hx, rfl⟩ : ∃ x, ms[i]? = some x ∧ x.d = y := by rw [List.getElem?_map] at hd; exact Option.map_eq_some_iff.mp hd
        subst ha
        show EB _ _ _ _ _
        intro s0 H0 C cl fp
        repeat wtm_at "go"
        refine wit x _ (List.mem_of_getElem? hx) ?_
        show List.map _ (List.map _ (ms.take i)) ++ [_] = _
        rw [List.take_add_one, hx, List.map_append, List.map_append]; rfl
      rw [List.length_map, List.take_length] at ha
      subst ha
      repeat wtm_at "go"
      exact w_sum hP
    | times h2 h4 =>
      repeat wtm_at "go"
      refine s_setLc 2 (own := oProducts) (js := [5]) hX rfl hnd (blkOk_by (N := nProducts) (sc := defScope sProducts) (by decide +kernel)) (fun _ _ _ _ _ => pg_name (i := 5) hnd rfl (Or.inl rfl)) (tg_name 5) (by decide) (by decide) [.is _, .is _, .no, .no, .no, .no] rfl ?_ (by with_reducible rfl) rfl (sw_true rfl rfl rfl (by decide +kernel))
      refine wx_tup ?_
      repeat wtm_at "go"
      refine ⟨_, _, rfl, hpr, ?_⟩
      repeat wtm_at "go"
      refine ⟨by rw [List.length_map]; omega, fun i es => es = ((ms.take i).map fun x => x.p).map fun n : Nat => D.int (n : Int), by simp, fun i y es hd ha => ?_, fun es ha => ?_⟩
      · obtain ⟨x, hx, rfl⟩ : ∃ x, ms[i]? = some x ∧ x.d = y := by rw [List.getElem?_map] at hd; exact Option.map_eq_some_iff.mp hd
        subst ha
        show EB _ _ _ _ _
        intro s0 H0 C cl fp
        repeat wtm_at "go"
        refine wit x _ (List.mem_of_getElem? hx) ?_
        show List.map _ (List.map _ (ms.take i)) ++ [_] = _
        rw [List.take_add_one, hx, List.map_append, List.map_append]; rfl
      rw [List.length_map, List.take_length] at ha
      subst ha
      repeat wtm_at "go"
      exact step _ _ (by rw [List.length_map]; exact h4) sml hP
set_option maxHeartbeats 16000000 in
theorem df_productsL (T : Top K mg "_law_products" sProductsL ["_law_program"]) (m2 : mg "sum" = none) (d1 : Df P w K mg base "_law_inner" Winner 1) : ∀ n, n ≤ 6 → Df P w K mg base "_law_products" (Wp n) (n + 2) := by
  refine all_n fun n ih hn => ?_
  refine T.df (k := n + 1) scProductsL (fun _ _ ⟨_, _, _, _, h, _⟩ => by rw [h]; rfl) fun f cdv A outer s H E hr hnd ds Po' hw hl => ?_
  obtain ⟨d, w1, g1, p1, rfl, hm, hP⟩ := hw
  have hX : (cxOf CX0 P w K mg base nLp "_law_products" (defScope sProductsL) f cdv A outer s H E).nox.N = nLp := rfl
  have c1 : CallOk (cxOf CX0 P w K mg base nLp "_law_products" (defScope sProductsL) f cdv A outer s H E).nox "_law_inner" Winner := d1.call hr (by omega)
  have step : ∀ (ls : List Nat), ls.length ≤ 4 → (∀ x ∈ ls, x < 2 ^ 7000) → Po' (.int (prodN ls : Nat)) → S1 (cxOf CX0 P w K mg base nLp "_law_products" (defScope sProductsL) f cdv A outer s H E).nox ((defBody sProductsL).getD 4 (.Pass ⟨0, 0, 0, 0⟩)) [.is d, .is (.lst (ls.map fun n : Nat => D.int (n : Int))), .is (.int 1), .no, .no] { nx := fun Γ' => SX (cxOf CX0 P w K mg base nLp "_law_products" (defScope sProductsL) f cdv A outer s H E).nox ((defBody sProductsL).drop 5) Γ' { nx := fun _ => Po' .non, rt := Po' }, rt := Po' } := fun ls l4 lb hp => by
    refine s_for .never rfl (pg_name (i := 3) hnd rfl (Or.inl rfl)) (tg_name 3) ?_
    refine wx_list ?_
    repeat wtm_at "go"
    refine ⟨fun i Γ => Γ = [.is d, .is (.lst (ls.map fun n : Nat => D.int (n : Int))), .is (.int (prodN (ls.take i) : Nat)), .no, .no], rfl, ?_, ?_⟩
    · rintro i y Γ hy rfl
      obtain ⟨x, hx, rfl⟩ : ∃ x, ls[i]? = some x ∧ D.int (x : Int) = y := by rw [List.getElem?_map] at hy; exact Option.map_eq_some_iff.mp hy
      show SX _ [_] [_, _, _, _, _] _
      repeat wtm_at "go"
      refine .inl (o_mul (bigN (prod_big ls l4 lb i) (big1 (lb x (List.mem_of_getElem? hx)))) ?_)
      refine ⟨[.is d, .is (.lst (ls.map fun n : Nat => D.int (n : Int))), .is (.int (((prodN (ls.take i) : Nat) : Int) * (x : Int))), .no, .no], ⟨.refl _, .refl _, .refl _, .no _, .refl _, trivial⟩, ?_⟩
      show ([.is d, .is (.lst (ls.map fun n : Nat => D.int (n : Int))), .is (.int (((prodN (ls.take i) : Nat) : Int) * (x : Int))), .no, .no] : List G.E) = [.is d, .is (.lst (ls.map fun n : Nat => D.int (n : Int))), .is (.int (prodN (ls.take (i + 1)) : Nat)), .no, .no]
      rw [prod_step hx, Int.natCast_mul]
    · rintro Γ rfl
      rw [List.length_map, List.take_length]
      show SX _ [_] [_, _, _, _, _] _
      repeat wtm_at "go"
      exact hp
  show SX _ (_ :: _) [_, _, _, _, _] _
  rcases hm.view with ⟨k, r, rfl, hk, rfl, rfl, hg⟩ | ⟨m, ms, rfl, hms, hN⟩
  · have hpr : Pr (.tup (.str k :: r)) (([] : List Pt).map (·.d)) := .leaf hk
    obtain ⟨ms, hms⟩ : ∃ ms : List Pt, ms = [] := ⟨_, rfl⟩
    rw [← hms] at hpr
    have hl4 : ms.length ≤ 4 := by rw [hms]; decide
    wtm_at "st"
    · refine s_setLc 1 (own := oLp) (js := [4]) hX rfl hnd (blkOk_by (N := nLp) (sc := defScope sProductsL) (by decide +kernel)) (fun _ _ _ _ _ => pg_name (i := 4) hnd rfl (Or.inl rfl)) (tg_name 4) (by decide) (by decide) [.is _, .no, .no, .no, .no] rfl ?_ (by with_reducible rfl) rfl (sw_true rfl rfl rfl (by decide +kernel))
      refine wx_list ?_
      repeat wtm_at "go"
      refine ⟨_, _, rfl, hpr, ?_⟩
      repeat wtm_at "go"
      refine ⟨by rw [List.length_map]; omega, fun i es => es = ((ms.take i).map fun x => x.p).map fun n : Nat => D.int (n : Int), by simp, fun i y es hd ha => ?_, fun es ha => ?_⟩
      · obtain ⟨x, hx, rfl⟩ : ∃ x, ms[i]? = some x ∧ x.d = y := by rw [List.getElem?_map] at hd; exact Option.map_eq_some_iff.mp hd
        subst ha
        show EB _ _ _ _ _
        intro s0 H0 C cl fp
        repeat wtm_at "go"
        exact absurd (List.mem_of_getElem? hx) (by rw [hms]; simp)
      rw [List.length_map, List.take_length] at ha
      subst ha
      subst hms
      repeat wtm_at "go"
      refine if_dec (fun e => absurd e hk.2.2.1) fun _ => ?_
      repeat wtm_at "go"
      refine if_dec (fun e => absurd e hk.2.1) fun _ => ?_
      repeat wtm_at "go"
      exact step [] (by decide) (fun x hx => absurd hx (by simp)) hP
  · have c2 : CallOk (cxOf CX0 P w K mg base nLp "_law_products" (defScope sProductsL) f cdv A outer s H E).nox "_law_products" (Wp m) := (ih m rfl (by omega)).call hr (Nat.le_refl _)
    have hpr := hN.pr
    have hl4 := hN.len
    have sm : ∀ x ∈ ms, x.p < 2 ^ 7000 := fun x hx => ((hms x hx).small (by omega)).2.2
    have sml : ∀ x ∈ ms.map fun x => x.p, x < 2 ^ 7000 := fun x hx => by
      obtain ⟨y, hy, rfl⟩ := List.mem_map.mp hx
      exact sm y hy
    have wit : ∀ (x : Pt) (P : D → Prop), x ∈ ms → P (.int (x.p : Nat)) → Wp m [x.d] P := fun x P hx h => ⟨x.d, x.w, x.g, x.p, rfl, hms x hx, h⟩
    cases hN with
    | sum v x0 e =>
      wtm_at "st"
      refine s_setLc 1 (own := oLp) (js := [4]) hX rfl hnd (blkOk_by (N := nLp) (sc := defScope sProductsL) (by decide +kernel)) (fun _ _ _ _ _ => pg_name (i := 4) hnd rfl (Or.inl rfl)) (tg_name 4) (by decide) (by decide) [.is _, .no, .no, .no, .no] rfl ?_ (by with_reducible rfl) rfl (sw_true rfl rfl rfl (by decide +kernel))
      refine wx_list ?_
      repeat wtm_at "go"
      refine ⟨_, _, rfl, hpr, ?_⟩
      repeat wtm_at "go"
      refine ⟨by rw [List.length_map]; omega, fun i es => es = ((ms.take i).map fun x => x.p).map fun n : Nat => D.int (n : Int), by simp, fun i y es hd ha => ?_, fun es ha => ?_⟩
      · obtain ⟨x, hx, rfl⟩ : ∃ x, ms[i]? = some x ∧ x.d = y := by rw [List.getElem?_map] at hd; exact Option.map_eq_some_iff.mp hd
        subst ha
        show EB _ _ _ _ _
        intro s0 H0 C cl fp
        repeat wtm_at "go"
        refine wit x _ (List.mem_of_getElem? hx) ?_
        show List.map _ (List.map _ (ms.take i)) ++ [_] = _
        rw [List.take_add_one, hx, List.map_append, List.map_append]; rfl
      rw [List.length_map, List.take_length] at ha
      subst ha
      repeat wtm_at "go"
      rw [e] at sml
      subst e
      exact step [x0.p] (by simp) sml (by show Po' (.int ((x0.p * 1 : Nat) : Int)); rw [Nat.mul_one]; exact hP)
    | pow x0 k e hk =>
      wtm_at "st"
      refine s_setLc 1 (own := oLp) (js := [4]) hX rfl hnd (blkOk_by (N := nLp) (sc := defScope sProductsL) (by decide +kernel)) (fun _ _ _ _ _ => pg_name (i := 4) hnd rfl (Or.inl rfl)) (tg_name 4) (by decide) (by decide) [.is _, .no, .no, .no, .no] rfl ?_ (by with_reducible rfl) rfl (sw_true rfl rfl rfl (by decide +kernel))
      refine wx_list ?_
      repeat wtm_at "go"
      refine ⟨_, _, rfl, hpr, ?_⟩
      repeat wtm_at "go"
      refine ⟨by rw [List.length_map]; omega, fun i es => es = ((ms.take i).map fun x => x.p).map fun n : Nat => D.int (n : Int), by simp, fun i y es hd ha => ?_, fun es ha => ?_⟩
      · obtain ⟨x, hx, rfl⟩ : ∃ x, ms[i]? = some x ∧ x.d = y := by rw [List.getElem?_map] at hd; exact Option.map_eq_some_iff.mp hd
        subst ha
        show EB _ _ _ _ _
        intro s0 H0 C cl fp
        repeat wtm_at "go"
        refine wit x _ (List.mem_of_getElem? hx) ?_
        show List.map _ (List.map _ (ms.take i)) ++ [_] = _
        rw [List.take_add_one, hx, List.map_append, List.map_append]; rfl
      rw [List.length_map, List.take_length] at ha
      subst ha
      have p0 := sm x0 (by rw [e]; simp)
      subst e
      repeat wtm_at "go"
      refine .inr ⟨_, (k : Int), rfl, rfl, by omega, by omega, by simp, ?_⟩
      have er : (List.replicate ((k : Int)).toNat (List.map (fun n : Nat => D.int (n : Int)) (List.map (fun x => x.p) [x0]))).flatten = (List.replicate k x0.p).map fun n : Nat => D.int (n : Int) := by
        rw [Int.toNat_natCast, List.map_replicate]
        exact flat_rep _ _
      rw [er]
      repeat wtm_at "go"
      exact step _ (by rw [List.length_replicate]; exact hk) (fun x hx => by rw [List.eq_of_mem_replicate hx]; exact p0) (by rw [prod_rep]; exact hP)
    | plus h2 h4 =>
      wtm_at "st"
      refine s_setLc 1 (own := oLp) (js := [4]) hX rfl hnd (blkOk_by (N := nLp) (sc := defScope sProductsL) (by decide +kernel)) (fun _ _ _ _ _ => pg_name (i := 4) hnd rfl (Or.inl rfl)) (tg_name 4) (by decide) (by decide) [.is _, .no, .no, .no, .no] rfl ?_ (by with_reducible rfl) rfl (sw_true rfl rfl rfl (by decide +kernel))
      refine wx_list ?_
      repeat wtm_at "go"
      refine ⟨_, _, rfl, hpr, ?_⟩
      repeat wtm_at "go"
      refine ⟨by rw [List.length_map]; omega, fun i es => es = ((ms.take i).map fun x => x.p).map fun n : Nat => D.int (n : Int), by simp, fun i y es hd ha => ?_, fun es ha => ?_⟩
      · obtain ⟨x, hx, rfl⟩ : ∃ x, ms[i]? = some x ∧ x.d = y := by rw [List.getElem?_map] at hd; exact Option.map_eq_some_iff.mp hd
        subst ha
        show EB _ _ _ _ _
        intro s0 H0 C cl fp
        repeat wtm_at "go"
        refine wit x _ (List.mem_of_getElem? hx) ?_
        show List.map _ (List.map _ (ms.take i)) ++ [_] = _
        rw [List.take_add_one, hx, List.map_append, List.map_append]; rfl
      rw [List.length_map, List.take_length] at ha
      subst ha
      repeat wtm_at "go"
      exact w_sum hP
    | times h2 h4 =>
      wtm_at "st"
      refine s_setLc 1 (own := oLp) (js := [4]) hX rfl hnd (blkOk_by (N := nLp) (sc := defScope sProductsL) (by decide +kernel)) (fun _ _ _ _ _ => pg_name (i := 4) hnd rfl (Or.inl rfl)) (tg_name 4) (by decide) (by decide) [.is _, .no, .no, .no, .no] rfl ?_ (by with_reducible rfl) rfl (sw_true rfl rfl rfl (by decide +kernel))
      refine wx_list ?_
      repeat wtm_at "go"
      refine ⟨_, _, rfl, hpr, ?_⟩
      repeat wtm_at "go"
      refine ⟨by rw [List.length_map]; omega, fun i es => es = ((ms.take i).map fun x => x.p).map fun n : Nat => D.int (n : Int), by simp, fun i y es hd ha => ?_, fun es ha => ?_⟩
      · obtain ⟨x, hx, rfl⟩ : ∃ x, ms[i]? = some x ∧ x.d = y := by rw [List.getElem?_map] at hd; exact Option.map_eq_some_iff.mp hd
        subst ha
        show EB _ _ _ _ _
        intro s0 H0 C cl fp
        repeat wtm_at "go"
        refine wit x _ (List.mem_of_getElem? hx) ?_
        show List.map _ (List.map _ (ms.take i)) ++ [_] = _
        rw [List.take_add_one, hx, List.map_append, List.map_append]; rfl
      rw [List.length_map, List.take_length] at ha
      subst ha
      wtm_at "go"
      repeat wtm_at "go"
      exact step _ (by rw [List.length_map]; exact h4) sml hP
end
end
abbrev sFree : Stmt := topS 21
abbrev nFree : List Str := ["_law_src", "_law_deep", "_law_names", "_law_way", "_law_share_here", "_law_many", "_law_k"]
abbrev oFree : List (Str × Nat) := [("_law_k", 6)]
theorem scFree : FnScope nFree ["_law_src", "_law_deep"] (defScope sFree) := ⟨rfl, rfl, rfl, by decide +kernel, rfl, by decide +kernel, by decide +kernel⟩
def Wfree (n : Nat) : WA := fun ds P => ds = [.src, .int (n : Int)] ∧ ∀ d w g p, Msr n d w g p → P d
theorem leafOf {k : Str} {r : List D} (h : inK k) (h2 : k ≠ "trait") : Leaf (.tup (.str k :: r)) 0 0 1 := ⟨k, r, rfl, h, rfl, rfl, .inr ⟨h2, rfl⟩⟩
section
variable {P : Program} {w : World} {K : PySem.W.Frag} {mg : Str → Option Value} {base : Heap}
theorem small3 {n : Nat} (h : n ≤ 100 := by decide) : (n : Int).natAbs < 2 ^ 8000 := Nat.lt_of_le_of_lt (show (n : Int).natAbs ≤ 100 by omega) (Nat.lt_of_lt_of_le (show 100 < 2 ^ 20 by decide) (Nat.pow_le_pow_right (by decide) (by decide)))
set_option maxHeartbeats 64000000 in
theorem df_free (T : Top K mg "_law_free" sFree ["_law_src", "_law_deep"]) (m1 : mg "range" = none) (m2 : mg "tuple" = none) (d1 : Df P w K mg base "_law_draw" Wdraw 1) (d2 : Df P w K mg base "_law_of" WofA 2) (d3 : Df P w K mg base "_law_word" Wword 3) (d4 : Df P w K mg base "_law_share" Wshare 3) : ∀ n, n ≤ 3 → Df P w K mg base "_law_free" (Wfree n) (n + 4) := by
  refine all_n fun n ih hn => ?_
  refine T.df (k := n + 3) scFree (fun _ _ ⟨h, _⟩ => by rw [h]; rfl) fun f cdv A outer s H E hr hnd ds Po' hw hl => ?_
  obtain ⟨rfl, hP⟩ := hw
  have hX : (cxOf CX0 P w K mg base nFree "_law_free" (defScope sFree) f cdv A outer s H E).nox.N = nFree := rfl
  have c1 : CallOk (cxOf CX0 P w K mg base nFree "_law_free" (defScope sFree) f cdv A outer s H E).nox "_law_draw" Wdraw := d1.call hr (by omega)
  have c2 : CallOk (cxOf CX0 P w K mg base nFree "_law_free" (defScope sFree) f cdv A outer s H E).nox "_law_of" WofA := d2.call hr (by omega)
  have c3 : CallOk (cxOf CX0 P w K mg base nFree "_law_free" (defScope sFree) f cdv A outer s H E).nox "_law_word" Wword := d3.call hr (by omega)
  have c4 : CallOk (cxOf CX0 P w K mg base nFree "_law_free" (defScope sFree) f cdv A outer s H E).nox "_law_share" Wshare := d4.call hr (by omega)
  have c5 : ∀ m, n = m + 1 → CallOk (cxOf CX0 P w K mg base nFree "_law_free" (defScope sFree) f cdv A outer s H E).nox "_law_free" (Wfree m) := fun m e => (ih m e (by omega)).call hr (by omega)
  show SX _ (_ :: _) [_, _, _, _, _, _, _] _
  wtm_at "st"
  refine s_set 2 hX hnd (by with_reducible rfl) (by wtm_at "loc") ?_
  refine ex_bin od_catL ?_
  refine ex_lc (own := oFree) (js := [6]) rfl hnd (blkOk_by (N := nFree) (sc := defScope sFree) (by decide +kernel)) (fun _ _ _ _ _ => pg_name (i := 6) hnd rfl (Or.inl rfl)) (tg_name 6) (by decide) (by decide) [.is .src, .is (.int (n : Int)), .no, .no, .no, .no, .no] rfl ?_
  refine wx_range (by assumption) (by rfl) ?_
  repeat wtm_at "go"
  refine ⟨by decide, by decide, by rw [rangeD_len]; decide, fun i es => ∃ zs : List Str, zs.length = i ∧ es = zs.map D.str, ⟨[], rfl, rfl⟩, fun i d es hd ha => ?_, fun es ha => ?_⟩
  · have ei := range_int' hd
    subst ei
    obtain ⟨zs, hl, rfl⟩ := ha
    show EB _ _ _ _ _
    intro s0 H0 C cl fp
    repeat wtm_at "go"
    exact ⟨8, rfl, by decide, by decide, fun z hz => ⟨zs ++ [z], by rw [List.length_append, hl]; rfl, by rw [List.map_append]; rfl⟩⟩
  obtain ⟨zs, hl, rfl⟩ := ha
  rw [rangeD_len] at hl
  obtain ⟨z0, z1, z2, rfl⟩ : ∃ a b c, zs = [a, b, c] := by
    match zs, hl with
    | [a, b, c], _ => exact ⟨a, b, c, rfl⟩
  repeat wtm_at "go"
  refine ⟨_, _, rfl, rfl, (show 4 ≤ sizeLine by decide), ?_⟩
  have ok4 : ∀ Q : D → Prop, (∀ d, Q d) → WofA [.src, .lst [.str z0, .str z1, .str z2, .str "sum"]] Q := fun Q h => .inl ⟨_, rfl, by simp, by simp, fun d _ => h d⟩
  have step : ∀ way : Int, 0 ≤ way → way < 11 → (6 ≤ way → 0 < n) → SX (cxOf CX0 P w K mg base nFree "_law_free" (defScope sFree) f cdv A outer s H E).nox ((defBody sFree).drop 2) [.is .src, .is (.int (n : Int)), .is (.lst [.str z0, .str z1, .str z2, .str "sum"]), .is (.int way), .no, .no, .no] { nx := fun _ => Po' .non, rt := Po' } := fun way w0 w11 wn => by
    show SX _ (_ :: _) [_, _, _, _, _, _, _] _
    repeat wtm_at "go"
    refine if_dec (fun e => ?_) fun e0 => ?_
    · repeat wtm_at "go"
      refine ⟨1000000, by rw [show ((10 : Int) ^ (6 : Int).toNat) = ((1000000 : Nat) : Int) by decide], by decide, by decide, fun x y => ?_⟩
      repeat wtm_at "go"
      refine .inl ⟨_, rfl, by simp, by simp, fun d hd => ?_⟩
      obtain ⟨a, b, rfl⟩ : ∃ a b, d = .tup [.int a, .int b] := by
        simp only [List.mem_cons, List.not_mem_nil, or_false] at hd
        rcases hd with rfl | rfl | rfl | rfl | rfl <;> exact ⟨_, _, rfl⟩
      repeat wtm_at "go"
      exact hP _ _ _ _ (Msr.leaf (leafOf ⟨by decide, by decide, by decide, by decide⟩ (by decide)))
    repeat wtm_at "go"
    refine if_dec (fun e => ?_) fun e1 => ?_
    · repeat wtm_at "go"
      refine ok4 _ fun d => ?_
      repeat wtm_at "go"
      refine ex_lc (own := oFree) (js := [6]) rfl hnd (blkOk_by (N := nFree) (sc := defScope sFree) (by decide +kernel)) (fun _ _ _ _ _ => pg_name (i := 6) hnd rfl (Or.inl rfl)) (tg_name 6) (by decide) (by decide) [.is .src, .is (.int (n : Int)), .is (.lst [.str z0, .str z1, .str z2, .str "sum"]), .is (.int way), .no, .no, .no] rfl ?_
      refine wx_range (by assumption) (by rfl) ?_
      repeat wtm_at "go"
      refine ⟨3, rfl, by decide, small3 (n := 3), fun j j1 j2 => ?_⟩
      repeat wtm_at "go"
      refine ⟨by omega, by omega, by rw [rangeD_len]; omega, fun i es => True, trivial, fun i d es hd ha => ?_, fun es ha => ?_⟩
      · have ei := range_int' hd
        subst ei
        show EB _ _ _ _ _
        intro s0 H0 C cl fp
        repeat wtm_at "go"
        exact ok4 _ fun _ => trivial
      repeat wtm_at "go"
      exact hP _ _ _ _ (Msr.leaf ⟨"trait", _, rfl, ⟨by decide, by decide, by decide, by decide⟩, rfl, rfl, .inl ⟨rfl, rfl⟩⟩)
    repeat wtm_at "go"
    refine if_dec (fun e => ?_) fun e2 => ?_
    · repeat wtm_at "go"
      exact hP _ _ _ _ (Msr.leaf (leafOf ⟨by decide, by decide, by decide, by decide⟩ (by decide)))
    repeat wtm_at "go"
    refine if_dec (fun e => ?_) fun e3 => ?_
    · repeat wtm_at "go"
      refine ⟨4, rfl, by decide, small3 (n := 4), fun j j1 j2 => ?_⟩
      repeat wtm_at "go"
      exact hP _ _ _ _ (Msr.leaf (leafOf ⟨by decide, by decide, by decide, by decide⟩ (by decide)))
    repeat wtm_at "go"
    refine if_dec (fun e => ?_) fun e5 => ?_
    · repeat wtm_at "go"
      refine .inl ⟨_, rfl, by simp, by simp, fun d hd => ?_⟩
      obtain ⟨k, rfl, hk, hk2⟩ : ∃ k : Str, d = .str k ∧ inK k ∧ k ≠ "trait" := by
        simp only [List.mem_cons, List.not_mem_nil, or_false] at hd
        rcases hd with rfl | rfl
        · exact ⟨_, rfl, ⟨by decide, by decide, by decide, by decide⟩, by decide⟩
        · exact ⟨_, rfl, ⟨by decide, by decide, by decide, by decide⟩, by decide⟩
      repeat wtm_at "go"
      refine ok4 _ fun d => ?_
      repeat wtm_at "go"
      exact hP _ _ _ _ (Msr.leaf (leafOf hk hk2))
    obtain ⟨m, hm⟩ : ∃ m, n = m + 1 := ⟨n - 1, by have := wn (by omega); omega⟩
    have c6 := c5 m hm
    have en : ((n : Nat) : Int) - 1 = (m : Int) := by omega
    subst hm
    repeat wtm_at "go"
    refine if_dec (fun e => ?_) fun e6 => ?_
    · repeat wtm_at "go"
      refine ok4 _ fun d => ?_
      repeat wtm_at "go"
      refine ⟨by rw [en], fun d2 w2 g2 p2 h2 => ?_⟩
      repeat wtm_at "go"
      exact hP _ _ _ _ (.inr (.inl ⟨d, d2, w2, rfl, h2, rfl⟩))
    repeat wtm_at "go"
    refine if_dec (fun e => ?_) fun e7 => ?_
    · repeat wtm_at "go"
      refine ⟨by rw [en], fun d2 w2 g2 p2 h2 => ?_⟩
      repeat wtm_at "go"
      refine ⟨5, rfl, by decide, small3 (n := 5), fun j j1 j2 => ?_⟩
      repeat wtm_at "go"
      obtain ⟨k, rfl⟩ : ∃ k : Nat, j = (k : Int) := ⟨j.toNat, by omega⟩
      exact hP _ _ _ _ (.inr (.inr (.inl ⟨d2, k, w2, g2, p2, rfl, by omega, h2, rfl, rfl, rfl⟩)))
    repeat wtm_at "go"
    refine ⟨3, rfl, by decide, small3 (n := 3), fun j j1 j2 => ?_⟩
    repeat wtm_at "go"
    refine .inl ⟨_, rfl, by simp, by simp, fun d hd => ?_⟩
    obtain ⟨k, rfl, hk⟩ : ∃ k : Str, d = .str k ∧ (k = "plus" ∨ k = "times") := by
      simp only [List.mem_cons, List.not_mem_nil, or_false] at hd
      rcases hd with rfl | rfl
      · exact ⟨_, rfl, .inl rfl⟩
      · exact ⟨_, rfl, .inr rfl⟩
    repeat wtm_at "go"
    refine ex_lc (own := oFree) (js := [6]) rfl hnd (blkOk_by (N := nFree) (sc := defScope sFree) (by decide +kernel)) (fun _ _ _ _ _ => pg_name (i := 6) hnd rfl (Or.inl rfl)) (tg_name 6) (by decide) (by decide) [.is .src, .is (.int ((m + 1 : Nat) : Int)), .is (.lst [.str z0, .str z1, .str z2, .str "sum"]), .is (.int way), .no, .is (.int (2 + j)), .no] rfl ?_
    refine wx_range (by assumption) (by rfl) ?_
    repeat wtm_at "go"
    refine ⟨by omega, by omega, by rw [rangeD_len]; omega, fun i es => ∃ ms : List Pt, ms.length = i ∧ es = ms.map (·.d) ∧ ∀ x ∈ ms, Msr m x.d x.w x.g x.p, ⟨[], rfl, rfl, by simp⟩, fun i d es hd ha => ?_, fun es ha => ?_⟩
    · have ei := range_int' hd
      subst ei
      obtain ⟨ms, hl, rfl, hms⟩ := ha
      show EB _ _ _ _ _
      intro s0 H0 C cl fp
      repeat wtm_at "go"
      refine ⟨by rw [en], fun d2 w2 g2 p2 h2 => ?_⟩
      refine ⟨ms ++ [⟨d2, w2, g2, p2⟩], by rw [List.length_append, hl]; rfl, by rw [List.map_append]; rfl, fun x hx => ?_⟩
      rcases List.mem_append.mp hx with hx | hx
      · exact hms x hx
      · rw [List.mem_singleton.mp hx]; exact h2
    obtain ⟨ms, hl, rfl, hms⟩ := ha
    rw [rangeD_len] at hl
    repeat wtm_at "go"
    refine o_addt (Nat.le_trans (show _ ≤ 100 by rw [List.length_map]; show 1 + ms.length ≤ 100; omega) (by decide)) ?_
    show Po' (.tup (.str k :: ms.map (·.d)))
    rcases hk with rfl | rfl
    · exact hP _ _ _ _ (.inr (.inr (.inr ⟨ms, by omega, by omega, hms, .inl ⟨rfl, rfl, rfl, rfl⟩⟩)))
    · exact hP _ _ _ _ (.inr (.inr (.inr ⟨ms, by omega, by omega, hms, .inr ⟨rfl, rfl, rfl, rfl⟩⟩)))
  show SX _ (_ :: _) [.is .src, .is (.int (n : Int)), .is (.lst [.str z0, .str z1, .str z2, .str "sum"]), .no, .no, .no, .no] _
  wtm_at "st"
  repeat wtm_at "go"
  refine if_dec (fun h => ?_) fun h => ?_
  · repeat wtm_at "go"
    exact ⟨11, rfl, by decide, small3 (n := 11), fun k k1 k2 => step k k1 k2 fun _ => by omega⟩
  · repeat wtm_at "go"
    exact ⟨6, rfl, by decide, small3 (n := 6), fun k k1 k2 => step k k1 (by omega) fun h6 => by omega⟩
end
abbrev sLaw : Stmt := topS 22
abbrev nLaw : List Str := ["_law_script", "_law_src", "_law_turn", "_law_program7", "_law_told"]
theorem scLaw : FnScope nLaw ["_law_script"] (defScope sLaw) := ⟨rfl, rfl, rfl, by decide +kernel, rfl, by decide +kernel, by decide +kernel⟩
abbrev XL (P : Program) (w : World) (K : PySem.W.Frag) (mg : Str → Option Value) (base : Heap) (f : Addr) (cdv : Value) (A : Around) (outer : List Env) (s : Shared) (H : Hp) (Ex : XK) : Cx := (cxOf CX0 P w K mg base nLaw "law" (defScope sLaw) f cdv A outer s H Ex).nox
def forBody : Stmt → List Stmt
  | .For _ _ b _ _ => b
  | _ => []
theorem Df.callK {X : Cx} {x : Str} {st : Stmt} {ps ks : List Str} {W : WA} {k j np : Nat} (d : Df X.prog X.w X.K X.mg X.base x W j) (T : Top X.K X.mg x st ps) (hr : Room k X.A) (hj : j ≤ k) (hps : (defArgs st).args.map (·.arg) = ps) (hl : ps.length = np + ks.length)
    (h : ∀ (kV doc pm : Value) (an : Option Addr) (cdv ct : Value) (us ws : List Value), us.length = np → ws.length = ks.length → bindArgs (PySem.W.fnOf x x (defArgs st) (defBody st) (defScope st) .none kV doc pm an cdv ct) ⟨us, ks.zip ws⟩ = pure (ps.zip (us ++ ws))) :
    CallOkK X x np ks fun ds es P => ds.length = np ∧ es.length = ks.length ∧ W (ds ++ es) P := by
  obtain ⟨f, fd, ps', n, F, hm, hk, hb, ha, hp, hn⟩ := d.ex
  obtain ⟨f', fd', F', hm', hb'⟩ := T.ex
  have ef : f = f' := by
    have := hm.symm.trans hm'
    injection this with this
    injection this
  subst ef
  have efd := ha.eq F'.at
  subst efd
  obtain ⟨oc, od, kV, doc, pm, an, cdv, ct, osl, rfl, lk, hcd⟩ := F'.ex
  have e2 : ps = ps' := hps.symm.trans hp
  subst e2
  refine ⟨_, f, _, ps, n, W, fun us ws => us ++ ws, fun vs zs => vs ++ zs, fun ds es => ds ++ es, F, hr.mono hj, hm, hk, ⟨fun s us ws _ l1 l2 => .of_eq (h kV doc pm an cdv ct us ws l1 l2), fun r1 r2 => r1.append r2⟩, fun S M H vs zs ds es r1 r2 _ _ => r1.append r2, fun ds es P hh => ⟨hh.1, hh.2.1, hn _ _ hh.2.2, hh.2.2⟩⟩

structure LE (X : Cx) : Prop where
  free : CallOk X "_law_free" (Wfree 3)
  draw : CallOk X "_law_draw" Wdraw
  same : CallOk X "_law_same" (Wsame 1)
  wid : CallOk X "width_of" (Ww 6)
  deg : CallOk X "degree_of" (Wg 6)
  pro : CallOk X "products_of" (Wp 6)
  widK : CallOkK X "width_of" 0 ["program"] fun ds es P => ds.length = 0 ∧ es.length = 1 ∧ (Ww 6) (ds ++ es) P
  degK : CallOkK X "degree_of" 0 ["program"] fun ds es P => ds.length = 0 ∧ es.length = 1 ∧ (Wg 6) (ds ++ es) P
  proK : CallOkK X "products_of" 0 ["program"] fun ds es P => ds.length = 0 ∧ es.length = 1 ∧ (Wp 6) (ds ++ es) P
  wide : CallOk X "_law_wide" (Ww 6)
  degL : CallOk X "_law_degree" (Wg 6)
  proL : CallOk X "_law_products" (Wp 6)
  mrange : X.mg "range" = none
section
variable {P : Program} {w : World} {K : PySem.W.Frag} {mg : Str → Option Value} {base : Heap} {f : Addr} {cdv : Value} {A : Around} {outer : List Env} {s : Shared} {H : Hp} {Ex : XK}
theorem same3 {a b c : Nat} {Q : D → Prop} (h : Q (.bl true)) : Wsame 1 [.lst [.int (a : Int), .int (b : Int), .int (c : Int)], .lst [.int (a : Int), .int (b : Int), .int (c : Int)]] Q :=
  ⟨_, rfl, by simp [shp], h⟩
set_option maxHeartbeats 64000000 in
theorem law_body (e : LE (XL P w K mg base f cdv A outer s H Ex)) : SX (XL P w K mg base f cdv A outer s H Ex) ((defBody sLaw).drop 1) [.no, .is .src, .no, .no, .no] { nx := fun _ => False, rt := fun d => d = .bl true } := by
  obtain ⟨c1, c2, c3, c4, c5, c6, c7, c8, c9, c10, c11, c12, m1⟩ := e
  have hX : (XL P w K mg base f cdv A outer s H Ex).N = nLaw := rfl
  have hnd : nLaw.Nodup := scLaw.nd
  show SX _ (_ :: _) _ _
  wtm_at "st"
  refine s_for .never rfl (pg_name (i := 2) hnd rfl (Or.inl rfl)) (tg_name 2) ?_
  refine wx_range (by assumption) (by rfl) ?_
  repeat wtm_at "go"
  refine ⟨by decide, by decide, fun _ Γ => Γ = [.no, .is .src, .no, .no, .no], rfl, ?_, ?_⟩
  · rintro i d Γ hd rfl
    have ei := range_int' hd
    subst ei
    show SX _ (_ :: _) [_, _, _, _, _] _
    repeat wtm_at "go"
    refine ⟨rfl, fun d w1 g1 p1 hm => ?_⟩
    repeat wtm_at "go"
    refine ⟨3, rfl, by decide, small3 (n := 3), fun j j1 j2 => ?_⟩
    repeat wtm_at "go"
    refine if_dec (fun h => ?_) fun h => ?_
    · repeat wtm_at "go"
      refine ⟨5, rfl, by decide, small3 (n := 5), fun q q1 q2 => ?_⟩
      obtain ⟨k, rfl⟩ : ∃ k : Nat, q = (k : Int) := ⟨q.toNat, by omega⟩
      have h4 : Msr 4 (.tup [.str "power", d, .int (k : Int)]) (k * w1) (k * g1) (p1 ^ k) := .inr (.inr (.inl ⟨d, k, w1, g1, p1, rfl, by omega, hm, rfl, rfl, rfl⟩))
      have h5 : Msr 5 (.tup [.str "sum", .str "i", .tup [.str "power", d, .int (k : Int)]]) (k * w1 + 1) (k * g1) (p1 ^ k) := .inr (.inl ⟨_, _, _, rfl, h4, rfl⟩)
      have h6 : Msr 6 (.tup [.str "times", d, .tup [.str "sum", .str "i", .tup [.str "power", d, .int (k : Int)]]]) _ _ _ := .inr (.inr (.inr ⟨[⟨d, w1, g1, p1⟩, ⟨_, k * w1 + 1, k * g1, p1 ^ k⟩], by simp, by simp, fun x hx => by
        rcases List.mem_cons.mp hx with rfl | hx
        · exact hm.add 2
        · rw [List.mem_singleton.mp hx]; exact h5, .inr ⟨rfl, rfl, rfl, rfl⟩⟩))
      repeat wtm_at "go"
      refine ⟨_, _, _, _, rfl, h6, ?_⟩
      repeat wtm_at "go"
      refine ⟨_, _, _, _, rfl, h6, ?_⟩
      repeat wtm_at "go"
      refine ⟨_, _, _, _, rfl, h6, ?_⟩
      repeat wtm_at "go"
      refine ⟨_, _, _, _, rfl, h6, ?_⟩
      repeat wtm_at "go"
      refine ⟨_, _, _, _, rfl, h6, ?_⟩
      repeat wtm_at "go"
      refine ⟨_, _, _, _, rfl, h6, ?_⟩
      repeat wtm_at "go"
      refine same3 ?_
      repeat wtm_at "go"
      refine ⟨rfl, rfl, _, _, _, _, rfl, h6, ?_⟩
      repeat wtm_at "go"
      refine ⟨rfl, rfl, _, _, _, _, rfl, h6, ?_⟩
      repeat wtm_at "go"
      refine ⟨rfl, rfl, _, _, _, _, rfl, h6, ?_⟩
      repeat wtm_at "go"
      refine same3 ?_
      repeat wtm_at "go"
      exact ⟨[.no, .is .src, .no, .no, .no], ⟨.refl _, .refl _, .no _, .no _, .no _, trivial⟩, rfl⟩
    · repeat wtm_at "go"
      have h6 : Msr 6 d w1 g1 p1 := hm.add 3
      refine ⟨_, _, _, _, rfl, h6, ?_⟩
      repeat wtm_at "go"
      refine ⟨_, _, _, _, rfl, h6, ?_⟩
      repeat wtm_at "go"
      refine ⟨_, _, _, _, rfl, h6, ?_⟩
      repeat wtm_at "go"
      refine ⟨_, _, _, _, rfl, h6, ?_⟩
      repeat wtm_at "go"
      refine ⟨_, _, _, _, rfl, h6, ?_⟩
      repeat wtm_at "go"
      refine ⟨_, _, _, _, rfl, h6, ?_⟩
      repeat wtm_at "go"
      refine same3 ?_
      repeat wtm_at "go"
      refine ⟨rfl, rfl, _, _, _, _, rfl, h6, ?_⟩
      repeat wtm_at "go"
      refine ⟨rfl, rfl, _, _, _, _, rfl, h6, ?_⟩
      repeat wtm_at "go"
      refine ⟨rfl, rfl, _, _, _, _, rfl, h6, ?_⟩
      repeat wtm_at "go"
      refine same3 ?_
      repeat wtm_at "go"
      exact ⟨[.no, .is .src, .no, .no, .no], ⟨.refl _, .refl _, .no _, .no _, .no _, trivial⟩, rfl⟩
  · rintro Γ rfl
    show SX _ (_ :: _) _ _
    repeat wtm_at "go"
    exact rfl
end
/-! ### the law itself, and what the top leaves -/
def spLaw (K : PySem.W.Frag) : Sp := fun vs H Q _ => ∃ (a : Addr) (ns : List Int), vs = [.ref a] ∧ SqL K H a (ns.map V.int) ∧ ns.length ≤ 63 ∧ ∀ H', Q (.bl true) H'
structure Env11 (K : PySem.W.Frag) (mg : Str → Option Value) : Prop where
  t1 : Top K mg "raised" sRaised ["number", "count"]
  t2 : Top K mg "parts_of" sParts ["program"]
  t3 : Top K mg "added_measure" sAdded ["program", "of_trait", "of_sum"]
  t4 : Top K mg "width_of" sWidth ["program"]
  t5 : Top K mg "degree_of" sDegree ["program"]
  t6 : Top K mg "products_of" sProducts ["program"]
  t7 : Top K mg "_law_source" sSource ["_law_script"]
  t8 : Top K mg "_law_draw" sDraw ["_law_src", "_law_many7"]
  t9 : Top K mg "_law_of" sOf ["_law_src", "_law_things7"]
  t10 : Top K mg "_law_word" sWord ["_law_src", "_law_most"]
  t11 : Top K mg "_law_same" sSame ["_law_found", "_law_due"]
  t12 : Top K mg "_law_common" sCommon ["_law_one", "_law_two"]
  t13 : Top K mg "_law_low" sLow ["_law_high7", "_law_under"]
  t14 : Top K mg "_law_share" sShare ["_law_src", "_law_most"]
  t15 : Top K mg "_law_inner" sInner ["_law_program"]
  t16 : Top K mg "_law_wide" sWide ["_law_program"]
  t17 : Top K mg "_law_degree" sDegreeL ["_law_program"]
  t18 : Top K mg "_law_products" sProductsL ["_law_program"]
  t19 : Top K mg "_law_free" sFree ["_law_src", "_law_deep"]
  n1 : mg "range" = none
  n2 : mg "list" = none
  n3 : mg "str" = none
  n4 : mg "isinstance" = none
  n5 : mg "tuple" = none
  n6 : mg "len" = none
  n7 : mg "all" = none
  n8 : mg "int" = none
  n9 : mg "bool" = none
  n10 : mg "abs" = none
  n11 : mg "zip" = none
  n12 : mg "max" = none
  n13 : mg "sum" = none
section
variable {P : Program} {w : World} {K : PySem.W.Frag} {mg : Str → Option Value} {base : Heap}
theorem df_draw' (T : Top K mg "_law_draw" sDraw ["_law_src", "_law_many7"]) (ml : mg "len" = none) (mi : mg "int" = none) : Df P w K mg base "_law_draw" Wdraw 1 := df_draw T ml mi
theorem ok_law (e : Env11 K mg) {f : Addr} {fd : FuncData} (F : Fun K "law" "law" sLaw f fd) : FnOk P w K mg base CX0 10 f fd ["_law_script"] (spLaw K) := by
  have d1 := df_raised (P := P) (w := w) (base := base) e.t1 e.n1
  have d2 := df_parts (P := P) (w := w) (base := base) e.t2
  have d3 := df_added (P := P) (w := w) (base := base) e.t3 e.n12 e.n13 d2 6 (by decide)
  have d4 := df_width (P := P) (w := w) (base := base) e.t4 d3
  have d5 := df_degree (P := P) (w := w) (base := base) e.t5 d3
  have d6 := df_products (P := P) (w := w) (base := base) e.t6 e.n13 d2 d1 6 (by decide)
  have d8 := df_draw (P := P) (w := w) (base := base) e.t8 e.n6 e.n8
  have d9 := df_ofA (P := P) (w := w) (base := base) e.t9 e.n6 d8
  have d10 := df_word (P := P) (w := w) (base := base) e.t10 e.n1 d8 d9
  have d11 := df_same (P := P) (w := w) (base := base) e.t11 e.n4 e.n2 e.n5 e.n6 e.n7 e.n11 e.n9 e.n8 e.n3 1
  have d12 := df_common (P := P) (w := w) (base := base) e.t12 e.n10 e.n8
  have d13 := df_low (P := P) (w := w) (base := base) e.t13 d12
  have d14 := df_share (P := P) (w := w) (base := base) e.t14 d8 d9 d13
  have d15 := df_inner (P := P) (w := w) (base := base) e.t15 e.n2
  have d16 := df_Wide (P := P) (w := w) (base := base) e.t16 e.n12 e.n13 d15 6 (by decide)
  have d17 := df_DegreeL (P := P) (w := w) (base := base) e.t17 e.n12 e.n13 d15 6 (by decide)
  have d18 := df_productsL (P := P) (w := w) (base := base) e.t18 e.n13 d15 6 (by decide)
  have d19 := df_free (P := P) (w := w) (base := base) e.t19 e.n1 e.n5 d8 d9 d10 d14 3 (by decide)
  obtain ⟨fS, fdS, FS, hmS, hbS⟩ := e.t7.ex
  have GS : FnOk P w K mg base CX0 1 fS fdS ["_law_script"] (spSource K) := ok_source FS e.n2
  refine F.ok scLaw (fun vs H Q E h => by obtain ⟨a, ns, rfl, _⟩ := h; rfl) (fun cdv A outer s H vs Q Ex hr h => ?_)
  obtain ⟨a, ns, rfl, hS, hlen, q⟩ := h
  have le : LE (XL P w K mg base f cdv A outer s H Ex) := ⟨d19.call hr, d8.call hr, d11.call hr, d4.call hr, d5.call hr, d6.call hr,
    d4.callK e.t4 hr (by decide) rfl rfl (fun _ _ _ _ _ _ us ws l1 l2 => match us, ws, l1, l2 with | [], [_], _, _ => rfl), d5.callK e.t5 hr (by decide) rfl rfl (fun _ _ _ _ _ _ us ws l1 l2 => match us, ws, l1, l2 with | [], [_], _, _ => rfl), d6.callK e.t6 hr (by decide) rfl rfl (fun _ _ _ _ _ _ us ws l1 l2 => match us, ws, l1, l2 with | [], [_], _, _ => rfl),
    d16.call hr, d17.call hr, d18.call hr, e.n1⟩
  refine ⟨_, pss_cons (ps_set (i := 1) scLaw.nd rfl (.inl rfl) (pe_call GS (hr.mono (by decide)) (by rfl) hmS FS.kp hbS .nil pass0 (pa_cons (pv 0) pa_nil))) pss_sem, ?_⟩
  refine ⟨.ref a, rfl, a, ns, rfl, hS, hlen, fun p l ms H' same np nl ne hp hl => ?_⟩
  have src : SrcOk K ⟨p, l⟩ H' := ⟨0, 0, 12023, 0, ms, hp, hl, by decide, by decide, by decide, by decide, by decide⟩
  have st : StOk K ⟨p, l⟩ [p] [] H' H' ((L2.start nLaw [.ref a]).set 1 (some (.ref p))) [.no, .is .src, .no, .no, .no] := {
    len := rfl
    ent := fun i g hg => by
      match i, hg with
      | 0, hg => cases hg; exact ⟨_, rfl, trivial⟩
      | 1, hg => cases hg; exact ⟨_, rfl, .ref p, rfl, .src src (by simp)⟩
      | 2, hg => cases hg; exact ⟨_, rfl, trivial⟩
      | 3, hg => cases hg; exact ⟨_, rfl, trivial⟩
      | 4, hg => cases hg; exact ⟨_, rfl, trivial⟩
      | _ + 5, hg => exact absurd hg (by simp)
    ext := .refl
    live0 := ⟨⟨_, hp⟩, ⟨_, hl⟩, ne⟩
    mem := by simp
    bl := fun m hm => by
      have : m = p := by simpa using hm
      rw [this]; exact ⟨_, hp⟩
    nd := List.nodup_nil
    out := fun _ h => absurd h (by simp)
    new := fun _ h => absurd h (by simp)
    liv := fun _ h => absurd h (by simp) }
  refine law_body le _ _ _ _ _ _ st _ ⟨fun O' H1 σ Γ _ _ z => False.elim z, fun v d H1 _ r z => ?_, fun _ _ _ _ _ _ z => False.elim z, fun _ _ _ _ _ _ z => False.elim z⟩
  have z' : d = .bl true := z
  subst z'
  cases r
  exact q H1
end
theorem top_mk {K : PySem.W.Frag} {mg : Str → Option Value} {h : Heap} {x : Str} {st : Stmt} {ps : List Str} {f : Addr} {oc : Value} {od an : Option Addr} {osl : Array (Option Value)} {kV doc pm cdv ct : Value} (X : K.In h) (G : h.Ns mainGlobals mg) (a : PySem.W.nsIn K mainGlobals x = some (some (.ref f)))
    (l : K.lookup f = some ⟨oc, od, .func (PySem.W.fnOf x x (defArgs st) (defBody st) (defScope st) .none kV doc pm an cdv ct), osl⟩) (c : PySem.W.codeIn K cdv x = true) (k : PySem.W.keepIn K (.ref f) = true)
    (hb : ∀ (kV doc pm : Value) (an : Option Addr) (cdv ct : Value) (us : List Value), us.length = ps.length → bindArgs (PySem.W.fnOf x x (defArgs st) (defBody st) (defScope st) .none kV doc pm an cdv ct) ⟨us, []⟩ = pure (ps.zip us)) : Top K mg x st ps := by
  have F := fun_mk (st := st) l c k
  exact ⟨f, _, F, PySem.W.mg_of X G a, F.binds hb⟩
set_option maxHeartbeats 16000000 in
theorem all_mk {l : PySem.W.OpenLaw} {w : World} {K : PySem.W.Frag} {h : Heap} {mg : Str → Option Value} {fa : Addr} (X : K.In h) (G : h.Ns mainGlobals mg) (hfa : mg "law" = some (.ref fa))
    {od1 an1 : Option Addr} {sl1 : Array (Option Value)} {oc1 kV1 dc1 pm1 cd1 ct1 : Value} {f1 : Addr}
    (a1 : PySem.W.nsIn K mainGlobals "raised" = some (some (.ref f1))) (l1 : K.lookup f1 = some ⟨oc1, od1, .func (PySem.W.fnOf "raised" "raised" (defArgs sRaised) (defBody sRaised) (defScope sRaised) .none kV1 dc1 pm1 an1 cd1 ct1), sl1⟩) (c1 : PySem.W.codeIn K cd1 "raised" = true) (k1 : PySem.W.keepIn K (.ref f1) = true)
    {od2 an2 : Option Addr} {sl2 : Array (Option Value)} {oc2 kV2 dc2 pm2 cd2 ct2 : Value} {f2 : Addr}
    (a2 : PySem.W.nsIn K mainGlobals "parts_of" = some (some (.ref f2))) (l2 : K.lookup f2 = some ⟨oc2, od2, .func (PySem.W.fnOf "parts_of" "parts_of" (defArgs sParts) (defBody sParts) (defScope sParts) .none kV2 dc2 pm2 an2 cd2 ct2), sl2⟩) (c2 : PySem.W.codeIn K cd2 "parts_of" = true) (k2 : PySem.W.keepIn K (.ref f2) = true)
    {od3 an3 : Option Addr} {sl3 : Array (Option Value)} {oc3 kV3 dc3 pm3 cd3 ct3 : Value} {f3 : Addr}
    (a3 : PySem.W.nsIn K mainGlobals "added_measure" = some (some (.ref f3))) (l3 : K.lookup f3 = some ⟨oc3, od3, .func (PySem.W.fnOf "added_measure" "added_measure" (defArgs sAdded) (defBody sAdded) (defScope sAdded) .none kV3 dc3 pm3 an3 cd3 ct3), sl3⟩) (c3 : PySem.W.codeIn K cd3 "added_measure" = true) (k3 : PySem.W.keepIn K (.ref f3) = true)
    {od4 an4 : Option Addr} {sl4 : Array (Option Value)} {oc4 kV4 dc4 pm4 cd4 ct4 : Value} {f4 : Addr}
    (a4 : PySem.W.nsIn K mainGlobals "width_of" = some (some (.ref f4))) (l4 : K.lookup f4 = some ⟨oc4, od4, .func (PySem.W.fnOf "width_of" "width_of" (defArgs sWidth) (defBody sWidth) (defScope sWidth) .none kV4 dc4 pm4 an4 cd4 ct4), sl4⟩) (c4 : PySem.W.codeIn K cd4 "width_of" = true) (k4 : PySem.W.keepIn K (.ref f4) = true)
    {od5 an5 : Option Addr} {sl5 : Array (Option Value)} {oc5 kV5 dc5 pm5 cd5 ct5 : Value} {f5 : Addr}
    (a5 : PySem.W.nsIn K mainGlobals "degree_of" = some (some (.ref f5))) (l5 : K.lookup f5 = some ⟨oc5, od5, .func (PySem.W.fnOf "degree_of" "degree_of" (defArgs sDegree) (defBody sDegree) (defScope sDegree) .none kV5 dc5 pm5 an5 cd5 ct5), sl5⟩) (c5 : PySem.W.codeIn K cd5 "degree_of" = true) (k5 : PySem.W.keepIn K (.ref f5) = true)
    {od6 an6 : Option Addr} {sl6 : Array (Option Value)} {oc6 kV6 dc6 pm6 cd6 ct6 : Value} {f6 : Addr}
    (a6 : PySem.W.nsIn K mainGlobals "products_of" = some (some (.ref f6))) (l6 : K.lookup f6 = some ⟨oc6, od6, .func (PySem.W.fnOf "products_of" "products_of" (defArgs sProducts) (defBody sProducts) (defScope sProducts) .none kV6 dc6 pm6 an6 cd6 ct6), sl6⟩) (c6 : PySem.W.codeIn K cd6 "products_of" = true) (k6 : PySem.W.keepIn K (.ref f6) = true)
    {od7 an7 : Option Addr} {sl7 : Array (Option Value)} {oc7 kV7 dc7 pm7 cd7 ct7 : Value} {f7 : Addr}
    (a7 : PySem.W.nsIn K mainGlobals "_law_source" = some (some (.ref f7))) (l7 : K.lookup f7 = some ⟨oc7, od7, .func (PySem.W.fnOf "_law_source" "_law_source" (defArgs sSource) (defBody sSource) (defScope sSource) .none kV7 dc7 pm7 an7 cd7 ct7), sl7⟩) (c7 : PySem.W.codeIn K cd7 "_law_source" = true) (k7 : PySem.W.keepIn K (.ref f7) = true)
    {od8 an8 : Option Addr} {sl8 : Array (Option Value)} {oc8 kV8 dc8 pm8 cd8 ct8 : Value} {f8 : Addr}
    (a8 : PySem.W.nsIn K mainGlobals "_law_draw" = some (some (.ref f8))) (l8 : K.lookup f8 = some ⟨oc8, od8, .func (PySem.W.fnOf "_law_draw" "_law_draw" (defArgs sDraw) (defBody sDraw) (defScope sDraw) .none kV8 dc8 pm8 an8 cd8 ct8), sl8⟩) (c8 : PySem.W.codeIn K cd8 "_law_draw" = true) (k8 : PySem.W.keepIn K (.ref f8) = true)
    {od9 an9 : Option Addr} {sl9 : Array (Option Value)} {oc9 kV9 dc9 pm9 cd9 ct9 : Value} {f9 : Addr}
    (a9 : PySem.W.nsIn K mainGlobals "_law_of" = some (some (.ref f9))) (l9 : K.lookup f9 = some ⟨oc9, od9, .func (PySem.W.fnOf "_law_of" "_law_of" (defArgs sOf) (defBody sOf) (defScope sOf) .none kV9 dc9 pm9 an9 cd9 ct9), sl9⟩) (c9 : PySem.W.codeIn K cd9 "_law_of" = true) (k9 : PySem.W.keepIn K (.ref f9) = true)
    {od10 an10 : Option Addr} {sl10 : Array (Option Value)} {oc10 kV10 dc10 pm10 cd10 ct10 : Value} {f10 : Addr}
    (a10 : PySem.W.nsIn K mainGlobals "_law_word" = some (some (.ref f10))) (l10 : K.lookup f10 = some ⟨oc10, od10, .func (PySem.W.fnOf "_law_word" "_law_word" (defArgs sWord) (defBody sWord) (defScope sWord) .none kV10 dc10 pm10 an10 cd10 ct10), sl10⟩) (c10 : PySem.W.codeIn K cd10 "_law_word" = true) (k10 : PySem.W.keepIn K (.ref f10) = true)
    {od11 an11 : Option Addr} {sl11 : Array (Option Value)} {oc11 kV11 dc11 pm11 cd11 ct11 : Value} {f11 : Addr}
    (a11 : PySem.W.nsIn K mainGlobals "_law_same" = some (some (.ref f11))) (l11 : K.lookup f11 = some ⟨oc11, od11, .func (PySem.W.fnOf "_law_same" "_law_same" (defArgs sSame) (defBody sSame) (defScope sSame) .none kV11 dc11 pm11 an11 cd11 ct11), sl11⟩) (c11 : PySem.W.codeIn K cd11 "_law_same" = true) (k11 : PySem.W.keepIn K (.ref f11) = true)
    {od12 an12 : Option Addr} {sl12 : Array (Option Value)} {oc12 kV12 dc12 pm12 cd12 ct12 : Value} {f12 : Addr}
    (a12 : PySem.W.nsIn K mainGlobals "_law_common" = some (some (.ref f12))) (l12 : K.lookup f12 = some ⟨oc12, od12, .func (PySem.W.fnOf "_law_common" "_law_common" (defArgs sCommon) (defBody sCommon) (defScope sCommon) .none kV12 dc12 pm12 an12 cd12 ct12), sl12⟩) (c12 : PySem.W.codeIn K cd12 "_law_common" = true) (k12 : PySem.W.keepIn K (.ref f12) = true)
    {od13 an13 : Option Addr} {sl13 : Array (Option Value)} {oc13 kV13 dc13 pm13 cd13 ct13 : Value} {f13 : Addr}
    (a13 : PySem.W.nsIn K mainGlobals "_law_low" = some (some (.ref f13))) (l13 : K.lookup f13 = some ⟨oc13, od13, .func (PySem.W.fnOf "_law_low" "_law_low" (defArgs sLow) (defBody sLow) (defScope sLow) .none kV13 dc13 pm13 an13 cd13 ct13), sl13⟩) (c13 : PySem.W.codeIn K cd13 "_law_low" = true) (k13 : PySem.W.keepIn K (.ref f13) = true)
    {od14 an14 : Option Addr} {sl14 : Array (Option Value)} {oc14 kV14 dc14 pm14 cd14 ct14 : Value} {f14 : Addr}
    (a14 : PySem.W.nsIn K mainGlobals "_law_share" = some (some (.ref f14))) (l14 : K.lookup f14 = some ⟨oc14, od14, .func (PySem.W.fnOf "_law_share" "_law_share" (defArgs sShare) (defBody sShare) (defScope sShare) .none kV14 dc14 pm14 an14 cd14 ct14), sl14⟩) (c14 : PySem.W.codeIn K cd14 "_law_share" = true) (k14 : PySem.W.keepIn K (.ref f14) = true)
    {od15 an15 : Option Addr} {sl15 : Array (Option Value)} {oc15 kV15 dc15 pm15 cd15 ct15 : Value} {f15 : Addr}
    (a15 : PySem.W.nsIn K mainGlobals "_law_inner" = some (some (.ref f15))) (l15 : K.lookup f15 = some ⟨oc15, od15, .func (PySem.W.fnOf "_law_inner" "_law_inner" (defArgs sInner) (defBody sInner) (defScope sInner) .none kV15 dc15 pm15 an15 cd15 ct15), sl15⟩) (c15 : PySem.W.codeIn K cd15 "_law_inner" = true) (k15 : PySem.W.keepIn K (.ref f15) = true)
    {od16 an16 : Option Addr} {sl16 : Array (Option Value)} {oc16 kV16 dc16 pm16 cd16 ct16 : Value} {f16 : Addr}
    (a16 : PySem.W.nsIn K mainGlobals "_law_wide" = some (some (.ref f16))) (l16 : K.lookup f16 = some ⟨oc16, od16, .func (PySem.W.fnOf "_law_wide" "_law_wide" (defArgs sWide) (defBody sWide) (defScope sWide) .none kV16 dc16 pm16 an16 cd16 ct16), sl16⟩) (c16 : PySem.W.codeIn K cd16 "_law_wide" = true) (k16 : PySem.W.keepIn K (.ref f16) = true)
    {od17 an17 : Option Addr} {sl17 : Array (Option Value)} {oc17 kV17 dc17 pm17 cd17 ct17 : Value} {f17 : Addr}
    (a17 : PySem.W.nsIn K mainGlobals "_law_degree" = some (some (.ref f17))) (l17 : K.lookup f17 = some ⟨oc17, od17, .func (PySem.W.fnOf "_law_degree" "_law_degree" (defArgs sDegreeL) (defBody sDegreeL) (defScope sDegreeL) .none kV17 dc17 pm17 an17 cd17 ct17), sl17⟩) (c17 : PySem.W.codeIn K cd17 "_law_degree" = true) (k17 : PySem.W.keepIn K (.ref f17) = true)
    {od18 an18 : Option Addr} {sl18 : Array (Option Value)} {oc18 kV18 dc18 pm18 cd18 ct18 : Value} {f18 : Addr}
    (a18 : PySem.W.nsIn K mainGlobals "_law_products" = some (some (.ref f18))) (l18 : K.lookup f18 = some ⟨oc18, od18, .func (PySem.W.fnOf "_law_products" "_law_products" (defArgs sProductsL) (defBody sProductsL) (defScope sProductsL) .none kV18 dc18 pm18 an18 cd18 ct18), sl18⟩) (c18 : PySem.W.codeIn K cd18 "_law_products" = true) (k18 : PySem.W.keepIn K (.ref f18) = true)
    {od19 an19 : Option Addr} {sl19 : Array (Option Value)} {oc19 kV19 dc19 pm19 cd19 ct19 : Value} {f19 : Addr}
    (a19 : PySem.W.nsIn K mainGlobals "_law_free" = some (some (.ref f19))) (l19 : K.lookup f19 = some ⟨oc19, od19, .func (PySem.W.fnOf "_law_free" "_law_free" (defArgs sFree) (defBody sFree) (defScope sFree) .none kV19 dc19 pm19 an19 cd19 ct19), sl19⟩) (c19 : PySem.W.codeIn K cd19 "_law_free" = true) (k19 : PySem.W.keepIn K (.ref f19) = true)
    {odL anL : Option Addr} {slL : Array (Option Value)} {ocL kVL dcL pmL cdL ctL : Value} {fL : Addr}
    (aL : PySem.W.nsIn K mainGlobals "law" = some (some (.ref fL))) (lL : K.lookup fL = some ⟨ocL, odL, .func (PySem.W.fnOf "law" "law" (defArgs sLaw) (defBody sLaw) (defScope sLaw) .none kVL dcL pmL anL cdL ctL), slL⟩) (cL : PySem.W.codeIn K cdL "law" = true) (kL : PySem.W.keepIn K (.ref fL) = true)
    (z1 : PySem.W.nsIn K mainGlobals "range" = some none)
    (z2 : PySem.W.nsIn K mainGlobals "list" = some none)
    (z3 : PySem.W.nsIn K mainGlobals "str" = some none)
    (z4 : PySem.W.nsIn K mainGlobals "isinstance" = some none)
    (z5 : PySem.W.nsIn K mainGlobals "tuple" = some none)
    (z6 : PySem.W.nsIn K mainGlobals "len" = some none)
    (z7 : PySem.W.nsIn K mainGlobals "all" = some none)
    (z8 : PySem.W.nsIn K mainGlobals "int" = some none)
    (z9 : PySem.W.nsIn K mainGlobals "bool" = some none)
    (z10 : PySem.W.nsIn K mainGlobals "abs" = some none)
    (z11 : PySem.W.nsIn K mainGlobals "zip" = some none)
    (z12 : PySem.W.nsIn K mainGlobals "max" = some none)
    (z13 : PySem.W.nsIn K mainGlobals "sum" = some none)
    : ∃ fd : FuncData, (∀ (s : Shared) (v : Value), BindsTo s fd ⟨[v], []⟩ [("_law_script", v)]) ∧ ∀ base : Heap, K.In base → base.Ns mainGlobals mg → FnOk l.prog w K mg base CX0 10 fa fd ["_law_script"] (spLaw K) := by
  have e := hfa.symm.trans (PySem.W.mg_of X G aL)
  cases e
  have T1 : Top K mg "raised" sRaised ["number", "count"] := top_mk X G a1 l1 c1 k1 (fun _ _ _ _ _ _ us hl => match us, hl with | [_, _], _ => rfl)
  have T2 : Top K mg "parts_of" sParts ["program"] := top_mk X G a2 l2 c2 k2 (fun _ _ _ _ _ _ us hl => match us, hl with | [_], _ => rfl)
  have T3 : Top K mg "added_measure" sAdded ["program", "of_trait", "of_sum"] := top_mk X G a3 l3 c3 k3 (fun _ _ _ _ _ _ us hl => match us, hl with | [_, _, _], _ => rfl)
  have T4 : Top K mg "width_of" sWidth ["program"] := top_mk X G a4 l4 c4 k4 (fun _ _ _ _ _ _ us hl => match us, hl with | [_], _ => rfl)
  have T5 : Top K mg "degree_of" sDegree ["program"] := top_mk X G a5 l5 c5 k5 (fun _ _ _ _ _ _ us hl => match us, hl with | [_], _ => rfl)
  have T6 : Top K mg "products_of" sProducts ["program"] := top_mk X G a6 l6 c6 k6 (fun _ _ _ _ _ _ us hl => match us, hl with | [_], _ => rfl)
  have T7 : Top K mg "_law_source" sSource ["_law_script"] := top_mk X G a7 l7 c7 k7 (fun _ _ _ _ _ _ us hl => match us, hl with | [_], _ => rfl)
  have T8 : Top K mg "_law_draw" sDraw ["_law_src", "_law_many7"] := top_mk X G a8 l8 c8 k8 (fun _ _ _ _ _ _ us hl => match us, hl with | [_, _], _ => rfl)
  have T9 : Top K mg "_law_of" sOf ["_law_src", "_law_things7"] := top_mk X G a9 l9 c9 k9 (fun _ _ _ _ _ _ us hl => match us, hl with | [_, _], _ => rfl)
  have T10 : Top K mg "_law_word" sWord ["_law_src", "_law_most"] := top_mk X G a10 l10 c10 k10 (fun _ _ _ _ _ _ us hl => match us, hl with | [_, _], _ => rfl)
  have T11 : Top K mg "_law_same" sSame ["_law_found", "_law_due"] := top_mk X G a11 l11 c11 k11 (fun _ _ _ _ _ _ us hl => match us, hl with | [_, _], _ => rfl)
  have T12 : Top K mg "_law_common" sCommon ["_law_one", "_law_two"] := top_mk X G a12 l12 c12 k12 (fun _ _ _ _ _ _ us hl => match us, hl with | [_, _], _ => rfl)
  have T13 : Top K mg "_law_low" sLow ["_law_high7", "_law_under"] := top_mk X G a13 l13 c13 k13 (fun _ _ _ _ _ _ us hl => match us, hl with | [_, _], _ => rfl)
  have T14 : Top K mg "_law_share" sShare ["_law_src", "_law_most"] := top_mk X G a14 l14 c14 k14 (fun _ _ _ _ _ _ us hl => match us, hl with | [_, _], _ => rfl)
  have T15 : Top K mg "_law_inner" sInner ["_law_program"] := top_mk X G a15 l15 c15 k15 (fun _ _ _ _ _ _ us hl => match us, hl with | [_], _ => rfl)
  have T16 : Top K mg "_law_wide" sWide ["_law_program"] := top_mk X G a16 l16 c16 k16 (fun _ _ _ _ _ _ us hl => match us, hl with | [_], _ => rfl)
  have T17 : Top K mg "_law_degree" sDegreeL ["_law_program"] := top_mk X G a17 l17 c17 k17 (fun _ _ _ _ _ _ us hl => match us, hl with | [_], _ => rfl)
  have T18 : Top K mg "_law_products" sProductsL ["_law_program"] := top_mk X G a18 l18 c18 k18 (fun _ _ _ _ _ _ us hl => match us, hl with | [_], _ => rfl)
  have T19 : Top K mg "_law_free" sFree ["_law_src", "_law_deep"] := top_mk X G a19 l19 c19 k19 (fun _ _ _ _ _ _ us hl => match us, hl with | [_, _], _ => rfl)
  have FL := fun_mk (st := sLaw) lL cL kL
  have N := fun {x : Str} (z : PySem.W.nsIn K mainGlobals x = some none) => PySem.W.mg_none_of X G z
  have env : Env11 K mg := ⟨T1, T2, T3, T4, T5, T6, T7, T8, T9, T10, T11, T12, T13, T14, T15, T16, T17, T18, T19, N z1, N z2, N z3, N z4, N z5, N z6, N z7, N z8, N z9, N z10, N z11, N z12, N z13⟩
  exact ⟨_, fun s v => .of_eq rfl, fun base _ _ => ok_law env FL⟩
end G
open PySem PySem.W PyProof.Rows
set_option maxHeartbeats 0 in
theorem PySem.Challenge.cw_fewtell_k11_measures_of_programs_holds : PySem.Challenge.rw_fewtell_k11_measures_of_programs.Holds := by
  w_on; o_law; k_head; (case hw => w_witness2)
  k_fill
  refine L2.walk_of (l := PySem.Challenge.rw_fewtell_k11_measures_of_programs) (n := 63) (k := 10) (x := "_law_script") (CX := fun _ => L2.CX0) (sp := fun w => G.spLaw _) rfl (by decide) rfl ⟨rfl, by decide, by decide⟩ (fun w h Y => PySem.W.kIn_of Y) ?F (fun _ _ a ns hl _ hS => ⟨a, ns, rfl, hS, hl, fun _ => rfl⟩) (fun _ _ _ _ _ h => h)
  case F =>
    intro w mg fa h KX GN hmg
    refine' G.all_mk KX GN hmg ?a1 ?l1 ?c1 ?k1 ?a2 ?l2 ?c2 ?k2 ?a3 ?l3 ?c3 ?k3 ?a4 ?l4 ?c4 ?k4 ?a5 ?l5 ?c5 ?k5 ?a6 ?l6 ?c6 ?k6 ?a7 ?l7 ?c7 ?k7 ?a8 ?l8 ?c8 ?k8 ?a9 ?l9 ?c9 ?k9 ?a10 ?l10 ?c10 ?k10 ?a11 ?l11 ?c11 ?k11 ?a12 ?l12 ?c12 ?k12 ?a13 ?l13 ?c13 ?k13 ?a14 ?l14 ?c14 ?k14 ?a15 ?l15 ?c15 ?k15 ?a16 ?l16 ?c16 ?k16 ?a17 ?l17 ?c17 ?k17 ?a18 ?l18 ?c18 ?k18 ?a19 ?l19 ?c19 ?k19 ?aL ?lL ?cL ?kL ?z1 ?z2 ?z3 ?z4 ?z5 ?z6 ?z7 ?z8 ?z9 ?z10 ?z11 ?z12 ?z13
    (case a1 => k_is); (case l1 => k_is); (case c1 => k_is); (case k1 => k_is); (case a2 => k_is); (case l2 => k_is); (case c2 => k_is); (case k2 => k_is); (case a3 => k_is); (case l3 => k_is); (case c3 => k_is); (case k3 => k_is); (case a4 => k_is); (case l4 => k_is); (case c4 => k_is); (case k4 => k_is); (case a5 => k_is); (case l5 => k_is); (case c5 => k_is); (case k5 => k_is); (case a6 => k_is); (case l6 => k_is); (case c6 => k_is); (case k6 => k_is); (case a7 => k_is); (case l7 => k_is); (case c7 => k_is); (case k7 => k_is); (case a8 => k_is); (case l8 => k_is); (case c8 => k_is); (case k8 => k_is); (case a9 => k_is); (case l9 => k_is); (case c9 => k_is); (case k9 => k_is); (case a10 => k_is); (case l10 => k_is); (case c10 => k_is); (case k10 => k_is); (case a11 => k_is); (case l11 => k_is); (case c11 => k_is); (case k11 => k_is); (case a12 => k_is); (case l12 => k_is); (case c12 => k_is); (case k12 => k_is); (case a13 => k_is); (case l13 => k_is); (case c13 => k_is); (case k13 => k_is); (case a14 => k_is); (case l14 => k_is); (case c14 => k_is); (case k14 => k_is); (case a15 => k_is); (case l15 => k_is); (case c15 => k_is); (case k15 => k_is); (case a16 => k_is); (case l16 => k_is); (case c16 => k_is); (case k16 => k_is); (case a17 => k_is); (case l17 => k_is); (case c17 => k_is); (case k17 => k_is); (case a18 => k_is); (case l18 => k_is); (case c18 => k_is); (case k18 => k_is); (case a19 => k_is); (case l19 => k_is); (case c19 => k_is); (case k19 => k_is); (case aL => k_is); (case lL => k_is); (case cL => k_is); (case kL => k_is); (case z1 => k_is); (case z2 => k_is); (case z3 => k_is); (case z4 => k_is); (case z5 => k_is); (case z6 => k_is); (case z7 => k_is); (case z8 => k_is); (case z9 => k_is); (case z10 => k_is); (case z11 => k_is); (case z12 => k_is); (case z13 => k_is)
