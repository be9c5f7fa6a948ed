import PyProof.Rows.All
import Wide.All
import OpenK.AllK
import Wide.FinOn
import HandS.ForMost
import HandS.ForExc
import HandS.Wide
import HandS.Comp
import HandS.IsInst
import HandS.EndBits
import HandS.Text
import HandS.StrMore
import HandS.FStr
import HandS.Replace
import HandS.Deep
import HandS.RaiseMore
import PyProof.StrOps2
import PyProof.Rows.StrPadFill
import PyProof.StrLawsTight
import PyProof.StrLawsChain
import PyProof.Rows.StrItems
import PyProof.Rows.StrCut
import PyProof.Rows.StrPadWhole
import KE.IntTextLaws
import PyProof.ReprRoads
import PyProof.ReprLen
import PyProof.Rows.StrReprFit
import HandS.Style
import PyProof.Rows.RuleB_bool
import PyProof.Rows.SeqMore
import HandS.Dict
import HandS.More
import PySem.Challenge.RW_labelgrid_k09_operators_on_values
set_option Elab.async false
set_option linter.all false
set_option autoImplicit false
set_option maxRecDepth 100000
set_option maxHeartbeats 4000000
namespace DL
open PySem L2
/-! data, values with objects of one's own, objects -/
inductive D where
  | non | bl (b : Bool) | int (i : Int) | str (s : Str)
  | tup (xs : List D) | lst (xs : List D) | dK (kvs : List (Key × D)) | dT (kvs : List (List Key × D)) | fn (a : Addr) | scr (xs : List D) | ty (n : String)
inductive DV where
  | p (d : D) | o (n : Nat)
inductive O where
  | lst (xs : List DV) | dK (kvs : List (Key × DV)) | dT (kvs : List (List Key × DV)) | ins (C : Addr) (fs : List (Str × DV)) | gone
inductive Rs (α : Type) where
  | ok (v : α) (M : List O) | ex (c : Addr) (fs : List (Str × D)) (M : List O)
structure S where
  l : List (Option DV)
  m : List O
mutual
inductive Rep (K : PySem.W.Frag) (Z : Hp) : V → D → Prop
  | non : Rep K Z .non .non
  | bl (b : Bool) : Rep K Z (.bl b) (.bl b)
  | int (i : Int) : Rep K Z (.int i) (.int i)
  | str (x : Str) : Rep K Z (.str x) (.str x)
  | lst {a : Addr} {xs : List V} {ds : List D} : Rd Z a (.lst xs) → RepA K Z xs ds → Rep K Z (.ref a) (.lst ds)
  | tup {a : Addr} {xs : List V} {ds : List D} : SqT K Z a xs → RepA K Z xs ds → Rep K Z (.ref a) (.tup ds)
  | dK {a : Addr} {ks : List (Key × V)} {ds : List (Key × D)} : Z a = some (.dK ks) → RepK K Z ks ds → Rep K Z (.ref a) (.dK ds)
  | dT {a : Addr} {ks : List (List Key × V)} {ds : List (List Key × D)} : Z a = some (.dT ks) → RepT K Z ks ds → Rep K Z (.ref a) (.dT ds)
  | fn (a : Addr) : Rep K Z (.ref a) (.fn a)
  | ty (n : String) : Rep K Z (.ty n) (.ty n)
  | scr {a : Addr} {xs : List V} {ds : List D} : SqL K Z a xs → RepA K Z xs ds → Rep K Z (.ref a) (.scr ds)
inductive RepA (K : PySem.W.Frag) (Z : Hp) : List V → List D → Prop
  | nil : RepA K Z [] []
  | cons {v : V} {vs : List V} {d : D} {ds : List D} : Rep K Z v d → RepA K Z vs ds → RepA K Z (v :: vs) (d :: ds)
inductive RepK (K : PySem.W.Frag) (Z : Hp) : List (Key × V) → List (Key × D) → Prop
  | nil : RepK K Z [] []
  | cons {k : Key} {v : V} {vs : List (Key × V)} {d : D} {ds : List (Key × D)} : Rep K Z v d → RepK K Z vs ds → RepK K Z ((k, v) :: vs) ((k, d) :: ds)
inductive RepT (K : PySem.W.Frag) (Z : Hp) : List (List Key × V) → List (List Key × D) → Prop
  | nil : RepT K Z [] []
  | cons {k : List Key} {v : V} {vs : List (List Key × V)} {d : D} {ds : List (List Key × D)} : Rep K Z v d → RepT K Z vs ds → RepT K Z ((k, v) :: vs) ((k, d) :: ds)
end
theorem same_l {K : PySem.W.Frag} {H H' : Hp} {a : Addr} {xs : List V} (e : Same H H') (h : SqL K H a xs) : SqL K H' a xs := e.seq h
theorem same_rd {H H' : Hp} {a : Addr} {u : HO} (e : Same H H') (h : Rd H a u) : Rd H' a u := by
  rcases h with h | ⟨o, h⟩
  · exact .inl (e a _ h)
  · exact .inr ⟨o, e a _ h⟩
theorem same_t {K : PySem.W.Frag} {H H' : Hp} {a : Addr} {xs : List V} (e : Same H H') (h : SqT K H a xs) : SqT K H' a xs := by
  rcases h with (h | ⟨o, h⟩) | h
  · exact .inl (.inl (e a _ h))
  · exact .inl (.inr ⟨o, e a _ h⟩)
  · exact .inr h
section
variable {K : PySem.W.Frag} {Z Z' H H' : Hp}
mutual
theorem Rep.mono (e : Same Z Z') : ∀ {v : V} {d : D}, Rep K Z v d → Rep K Z' v d
  | _, _, .non => .non
  | _, _, .bl b => .bl b
  | _, _, .int i => .int i
  | _, _, .str x => .str x
  | _, _, .lst h r => .lst (same_rd e h) (RepA.mono e r)
  | _, _, .tup h r => .tup (same_t e h) (RepA.mono e r)
  | _, _, .dK h r => .dK (e _ _ h) (RepK.mono e r)
  | _, _, .dT h r => .dT (e _ _ h) (RepT.mono e r)
  | _, _, .fn a => .fn a
  | _, _, .ty n => .ty n
  | _, _, .scr h r => .scr (same_l e h) (RepA.mono e r)
theorem RepA.mono (e : Same Z Z') : ∀ {v : List V} {d : List D}, RepA K Z v d → RepA K Z' v d
  | _, _, .nil => .nil
  | _, _, .cons h r => .cons (Rep.mono e h) (RepA.mono e r)
theorem RepK.mono (e : Same Z Z') : ∀ {v : List (Key × V)} {d : List (Key × D)}, RepK K Z v d → RepK K Z' v d
  | _, _, .nil => .nil
  | _, _, .cons h r => .cons (Rep.mono e h) (RepK.mono e r)
theorem RepT.mono (e : Same Z Z') : ∀ {v : List (List Key × V)} {d : List (List Key × D)}, RepT K Z v d → RepT K Z' v d
  | _, _, .nil => .nil
  | _, _, .cons h r => .cons (Rep.mono e h) (RepT.mono e r)
end
theorem RepA.length : ∀ {v : List V} {d : List D}, RepA K Z v d → v.length = d.length
  | _, _, .nil => rfl
  | _, _, .cons _ r => by rw [List.length_cons, List.length_cons, RepA.length r]
theorem RepA.get : ∀ {v : List V} {d : List D} {i : Nat} {x : D}, RepA K Z v d → d[i]? = some x → ∃ u, v[i]? = some u ∧ Rep K Z u x
  | _, _, _, _, .nil, e => by simp at e
  | _, _, 0, _, .cons h _, e => by simp at e; subst e; exact ⟨_, rfl, h⟩
  | _, _, i + 1, x, .cons _ r, e => by
    obtain ⟨u, h1, h2⟩ := RepA.get (i := i) (x := x) r (by simpa using e)
    exact ⟨u, by simpa using h1, h2⟩
theorem RepA.get' : ∀ {v : List V} {d : List D} {i : Nat} {u : V}, RepA K Z v d → v[i]? = some u → ∃ x, d[i]? = some x ∧ Rep K Z u x
  | _, _, _, _, .nil, e => by simp at e
  | _, _, 0, _, .cons h _, e => by simp at e; subst e; exact ⟨_, rfl, h⟩
  | _, _, i + 1, x, .cons _ r, e => by
    obtain ⟨u, h1, h2⟩ := RepA.get' (i := i) (u := x) r (by simpa using e)
    exact ⟨u, by simpa using h1, h2⟩
theorem RepA.append : ∀ {v w : List V} {d f : List D}, RepA K Z v d → RepA K Z w f → RepA K Z (v ++ w) (d ++ f)
  | _, _, _, _, .nil, s => s
  | _, _, _, _, .cons h r, s => .cons h (RepA.append r s)
theorem RepA.take : ∀ {v : List V} {d : List D} (n : Nat), RepA K Z v d → RepA K Z (v.take n) (d.take n)
  | _, _, 0, _ => .nil
  | _, _, _ + 1, .nil => .nil
  | _, _, n + 1, .cons h r => .cons h (RepA.take n r)
theorem RepA.drop : ∀ {v : List V} {d : List D} (n : Nat), RepA K Z v d → RepA K Z (v.drop n) (d.drop n)
  | _, _, 0, h => h
  | _, _, _ + 1, .nil => .nil
  | _, _, n + 1, .cons _ r => RepA.drop n r
/-! values with objects of one's own -/
def RepV (K : PySem.W.Frag) (Z : Hp) (I : List Addr) (v : V) : DV → Prop
  | .p d => Rep K Z v d
  | .o n => ∃ a, I[n]? = some a ∧ v = .ref a
abbrev RepVs (K : PySem.W.Frag) (Z : Hp) (I : List Addr) : List V → List DV → Prop := Paired (RepV K Z I)
theorem paired_len {α β : Type} {F : α → β → Prop} : ∀ {xs : List α} {ys : List β}, Paired F xs ys → xs.length = ys.length
  | _, _, .nil => rfl
  | _, _, .cons _ r => by rw [List.length_cons, List.length_cons, paired_len r]
theorem paired_get {α β : Type} {F : α → β → Prop} : ∀ {xs : List α} {ys : List β} {i : Nat} {y : β}, Paired F xs ys → ys[i]? = some y → ∃ x, xs[i]? = some x ∧ F x y
  | _, _, _, _, .nil, e => by simp at e
  | _, _, 0, _, .cons h _, e => by simp at e; subst e; exact ⟨_, rfl, h⟩
  | _, _, i + 1, x, .cons _ r, e => by
    obtain ⟨u, h1, h2⟩ := paired_get (i := i) (y := x) r (by simpa using e)
    exact ⟨u, by simpa using h1, h2⟩
theorem paired_set {α β : Type} {F : α → β → Prop} {x : α} {y : β} (h : F x y) : ∀ {xs : List α} {ys : List β} (i : Nat), Paired F xs ys → Paired F (xs.set i x) (ys.set i y)
  | _, _, _, .nil => .nil
  | _, _, 0, .cons _ r => .cons h r
  | _, _, i + 1, .cons q r => .cons q (paired_set h i r)
theorem paired_app {α β : Type} {F : α → β → Prop} : ∀ {xs zs : List α} {ys ws : List β}, Paired F xs ys → Paired F zs ws → Paired F (xs ++ zs) (ys ++ ws)
  | _, _, _, _, .nil, s => s
  | _, _, _, _, .cons h r, s => .cons h (paired_app r s)
theorem paired_imp {α β : Type} {F G : α → β → Prop} (k : ∀ a b, F a b → G a b) : ∀ {xs : List α} {ys : List β}, Paired F xs ys → Paired G xs ys
  | _, _, .nil => .nil
  | _, _, .cons h r => .cons (k _ _ h) (paired_imp k r)
def FRel (K : PySem.W.Frag) (Z : Hp) (I : List Addr) {κ : Type} (p : κ × V) (q : κ × DV) : Prop := p.1 = q.1 ∧ RepV K Z I p.2 q.2
def RepO (K : PySem.W.Frag) (Z : Hp) (I : List Addr) (H : Hp) (a : Addr) : O → Prop
  | .lst ds => ∃ xs, H a = some (.lst xs) ∧ RepVs K Z I xs ds
  | .dK ds => ∃ ks, H a = some (.dK ks) ∧ Paired (FRel K Z I) ks ds
  | .dT ds => ∃ ks, H a = some (.dT ks) ∧ Paired (FRel K Z I) ks ds
  | .ins C fs => ∃ dx vs, H a = some (.ins C dx vs) ∧ Paired (FRel K Z I) vs fs
  | .gone => True
structure Wf (K : PySem.W.Frag) (Z H : Hp) (I : List Addr) (M : List O) : Prop where
  sub : Same Z H
  len : I.length = M.length
  nd : I.Nodup
  tr : ∀ a ∈ I, H a ≠ none
  ob : ∀ (n : Nat) (a : Addr) (o : O), I[n]? = some a → M[n]? = some o → o ≠ .gone → Z a = none ∧ RepO K Z I H a o
structure Ext (Z H : Hp) (I : List Addr) (Z' H' : Hp) (I' : List Addr) : Prop where
  z : Same Z Z'
  i : ∃ t, I' = I ++ t
  fr : ∀ a o, H a = some o → a ∉ I → H' a = some o
  nw : ∀ a ∈ I', a ∈ I ∨ H a = none
  zn : ∀ a, Z' a ≠ none → Z a ≠ none ∨ H a = none ∨ a ∈ I
  tr : ∀ a, H a ≠ none → H' a ≠ none
end
theorem Ext.refl {Z H : Hp} {I : List Addr} : Ext Z H I Z H I := ⟨Same.refl Z, ⟨[], by simp⟩, fun _ _ h _ => h, fun _ h => .inl h, fun _ h => .inl h, fun _ h => h⟩
theorem Ext.mem {Z H Z1 H1 : Hp} {I I1 : List Addr} (a : Ext Z H I Z1 H1 I1) {b : Addr} (h : b ∈ I) : b ∈ I1 := by
  obtain ⟨t, rfl⟩ := a.i
  exact List.mem_append_left _ h
theorem Ext.trans {Z H Z1 H1 Z2 H2 : Hp} {I I1 I2 : List Addr} (a : Ext Z H I Z1 H1 I1) (b : Ext Z1 H1 I1 Z2 H2 I2) : Ext Z H I Z2 H2 I2 where
  z := a.z.trans b.z
  i := by
    obtain ⟨t, e⟩ := a.i
    obtain ⟨u, f⟩ := b.i
    exact ⟨t ++ u, by rw [f, e, List.append_assoc]⟩
  fr := fun c o h n => b.fr c o (a.fr c o h n) fun m => by
    rcases a.nw c m with k | k
    · exact n k
    · rw [h] at k; cases k
  nw := fun c m => by
    rcases b.nw c m with k | k
    · exact a.nw c k
    · right
      cases e : H c with
      | none => rfl
      | some o => exact absurd k (a.tr c (by rw [e]; simp))
  zn := fun c h => by
    rcases b.zn c h with k | k | k
    · exact a.zn c k
    · right; left
      cases e : H c with
      | none => rfl
      | some o => exact absurd k (a.tr c (by rw [e]; simp))
    · rcases a.nw c k with q | q
      · exact .inr (.inr q)
      · exact .inr (.inl q)
  tr := fun c h => b.tr c (a.tr c h)
section
variable {K : PySem.W.Frag} {Z H Z' H' : Hp} {I I' : List Addr}
theorem RepV.mono (e : Ext Z H I Z' H' I') {v : V} : ∀ {d : DV}, RepV K Z I v d → RepV K Z' I' v d
  | .p _, h => Rep.mono e.z h
  | .o n, ⟨a, h, q⟩ => by
    obtain ⟨t, rfl⟩ := e.i
    exact ⟨a, by rw [List.getElem?_append_left (List.getElem?_eq_some_iff.mp h).1]; exact h, q⟩
theorem RepV.mono' (z : Same Z Z') {v : V} : ∀ {d : DV}, RepV K Z I v d → RepV K Z' I v d
  | .p _, h => Rep.mono z h
  | .o _, h => h
/-- a pure step: nothing of one's own is touched -/
structure ExtP (Z H Z' H' : Hp) : Prop where
  z : Same Z Z'
  h : Same H H'
  sub : Same Z' H'
  zn : ∀ a, Z' a ≠ none → Z a ≠ none ∨ H a = none
theorem ExtP.refl (h : Same Z H) : ExtP Z H Z H := ⟨Same.refl _, Same.refl _, h, fun _ h => .inl h⟩
theorem ExtP.trans {Z2 H2 : Hp} (a : ExtP Z H Z' H') (b : ExtP Z' H' Z2 H2) : ExtP Z H Z2 H2 := ⟨a.z.trans b.z, a.h.trans b.h, b.sub, fun c h => by
  rcases b.zn c h with k | k
  · exact a.zn c k
  · exact .inr (a.h.free k)⟩
theorem none_of {Z H : Hp} (s : Same Z H) {p : Addr} (h : H p = none) : Z p = none := s.free h
theorem same_upd {H : Hp} {p : Addr} {o : HO} (h : H p = none) : Same H (upd H p o) := fun a u e => by
  rw [upd_ne (ne_of_none e h)]; exact e
theorem ExtP.new {p : Addr} {o : HO} (s : Same Z H) (h : H p = none) : ExtP Z H (upd Z p o) (upd H p o) := by
  refine ⟨same_upd (none_of s h), same_upd h, fun a u e => ?_, fun a e => ?_⟩
  · by_cases q : a = p
    · subst q; rw [upd_same] at e ⊢; exact e
    · rw [upd_ne q] at e ⊢; exact s a u e
  · by_cases q : a = p
    · subst q; exact .inr h
    · rw [upd_ne q] at e; exact .inl e
theorem RepO.mono {a : Addr} (z : Same Z Z') (ha : H' a = H a) : ∀ {o : O}, RepO K Z I H a o → RepO K Z' I H' a o
  | .lst _, ⟨xs, h, r⟩ => ⟨xs, ha.trans h, paired_imp (fun _ _ q => RepV.mono' z q) r⟩
  | .dK _, ⟨xs, h, r⟩ => ⟨xs, ha.trans h, paired_imp (fun _ _ q => ⟨q.1, RepV.mono' z q.2⟩) r⟩
  | .dT _, ⟨xs, h, r⟩ => ⟨xs, ha.trans h, paired_imp (fun _ _ q => ⟨q.1, RepV.mono' z q.2⟩) r⟩
  | .ins _ _, ⟨dx, xs, h, r⟩ => ⟨dx, xs, ha.trans h, paired_imp (fun _ _ q => ⟨q.1, RepV.mono' z q.2⟩) r⟩
  | .gone, _ => trivial
theorem same_eq {H H' : Hp} (e : Same H H') {a : Addr} (h : H a ≠ none) : H' a = H a := by
  cases q : H a with
  | none => exact absurd q h
  | some o => exact e a o q
theorem Wf.extP {M : List O} (w : Wf K Z H I M) (e : ExtP Z H Z' H') : Wf K Z' H' I M where
  sub := e.sub
  len := w.len
  nd := w.nd
  tr := fun a h => by rw [same_eq e.h (w.tr a h)]; exact w.tr a h
  ob := fun n a o h1 h2 h3 => by
    obtain ⟨q1, q2⟩ := w.ob n a o h1 h2 h3
    have ha := w.tr a (List.mem_of_getElem? h1)
    refine ⟨?_, q2.mono e.z (same_eq e.h ha)⟩
    cases q : Z' a with
    | none => rfl
    | some u =>
      rcases e.zn a (by rw [q]; simp) with k | k
      · exact absurd q1 k
      · exact absurd k ha
theorem ExtP.ext {M : List O} (w : Wf K Z H I M) (e : ExtP Z H Z' H') : Ext Z H I Z' H' I := ⟨e.z, ⟨[], by simp⟩, fun a o h _ => e.h a o h, fun _ h => .inl h, fun a h => (e.zn a h).imp_right .inl, fun a h => by rw [same_eq e.h h]; exact h⟩
/-! ### slots -/
structure RepS (K : PySem.W.Frag) (Z : Hp) (I : List Addr) (σ : St) (l : List (Option DV)) : Prop where
  len : σ.length = l.length
  at_ : ∀ (i : Nat) (dv : DV), l[i]? = some (some dv) → ∃ v, σ[i]? = some (some v) ∧ RepV K Z I v dv
theorem RepS.mono {σ : St} {l : List (Option DV)} (r : RepS K Z I σ l) (e : Ext Z H I Z' H' I') : RepS K Z' I' σ l := ⟨r.len, fun i dv h => by
  obtain ⟨v, h1, h2⟩ := r.at_ i dv h
  exact ⟨v, h1, h2.mono e⟩⟩
theorem RepS.set {σ : St} {l : List (Option DV)} (r : RepS K Z I σ l) {v : V} {dv : DV} (h : RepV K Z I v dv) (i : Nat) : RepS K Z I (σ.set i (some v)) (l.set i (some dv)) := by
  refine ⟨by simpa using r.len, fun j dw e => ?_⟩
  by_cases q : i = j
  · subst q
    by_cases b : i < l.length
    · rw [List.getElem?_set_self b] at e
      cases e
      exact ⟨v, by rw [List.getElem?_set_self (by rw [r.len]; exact b)], h⟩
    · rw [List.getElem?_eq_none (by simpa using b)] at e; cases e
  · rw [List.getElem?_set_ne q] at e ⊢
    exact r.at_ j dw e
/-! ### what is wanted -/
def ExcAt (K : PySem.W.Frag) (Z H : Hp) (d : Option Addr) (fs : List (Str × D)) : Prop :=
  (d = none ∧ fs = []) ∨ ∃ a vs, d = some a ∧ H a = some (.xd vs) ∧ Paired (fun (p : Str × V) (q : Str × D) => p.1 = q.1 ∧ Rep K Z p.2 q.2) vs fs
def PostX (K : PySem.W.Frag) (W : WX) (Z H : Hp) (I : List Addr) (σ : St) (M' : List O) (c : Addr) (fs : List (Str × D)) : Prop :=
  ∀ d Z' H' I', Wf K Z' H' I' M' → Ext Z H I Z' H' I' → ExcAt K Z' H' d fs → (∀ a, d = some a → H a = none ∧ a ∉ I') → W (.ref c) d σ H'
theorem PostX.mono {W : WX} {σ : St} {M' : List O} {c : Addr} {fs : List (Str × D)} {Z1 H1 : Hp} {I1 : List Addr} (e : Ext Z H I Z1 H1 I1) (h : PostX K W Z H I σ M' c fs) : PostX K W Z1 H1 I1 σ M' c fs :=
  fun d Z' H' I' w x a n => h d Z' H' I' w (e.trans x) a fun b q => ⟨by
    cases z : H b with
    | none => rfl
    | some o => exact absurd (n b q).1 (e.tr b (by rw [z]; simp)), (n b q).2⟩
def PostR {α β : Type} (K : PySem.W.Frag) (W : WX) (R : Hp → List Addr → β → α → Prop) (Z H : Hp) (I : List Addr) (σ : St) (Q : β → Hp → Prop) : Rs α → Prop
  | .ok a M' => ∀ b Z' H' I', Wf K Z' H' I' M' → Ext Z H I Z' H' I' → R Z' I' b a → Q b H'
  | .ex c fs M' => PostX K W Z H I σ M' c fs
theorem PostR.mono {α β : Type} {W : WX} {R : Hp → List Addr → β → α → Prop} {σ : St} {Q : β → Hp → Prop} {Z1 H1 : Hp} {I1 : List Addr} (e : Ext Z H I Z1 H1 I1) : ∀ {r : Rs α}, PostR K W R Z H I σ Q r → PostR K W R Z1 H1 I1 σ Q r
  | .ok _ _, h => fun b Z' H' I' w x q => h b Z' H' I' w (e.trans x) q
  | .ex _ _ _, h => PostX.mono e h
theorem PostR.x {α β : Type} {W : WX} {R : Hp → List Addr → β → α → Prop} {σ : St} {Q : β → Hp → Prop} {r : Rs α} (h : PostR K W R Z H I σ Q r) (c : Addr) (fs : List (Str × D)) (M : List O) (e : r = .ex c fs M) : PostX K W Z H I σ M c fs := by
  subst e; exact h
abbrev Mi (α : Type) := S → Option (Rs α)
structure Sound {α β : Type} (K : PySem.W.Frag) (W : WX) (R : Hp → List Addr → β → α → Prop) (t : St → Hp → (β → Hp → Prop) → Prop) (m : Mi α) : Prop where
  ok : ∀ (σ : St) (H : Hp) (s : S) (Z : Hp) (I : List Addr) (r : Rs α) (Q : β → Hp → Prop), Wf K Z H I s.m → RepS K Z I σ s.l → m s = some r → PostR K W R Z H I σ Q r → t σ H Q
def bnd {α γ : Type} (m : Mi α) (k : α → Mi γ) : Mi γ := fun s => match m s with
  | some (.ok v M) => k v ⟨s.l, M⟩
  | some (.ex c f M) => some (.ex c f M)
  | none => none
theorem Sound.bnd {α β γ : Type} {W : WX} {R : Hp → List Addr → β → α → Prop} {t : St → Hp → (β → Hp → Prop) → Prop} {m : Mi α} (h : Sound K W R t m) {σ : St} {s : S} {k : α → Mi γ} {r : Rs γ} {Q : β → Hp → Prop}
    (w : Wf K Z H I s.m) (rs : RepS K Z I σ s.l) (e : DL.bnd m k s = some r) (hx : ∀ c fs M, r = .ex c fs M → PostX K W Z H I σ M c fs)
    (hk : ∀ a b M' Z' H' I', Wf K Z' H' I' M' → RepS K Z' I' σ s.l → Ext Z H I Z' H' I' → R Z' I' b a → k a ⟨s.l, M'⟩ = some r → Q b H') : t σ H Q := by
  unfold DL.bnd at e
  cases q : m s with
  | none => rw [q] at e; cases e
  | some r0 =>
    rw [q] at e
    cases r0 with
    | ok v M => exact h.ok σ H s Z I _ Q w rs q fun b Z' H' I' w' x' r' => hk v b M Z' H' I' w' (rs.mono x') x' r' e
    | ex c f M =>
      obtain rfl := Option.some.inj e
      exact h.ok σ H s Z I _ Q w rs q (hx c f M rfl)
abbrev EM := Mi DV
abbrev AM := Mi (List DV)
structure DE (K : PySem.W.Frag) (X : Cx) (W : WX) (e : Expr) (t : TE) (m : EM) : Prop where
  k : X.K = K
  pe : PE X e t
  so : Sound K W (RepV K) t m
def RepB (_ : Hp) (_ : List Addr) (b : Bool) (d : DV) : Prop := d = .p (.bl b)
structure DT (K : PySem.W.Frag) (X : Cx) (W : WX) (e : Expr) (t : TT) (m : EM) : Prop where
  k : X.K = K
  pt : PT X e t
  so : Sound K W RepB t m
structure DW (K : PySem.W.Frag) (X : Cx) (W : WX) (e : Expr) (t : TT) (m : EM) : Prop where
  k : X.K = K
  pw : PW X e t
  so : Sound K W RepB t m
structure DA (K : PySem.W.Frag) (X : Cx) (W : WX) (es : List Expr) (t : TA) (m : AM) : Prop where
  k : X.K = K
  pa : PA X es t
  so : Sound K W (RepVs K) t m
/-- statements -/
inductive Fl where
  | nx | rt (v : DV) | bk | ct | ex (c : Addr) (fs : List (Str × D))
abbrev SM := S → Option (Fl × S)
def PostS (K : PySem.W.Frag) (W : WX) (Z H : Hp) (I : List Addr) (D : Ends) : Fl × S → Prop
  | (.nx, s') => ∀ σ' Z' H' I', Wf K Z' H' I' s'.m → RepS K Z' I' σ' s'.l → Ext Z H I Z' H' I' → D.nx σ' H'
  | (.rt dv, s') => ∀ v Z' H' I', Wf K Z' H' I' s'.m → Ext Z H I Z' H' I' → RepV K Z' I' v dv → D.rt v H'
  | (.bk, s') => ∀ σ' Z' H' I', Wf K Z' H' I' s'.m → RepS K Z' I' σ' s'.l → Ext Z H I Z' H' I' → D.bk σ' H'
  | (.ct, s') => ∀ σ' Z' H' I', Wf K Z' H' I' s'.m → RepS K Z' I' σ' s'.l → Ext Z H I Z' H' I' → D.ct σ' H'
  | (.ex c fs, s') => ∀ σ' d Z' H' I', Wf K Z' H' I' s'.m → RepS K Z' I' σ' s'.l → Ext Z H I Z' H' I' → ExcAt K Z' H' d fs → (∀ a, d = some a → H a = none ∧ a ∉ I') → W (.ref c) d σ' H'
structure SoundS (K : PySem.W.Frag) (W : WX) (t : TS) (m : SM) : Prop where
  ok : ∀ (σ : St) (H : Hp) (s : S) (Z : Hp) (I : List Addr) (r : Fl × S) (D : Ends), Wf K Z H I s.m → RepS K Z I σ s.l → m s = some r → PostS K W Z H I D r → t D σ H
structure DS (K : PySem.W.Frag) (X : Cx) (W : WX) (st : Stmt) (t : TS) (m : SM) : Prop where
  k : X.K = K
  ps : PS X st t
  so : SoundS K W t m
structure DSs (K : PySem.W.Frag) (X : Cx) (W : WX) (st : List Stmt) (t : TS) (m : SM) : Prop where
  k : X.K = K
  ps : PSs X st t
  so : SoundS K W t m
end
end DL
namespace DL
open PySem L2
section
variable {K : PySem.W.Frag} {X : Cx} {W : WX} {e a b c : Expr} {pos : Pos}
/-! ### names, constants -/
def gv (l : List (Option DV)) (i : Nat) : Option DV := match l[i]? with
  | some (some d) => some d
  | _ => none
def mVar (i : Nat) : EM := fun s => match gv s.l i with
  | some d => some (.ok d s.m)
  | none => none
theorem gv_some {l : List (Option DV)} {i : Nat} {d : DV} (h : gv l i = some d) : l[i]? = some (some d) := by
  unfold gv at h
  split at h
  · cases h; assumption
  · cases h
theorem so_var {i : Nat} : Sound K W (RepV K) (tVar i) (mVar i) := ⟨fun σ H s Z I r Q w rs e p => by
  unfold mVar at e
  split at e
  · rename_i d hd
    obtain rfl := Option.some.inj e
    obtain ⟨v, h1, h2⟩ := rs.at_ i d (gv_some hd)
    exact ⟨v, h1, p v Z H I w Ext.refl h2⟩
  · cases e⟩
def mC (d : D) : EM := fun s => some (.ok (.p d) s.m)
theorem so_c {v : V} {d : D} (h : ∀ Z, Rep K Z v d) : Sound K W (RepV K) (tC v) (mC d) := ⟨fun σ H s Z I r Q w rs e p => by
  obtain rfl := Option.some.inj e
  exact p v Z H I w Ext.refl (h Z)⟩
theorem de_var (i : Nat) {x : Str} (k : X.K = K := by rfl) (hN : X.N[i]? = some x := by rfl) (hv : Vis X.env.scope x := by first | exact Or.inl rfl | exact Or.inr (Or.inl rfl) | exact Or.inr (Or.inr rfl)) (hd : (x == ("__debug__" : Str)) = false := by decide)
    (hcd : (x == ("__classdict__" : Str)) = false := by decide) : DE K X W (.Name x pos) (tVar i) (mVar i) := ⟨k, pe_var hN hv hd hcd, so_var⟩
theorem de_int {i : Int} {j} (k : X.K = K := by rfl) : DE K X W (.Constant (.int i) j pos) (tC (.int i)) (mC (.int i)) := ⟨k, pe_int, so_c fun _ => .int i⟩
theorem de_bl {i : Bool} {j} (k : X.K = K := by rfl) : DE K X W (.Constant (.bool i) j pos) (tC (.bl i)) (mC (.bl i)) := ⟨k, pe_bl, so_c fun _ => .bl i⟩
theorem de_non {j} (k : X.K = K := by rfl) : DE K X W (.Constant .none j pos) (tC .non) (mC .non) := ⟨k, pe_non, so_c fun _ => .non⟩
theorem de_str {x : Str} {j} (k : X.K = K := by rfl) : DE K X W (.Constant (.str x) j pos) (tC (.str x)) (mC (.str x)) := ⟨k, pe_str, so_c fun _ => .str x⟩
/-- a constant of the top: its value u, what it is -/
theorem de_glob {x : Str} {v : V} {u : Value} {d : D} (hm : X.mg x = some u) (r : RelV v u) (h : ∀ Z, Rep K Z v d) (k : X.K = K := by rfl) (hg : Gl X x := by rfl) (hd : (x == ("__debug__" : Str)) = false := by decide) :
    DE K X W (.Name x pos) (tC v) (mC d) := ⟨k, pe_glob hg hm r hd, so_c h⟩
/-! ### operations on data -/
def pur {γ : Type} (k : D → Mi γ) : DV → Mi γ
  | .p d, s => k d s
  | .o _, _ => none
/-- the value of an operation: at the heap as it is, or with new objects -/
def PostP (K : PySem.W.Frag) (Z H : Hp) (d : D) (Q : VK) : Prop := ∀ v Z' H', ExtP Z H Z' H' → Rep K Z' v d → Q v H'
def ret (o : Option D) : EM := fun s => match o with
  | some d => some (.ok (.p d) s.m)
  | none => none
theorem PostP.of {Z H : Hp} {I : List Addr} {σ : St} {Q : VK} {d : D} {M : List O} (w : Wf K Z H I M) (p : PostR K W (RepV K) Z H I σ Q (.ok (.p d) M)) : PostP K Z H d Q :=
  fun v Z' H' x r => p v Z' H' I (w.extP x) (x.ext w) r
structure OpD (K : PySem.W.Frag) (X : Cx) (f : Value → Value → Sem Value) (r : R2) (g : D → D → Option D) : Prop where
  op : X.K = K → OpR X f r
  ok : ∀ (x y : V) (d e c : D) (Z H : Hp) (Q : VK), Same Z H → Rep K Z x d → Rep K Z y e → g d e = some c → PostP K Z H c Q → r x y H Q
def mBin (g : D → D → Option D) (m n : EM) : EM := bnd m (pur fun d => bnd n (pur fun e => ret (g d e)))
theorem so_bin {r : R2} {g : D → D → Option D} {ta tb : TE} {m n : EM} (h : ∀ (x y : V) (d e c : D) (Z H : Hp) (Q : VK), Same Z H → Rep K Z x d → Rep K Z y e → g d e = some c → PostP K Z H c Q → r x y H Q)
    (ha : Sound K W (RepV K) ta m) (hb : Sound K W (RepV K) tb n) : Sound K W (RepV K) (tOp r ta tb) (mBin g m n) := ⟨fun σ H s Z I r0 Q w rs e p => by
  refine ha.bnd w rs e (p.x) fun d v M1 Z1 H1 I1 w1 rs1 x1 q1 e1 => ?_
  cases d with
  | o n => cases e1
  | p d =>
  have p1 := p.mono x1
  refine hb.bnd (s := ⟨s.l, M1⟩) w1 rs1 e1 (p1.x) fun d2 v2 M2 Z2 H2 I2 w2 rs2 x2 q2 e2 => ?_
  cases d2 with
  | o n => cases e2
  | p d2 =>
  have p2 := p1.mono x2
  have e3 : ret (g d d2) ⟨s.l, M2⟩ = some r0 := e2
  unfold ret at e3
  cases q : g d d2 with
  | none => rw [q] at e3; cases e3
  | some c =>
    rw [q] at e3
    obtain rfl := Option.some.inj e3
    exact h v v2 d d2 c Z2 H2 Q w2.sub (Rep.mono x2.z q1) q2 q (PostP.of w2 p2)⟩
theorem de_bin {op : Operator} {r : R2} {g : D → D → Option D} {ta tb : TE} {m n : EM} (h : OpD K X (binaryOp op) r g) (ha : DE K X W a ta m) (hb : DE K X W b tb n) : DE K X W (.BinOp a op b pos) (tOp r ta tb) (mBin g m n) :=
  ⟨ha.k, pe_op (h.op ha.k) ha.pe hb.pe, so_bin h.ok ha.so hb.so⟩
theorem de_cmp {op : CmpOp} {r : R2} {g : D → D → Option D} {ta tb : TE} {m n : EM} (h : OpD K X (compareOp op) r g) (ha : DE K X W a ta m) (hb : DE K X W b tb n) (hm : behindInMarks op b = false := by first | exact nomark _ | rfl) : DE K X W (.Compare a [op] [b] pos) (tOp r ta tb) (mBin g m n) :=
  ⟨ha.k, pe_cmpR (h.op ha.k) ha.pe hb.pe hm, so_bin h.ok ha.so hb.so⟩
theorem so_test {t : TE} {m : EM} (h : Sound K W (RepV K) t m) (hb : ∀ s r, m s = some r → ∀ v M, r = .ok v M → ∃ b, v = .p (.bl b)) : Sound K W RepB (tTest t) m := ⟨fun σ H s Z I r Q w rs e p => by
  refine h.ok σ H s Z I r _ w rs e ?_
  cases r with
  | ex c fs M => exact p
  | ok v M =>
    obtain ⟨b, rfl⟩ := hb s _ e v M rfl
    intro v Z' H' I' w' x' r'
    cases r'
    exact ⟨b, rfl, p b Z' H' I' w' x' rfl⟩⟩
/-- a result that is a truth -/
def boolD (g : D → D → Option D) : Prop := ∀ d e c, g d e = some c → ∃ b, c = .bl b
theorem bnd_ok {α γ : Type} {m : Mi α} {k : α → Mi γ} {s : S} {v : γ} {M : List O} (e : bnd m k s = some (.ok v M)) : ∃ a M1, m s = some (.ok a M1) ∧ k a ⟨s.l, M1⟩ = some (.ok v M) := by
  unfold bnd at e
  cases q : m s with
  | none => rw [q] at e; cases e
  | some r0 =>
    rw [q] at e
    cases r0 with
    | ok a M1 => exact ⟨a, M1, rfl, e⟩
    | ex c f M1 => cases e
theorem pur_ok {γ : Type} {k : D → Mi γ} {v : DV} {s : S} {r : Rs γ} (e : pur k v s = some r) : ∃ d, v = .p d ∧ k d s = some r := by
  cases v with
  | p d => exact ⟨d, rfl, e⟩
  | o n => cases e
theorem ret_ok {o : Option D} {s : S} {r : Rs DV} (e : ret o s = some r) : ∃ d, o = some d ∧ r = .ok (.p d) s.m := by
  cases o with
  | none => cases e
  | some d => exact ⟨d, rfl, (Option.some.inj e).symm⟩
theorem mBin_bool {g : D → D → Option D} {m n : EM} (hg : boolD g) (s : S) (r : Rs DV) (e : mBin g m n s = some r) (v : DV) (M : List O) (hr : r = .ok v M) : ∃ b, v = .p (.bl b) := by
  subst hr
  obtain ⟨a, M1, _, e⟩ := bnd_ok e
  obtain ⟨d, _, e⟩ := pur_ok e
  obtain ⟨a2, M2, _, e⟩ := bnd_ok e
  obtain ⟨d2, _, e⟩ := pur_ok e
  obtain ⟨c, q, e⟩ := ret_ok e
  cases e
  obtain ⟨b, rfl⟩ := hg _ _ _ q
  exact ⟨b, rfl⟩
theorem dt_cmp {op : CmpOp} {r : R2} {g : D → D → Option D} {ta tb : TE} {m n : EM} (h : OpD K X (compareOp op) r g) (hg : boolD g) (ha : DE K X W a ta m) (hb : DE K X W b tb n) (hm : behindInMarks op b = false := by first | exact nomark _ | rfl) : DT K X W (.Compare a [op] [b] pos) (tTest (tOp r ta tb)) (mBin g m n) :=
  ⟨ha.k, pt_cmpR (h.op ha.k) ha.pe hb.pe hm, so_test (so_bin h.ok ha.so hb.so) (mBin_bool hg)⟩
/-! the ints -/
def dI (g : Int → Int → Option D) : D → D → Option D
  | .int i, .int j => g i j
  | _, _ => none
theorem ok_rI {C : Int → Int → Prop} {h : Int → Int → V} {g : Int → Int → Option D} (hc : ∀ i j c, g i j = some c → C i j ∧ ∀ Z, Rep K Z (h i j) c) : ∀ (x y : V) (d e c : D) (Z H : Hp) (Q : VK), Same Z H → Rep K Z x d → Rep K Z y e → dI g d e = some c → PostP K Z H c Q → rI C h x y H Q := by
  intro x y d e c Z H Q s hx hy hg p
  unfold dI at hg
  split at hg
  · cases hx; cases hy
    obtain ⟨h1, h2⟩ := hc _ _ _ hg
    exact ⟨_, _, rfl, rfl, h1, p _ Z H (ExtP.refl s) (h2 Z)⟩
  · cases hg
theorem ok_rI0 {h : Int → Int → V} {g : Int → Int → Option D} (hc : ∀ i j c, g i j = some c → ∀ Z, Rep K Z (h i j) c) : ∀ (x y : V) (d e c : D) (Z H : Hp) (Q : VK), Same Z H → Rep K Z x d → Rep K Z y e → dI g d e = some c → PostP K Z H c Q → rI0 h x y H Q := by
  intro x y d e c Z H Q s hx hy hg p
  unfold dI at hg
  split at hg
  · cases hx; cases hy
    exact ⟨_, _, rfl, rfl, p _ Z H (ExtP.refl s) (hc _ _ _ hg Z)⟩
  · cases hg
abbrev dIi (g : Int → Int → Int) : D → D → Option D := dI fun i j => some (.int (g i j))
abbrev dIb (g : Int → Int → Bool) : D → D → Option D := dI fun i j => some (.bl (g i j))
def dAdd : D → D → Option D
  | .int i, .int j => some (.int (i + j))
  | .str x, .str y => if x.length + y.length ≤ 1000000 then some (.str (x ++ y)) else none
  | _, _ => none
theorem size_le {n : Nat} (h : n ≤ 1000000) : n ≤ sizeLine := Nat.le_trans h (by decide)
theorem size_lt {n : Nat} (h : n ≤ 1000000) : n < sizeLine := Nat.lt_of_le_of_lt h (by decide)
theorem od_add : OpD K X (binaryOp .Add) (fun x y H Q => rI0 (fun i j => .int (i + j)) x y H Q ∨ ∃ i j, x = .str i ∧ y = .str j ∧ i.length + j.length ≤ sizeLine ∧ Q (.str (i ++ j)) H) dAdd where
  op := fun _ pins s σ H x y v u Q I rx ry h => by
    rcases h with h | h
    · exact op_add pins s σ H x y v u Q I rx ry h
    · exact op_add_str pins s σ H x y v u Q I rx ry h
  ok := by
    intro x y d e c Z H Q s hx hy hg p
    unfold dAdd at hg
    split at hg
    · cases hx; cases hy; cases hg
      exact .inl ⟨_, _, rfl, rfl, p _ Z H (ExtP.refl s) (.int _)⟩
    · split at hg
      · rename_i hl
        cases hx; cases hy; cases hg
        exact .inr ⟨_, _, rfl, rfl, size_le hl, p _ Z H (ExtP.refl s) (.str _)⟩
      · cases hg
    · cases hg
theorem od_sub : OpD K X (binaryOp .Sub) (rI0 fun i j => .int (i - j)) (dIi fun i j => i - j) := ⟨fun _ => op_sub, ok_rI0 fun i j c h Z => by cases h; exact .int _⟩
def mulOk (i j : Int) : Bool := decide (-(2 ^ 64) < i ∧ i < 2 ^ 64) || decide (-(2 ^ 64) < j ∧ j < 2 ^ 64)
theorem od_mul : OpD K X (binaryOp .Mult) (rI CMul fun i j => .int (i * j)) (dI fun i j => if mulOk i j = true then some (.int (i * j)) else none) := ⟨fun _ => op_mul, ok_rI fun i j c h => by
  split at h
  · rename_i hc
    cases h
    refine ⟨?_, fun _ => .int _⟩
    unfold mulOk at hc
    simp only [Bool.or_eq_true, decide_eq_true_eq] at hc
    exact hc
  · cases h⟩
end
end DL
namespace DL
open PySem L2
section
variable {K : PySem.W.Frag} {X : Cx} {W : WX} {e a b c : Expr} {pos : Pos}
/-! ### more ints -/
theorem od_fdiv : OpD K X (binaryOp .FloorDiv) (rI CDivW fun i j => .int (i / j)) (dI fun i j => if 0 < j ∧ j < 18446744073709551616 then some (.int (i / j)) else none) := ⟨fun _ => op_fdivW, ok_rI fun i j c h => by
  split at h
  · rename_i hc
    cases h
    exact ⟨wide_div hc.1 (b := 64) (by have : (2 : Nat) ^ 64 = 18446744073709551616 := by decide
                                       omega) (by decide) (by decide), fun _ => .int _⟩
  · cases h⟩
theorem od_mod : OpD K X (binaryOp .Mod) (rI (fun _ j => 0 < j) fun i j => .int (i % j)) (dI fun i j => if 0 < j then some (.int (i % j)) else none) := ⟨fun _ => op_mod, ok_rI fun i j c h => by
  split at h
  · rename_i hc; cases h; exact ⟨hc, fun _ => .int _⟩
  · cases h⟩
theorem od_lt : OpD K X (compareOp .Lt) (rI0 fun i j => .bl (decide (i < j))) (dIb fun i j => decide (i < j)) := ⟨fun _ => op_lt, ok_rI0 fun i j c h Z => by cases h; exact .bl _⟩
theorem od_le : OpD K X (compareOp .LtE) (rI0 fun i j => .bl (decide (i ≤ j))) (dIb fun i j => decide (i ≤ j)) := ⟨fun _ => op_le, ok_rI0 fun i j c h Z => by cases h; exact .bl _⟩
theorem od_gt : OpD K X (compareOp .Gt) (rI0 fun i j => .bl (decide (j < i))) (dIb fun i j => decide (j < i)) := ⟨fun _ => op_gt, ok_rI0 fun i j c h Z => by cases h; exact .bl _⟩
theorem od_ge : OpD K X (compareOp .GtE) (rI0 fun i j => .bl (decide (j ≤ i))) (dIb fun i j => decide (j ≤ i)) := ⟨fun _ => op_ge, ok_rI0 fun i j c h Z => by cases h; exact .bl _⟩
theorem bool_dIb {g : Int → Int → Bool} : boolD (dIb g) := fun d e c h => by
  unfold dIb dI at h
  split at h
  · exact ⟨_, (Option.some.inj h).symm⟩
  · cases h
/-! ### one value in -/
def mUn (g : D → Option D) (m : EM) : EM := bnd m (pur fun d => ret (g d))
theorem so_un {r : V → Hp → VK → Prop} {g : D → Option D} {ta : TE} {m : EM} (h : ∀ (x : V) (d c : D) (Z H : Hp) (Q : VK), Same Z H → Rep K Z x d → g d = some c → PostP K Z H c Q → r x H Q)
    (ha : Sound K W (RepV K) ta m) : Sound K W (RepV K) (tUn r ta) (mUn g m) := ⟨fun σ H s Z I r0 Q w rs e p => by
  refine ha.bnd w rs e (p.x) fun d v M1 Z1 H1 I1 w1 rs1 x1 q1 e1 => ?_
  obtain ⟨d, rfl, e1⟩ := pur_ok e1
  obtain ⟨c, q, rfl⟩ := ret_ok e1
  exact h v d c Z1 H1 Q w1.sub q1 q (PostP.of w1 (p.mono x1))⟩
theorem de_neg {ta : TE} {m : EM} (ha : DE K X W a ta m) : DE K X W (.UnaryOp .USub a pos) (tUn (rU fun i => .int (-i)) ta) (mUn (fun d => match d with | .int i => some (.int (-i)) | _ => none) m) :=
  ⟨ha.k, pe_un un_neg ha.pe, so_un (fun x d c Z H Q s hx hg p => by
    split at hg
    · cases hx; cases hg; exact ⟨_, rfl, p _ Z H (ExtP.refl s) (.int _)⟩
    · cases hg) ha.so⟩
/-! ### is None -/
def isN : D → Bool
  | .non => true
  | _ => false
theorem rep_isN {Z : Hp} {x : V} {d : D} (h : Rep K Z x d) : decide (x = .non) = isN d := by
  cases h <;> rfl
def isNV : DV → Bool
  | .p d => isN d
  | .o _ => false
theorem repV_isN {Z : Hp} {I : List Addr} {x : V} {d : DV} (h : RepV K Z I x d) : decide (x = .non) = isNV d := by
  cases d with
  | p d => exact rep_isN h
  | o n => obtain ⟨a, _, rfl⟩ := h; rfl
def mIsN (m : EM) : EM := bnd m fun d s => some (.ok (.p (.bl (isNV d))) s.m)
def mNotN (m : EM) : EM := bnd m fun d s => some (.ok (.p (.bl (!isNV d))) s.m)
theorem so_isN {ta : TE} {m : EM} (ha : Sound K W (RepV K) ta m) : Sound K W (RepV K) (tIsN ta) (mIsN m) := ⟨fun σ H s Z I r0 Q w rs e p => by
  refine ha.bnd w rs e (p.x) fun d v M1 Z1 H1 I1 w1 rs1 x1 q1 e1 => ?_
  obtain rfl := Option.some.inj e1
  rw [repV_isN q1]
  exact p _ Z1 H1 I1 w1 x1 (.bl _)⟩
theorem so_notN {ta : TE} {m : EM} (ha : Sound K W (RepV K) ta m) : Sound K W (RepV K) (tNotN ta) (mNotN m) := ⟨fun σ H s Z I r0 Q w rs e p => by
  refine ha.bnd w rs e (p.x) fun d v M1 Z1 H1 I1 w1 rs1 x1 q1 e1 => ?_
  obtain rfl := Option.some.inj e1
  rw [repV_isN q1]
  exact p _ Z1 H1 I1 w1 x1 (.bl _)⟩
theorem so_B {t : TE} {m : EM} (h : Sound K W (RepV K) t m) (hb : ∀ s r, m s = some r → ∀ v M, r = .ok v M → ∃ b, v = .p (.bl b)) : Sound K W RepB (tB t) m := so_test h hb
theorem mIsN_bool {m : EM} (s : S) (r : Rs DV) (e : mIsN m s = some r) (v : DV) (M : List O) (hr : r = .ok v M) : ∃ b, v = .p (.bl b) := by
  subst hr
  obtain ⟨a, M1, _, e⟩ := bnd_ok e
  cases e; exact ⟨_, rfl⟩
theorem mNotN_bool {m : EM} (s : S) (r : Rs DV) (e : mNotN m s = some r) (v : DV) (M : List O) (hr : r = .ok v M) : ∃ b, v = .p (.bl b) := by
  subst hr
  obtain ⟨a, M1, _, e⟩ := bnd_ok e
  cases e; exact ⟨_, rfl⟩
theorem de_isN {ta : TE} {m : EM} {j} {pos' : Pos} (ha : DE K X W a ta m) : DE K X W (.Compare a [.Is] [.Constant .none j pos'] pos) (tIsN ta) (mIsN m) := ⟨ha.k, pe_cmp (pc_isN ha.pe), so_isN ha.so⟩
theorem de_notN {ta : TE} {m : EM} {j} {pos' : Pos} (ha : DE K X W a ta m) : DE K X W (.Compare a [.IsNot] [.Constant .none j pos'] pos) (tNotN ta) (mNotN m) := ⟨ha.k, pe_cmp (pc_notN ha.pe), so_notN ha.so⟩
theorem dt_isN {ta : TE} {m : EM} {j} {pos' : Pos} (ha : DE K X W a ta m) : DT K X W (.Compare a [.Is] [.Constant .none j pos'] pos) (tB (tIsN ta)) (mIsN m) := ⟨ha.k, pt_cmp (pc_isN ha.pe), so_B (so_isN ha.so) mIsN_bool⟩
theorem dt_notN {ta : TE} {m : EM} {j} {pos' : Pos} (ha : DE K X W a ta m) : DT K X W (.Compare a [.IsNot] [.Constant .none j pos'] pos) (tB (tNotN ta)) (mNotN m) := ⟨ha.k, pt_cmp (pc_notN ha.pe), so_B (so_notN ha.so) mNotN_bool⟩
/-! ### truth -/
def truD : D → Option Bool
  | .non => some false
  | .bl b => some b
  | .int i => some (i != 0)
  | .str y => if y.length ≤ 1000000 then some (!(y.length == 0)) else none
  | .lst xs => some (!xs.isEmpty)
  | .tup xs => some (!xs.isEmpty)
  | _ => none
def truO : Option O → Option Bool
  | some (.lst xs) => some (!xs.isEmpty)
  | some (.dK xs) => some (!xs.isEmpty)
  | _ => none
def truM (M : List O) : DV → Option Bool
  | .p d => truD d
  | .o n => truO M[n]?
def mTru (m : EM) : EM := bnd m fun d s => match truM s.m d with
  | some b => some (.ok (.p (.bl b)) s.m)
  | none => none
theorem isEmpty_len {α β : Type} {xs : List α} {ys : List β} (h : xs.length = ys.length) : xs.isEmpty = ys.isEmpty := by
  cases xs <;> cases ys <;> first | rfl | cases h
theorem truV_of {Z H : Hp} {I : List Addr} {M : List O} {x : V} {d : DV} {b : Bool} (w : Wf K Z H I M) (h : RepV K Z I x d) (e : truM M d = some b) : TruV K x H b := by
  cases d with
  | o n =>
    obtain ⟨a, ha, rfl⟩ := h
    have e : truO M[n]? = some b := e
    cases q : M[n]? with
    | none => rw [q] at e; cases e
    | some o =>
      rw [q] at e
      cases o with
      | lst xs =>
        obtain ⟨_, ys, h1, h2⟩ := w.ob n a _ ha q (by intro z; cases z)
        cases e
        exact .inl ⟨ys, SqL.of h1, by rw [isEmpty_len (paired_len h2)]⟩
      | dK xs =>
        obtain ⟨_, ys, h1, h2⟩ := w.ob n a _ ha q (by intro z; cases z)
        cases e
        exact .inr (.inr ⟨ys, h1, by rw [isEmpty_len (paired_len h2)]⟩)
      | _ => cases e
  | p d =>
    have h : Rep K Z x d := h
    have e : truD d = some b := e
    cases h with
    | non => cases e; rfl
    | bl k => cases e; rfl
    | int i => cases e; rfl
    | str y =>
      have e : (if y.length ≤ 1000000 then some (!(y.length == 0)) else none) = some b := e
      split at e
      · rename_i hl
        cases e
        refine ⟨size_le hl, ?_⟩
        cases hz : y.length with
        | zero => rfl
        | succ n =>
          have : ¬ ((n : Int) + 1 = 0) := by omega
          simp [this]
      · cases e
    | lst h1 h2 => cases e; exact .inl ⟨_, .inl (same_rd w.sub h1), by rw [isEmpty_len h2.length]⟩
    | tup h1 h2 => cases e; exact .inr (.inl ⟨_, same_t w.sub h1, by rw [isEmpty_len h2.length]⟩)
    | dK _ _ => cases e
    | dT _ _ => cases e
    | fn _ => cases e
    | scr _ _ => cases e
    | ty _ => cases e
theorem dt_tru {ta : TE} {m : EM} (ha : DE K X W a ta m) (he : ∀ whole, isTrue a X.env whole = (do let v ← whole; standAt a.pos; holding [v] (truthy v)) := by intro _; rfl) : DT K X W a (fun σ H Q => ta σ H fun x H' => ∃ k, TruV K x H' k ∧ Q k H') (mTru m) := by
  refine ⟨ha.k, ?_, ⟨fun σ H s Z I r0 Q w rs e p => ?_⟩⟩
  · rw [← ha.k]; exact pt_truth ha.pe he
  refine ha.so.bnd w rs e (p.x) fun d v M1 Z1 H1 I1 w1 rs1 x1 q1 e1 => ?_
  have e1 : (match truM M1 d with | some b => some (Rs.ok (DV.p (.bl b)) M1) | none => none) = some r0 := e1
  cases q : truM M1 d with
  | none => rw [q] at e1; cases e1
  | some k =>
    rw [q] at e1
    obtain rfl := Option.some.inj e1
    exact ⟨k, truV_of w1 q1 q, p k Z1 H1 I1 w1 x1 rfl⟩
/-! ### and, or, not, if-else -/
def ifM {γ : Type} (n k : Mi γ) : DV → Mi γ
  | .p (.bl true), s => n s
  | .p (.bl false), s => k s
  | _, _ => none
def fls : EM := fun s => some (.ok (.p (.bl false)) s.m)
def tru : EM := fun s => some (.ok (.p (.bl true)) s.m)
def mAnd (m n : EM) : EM := bnd m (ifM n fls)
def mOr (m n : EM) : EM := bnd m (ifM tru n)
def mNot (m : EM) : EM := bnd m (ifM fls tru)
def mIf (c m n : EM) : EM := bnd c (ifM m n)
theorem so_and {t u : TT} {m n : EM} (ha : Sound K W RepB t m) (hb : Sound K W RepB u n) : Sound K W RepB (tAnd t u) (mAnd m n) := ⟨fun σ H s Z I r0 Q w rs e p => by
  refine ha.bnd w rs e (p.x) fun d v M1 Z1 H1 I1 w1 rs1 x1 q1 e1 => ?_
  cases (show d = .p (.bl v) from q1)
  cases v with
  | true => exact hb.ok σ H1 ⟨s.l, M1⟩ Z1 I1 r0 Q w1 rs1 e1 (p.mono x1)
  | false => cases e1; exact p false Z1 H1 I1 w1 x1 rfl⟩
theorem so_or {t u : TT} {m n : EM} (ha : Sound K W RepB t m) (hb : Sound K W RepB u n) : Sound K W RepB (tOr t u) (mOr m n) := ⟨fun σ H s Z I r0 Q w rs e p => by
  refine ha.bnd w rs e (p.x) fun d v M1 Z1 H1 I1 w1 rs1 x1 q1 e1 => ?_
  cases (show d = .p (.bl v) from q1)
  cases v with
  | false => exact hb.ok σ H1 ⟨s.l, M1⟩ Z1 I1 r0 Q w1 rs1 e1 (p.mono x1)
  | true => cases e1; exact p true Z1 H1 I1 w1 x1 rfl⟩
theorem so_not {t : TT} {m : EM} (ha : Sound K W RepB t m) : Sound K W RepB (tNot t) (mNot m) := ⟨fun σ H s Z I r0 Q w rs e p => by
  refine ha.bnd w rs e (p.x) fun d v M1 Z1 H1 I1 w1 rs1 x1 q1 e1 => ?_
  cases (show d = .p (.bl v) from q1)
  cases v with
  | false => cases e1; exact p true Z1 H1 I1 w1 x1 rfl
  | true => cases e1; exact p false Z1 H1 I1 w1 x1 rfl⟩
theorem dw_and1 {t : TT} {m : EM} (ha : DT K X W a t m) : DW K X W (.BoolOp .And [a] pos) t m := ⟨ha.k, pw_and1 ha.pt, ha.so⟩
theorem dw_or1 {t : TT} {m : EM} (ha : DT K X W a t m) : DW K X W (.BoolOp .Or [a] pos) t m := ⟨ha.k, pw_or1 ha.pt, ha.so⟩
theorem dw_and {t u : TT} {m n : EM} {rest : List Expr} (ha : DT K X W a t m) (hb : DW K X W (.BoolOp .And (b :: rest) pos) u n) : DW K X W (.BoolOp .And (a :: b :: rest) pos) (tAnd t u) (mAnd m n) := ⟨ha.k, pw_and ha.pt hb.pw, so_and ha.so hb.so⟩
theorem dw_or {t u : TT} {m n : EM} {rest : List Expr} (ha : DT K X W a t m) (hb : DW K X W (.BoolOp .Or (b :: rest) pos) u n) : DW K X W (.BoolOp .Or (a :: b :: rest) pos) (tOr t u) (mOr m n) := ⟨ha.k, pw_or ha.pt hb.pw, so_or ha.so hb.so⟩
theorem dt_w {t : TT} {m : EM} (h : DW K X W a t m) : DT K X W a t m := ⟨h.k, h.pw.pt, h.so⟩
theorem dt_not {t : TT} {m : EM} (h : DT K X W a t m) : DT K X W (.UnaryOp .Not a pos) (tNot t) (mNot m) := ⟨h.k, pt_not h.pt, so_not h.so⟩
/-- as values -/
theorem so_andV {t u : TE} {m n : EM} (ha : Sound K W (RepV K) t m) (hb : Sound K W (RepV K) u n) : Sound K W (RepV K) (tAndV t u) (mAnd m n) := ⟨fun σ H s Z I r0 Q w rs e p => by
  refine ha.bnd w rs e (p.x) fun d v M1 Z1 H1 I1 w1 rs1 x1 q1 e1 => ?_
  unfold ifM at e1
  split at e1
  · cases q1; exact ⟨true, rfl, by rw [if_pos rfl]; exact hb.ok σ H1 ⟨s.l, M1⟩ Z1 I1 r0 Q w1 rs1 e1 (p.mono x1)⟩
  · cases q1; cases e1; exact ⟨false, rfl, by rw [if_neg Bool.false_ne_true]; exact p _ Z1 H1 I1 w1 x1 (.bl _)⟩
  · cases e1⟩
theorem so_orV {t u : TE} {m n : EM} (ha : Sound K W (RepV K) t m) (hb : Sound K W (RepV K) u n) : Sound K W (RepV K) (tOrV t u) (mOr m n) := ⟨fun σ H s Z I r0 Q w rs e p => by
  refine ha.bnd w rs e (p.x) fun d v M1 Z1 H1 I1 w1 rs1 x1 q1 e1 => ?_
  unfold ifM at e1
  split at e1
  · cases q1; cases e1; exact ⟨true, rfl, by rw [if_pos rfl]; exact p _ Z1 H1 I1 w1 x1 (.bl _)⟩
  · cases q1; exact ⟨false, rfl, by rw [if_neg Bool.false_ne_true]; exact hb.ok σ H1 ⟨s.l, M1⟩ Z1 I1 r0 Q w1 rs1 e1 (p.mono x1)⟩
  · cases e1⟩
theorem so_notV {t : TE} {m : EM} (ha : Sound K W (RepV K) t m) : Sound K W (RepV K) (tNotV t) (mNot m) := ⟨fun σ H s Z I r0 Q w rs e p => by
  refine ha.bnd w rs e (p.x) fun d v M1 Z1 H1 I1 w1 rs1 x1 q1 e1 => ?_
  unfold ifM at e1
  split at e1
  · cases q1; cases e1; exact ⟨true, rfl, p _ Z1 H1 I1 w1 x1 (.bl _)⟩
  · cases q1; cases e1; exact ⟨false, rfl, p _ Z1 H1 I1 w1 x1 (.bl _)⟩
  · cases e1⟩
theorem de_one {op} {t : TE} {m : EM} (ha : DE K X W a t m) : DE K X W (.BoolOp op [a] pos) t m := ⟨ha.k, pe_one ha.pe, ha.so⟩
theorem de_and {t u : TE} {m n : EM} {rest : List Expr} (ha : DE K X W a t m) (hb : DE K X W (.BoolOp .And (b :: rest) pos) u n) : DE K X W (.BoolOp .And (a :: b :: rest) pos) (tAndV t u) (mAnd m n) := ⟨ha.k, pe_and ha.pe hb.pe, so_andV ha.so hb.so⟩
theorem de_or {t u : TE} {m n : EM} {rest : List Expr} (ha : DE K X W a t m) (hb : DE K X W (.BoolOp .Or (b :: rest) pos) u n) : DE K X W (.BoolOp .Or (a :: b :: rest) pos) (tOrV t u) (mOr m n) := ⟨ha.k, pe_or ha.pe hb.pe, so_orV ha.so hb.so⟩
theorem de_not {t : TE} {m : EM} (h : DE K X W a t m) : DE K X W (.UnaryOp .Not a pos) (tNotV t) (mNot m) := ⟨h.k, pe_not h.pe, so_notV h.so⟩
theorem so_ifE {t : TT} {ta tb : TE} {m n k : EM} (hc : Sound K W RepB t m) (ha : Sound K W (RepV K) ta n) (hb : Sound K W (RepV K) tb k) : Sound K W (RepV K) (tIf t ta tb) (mIf m n k) := ⟨fun σ H s Z I r0 Q w rs e p => by
  refine hc.bnd w rs e (p.x) fun d v M1 Z1 H1 I1 w1 rs1 x1 q1 e1 => ?_
  cases (show d = .p (.bl v) from q1)
  cases v with
  | true => exact ha.ok σ H1 ⟨s.l, M1⟩ Z1 I1 r0 Q w1 rs1 e1 (p.mono x1)
  | false => exact hb.ok σ H1 ⟨s.l, M1⟩ Z1 I1 r0 Q w1 rs1 e1 (p.mono x1)⟩
theorem de_ifE {t : TT} {ta tb : TE} {m n k : EM} (hc : DT K X W c t m) (ha : DE K X W a ta n) (hb : DE K X W b tb k) : DE K X W (.IfExp c a b pos) (tIf t ta tb) (mIf m n k) := ⟨hc.k, pe_ifExp hc.pt ha.pe hb.pe, so_ifE hc.so ha.so hb.so⟩
/-- a value that is a truth, as a test -/
def asB (m : EM) : EM := bnd m (ifM tru fls)
theorem dt_val {t : TE} {m : EM} (h : DE K X W a t m) (he : ∀ whole, isTrue a X.env whole = (do let v ← whole; standAt a.pos; holding [v] (truthy v)) := by intro _; rfl) : DT K X W a (tB t) (asB m) := ⟨h.k, pt_val h.pe he, ⟨fun σ H s Z I r0 Q w rs e p => by
  refine h.so.bnd w rs e (p.x) fun d v M1 Z1 H1 I1 w1 rs1 x1 q1 e1 => ?_
  unfold ifM at e1
  split at e1
  · cases q1; cases e1; exact ⟨true, rfl, p true Z1 H1 I1 w1 x1 rfl⟩
  · cases q1; cases e1; exact ⟨false, rfl, p false Z1 H1 I1 w1 x1 rfl⟩
  · cases e1⟩⟩
/-! ### a chain of two comparisons -/
def mChain (g h : D → D → Option D) (m n k : EM) : EM := bnd m (pur fun d => bnd n (pur fun e => bnd (ret (g d e)) (ifM (bnd k (pur fun f => ret (h e f))) fls)))
theorem so_chain {r r' : R2} {g h : D → D → Option D} {ta tb tc : TE} {m n k : EM} (hg : ∀ (x y : V) (d e c : D) (Z H : Hp) (Q : VK), Same Z H → Rep K Z x d → Rep K Z y e → g d e = some c → PostP K Z H c Q → r x y H Q)
    (hh : ∀ (x y : V) (d e c : D) (Z H : Hp) (Q : VK), Same Z H → Rep K Z x d → Rep K Z y e → h d e = some c → PostP K Z H c Q → r' x y H Q)
    (ha : Sound K W (RepV K) ta m) (hb : Sound K W (RepV K) tb n) (hc : Sound K W (RepV K) tc k) : Sound K W (RepV K) (tChain r r' ta tb tc) (mChain g h m n k) := ⟨fun σ H s Z I r0 Q w rs e p => by
  refine ha.bnd w rs e (p.x) fun d v M1 Z1 H1 I1 w1 rs1 x1 q1 e1 => ?_
  obtain ⟨d, rfl, e1⟩ := pur_ok e1
  have p1 := p.mono x1
  refine hb.bnd (s := ⟨s.l, M1⟩) w1 rs1 e1 (p1.x) fun d2 v2 M2 Z2 H2 I2 w2 rs2 x2 q2 e2 => ?_
  obtain ⟨d2, rfl, e2⟩ := pur_ok e2
  have p2 := p1.mono x2
  cases hq : g d d2 with
  | none =>
    have e2 : bnd (ret (g d d2)) (ifM (bnd k (pur fun f => ret (h d2 f))) fls) ⟨s.l, M2⟩ = some r0 := e2
    rw [hq] at e2; cases e2
  | some c =>
    have e2 : bnd (ret (g d d2)) (ifM (bnd k (pur fun f => ret (h d2 f))) fls) ⟨s.l, M2⟩ = some r0 := e2
    rw [hq] at e2
    have e2 : ifM (bnd k (pur fun f => ret (h d2 f))) fls (.p c) ⟨s.l, M2⟩ = some r0 := e2
    refine hg v v2 d d2 c Z2 H2 _ w2.sub (Rep.mono x2.z q1) q2 hq fun v3 Z3 H3 x3 q3 => ?_
    have w3 := w2.extP x3
    have y3 := x3.ext w2
    have p3 := p2.mono y3
    have rs3 := rs2.mono y3
    unfold ifM at e2
    split at e2
    · rename_i hz
      cases hz
      cases q3
      refine ⟨true, rfl, ?_⟩
      rw [if_pos rfl]
      refine hc.bnd (s := ⟨s.l, M2⟩) w3 rs3 e2 (p3.x) fun d4 v4 M4 Z4 H4 I4 w4 rs4 x4 q4 e4 => ?_
      obtain ⟨d4, rfl, e4⟩ := pur_ok e4
      obtain ⟨c, q, rfl⟩ := ret_ok e4
      exact hh v2 v4 d2 d4 c Z4 H4 Q w4.sub (Rep.mono x4.z (Rep.mono x3.z q2)) q4 q (PostP.of w4 (p3.mono x4))
    · rename_i hz
      cases hz
      cases q3
      cases e2
      refine ⟨false, rfl, ?_⟩
      rw [if_neg Bool.false_ne_true]
      exact p3 _ Z3 H3 I2 w3 Ext.refl (.bl _)
    · cases e2⟩
theorem de_chain {op op' : CmpOp} {r r' : R2} {g h : D → D → Option D} {ta tb tc : TE} {m n k : EM} (hg : OpD K X (compareOp op) r g) (hh : OpD K X (compareOp op') r' h) (ha : DE K X W a ta m) (hb : DE K X W b tb n) (hc : DE K X W c tc k)
    (hm : lastMarks [op, op'] [b, c] = false := by with_unfolding_all rfl) : DE K X W (.Compare a [op, op'] [b, c] pos) (tChain r r' ta tb tc) (mChain g h m n k) :=
  ⟨ha.k, pe_chain (hg.op ha.k) (hh.op ha.k) ha.pe hb.pe hc.pe hm, so_chain hg.ok hh.ok ha.so hb.so hc.so⟩
theorem mChain_bool {g h : D → D → Option D} {m n k : EM} (hb : boolD h) (s : S) (r : Rs DV) (e : mChain g h m n k s = some r) (v : DV) (M : List O) (hr : r = .ok v M) : ∃ b, v = .p (.bl b) := by
  subst hr
  obtain ⟨a, M1, _, e⟩ := bnd_ok e
  obtain ⟨d, _, e⟩ := pur_ok e
  obtain ⟨a2, M2, _, e⟩ := bnd_ok e
  obtain ⟨d2, _, e⟩ := pur_ok e
  obtain ⟨a3, M3, _, e⟩ := bnd_ok e
  unfold ifM at e
  split at e
  · obtain ⟨a4, M4, _, e⟩ := bnd_ok e
    obtain ⟨d4, _, e⟩ := pur_ok e
    obtain ⟨c, q, e⟩ := ret_ok e
    cases e
    obtain ⟨b, rfl⟩ := hb _ _ _ q
    exact ⟨b, rfl⟩
  · cases e; exact ⟨_, rfl⟩
  · cases e
theorem dt_chain {op op' : CmpOp} {r r' : R2} {g h : D → D → Option D} {ta tb tc : TE} {m n k : EM} (hg : OpD K X (compareOp op) r g) (hh : OpD K X (compareOp op') r' h) (hbo : boolD h) (ha : DE K X W a ta m) (hb : DE K X W b tb n) (hc : DE K X W c tc k)
    (hm : lastMarks [op, op'] [b, c] = false := by with_unfolding_all rfl) : DT K X W (.Compare a [op, op'] [b, c] pos) (tTest (tChain r r' ta tb tc)) (mChain g h m n k) :=
  ⟨ha.k, pt_chain (hg.op ha.k) (hh.op ha.k) ha.pe hb.pe hc.pe hm, so_test (so_chain hg.ok hh.ok ha.so hb.so hc.so) (mChain_bool hbo)⟩
end
end DL
namespace DL
open PySem L2
section
variable {K : PySem.W.Frag} {Z H Z' H' : Hp} {I I' : List Addr} {M : List O}
/-! ### the store's steps -/
theorem RepO.ext {a : Addr} (x : Ext Z H I Z' H' I') (ha : H' a = H a) : ∀ {o : O}, RepO K Z I H a o → RepO K Z' I' H' a o
  | .lst _, ⟨xs, h, r⟩ => ⟨xs, ha.trans h, paired_imp (fun _ _ q => RepV.mono x q) r⟩
  | .dK _, ⟨xs, h, r⟩ => ⟨xs, ha.trans h, paired_imp (fun _ _ q => ⟨q.1, RepV.mono x q.2⟩) r⟩
  | .dT _, ⟨xs, h, r⟩ => ⟨xs, ha.trans h, paired_imp (fun _ _ q => ⟨q.1, RepV.mono x q.2⟩) r⟩
  | .ins _ _, ⟨dx, xs, h, r⟩ => ⟨dx, xs, ha.trans h, paired_imp (fun _ _ q => ⟨q.1, RepV.mono x q.2⟩) r⟩
  | .gone, _ => trivial
theorem ext_new {p : Addr} {o : HO} (s : Same Z H) (h : H p = none) : Ext Z H I Z (upd H p o) (I ++ [p]) where
  z := Same.refl _
  i := ⟨[p], rfl⟩
  fr := fun a u e _ => by rw [upd_ne (ne_of_none e h)]; exact e
  nw := fun a m => by
    rcases List.mem_append.mp m with k | k
    · exact .inl k
    · rw [List.mem_singleton.mp k]; exact .inr h
  zn := fun a e => .inl e
  tr := fun a e => by
    rw [upd_ne (fun q => e (by rw [q]; exact h))]; exact e
theorem Wf.newO (w : Wf K Z H I M) {p : Addr} {ho : HO} {o : O} (hp : H p = none) (r : RepO K Z (I ++ [p]) (upd H p ho) p o) : Wf K Z (upd H p ho) (I ++ [p]) (M ++ [o]) where
  sub := fun a u e => by rw [upd_ne (ne_of_none (w.sub a u e) hp)]; exact w.sub a u e
  len := by rw [List.length_append, List.length_append, w.len]; rfl
  nd := by
    refine List.nodup_append.mpr ⟨w.nd, by simp, fun a ha b hb => ?_⟩
    rw [List.mem_singleton.mp hb]
    intro q
    exact w.tr a ha (by rw [q]; exact hp)
  tr := fun a m => by
    rcases List.mem_append.mp m with k | k
    · rw [upd_ne (fun q => w.tr a k (by rw [q]; exact hp))]; exact w.tr a k
    · rw [List.mem_singleton.mp k, upd_same]; simp
  ob := fun n a o' h1 h2 h3 => by
    by_cases hn : n < I.length
    · rw [List.getElem?_append_left hn] at h1
      rw [List.getElem?_append_left (by rw [← w.len]; exact hn)] at h2
      obtain ⟨q1, q2⟩ := w.ob n a o' h1 h2 h3
      exact ⟨q1, q2.ext (ext_new w.sub hp) (upd_ne fun q => w.tr a (List.mem_of_getElem? h1) (by rw [q]; exact hp))⟩
    · have e1 : n = I.length := by
        have := (List.getElem?_eq_some_iff.mp h1).1
        rw [List.length_append, List.length_singleton] at this
        omega
      subst e1
      rw [List.getElem?_append_right (Nat.le_refl _), Nat.sub_self] at h1
      rw [List.getElem?_append_right (by rw [w.len]; exact Nat.le_refl _), w.len, Nat.sub_self] at h2
      cases h1
      cases h2
      exact ⟨none_of w.sub hp, r⟩
theorem ext_set {a : Addr} {ho : HO} (ha : a ∈ I) : Ext Z H I Z (upd H a ho) I where
  z := Same.refl _
  i := ⟨[], by simp⟩
  fr := fun b u e n => by rw [upd_ne (fun q => n (by rw [q]; exact ha))]; exact e
  nw := fun _ m => .inl m
  zn := fun _ e => .inl e
  tr := fun b e => by
    by_cases q : b = a
    · rw [q, upd_same]; simp
    · rw [upd_ne q]; exact e
theorem Wf.setO (w : Wf K Z H I M) {n : Nat} {a : Addr} {ho : HO} {o o' : O} (ha : I[n]? = some a) (hm : M[n]? = some o) (hg : o ≠ .gone) (r : RepO K Z I (upd H a ho) a o') : Wf K Z (upd H a ho) I (M.set n o') where
  sub := fun b u e => by
    have q := (w.ob n a o ha hm hg).1
    rw [upd_ne (fun z => by rw [z, q] at e; cases e)]; exact w.sub b u e
  len := by rw [List.length_set]; exact w.len
  nd := w.nd
  tr := fun b m => (ext_set (Z := Z) (I := I) (List.mem_of_getElem? ha)).tr b (w.tr b m)
  ob := fun j b u h1 h2 h3 => by
    by_cases q : n = j
    · subst q
      rw [ha] at h1; cases h1
      rw [List.getElem?_set_self (List.getElem?_eq_some_iff.mp hm).1] at h2
      cases h2
      exact ⟨(w.ob n a o ha hm hg).1, r⟩
    · rw [List.getElem?_set_ne q] at h2
      obtain ⟨q1, q2⟩ := w.ob j b u h1 h2 h3
      refine ⟨q1, q2.ext (ext_set (List.mem_of_getElem? ha)) (upd_ne fun z => ?_)⟩
      obtain ⟨l1, e1⟩ := List.getElem?_eq_some_iff.mp ha
      obtain ⟨l2, e2⟩ := List.getElem?_eq_some_iff.mp h1
      exact q ((List.getElem_inj w.nd).mp (e1.trans (z.symm.trans e2.symm)))
def allP : List DV → Option (List D)
  | [] => some []
  | .p d :: r => (allP r).map (d :: ·)
  | .o _ :: _ => none
theorem allP_rep : ∀ {vs : List V} {ds : List DV} {xs : List D}, RepVs K Z I vs ds → allP ds = some xs → RepA K Z vs xs
  | _, [], _, .nil, e => by cases e; exact .nil
  | _, .p d :: r, _, .cons h t, e => by
    have e : (allP r).map (d :: ·) = some _ := e
    cases q : allP r with
    | none => rw [q] at e; cases e
    | some ys =>
      rw [q] at e; cases e
      exact .cons h (allP_rep t q)
  | _, .o n :: r, _, .cons h t, e => by cases e
theorem allP_map : ∀ {vs : List V} {xs : List D}, RepA K Z vs xs → RepVs K Z I vs (xs.map .p)
  | _, _, .nil => .nil
  | _, _, .cons h t => .cons h (allP_map t)
/-- one's own list is given up: from now on it stays -/
theorem ext_frz {n : Nat} {a : Addr} {ho : HO} (w : Wf K Z H I M) (ha : I[n]? = some a) (hz : Z a = none) (hh : H a = some ho) : Ext Z H I (upd Z a ho) H I where
  z := same_upd hz
  i := ⟨[], by simp⟩
  fr := fun _ _ e _ => e
  nw := fun _ m => .inl m
  zn := fun b e => by
    by_cases q : b = a
    · rw [q]; exact .inr (.inr (List.mem_of_getElem? ha))
    · rw [upd_ne q] at e; exact .inl e
  tr := fun _ e => e
theorem Wf.frz (w : Wf K Z H I M) {n : Nat} {a : Addr} {ho : HO} {o : O} (ha : I[n]? = some a) (hm : M[n]? = some o) (hg : o ≠ .gone) (hh : H a = some ho) : Wf K (upd Z a ho) H I (M.set n .gone) where
  sub := fun b u e => by
    by_cases q : b = a
    · rw [q, upd_same] at e; rw [q, hh]; exact e
    · rw [upd_ne q] at e; exact w.sub b u e
  len := by rw [List.length_set]; exact w.len
  nd := w.nd
  tr := w.tr
  ob := fun j b u h1 h2 h3 => by
    by_cases q : n = j
    · subst q
      rw [List.getElem?_set_self (List.getElem?_eq_some_iff.mp hm).1] at h2
      cases h2
      exact absurd rfl h3
    · rw [List.getElem?_set_ne q] at h2
      obtain ⟨q1, q2⟩ := w.ob j b u h1 h2 h3
      have hz := (w.ob n a o ha hm hg).1
      refine ⟨?_, q2.ext (ext_frz w ha hz hh) rfl⟩
      rw [upd_ne fun z => ?_]
      · exact q1
      obtain ⟨l1, e1⟩ := List.getElem?_eq_some_iff.mp ha
      obtain ⟨l2, e2⟩ := List.getElem?_eq_some_iff.mp h1
      exact q ((List.getElem_inj w.nd).mp (e1.trans (z.symm.trans e2.symm)))
end
section
variable {K : PySem.W.Frag} {X : Cx} {W : WX} {e a b c : Expr} {es : List Expr} {pos : Pos}
/-! ### argument lists, displays -/
def aNil : AM := fun s => some (.ok [] s.m)
def aCons (m : EM) (ms : AM) : AM := bnd m fun d => bnd ms fun ds s => some (.ok (d :: ds) s.m)
theorem so_aNil : Sound K W (RepVs K) tNil aNil := ⟨fun σ H s Z I r Q w rs e p => by
  obtain rfl := Option.some.inj e
  exact p [] Z H I w Ext.refl .nil⟩
theorem so_aCons {ta : TE} {tr : TA} {m : EM} {ms : AM} (ha : Sound K W (RepV K) ta m) (hr : Sound K W (RepVs K) tr ms) : Sound K W (RepVs K) (tCons ta tr) (aCons m ms) := ⟨fun σ H s Z I r0 Q w rs e p => by
  refine ha.bnd w rs e (p.x) fun d v M1 Z1 H1 I1 w1 rs1 x1 q1 e1 => ?_
  have p1 := p.mono x1
  refine hr.bnd (s := ⟨s.l, M1⟩) w1 rs1 e1 (p1.x) fun ds vs M2 Z2 H2 I2 w2 rs2 x2 q2 e2 => ?_
  obtain rfl := Option.some.inj e2
  exact p1 _ Z2 H2 I2 w2 x2 (.cons (q1.mono x2) q2)⟩
theorem da_nil (k : X.K = K := by rfl) : DA K X W [] tNil aNil := ⟨k, pa_nil, so_aNil⟩
theorem da_cons {ta : TE} {tr : TA} {m : EM} {ms : AM} (ha : DE K X W e ta m) (hr : DA K X W es tr ms) (hs : starEach (e :: es) X.env = (false, eval e X.env) :: starEach es X.env := by rfl) : DA K X W (e :: es) (tCons ta tr) (aCons m ms) :=
  ⟨ha.k, pa_cons ha.pe hr.pa hs, so_aCons ha.so hr.so⟩
def disp (g : List D → D) (ms : AM) : EM := bnd ms fun ds s => match allP ds with
  | some xs => if xs.length ≤ 1000000 then some (.ok (.p (g xs)) s.m) else none
  | none => none
theorem so_tup {t : TA} {ms : AM} (h : Sound K W (RepVs K) t ms) : Sound K W (RepV K) (tTup t) (disp .tup ms) := ⟨fun σ H s Z I r0 Q w rs e p => by
  refine h.bnd w rs e (p.x) fun ds vs M1 Z1 H1 I1 w1 rs1 x1 q1 e1 => ?_
  have e1 : (match allP ds with | some xs => if xs.length ≤ 1000000 then some (Rs.ok (DV.p (D.tup xs)) M1) else none | none => none) = some r0 := e1
  cases q : allP ds with
  | none => rw [q] at e1; cases e1
  | some xs =>
    rw [q] at e1
    have e1 : (if xs.length ≤ 1000000 then some (Rs.ok (DV.p (D.tup xs)) M1) else none) = some r0 := e1
    split at e1
    · rename_i hl
      obtain rfl := Option.some.inj e1
      have ra := allP_rep q1 q
      refine ⟨by rw [ra.length]; exact size_le hl, fun l hl => ?_⟩
      have y := ExtP.new (o := .tup vs) w1.sub hl
      exact (p.mono x1) _ _ _ I1 (w1.extP y) (y.ext w1) (.tup (.inl (.inl upd_same)) (ra.mono y.z))
    · cases e1⟩
theorem so_lst {t : TA} {ms : AM} (h : Sound K W (RepVs K) t ms) : Sound K W (RepV K) (tLst t) (disp .lst ms) := ⟨fun σ H s Z I r0 Q w rs e p => by
  refine h.bnd w rs e (p.x) fun ds vs M1 Z1 H1 I1 w1 rs1 x1 q1 e1 => ?_
  have e1 : (match allP ds with | some xs => if xs.length ≤ 1000000 then some (Rs.ok (DV.p (D.lst xs)) M1) else none | none => none) = some r0 := e1
  cases q : allP ds with
  | none => rw [q] at e1; cases e1
  | some xs =>
    rw [q] at e1
    have e1 : (if xs.length ≤ 1000000 then some (Rs.ok (DV.p (D.lst xs)) M1) else none) = some r0 := e1
    split at e1
    · rename_i hl
      obtain rfl := Option.some.inj e1
      have ra := allP_rep q1 q
      refine ⟨by rw [ra.length]; exact size_le hl, fun l hl => ?_⟩
      have y := ExtP.new (o := .lst vs) w1.sub hl
      exact (p.mono x1) _ _ _ I1 (w1.extP y) (y.ext w1) (.lst (.inl upd_same) (ra.mono y.z))
    · cases e1⟩
def dispO (ms : AM) : EM := bnd ms fun ds s => if ds.length ≤ 1000000 then some (.ok (.o s.m.length) (s.m ++ [.lst ds])) else none
theorem so_lstO {t : TA} {ms : AM} (h : Sound K W (RepVs K) t ms) : Sound K W (RepV K) (tLst t) (dispO ms) := ⟨fun σ H s Z I r0 Q w rs e p => by
  refine h.bnd w rs e (p.x) fun ds vs M1 Z1 H1 I1 w1 rs1 x1 q1 e1 => ?_
  have e1 : (if ds.length ≤ 1000000 then some (Rs.ok (DV.o M1.length) (M1 ++ [.lst ds])) else none) = some r0 := e1
  split at e1
  · rename_i hl
    obtain rfl := Option.some.inj e1
    refine ⟨by rw [paired_len q1]; exact size_le hl, fun l hp => ?_⟩
    have y := ext_new (I := I1) (o := .lst vs) w1.sub hp
    refine (p.mono x1) _ Z1 _ (I1 ++ [l]) (w1.newO hp ⟨vs, upd_same, paired_imp (fun _ _ q => RepV.mono y q) q1⟩) y ⟨l, ?_, rfl⟩
    rw [← w1.len, List.getElem?_append_right (Nat.le_refl _), Nat.sub_self]
    rfl
  · cases e1⟩
theorem de_tup {t : TA} {ms : AM} {x1} (h : DA K X W es t ms) : DE K X W (.Tuple es x1 pos) (tTup t) (disp .tup ms) := ⟨h.k, pe_tup h.pa, so_tup h.so⟩
theorem de_lst {t : TA} {ms : AM} (h : DA K X W es t ms) : DE K X W (.List es pos) (tLst t) (disp .lst ms) := ⟨h.k, pe_lst h.pa, so_lst h.so⟩
theorem de_lstO {t : TA} {ms : AM} (h : DA K X W es t ms) : DE K X W (.List es pos) (tLst t) (dispO ms) := ⟨h.k, pe_lst h.pa, so_lstO h.so⟩
/-! ### an item -/
def ixD : D → Int → Option D
  | .lst xs, i => atI xs i
  | .tup xs, i => atI xs i
  | .str z, i => if z.length ≤ 1000000 then (atI z.cps.toList i).map fun c => .str ⟨#[c]⟩ else none
  | _, _ => none
def ixO : Option O → Int → Option DV
  | some (.lst xs), i => atI xs i
  | _, _ => none
def ixM (M : List O) : DV → Int → Option DV
  | .p d, i => (ixD d i).map .p
  | .o n, i => ixO M[n]? i
def mIx (m n : EM) : EM := bnd m fun d => bnd n (pur fun i s => match i with
  | .int i => match ixM s.m d i with
    | some c => some (.ok c s.m)
    | none => none
  | _ => none)
theorem atI_get {α : Type} {xs : List α} {i : Int} {x : α} (h : atI xs i = some x) : ∃ j, ixN xs.length i = some j ∧ xs[j]? = some x := by
  unfold atI at h
  cases q : ixN xs.length i with
  | none => rw [q] at h; cases h
  | some j => rw [q] at h; exact ⟨j, rfl, h⟩
theorem atI_rep {Z : Hp} {xs : List V} {ds : List D} {i : Int} {d : D} (r : RepA K Z xs ds) (h : atI ds i = some d) : ∃ v, atI xs i = some v ∧ Rep K Z v d := by
  obtain ⟨j, h1, h2⟩ := atI_get h
  obtain ⟨v, h3, h4⟩ := r.get h2
  exact ⟨v, by unfold atI; rw [r.length, h1]; exact h3, h4⟩
theorem atI_repV {Z : Hp} {I : List Addr} {xs : List V} {ds : List DV} {i : Int} {d : DV} (r : RepVs K Z I xs ds) (h : atI ds i = some d) : ∃ v, atI xs i = some v ∧ RepV K Z I v d := by
  obtain ⟨j, h1, h2⟩ := atI_get h
  obtain ⟨v, h3, h4⟩ := paired_get r h2
  exact ⟨v, by unfold atI; rw [paired_len r, h1]; exact h3, h4⟩
theorem ix_ok {Z H : Hp} {I : List Addr} {M : List O} {x : V} {d c : DV} {i : Int} {Q : VK} (w : Wf K Z H I M) (h : RepV K Z I x d) (e : ixM M d i = some c) (q : ∀ v, RepV K Z I v c → Q v H) : rIx K x (.int i) H Q := by
  cases d with
  | o n =>
    obtain ⟨a, ha, rfl⟩ := h
    have e : ixO M[n]? i = some c := e
    cases z : M[n]? with
    | none => rw [z] at e; cases e
    | some o =>
      rw [z] at e
      cases o with
      | lst xs =>
        obtain ⟨_, ys, h1, h2⟩ := w.ob n a _ ha z (by intro z; cases z)
        obtain ⟨v, h3, h4⟩ := atI_repV h2 e
        exact .inl ⟨_, ys, i, v, rfl, rfl, SqL.of h1, h3, q v h4⟩
      | _ => cases e
  | p d =>
    have h : Rep K Z x d := h
    have e : (ixD d i).map .p = some c := e
    cases z : ixD d i with
    | none => rw [z] at e; cases e
    | some c' =>
    rw [z] at e; cases e
    cases h with
    | lst h1 h2 =>
      obtain ⟨v, h3, h4⟩ := atI_rep h2 (show atI _ i = some c' from z)
      exact .inl ⟨_, _, i, v, rfl, rfl, .inl (same_rd w.sub h1), h3, q v h4⟩
    | tup h1 h2 =>
      obtain ⟨v, h3, h4⟩ := atI_rep h2 (show atI _ i = some c' from z)
      exact .inr (.inl ⟨_, _, i, v, rfl, rfl, same_t w.sub h1, h3, q v h4⟩)
    | str y =>
      have z : (if y.length ≤ 1000000 then (atI y.cps.toList i).map fun c => D.str ⟨#[c]⟩ else none) = some c' := z
      split at z
      · rename_i hl
        cases z2 : atI y.cps.toList i with
        | none => rw [z2] at z; cases z
        | some k =>
          rw [z2] at z; cases z
          exact .inr (.inr ⟨y, i, k, rfl, rfl, size_le hl, z2, q _ (.str _)⟩)
      · cases z
    | _ => cases z
theorem so_ix {ta tb : TE} {m n : EM} (ha : Sound K W (RepV K) ta m) (hb : Sound K W (RepV K) tb n) : Sound K W (RepV K) (tOp (rIx K) ta tb) (mIx m n) := ⟨fun σ H s Z I r0 Q w rs e p => by
  refine ha.bnd w rs e (p.x) fun d v M1 Z1 H1 I1 w1 rs1 x1 q1 e1 => ?_
  have p1 := p.mono x1
  refine hb.bnd (s := ⟨s.l, M1⟩) w1 rs1 e1 (p1.x) fun d2 v2 M2 Z2 H2 I2 w2 rs2 x2 q2 e2 => ?_
  obtain ⟨d2, rfl, e2⟩ := pur_ok e2
  have p2 := p1.mono x2
  cases d2 with
  | int i =>
    have e2 : (match ixM M2 d i with | some c => some (Rs.ok c M2) | none => none) = some r0 := e2
    cases q2
    cases z : ixM M2 d i with
    | none => rw [z] at e2; cases e2
    | some c =>
      rw [z] at e2; cases e2
      exact ix_ok w2 (q1.mono x2) z fun v r => p2 v Z2 H2 I2 w2 Ext.refl r
  | _ => cases e2⟩
theorem de_ix {ta tb : TE} {m n : EM} (ha : DE K X W a ta m) (hb : DE K X W b tb n) (hs : PlainIx b := by exact fun _ _ => rfl) : DE K X W (.Subscript a b pos) (tOp (rIx K) ta tb) (mIx m n) := by
  refine ⟨ha.k, ?_, so_ix ha.so hb.so⟩
  have h := pe_ix (X := X) (pos := pos) ix_seq ha.pe hb.pe hs
  rw [ha.k] at h
  exact h
/-! ### built-in calls -/
structure CallD (K : PySem.W.Frag) (X : Cx) (f : Value) (r : List V → Hp → VK → Prop) (g : List O → List DV → Option D) : Prop where
  op : X.K = K → CallR X f r
  ok : ∀ (vs : List V) (ds : List DV) (c : D) (Z H : Hp) (I : List Addr) (M : List O) (Q : VK), Wf K Z H I M → RepVs K Z I vs ds → g M ds = some c → PostP K Z H c Q → r vs H Q
def mCB (g : List O → List DV → Option D) (ms : AM) : EM := bnd ms fun ds s => ret (g s.m ds) s
theorem so_cb {r : List V → Hp → VK → Prop} {g : List O → List DV → Option D} {t : TA} {ms : AM} (h : ∀ (vs : List V) (ds : List DV) (c : D) (Z H : Hp) (I : List Addr) (M : List O) (Q : VK), Wf K Z H I M → RepVs K Z I vs ds → g M ds = some c → PostP K Z H c Q → r vs H Q)
    (ha : Sound K W (RepVs K) t ms) : Sound K W (RepV K) (tCB r t) (mCB g ms) := ⟨fun σ H s Z I r0 Q w rs e p => by
  refine ha.bnd w rs e (p.x) fun ds vs M1 Z1 H1 I1 w1 rs1 x1 q1 e1 => ?_
  obtain ⟨c, q, rfl⟩ := ret_ok e1
  exact h vs ds c Z1 H1 I1 M1 Q w1 q1 q (PostP.of w1 (p.mono x1))⟩
theorem de_callB {id : String} {r : List V → Hp → VK → Prop} {g : List O → List DV → Option D} {t : TA} {ms : AM} {x : Str} {p : Pos} (h : CallD K X (.builtin id) r g) (hm : X.mg x = none) (ha : DA K X W (e :: es) t ms) (hv : bootBuiltins x = some (.builtin id) := by decide +kernel) (hg : Gl X x := by rfl) (hn : x ≠ "__name__" := by decide) (hdb : (x == ("__debug__" : Str)) = false := by decide)
    (he : starEach (e :: es) X.env = (false, eval e X.env) :: starEach es X.env := by rfl) (hpl : (backTo pos (starEach es X.env)).any (·.1) = false := by rfl) : DE K X W (.Call (.Name x p) (e :: es) [] pos) (tCB r t) (mCB g ms) :=
  ⟨ha.k, pe_callB (h.op ha.k) hg hm hv ha.pa hn hdb he hpl, so_cb h.ok ha.so⟩
theorem de_callTy {T : String} {r : List V → Hp → VK → Prop} {g : List O → List DV → Option D} {t : TA} {ms : AM} {x : Str} {p : Pos} (h : CallD K X (.type T) r g) (hm : X.mg x = none) (ha : DA K X W (e :: es) t ms) (hv : bootBuiltins x = some (.type T) := by decide +kernel) (hg : Gl X x := by rfl) (hn : x ≠ "__name__" := by decide) (hdb : (x == ("__debug__" : Str)) = false := by decide)
    (he : starEach (e :: es) X.env = (false, eval e X.env) :: starEach es X.env := by rfl) (hpl : (backTo pos (starEach es X.env)).any (·.1) = false := by rfl) : DE K X W (.Call (.Name x p) (e :: es) [] pos) (tCB r t) (mCB g ms) :=
  ⟨ha.k, pe_callTy (h.op ha.k) hg hm hv ha.pa hn hdb he hpl, so_cb h.ok ha.so⟩
def g1 (g : D → Option D) : List O → List DV → Option D
  | _, [.p d] => g d
  | _, _ => none
theorem g1_ok {r : List V → Hp → VK → Prop} {g : D → Option D} (h : ∀ (x : V) (d c : D) (Z H : Hp) (Q : VK), Same Z H → Rep K Z x d → g d = some c → PostP K Z H c Q → r [x] H Q) :
    ∀ (vs : List V) (ds : List DV) (c : D) (Z H : Hp) (I : List Addr) (M : List O) (Q : VK), Wf K Z H I M → RepVs K Z I vs ds → g1 g M ds = some c → PostP K Z H c Q → r vs H Q := by
  intro vs ds c Z H I M Q w rv hg p
  unfold g1 at hg
  split at hg
  · cases rv with
    | cons h1 h2 =>
      cases h2
      exact h _ _ c Z H Q w.sub h1 hg p
  · cases hg
def dAbs : D → Option D
  | .int i => some (.int (if i < 0 then -i else i))
  | _ => none
theorem cd_abs : CallD K X (.builtin "abs") (fun xs H Q => ∃ i, xs = [.int i] ∧ Q (.int (if i < 0 then -i else i)) H) (g1 dAbs) := ⟨fun _ => call_abs, g1_ok fun x d c Z H Q s hx hg p => by
  unfold dAbs at hg
  split at hg
  · cases hx; cases hg; exact ⟨_, rfl, p _ Z H (ExtP.refl s) (.int _)⟩
  · cases hg⟩
def dInt : D → Option D
  | .int i => some (.int i)
  | .bl b => some (.int (if b then 1 else 0))
  | _ => none
theorem cd_int : CallD K X (.type "int") (fun xs H Q => (∃ i, xs = [.int i] ∧ Q (.int i) H) ∨ ∃ k, xs = [.bl k] ∧ Q (.int (if k then 1 else 0)) H) (g1 dInt) := ⟨fun _ => call_int1, g1_ok fun x d c Z H Q s hx hg p => by
  unfold dInt at hg
  split at hg
  · cases hx; cases hg; exact .inl ⟨_, rfl, p _ Z H (ExtP.refl s) (.int _)⟩
  · cases hx; cases hg; exact .inr ⟨_, rfl, p _ Z H (ExtP.refl s) (.int _)⟩
  · cases hg⟩
def lenD : D → Option Nat
  | .lst xs => some xs.length
  | .tup xs => some xs.length
  | .str y => if y.length ≤ 1000000 then some y.length else none
  | _ => none
def lenO : Option O → Option Nat
  | some (.lst xs) => some xs.length
  | _ => none
def lenM (M : List O) : DV → Option Nat
  | .p d => lenD d
  | .o n => lenO M[n]?
def dLen : List O → List DV → Option D
  | M, [d] => Option.map (fun (n : Nat) => D.int (n : Int)) (lenM M d)
  | _, _ => none
theorem cd_len : CallD K X (.builtin "len") (fun xs H Q => ∃ x n, xs = [x] ∧ LenV K x H n ∧ Q (.int n) H) dLen := ⟨fun k => by rw [← k]; exact call_len, fun vs ds c Z H I M Q w rv hg p => by
  unfold dLen at hg
  split at hg
  · rename_i d
    cases rv with
    | cons h1 h2 =>
    cases h2
    cases z : lenM M d with
    | none => rw [z] at hg; cases hg
    | some n =>
      rw [z] at hg; cases hg
      refine ⟨_, n, rfl, ?_, p _ Z H (ExtP.refl w.sub) (.int _)⟩
      cases d with
      | o j =>
        obtain ⟨a, ha, rfl⟩ := h1
        have z : lenO M[j]? = some n := z
        cases y : M[j]? with
        | none => rw [y] at z; cases z
        | some o =>
          rw [y] at z
          cases o with
          | lst xs =>
            obtain ⟨_, ys, g1, g2⟩ := w.ob j a _ ha y (by intro z; cases z)
            cases z
            exact .inl ⟨ys, SqL.of g1, (paired_len g2).symm⟩
          | _ => cases z
      | p d =>
        have h1 : Rep K Z _ d := h1
        have z : lenD d = some n := z
        cases h1 with
        | lst g1 g2 => cases z; exact .inl ⟨_, .inl (same_rd w.sub g1), g2.length.symm⟩
        | tup g1 g2 => cases z; exact .inr ⟨_, same_t w.sub g1, g2.length.symm⟩
        | str y =>
          have z : (if y.length ≤ 1000000 then some y.length else none) = some n := z
          split at z
          · rename_i hl
            cases z
            exact ⟨size_le hl, rfl⟩
          · cases z
        | _ => cases z
  · cases hg⟩
end
end DL
namespace DL
open PySem L2
/-! ### defs: by data alone (A), with objects of one's own (B) -/
inductive RD where
  | ok (d : D) | ex (c : Addr) (fs : List (Str × D))
abbrev MA := List D → Option RD
abbrev MB := List DV → Mi DV
def spA (K : PySem.W.Frag) (n : Nat) (f : MA) : Sp := fun vs H Q E => vs.length = n ∧ ∃ Z ds r, Same Z H ∧ RepA K Z vs ds ∧ f ds = some r ∧ (match r with
  | .ok d => PostP K Z H d Q
  | .ex c fs => ∀ d Z' H', ExtP Z H Z' H' → ExcAt K Z' H' d fs → (∀ a, d = some a → H a = none) → E (.ref c) d H')
def spB (K : PySem.W.Frag) (n : Nat) (f : List DV → List O → Option (Rs DV)) : Sp := fun vs H Q E => vs.length = n ∧ ∃ Z I M ds r, Wf K Z H I M ∧ RepVs K Z I vs ds ∧ f ds M = some r ∧ (match r with
  | .ok dv M' => ∀ v Z' H' I', Wf K Z' H' I' M' → Ext Z H I Z' H' I' → RepV K Z' I' v dv → Q v H'
  | .ex c fs M' => ∀ d Z' H' I', Wf K Z' H' I' M' → Ext Z H I Z' H' I' → ExcAt K Z' H' d fs → (∀ a, d = some a → H a = none ∧ a ∉ I') → E (.ref c) d H')
theorem spA_len {K : PySem.W.Frag} {n : Nat} {f : MA} : ∀ vs H Q E, spA K n f vs H Q E → vs.length = n := fun _ _ _ _ h => h.1
theorem spB_len {K : PySem.W.Frag} {n : Nat} {f : List DV → List O → Option (Rs DV)} : ∀ vs H Q E, spB K n f vs H Q E → vs.length = n := fun _ _ _ _ h => h.1
section
variable {K : PySem.W.Frag} {X : Cx} {W : WX} {e a b c : Expr} {es : List Expr} {pos : Pos}
/-! ### calls of defs -/
def mCallA (n : Nat) (f : MA) (ms : AM) : EM := bnd ms fun ds s => if ds.length = n then match allP ds with
  | some xs => match f xs with
    | some (.ok d) => some (.ok (.p d) s.m)
    | some (.ex c fs) => some (.ex c fs s.m)
    | none => none
  | none => none else none
def mCallB (n : Nat) (f : List DV → List O → Option (Rs DV)) (ms : AM) : EM := bnd ms fun ds s => if ds.length = n then f ds s.m else none
theorem so_callA {n : Nat} {f : MA} {t : TA} {ms : AM} (ha : Sound K W (RepVs K) t ms) : Sound K W (RepV K) (tCallS (spA K n f) (fun σ => WE W σ) t) (mCallA n f ms) := ⟨fun σ H s Z I r0 Q w rs e p => by
  refine ha.bnd w rs e (p.x) fun ds vs M1 Z1 H1 I1 w1 rs1 x1 q1 e1 => ?_
  have p1 := p.mono x1
  have e1 : (if ds.length = n then match allP ds with
    | some xs => match f xs with
      | some (.ok d) => some (Rs.ok (DV.p d) M1)
      | some (.ex c fs) => some (Rs.ex c fs M1)
      | none => none
    | none => none else none) = some r0 := e1
  split at e1
  · rename_i hl
    cases z : allP ds with
    | none => rw [z] at e1; cases e1
    | some xs =>
      rw [z] at e1
      have e1 : (match f xs with
        | some (.ok d) => some (Rs.ok (DV.p d) M1)
        | some (.ex c fs) => some (Rs.ex c fs M1)
        | none => none) = some r0 := e1
      have ra := allP_rep q1 z
      cases y : f xs with
      | none => rw [y] at e1; cases e1
      | some r =>
        rw [y] at e1
        refine ⟨by rw [paired_len q1]; exact hl, Z1, xs, r, w1.sub, ra, y, ?_⟩
        cases r with
        | ok d => cases e1; exact PostP.of w1 p1
        | ex c fs =>
          cases e1
          intro d Z2 H2 x2 ea na
          exact p1 d Z2 H2 I1 (w1.extP x2) (x2.ext w1) ea fun b q => ⟨na b q, fun m => w1.tr b m (na b q)⟩
  · cases e1⟩
theorem so_callB {n : Nat} {f : List DV → List O → Option (Rs DV)} {t : TA} {ms : AM} (ha : Sound K W (RepVs K) t ms) : Sound K W (RepV K) (tCallS (spB K n f) (fun σ => WE W σ) t) (mCallB n f ms) := ⟨fun σ H s Z I r0 Q w rs e p => by
  refine ha.bnd w rs e (p.x) fun ds vs M1 Z1 H1 I1 w1 rs1 x1 q1 e1 => ?_
  have p1 := p.mono x1
  have e1 : (if ds.length = n then f ds M1 else none) = some r0 := e1
  split at e1
  · rename_i hl
    refine ⟨by rw [paired_len q1]; exact hl, Z1, I1, M1, ds, r0, w1, q1, e1, ?_⟩
    cases r0 with
    | ok d M' => exact p1
    | ex c fs M' => exact p1
  · cases e1⟩
theorem de_callA {n k : Nat} {f : MA} {fa : Addr} {fd : FuncData} {ps : List Str} {t : TA} {ms : AM} {x : Str} {p : Pos} (F : FnOk X.prog X.w K X.mg X.base (L2.CX X.prog X.w) k fa fd ps (spA K n f)) (hr : Room k X.A) (tk : Takes X W) (hm : X.mg x = some (.ref fa)) (hk : PySem.W.keepIn K (.ref fa) = true) (hb : Binds K fd ps [])
    (ha : DA K X W (e :: es) t ms) (hg : Gl X x := by rfl) (hdb : (x == ("__debug__" : Str)) = false := by decide) (he : starEach (e :: es) X.env = (false, eval e X.env) :: starEach es X.env := by rfl) (hpl : (backTo pos (starEach es X.env)).any (·.1) = false := by rfl) :
    DE K X W (.Call (.Name x p) (e :: es) [] pos) (tCallS (spA K n f) (fun σ => WE W σ) t) (mCallA n f ms) := by
  have k := ha.k
  subst k
  exact ⟨rfl, pe_callS F hr hg hm hk hb (fun σ => passAt tk σ) ha.pa hdb he hpl, so_callA ha.so⟩
theorem de_callB' {n k : Nat} {f : List DV → List O → Option (Rs DV)} {fa : Addr} {fd : FuncData} {ps : List Str} {t : TA} {ms : AM} {x : Str} {p : Pos} (F : FnOk X.prog X.w K X.mg X.base (L2.CX X.prog X.w) k fa fd ps (spB K n f)) (hr : Room k X.A) (tk : Takes X W) (hm : X.mg x = some (.ref fa)) (hk : PySem.W.keepIn K (.ref fa) = true) (hb : Binds K fd ps [])
    (ha : DA K X W (e :: es) t ms) (hg : Gl X x := by rfl) (hdb : (x == ("__debug__" : Str)) = false := by decide) (he : starEach (e :: es) X.env = (false, eval e X.env) :: starEach es X.env := by rfl) (hpl : (backTo pos (starEach es X.env)).any (·.1) = false := by rfl) :
    DE K X W (.Call (.Name x p) (e :: es) [] pos) (tCallS (spB K n f) (fun σ => WE W σ) t) (mCallB n f ms) := by
  have k := ha.k
  subst k
  exact ⟨rfl, pe_callS F hr hg hm hk hb (fun σ => passAt tk σ) ha.pa hdb he hpl, so_callB ha.so⟩
/-! ### one's own list, given up -/
def mFrz (m : EM) : EM := bnd m fun d s => match d with
  | .p d => some (.ok (.p d) s.m)
  | .o n => match s.m[n]? with
    | some (.lst ds) => match allP ds with
      | some xs => some (.ok (.p (.lst xs)) (s.m.set n .gone))
      | none => none
    | _ => none
theorem so_frz {t : TE} {m : EM} (h : Sound K W (RepV K) t m) : Sound K W (RepV K) t (mFrz m) := ⟨fun σ H s Z I r0 Q w rs e p => by
  unfold mFrz bnd at e
  cases z : m s with
  | none => rw [z] at e; cases e
  | some r =>
    rw [z] at e
    refine h.ok σ H s Z I r Q w rs z ?_
    cases r with
    | ex c fs M => cases e; exact p
    | ok d M =>
      cases d with
      | p d => cases e; exact p
      | o n =>
        have e : (match M[n]? with
          | some (.lst ds) => match allP ds with
            | some xs => some (Rs.ok (DV.p (D.lst xs)) (M.set n .gone))
            | none => none
          | _ => none) = some r0 := e
        intro v Z' H' I' w' x' q'
        obtain ⟨a, ha, rfl⟩ := q'
        cases y : M[n]? with
        | none => rw [y] at e; cases e
        | some o =>
          rw [y] at e
          cases o with
          | lst ds =>
            have e : (match allP ds with
              | some xs => some (Rs.ok (DV.p (D.lst xs)) (M.set n .gone))
              | none => none) = some r0 := e
            cases u : allP ds with
            | none => rw [u] at e; cases e
            | some xs =>
              rw [u] at e; cases e
              obtain ⟨hz, ys, h1, h2⟩ := w'.ob n a _ ha y (by intro z; cases z)
              have x2 := ext_frz w' ha hz h1
              exact p _ _ _ I' (w'.frz ha y (by intro z; cases z) h1) (x'.trans x2) (.lst (.inl upd_same) ((allP_rep h2 u).mono x2.z))
          | _ => cases e⟩
theorem de_frz {t : TE} {m : EM} (h : DE K X W e t m) : DE K X W e t (mFrz m) := ⟨h.k, h.pe, so_frz h.so⟩
/-! ### statements -/
def liftS {α : Type} (m : Mi α) (k : α → SM) : SM := fun s => match m s with
  | some (.ok v M) => k v ⟨s.l, M⟩
  | some (.ex c f M) => some (.ex c f, ⟨s.l, M⟩)
  | none => none
theorem PostS.mono {Z H Z1 H1 : Hp} {I I1 : List Addr} {D : Ends} (x : Ext Z H I Z1 H1 I1) : ∀ {r : Fl × S}, PostS K W Z H I D r → PostS K W Z1 H1 I1 D r
  | (.nx, _), p => fun σ' Z' H' I' w r x' => p σ' Z' H' I' w r (x.trans x')
  | (.rt _, _), p => fun v Z' H' I' w x' r => p v Z' H' I' w (x.trans x') r
  | (.bk, _), p => fun σ' Z' H' I' w r x' => p σ' Z' H' I' w r (x.trans x')
  | (.ct, _), p => fun σ' Z' H' I' w r x' => p σ' Z' H' I' w r (x.trans x')
  | (.ex _ _, _), p => fun σ' d Z' H' I' w r x' ea na => p σ' d Z' H' I' w r (x.trans x') ea fun b q => ⟨by
      cases z : H b with
      | none => rfl
      | some o => exact absurd (na b q).1 (x.tr b (by rw [z]; simp)), (na b q).2⟩
theorem Sound.lift {α β : Type} {R : Hp → List Addr → β → α → Prop} {t : St → Hp → (β → Hp → Prop) → Prop} {m : Mi α} (h : Sound K W R t m) {σ : St} {H Z : Hp} {I : List Addr} {s : S} {k : α → SM} {r : Fl × S} {D : Ends} {Q : β → Hp → Prop}
    (w : Wf K Z H I s.m) (rs : RepS K Z I σ s.l) (e : liftS m k s = some r) (p : PostS K W Z H I D r)
    (hk : ∀ a b M' Z' H' I', Wf K Z' H' I' M' → RepS K Z' I' σ s.l → Ext Z H I Z' H' I' → R Z' I' b a → k a ⟨s.l, M'⟩ = some r → PostS K W Z' H' I' D r → Q b H') : t σ H Q := by
  unfold liftS at e
  cases q : m s with
  | none => rw [q] at e; cases e
  | some r0 =>
    rw [q] at e
    cases r0 with
    | ok v M => exact h.ok σ H s Z I _ Q w rs q fun b Z' H' I' w' x' r' => hk v b M Z' H' I' w' (rs.mono x') x' r' e (p.mono x')
    | ex c f M =>
      obtain rfl := Option.some.inj e
      exact h.ok σ H s Z I _ Q w rs q fun d Z' H' I' w' x' ea na => p σ d Z' H' I' w' (rs.mono x') x' ea na
def sNil : SM := fun s => some (.nx, s)
def sSeq (a b : SM) : SM := fun s => match a s with
  | some (.nx, s1) => b s1
  | r => r
theorem so_nil : SoundS K W tNext sNil := ⟨fun σ H s Z I r D w rs e p => by
  cases e; exact p σ Z H I w rs Ext.refl⟩
theorem so_seq {t u : TS} {m n : SM} (ha : SoundS K W t m) (hb : SoundS K W u n) : SoundS K W (tSeq t u) (sSeq m n) := ⟨fun σ H s Z I r D w rs e p => by
  unfold sSeq at e
  show t { D with nx := u D } σ H
  cases q : m s with
  | none => rw [q] at e; cases e
  | some r1 =>
    rw [q] at e
    obtain ⟨f, s1⟩ := r1
    cases f with
    | nx => exact ha.ok σ H s Z I _ _ w rs q fun σ' Z' H' I' w' rs' x' => hb.ok σ' H' s1 Z' I' r D w' rs' e (p.mono x')
    | rt v => cases e; exact ha.ok σ H s Z I _ _ w rs q p
    | bk => cases e; exact ha.ok σ H s Z I _ _ w rs q p
    | ct => cases e; exact ha.ok σ H s Z I _ _ w rs q p
    | ex c fs => cases e; exact ha.ok σ H s Z I _ _ w rs q p⟩
theorem dss_nil (k : X.K = K := by rfl) : DSs K X W [] tNext sNil := ⟨k, pss_nil, so_nil⟩
theorem dss_cons {st : Stmt} {rest : List Stmt} {t u : TS} {m n : SM} (ha : DS K X W st t m) (hb : DSs K X W rest u n) : DSs K X W (st :: rest) (tSeq t u) (sSeq m n) := ⟨ha.k, pss_cons ha.ps hb.ps, so_seq ha.so hb.so⟩
theorem dss_one {st : Stmt} {t : TS} {m : SM} (ha : DS K X W st t m) : DSs K X W [st] t m := ⟨ha.k, pss_one ha.ps, ha.so⟩
theorem ds_pass (k : X.K = K := by rfl) : DS K X W (.Pass pos) tNext sNil := ⟨k, ps_pass, so_nil⟩
def sBrk : SM := fun s => some (.bk, s)
def sCnt : SM := fun s => some (.ct, s)
theorem ds_break (k : X.K = K := by rfl) : DS K X W (.Break pos) tBreak sBrk := ⟨k, ps_break, ⟨fun σ H s Z I r D w rs e p => by
  cases e; exact p σ Z H I w rs Ext.refl⟩⟩
theorem ds_continue (k : X.K = K := by rfl) : DS K X W (.Continue pos) tCont sCnt := ⟨k, ps_continue, ⟨fun σ H s Z I r D w rs e p => by
  cases e; exact p σ Z H I w rs Ext.refl⟩⟩
theorem ds_doc {x : Str} {j} {pos' : Pos} (k : X.K = K := by rfl) : DS K X W (.Expr (.Constant (.str x) j pos) pos') tNext sNil := ⟨k, ps_doc, so_nil⟩
def sExpr (m : EM) : SM := liftS m fun _ s => some (.nx, s)
theorem ds_expr {te : TE} {m : EM} (h : DE K X W e te m) (hs : swapsWith e none pos.line X.env = pure false := by rfl) : DS K X W (.Expr e pos) (tDrop te) (sExpr m) := ⟨h.k, ps_expr h.pe hs, ⟨fun σ H s Z I r D w rs e p => by
  refine h.so.lift w rs e p fun d v M1 Z1 H1 I1 w1 rs1 x1 q1 e1 p1 => ?_
  cases e1; exact p1 σ Z1 H1 I1 w1 rs1 Ext.refl⟩⟩
def sRet (m : EM) : SM := liftS m fun d s => some (.rt d, s)
theorem ds_ret {te : TE} {m : EM} (h : DE K X W e te m) : DS K X W (.Return (some e) pos) (tRet te) (sRet m) := ⟨h.k, ps_ret h.pe, ⟨fun σ H s Z I r D w rs e p => by
  refine h.so.lift w rs e p fun d v M1 Z1 H1 I1 w1 rs1 x1 q1 e1 p1 => ?_
  cases e1; exact p1 v Z1 H1 I1 w1 Ext.refl q1⟩⟩
def sRetN : SM := fun s => some (.rt (.p .non), s)
theorem ds_retN (k : X.K = K := by rfl) : DS K X W (.Return none pos) tRetN sRetN := ⟨k, ps_retN, ⟨fun σ H s Z I r D w rs e p => by
  cases e; exact p .non Z H I w Ext.refl .non⟩⟩
def ifS (n k : SM) : DV → SM
  | .p (.bl true), s => n s
  | .p (.bl false), s => k s
  | _, _ => none
def sIf (c : EM) (m n : SM) : SM := liftS c (ifS m n)
theorem ds_if {x y : List Stmt} {tc : TT} {t u : TS} {k : EM} {m n : SM} (hc : DT K X W c tc k) (ha : DSs K X W x t m) (hb : DSs K X W y u n) : DS K X W (.If c x y pos) (tIfS tc t u) (sIf k m n) := ⟨hc.k, ps_if hc.pt ha.ps hb.ps, ⟨fun σ H s Z I r D w rs e p => by
  refine hc.so.lift w rs e p fun d v M1 Z1 H1 I1 w1 rs1 x1 q1 e1 p1 => ?_
  cases (show d = .p (.bl v) from q1)
  cases v with
  | true => exact ha.so.ok σ H1 ⟨s.l, M1⟩ Z1 I1 r D w1 rs1 e1 p1
  | false => exact hb.so.ok σ H1 ⟨s.l, M1⟩ Z1 I1 r D w1 rs1 e1 p1⟩⟩
/-! ### targets -/
theorem wipe_set {σ : St} {i : Nat} {x : Option V} : ∀ {vs : List Nat}, i ∈ vs → wipe (σ.set i x) vs = wipe σ vs
  | v :: vs, h => by
    show (wipe (σ.set i x) vs).set v none = (wipe σ vs).set v none
    by_cases q : i ∈ vs
    · rw [wipe_set q]
    · have e : v = i := by
        rcases List.mem_cons.mp h with k | k
        · exact k.symm
        · exact absurd k q
      subst e
      have c : ∀ ws : List Nat, v ∉ ws → wipe (σ.set v x) ws = (wipe σ ws).set v x := by
        intro ws
        induction ws with
        | nil => intro _; rfl
        | cons w ws ih =>
          intro hw
          rw [List.mem_cons, not_or] at hw
          show (wipe (σ.set v x) ws).set w none = ((wipe σ ws).set w none).set v x
          rw [ih hw.2, List.set_comm _ _ hw.1]
      rw [c vs q, List.set_set]
abbrev GM := DV → S → Option S
structure DG (K : PySem.W.Frag) (X : Cx) (tg : Expr) (g : TG) (m : GM) (ix : List Nat) : Prop where
  k : X.K = K
  pg : PG X tg g
  ok : ∀ (v : V) (dv : DV) (σ : St) (H : Hp) (s s' : S) (Z : Hp) (I : List Addr) (Q : St → Hp → Prop), Wf K Z H I s.m → RepS K Z I σ s.l → RepV K Z I v dv → m dv s = some s' →
    (∀ σ' Z' H' I', Wf K Z' H' I' s'.m → RepS K Z' I' σ' s'.l → Ext Z H I Z' H' I' → (∀ vs, (∀ i ∈ ix, i ∈ vs) → wipe σ' vs = wipe σ vs) → Q σ' H') → g v σ H Q
def gN (i : Nat) : GM := fun d s => some ⟨s.l.set i (some d), s.m⟩
theorem dg_name {i : Nat} {x : Str} (hN : X.N.Nodup) (k : X.K = K := by rfl) (hi : X.N[i]? = some x := by rfl) (hx : Loc X.env.scope x := by first | exact Or.inl rfl | exact Or.inr rfl) (hf : X.fn x = true ∨ X.env.scope.names.lookup x = some .local := by first | exact .inl rfl | exact .inr rfl) : DG K X (.Name x pos) (gName i) (gN i) [i] :=
  ⟨k, pg_name hN hi hx hf, fun v dv σ H s s' Z I Q w rs rv e q => by
    cases e; exact q _ Z H I w (rs.set rv i) Ext.refl fun vs hv => wipe_set (hv i (by simp))⟩
structure DGs (K : PySem.W.Frag) (X : Cx) (tg : List Expr) (g : TGs) (m : List DV → S → Option S) (ix : List Nat) : Prop where
  k : X.K = K
  pg : PGs X tg g
  ok : ∀ (v : List V) (dv : List DV) (σ : St) (H : Hp) (s s' : S) (Z : Hp) (I : List Addr) (Q : St → Hp → Prop), Wf K Z H I s.m → RepS K Z I σ s.l → RepVs K Z I v dv → m dv s = some s' →
    (∀ σ' Z' H' I', Wf K Z' H' I' s'.m → RepS K Z' I' σ' s'.l → Ext Z H I Z' H' I' → (∀ vs, (∀ i ∈ ix, i ∈ vs) → wipe σ' vs = wipe σ vs) → Q σ' H') → g v σ H Q
def gsNil : List DV → S → Option S
  | [], s => some s
  | _, _ => none
def gsCons (m : GM) (n : List DV → S → Option S) : List DV → S → Option S
  | d :: r, s => match m d s with
    | some s1 => n r s1
    | none => none
  | [], _ => none
theorem dgs_nil (k : X.K = K := by rfl) : DGs K X [] gNil gsNil [] := ⟨k, pgs_nil, fun v dv σ H s s' Z I Q w rs rv e q => by
  cases rv with
  | nil => cases e; exact ⟨rfl, q σ Z H I w rs Ext.refl fun _ _ => rfl⟩
  | cons _ _ => cases e⟩
theorem dgs_cons {tg : Expr} {tgs : List Expr} {t : TG} {u : TGs} {m : GM} {n : List DV → S → Option S} {i1 i2 : List Nat} (h1 : DG K X tg t m i1) (h2 : DGs K X tgs u n i2)
    (hs : (assignEach (tg :: tgs) X.env).map (·.2) = assign tg X.env :: (assignEach tgs X.env).map (·.2) := by rfl) : DGs K X (tg :: tgs) (gCons t u) (gsCons m n) (i1 ++ i2) := ⟨h1.k, pgs_cons h1.pg h2.pg hs, fun v dv σ H s s' Z I Q w rs rv e q => by
  cases rv with
  | nil => cases e
  | @cons _ d _ _ r1 r2 =>
    have e : (match m d s with | some s1 => n _ s1 | none => none) = some s' := e
    refine ⟨_, _, rfl, ?_⟩
    cases z : m d s with
    | none => rw [z] at e; cases e
    | some s1 =>
      rw [z] at e
      refine h1.ok _ d σ H s s1 Z I _ w rs r1 z fun σ' Z' H' I' w' rs' x' k' => ?_
      exact h2.ok _ _ σ' H' s1 s' Z' I' Q w' rs' (paired_imp (fun _ _ q => RepV.mono x' q) r2) e fun σ2 Z2 H2 I2 w2 rs2 x2 k2 => q σ2 Z2 H2 I2 w2 rs2 (x'.trans x2) fun vs hv =>
        (k2 vs fun i hi => hv i (List.mem_append_right _ hi)).trans (k' vs fun i hi => hv i (List.mem_append_left _ hi))⟩
def gT (n : Nat) (m : List DV → S → Option S) : GM := fun d s => match d with
  | .p (.tup xs) => if xs.length = n then m (xs.map .p) s else none
  | _ => none
theorem dg_tup {tgs : List Expr} {k : Nat} {t : TGs} {m : List DV → S → Option S} {n : Nat} {ix : List Nat} (hc : X.calm = true) (h : DGs K X tgs t m ix) (hn : (assignEach tgs X.env).length = n := by rfl) (hst : (assignEach tgs X.env).findIdx? (·.1) = none := by rfl) :
    DG K X (.Tuple tgs k pos) (gTup K n t) (gT n m) ix := by
  have kk := h.k
  subst kk
  refine ⟨rfl, pg_tup hc h.pg hn hst, fun v dv σ H s s' Z I Q w rs rv e q => ?_⟩
  cases dv with
  | o j => cases e
  | p d =>
    have rv : Rep X.K Z v d := rv
    cases rv with
    | tup h1 h2 =>
      rename_i a xs ds
      have e : (if ds.length = n then m (ds.map .p) s else none) = some s' := e
      split at e
      · rename_i hl
        exact ⟨a, xs, rfl, same_t w.sub h1, by rw [h2.length]; exact hl, h.ok _ _ σ H s s' Z I Q w rs (allP_map h2) e q⟩
      · cases e
    | _ => cases e
def sAsg (m : EM) (g : GM) : SM := liftS m fun d s => match g d s with
  | some s1 => some (.nx, s1)
  | none => none
theorem ds_asg {tg : Expr} {te : TE} {g : TG} {m : EM} {gm : GM} {ix : List Nat} (he : DE K X W e te m) (hg : DG K X tg g gm ix) (hs : swapsWithSole [tg] e pos.line X.env = pure false := by rfl) (hw : swappedStores [tg] e X.env = pure none := by rfl)
    (h1 : (assignEach [tg] X.env).map (·.2) = [assign tg X.env] := by rfl) : DS K X W (.Assign [tg] e pos) (tAsg te g) (sAsg m gm) := ⟨he.k, ps_asg he.pe hg.pg hs hw h1, ⟨fun σ H s Z I r D w rs e p => by
  refine he.so.lift w rs e p fun d v M1 Z1 H1 I1 w1 rs1 x1 q1 e1 p1 => ?_
  have e1 : (match gm d ⟨s.l, M1⟩ with | some s1 => some (Fl.nx, s1) | none => none) = some r := e1
  cases z : gm d ⟨s.l, M1⟩ with
  | none => rw [z] at e1; cases e1
  | some s1 =>
    rw [z] at e1; cases e1
    exact hg.ok v d σ H1 ⟨s.l, M1⟩ s1 Z1 I1 _ w1 rs1 q1 z fun σ' Z' H' I' w' rs' x' _ => p1 σ' Z' H' I' w' rs' x'⟩⟩
theorem ds_set {i : Nat} {x : Str} {te : TE} {m : EM} {px : Pos} (hN : X.N.Nodup) (he : DE K X W e te m) (hi : X.N[i]? = some x := by rfl) (hx : Loc X.env.scope x := by first | exact Or.inl rfl | exact Or.inr rfl) (hf : X.fn x = true ∨ X.env.scope.names.lookup x = some .local := by first | exact .inl rfl | exact .inr rfl)
    (hs : swapsWithSole [.Name x px] e pos.line X.env = pure false := by rfl) (hw : swappedStores [.Name x px] e X.env = pure none := by rfl) (h1 : (assignEach [.Name x px] X.env).map (·.2) = [assign (.Name x px) X.env] := by rfl) : DS K X W (.Assign [.Name x px] e pos) (tAsg te (gName i)) (sAsg m (gN i)) :=
  ds_asg he (dg_name hN he.k hi hx hf) hs hw h1
/-- a, b = x, y -/
def sPar (i j : Nat) (ms : AM) : SM := liftS ms fun ds s => match ds with
  | [d, f] => some (.nx, ⟨(s.l.set i (some d)).set j (some f), s.m⟩)
  | _ => none
theorem ds_par {i j : Nat} {x y : Str} {ta : TA} {ms : AM} {px py pt : Pos} {kt k2} {pt2 : Pos} (hc : X.calm = true) (hN : X.N.Nodup) (ha : DA K X W [a, b] ta ms) (hi : X.N[i]? = some x := by rfl) (hj : X.N[j]? = some y := by rfl) (hij : i ≠ j := by decide)
    (hx : X.env.scope.names.lookup x = some .local := by rfl) (hy : X.env.scope.names.lookup y = some .local := by rfl)
    (hw : swappedStores [.Tuple [.Name x px, .Name y py] kt pt] (.Tuple [a, b] k2 pt2) X.env = pure (some [x, y]) := by rfl) (hs : swapsWithSole [.Tuple [.Name x px, .Name y py] kt pt] (.Tuple [a, b] k2 pt2) pos.line X.env = pure false := by rfl) :
    DS K X W (.Assign [.Tuple [.Name x px, .Name y py] kt pt] (.Tuple [a, b] k2 pt2) pos) (tPar i j ta) (sPar i j ms) := ⟨ha.k, ps_par hc hN hi hj hij hx hy ha.pa hw hs, ⟨fun σ H s Z I r D w rs e p => by
  refine ha.so.lift w rs e p fun ds vs M1 Z1 H1 I1 w1 rs1 x1 q1 e1 p1 => ?_
  cases q1 with
  | nil => cases e1
  | cons r1 q1 =>
  cases q1 with
  | nil => cases e1
  | cons r2 q1 =>
  cases q1 with
  | nil =>
    cases e1
    exact ⟨_, _, rfl, p1 _ Z1 H1 I1 w1 ((rs1.set r1 i).set r2 j) Ext.refl⟩
  | cons _ _ => cases e1⟩⟩
end
end DL
namespace DL
open PySem L2
section
variable {K : PySem.W.Frag} {X : Cx} {W : WX} {e a b c tg iter : Expr} {es : List Expr} {pos : Pos}
/-! ### what is walked -/
def ItOk (K : PySem.W.Frag) (Z0 : Hp) (I0 : List Addr) (J : It) (items : List DV) : Prop :=
  ∀ Z H I, Same Z0 Z → (∃ t, I = I0 ++ t) → Same Z H → ∀ i : Nat, (∀ d, items[i]? = some d → J.go i H ∧ ∀ x H', J.yld i H x H' → ∃ Z', ExtP Z H Z' H' ∧ RepV K Z' I x d) ∧ (items.length ≤ i → J.stop i H)
abbrev IM := Mi (List DV)
structure DI (K : PySem.W.Frag) (X : Cx) (W : WX) (tg iter : Expr) (wi : TI) (m : IM) : Prop where
  k : X.K = K
  pi : PI X tg iter wi
  so : Sound K W (ItOk K) wi m
def itD : D → Option (List DV)
  | .lst xs => some (xs.map .p)
  | .tup xs => some (xs.map .p)
  | _ => none
def mItD (g : D → Option (List DV)) (m : EM) : IM := bnd m (pur fun d s => match g d with
  | some ds => some (.ok ds s.m)
  | none => none)
theorem so_itD {g : D → Option (List DV)} {te : TE} {m : EM} {r : V → Hp → (It → Hp → Prop) → Prop} (h : Sound K W (RepV K) te m) (hr : ∀ v d ds Z H I (R : It → Hp → Prop), Same Z H → Rep K Z v d → g d = some ds → (∀ J, ItOk K Z I J ds → R J H) → r v H R) :
    Sound K W (ItOk K) (fun σ H R => te σ H fun x H1 => r x H1 R) (mItD g m) := ⟨fun σ H s Z I r0 Q w rs e p => by
  refine h.bnd w rs e (p.x) fun d v M1 Z1 H1 I1 w1 rs1 x1 q1 e1 => ?_
  obtain ⟨d, rfl, e1⟩ := pur_ok e1
  have e1 : (match g d with | some ds => some (Rs.ok ds M1) | none => none) = some r0 := e1
  cases z : g d with
  | none => rw [z] at e1; cases e1
  | some ds =>
    rw [z] at e1; cases e1
    exact hr v d ds Z1 H1 I1 Q w1.sub q1 z fun J hJ => p J Z1 H1 I1 w1 x1 hJ⟩
def itL : D → Option (List DV)
  | .lst xs => some (xs.map .p)
  | _ => none
def itT : D → Option (List DV)
  | .tup xs => some (xs.map .p)
  | _ => none
theorem getP {α : Type} {xs : List D} {i : Nat} {d : DV} (h : (xs.map DV.p)[i]? = some d) : ∃ y, xs[i]? = some y ∧ d = .p y := by
  rw [List.getElem?_map] at h
  cases q : xs[i]? with
  | none => rw [q] at h; cases h
  | some y => rw [q] at h; cases h; exact ⟨y, rfl, rfl⟩
theorem rd_inj_len {K : PySem.W.Frag} {Z : Hp} {vs : List V} {xs : List D} (r : RepA K Z vs xs) {i : Nat} {y : D} (h : xs[i]? = some y) : ∃ v, vs[i]? = some v ∧ Rep K Z v y := r.get h
theorem di_list {te : TE} {m : EM} (h : DE K X W iter te m) : DI K X W tg iter (iList K te) (mItD itL m) := by
  refine ⟨h.k, ?_, ?_⟩
  · rw [← h.k]; exact pi_list h.pe
  · refine so_itD (r := fun x H1 R => ∃ a, x = .ref a ∧ (∃ xs, SqL K H1 a xs) ∧ R (Itl K a) H1) h.so fun v d ds Z H I R s hd hg q => ?_
    cases hd with
    | lst h1 h2 =>
      rename_i a vs xs
      cases hg
      refine ⟨a, rfl, ⟨vs, .inl (same_rd s h1)⟩, q _ fun Z' H' I' z _ s' i => ⟨fun d hd => ?_, fun hl => ⟨vs, .inl (same_rd s' (same_rd z h1)), by rw [h2.length]; simpa using hl⟩⟩⟩
      obtain ⟨y, hy, rfl⟩ := getP (α := Unit) hd
      obtain ⟨v, hv, rv⟩ := h2.get hy
      refine ⟨⟨vs, v, .inl (same_rd s' (same_rd z h1)), hv⟩, fun x H2 hx => ?_⟩
      obtain ⟨rfl, hx⟩ := hx
      have := hx vs (.inl (same_rd s' (same_rd z h1)))
      rw [hv] at this
      cases this
      exact ⟨Z', ExtP.refl s', rv.mono z⟩
    | _ => cases hg
theorem di_tup {te : TE} {m : EM} (h : DE K X W iter te m) : DI K X W tg iter (iTup K te) (mItD itT m) := by
  refine ⟨h.k, ?_, ?_⟩
  · rw [← h.k]; exact pi_tup h.pe
  · refine so_itD (r := fun x H1 R => ∃ a, x = .ref a ∧ (∃ xs, SqT K H1 a xs) ∧ R (Itt K a) H1) h.so fun v d ds Z H I R s hd hg q => ?_
    cases hd with
    | tup h1 h2 =>
      rename_i a vs xs
      cases hg
      refine ⟨a, rfl, ⟨vs, same_t s h1⟩, q _ fun Z' H' I' z _ s' i => ⟨fun d hd => ?_, fun hl => ⟨vs, same_t s' (same_t z h1), by rw [h2.length]; simpa using hl⟩⟩⟩
      obtain ⟨y, hy, rfl⟩ := getP (α := Unit) hd
      obtain ⟨v, hv, rv⟩ := h2.get hy
      refine ⟨⟨vs, v, same_t s' (same_t z h1), hv⟩, fun x H2 hx => ?_⟩
      obtain ⟨rfl, hx⟩ := hx
      have := hx vs (same_t s' (same_t z h1))
      rw [hv] at this
      cases this
      exact ⟨Z', ExtP.refl s', rv.mono z⟩
    | _ => cases hg
def itS : D → Option (List DV)
  | .str x => some (x.cps.toList.map fun c => .p (.str ⟨#[c]⟩))
  | _ => none
theorem di_str {te : TE} {m : EM} (h : DE K X W iter te m) : DI K X W tg iter (iStr te) (mItD itS m) := by
  refine ⟨h.k, pi_str h.pe, ?_⟩
  refine so_itD (r := fun v H1 R => ∃ x, v = .str x ∧ R (Its x) H1) h.so fun v d ds Z H I R s hd hg q => ?_
  cases hd with
  | str x =>
    cases hg
    refine ⟨x, rfl, q _ fun Z' H' I' z _ s' i => ⟨fun d hd => ?_, fun hl => ?_⟩⟩
    · rw [List.getElem?_map] at hd
      cases hc : x.cps.toList[i]? with
      | none => rw [hc] at hd; cases hd
      | some c =>
        rw [hc] at hd; cases hd
        have hi : i < x.cps.size := by
          have := (List.getElem?_eq_some_iff.mp hc).1
          simpa using this
        refine ⟨hi, fun y H2 hy => ?_⟩
        obtain ⟨rfl, c', hc', rfl⟩ := hy
        have : c' = c := by
          have e1 : x.cps.toList[i]? = some c' := by simpa using hc'
          rw [hc] at e1
          exact (Option.some.inj e1).symm
        subst this
        exact ⟨Z', ExtP.refl s', .str _⟩
    · show x.cps.size ≤ i
      simpa using hl
  | _ => cases hg
def intsFrom (lo : Int) (n : Nat) : List DV := (List.range n).map fun (i : Nat) => .p (.int (lo + (i : Int)))
theorem itr_ok {Z : Hp} {I : List Addr} {lo : Int} {n : Nat} : ItOk K Z I (Itr lo n) (intsFrom lo n) := fun Z' H' I' z _ s' i => by
  refine ⟨fun d hd => ?_, fun hl => ?_⟩
  · unfold intsFrom at hd
    rw [List.getElem?_map] at hd
    cases q : (List.range n)[i]? with
    | none => rw [q] at hd; cases hd
    | some j =>
      rw [q] at hd
      have hi : i < n := by simpa using (List.getElem?_eq_some_iff.mp q).1
      have ej : j = i := by
        rw [List.getElem?_range hi] at q
        exact (Option.some.inj q).symm
      subst ej
      cases hd
      refine ⟨hi, fun x H2 hx => ?_⟩
      obtain ⟨rfl, rfl⟩ := hx
      exact ⟨Z', ExtP.refl s', .int _⟩
  · show n ≤ i
    simpa [intsFrom] using hl
def rngOk (i : Int) : Bool := decide (-4611686018427387904 ≤ i ∧ i < 4611686018427387904)
def rng1D : List DV → Option (List DV)
  | [.p (.int j)] => if rngOk j = true then some (intsFrom 0 j.toNat) else none
  | _ => none
def rng2D : List DV → Option (List DV)
  | [.p (.int i), .p (.int j)] => if rngOk i = true then if rngOk j = true then some (intsFrom i (j - i).toNat) else none else none
  | _ => none
def mRng (g : List DV → Option (List DV)) (ms : AM) : IM := bnd ms fun ds s => match g ds with
  | some xs => some (.ok xs s.m)
  | none => none
theorem rng_bound {i : Int} (h : rngOk i = true) : -(2 ^ 62) ≤ i ∧ i < 2 ^ 62 := by
  unfold rngOk at h
  simp only [decide_eq_true_eq] at h
  have : (2 : Int) ^ 62 = 4611686018427387904 := by decide
  omega
theorem so_rng {g : List DV → Option (List DV)} {ta : TA} {ms : AM} {r : List V → Hp → (It → Hp → Prop) → Prop} (h : Sound K W (RepVs K) ta ms) (hr : ∀ vs ds xs Z H I (R : It → Hp → Prop), RepVs K Z I vs ds → g ds = some xs → (∀ J, ItOk K Z I J xs → R J H) → r vs H R) :
    Sound K W (ItOk K) (fun σ H R => ta σ H fun vs H1 => r vs H1 R) (mRng g ms) := ⟨fun σ H s Z I r0 Q w rs e p => by
  refine h.bnd w rs e (p.x) fun ds vs M1 Z1 H1 I1 w1 rs1 x1 q1 e1 => ?_
  have e1 : (match g ds with | some xs => some (Rs.ok xs M1) | none => none) = some r0 := e1
  cases z : g ds with
  | none => rw [z] at e1; cases e1
  | some xs =>
    rw [z] at e1; cases e1
    exact hr vs ds xs Z1 H1 I1 Q q1 z fun J hJ => p J Z1 H1 I1 w1 x1 hJ⟩
theorem di_range1 {ta : TA} {ms : AM} {p : Pos} (hm : X.mg "range" = none) (h : DA K X W [a] ta ms) (hg : Gl X "range" := by rfl) (hs : starEach [a] X.env = [(false, eval a X.env)] := by rfl) : DI K X W tg (.Call (.Name "range" p) [a] [] pos) (iRng1 ta) (mRng rng1D ms) :=
  ⟨h.k, pi_range1 hg hm h.pa hs, so_rng (r := fun vs H1 R => ∃ j : Int, vs = [.int j] ∧ -(2 ^ 62) ≤ j ∧ j < 2 ^ 62 ∧ R (Itr 0 j.toNat) H1) h.so fun vs ds xs Z H I R rv z q => by
    unfold rng1D at z
    split at z
    · split at z
      · rename_i hb
        cases z
        cases rv with
        | cons g1 g2 =>
        cases g2
        cases g1
        obtain ⟨b1, b2⟩ := rng_bound hb
        exact ⟨_, rfl, b1, b2, q _ itr_ok⟩
      · cases z
    · cases z⟩
theorem di_range2 {ta : TA} {ms : AM} {p : Pos} (hm : X.mg "range" = none) (h : DA K X W [a, b] ta ms) (hg : Gl X "range" := by rfl) (hs : starEach [a, b] X.env = [(false, eval a X.env), (false, eval b X.env)] := by rfl) (hs2 : starEach [b] X.env = [(false, eval b X.env)] := by rfl) : DI K X W tg (.Call (.Name "range" p) [a, b] [] pos) (iRng2 ta) (mRng rng2D ms) :=
  ⟨h.k, pi_range2 hg hm h.pa hs hs2, so_rng (r := fun vs H1 R => ∃ i j : Int, vs = [.int i, .int j] ∧ (-(2 ^ 62) ≤ i ∧ i < 2 ^ 62 ∧ -(2 ^ 62) ≤ j ∧ j < 2 ^ 62) ∧ R (Itr i (j - i).toNat) H1) h.so fun vs ds xs Z H I R rv z q => by
    unfold rng2D at z
    split at z
    · split at z
      · rename_i hb
        split at z
        · rename_i hb2
          cases z
          cases rv with
          | cons g1 g2 =>
          cases g2 with
          | cons g2 g3 =>
          cases g3
          cases g1
          cases g2
          obtain ⟨b1, b2⟩ := rng_bound hb
          obtain ⟨b3, b4⟩ := rng_bound hb2
          exact ⟨_, _, rfl, ⟨b1, b2, b3, b4⟩, q _ itr_ok⟩
        · cases z
      · cases z
    · cases z⟩
/-! ### for -/
def loopS (g : GM) (body : SM) : List DV → SM
  | [], s => some (.nx, s)
  | d :: ds, s => match g d s with
    | none => none
    | some s1 => match body s1 with
      | none => none
      | some (.nx, s2) => loopS g body ds s2
      | some (.ct, s2) => loopS g body ds s2
      | some (.bk, s2) => some (.nx, s2)
      | some (.rt v, s2) => some (.rt v, s2)
      | some (.ex c f, s2) => some (.ex c f, s2)
def sFor (it : IM) (g : GM) (body : SM) : SM := liftS it fun ds => loopS g body ds
theorem ExtP.ext' {Z H Z' H' : Hp} {I : List Addr} {M : List O} (w : Wf K Z H I M) (e : ExtP Z H Z' H') : Ext Z H I Z' H' I := e.ext w
theorem ds_for {body : List Stmt} {wi : TI} {g : TG} {tb : TS} {it : IM} {gm : GM} {ix : List Nat} {mb : SM} (hp : PassesOwn (model X.prog X.w) X.A X.env X.xe) (hc : X.calm = true) (hi : DI K X W tg iter wi it) (hg : DG K X tg g gm ix) (hb : DSs K X W body tb mb)
    (hs : ∀ x, foldedSetIterable iter X.env x = pure x := by intro _; rfl) : DS K X W (.For tg iter body [] pos) (tFor wi g tb) (sFor it gm mb) := ⟨hi.k, ps_for hp hc hi.pi hg.pg hb.ps hs, ⟨fun σ H s Z I r D w rs e p => by
  refine hi.so.lift w rs e p fun ds J M1 Z1 H1 I1 w1 rs1 x1 q1 e1 p1 => ?_
  refine ⟨fun i m σ' H' => m = ds.length - i ∧ i ≤ ds.length ∧ ∃ Z' I' s', Wf K Z' H' I' s'.m ∧ RepS K Z' I' σ' s'.l ∧ Ext Z1 H1 I1 Z' H' I' ∧ loopS gm mb (ds.drop i) s' = some r, ⟨ds.length, by simp, Nat.zero_le _, Z1, I1, ⟨s.l, M1⟩, w1, rs1, Ext.refl, e1⟩, ?_⟩
  rintro i m σ' H' ⟨rfl, hi', Z', I', s', w', rs', x', e'⟩
  have Jo := q1 Z' H' I' x'.z x'.i w'.sub i
  by_cases hlt : i < ds.length
  · right
    have hd : ds[i]? = some ds[i] := by simp [hlt]
    obtain ⟨go, yl⟩ := Jo.1 _ hd
    rw [List.drop_eq_getElem_cons hlt] at e'
    refine ⟨go, fun σ2 H2 => ∃ Z2 I2 s2, Wf K Z2 H2 I2 s2.m ∧ RepS K Z2 I2 σ2 s2.l ∧ Ext Z1 H1 I1 Z2 H2 I2 ∧ loopS gm mb (ds.drop (i + 1)) s2 = some r,
      fun σ2 H2 h2 => ⟨ds.length - (i + 1), by omega, rfl, hlt, h2⟩, fun x H2 hx => ?_⟩
    obtain ⟨Z2, x2, rx⟩ := yl x H2 hx
    have w2 := w'.extP x2
    have y2 := x2.ext w'
    have e' : (match gm ds[i] s' with
      | none => none
      | some s1 => match mb s1 with
        | none => none
        | some (.nx, s2) => loopS gm mb (ds.drop (i + 1)) s2
        | some (.ct, s2) => loopS gm mb (ds.drop (i + 1)) s2
        | some (.bk, s2) => some (.nx, s2)
        | some (.rt v, s2) => some (.rt v, s2)
        | some (.ex c f, s2) => some (.ex c f, s2)) = some r := e'
    cases z : gm ds[i] s' with
    | none => rw [z] at e'; cases e'
    | some s1 =>
      rw [z] at e'
      refine hg.ok x ds[i] σ' H2 s' s1 Z2 I' _ w2 (rs'.mono y2) rx z fun σ3 Z3 H3 I3 w3 rs3 x3 _ => ?_
      have xx := (x'.trans y2).trans x3
      cases z2 : mb s1 with
      | none =>
        have e' : (match mb s1 with
          | none => none
          | some (.nx, s2) => loopS gm mb (ds.drop (i + 1)) s2
          | some (.ct, s2) => loopS gm mb (ds.drop (i + 1)) s2
          | some (.bk, s2) => some (.nx, s2)
          | some (.rt v, s2) => some (.rt v, s2)
          | some (.ex c f, s2) => some (.ex c f, s2)) = some r := e'
        rw [z2] at e'; cases e'
      | some fr =>
        have e' : (match mb s1 with
          | none => none
          | some (.nx, s2) => loopS gm mb (ds.drop (i + 1)) s2
          | some (.ct, s2) => loopS gm mb (ds.drop (i + 1)) s2
          | some (.bk, s2) => some (.nx, s2)
          | some (.rt v, s2) => some (.rt v, s2)
          | some (.ex c f, s2) => some (.ex c f, s2)) = some r := e'
        rw [z2] at e'
        obtain ⟨f, s2⟩ := fr
        have p3 := p1.mono xx
        refine hb.so.ok σ3 H3 s1 Z3 I3 _ _ w3 rs3 z2 ?_
        cases f with
        | nx => exact fun σ4 Z4 H4 I4 w4 rs4 x4 => ⟨Z4, I4, s2, w4, rs4, xx.trans x4, e'⟩
        | ct => exact fun σ4 Z4 H4 I4 w4 rs4 x4 => ⟨Z4, I4, s2, w4, rs4, xx.trans x4, e'⟩
        | bk => cases e'; exact p3
        | rt v => cases e'; exact p3
        | ex c fs => cases e'; exact p3
  · left
    have e0 : ds.drop i = [] := List.drop_eq_nil_of_le (by omega)
    rw [e0] at e'
    cases e'
    exact ⟨Jo.2 (by omega), (p1.mono x') σ' Z' H' I' w' rs' Ext.refl⟩⟩⟩
/-! ### while -/
def sWhile : Nat → EM → SM → SM
  | 0, _, _ => fun _ => none
  | n + 1, c, body => liftS c fun d s => match d with
    | .p (.bl true) => match body s with
      | none => none
      | some (.nx, s2) => sWhile n c body s2
      | some (.ct, s2) => sWhile n c body s2
      | some (.bk, s2) => some (.nx, s2)
      | some (.rt v, s2) => some (.rt v, s2)
      | some (.ex c f, s2) => some (.ex c f, s2)
    | .p (.bl false) => some (.nx, s)
    | _ => none
theorem ds_while {body : List Stmt} {tc : TT} {tb : TS} {c : Expr} {mc : EM} {mb : SM} (n : Nat) (hp : PassesOwn (model X.prog X.w) X.A X.env X.xe) (hc : DT K X W c tc mc) (hb : DSs K X W body tb mb) : DS K X W (.While c body [] pos) (tWhile tc tb) (sWhile n mc mb) := ⟨hc.k, ps_while hp hc.pt hb.ps, ⟨fun σ H s Z I r D w rs e p => by
  refine ⟨fun m σ' H' => ∃ Z' I' s', Wf K Z' H' I' s'.m ∧ RepS K Z' I' σ' s'.l ∧ Ext Z H I Z' H' I' ∧ sWhile m mc mb s' = some r, ⟨n, Z, I, s, w, rs, Ext.refl, e⟩, ?_⟩
  rintro m σ' H' ⟨Z', I', s', w', rs', x', e'⟩
  cases m with
  | zero => cases e'
  | succ m =>
    refine hc.so.lift w' rs' e' (p.mono x') fun d v M1 Z1 H1 I1 w1 rs1 x1 q1 e1 p1 => ?_
    cases (show d = .p (.bl v) from q1)
    cases v with
    | false =>
      rw [if_neg Bool.false_ne_true]
      cases e1
      exact p1 σ' Z1 H1 I1 w1 rs1 Ext.refl
    | true =>
      rw [if_pos rfl]
      have e1 : (match mb ⟨s'.l, M1⟩ with
        | none => none
        | some (.nx, s2) => sWhile m mc mb s2
        | some (.ct, s2) => sWhile m mc mb s2
        | some (.bk, s2) => some (.nx, s2)
        | some (.rt v, s2) => some (.rt v, s2)
        | some (.ex c f, s2) => some (.ex c f, s2)) = some r := e1
      refine ⟨fun σ2 H2 => ∃ Z2 I2 s2, Wf K Z2 H2 I2 s2.m ∧ RepS K Z2 I2 σ2 s2.l ∧ Ext Z H I Z2 H2 I2 ∧ sWhile m mc mb s2 = some r, fun σ2 H2 h2 => ⟨m, Nat.lt_succ_self m, h2⟩, ?_⟩
      cases z2 : mb ⟨s'.l, M1⟩ with
      | none => rw [z2] at e1; cases e1
      | some fr =>
        rw [z2] at e1
        obtain ⟨f, s2⟩ := fr
        refine hb.so.ok σ' H1 ⟨s'.l, M1⟩ Z1 I1 _ _ w1 rs1 z2 ?_
        cases f with
        | nx => exact fun σ4 Z4 H4 I4 w4 rs4 x4 => ⟨Z4, I4, s2, w4, rs4, (x'.trans x1).trans x4, e1⟩
        | ct => exact fun σ4 Z4 H4 I4 w4 rs4 x4 => ⟨Z4, I4, s2, w4, rs4, (x'.trans x1).trans x4, e1⟩
        | bk => cases e1; exact p1
        | rt v => cases e1; exact p1
        | ex c fs => cases e1; exact p1⟩⟩
end
end DL
namespace DL
open PySem L2
abbrev WF : WX := fun _ _ _ _ => False
section
variable {K : PySem.W.Frag} {X : Cx} {W : WX} {e a b c tg iter : Expr} {es : List Expr} {pos : Pos}
def wipeL (l : List (Option DV)) : List Nat → List (Option DV)
  | [] => l
  | v :: vs => (wipeL l vs).set v none
theorem RepS.wipe {Z : Hp} {I : List Addr} {σ : St} {l : List (Option DV)} (r : RepS K Z I σ l) : ∀ vs : List Nat, RepS K Z I (L2.wipe σ vs) (wipeL l vs)
  | [] => r
  | v :: vs => by
    have h := RepS.wipe r vs
    refine ⟨by show ((L2.wipe σ vs).set v none).length = ((wipeL l vs).set v none).length; simpa using h.len, fun i dv e => ?_⟩
    have e : ((wipeL l vs).set v none)[i]? = some (some dv) := e
    by_cases q : v = i
    · subst q
      by_cases b : v < (wipeL l vs).length
      · rw [List.getElem?_set_self b] at e; cases e
      · rw [List.getElem?_eq_none (by simpa using b)] at e; cases e
    · rw [List.getElem?_set_ne q] at e
      obtain ⟨u, h1, h2⟩ := h.at_ i dv e
      refine ⟨u, ?_, h2⟩
      show ((L2.wipe σ vs).set v none)[i]? = _
      rw [List.getElem?_set_ne q]; exact h1
theorem wipe_wipe {σ : St} : ∀ vs ws : List Nat, (∀ i ∈ vs, i ∈ ws) → L2.wipe (L2.wipe σ vs) ws = L2.wipe σ ws
  | [], _, _ => rfl
  | v :: vs, ws, h => by
    show L2.wipe ((L2.wipe σ vs).set v none) ws = _
    rw [wipe_set (h v (by simp))]
    exact wipe_wipe vs ws fun i hi => h i (by simp [hi])
/-- the block of a list comprehension: results that are data -/
def compL (l : List (Option DV)) (g : GM) (t e : EM) : List DV → List D → List O → Option (List D × List O)
  | [], acc, M => some (acc, M)
  | d :: ds, acc, M => match g d ⟨l, M⟩ with
    | none => none
    | some s1 => match t s1 with
      | some (.ok (.p (.bl true)) M1) => match e ⟨s1.l, M1⟩ with
        | some (.ok (.p y) M2) => if acc.length < 1000000 then compL l g t e ds (acc ++ [y]) M2 else none
        | _ => none
      | some (.ok (.p (.bl false)) M1) => compL l g t e ds acc M1
      | _ => none
def mLc (it : IM) (vs : List Nat) (g : GM) (t e : EM) : EM := bnd it fun ds s => match compL (wipeL s.l vs) g t e ds [] s.m with
  | some (acc, M) => some (.ok (.p (.lst acc)) M)
  | none => none
def mLcO (it : IM) (vs : List Nat) (g : GM) (t e : EM) : EM := bnd it fun ds s => match compL (wipeL s.l vs) g t e ds [] s.m with
  | some (acc, M) => some (.ok (.o M.length) (M ++ [.lst (acc.map .p)]))
  | none => none
/-- what is known of the new list at D while it is filled -/
structure Fill (K : PySem.W.Frag) (Z1 H1 : Hp) (I1 : List Addr) (D : Addr) (Z H : Hp) (I : List Addr) (M : List O) (acc : List V) (ad : List DL.D) : Prop where
  w : Wf K Z H I M
  x : Ext Z1 H1 I1 Z H I
  at_ : H D = some (.lst acc)
  nz : Z D = none
  ni : D ∉ I
  r : RepA K Z acc ad
theorem Fill.step {Z1 H1 Z H Z' H' : Hp} {I1 I I' : List Addr} {D : Addr} {M M' : List O} {acc : List V} {ad : List DL.D} (f : Fill K Z1 H1 I1 D Z H I M acc ad) (w : Wf K Z' H' I' M') (x : Ext Z H I Z' H' I') : Fill K Z1 H1 I1 D Z' H' I' M' acc ad where
  w := w
  x := f.x.trans x
  at_ := x.fr D _ f.at_ f.ni
  nz := by
    cases q : Z' D with
    | none => rfl
    | some o =>
      rcases x.zn D (by rw [q]; simp) with k | k | k
      · exact absurd f.nz k
      · rw [f.at_] at k; cases k
      · exact absurd k f.ni
  ni := fun m => by
    rcases x.nw D m with k | k
    · exact f.ni k
    · rw [f.at_] at k; cases k
  r := f.r.mono x.z
theorem Fill.put {Z1 H1 Z H : Hp} {I1 I : List Addr} {D : Addr} {M : List O} {acc : List V} {ad : List DL.D} (f : Fill K Z1 H1 I1 D Z H I M acc ad) (h0 : H1 D = none) {v : V} {d : DL.D} (r : Rep K Z v d) : Fill K Z1 H1 I1 D Z (upd H D (.lst (acc ++ [v]))) I M (acc ++ [v]) (ad ++ [d]) where
  w := ⟨fun a u e => by rw [upd_ne (fun q => by rw [q, f.nz] at e; cases e)]; exact f.w.sub a u e, f.w.len, f.w.nd, fun a m => by rw [upd_ne (fun q => f.ni (by rw [← q]; exact m))]; exact f.w.tr a m, fun n a o h1 h2 h3 => by
    obtain ⟨q1, q2⟩ := f.w.ob n a o h1 h2 h3
    exact ⟨q1, q2.mono (Same.refl _) (upd_ne fun q => f.ni (by rw [← q]; exact List.mem_of_getElem? h1))⟩⟩
  x := ⟨f.x.z, f.x.i, fun a o e n => by rw [upd_ne (ne_of_none e h0)]; exact f.x.fr a o e n, f.x.nw, f.x.zn, fun a e => by
    by_cases q : a = D
    · rw [q, upd_same]; simp
    · rw [upd_ne q]; exact f.x.tr a e⟩
  at_ := upd_same
  nz := f.nz
  ni := f.ni
  r := f.r.append (.cons r .nil)
theorem tLc_ok {wi : TI} {g : TG} {tt : TT} {te : TE} {vs : List Nat} {it : IM} {gm : GM} {ix : List Nat} {t em : EM} (hi : Sound K W (ItOk K) wi it)
    (hg : ∀ (v : V) (dv : DV) (σ : St) (H : Hp) (s s' : S) (Z : Hp) (I : List Addr) (Q : St → Hp → Prop), Wf K Z H I s.m → RepS K Z I σ s.l → RepV K Z I v dv → gm dv s = some s' →
      (∀ σ' Z' H' I', Wf K Z' H' I' s'.m → RepS K Z' I' σ' s'.l → Ext Z H I Z' H' I' → (∀ vs, (∀ i ∈ ix, i ∈ vs) → L2.wipe σ' vs = L2.wipe σ vs) → Q σ' H') → g v σ H Q) (hix : ∀ i ∈ ix, i ∈ vs)
    (ht : Sound K WF RepB tt t) (he : Sound K WF (RepV K) te em) {σ : St} {H : Hp} {s : S} {Z : Hp} {I : List Addr} {r : Rs DV} {Q : VK} {k : List D → List O → Rs DV} (w : Wf K Z H I s.m) (rs : RepS K Z I σ s.l)
    (e : bnd it (fun ds s => match compL (wipeL s.l vs) gm t em ds [] s.m with | some (acc, M) => some (k acc M) | none => none) s = some r) (px : ∀ c fs M, r = .ex c fs M → PostX K W Z H I σ M c fs)
    (hk : ∀ Z1 H1 I1 D Z' H' I' M acc ad, r = k ad M → H1 D = none → Ext Z H I Z1 H1 I1 → Fill K Z1 H1 I1 D Z' H' I' M acc ad → Q (.ref D) H') : tLc wi g tt te vs σ H Q := by
  refine hi.bnd w rs e px fun ds J M1 Z1 H1 I1 w1 rs1 x1 q1 e1 => ?_
  have e1 : (match compL (wipeL s.l vs) gm t em ds [] M1 with | some (acc, M) => some (k acc M) | none => none) = some r := e1
  cases zc : compL (wipeL s.l vs) gm t em ds [] M1 with
  | none => rw [zc] at e1; cases e1
  | some am =>
    rw [zc] at e1
    obtain ⟨ad, Mf⟩ := am
    have e1 : some (k ad Mf) = some r := e1
    intro D hD
    have f0 : Fill K Z1 H1 I1 D Z1 (upd H1 D (.lst [])) I1 M1 [] [] := by
      refine ⟨⟨fun a u q => by rw [upd_ne (ne_of_none (w1.sub a u q) hD)]; exact w1.sub a u q, w1.len, w1.nd, fun a m => by rw [upd_ne (fun q => w1.tr a m (by rw [q]; exact hD))]; exact w1.tr a m, fun n a o h1 h2 h3 => ?_⟩, ⟨Same.refl _, ⟨[], by simp⟩, fun a o q _ => by rw [upd_ne (ne_of_none q hD)]; exact q, fun _ m => .inl m, fun _ m => .inl m, fun a q => by rw [upd_ne (fun y => q (by rw [y]; exact hD))]; exact q⟩, upd_same, none_of w1.sub hD, fun m => w1.tr D m hD, .nil⟩
      obtain ⟨q1, q2⟩ := w1.ob n a o h1 h2 h3
      exact ⟨q1, q2.mono (Same.refl _) (upd_ne fun q => w1.tr a (List.mem_of_getElem? h1) (by rw [q]; exact hD))⟩
    refine ⟨fun i m H' => m = ds.length - i ∧ i ≤ ds.length ∧ ∃ Z' I' M acc bd, Fill K Z1 H1 I1 D Z' H' I' M acc bd ∧ compL (wipeL s.l vs) gm t em (ds.drop i) bd M = some (ad, Mf), ⟨ds.length, by simp, Nat.zero_le _, Z1, I1, M1, [], [], f0, zc⟩, ?_⟩
    rintro i m H' ⟨rfl, hil, Z', I', M, acc, bd, f, e'⟩
    have Jo := q1 Z' H' I' f.x.z f.x.i f.w.sub i
    by_cases hlt : i < ds.length
    · right
      have hd : ds[i]? = some ds[i] := by simp [hlt]
      obtain ⟨go, yl⟩ := Jo.1 _ hd
      rw [List.drop_eq_getElem_cons hlt] at e'
      refine ⟨go, fun H2 => ∃ Z2 I2 M2 acc2 bd2, Fill K Z1 H1 I1 D Z2 H2 I2 M2 acc2 bd2 ∧ compL (wipeL s.l vs) gm t em (ds.drop (i + 1)) bd2 M2 = some (ad, Mf),
        fun H2 h2 => ⟨ds.length - (i + 1), by omega, rfl, hlt, h2⟩, fun x H2 hx => ?_⟩
      obtain ⟨Z2, x2, rx⟩ := yl x H2 hx
      have f2 := f.step (f.w.extP x2) (x2.ext f.w)
      have rs2 : RepS K Z2 I' (L2.wipe σ vs) (wipeL s.l vs) := ((rs1.mono f2.x)).wipe vs
      unfold compL at e'
      cases zg : gm ds[i] ⟨wipeL s.l vs, M⟩ with
      | none => rw [zg] at e'; cases e'
      | some s1 =>
        rw [zg] at e'
        refine hg x ds[i] (L2.wipe σ vs) H2 ⟨wipeL s.l vs, M⟩ s1 Z2 I' _ f2.w rs2 rx zg fun σ3 Z3 H3 I3 w3 rs3 x3 k3 => ?_
        have f3 := f2.step w3 x3
        refine ⟨(k3 vs hix).trans (wipe_wipe vs vs fun _ h => h) , ?_⟩
        have e' : (match t s1 with
          | some (.ok (.p (.bl true)) M1) => match em ⟨s1.l, M1⟩ with
            | some (.ok (.p y) M2) => if bd.length < 1000000 then compL (wipeL s.l vs) gm t em (ds.drop (i + 1)) (bd ++ [y]) M2 else none
            | _ => none
          | some (.ok (.p (.bl false)) M1) => compL (wipeL s.l vs) gm t em (ds.drop (i + 1)) bd M1
          | _ => none) = some (ad, Mf) := e'
        cases zt : t s1 with
        | none => rw [zt] at e'; cases e'
        | some rt =>
          rw [zt] at e'
          refine ht.ok σ3 H3 s1 Z3 I3 rt _ w3 rs3 zt ?_
          cases rt with
          | ex c fs M4 => cases e'
          | ok d4 M4 =>
            intro b Z4 H4 I4 w4 x4 r4
            cases (show d4 = .p (.bl b) from r4)
            have f4 := f3.step w4 x4
            cases b with
            | false =>
              rw [if_neg Bool.false_ne_true]
              exact ⟨Z4, I4, M4, acc, bd, f4, e'⟩
            | true =>
              rw [if_pos rfl]
              have e' : (match em ⟨s1.l, M4⟩ with
                | some (.ok (.p y) M2) => if bd.length < 1000000 then compL (wipeL s.l vs) gm t em (ds.drop (i + 1)) (bd ++ [y]) M2 else none
                | _ => none) = some (ad, Mf) := e'
              cases ze : em ⟨s1.l, M4⟩ with
              | none => rw [ze] at e'; cases e'
              | some re =>
                rw [ze] at e'
                refine he.ok σ3 H4 ⟨s1.l, M4⟩ Z4 I4 re _ w4 (rs3.mono x4) ze ?_
                cases re with
                | ex c fs M5 => cases e'
                | ok d5 M5 =>
                  intro y Z5 H5 I5 w5 x5 r5
                  have f5 := f4.step w5 x5
                  cases d5 with
                  | o n => cases e'
                  | p d5 =>
                    have e' : (if bd.length < 1000000 then compL (wipeL s.l vs) gm t em (ds.drop (i + 1)) (bd ++ [d5]) M5 else none) = some (ad, Mf) := e'
                    split at e'
                    · rename_i hlen
                      refine ⟨acc, f5.at_, by rw [f5.r.length]; exact size_lt (Nat.le_of_lt hlen), ?_⟩
                      exact ⟨Z5, I5, M5, _, _, f5.put hD r5, e'⟩
                    · cases e'
    · left
      have e0 : ds.drop i = [] := List.drop_eq_nil_of_le (by omega)
      rw [e0] at e'
      cases e'
      exact ⟨Jo.2 (by omega), hk Z1 H1 I1 D Z' H' I' _ acc _ (Option.some.inj e1).symm hD x1 f⟩
theorem Fill.frz {Z1 H1 Z H : Hp} {I1 I : List Addr} {D : Addr} {M : List O} {acc : List V} {ad : List DL.D} (f : Fill K Z1 H1 I1 D Z H I M acc ad) (h0 : H1 D = none) : Wf K (upd Z D (.lst acc)) H I M ∧ Ext Z1 H1 I1 (upd Z D (.lst acc)) H I := by
  refine ⟨⟨fun a u e => ?_, f.w.len, f.w.nd, f.w.tr, fun n a o h1 h2 h3 => ?_⟩, ⟨f.x.z.trans (same_upd f.nz), f.x.i, f.x.fr, f.x.nw, fun a e => ?_, f.x.tr⟩⟩
  · by_cases q : a = D
    · rw [q, upd_same] at e; rw [q, f.at_]; exact e
    · rw [upd_ne q] at e; exact f.w.sub a u e
  · obtain ⟨q1, q2⟩ := f.w.ob n a o h1 h2 h3
    exact ⟨by rw [upd_ne fun q => f.ni (by rw [← q]; exact List.mem_of_getElem? h1)]; exact q1, q2.mono (same_upd f.nz) rfl⟩
  · by_cases q : a = D
    · rw [q]; exact .inr (.inl h0)
    · rw [upd_ne q] at e; exact f.x.zn a e
theorem Fill.own {Z1 H1 Z H : Hp} {I1 I : List Addr} {D : Addr} {M : List O} {acc : List V} {ad : List DL.D} (f : Fill K Z1 H1 I1 D Z H I M acc ad) (h0 : H1 D = none) : Wf K Z H (I ++ [D]) (M ++ [.lst (ad.map .p)]) ∧ Ext Z1 H1 I1 Z H (I ++ [D]) := by
  have x : Ext Z1 H1 I1 Z H (I ++ [D]) := by
    refine ⟨f.x.z, ?_, f.x.fr, fun a m => ?_, f.x.zn, f.x.tr⟩
    · obtain ⟨t, e⟩ := f.x.i
      exact ⟨t ++ [D], by rw [e, List.append_assoc]⟩
    · rcases List.mem_append.mp m with k | k
      · exact f.x.nw a k
      · rw [List.mem_singleton.mp k]; exact .inr h0
  have x2 : Ext Z H I Z H (I ++ [D]) ∨ True := .inr trivial
  refine ⟨⟨f.w.sub, by rw [List.length_append, List.length_append, f.w.len]; rfl, ?_, fun a m => ?_, fun n a o h1 h2 h3 => ?_⟩, x⟩
  · refine List.nodup_append.mpr ⟨f.w.nd, by simp, fun a ha b hb => ?_⟩
    rw [List.mem_singleton.mp hb]
    intro q
    exact f.ni (by rw [← q]; exact ha)
  · rcases List.mem_append.mp m with k | k
    · exact f.w.tr a k
    · rw [List.mem_singleton.mp k, f.at_]; simp
  · have up : ∀ {v : V} {d : DV}, RepV K Z I v d → RepV K Z (I ++ [D]) v d := fun {v d} h => by
      cases d with
      | p d => exact h
      | o j =>
        obtain ⟨b, hb, q⟩ := h
        exact ⟨b, by rw [List.getElem?_append_left (List.getElem?_eq_some_iff.mp hb).1]; exact hb, q⟩
    by_cases hn : n < I.length
    · rw [List.getElem?_append_left hn] at h1
      rw [List.getElem?_append_left (by rw [← f.w.len]; exact hn)] at h2
      obtain ⟨q1, q2⟩ := f.w.ob n a o h1 h2 h3
      refine ⟨q1, ?_⟩
      cases o with
      | lst _ => obtain ⟨xs, h, r⟩ := q2; exact ⟨xs, h, paired_imp (fun _ _ q => up q) r⟩
      | dK _ => obtain ⟨xs, h, r⟩ := q2; exact ⟨xs, h, paired_imp (fun _ _ q => ⟨q.1, up q.2⟩) r⟩
      | dT _ => obtain ⟨xs, h, r⟩ := q2; exact ⟨xs, h, paired_imp (fun _ _ q => ⟨q.1, up q.2⟩) r⟩
      | ins _ _ => obtain ⟨dx, xs, h, r⟩ := q2; exact ⟨dx, xs, h, paired_imp (fun _ _ q => ⟨q.1, up q.2⟩) r⟩
      | gone => trivial
    · have e1 : n = I.length := by
        have := (List.getElem?_eq_some_iff.mp h1).1
        rw [List.length_append, List.length_singleton] at this
        omega
      subst e1
      rw [List.getElem?_append_right (Nat.le_refl _), Nat.sub_self] at h1
      rw [List.getElem?_append_right (by rw [f.w.len]; exact Nat.le_refl _), f.w.len, Nat.sub_self] at h2
      cases h1
      cases h2
      exact ⟨f.nz, acc, f.at_, allP_map f.r⟩
def tYesM : EM := tru
theorem so_yes : Sound K WF RepB tYes tYesM := ⟨fun σ H s Z I r Q w rs e p => by
  cases e; exact p true Z H I w Ext.refl rfl⟩
structure DPT (K : PySem.W.Frag) (X : Cx) (es : List Expr) (t : TT) (m : EM) : Prop where
  k : X.K = K
  pt : PTs X es t
  so : Sound K WF RepB t m
theorem dpt_nil (k : X.K = K := by rfl) : DPT K X [] tYes tYesM := ⟨k, pts_nil, so_yes⟩
theorem dpt_one {t : TT} {m : EM} (h : DT K X WF c t m) : DPT K X [c] t m := ⟨h.k, pts_one h.pt, h.so⟩
section
variable {elt : Expr} {ifs : List Expr} {scope : Scope} {own : List (Str × Nat)} {wi : TI} {g : TG} {tt : TT} {te : TE} {it : IM} {gm : GM} {ix : List Nat} {t em : EM}
theorem so_lc (hi : Sound K W (ItOk K) wi it) (hg : ∃ X' tg', DG K X' tg' g gm ix) (hix : ∀ i ∈ ix, i ∈ own.map (·.2)) (ht : Sound K WF RepB tt t) (he : Sound K WF (RepV K) te em) : Sound K W (RepV K) (tLc wi g tt te (own.map (·.2))) (mLc it (own.map (·.2)) gm t em) := ⟨fun σ H s Z I r Q w rs e p => by
  obtain ⟨X', tg', hg⟩ := hg
  refine tLc_ok hi hg.ok hix ht he (k := fun acc M => .ok (.p (.lst acc)) M) w rs e p.x fun Z1 H1 I1 D Z' H' I' M acc ad er h0 x1 f => ?_
  subst er
  obtain ⟨w', x'⟩ := f.frz h0
  exact p _ _ H' I' w' (x1.trans x') (.lst (.inl upd_same) (f.r.mono (same_upd f.nz)))⟩
theorem so_lcO (hi : Sound K W (ItOk K) wi it) (hg : ∃ X' tg', DG K X' tg' g gm ix) (hix : ∀ i ∈ ix, i ∈ own.map (·.2)) (ht : Sound K WF RepB tt t) (he : Sound K WF (RepV K) te em) : Sound K W (RepV K) (tLc wi g tt te (own.map (·.2))) (mLcO it (own.map (·.2)) gm t em) := ⟨fun σ H s Z I r Q w rs e p => by
  obtain ⟨X', tg', hg⟩ := hg
  refine tLc_ok hi hg.ok hix ht he (k := fun (acc : List D) M => Rs.ok (DV.o M.length) (M ++ [O.lst (acc.map DV.p)])) w rs e p.x fun Z1 H1 I1 D Z' H' I' M acc ad er h0 x1 f => ?_
  subst er
  obtain ⟨w', x'⟩ := f.own h0
  exact p _ _ H' _ w' (x1.trans x') ⟨D, by rw [← f.w.len, List.getElem?_append_right (Nat.le_refl _), Nat.sub_self]; rfl, rfl⟩⟩
theorem de_lc {vs : List Nat} (hN : X.N.Nodup) (hc : X.calm = true) (hi : DI K X W tg iter wi it) (ok : BlkOk X.N X.env.scope scope own)
    (hg : ∀ (s : Shared) (H : Hp) (C : Addr) (cl : List (Str × Addr)) (fp : List Addr), DG K (X.blk s H scope (compEnvC scope cl C X.env) fp) tg g gm ix) (ht : ∀ (s : Shared) (H : Hp) (C : Addr) (cl : List (Str × Addr)) (fp : List Addr), DPT K (X.blk s H scope (compEnvC scope cl C X.env) fp) ifs tt t)
    (he : ∀ (s : Shared) (H : Hp) (C : Addr) (cl : List (Str × Addr)) (fp : List Addr), DE K (X.blk s H scope (compEnvC scope cl C X.env) fp) WF elt te em) (hix : ∀ i ∈ ix, i ∈ own.map (·.2) := by decide) (hs : ∀ x, foldedSetIterable iter X.env x = pure x := by intro _; rfl) (hv : own.map (·.2) = vs := by rfl) :
    DE K X W (.ListComp elt [⟨tg, iter, ifs, 0⟩] scope pos) (tLc wi g tt te vs) (mLc it vs gm t em) := by
  subst hv
  exact ⟨hi.k, pe_lc hc hN hi.pi ok (fun s H C cl fp => (hg s H C cl fp).pg) (fun s H C cl fp => (ht s H C cl fp).pt) (fun s H C cl fp => (he s H C cl fp).pe) hs,
    so_lc hi.so ⟨_, _, hg {} (fun _ => none) 0 [] []⟩ hix (ht {} (fun _ => none) 0 [] []).so (he {} (fun _ => none) 0 [] []).so⟩
theorem de_lcO {vs : List Nat} (hN : X.N.Nodup) (hc : X.calm = true) (hi : DI K X W tg iter wi it) (ok : BlkOk X.N X.env.scope scope own)
    (hg : ∀ (s : Shared) (H : Hp) (C : Addr) (cl : List (Str × Addr)) (fp : List Addr), DG K (X.blk s H scope (compEnvC scope cl C X.env) fp) tg g gm ix) (ht : ∀ (s : Shared) (H : Hp) (C : Addr) (cl : List (Str × Addr)) (fp : List Addr), DPT K (X.blk s H scope (compEnvC scope cl C X.env) fp) ifs tt t)
    (he : ∀ (s : Shared) (H : Hp) (C : Addr) (cl : List (Str × Addr)) (fp : List Addr), DE K (X.blk s H scope (compEnvC scope cl C X.env) fp) WF elt te em) (hix : ∀ i ∈ ix, i ∈ own.map (·.2) := by decide) (hs : ∀ x, foldedSetIterable iter X.env x = pure x := by intro _; rfl) (hv : own.map (·.2) = vs := by rfl) :
    DE K X W (.ListComp elt [⟨tg, iter, ifs, 0⟩] scope pos) (tLc wi g tt te vs) (mLcO it vs gm t em) := by
  subst hv
  exact ⟨hi.k, pe_lc hc hN hi.pi ok (fun s H C cl fp => (hg s H C cl fp).pg) (fun s H C cl fp => (ht s H C cl fp).pt) (fun s H C cl fp => (he s H C cl fp).pe) hs,
    so_lcO hi.so ⟨_, _, hg {} (fun _ => none) 0 [] []⟩ hix (ht {} (fun _ => none) 0 [] []).so (he {} (fun _ => none) 0 [] []).so⟩
end
end
end DL
namespace DL
open PySem L2
section
variable {K : PySem.W.Frag} {X : Cx} {W : WX} {e a b c tg iter : Expr} {es : List Expr} {pos : Pos}
section
variable {elt : Expr} {ifs : List Expr} {scope : Scope} {own : List (Str × Nat)} {wi : TI} {g : TG} {tt : TT} {te : TE} {it : IM} {gm : GM} {ix : List Nat} {t em : EM}
theorem so_asg {te : TE} {g : TG} {m : EM} {gm : GM} {ix : List Nat} {X' : Cx} {tg' : Expr} (he : Sound K W (RepV K) te m) (hg : DG K X' tg' g gm ix) : SoundS K W (tAsg te g) (sAsg m gm) := ⟨fun σ H s Z I r D w rs e p => by
  refine he.lift w rs e p fun d v M1 Z1 H1 I1 w1 rs1 x1 q1 e1 p1 => ?_
  have e1 : (match gm d ⟨s.l, M1⟩ with | some s1 => some (Fl.nx, s1) | none => none) = some r := e1
  cases z : gm d ⟨s.l, M1⟩ with
  | none => rw [z] at e1; cases e1
  | some s1 =>
    rw [z] at e1; cases e1
    exact hg.ok v d σ H1 ⟨s.l, M1⟩ s1 Z1 I1 _ w1 rs1 q1 z fun σ' Z' H' I' w' rs' x' _ => p1 σ' Z' H' I' w' rs' x'⟩
theorem ds_setLc {i : Nat} {vs : List Nat} {y : Str} {py spos : Pos} (hN : X.N.Nodup) (hc : X.calm = true) (hi : DI K X W tg iter wi it) (ok : BlkOk X.N X.env.scope scope own)
    (hg : ∀ (s : Shared) (H : Hp) (C : Addr) (cl : List (Str × Addr)) (fp : List Addr), DG K (X.blk s H scope (compEnvC scope cl C X.env) fp) tg g gm ix) (ht : ∀ (s : Shared) (H : Hp) (C : Addr) (cl : List (Str × Addr)) (fp : List Addr), DPT K (X.blk s H scope (compEnvC scope cl C X.env) fp) ifs tt t)
    (he : ∀ (s : Shared) (H : Hp) (C : Addr) (cl : List (Str × Addr)) (fp : List Addr), DE K (X.blk s H scope (compEnvC scope cl C X.env) fp) WF elt te em) (hy : X.N[i]? = some y := by rfl) (hyl : X.env.scope.names.lookup y = some .local := by rfl)
    (hsw : swapsWith (.ListComp elt [⟨tg, iter, ifs, 0⟩] scope pos) (some (.Name y py)) spos.line X.env = pure true := by exact sw_true rfl rfl rfl (by decide +kernel)) (hix : ∀ i ∈ ix, i ∈ own.map (·.2) := by decide) (hs : ∀ x, foldedSetIterable iter X.env x = pure x := by intro _; rfl) (hv : own.map (·.2) = vs := by rfl) :
    DS K X W (.Assign [.Name y py] (.ListComp elt [⟨tg, iter, ifs, 0⟩] scope pos) spos) (tAsg (tLc wi g tt te vs) (gName i)) (sAsg (mLc it vs gm t em) (gN i)) := by
  subst hv
  exact ⟨hi.k, ps_setLc hc hN hy hyl hsw hi.pi ok (fun s H C cl fp => (hg s H C cl fp).pg) (fun s H C cl fp => (ht s H C cl fp).pt) (fun s H C cl fp => (he s H C cl fp).pe) hs,
    so_asg (so_lc hi.so ⟨_, _, hg {} (fun _ => none) 0 [] []⟩ hix (ht {} (fun _ => none) 0 [] []).so (he {} (fun _ => none) 0 [] []).so) (dg_name hN hi.k hy (.inl hyl) (.inr hyl) : DG K X (.Name y py) _ _ _)⟩
theorem ds_setLcO {i : Nat} {vs : List Nat} {y : Str} {py spos : Pos} (hN : X.N.Nodup) (hc : X.calm = true) (hi : DI K X W tg iter wi it) (ok : BlkOk X.N X.env.scope scope own)
    (hg : ∀ (s : Shared) (H : Hp) (C : Addr) (cl : List (Str × Addr)) (fp : List Addr), DG K (X.blk s H scope (compEnvC scope cl C X.env) fp) tg g gm ix) (ht : ∀ (s : Shared) (H : Hp) (C : Addr) (cl : List (Str × Addr)) (fp : List Addr), DPT K (X.blk s H scope (compEnvC scope cl C X.env) fp) ifs tt t)
    (he : ∀ (s : Shared) (H : Hp) (C : Addr) (cl : List (Str × Addr)) (fp : List Addr), DE K (X.blk s H scope (compEnvC scope cl C X.env) fp) WF elt te em) (hy : X.N[i]? = some y := by rfl) (hyl : X.env.scope.names.lookup y = some .local := by rfl)
    (hsw : swapsWith (.ListComp elt [⟨tg, iter, ifs, 0⟩] scope pos) (some (.Name y py)) spos.line X.env = pure true := by exact sw_true rfl rfl rfl (by decide +kernel)) (hix : ∀ i ∈ ix, i ∈ own.map (·.2) := by decide) (hs : ∀ x, foldedSetIterable iter X.env x = pure x := by intro _; rfl) (hv : own.map (·.2) = vs := by rfl) :
    DS K X W (.Assign [.Name y py] (.ListComp elt [⟨tg, iter, ifs, 0⟩] scope pos) spos) (tAsg (tLc wi g tt te vs) (gName i)) (sAsg (mLcO it vs gm t em) (gN i)) := by
  subst hv
  exact ⟨hi.k, ps_setLc hc hN hy hyl hsw hi.pi ok (fun s H C cl fp => (hg s H C cl fp).pg) (fun s H C cl fp => (ht s H C cl fp).pt) (fun s H C cl fp => (he s H C cl fp).pe) hs,
    so_asg (so_lcO hi.so ⟨_, _, hg {} (fun _ => none) 0 [] []⟩ hix (ht {} (fun _ => none) 0 [] []).so (he {} (fun _ => none) 0 [] []).so) (dg_name hN hi.k hy (.inl hyl) (.inr hyl) : DG K X (.Name y py) _ _ _)⟩
end
/-! ### o[i] = v at a list of one's own -/
def setL (m : List O) (n : Nat) (i : Int) (d : DV) : Option (List O) := match m[n]? with
  | some (.lst ds) => match ixN ds.length i with
    | some j => some (m.set n (.lst (ds.set j d)))
    | none => none
  | _ => none
def gSetK (d x : DV) (y : D) : EM := fun s => match x, y with
  | .o n, .int j => match setL s.m n j d with
    | some M => some (.ok (.p .non) M)
    | none => none
  | _, _ => none
def gSet (o i : EM) : GM := fun d s => match bnd o (fun x => bnd i (pur (gSetK d x))) s with
  | some (.ok _ M) => some ⟨s.l, M⟩
  | _ => none
theorem dg_set {o i : Expr} {to ti : TE} {mo mi : EM} (ho : DE K X WF o to mo) (hi : DE K X WF i ti mi) (ha : ∀ v, assign (.Subscript o i pos) X.env v = (do
      let ov ← holding [v] (eval o X.env)
      let iv ← holding [v, ov] (eval i X.env)
      standAt pos
      holding [v, ov, iv] (setItem ov iv v)
      release [v, ov, iv] []) := by intro _; rfl) : DG K X (.Subscript o i pos) (gSub to ti rSetL) (gSet mo mi) [] :=
  ⟨ho.k, pg_sub ho.pe hi.pe set_list ha, fun v dv σ H s s' Z I Q w rs rv e q => by
    unfold gSet at e
    cases z : bnd mo (fun x => bnd mi (pur (gSetK dv x))) s with
    | none => rw [z] at e; cases e
    | some r0 =>
      rw [z] at e
      cases r0 with
      | ex c fs M => cases e
      | ok d0 M0 =>
        cases e
        refine ho.so.bnd w rs z (fun c fs M h => by cases h) fun x ov M1 Z1 H1 I1 w1 rs1 x1 q1 e1 => ?_
        refine hi.so.bnd (s := ⟨s.l, M1⟩) w1 rs1 e1 (fun c fs M h => by cases h) fun y iv M2 Z2 H2 I2 w2 rs2 x2 q2 e2 => ?_
        obtain ⟨y, rfl, e2⟩ := pur_ok e2
        cases x with
        | p d => cases e2
        | o n =>
          cases y with
          | int j =>
            have e2 : (match setL M2 n j dv with | some M => some (Rs.ok (DV.p .non) M) | none => none) = some (Rs.ok d0 M0) := e2
            obtain ⟨a, ha', rfl⟩ := q1.mono x2
            cases q2
            cases y : setL M2 n j dv with
            | none => rw [y] at e2; cases e2
            | some M3 =>
              rw [y] at e2
              obtain rfl : M3 = M0 := by cases e2; rfl
              unfold setL at y
              cases y1 : M2[n]? with
              | none => rw [y1] at y; cases y
              | some ob =>
                rw [y1] at y
                cases ob with
                | lst ds =>
                  have y : (match ixN ds.length j with | some j => some (M2.set n (.lst (ds.set j dv))) | none => none) = some M3 := y
                  cases y2 : ixN ds.length j with
                  | none => rw [y2] at y; cases y
                  | some k =>
                    rw [y2] at y; cases y
                    obtain ⟨_, xs, h1, h2⟩ := w2.ob n a _ ha' y1 (by intro z; cases z)
                    have y3 := ext_set (Z := Z2) (H := H2) (ho := .lst (xs.set k v)) (List.mem_of_getElem? ha')
                    have rv2 : RepV K Z2 I2 v dv := RepV.mono (x1.trans x2) rv
                    refine ⟨a, xs, j, k, rfl, rfl, h1, by rw [paired_len h2]; exact y2, ?_⟩
                    exact q σ Z2 _ I2 (w2.setO (o' := .lst (ds.set k dv)) ha' y1 (by intro z; cases z) ⟨_, upd_same, paired_set rv2 k h2⟩) (rs2.mono y3) ((x1.trans x2).trans y3) fun _ _ => rfl
                | _ => cases y
          | _ => cases e2⟩
/-! ### methods of built-in types -/
def tyOk (T : String) (M : List O) : DV → Bool
  | .p (.str _) => T == "str"
  | .p (.lst _) => T == "list"
  | .p (.dK _) => T == "dict"
  | .p (.dT _) => T == "dict"
  | .o n => match M[n]? with
    | some (.lst _) => T == "list"
    | some (.dK _) => T == "dict"
    | some (.dT _) => T == "dict"
    | _ => false
  | _ => false
theorem ty_of {T : String} {Z H : Hp} {I : List Addr} {M : List O} {x : V} {d : DV} (w : Wf K Z H I M) (h : RepV K Z I x d) (e : tyOk T M d = true) : tyV K T x H := by
  cases d with
  | o n =>
    obtain ⟨a, ha, rfl⟩ := h
    unfold tyOk at e
    simp only at e
    cases z : M[n]? with
    | none => rw [z] at e; cases e
    | some o =>
      rw [z] at e
      cases o with
      | lst ds =>
        obtain ⟨_, xs, h1, _⟩ := w.ob n a _ ha z (by intro z; cases z)
        exact .inl ⟨by simpa using e, xs, SqL.of h1⟩
      | dK ds =>
        obtain ⟨_, xs, h1, _⟩ := w.ob n a _ ha z (by intro z; cases z)
        exact .inr (.inr (.inl ⟨by simpa using e, .inl ⟨xs, h1⟩⟩))
      | dT ds =>
        obtain ⟨_, xs, h1, _⟩ := w.ob n a _ ha z (by intro z; cases z)
        exact .inr (.inr (.inl ⟨by simpa using e, .inr ⟨xs, h1⟩⟩))
      | _ => cases e
  | p d =>
    have h : Rep K Z x d := h
    cases h with
    | str y => exact (by simpa [tyOk] using e : T = "str")
    | lst h1 h2 => exact .inl ⟨by simpa [tyOk] using e, _, .inl (same_rd w.sub h1)⟩
    | dK h1 h2 => exact .inr (.inr (.inl ⟨by simpa [tyOk] using e, .inl ⟨_, w.sub _ _ h1⟩⟩))
    | dT h1 h2 => exact .inr (.inr (.inl ⟨by simpa [tyOk] using e, .inr ⟨_, w.sub _ _ h1⟩⟩))
    | _ => cases e
abbrev MtG := DV → List DV → EM
structure MthD (K : PySem.W.Frag) (X : Cx) (id : String) (r : V → List V → Hp → VK → Prop) (g : MtG) : Prop where
  op : X.K = K → MtR X id r
  ok : ∀ (W : WX) (σ : St) (x : V) (d : DV) (vs : List V) (ds : List DV) (Z H : Hp) (I : List Addr) (s : S) (r0 : Rs DV) (Q : VK), Wf K Z H I s.m → RepV K Z I x d → RepVs K Z I vs ds → g d ds s = some r0 → PostR K W (RepV K) Z H I σ Q r0 → r x vs H Q
def mMth (T : String) (g : MtG) (o : EM) (ms : AM) : EM := bnd o fun d s => if tyOk T s.m d = true then bnd ms (fun ds => g d ds) s else none
theorem so_mth {T : String} {r : V → List V → Hp → VK → Prop} {g : MtG} {to : TE} {t : TA} {mo : EM} {ms : AM}
    (h : ∀ (W : WX) (σ : St) (x : V) (d : DV) (vs : List V) (ds : List DV) (Z H : Hp) (I : List Addr) (s : S) (r0 : Rs DV) (Q : VK), Wf K Z H I s.m → RepV K Z I x d → RepVs K Z I vs ds → g d ds s = some r0 → PostR K W (RepV K) Z H I σ Q r0 → r x vs H Q)
    (ho : Sound K W (RepV K) to mo) (ha : Sound K W (RepVs K) t ms) : Sound K W (RepV K) (tBM K T r to t) (mMth T g mo ms) := ⟨fun σ H s Z I r0 Q w rs e p => by
  refine ho.bnd w rs e p.x fun d v M1 Z1 H1 I1 w1 rs1 x1 q1 e1 => ?_
  have e1 : (if tyOk T M1 d = true then bnd ms (fun ds => g d ds) ⟨s.l, M1⟩ else none) = some r0 := e1
  split at e1
  · rename_i hty
    have p1 := p.mono x1
    refine ⟨ty_of w1 q1 hty, ha.bnd (s := ⟨s.l, M1⟩) w1 rs1 e1 p1.x fun ds vs M2 Z2 H2 I2 w2 rs2 x2 q2 e2 => ?_⟩
    exact h W σ v d vs ds Z2 H2 I2 ⟨s.l, M2⟩ r0 Q w2 (q1.mono x2) q2 e2 (p1.mono x2)
  · cases e1⟩
theorem de_mth {T id : String} {r : V → List V → Hp → VK → Prop} {g : MtG} {o : Expr} {name : Str} {apos cpos : Pos} {to : TE} {t : TA} {mo : EM} {ms : AM} (h : MthD K X id r g) (ho : DE K X W o to mo) (ha : DA K X W (e :: es) t ms) (pa : PlainAttrs T) (slot : Slot T name id) (hty : typeOf (.builtin id) = pure (.type "method_descriptor"))
    (hs : starEach (e :: es) X.env = (false, eval e X.env) :: starEach es X.env := by rfl) (hpl : (backTo cpos (starEach es X.env)).any (·.1) = false := by rfl)
    (hbase : attributeBase o name X.env (eval o X.env) = eval o X.env := by rfl) (hfew : ((((backTo cpos (starEach (e :: es) X.env)).all fun x => !x.1) && (backToKw cpos (keywordEach [] X.env)).all fun x => x.1.isSome) && decide (((e :: es).length + ([] : List Keyword).length + if ([] : List Keyword).isEmpty = true then 0 else 1) < 30)) = true := by rfl)
    (hline : (apos.endLine == cpos.line) = true := by rfl) : DE K X W (.Call (.Attribute o name apos) (e :: es) [] cpos) (tBM K T r to t) (mMth T g mo ms) := by
  refine ⟨ho.k, ?_, so_mth h.ok ho.so ha.so⟩
  have q := pe_bm (X := X) (cpos := cpos) (apos := apos) pa slot hty (h.op ho.k) ho.pe ha.pa (hbase := hbase) (hfew := hfew) (hline := hline) (hs := hs) (hplain := hpl)
  rw [ho.k] at q
  exact q
/-- data in, data out -/
def gP (g : D → List D → Option D) : MtG := fun d ds s => match d with
  | .p d => match allP ds with
    | some xs => ret (g d xs) s
    | none => none
  | .o _ => none
theorem gP_ok {r : V → List V → Hp → VK → Prop} {g : D → List D → Option D} (h : ∀ (x : V) (d : D) (vs : List V) (ds : List D) (c : D) (Z H : Hp) (Q : VK), Same Z H → Rep K Z x d → RepA K Z vs ds → g d ds = some c → PostP K Z H c Q → r x vs H Q) :
    ∀ (W : WX) (σ : St) (x : V) (d : DV) (vs : List V) (ds : List DV) (Z H : Hp) (I : List Addr) (s : S) (r0 : Rs DV) (Q : VK), Wf K Z H I s.m → RepV K Z I x d → RepVs K Z I vs ds → gP g d ds s = some r0 → PostR K W (RepV K) Z H I σ Q r0 → r x vs H Q := by
  intro W σ x d vs ds Z H I s r0 Q w hx hv e p
  cases d with
  | o n => cases e
  | p d =>
    have e : (match allP ds with | some xs => ret (g d xs) s | none => none) = some r0 := e
    cases q : allP ds with
    | none => rw [q] at e; cases e
    | some xs =>
      rw [q] at e
      obtain ⟨c, hc, rfl⟩ := ret_ok e
      exact h x d vs xs c Z H Q w.sub hx (allP_rep hv q) hc (PostP.of w p)
def gApp : MtG := fun d ds s => match d, ds with
  | .o n, [y] => match s.m[n]? with
    | some (.lst xs) => if xs.length < 1000000 then some (.ok (.p .non) (s.m.set n (.lst (xs ++ [y])))) else none
    | _ => none
  | _, _ => none
theorem md_app : MthD K X "list.append" rAppend gApp := ⟨fun _ => mt_append, fun W σ x d vs ds Z H I s r0 Q w hx hv e p => by
  unfold gApp at e
  split at e
  · rename_i n y
    obtain ⟨a, ha, rfl⟩ := hx
    cases hv with
    | cons h1 h2 =>
    cases h2
    split at e
    · rename_i xs hm
      split at e
      · rename_i hl
        cases e
        obtain ⟨_, ys, g1, g2⟩ := w.ob n a _ ha hm (by intro z; cases z)
        refine ⟨a, ys, _, rfl, rfl, g1, by rw [paired_len g2]; exact size_lt (Nat.le_of_lt hl), ?_⟩
        exact p _ Z _ I (w.setO ha hm (by intro z; cases z) ⟨_, upd_same, paired_app g2 (.cons h1 .nil)⟩) (ext_set (List.mem_of_getElem? ha)) .non
      · cases e
    · cases e
  · cases e⟩
/-! ### defs -/
def slotsOf (n : Nat) (ds : List DV) : List (Option DV) := ds.map some ++ List.replicate (n - ds.length) none
theorem start_rep {Z : Hp} {I : List Addr} {N : List Str} {vs : List V} {ds : List DV} (r : RepVs K Z I vs ds) : RepS K Z I (L2.start N vs) (slotsOf N.length ds) := by
  have hl := paired_len r
  refine ⟨by unfold L2.start slotsOf; simp [hl], fun i dv e => ?_⟩
  unfold slotsOf at e
  unfold L2.start
  by_cases hi : i < ds.length
  · rw [List.getElem?_append_left (by simpa using hi), List.getElem?_map] at e
    cases q : ds[i]? with
    | none => rw [q] at e; cases e
    | some d =>
      rw [q] at e
      cases e
      obtain ⟨v, h1, h2⟩ := paired_get r q
      exact ⟨v, by rw [List.getElem?_append_left (by simpa [hl] using hi), List.getElem?_map, h1]; rfl, h2⟩
  · rw [List.getElem?_append_right (by simpa using hi), List.getElem?_replicate] at e
    split at e <;> cases e
def runA (n : Nat) (m : SM) : MA := fun ds => match m ⟨slotsOf n (ds.map .p), []⟩ with
  | some (.nx, _) => some (.ok .non)
  | some (.rt (.p d), _) => some (.ok d)
  | some (.ex c fs, _) => some (.ex c fs)
  | _ => none
def ltO (k : Nat) : DV → Bool
  | .p _ => true
  | .o n => decide (n < k)
def closed (k : Nat) : O → Bool
  | .lst xs => xs.all (ltO k)
  | .dK xs => xs.all fun p => ltO k p.2
  | .dT xs => xs.all fun p => ltO k p.2
  | .ins _ xs => xs.all fun p => ltO k p.2
  | .gone => true
def dropM (k : Nat) (d : DV) (M : List O) : List O := if (ltO k d && (M.take k).all (closed k)) = true then M.take k else M
def runB (n : Nat) (m : SM) : List DV → List O → Option (Rs DV) := fun ds M => match m ⟨slotsOf n ds, M⟩ with
  | some (.nx, s) => some (.ok (.p .non) (dropM M.length (.p .non) s.m))
  | some (.rt d, s) => some (.ok d (dropM M.length d s.m))
  | some (.ex c fs, s) => some (.ex c fs (dropM M.length (.p .non) s.m))
  | _ => none
theorem repV_take {Z : Hp} {I t : List Addr} {v : V} {d : DV} (h : RepV K Z (I ++ t) v d) (l : ltO I.length d = true) : RepV K Z I v d := by
  cases d with
  | p d => exact h
  | o n =>
    obtain ⟨a, ha, e⟩ := h
    have l : n < I.length := by simpa [ltO] using l
    exact ⟨a, by rw [List.getElem?_append_left l] at ha; exact ha, e⟩
theorem paired_all {α β : Type} {F G : α → β → Prop} {p : β → Bool} (k : ∀ a b, F a b → p b = true → G a b) : ∀ {xs : List α} {ys : List β}, Paired F xs ys → ys.all p = true → Paired G xs ys
  | _, _, .nil, _ => .nil
  | _, _, .cons h r, e => by
    rw [List.all_cons, Bool.and_eq_true] at e
    exact .cons (k _ _ h e.1) (paired_all k r e.2)
theorem wf_take {Z H : Hp} {I t : List Addr} {M : List O} (w : Wf K Z H (I ++ t) M) (l : (M.take I.length).all (closed I.length) = true) : Wf K Z H I (M.take I.length) where
  sub := w.sub
  len := by
    have := w.len
    rw [List.length_append] at this
    rw [List.length_take]; omega
  nd := (List.nodup_append.mp w.nd).1
  tr := fun a m => w.tr a (List.mem_append_left _ m)
  ob := fun n a o h1 h2 h3 => by
    have hn := (List.getElem?_eq_some_iff.mp h1).1
    have cl : closed I.length o = true := List.all_eq_true.mp l o (List.mem_of_getElem? h2)
    rw [List.getElem?_take_of_lt hn] at h2
    obtain ⟨q1, q2⟩ := w.ob n a o (by rw [List.getElem?_append_left hn]; exact h1) h2 h3
    refine ⟨q1, ?_⟩
    cases o with
    | lst ds => obtain ⟨xs, h, r⟩ := q2; exact ⟨xs, h, paired_all (p := ltO I.length) (fun _ _ q l => repV_take q l) r cl⟩
    | dK _ => obtain ⟨xs, h, r⟩ := q2; exact ⟨xs, h, paired_all (G := FRel K Z I) (p := fun p => ltO I.length p.2) (fun a b q l => (⟨q.1, repV_take q.2 l⟩ : FRel K Z I a b)) r cl⟩
    | dT _ => obtain ⟨xs, h, r⟩ := q2; exact ⟨xs, h, paired_all (G := FRel K Z I) (p := fun p => ltO I.length p.2) (fun a b q l => (⟨q.1, repV_take q.2 l⟩ : FRel K Z I a b)) r cl⟩
    | ins _ _ => obtain ⟨dx, xs, h, r⟩ := q2; exact ⟨dx, xs, h, paired_all (G := FRel K Z I) (p := fun p => ltO I.length p.2) (fun a b q l => (⟨q.1, repV_take q.2 l⟩ : FRel K Z I a b)) r cl⟩
    | gone => trivial
theorem drop_ok {Z H Z' H' : Hp} {I I' : List Addr} {M M' : List O} {v : V} {d : DV} (w0 : Wf K Z H I M) (w : Wf K Z' H' I' M') (x : Ext Z H I Z' H' I') (r : RepV K Z' I' v d) : ∃ I2, Wf K Z' H' I2 (dropM M.length d M') ∧ Ext Z H I Z' H' I2 ∧ RepV K Z' I2 v d ∧ ∀ a ∈ I2, a ∈ I' := by
  unfold dropM
  split
  · rename_i h
    rw [Bool.and_eq_true] at h
    obtain ⟨t, rfl⟩ := x.i
    rw [← w0.len] at h ⊢
    exact ⟨I, wf_take w h.2, ⟨x.z, ⟨[], by simp⟩, x.fr, fun a m => .inl m, x.zn, x.tr⟩, repV_take r h.1, fun a m => List.mem_append_left _ m⟩
  · exact ⟨I', w, x, r, fun _ m => m⟩
section
variable {P : Program} {w : World} {mg : Str → Option Value} {base : Heap} {x qual : Str} {st : Stmt} {f : Addr} {fd : FuncData} {N ps : List Str} {k : Nat}
abbrev WE0 (E : XK) : WX := fun cls d _ H => E cls d H
theorem fnA {m : SM} (F : Fun K x qual st f fd) (Sc : FnScope N ps (defScope st))
    (body : ∀ (cdv : Value) (A : Around) (outer : List Env) (s : Shared) (H : Hp) (E : XK), Room k (A.deeper (PyProof.Rows.envOfC qual (defScope st) s.heap.objs.size f cdv)) →
      ∃ t, DSs K (cxOf (L2.CX P w) P w K mg base N qual (defScope st) f cdv A outer s H E) (WE0 E) (defBody st) t m) : FnOk P w K mg base (L2.CX P w) (k + 1) f fd ps (spA K ps.length (runA N.length m)) := by
  refine F.okX Sc spA_len fun cdv A outer s H vs Q E hr h => ?_
  obtain ⟨hl, Z, ds, r, sub, rp, e, p⟩ := h
  obtain ⟨t, b⟩ := body cdv A outer s H E hr
  refine ⟨t, b.ps, ?_⟩
  have w0 : Wf K Z H [] [] := ⟨sub, rfl, List.nodup_nil, (by simp), fun n a o h => by simp at h⟩
  unfold runA at e
  cases z : m ⟨slotsOf N.length (ds.map .p), []⟩ with
  | none => rw [z] at e; cases e
  | some fs =>
    rw [z] at e
    obtain ⟨fl, s1⟩ := fs
    have xp : ∀ {Z' H' I'}, Wf K Z' H' I' s1.m → Ext Z H [] Z' H' I' → ExtP Z H Z' H' := fun {Z' H' I'} w' x' => ⟨x'.z, fun a o q => x'.fr a o q (by simp), w'.sub, fun a q => by
      rcases x'.zn a q with k | k | k
      · exact .inl k
      · exact .inr k
      · cases k⟩
    refine b.so.ok (L2.start N vs) H _ Z [] _ _ w0 (start_rep (allP_map rp)) z ?_
    cases fl with
    | nx => cases e; exact fun σ' Z' H' I' w' rs' x' => p _ Z' H' (xp w' x') .non
    | rt d =>
      cases d with
      | p d => cases e; exact fun v Z' H' I' w' x' r' => p v Z' H' (xp w' x') r'
      | o n => cases e
    | ex c fs => cases e; exact fun σ' d Z' H' I' w' rs' x' ea na => p d Z' H' (xp w' x') ea fun a q => (na a q).1
    | bk => cases e
    | ct => cases e
theorem fnB {m : SM} (F : Fun K x qual st f fd) (Sc : FnScope N ps (defScope st))
    (body : ∀ (cdv : Value) (A : Around) (outer : List Env) (s : Shared) (H : Hp) (E : XK), Room k (A.deeper (PyProof.Rows.envOfC qual (defScope st) s.heap.objs.size f cdv)) →
      ∃ t, DSs K (cxOf (L2.CX P w) P w K mg base N qual (defScope st) f cdv A outer s H E) (WE0 E) (defBody st) t m) : FnOk P w K mg base (L2.CX P w) (k + 1) f fd ps (spB K ps.length (runB N.length m)) := by
  refine F.okX Sc spB_len fun cdv A outer s H vs Q E hr h => ?_
  obtain ⟨hl, Z, I, M, ds, r, w0, rp, e, p⟩ := h
  obtain ⟨t, b⟩ := body cdv A outer s H E hr
  refine ⟨t, b.ps, ?_⟩
  unfold runB at e
  cases z : m ⟨slotsOf N.length ds, M⟩ with
  | none => rw [z] at e; cases e
  | some fs =>
    rw [z] at e
    obtain ⟨fl, s1⟩ := fs
    refine b.so.ok (L2.start N vs) H ⟨slotsOf N.length ds, M⟩ Z I _ _ w0 (start_rep rp) z ?_
    cases fl with
    | nx =>
      cases e
      intro σ' Z' H' I' w' rs' x'
      obtain ⟨I2, w2, x2, r2, _⟩ := drop_ok (d := .p .non) (v := .non) w0 w' x' (show Rep K Z' .non .non from .non)
      exact p _ Z' H' I2 w2 x2 r2
    | rt d =>
      cases e
      intro v Z' H' I' w' x' r'
      obtain ⟨I2, w2, x2, r2, _⟩ := drop_ok w0 w' x' r'
      exact p v Z' H' I2 w2 x2 r2
    | ex c fs =>
      cases e
      intro σ' d Z' H' I' w' rs' x' ea na
      obtain ⟨I2, w2, x2, _, h2⟩ := drop_ok (d := .p .non) (v := .non) w0 w' x' (show Rep K Z' .non .non from .non)
      exact p d Z' H' I2 w2 x2 ea fun a q => ⟨(na a q).1, fun m => (na a q).2 (h2 a m)⟩
    | bk => cases e
    | ct => cases e
end
end
end DL
namespace DL
open PySem L2
/-! ### equality of data -/
mutual
def toP : D → PyData
  | .non => .none
  | .bl b => .bool b
  | .int i => .int i
  | .str s => .str s
  | .lst xs => .list (toPs xs)
  | .tup xs => .tuple (toPs xs)
  | .dK _ => .dict []
  | .dT _ => .dict []
  | .fn _ => .dict []
  | .scr _ => .dict []
  | .ty _ => .dict []
def toPs : List D → List PyData
  | [] => []
  | d :: r => toP d :: toPs r
end
mutual
/-- the same, as == tells -/
def deq : D → D → Bool
  | .non, .non => true
  | .bl a, .bl b => a == b
  | .bl a, .int j => (if a then 1 else 0) == j
  | .int i, .bl b => i == (if b then 1 else 0)
  | .int i, .int j => i == j
  | .str x, .str y => x == y
  | .lst xs, .lst ys => deqs xs ys
  | .tup xs, .tup ys => deqs xs ys
  | _, _ => false
def deqs : List D → List D → Bool
  | [], [] => true
  | x :: xs, y :: ys => deq x y && deqs xs ys
  | _, _ => false
end
mutual
theorem deq_eqv : ∀ a b : D, PyData.eqv (toP a) (toP b) = deq a b
  | .lst xs, .lst ys => by show PyData.eqvAll (toPs xs) (toPs ys) = deqs xs ys; exact deqs_eqv xs ys
  | .tup xs, .tup ys => by show PyData.eqvAll (toPs xs) (toPs ys) = deqs xs ys; exact deqs_eqv xs ys
  | .non, b => by cases b <;> rfl
  | .bl _, b => by cases b <;> rfl
  | .int _, b => by cases b <;> rfl
  | .str _, b => by cases b <;> rfl
  | .dK _, b => by cases b <;> rfl
  | .dT _, b => by cases b <;> rfl
  | .fn _, b => by cases b <;> rfl
  | .scr _, b => by cases b <;> rfl
  | .ty _, b => by cases b <;> rfl
  | .lst _, .non => rfl
  | .lst _, .bl _ => rfl
  | .lst _, .int _ => rfl
  | .lst _, .str _ => rfl
  | .lst _, .tup _ => rfl
  | .lst _, .dK _ => rfl
  | .lst _, .dT _ => rfl
  | .lst _, .fn _ => rfl
  | .lst _, .scr _ => rfl
  | .lst _, .ty _ => rfl
  | .tup _, .non => rfl
  | .tup _, .bl _ => rfl
  | .tup _, .int _ => rfl
  | .tup _, .str _ => rfl
  | .tup _, .lst _ => rfl
  | .tup _, .dK _ => rfl
  | .tup _, .dT _ => rfl
  | .tup _, .fn _ => rfl
  | .tup _, .scr _ => rfl
  | .tup _, .ty _ => rfl
theorem deqs_eqv : ∀ a b : List D, PyData.eqvAll (toPs a) (toPs b) = deqs a b
  | [], [] => rfl
  | x :: xs, y :: ys => by
    show (PyData.eqv (toP x) (toP y) && PyData.eqvAll (toPs xs) (toPs ys)) = (deq x y && deqs xs ys)
    rw [deq_eqv x y, deqs_eqv xs ys]
  | [], _ :: _ => rfl
  | _ :: _, [] => rfl
end
section
variable {K : PySem.W.Frag} {Z H : Hp}
mutual
theorem Rep.dp (s : Same Z H) : ∀ {v : V} {d : D}, Rep K Z v d → PyData.canLay0 (toP d) = true → Dp K H v (toP d)
  | _, _, .non, _ => .non
  | _, _, .bl b, _ => .bl b
  | _, _, .int i, _ => .int i
  | _, _, .str x, _ => .str x
  | _, _, .lst h r, e => .lst (.inl (same_rd s h)) (RepA.dp s r e)
  | _, _, .tup h r, e => .tup (same_t s h) (RepA.dp s r e)
  | _, _, .dK _ _, e => by cases e
  | _, _, .dT _ _, e => by cases e
  | _, _, .fn _, e => by cases e
  | _, _, .scr _ _, e => by cases e
  | _, _, .ty _, e => by cases e
theorem RepA.dp (s : Same Z H) : ∀ {v : List V} {d : List D}, RepA K Z v d → PyData.canLayAll0 (toPs d) = true → DpAll K H v (toPs d)
  | _, _, .nil, _ => .nil
  | _, _, .cons h r, e => by
    have e : (PyData.canLay0 (toP _) && PyData.canLayAll0 (toPs _)) = true := e
    rw [Bool.and_eq_true] at e
    exact .cons (Rep.dp s h e.1) (RepA.dp s r e.2)
end
end
mutual
def okD : D → Bool
  | .non => true
  | .bl _ => true
  | .int _ => true
  | .str x => PyData.strOk x
  | .lst xs => okDs xs
  | .tup xs => okDs xs
  | _ => false
def okDs : List D → Bool
  | [] => true
  | x :: xs => okD x && okDs xs
end
mutual
def depD : D → Nat
  | .lst xs => depDs xs + 1
  | .tup xs => depDs xs + 1
  | _ => 0
def depDs : List D → Nat
  | [] => 0
  | x :: xs => max (depD x) (depDs xs)
end
mutual
theorem okD_can : ∀ d : D, okD d = true → PyData.canLay0 (toP d) = true
  | .non, _ => rfl
  | .bl _, _ => rfl
  | .int _, _ => rfl
  | .str x, h => h
  | .lst xs, h => okDs_can xs h
  | .tup xs, h => okDs_can xs h
  | .dK _, h => by cases h
  | .dT _, h => by cases h
  | .fn _, h => by cases h
  | .scr _, h => by cases h
  | .ty _, h => by cases h
theorem okDs_can : ∀ d : List D, okDs d = true → PyData.canLayAll0 (toPs d) = true
  | [], _ => rfl
  | x :: xs, h => by
    have h : (okD x && okDs xs) = true := h
    rw [Bool.and_eq_true] at h
    show (PyData.canLay0 (toP x) && PyData.canLayAll0 (toPs xs)) = true
    rw [okD_can x h.1, okDs_can xs h.2]; rfl
end
mutual
theorem depD_dep : ∀ d : D, okD d = true → PyData.depth (toP d) = depD d
  | .non, _ => rfl
  | .bl _, _ => rfl
  | .int _, _ => rfl
  | .str x, _ => rfl
  | .lst xs, h => by show PyData.depthAll (toPs xs) + 1 = depDs xs + 1; rw [depDs_dep xs h]
  | .tup xs, h => by show PyData.depthAll (toPs xs) + 1 = depDs xs + 1; rw [depDs_dep xs h]
  | .dK _, h => by cases h
  | .dT _, h => by cases h
  | .fn _, h => by cases h
  | .scr _, h => by cases h
  | .ty _, h => by cases h
theorem depDs_dep : ∀ d : List D, okDs d = true → PyData.depthAll (toPs d) = depDs d
  | [], _ => rfl
  | x :: xs, h => by
    have h : (okD x && okDs xs) = true := h
    rw [Bool.and_eq_true] at h
    show max (PyData.depth (toP x)) (PyData.depthAll (toPs xs)) = max (depD x) (depDs xs)
    rw [depD_dep x h.1, depDs_dep xs h.2]
end
def shp (d : D) : Bool := okD d && decide (depD d ≤ 64)
theorem shp_ok {d : D} (h : shp d = true) : SeqAt.shaped (toP d) = true := by
  unfold shp at h
  rw [Bool.and_eq_true] at h
  unfold SeqAt.shaped
  rw [okD_can d h.1, depD_dep d h.1, h.2]; rfl
/-- scalars are told apart at once; the rest has to be shaped -/
def scalD : D → D → Option Bool
  | .non, .non => some true
  | .non, .int _ => some false
  | .int _, .non => some false
  | .non, .bl _ => some false
  | .bl _, .non => some false
  | .non, .str _ => some false
  | .str _, .non => some false
  | .int i, .int j => some (i == j)
  | .bl i, .bl j => some (i == j)
  | .str x, .str y => some (x == y)
  | .int _, .str _ => some false
  | .str _, .int _ => some false
  | .bl _, .str _ => some false
  | .str _, .bl _ => some false
  | _, _ => none
def eqD (d e : D) : Option Bool := match scalD d e with
  | some b => some b
  | none => if (shp d && shp e) = true then some (deq d e) else none
def dEq (d e : D) : Option D := (eqD d e).map .bl
def dNe (d e : D) : Option D := (eqD d e).map fun b => .bl !b
theorem boolMap {α : Type} {o : Option α} {f : α → Bool} {c : D} (h : (o.map fun a => D.bl (f a)) = some c) : ∃ b, c = .bl b := by
  cases o with
  | none => cases h
  | some a => cases h; exact ⟨_, rfl⟩
theorem bool_dEq : boolD dEq := fun d e c h => boolMap (f := id) h
theorem bool_dNe : boolD dNe := fun d e c h => boolMap h
section
variable {K : PySem.W.Frag} {X : Cx}
theorem scal_ok {Z : Hp} {x y : V} {d e : D} {b : Bool} (hx : Rep K Z x d) (hy : Rep K Z y e) (h : scalD d e = some b) : scal x y = true ∧ decide (x = y) = b := by
  cases hx with
  | non => cases hy <;> cases h <;> exact ⟨rfl, rfl⟩
  | int i => cases hy with
    | int j => cases h; refine ⟨rfl, ?_⟩; by_cases q : i = j <;> simp [q]
    | non => cases h; exact ⟨rfl, rfl⟩
    | str _ => cases h; exact ⟨rfl, rfl⟩
    | _ => cases h
  | bl i => cases hy with
    | bl j => cases h; refine ⟨rfl, ?_⟩; by_cases q : i = j <;> simp [q]
    | non => cases h; exact ⟨rfl, rfl⟩
    | str _ => cases h; exact ⟨rfl, rfl⟩
    | _ => cases h
  | str i => cases hy with
    | str j => cases h; refine ⟨rfl, ?_⟩; by_cases q : i = j <;> simp [q]
    | non => cases h; exact ⟨rfl, rfl⟩
    | int _ => cases h; exact ⟨rfl, rfl⟩
    | bl _ => cases h; exact ⟨rfl, rfl⟩
    | _ => cases h
  | _ => cases hy <;> cases h
def rEqX (K : PySem.W.Frag) : R2 := fun x y H Q => rEq x y H Q ∨ rEqD K x y H Q
def rNeX (K : PySem.W.Frag) : R2 := fun x y H Q => rNe x y H Q ∨ rNeD K x y H Q
theorem shaped_can {d : D} (h : shp d = true) : PyData.canLay0 (toP d) = true := SeqAt.canLay_of_shaped (shp_ok h)
theorem od_eq (hu : X.A.units + 64 < cLine) : OpD K X (compareOp .Eq) (rEqX K) dEq where
  op := fun k pins s σ H x y v u Q I rx ry h => by
    subst k
    rcases h with h | h
    · exact op_eq pins s σ H x y v u Q I rx ry h
    · exact op_eqD hu pins s σ H x y v u Q I rx ry h
  ok := by
    intro x y d e c Z H Q s hx hy hg p
    unfold dEq eqD at hg
    cases z : scalD d e with
    | some b =>
      rw [z] at hg; cases hg
      obtain ⟨h1, h2⟩ := scal_ok hx hy z
      exact .inl ⟨h1, by rw [h2]; exact p _ Z H (ExtP.refl s) (.bl _)⟩
    | none =>
      rw [z] at hg
      have hg : (if (shp d && shp e) = true then some (deq d e) else none).map D.bl = some c := hg
      split at hg
      · rename_i hs
        cases hg
        rw [Bool.and_eq_true] at hs
        exact .inr ⟨_, _, hx.dp s (shaped_can hs.1), hy.dp s (shaped_can hs.2), shp_ok hs.1, shp_ok hs.2, by rw [deq_eqv]; exact p _ Z H (ExtP.refl s) (.bl _)⟩
      · cases hg
theorem od_ne (hu : X.A.units + 64 < cLine) : OpD K X (compareOp .NotEq) (rNeX K) dNe where
  op := fun k pins s σ H x y v u Q I rx ry h => by
    subst k
    rcases h with h | h
    · exact op_ne pins s σ H x y v u Q I rx ry h
    · exact op_neD hu pins s σ H x y v u Q I rx ry h
  ok := by
    intro x y d e c Z H Q s hx hy hg p
    unfold dNe eqD at hg
    cases z : scalD d e with
    | some b =>
      rw [z] at hg; cases hg
      obtain ⟨h1, h2⟩ := scal_ok hx hy z
      exact .inl ⟨h1, by rw [h2]; exact p _ Z H (ExtP.refl s) (.bl _)⟩
    | none =>
      rw [z] at hg
      have hg : (if (shp d && shp e) = true then some (deq d e) else none).map (fun b => D.bl !b) = some c := hg
      split at hg
      · rename_i hs
        cases hg
        rw [Bool.and_eq_true] at hs
        exact .inr ⟨_, _, hx.dp s (shaped_can hs.1), hy.dp s (shaped_can hs.2), shp_ok hs.1, shp_ok hs.2, by rw [deq_eqv]; exact p _ Z H (ExtP.refl s) (.bl _)⟩
      · cases hg
end
/-! ### slices -/
section
variable {K : PySem.W.Frag} {X : Cx} {W : WX} {e a b c : Expr} {es : List Expr} {pos : Pos}
def RepOI (_ : Hp) (_ : List Addr) (x y : Option Int) : Prop := x = y
abbrev PM := Mi (Option Int)
structure DP (K : PySem.W.Frag) (X : Cx) (W : WX) (e : Option Expr) (t : TO) (m : PM) : Prop where
  k : X.K = K
  po : PO X e t
  so : Sound K W RepOI t m
def pNone : PM := fun s => some (.ok none s.m)
def pSome (m : EM) : PM := bnd m (pur fun d s => match d with
  | .int i => some (.ok (some i) s.m)
  | _ => none)
theorem dp_none (k : X.K = K := by rfl) : DP K X W none tNoPart pNone := ⟨k, po_none, ⟨fun σ H s Z I r Q w rs e p => by
  cases e; exact p none Z H I w Ext.refl rfl⟩⟩
theorem dp_some {te : TE} {m : EM} (h : DE K X W e te m) : DP K X W (some e) (tPart te) (pSome m) := ⟨h.k, po_some h.pe, ⟨fun σ H s Z I r Q w rs e p => by
  refine h.so.bnd w rs e p.x fun d v M1 Z1 H1 I1 w1 rs1 x1 q1 e1 => ?_
  obtain ⟨d, rfl, e1⟩ := pur_ok e1
  cases d with
  | int i => cases q1; cases e1; exact ⟨i, rfl, p _ Z1 H1 I1 w1 x1 rfl⟩
  | _ => cases e1⟩⟩
def cutD {α : Type} (xs : List α) (lo hi : Option Int) : List α := (xs.drop (HT.sIx xs.length 0 lo)).take (HT.sIx xs.length xs.length hi - HT.sIx xs.length 0 lo)
def slD : D → Option Int → Option Int → Option D
  | .str z, l, u => if z.length ≤ 1000000 then some (.str (cutS z l u)) else none
  | .lst xs, l, u => some (.lst (cutD xs l u))
  | .scr xs, l, u => some (.lst (cutD xs l u))
  | .tup xs, l, u => if HT.sIx xs.length 0 l = 0 ∧ HT.sIx xs.length xs.length u = xs.length then some (.tup xs) else some (.tup (cutD xs l u))
  | _, _, _ => none
def mSl (m : EM) (l u : PM) : EM := bnd m (pur fun d => bnd l fun i => bnd u fun j => ret (slD d i j))
def rSl (K : PySem.W.Frag) : V → Option Int → Option Int → Hp → VK → Prop := fun x lo hi H Q => rSlS x lo hi H Q ∨ rSlL K x lo hi H Q ∨ (∃ a xs, x = .ref a ∧ SqT K H a xs ∧ ¬ (HT.sIx xs.length 0 lo = 0 ∧ HT.sIx xs.length xs.length hi = xs.length) ∧ ∀ p, H p = none → Q (.ref p) (upd H p (.tup (cutV xs lo hi))))
theorem RepA.cut {Z : Hp} {xs : List V} {ds : List D} (r : RepA K Z xs ds) (lo hi : Option Int) : RepA K Z (cutV xs lo hi) (cutD ds lo hi) := by
  unfold cutV cutD
  rw [r.length]
  exact (r.drop _).take _
theorem sl_any : SlR X (rSl X.K) := fun pins s σ H x v vl vu lo hi sl Q I rx hs pl pu h => by
  rcases h with h | h | h
  · exact sl_str pins s σ H x v vl vu lo hi sl Q I rx hs pl pu h
  · exact sl_list pins s σ H x v vl vu lo hi sl Q I rx hs pl pu h
  · exact sl_tup pins s σ H x v vl vu lo hi sl Q I rx hs pl pu h
theorem sl_ok {x : V} {d c : D} {lo hi : Option Int} {Z H : Hp} {Q : VK} (s : Same Z H) (hx : Rep K Z x d) (hg : slD d lo hi = some c) (p : PostP K Z H c Q) (nt : ∀ xs, d ≠ .tup xs) : rSl K x lo hi H Q := by
  cases hx with
  | str z =>
    have hg : (if z.length ≤ 1000000 then some (D.str (cutS z lo hi)) else none) = some c := hg
    split at hg
    · rename_i hl
      cases hg
      exact .inl ⟨z, rfl, size_le hl, p _ Z H (ExtP.refl s) (.str _)⟩
    · cases hg
  | lst h1 h2 =>
    cases hg
    exact .inr (.inl ⟨_, _, rfl, .inl (same_rd s h1), fun l hl => p _ _ _ (ExtP.new s hl) (.lst (.inl upd_same) ((h2.cut lo hi).mono (same_upd (none_of s hl))))⟩)
  | scr h1 h2 =>
    cases hg
    exact .inr (.inl ⟨_, _, rfl, same_l s h1, fun l hl => p _ _ _ (ExtP.new s hl) (.lst (.inl upd_same) ((h2.cut lo hi).mono (same_upd (none_of s hl))))⟩)
  | tup h1 h2 => exact absurd rfl (nt _)
  | _ => cases hg
/-- (tuples are not cut here) -/
def slE (d : D) (l u : Option Int) : Option D := match d with
  | .tup _ => none
  | d => slD d l u
theorem de_sl {te : TE} {tl th : TO} {m : EM} {ml mu : PM} {lo hi : Option Expr} {p2 : Pos} (h : DE K X W e te m) (hl : DP K X W lo tl ml) (hh : DP K X W hi th mu) : DE K X W (.Subscript e (.Slice lo hi none p2) pos) (tSl (rSl K) te tl th) (bnd m (pur fun d => bnd ml fun i => bnd mu fun j => ret (slE d i j))) := by
  refine ⟨h.k, ?_, ⟨fun σ H s Z I r0 Q w rs e p => ?_⟩⟩
  · have q := pe_slice (X := X) (pos := pos) (p2 := p2) sl_any h.pe hl.po hh.po
    rw [h.k] at q
    exact q
  · refine h.so.bnd w rs e p.x fun d v M1 Z1 H1 I1 w1 rs1 x1 q1 e1 => ?_
    obtain ⟨d, rfl, e1⟩ := pur_ok e1
    have p1 := p.mono x1
    refine hl.so.bnd (s := ⟨s.l, M1⟩) w1 rs1 e1 p1.x fun i i' M2 Z2 H2 I2 w2 rs2 x2 q2 e2 => ?_
    cases (show i' = i from q2)
    have p2 := p1.mono x2
    refine hh.so.bnd (s := ⟨s.l, M2⟩) w2 rs2 e2 p2.x fun j j' M3 Z3 H3 I3 w3 rs3 x3 q3 e3 => ?_
    cases (show j' = j from q3)
    obtain ⟨c, hc, rfl⟩ := ret_ok e3
    have hx : Rep K Z3 v d := Rep.mono x3.z (Rep.mono x2.z q1)
    unfold slE at hc
    split at hc
    · cases hc
    · rename_i hn
      exact sl_ok w3.sub hx hc (PostP.of w3 (p2.mono x3)) fun xs h => hn xs h
end
end DL
namespace DL
open PySem L2
section
variable {K : PySem.W.Frag} {X : Cx} {W : WX} {e a b c : Expr} {es : List Expr} {pos : Pos}
/-! ### isinstance -/
def tyName : D → Option String
  | .non => some "NoneType"
  | .bl _ => some "bool"
  | .int _ => some "int"
  | .str _ => some "str"
  | .lst _ => some "list"
  | .tup _ => some "tuple"
  | _ => none
theorem tyX_of {Z H : Hp} {x : V} {d : D} {n : String} (s : Same Z H) (h : Rep K Z x d) (e : tyName d = some n) : TyX K H x (.type n) := by
  cases h with
  | non => cases e; exact .base .non
  | bl b => cases e; exact .base (.bl b)
  | int b => cases e; exact .base (.int b)
  | str b => cases e; exact .base (.str b)
  | lst h1 h2 =>
    cases e
    rcases h1 with h1 | ⟨o, h1⟩
    · exact .base (.lst (s _ _ h1))
    · exact .base (.frz (s _ _ h1))
  | tup h1 h2 =>
    cases e
    rcases h1 with (h1 | ⟨o, h1⟩) | ⟨o, its, n, h1, h2, _⟩
    · exact .base (.tup (s _ _ h1))
    · exact .fTuple (s _ _ h1)
    · exact .kTuple h1 h2
  | _ => cases e
def dIsi : List O → List DV → Option D
  | _, [.p d, .p (.ty n)] => match tyName d with
    | some t => (kitB t n).map .bl
    | none => none
  | _, _ => none
theorem cd_isi : CallD K X (.builtin "isinstance") (rIsi K) dIsi := ⟨fun k => by rw [← k]; exact call_isi, fun vs ds c Z H I M Q w rv hg p => by
  unfold dIsi at hg
  split at hg
  · rename_i d n
    cases rv with
    | cons h1 h2 =>
    cases h2 with
    | cons h2 h3 =>
    cases h3
    split at hg
    · rename_i t ht
      cases z : kitB t n with
      | none => rw [z] at hg; cases hg
      | some r =>
        rw [z] at hg; cases hg
        cases h2
        exact ⟨_, _, .type t, .type n, r, rfl, .ty n, tyX_of w.sub h1 ht, kit_ty z, p _ Z H (ExtP.refl w.sub) (.bl _)⟩
    · cases hg
  · cases hg⟩
theorem de_bty {x : Str} {n : String} (hm : X.mg x = none) (hv : bootBuiltins x = some (.type n)) (k : X.K = K := by rfl) (hg : Gl X x := by rfl) (hn : x ≠ "__name__" := by decide) (hd : (x == ("__debug__" : Str)) = false := by decide) : DE K X W (.Name x pos) (tC (.ty n)) (mC (.ty n)) :=
  ⟨k, pe_bltn (v := .ty n) hg hm hv rfl hn hd, so_c fun _ => .ty n⟩
end
end DL
namespace DL
open PySem L2
abbrev dSub : D → D → Option D := dIi fun i j => i - j
abbrev dMul : D → D → Option D := dI fun i j => if mulOk i j = true then some (.int (i * j)) else none
abbrev dDiv : D → D → Option D := dI fun i j => if 0 < j ∧ j < 18446744073709551616 then some (.int (i / j)) else none
abbrev dMod : D → D → Option D := dI fun i j => if 0 < j then some (.int (i % j)) else none
abbrev dLt : D → D → Option D := dIb fun i j => decide (i < j)
abbrev dLe : D → D → Option D := dIb fun i j => decide (i ≤ j)
abbrev dGt : D → D → Option D := dIb fun i j => decide (j < i)
abbrev dGe : D → D → Option D := dIb fun i j => decide (j ≤ i)
def dNeg : D → Option D
  | .int i => some (.int (-i))
  | _ => none
theorem de_usub {K : PySem.W.Frag} {X : Cx} {W : WX} {a : Expr} {pos : Pos} {ta : TE} {m : EM} (ha : DE K X W a ta m) : DE K X W (.UnaryOp .USub a pos) (tUn (rU fun i => .int (-i)) ta) (mUn dNeg m) :=
  ⟨ha.k, pe_un un_neg ha.pe, so_un (fun x d c Z H Q s hx hg p => by
    unfold dNeg at hg
    split at hg
    · cases hx; cases hg; exact ⟨_, rfl, p _ Z H (ExtP.refl s) (.int _)⟩
    · cases hg) ha.so⟩
/-- a def of the top -/
structure Df (K : PySem.W.Frag) (mg : Str → Option Value) (nm : Str) (st : Stmt) (ps : List Str) where
  a : Addr
  fd : FuncData
  F : Fun K nm nm st a fd
  m : mg nm = some (.ref a)
  b : Binds K fd ps []
theorem intsRep {K : PySem.W.Frag} {Z : Hp} : ∀ ns : List Int, RepA K Z (ns.map V.int) (ns.map D.int)
  | [] => .nil
  | n :: r => .cons (.int n) (intsRep r)
theorem walk_dl {l : PySem.W.OpenLaw} {k : Nat} {q : Program} {loose : List Str} {XP : (Str → Option Value) → Heap → Prop} {YP : World → Heap → Prop} {d : DefRec} {K : Params → PySem.W.Frag} {f : MA} (hn : l.most = some 63) (hdf : d.params.defaults = []) (hr : Room k callerA)
    (hY : ∀ (w : World) (h : Heap), YP w h → (K w.params).In h)
    (F : ∀ (w : World) (mg : Str → Option Value) (fa : Addr) (h : Heap), (K w.params).In h → h.Ns mainGlobals mg → mg d.name = some (.ref fa) →
      ∃ fd : FuncData, (∀ (s : Shared) (u : Value), BindsTo s fd ⟨[u], []⟩ [("script", u)]) ∧ ∀ base : Heap, (K w.params).In base → base.Ns mainGlobals mg → FnOk l.prog w (K w.params) mg base (L2.CX l.prog w) k fa fd ["script"] (spA (K w.params) 1 f))
    (good : ∀ ns : List Int, ns.length ≤ 63 → (∀ z ∈ ns, Builtin.Int.intBits z ≤ 1048576) → f [.scr (ns.map .int)] = some (.ok (.bl true))) :
    PySem.W.WalkO q loose XP YP l.row.toRowW d [] (fun f vs => PySem.call f vs) :=
  walk_ofB (n := 63) (k := k) (x := "script") (CX := fun w => L2.CX l.prog w) (sp := fun w => spA (K w.params) 1 f) hn (by decide) hdf hr hY F
    (fun w H a ns hl hb ho hS => ⟨rfl, H, [.scr (ns.map .int)], .ok (.bl true), Same.refl _, .cons (.scr hS (intsRep ns)) .nil, good ns hl hb, fun v Z' H' x r => by cases r; rfl⟩)
    fun w H s e s' h => by
      obtain ⟨_, _, _, _, _, _, _, _, _, _, _, _, z⟩ := h
      exact z.elim
end DL
namespace DL
open PySem L2
/-- a constant of the top -/
structure GC (K : PySem.W.Frag) (mg : Str → Option Value) (x : Str) (d : D) where
  v : V
  u : Value
  m : mg x = some u
  r : RelV v u
  h : ∀ Z, Rep K Z v d
def gc_mk {K : PySem.W.Frag} {mg : Str → Option Value} {x : Str} {d : D} {v : V} {u : Value} (m : mg x = some u) (r : RelV v u) (h : ∀ Z, Rep K Z v d) : GC K mg x d := ⟨v, u, m, r, h⟩
theorem de_gc {K : PySem.W.Frag} {X : Cx} {W : WX} {x : Str} {d : D} {pos : Pos} {mg : Str → Option Value} (g : GC K mg x d) (hm : X.mg = mg := by rfl) (k : X.K = K := by rfl) (hg : Gl X x := by rfl) (hd : (x == ("__debug__" : Str)) = false := by decide) : DE K X W (.Name x pos) (tC g.v) (mC d) :=
  de_glob (by rw [hm]; exact g.m) g.r g.h k hg hd
def mSlE (m : EM) (l u : PM) : EM := bnd m (pur fun d => bnd l fun i => bnd u fun j => ret (slE d i j))
end DL
namespace DL
open PySem L2
/-! the mirror's equations -/
@[simp] theorem e_gv0 (x : Option DV) (r : List (Option DV)) : gv (x :: r) 0 = x := by unfold gv; cases x <;> rfl
@[simp] theorem e_gvS (x : Option DV) (r : List (Option DV)) (n : Nat) : gv (x :: r) (n + 1) = gv r n := by unfold gv; rfl
@[simp] theorem e_var (i : Nat) (s : S) : mVar i s = (match gv s.l i with | some d => some (.ok d s.m) | none => none) := rfl
@[simp] theorem e_c (d : D) (s : S) : mC d s = some (.ok (.p d) s.m) := rfl
theorem e_bnd {α γ : Type} (m : Mi α) (k : α → Mi γ) (s : S) : bnd m k s = (match m s with | some (.ok v M) => k v ⟨s.l, M⟩ | some (.ex c f M) => some (.ex c f M) | none => none) := rfl
@[simp] theorem e_pur {γ : Type} (k : D → Mi γ) (d : D) (s : S) : pur k (.p d) s = k d s := rfl
@[simp] theorem e_ret (d : D) (s : S) : ret (some d) s = some (.ok (.p d) s.m) := rfl
@[simp] theorem e_bin (g : D → D → Option D) (m n : EM) (s : S) : mBin g m n s = (bnd m (pur fun d => bnd n (pur fun e => ret (g d e)))) s := rfl
@[simp] theorem e_un (g : D → Option D) (m : EM) (s : S) : mUn g m s = (bnd m (pur fun d => ret (g d))) s := rfl
@[simp] theorem e_dI (g : Int → Int → Option D) (i j : Int) : dI g (.int i) (.int j) = g i j := rfl
@[simp] theorem e_addI (i j : Int) : dAdd (.int i) (.int j) = some (.int (i + j)) := rfl
@[simp] theorem e_addS (x y : Str) : dAdd (.str x) (.str y) = if x.length + y.length ≤ 1000000 then some (.str (x ++ y)) else none := rfl
@[simp] theorem e_neg (i : Int) : dNeg (.int i) = some (.int (-i)) := rfl
@[simp] theorem e_isN (m : EM) (s : S) : mIsN m s = (bnd m fun d s => some (.ok (.p (.bl (isNV d))) s.m)) s := rfl
@[simp] theorem e_notN (m : EM) (s : S) : mNotN m s = (bnd m fun d s => some (.ok (.p (.bl (!isNV d))) s.m)) s := rfl
@[simp] theorem e_isNVo (n : Nat) : isNV (.o n) = false := rfl
@[simp] theorem e_isNV0 : isNV (.p .non) = true := rfl
@[simp] theorem e_isNV1 (i : Int) : isNV (.p (.int i)) = false := rfl
@[simp] theorem e_isNV2 (i : Str) : isNV (.p (.str i)) = false := rfl
@[simp] theorem e_isNV3 (i : List D) : isNV (.p (.tup i)) = false := rfl
@[simp] theorem e_isNV4 (i : List D) : isNV (.p (.lst i)) = false := rfl
@[simp] theorem e_isNV5 (i : Bool) : isNV (.p (.bl i)) = false := rfl
@[simp] theorem e_tru (m : EM) (s : S) : mTru m s = (bnd m fun d s => match truM s.m d with | some b => some (.ok (.p (.bl b)) s.m) | none => none) s := rfl
@[simp] theorem e_truB (M : List O) (b : Bool) : truM M (.p (.bl b)) = some b := rfl
@[simp] theorem e_ifMt {γ : Type} (n k : Mi γ) (s : S) : ifM n k (.p (.bl true)) s = n s := rfl
@[simp] theorem e_ifMf {γ : Type} (n k : Mi γ) (s : S) : ifM n k (.p (.bl false)) s = k s := rfl
@[simp] theorem e_fls (s : S) : fls s = some (.ok (.p (.bl false)) s.m) := rfl
@[simp] theorem e_trus (s : S) : tru s = some (.ok (.p (.bl true)) s.m) := rfl
@[simp] theorem e_and (m n : EM) (s : S) : mAnd m n s = (bnd m (ifM n fls)) s := rfl
@[simp] theorem e_or (m n : EM) (s : S) : mOr m n s = (bnd m (ifM tru n)) s := rfl
@[simp] theorem e_not (m : EM) (s : S) : mNot m s = (bnd m (ifM fls tru)) s := rfl
@[simp] theorem e_ifE (c m n : EM) (s : S) : mIf c m n s = (bnd c (ifM m n)) s := rfl
@[simp] theorem e_chain (g h : D → D → Option D) (m n k : EM) (s : S) : mChain g h m n k s = (bnd m (pur fun d => bnd n (pur fun e => bnd (ret (g d e)) (ifM (bnd k (pur fun f => ret (h e f))) fls)))) s := rfl
@[simp] theorem e_aNil (s : S) : aNil s = some (.ok [] s.m) := rfl
@[simp] theorem e_aCons (m : EM) (ms : AM) (s : S) : aCons m ms s = (bnd m fun d => bnd ms fun ds s => some (.ok (d :: ds) s.m)) s := rfl
@[simp] theorem e_allP0 : allP [] = some [] := rfl
@[simp] theorem e_allP1 (d : D) (r : List DV) : allP (.p d :: r) = (allP r).map (d :: ·) := rfl
@[simp] theorem e_allPm (xs : List D) : allP (xs.map .p) = some xs := by
  induction xs with
  | nil => rfl
  | cons x r ih => show (allP (r.map .p)).map _ = _; rw [ih]; rfl
@[simp] theorem e_disp (g : List D → D) (ms : AM) (s : S) : disp g ms s = (bnd ms fun ds s => match allP ds with | some xs => if xs.length ≤ 1000000 then some (.ok (.p (g xs)) s.m) else none | none => none) s := rfl
@[simp] theorem e_dispO (ms : AM) (s : S) : dispO ms s = (bnd ms fun ds s => if ds.length ≤ 1000000 then some (.ok (.o s.m.length) (s.m ++ [.lst ds])) else none) s := rfl
def ixK (d : DV) (i : D) : EM := fun s => match i with
  | .int i => (match ixM s.m d i with
    | some c => some (.ok c s.m)
    | none => none)
  | _ => none
@[simp] theorem e_ix (m n : EM) (s : S) : mIx m n s = (bnd m fun d => bnd n (pur (ixK d))) s := rfl
@[simp] theorem e_ixK (d : DV) (i : Int) (s : S) : ixK d (.int i) s = (match ixM s.m d i with | some c => some (.ok c s.m) | none => none) := rfl
@[simp] theorem e_ixp (M : List O) (d : D) (i : Int) : ixM M (.p d) i = (ixD d i).map .p := rfl
@[simp] theorem e_ixo (M : List O) (n : Nat) (i : Int) : ixM M (.o n) i = ixO M[n]? i := rfl
@[simp] theorem e_ixl (xs : List D) (i : Int) : ixD (.lst xs) i = atI xs i := rfl
@[simp] theorem e_ixt (xs : List D) (i : Int) : ixD (.tup xs) i = atI xs i := rfl
@[simp] theorem e_ixO (xs : List DV) (i : Int) : ixO (some (.lst xs)) i = atI xs i := rfl
@[simp] theorem e_cb (g : List O → List DV → Option D) (ms : AM) (s : S) : mCB g ms s = (bnd ms fun ds s => ret (g s.m ds) s) s := rfl
@[simp] theorem e_g1 (g : D → Option D) (M : List O) (d : D) : g1 g M [.p d] = g d := rfl
@[simp] theorem e_abs (i : Int) : dAbs (.int i) = some (.int (if i < 0 then -i else i)) := rfl
@[simp] theorem e_int (i : Int) : dInt (.int i) = some (.int i) := rfl
@[simp] theorem e_intb (b : Bool) : dInt (.bl b) = some (.int (if b then 1 else 0)) := rfl
@[simp] theorem e_len (M : List O) (d : DV) : dLen M [d] = Option.map (fun (n : Nat) => D.int (n : Int)) (lenM M d) := rfl
@[simp] theorem e_lenp (M : List O) (d : D) : lenM M (.p d) = lenD d := rfl
@[simp] theorem e_leno (M : List O) (n : Nat) : lenM M (.o n) = lenO M[n]? := rfl
@[simp] theorem e_lenl (xs : List D) : lenD (.lst xs) = some xs.length := rfl
@[simp] theorem e_lent (xs : List D) : lenD (.tup xs) = some xs.length := rfl
@[simp] theorem e_lens (y : Str) : lenD (.str y) = if y.length ≤ 1000000 then some y.length else none := rfl
@[simp] theorem e_lenO (xs : List DV) : lenO (some (.lst xs)) = some xs.length := rfl
@[simp] theorem e_callA (n : Nat) (f : MA) (ms : AM) (s : S) : mCallA n f ms s = (bnd ms fun ds s => if ds.length = n then match allP ds with
  | some xs => match f xs with
    | some (.ok d) => some (.ok (.p d) s.m)
    | some (.ex c fs) => some (.ex c fs s.m)
    | none => none
  | none => none else none) s := rfl
@[simp] theorem e_callB (n : Nat) (f : List DV → List O → Option (Rs DV)) (ms : AM) (s : S) : mCallB n f ms s = (bnd ms fun ds s => if ds.length = n then f ds s.m else none) s := rfl
theorem e_lift {α : Type} (m : Mi α) (k : α → SM) (s : S) : liftS m k s = (match m s with | some (.ok v M) => k v ⟨s.l, M⟩ | some (.ex c f M) => some (.ex c f, ⟨s.l, M⟩) | none => none) := rfl
@[simp] theorem e_nil (s : S) : sNil s = some (.nx, s) := rfl
theorem e_seq (a b : SM) (s : S) : sSeq a b s = (match a s with | some (.nx, s1) => b s1 | r => r) := rfl
@[simp] theorem e_expr (m : EM) (s : S) : sExpr m s = (liftS m fun _ s => some (.nx, s)) s := rfl
@[simp] theorem e_sret (m : EM) (s : S) : sRet m s = (liftS m fun d s => some (.rt d, s)) s := rfl
@[simp] theorem e_ifSt (n k : SM) (s : S) : ifS n k (.p (.bl true)) s = n s := rfl
@[simp] theorem e_ifSf (n k : SM) (s : S) : ifS n k (.p (.bl false)) s = k s := rfl
@[simp] theorem e_sif (c : EM) (m n : SM) (s : S) : sIf c m n s = (liftS c (ifS m n)) s := rfl
@[simp] theorem e_gN (i : Nat) (d : DV) (s : S) : gN i d s = some ⟨s.l.set i (some d), s.m⟩ := rfl
@[simp] theorem e_asg (m : EM) (g : GM) (s : S) : sAsg m g s = (liftS m fun d s => match g d s with | some s1 => some (.nx, s1) | none => none) s := rfl
@[simp] theorem e_par (i j : Nat) (ms : AM) (s : S) : sPar i j ms s = (liftS ms fun ds s => match ds with | [d, f] => some (.nx, ⟨(s.l.set i (some d)).set j (some f), s.m⟩) | _ => none) s := rfl
@[simp] theorem e_loop0 (g : GM) (b : SM) (s : S) : loopS g b [] s = some (.nx, s) := rfl
@[simp] theorem e_for (it : IM) (g : GM) (b : SM) (s : S) : sFor it g b s = (liftS it fun ds => loopS g b ds) s := rfl
@[simp] theorem e_frz (m : EM) (s : S) : mFrz m s = (bnd m fun d s => match d with
  | .p d => some (.ok (.p d) s.m)
  | .o n => match s.m[n]? with
    | some (.lst ds) => match allP ds with
      | some xs => some (.ok (.p (.lst xs)) (s.m.set n .gone))
      | none => none
    | _ => none) s := rfl
theorem e_runA (n : Nat) (m : SM) (ds : List D) : runA n m ds = (match m ⟨slotsOf n (ds.map .p), []⟩ with
  | some (.nx, _) => some (.ok .non)
  | some (.rt (.p d), _) => some (.ok d)
  | some (.ex c fs, _) => some (.ex c fs)
  | _ => none) := rfl
theorem e_runB (n : Nat) (m : SM) (ds : List DV) (M : List O) : runB n m ds M = (match m ⟨slotsOf n ds, M⟩ with
  | some (.nx, s) => some (.ok (.p .non) (dropM M.length (.p .non) s.m))
  | some (.rt d, s) => some (.ok d (dropM M.length d s.m))
  | some (.ex c fs, s) => some (.ex c fs (dropM M.length (.p .non) s.m))
  | _ => none) := rfl
@[simp] theorem e_slots (n : Nat) (ds : List DV) : slotsOf n ds = ds.map some ++ List.replicate (n - ds.length) none := rfl
@[simp] theorem e_pNone (s : S) : pNone s = some (.ok none s.m) := rfl
@[simp] theorem e_pSome (m : EM) (s : S) : pSome m s = (bnd m (pur fun d s => match d with | .int i => some (.ok (some i) s.m) | _ => none)) s := rfl
@[simp] theorem e_slE (m : EM) (l u : PM) (s : S) : mSlE m l u s = (bnd m (pur fun d => bnd l fun i => bnd u fun j => ret (slE d i j))) s := rfl
@[simp] theorem e_itD (g : D → Option (List DV)) (m : EM) (s : S) : mItD g m s = (bnd m (pur fun d s => match g d with | some ds => some (.ok ds s.m) | none => none)) s := rfl
@[simp] theorem e_itL (xs : List D) : itL (.lst xs) = some (xs.map .p) := rfl
@[simp] theorem e_itT (xs : List D) : itT (.tup xs) = some (xs.map .p) := rfl
@[simp] theorem e_rng (g : List DV → Option (List DV)) (ms : AM) (s : S) : mRng g ms s = (bnd ms fun ds s => match g ds with | some xs => some (.ok xs s.m) | none => none) s := rfl
@[simp] theorem e_rng1 (j : Int) : rng1D [.p (.int j)] = if rngOk j = true then some (intsFrom 0 j.toNat) else none := rfl
@[simp] theorem e_rng2 (i j : Int) : rng2D [.p (.int i), .p (.int j)] = if rngOk i = true then if rngOk j = true then some (intsFrom i (j - i).toNat) else none else none := rfl
@[simp] theorem e_mth (T : String) (g : MtG) (o : EM) (ms : AM) (s : S) : mMth T g o ms s = (bnd o fun d s => if tyOk T s.m d = true then bnd ms (fun ds => g d ds) s else none) s := rfl
@[simp] theorem e_lc (it : IM) (vs : List Nat) (g : GM) (t e : EM) (s : S) : mLc it vs g t e s = (bnd it fun ds s => match compL (wipeL s.l vs) g t e ds [] s.m with | some (acc, M) => some (.ok (.p (.lst acc)) M) | none => none) s := rfl
@[simp] theorem e_lcO (it : IM) (vs : List Nat) (g : GM) (t e : EM) (s : S) : mLcO it vs g t e s = (bnd it fun ds s => match compL (wipeL s.l vs) g t e ds [] s.m with | some (acc, M) => some (.ok (.o M.length) (M ++ [.lst (acc.map .p)])) | none => none) s := rfl
@[simp] theorem e_wipe0 (l : List (Option DV)) : wipeL l [] = l := rfl
@[simp] theorem e_wipe1 (l : List (Option DV)) (v : Nat) (vs : List Nat) : wipeL l (v :: vs) = (wipeL l vs).set v none := rfl
@[simp] theorem e_yes (s : S) : tYesM s = some (.ok (.p (.bl true)) s.m) := rfl
@[simp] theorem e_eqD (d e : D) : dEq d e = (eqD d e).map .bl := rfl
@[simp] theorem e_neD (d e : D) : dNe d e = (eqD d e).map fun b => .bl !b := rfl
@[simp] theorem e_eqII (i j : Int) : eqD (.int i) (.int j) = some (decide (i = j)) := by show some (i == j) = _; rw [Bool.beq_eq_decide_eq]
@[simp] theorem e_eqSS (i j : Str) : eqD (.str i) (.str j) = some (decide (i = j)) := by
  show some (i == j) = _
  by_cases h : i = j <;> simp [h]
@[simp] theorem e_eqBB (i j : Bool) : eqD (.bl i) (.bl j) = some (decide (i = j)) := by show some (i == j) = _; rw [Bool.beq_eq_decide_eq]
@[simp] theorem e_eqNI (j : Int) : eqD .non (.int j) = some false := rfl
@[simp] theorem e_eqIN (j : Int) : eqD (.int j) .non = some false := rfl
@[simp] theorem e_eqNN : eqD .non .non = some true := rfl
@[simp] theorem mul2L (i : Int) : mulOk 2 i = true := by unfold mulOk; simp
end DL
namespace DL
open PySem L2
/-! the drawn numbers -/
def stateB : SM := (sSeq (sAsg (mLcO (mItD itL (mSlE (mVar 0) pNone (pSome (mC (.int 63))))) [2] (gN 2) tYesM (mCB (g1 dAbs) (aCons (mVar 2) aNil))) (gN 1))
  (sSeq (sIf (mBin dEq (mCB dLen (aCons (mVar 1) aNil)) (mC (.int 0))) (sAsg (dispO (aCons (mC (.int 0)) aNil)) (gN 1)) sNil)
  (sRet (dispO (aCons (mC (.int 0)) (aCons (mVar 1) aNil))))))
def stateM : List DV → List O → Option (Rs DV) := runB 3 stateB
def takeB : SM := (sSeq (sIf (mBin dLt (mVar 1) (mC (.int 1))) (sRet (mC (.int 0))) sNil)
  (sSeq (sAsg (mIx (mVar 0) (mC (.int 1))) (gN 2))
  (sSeq (sAsg (mBin dMod (mIx (mVar 0) (mC (.int 0))) (mCB dLen (aCons (mVar 2) aNil))) (gN 3))
  (sSeq (sAsg (mIx (mVar 2) (mVar 3)) (gN 4))
  (sSeq (sIf (mBin dGe (mVar 4) (mC (.int 1000000000000000000))) (sSeq (sAsg (mBin dDiv (mVar 4) (mVar 1)) (gSet (mVar 2) (mVar 3)))
  (sRet (mBin dMod (mVar 4) (mVar 1)))) sNil)
  (sSeq (sAsg (mBin dAdd (mIx (mVar 0) (mC (.int 0))) (mC (.int 1))) (gSet (mVar 0) (mC (.int 0))))
  (sSeq (sAsg (mBin dMod (mCB (g1 dInt) (aCons (mBin dAdd (mBin dMul (mVar 4) (mC (.int 48271))) (mBin dMul (mIx (mVar 0) (mC (.int 0))) (mC (.int 69621)))) aNil)) (mC (.int 2147483647))) (gN 5))
  (sSeq (sAsg (mBin dMod (mCB (g1 dInt) (aCons (mBin dAdd (mBin dMul (mVar 5) (mC (.int 16807))) (mBin dMul (mIx (mVar 0) (mC (.int 0))) (mC (.int 7919)))) aNil)) (mC (.int 1000000007))) (gN 5))
  (sRet (mBin dMod (mBin dDiv (mVar 5) (mC (.int 7))) (mVar 1)))))))))))
def takeM : List DV → List O → Option (Rs DV) := runB 6 takeB
structure Dr (n : Nat) (sv : DV) (M : List O) : Prop where
  len : M.length = n
  cl : M.all (closed n) = true
  ex : ∃ (k c : Nat) (i : Int) (cells : List Int), sv = .o k ∧ M[k]? = some (.lst [.p (.int i), .o c]) ∧ M[c]? = some (.lst (cells.map fun z => .p (.int z))) ∧ k ≠ c ∧ 0 ≤ i ∧ cells ≠ [] ∧ ∀ z ∈ cells, 0 ≤ z
theorem dropM_len {k : Nat} {d : DV} {M : List O} (h : M.length = k) : dropM k d M = M := by
  unfold dropM
  rw [List.take_of_length_le (by omega)]
  split <;> rfl
theorem dropM_app {k : Nat} {d : DL.D} {M g : List O} (h : M.length = k) (c : M.all (closed k) = true) : dropM k (.p d) (M ++ g) = M := by
  unfold dropM
  have e : (M ++ g).take k = M := by rw [← h, List.take_left]
  rw [e, c]
  rfl
theorem atI_nat' {α : Type} {xs : List α} {j : Int} {x : α} (h0 : 0 ≤ j) (h : xs[j.toNat]? = some x) : atI xs j = some x := by
  have hl := (List.getElem?_eq_some_iff.mp h).1
  unfold atI ixN
  rw [if_pos h0, if_pos (by omega)]
  exact h
theorem ixN_nat {n : Nat} {j : Int} (h0 : 0 ≤ j) (h : j < n) : ixN n j = some j.toNat := by
  unfold ixN
  rw [if_pos h0, if_pos h]
theorem atI0 {α : Type} (x : α) (xs : List α) : atI (x :: xs) 0 = some x := atI_nat' (by decide) rfl
theorem atI1 {α : Type} (x y : α) (xs : List α) : atI (x :: y :: xs) 1 = some y := atI_nat' (by decide) rfl
theorem all_set {p : O → Bool} {M : List O} {o : O} (h : M.all p = true) (ho : p o = true) (n : Nat) : (M.set n o).all p = true := by
  rw [List.all_eq_true] at h ⊢
  intro x hx
  rcases List.mem_or_eq_of_mem_set hx with h1 | h1
  · exact h x h1
  · rw [h1]; exact ho
theorem closed_ints (n : Nat) (cells : List Int) : closed n (.lst (cells.map fun z => .p (.int z))) = true := by
  show (cells.map fun z => DV.p (.int z)).all (ltO n) = true
  rw [List.all_map]
  exact List.all_eq_true.mpr fun _ _ => rfl
theorem set_map (cells : List Int) (j : Nat) (z : Int) : (cells.map fun z => DV.p (.int z)).set j (.p (.int z)) = (cells.set j z).map fun z => DV.p (.int z) := by
  rw [List.map_set]
theorem get_map {cells : List Int} {j : Nat} (h : j < cells.length) : (cells.map fun z => DV.p (.int z))[j]? = some (.p (.int cells[j])) := by
  rw [List.getElem?_map, List.getElem?_eq_getElem h]; rfl
theorem e_set (o i : EM) (d : DV) (s : S) : gSet o i d s = (match bnd o (fun x => bnd i (pur (gSetK d x))) s with | some (.ok _ M) => some ⟨s.l, M⟩ | _ => none) := rfl
theorem e_setK (d : DV) (n : Nat) (j : Int) (s : S) : gSetK d (.o n) (.int j) s = (match setL s.m n j d with | some M => some (.ok (.p .non) M) | none => none) := rfl
theorem setL_ok {M : List O} {n : Nat} {ds : List DV} {j : Int} {d : DV} (h : M[n]? = some (.lst ds)) (h0 : 0 ≤ j) (h1 : j < ds.length) : setL M n j d = some (M.set n (.lst (ds.set j.toNat d))) := by
  unfold setL
  rw [h]
  show (match ixN ds.length j with | some j => some (M.set n (.lst (ds.set j d))) | none => none) = _
  rw [ixN_nat h0 h1]
theorem mulOkR (i j : Int) (h : -18446744073709551616 < j) (h' : j < 18446744073709551616) : mulOk i j = true := by
  unfold mulOk
  have e : (2 : Int) ^ 64 = 18446744073709551616 := by decide
  simp only [e, Bool.or_eq_true, decide_eq_true_eq]
  exact .inr ⟨h, h'⟩
theorem take_spec {n : Nat} {sv : DV} {M : List O} (h : Dr n sv M) (most : Int) (hm : most < 18446744073709551616) : ∃ r M', takeM [sv, .p (.int most)] M = some (.ok (.p (.int r)) M') ∧ Dr n sv M' ∧ (most < 1 → r = 0) ∧ (1 ≤ most → 0 ≤ r ∧ r < most) := by
  obtain ⟨k, c, i, cells, rfl, hk, hc, kc, hi, ne, nn⟩ := h.ex
  by_cases h1 : most < 1
  · refine ⟨0, M, ?_, h, fun _ => rfl, fun h2 => by omega⟩
    simp [e_bnd, e_seq, e_lift, e_runA, e_runB, takeM, takeB, h1, dropM_len h.len, h.len]
  · have hl : 0 < cells.length := List.length_pos_iff.mpr ne
    have hl' : (0 : Int) < (cells.length : Int) := by omega
    have a0 : 0 ≤ i % (cells.length : Int) := Int.emod_nonneg _ (by omega)
    have a1 : i % (cells.length : Int) < (cells.length : Int) := Int.emod_lt_of_pos _ hl'
    have aN : (i % (cells.length : Int)).toNat < cells.length := by omega
    have hg := atI_nat' (xs := cells.map fun z => DV.p (.int z)) a0 (get_map aN)
    have cn : 0 ≤ cells[(i % (cells.length : Int)).toNat] := nn _ (List.getElem_mem aN)
    generalize hz : cells[(i % (cells.length : Int)).toNat] = z at hg cn
    have m0 : 0 < most := by omega
    by_cases h2 : 1000000000000000000 ≤ z
    · refine ⟨z % most, M.set c (.lst ((cells.set (i % (cells.length : Int)).toNat (z / most)).map fun z => .p (.int z))), ?_, ⟨by rw [List.length_set]; exact h.len, all_set h.cl (closed_ints n _) c, k, c, i, _, rfl, by rw [List.getElem?_set_ne kc.symm]; exact hk, by rw [List.getElem?_set_self (List.getElem?_eq_some_iff.mp hc).1], kc, hi, ?_, ?_⟩, fun h3 => absurd h3 h1, fun _ => ⟨Int.emod_nonneg _ (by omega), Int.emod_lt_of_pos _ m0⟩⟩
      · have hs := setL_ok (M := M) (n := c) (d := .p (.int (z / most))) hc a0 (by rw [List.length_map]; exact a1)
        simp [e_bnd, e_seq, e_lift, e_runA, e_runB, takeM, takeB, h1, hk, hc, atI0, atI1, hl, hl', hg, h2, e_set, e_setK, m0, hm, hs, h.len, dropM_len]
      · simpa using ne
      · intro y hy
        rcases List.mem_or_eq_of_mem_set hy with q | q
        · exact nn y q
        · rw [q]; exact Int.ediv_nonneg cn (by omega)
    · have hs := setL_ok (M := M) (n := k) (d := .p (.int (i + 1))) (j := 0) hk (by decide) (by simp)
      have hk' : (M.set k (.lst [DV.p (.int (i + 1)), .o c]))[k]? = some (.lst [.p (.int (i + 1)), .o c]) := by
        rw [List.getElem?_set_self (List.getElem?_eq_some_iff.mp hk).1]
      refine ⟨((((z * 48271 + (i + 1) * 69621) % 2147483647) * 16807 + (i + 1) * 7919) % 1000000007) / 7 % most, M.set k (.lst [.p (.int (i + 1)), .o c]), ?_, ⟨by rw [List.length_set]; exact h.len, all_set h.cl ?_ k, k, c, i + 1, cells, rfl, hk', by rw [List.getElem?_set_ne kc]; exact hc, kc, by omega, ne, nn⟩, fun h3 => absurd h3 h1, fun _ => ⟨Int.emod_nonneg _ (by omega), Int.emod_lt_of_pos _ m0⟩⟩
      · simp [e_bnd, e_seq, e_lift, e_runA, e_runB, takeM, takeB, h1, hk, hc, atI0, atI1, hl, hl', hg, h2, e_set, e_setK, m0, hm, hs, hk', h.len, dropM_len, mulOkR]
      · have := List.all_eq_true.mp h.cl _ (List.mem_of_getElem? hk)
        exact this
end DL
namespace DL
open PySem L2
theorem compL_fm {l : List (Option DV)} {g : GM} {t e : EM} {p : DV → Bool} {f : DV → D} {M : List O} : ∀ (ds : List DV) (acc : List D),
    (∀ d ∈ ds, ∃ s1 : S, g d ⟨l, M⟩ = some s1 ∧ t s1 = some (.ok (.p (.bl (p d))) M) ∧ (p d = true → e ⟨s1.l, M⟩ = some (.ok (.p (f d)) M))) → acc.length + ds.length ≤ 1000000 →
    compL l g t e ds acc M = some (acc ++ (ds.filter p).map f, M)
  | [], acc, _, _ => by simp [compL]
  | d :: ds, acc, h, hl => by
    obtain ⟨s1, h1, h2, h3⟩ := h d (by simp)
    have hl' : acc.length + (ds.length + 1) ≤ 1000000 := hl
    unfold compL
    rw [h1]
    dsimp only
    rw [h2]
    cases hp : p d with
    | true =>
      dsimp only
      rw [h3 hp]
      dsimp only
      rw [if_pos (by omega), compL_fm ds (acc ++ [f d]) (fun x hx => h x (by simp [hx])) (by simp; omega)]
      simp [hp]
    | false =>
      dsimp only
      rw [compL_fm ds acc (fun x hx => h x (by simp [hx])) (by omega)]
      simp [hp]
theorem compL_map {l : List (Option DV)} {g : GM} {t e : EM} {f : DV → D} {M : List O} (ds : List DV)
    (h : ∀ d ∈ ds, ∃ s1 : S, g d ⟨l, M⟩ = some s1 ∧ t s1 = some (.ok (.p (.bl true)) M) ∧ e ⟨s1.l, M⟩ = some (.ok (.p (f d)) M)) (hl : ds.length ≤ 1000000) : compL l g t e ds [] M = some (ds.map f, M) := by
  have q := compL_fm (p := fun _ => true) (f := f) ds [] (l := l) (g := g) (t := t) (e := e) (M := M) (fun d hd => by
    obtain ⟨s1, h1, h2, h3⟩ := h d hd
    exact ⟨s1, h1, h2, fun _ => h3⟩) (by simpa using hl)
  rw [q, List.filter_eq_self.mpr (fun _ _ => rfl)]
  rfl
theorem dropM_own {n : Nat} {M : List O} : dropM 0 (.o n) M = M := by simp [dropM, ltO]
theorem cut63 {α : Type} (xs : List α) (h : xs.length ≤ 63) : cutD xs none (some 63) = xs := by
  unfold cutD
  rw [HT.sIx_none, show (63 : Int) = ((63 : Nat) : Int) from rfl, HT.sIx_nat, List.drop_zero]
  exact List.take_of_length_le (by omega)
def iabs (i : Int) : Int := if i < 0 then -i else i
theorem state_spec (ns : List Int) (hl : ns.length ≤ 63) : ∃ n sv M, stateM [.p (.scr (ns.map .int))] [] = some (.ok sv M) ∧ Dr n sv M := by
  have hc : slE (.scr (ns.map D.int)) none (some 63) = some (.lst (ns.map D.int)) := by
    show some (D.lst (cutD (ns.map D.int) none (some 63))) = _
    rw [cut63 _ (by simpa using hl)]
  have hm : compL [some (.p (.scr (ns.map .int))), none, none] (gN 2) tYesM (mCB (g1 dAbs) (aCons (mVar 2) aNil)) ((ns.map D.int).map DV.p) [] [] = some ((ns.map iabs).map D.int, []) := by
    rw [compL_map (f := fun d => match d with | .p (.int i) => .int (iabs i) | _ => .non) ((ns.map D.int).map DV.p) (fun d hd => by
      rw [List.map_map] at hd
      obtain ⟨i, _, rfl⟩ := List.mem_map.mp hd
      exact ⟨_, rfl, rfl, by simp [e_bnd, iabs]⟩) (by simp; omega)]
    simp
  have e0 : (ns.map iabs).map D.int = [] → ns = [] := by simp
  by_cases he : ns = []
  · refine ⟨3, .o 2, [.lst [], .lst [.p (.int 0)], .lst [.p (.int 0), .o 1]], ?_, rfl, rfl, 2, 1, 0, [0], rfl, rfl, rfl, by decide, by decide, by simp, by simp⟩
    subst he
    simp [e_bnd, e_seq, e_lift, e_runA, e_runB, stateM, stateB, hc, hm, dropM_own]
    rfl
  · refine ⟨2, .o 1, [.lst ((ns.map iabs).map fun z => .p (.int z)), .lst [.p (.int 0), .o 0]], ?_, rfl, ?_, 1, 0, 0, ns.map iabs, rfl, rfl, rfl, by decide, by decide, by simpa using he, ?_⟩
    · generalize hA : (ns.map iabs) = A at hm
      have hA' : A ≠ [] := by rw [← hA]; simpa using he
      have hA2 : ¬ A.length = 0 := by
        intro h; exact hA' (List.length_eq_zero_iff.mp h)
      generalize hB : ns.map D.int = B at hm hc
      simp [e_bnd, e_seq, e_lift, e_runA, e_runB, stateM, stateB, hc, hm, dropM_own, hA', hA2]
    · show (closed 2 _ && _) = true
      rw [closed_ints]; rfl
    · intro z hz
      obtain ⟨i, _, rfl⟩ := List.mem_map.mp hz
      unfold iabs; split <;> omega
theorem at_mem {α : Type} {xs : List α} {j : Int} (h0 : 0 ≤ j) (h : j < xs.length) : ∃ x, atI xs j = some x ∧ x ∈ xs := by
  have hj : j.toNat < xs.length := by omega
  exact ⟨xs[j.toNat], atI_nat' h0 (List.getElem?_eq_getElem hj), List.getElem_mem hj⟩
theorem ints0 (lo : Int) : DL.intsFrom lo 0 = [] := rfl
theorem intsS (lo : Int) (n : Nat) : DL.intsFrom lo (n + 1) = .p (.int lo) :: DL.intsFrom (lo + 1) n := by
  unfold DL.intsFrom
  rw [List.range_succ_eq_map, List.map_cons, List.map_map]
  have e : lo + ((0 : Nat) : Int) = lo := by omega
  rw [e]
  congr 1
  refine List.map_congr_left fun i _ => ?_
  show DV.p (.int (lo + ((i + 1 : Nat) : Int))) = DV.p (.int (lo + 1 + (i : Int)))
  congr 2; omega
theorem loopS_cons {g : GM} {b : SM} {d : DV} {ds : List DV} {s : S} : loopS g b (d :: ds) s = (match g d s with
    | none => none
    | some s1 => match b s1 with
      | none => none
      | some (.nx, s2) => loopS g b ds s2
      | some (.ct, s2) => loopS g b ds s2
      | some (.bk, s2) => some (.nx, s2)
      | some (.rt v, s2) => some (.rt v, s2)
      | some (.ex c f, s2) => some (.ex c f, s2)) := rfl
end DL
namespace DL
open PySem L2
/-! going through a mirror step by step -/
def wpB {α : Type} (o : Option (Rs α)) (P : α → List O → Prop) : Prop := ∃ v M, o = some (.ok v M) ∧ P v M
def noX : Fl → Bool
  | .ex _ _ => false
  | _ => true
def wpS (o : Option (Fl × S)) (P : Fl → S → Prop) : Prop := ∃ f s, o = some (f, s) ∧ noX f = true ∧ P f s
def wpA (o : Option RD) (P : D → Prop) : Prop := ∃ d, o = some (.ok d) ∧ P d
@[simp] theorem w_ok {α : Type} (v : α) (M : List O) (P : α → List O → Prop) : wpB (some (.ok v M)) P ↔ P v M := ⟨fun ⟨_, _, e, h⟩ => by cases e; exact h, fun h => ⟨_, _, rfl, h⟩⟩
@[simp] theorem w_no {α : Type} (P : α → List O → Prop) : wpB none P ↔ False := ⟨fun ⟨_, _, e, h⟩ => (by cases e), fun h => False.elim h⟩
@[simp] theorem w_bnd {α γ : Type} (m : Mi α) (k : α → Mi γ) (s : S) (P : γ → List O → Prop) : wpB (bnd m k s) P ↔ wpB (m s) fun v M => wpB (k v ⟨s.l, M⟩) P := by
  constructor
  · rintro ⟨v, M, e, h⟩
    unfold bnd at e
    cases q : m s with
    | none => rw [q] at e; cases e
    | some r =>
      rw [q] at e
      cases r with
      | ok a M1 => exact ⟨a, M1, rfl, v, M, e, h⟩
      | ex c f M1 => cases e
  · rintro ⟨a, M1, e, v, M, e2, h⟩
    exact ⟨v, M, by unfold bnd; rw [e]; exact e2, h⟩
@[simp] theorem w_sok (f : Fl) (s : S) (P : Fl → S → Prop) : wpS (some (f, s)) P ↔ noX f = true ∧ P f s := ⟨fun ⟨_, _, e, h⟩ => by cases e; exact h, fun h => ⟨_, _, rfl, h⟩⟩
@[simp] theorem w_sno (P : Fl → S → Prop) : wpS none P ↔ False := ⟨fun ⟨_, _, e, h⟩ => (by cases e), fun h => False.elim h⟩
@[simp] theorem noX1 : noX .nx = true := rfl
@[simp] theorem noX2 (v : DV) : noX (.rt v) = true := rfl
@[simp] theorem noX3 : noX .bk = true := rfl
@[simp] theorem noX4 : noX .ct = true := rfl
/-- what follows a statement -/
def andS (b : SM) (P : Fl → S → Prop) : Fl → S → Prop
  | .nx, s => wpS (b s) P
  | f, s => P f s
@[simp] theorem w_andN (b : SM) (P : Fl → S → Prop) (s : S) : andS b P .nx s = wpS (b s) P := rfl
@[simp] theorem w_andR (b : SM) (P : Fl → S → Prop) (v : DV) (s : S) : andS b P (.rt v) s = P (.rt v) s := rfl
@[simp] theorem w_seq (a b : SM) (s : S) (P : Fl → S → Prop) : wpS (sSeq a b s) P ↔ wpS (a s) (andS b P) := by
  constructor
  · rintro ⟨f, s', e, n, h⟩
    unfold sSeq at e
    cases q : a s with
    | none => rw [q] at e; cases e
    | some r =>
      rw [q] at e
      obtain ⟨f1, s1⟩ := r
      refine ⟨f1, s1, rfl, ?_⟩
      cases f1 with
      | nx => exact ⟨rfl, f, s', e, n, h⟩
      | _ => cases e; exact ⟨n, h⟩
  · rintro ⟨f1, s1, e, n, h⟩
    cases f1 with
    | nx =>
      obtain ⟨f, s', e2, n, h⟩ := h
      exact ⟨f, s', by unfold sSeq; rw [e]; exact e2, n, h⟩
    | _ => exact ⟨_, s1, by unfold sSeq; rw [e], n, h⟩
@[simp] theorem w_lift {α : Type} (m : Mi α) (k : α → SM) (s : S) (P : Fl → S → Prop) : wpS (liftS m k s) P ↔ wpB (m s) fun v M => wpS (k v ⟨s.l, M⟩) P := by
  constructor
  · rintro ⟨f, s', e, n, h⟩
    unfold liftS at e
    cases q : m s with
    | none => rw [q] at e; cases e
    | some r =>
      rw [q] at e
      cases r with
      | ok a M1 => exact ⟨a, M1, rfl, f, s', e, n, h⟩
      | ex c f M1 => cases e; cases n
  · rintro ⟨a, M1, e, f, s', e2, n, h⟩
    exact ⟨f, s', by unfold liftS; rw [e]; exact e2, n, h⟩
def endB (k : Nat) (P : DV → List O → Prop) : Fl → S → Prop
  | .nx, s => P (.p .non) (dropM k (.p .non) s.m)
  | .rt d, s => P d (dropM k d s.m)
  | _, _ => False
@[simp] theorem w_endBn (k : Nat) (P : DV → List O → Prop) (s : S) : endB k P .nx s = P (.p .non) (dropM k (.p .non) s.m) := rfl
@[simp] theorem w_endBr (k : Nat) (P : DV → List O → Prop) (d : DV) (s : S) : endB k P (.rt d) s = P d (dropM k d s.m) := rfl
@[simp] theorem w_runB (n : Nat) (m : SM) (ds : List DV) (M : List O) (P : DV → List O → Prop) : wpB (runB n m ds M) P ↔ wpS (m ⟨slotsOf n ds, M⟩) (endB M.length P) := by
  constructor
  · rintro ⟨v, M1, e, h⟩
    rw [e_runB] at e
    cases q : m ⟨slotsOf n ds, M⟩ with
    | none => rw [q] at e; cases e
    | some r =>
      rw [q] at e
      obtain ⟨f1, s1⟩ := r
      cases f1 with
      | nx => cases e; exact ⟨_, _, rfl, rfl, h⟩
      | rt d => cases e; exact ⟨_, _, rfl, rfl, h⟩
      | _ => cases e
  · rintro ⟨f1, s1, e, n, h⟩
    cases f1 with
    | nx => exact ⟨_, _, by rw [e_runB, e], h⟩
    | rt d => exact ⟨_, _, by rw [e_runB, e], h⟩
    | _ => exact False.elim h
def endA (P : D → Prop) : Fl → S → Prop
  | .nx, s => P .non
  | .rt (.p d), s => P d
  | _, _ => False
@[simp] theorem w_endAn (P : D → Prop) (s : S) : endA P .nx s = P .non := rfl
@[simp] theorem w_endAr (P : D → Prop) (d : D) (s : S) : endA P (.rt (.p d)) s = P d := rfl
@[simp] theorem w_runA (n : Nat) (m : SM) (ds : List D) (P : D → Prop) : wpA (runA n m ds) P ↔ wpS (m ⟨slotsOf n (ds.map .p), []⟩) (endA P) := by
  constructor
  · rintro ⟨v, e, h⟩
    rw [e_runA] at e
    cases q : m ⟨slotsOf n (ds.map .p), []⟩ with
    | none => rw [q] at e; cases e
    | some r =>
      rw [q] at e
      obtain ⟨f1, s1⟩ := r
      cases f1 with
      | nx => cases e; exact ⟨_, _, rfl, rfl, h⟩
      | rt d =>
        cases d with
        | p d => cases e; exact ⟨_, _, rfl, rfl, h⟩
        | o n => cases e
      | _ => cases e
  · rintro ⟨f1, s1, e, n, h⟩
    cases f1 with
    | nx => exact ⟨_, by rw [e_runA, e], h⟩
    | rt d =>
      cases d with
      | p d => exact ⟨_, by rw [e_runA, e], h⟩
      | o n => exact False.elim h
    | _ => exact False.elim h
@[simp] theorem w_ifM {γ : Type} (n k : Mi γ) (b : Bool) (s : S) (P : γ → List O → Prop) : wpB (ifM n k (.p (.bl b)) s) P ↔ (b = true → wpB (n s) P) ∧ (b = false → wpB (k s) P) := by
  cases b
  · exact ⟨fun h => ⟨fun q => (by cases q), fun _ => h⟩, fun h => h.2 rfl⟩
  · exact ⟨fun h => ⟨fun _ => h, fun q => (by cases q)⟩, fun h => h.1 rfl⟩
@[simp] theorem w_ifS (n k : SM) (b : Bool) (s : S) (P : Fl → S → Prop) : wpS (ifS n k (.p (.bl b)) s) P ↔ (b = true → wpS (n s) P) ∧ (b = false → wpS (k s) P) := by
  cases b
  · exact ⟨fun h => ⟨fun q => (by cases q), fun _ => h⟩, fun h => h.2 rfl⟩
  · exact ⟨fun h => ⟨fun _ => h, fun q => (by cases q)⟩, fun h => h.1 rfl⟩
@[simp] theorem w_okA (d : D) (P : D → Prop) : wpA (some (.ok d)) P ↔ P d := ⟨fun ⟨_, e, h⟩ => by cases e; exact h, fun h => ⟨_, rfl, h⟩⟩
theorem wpB.imp {α : Type} {o : Option (Rs α)} {P Q : α → List O → Prop} (h : wpB o P) (k : ∀ v M, P v M → Q v M) : wpB o Q := by
  obtain ⟨v, M, e, p⟩ := h
  exact ⟨v, M, e, k v M p⟩
theorem wpA.imp {o : Option RD} {P Q : D → Prop} (h : wpA o P) (k : ∀ v, P v → Q v) : wpA o Q := by
  obtain ⟨v, e, p⟩ := h
  exact ⟨v, e, k v p⟩
theorem wpA.eq {o : Option RD} {d : D} (h : wpA o (· = d)) : o = some (.ok d) := by
  obtain ⟨v, e, p⟩ := h
  rw [e, p]
/-- a drawn number -/
theorem wp_take {n : Nat} {sv : DV} {M : List O} {most : Int} {P : DV → List O → Prop} (h : Dr n sv M) (hm : most < 18446744073709551616) (k : ∀ r M', Dr n sv M' → (most < 1 → r = 0) → (1 ≤ most → 0 ≤ r ∧ r < most) → P (.p (.int r)) M') : wpB (takeM [sv, .p (.int most)] M) P := by
  obtain ⟨r, M', e, d, b0, b⟩ := take_spec h most hm
  exact ⟨_, _, e, k r M' d b0 b⟩
end DL
namespace DL
open PySem L2
/-! texts that are written; comparing tuples -/
theorem char_inj {a b : Char} (h : a.toNat = b.toNat) : a = b := Char.toNat_inj.mp h
theorem map_toNat_inj : ∀ {a b : List Char}, a.map Char.toNat = b.map Char.toNat → a = b
  | [], [], _ => rfl
  | [], _ :: _, h => by cases h
  | _ :: _, [], h => by cases h
  | x :: a, y :: b, h => by
    injection h with h1 h2
    rw [char_inj h1, map_toNat_inj h2]
@[simp] theorem ofString_inj (a b : String) : (Str.ofString a = Str.ofString b) ↔ a = b := by
  constructor
  · intro h
    rw [Str.ofString_eq_toList, Str.ofString_eq_toList] at h
    injection h with h
    have h2 := congrArg Array.toList h
    exact String.toList_inj.mp (map_toNat_inj h2)
  · intro h; rw [h]
@[simp] theorem strOk_of (s : String) : PyData.strOk (Str.ofString s) = true := by
  rw [Str.ofString_eq_toList]
  unfold PyData.strOk
  rw [Array.all_eq_true]
  intro i hi
  simp
  have h := (s.toList[i]'(by simpa using hi)).valid
  rcases h with h | h
  · exact Nat.lt_of_lt_of_le h (by decide)
  · exact h.2
@[simp] theorem e_okN : okD .non = true := rfl
@[simp] theorem e_okI (i : Int) : okD (.int i) = true := rfl
@[simp] theorem e_okB (i : Bool) : okD (.bl i) = true := rfl
@[simp] theorem e_okS (i : Str) : okD (.str i) = PyData.strOk i := rfl
@[simp] theorem e_okL (i : List D) : okD (.lst i) = okDs i := rfl
@[simp] theorem e_okT (i : List D) : okD (.tup i) = okDs i := rfl
@[simp] theorem e_ok0 : okDs [] = true := rfl
@[simp] theorem e_ok1 (x : D) (r : List D) : okDs (x :: r) = (okD x && okDs r) := rfl
@[simp] theorem e_dpN : depD .non = 0 := rfl
@[simp] theorem e_dpI (i : Int) : depD (.int i) = 0 := rfl
@[simp] theorem e_dpB (i : Bool) : depD (.bl i) = 0 := rfl
@[simp] theorem e_dpS (i : Str) : depD (.str i) = 0 := rfl
@[simp] theorem e_dpL (i : List D) : depD (.lst i) = depDs i + 1 := rfl
@[simp] theorem e_dpT (i : List D) : depD (.tup i) = depDs i + 1 := rfl
@[simp] theorem e_dp0 : depDs [] = 0 := rfl
@[simp] theorem e_dp1 (x : D) (r : List D) : depDs (x :: r) = max (depD x) (depDs r) := rfl
@[simp] theorem e_shp (d : D) : shp d = (okD d && decide (depD d ≤ 64)) := rfl
@[simp] theorem e_eqTT (xs ys : List D) : eqD (.tup xs) (.tup ys) = if (shp (.tup xs) && shp (.tup ys)) = true then some (deqs xs ys) else none := rfl
@[simp] theorem e_eqLL (xs ys : List D) : eqD (.lst xs) (.lst ys) = if (shp (.lst xs) && shp (.lst ys)) = true then some (deqs xs ys) else none := rfl
@[simp] theorem e_eqTN (xs : List D) : eqD (.tup xs) .non = if (shp (.tup xs) && shp .non) = true then some false else none := rfl
@[simp] theorem e_eqNT (xs : List D) : eqD .non (.tup xs) = if (shp .non && shp (.tup xs)) = true then some false else none := rfl
@[simp] theorem e_deqII (i j : Int) : deq (.int i) (.int j) = decide (i = j) := by show (i == j) = _; rw [Bool.beq_eq_decide_eq]
@[simp] theorem e_deqSS (i j : Str) : deq (.str i) (.str j) = decide (i = j) := by
  show (i == j) = _
  by_cases h : i = j <;> simp [h]
@[simp] theorem e_deqBB (i j : Bool) : deq (.bl i) (.bl j) = decide (i = j) := by show (i == j) = _; rw [Bool.beq_eq_decide_eq]
@[simp] theorem e_deqNN : deq .non .non = true := rfl
@[simp] theorem e_deqTT (i j : List D) : deq (.tup i) (.tup j) = deqs i j := rfl
@[simp] theorem e_deqLL (i j : List D) : deq (.lst i) (.lst j) = deqs i j := rfl
@[simp] theorem e_deqIS (i : Int) (j : Str) : deq (.int i) (.str j) = false := rfl
@[simp] theorem e_deqSI (i : Int) (j : Str) : deq (.str j) (.int i) = false := rfl
@[simp] theorem e_deqNI (i : Int) : deq .non (.int i) = false := rfl
@[simp] theorem e_deqIN (i : Int) : deq (.int i) .non = false := rfl
@[simp] theorem e_deqNS (i : Str) : deq .non (.str i) = false := rfl
@[simp] theorem e_deqSN (i : Str) : deq (.str i) .non = false := rfl
@[simp] theorem e_deqNT (i : List D) : deq .non (.tup i) = false := rfl
@[simp] theorem e_deqTN (i : List D) : deq (.tup i) .non = false := rfl
@[simp] theorem e_deqs0 : deqs [] [] = true := rfl
@[simp] theorem e_deqs1 (x y : D) (xs ys : List D) : deqs (x :: xs) (y :: ys) = (deq x y && deqs xs ys) := rfl
@[simp] theorem e_deqs2 (x : D) (xs : List D) : deqs (x :: xs) [] = false := rfl
@[simp] theorem e_deqs3 (x : D) (xs : List D) : deqs [] (x :: xs) = false := rfl
@[simp] theorem e_isi (M : List O) (d : D) (n : String) : dIsi M [.p d, .p (.ty n)] = (match tyName d with | some t => (kitB t n).map .bl | none => none) := rfl
@[simp] theorem e_tyT (xs : List D) : tyName (.tup xs) = some "tuple" := rfl
@[simp] theorem kit_tt : kitB "tuple" "tuple" = some true := by decide +kernel
@[simp] theorem at0 {α : Type} (x : α) (xs : List α) : atI (x :: xs) 0 = some x := atI0 x xs
@[simp] theorem at1 {α : Type} (x y : α) (xs : List α) : atI (x :: y :: xs) 1 = some y := atI1 x y xs
end DL
namespace DL
open PySem L2
section
variable {K : PySem.W.Frag} {X : Cx} {W : WX} {e a b c : Expr} {es : List Expr} {pos : Pos}
/-! ### built-in calls on texts -/
def dStr : D → Option D
  | .int i => if i.natAbs.log2 < 1920 then some (.str (Str.ofString (toString i))) else none
  | .str x => some (.str x)
  | _ => none
theorem cd_str : CallD K X (.type "str") (fun xs H Q => (∃ i : Int, xs = [.int i] ∧ i.natAbs.log2 < 1920 ∧ Q (.str (toString i)) H) ∨ ∃ a, xs = [.str a] ∧ Q (.str a) H) (g1 dStr) := ⟨fun _ pins s σ H vs us Q I r h => by
    rcases h with h | h
    · exact call_str_int pins s σ H vs us Q I r h
    · exact SkE.call_str_str pins s σ H vs us Q I r h, g1_ok fun x d c Z H Q s hx hg p => by
  unfold dStr at hg
  split at hg
  · split at hg
    · rename_i hl
      cases hx; cases hg; exact .inl ⟨_, rfl, hl, p _ Z H (ExtP.refl s) (.str _)⟩
    · cases hg
  · cases hx; cases hg; exact .inr ⟨_, rfl, p _ Z H (ExtP.refl s) (.str _)⟩
  · cases hg⟩
def dIntS : D → Option D
  | .str x => if x.length ≤ 640 then (PySem.intText? x).map .int else none
  | _ => none
theorem cd_intS : CallD K X (.type "int") (fun xs H Q => ∃ a n, xs = [.str a] ∧ PySem.intText? a = some n ∧ a.length ≤ 640 ∧ Q (.int n) H) (g1 dIntS) := ⟨fun _ => call_int_str, g1_ok fun x d c Z H Q s hx hg p => by
  unfold dIntS at hg
  split at hg
  · rename_i y
    split at hg
    · rename_i hl
      cases q : PySem.intText? y with
      | none => rw [q] at hg; cases hg
      | some n => rw [q] at hg; cases hg; cases hx; exact ⟨_, _, rfl, q, hl, p _ Z H (ExtP.refl s) (.int _)⟩
    · cases hg
  · cases hg⟩
def allBl : List D → Option (List Bool)
  | [] => some []
  | .bl b :: r => (allBl r).map (b :: ·)
  | _ :: _ => none
theorem allBl_rep {Z : Hp} : ∀ {vs : List V} {ds : List D} {bs : List Bool}, RepA K Z vs ds → allBl ds = some bs → vs = bs.map V.bl
  | _, _, _, .nil, e => by cases e; rfl
  | _, _, _, .cons (d := d) (ds := ds) h r, e => by
    cases h with
    | bl b =>
      have e : (allBl ds).map (b :: ·) = some _ := e
      cases q : allBl ds with
      | none => rw [q] at e; cases e
      | some bs => rw [q] at e; cases e; rw [allBl_rep r q]; rfl
    | _ => cases e
def dAll : D → Option D
  | .lst ds => (allBl ds).map fun bs => .bl (bs.all id)
  | _ => none
def dAny : D → Option D
  | .lst ds => (allBl ds).map fun bs => .bl (bs.any id)
  | _ => none
theorem cd_all (hc : X.calm = true) : CallD K X (.builtin "all") (rAll K) (g1 dAll) := ⟨fun k => by rw [← k]; exact cr_all hc, g1_ok fun x d c Z H Q s hx hg p => by
  unfold dAll at hg
  split at hg
  · rename_i ds
    cases q : allBl ds with
    | none => rw [q] at hg; cases hg
    | some bs =>
      rw [q] at hg; cases hg
      cases hx with
      | lst h1 h2 => exact ⟨_, bs, rfl, by rw [← allBl_rep h2 q]; exact .inl (same_rd s h1), p _ Z H (ExtP.refl s) (.bl _)⟩
  · cases hg⟩
theorem cd_any (hc : X.calm = true) : CallD K X (.builtin "any") (rAny K) (g1 dAny) := ⟨fun k => by rw [← k]; exact cr_any hc, g1_ok fun x d c Z H Q s hx hg p => by
  unfold dAny at hg
  split at hg
  · rename_i ds
    cases q : allBl ds with
    | none => rw [q] at hg; cases hg
    | some bs =>
      rw [q] at hg; cases hg
      cases hx with
      | lst h1 h2 => exact ⟨_, bs, rfl, by rw [← allBl_rep h2 q]; exact .inl (same_rd s h1), p _ Z H (ExtP.refl s) (.bl _)⟩
  · cases hg⟩
def dMax2 : List O → List DV → Option D
  | _, [.p (.int i), .p (.int j)] => some (.int (if j > i then j else i))
  | _, _ => none
def dMin2 : List O → List DV → Option D
  | _, [.p (.int i), .p (.int j)] => some (.int (if j < i then j else i))
  | _, _ => none
theorem cd_max2 (hc : X.calm = true) : CallD K X (.builtin "max") (fun xs H Q => ∃ i j, xs = [.int i, .int j] ∧ Q (.int (if j > i then j else i)) H) dMax2 := ⟨fun _ => call_max2 hc, fun vs ds c Z H I M Q w rv hg p => by
  unfold dMax2 at hg
  split at hg
  · cases rv with
    | cons h1 h2 =>
    cases h2 with
    | cons h2 h3 =>
    cases h3; cases h1; cases h2; cases hg
    exact ⟨_, _, rfl, p _ Z H (ExtP.refl w.sub) (.int _)⟩
  · cases hg⟩
theorem cd_min2 (hc : X.calm = true) : CallD K X (.builtin "min") (fun xs H Q => ∃ i j, xs = [.int i, .int j] ∧ Q (.int (if j < i then j else i)) H) dMin2 := ⟨fun _ => call_min2 hc, fun vs ds c Z H I M Q w rv hg p => by
  unfold dMin2 at hg
  split at hg
  · cases rv with
    | cons h1 h2 =>
    cases h2 with
    | cons h2 h3 =>
    cases h3; cases h1; cases h2; cases hg
    exact ⟨_, _, rfl, p _ Z H (ExtP.refl w.sub) (.int _)⟩
  · cases hg⟩
/-! ### in, not in -/
theorem units65 {k : Nat} {A : Around} (r : Room k A) : A.units + 65 < cLine := by have := r.un; omega
def inS (i j : Str) : Bool := !(Builtin.Str.occurrences j i 0 j.length 1).isEmpty
def inD : D → D → Option Bool
  | .str i, .str j => some (inS i j)
  | d, .lst ds => if (shp d && shp (.lst ds)) = true then some (ds.any fun z => deq z d) else none
  | _, _ => none
def dIn (d e : D) : Option D := (inD d e).map .bl
def dNin (d e : D) : Option D := (inD d e).map fun b => .bl !b
theorem bool_dIn : boolD dIn := fun d e c h => boolMap (f := id) h
theorem bool_dNin : boolD dNin := fun d e c h => boolMap h
theorem any_eqv (d : D) : ∀ ds : List D, ((toPs ds).any fun z => PyData.eqv z (toP d)) = ds.any fun z => deq z d
  | [] => rfl
  | x :: xs => by
    show (PyData.eqv (toP x) (toP d) || _) = (deq x d || _)
    rw [deq_eqv x d]
    exact congrArg _ (any_eqv d xs)
theorem in_cases {d e : D} {b : Bool} (h : inD d e = some b) : (∃ i j, d = .str i ∧ e = .str j ∧ b = inS i j) ∨ ∃ ds, e = .lst ds ∧ shp d = true ∧ shp (.lst ds) = true ∧ b = ds.any fun z => deq z d := by
  unfold inD at h
  split at h
  · cases h; exact .inl ⟨_, _, rfl, rfl, rfl⟩
  · split at h
    · rename_i hs
      cases h
      rw [Bool.and_eq_true] at hs
      exact .inr ⟨_, rfl, hs.1, hs.2, rfl⟩
    · cases h
  · cases h
theorem od_in (hu : X.A.units + 65 < cLine) : OpD K X (compareOp .In) (fun x y H Q => (∃ i j, x = .str i ∧ y = .str j ∧ Q (.bl (!(Builtin.Str.occurrences j i 0 j.length 1).isEmpty)) H) ∨ rInD K x y H Q) dIn where
  op := fun k pins s σ H x y v u Q I rx ry h => by
    subst k
    rcases h with h | h
    · exact op_in_str pins s σ H x y v u Q I rx ry h
    · exact op_inD hu pins s σ H x y v u Q I rx ry h
  ok := by
    intro x y d e c Z H Q s hx hy hg p
    unfold dIn at hg
    cases z : inD d e with
    | none => rw [z] at hg; cases hg
    | some b =>
      rw [z] at hg; cases hg
      rcases in_cases z with ⟨i, j, rfl, rfl, rfl⟩ | ⟨ds, rfl, h1, h2, rfl⟩
      · cases hx; cases hy
        exact .inl ⟨_, _, rfl, rfl, p _ Z H (ExtP.refl s) (.bl _)⟩
      · exact .inr ⟨_, _, hx.dp s (shaped_can h1), hy.dp s (shaped_can h2), shp_ok h1, shp_ok h2, by rw [any_eqv]; exact p _ Z H (ExtP.refl s) (.bl _)⟩
theorem od_nin (hu : X.A.units + 65 < cLine) : OpD K X (compareOp .NotIn) (fun x y H Q => (∃ i j, x = .str i ∧ y = .str j ∧ Q (.bl (!(!(Builtin.Str.occurrences j i 0 j.length 1).isEmpty))) H) ∨ rNotInD K x y H Q) dNin where
  op := fun k pins s σ H x y v u Q I rx ry h => by
    subst k
    rcases h with h | h
    · exact op_notin_str pins s σ H x y v u Q I rx ry h
    · exact op_notInD hu pins s σ H x y v u Q I rx ry h
  ok := by
    intro x y d e c Z H Q s hx hy hg p
    unfold dNin at hg
    cases z : inD d e with
    | none => rw [z] at hg; cases hg
    | some b =>
      rw [z] at hg; cases hg
      rcases in_cases z with ⟨i, j, rfl, rfl, rfl⟩ | ⟨ds, rfl, h1, h2, rfl⟩
      · cases hx; cases hy
        exact .inl ⟨_, _, rfl, rfl, p _ Z H (ExtP.refl s) (.bl _)⟩
      · exact .inr ⟨_, _, hx.dp s (shaped_can h1), hy.dp s (shaped_can h2), shp_ok h1, shp_ok h2, by rw [any_eqv]; exact p _ Z H (ExtP.refl s) (.bl _)⟩
/-! ### a text times an int -/
def repS (x : Str) (n : Int) : Str := if n < 1 then Str.empty else if (n == 1 || x.length == 0) = true then x else ⟨(List.replicate n.toNat x.cps).foldl (· ++ ·) #[]⟩
def dMulS : D → D → Option D
  | .str x, .int n => if x.length = 1 ∧ -1000 ≤ n ∧ n ≤ 1000 then some (.str (repS x n)) else none
  | _, _ => none
theorem foldl_size (x : Array Nat) : ∀ (n : Nat) (acc : Array Nat), ((List.replicate n x).foldl (· ++ ·) acc).size = acc.size + n * x.size
  | 0, acc => by simp
  | n + 1, acc => by
    rw [List.replicate_succ, List.foldl_cons, foldl_size x n, Array.size_append, Nat.succ_mul]; omega
theorem od_mulS : OpD K X (binaryOp .Mult) (fun x y H Q => ∃ (z : Str) (n : Int), x = .str z ∧ y = .int n ∧ z.length = 1 ∧ -1000 ≤ n ∧ n ≤ 1000 ∧ Q (.str (repS z n)) H) dMulS where
  op := fun _ pins s σ H x y v u Q I rx ry h => by
    obtain ⟨z, n, rfl, rfl, hl, h1, h2, q⟩ := h
    obtain ⟨t, rfl⟩ := rx
    obtain ⟨t', rfl⟩ := ry
    refine PySem.P.mul_str ?_ ?_ ?_ ?_
    · have a1 : ¬ n < -(2 ^ 63 : Int) := by omega
      have a2 : ¬ n ≥ 2 ^ 63 := by omega
      rw [decide_eq_false a1, decide_eq_false a2]; rfl
    · intro a1 a2 a3
      rw [hl] at a3
      have b1 : (1 : Int) * n ≤ 2 ^ 63 - 1 := by omega
      have b2 := (Int.le_ediv_iff_mul_le (a := 1) (b := (2 ^ 63 - 1 : Int)) (by omega : 0 < n)).mpr b1
      exact absurd a3 (by show ¬ ((1 : Nat) : Int) > _; omega)
    · intro a1 a2
      rw [hl, Nat.one_mul]
      unfold PySem.Builtin.Str.tooLong
      exact decide_eq_false (by have : n.toNat ≤ 1000 := by omega
                                have : (1000 : Nat) ≤ sizeLine := by decide
                                omega)
    · unfold repS at q
      by_cases c1 : n < 1
      · rw [if_pos c1] at q ⊢
        exact ⟨by decide, .str _, H, I.tok _, ⟨_, rfl⟩, q⟩
      · rw [if_neg c1] at q ⊢
        split
        · rename_i c2; rw [if_pos c2] at q; exact ⟨.str _, H, I, ⟨_, rfl⟩, q⟩
        · rename_i c2; rw [if_neg c2] at q
          refine ⟨?_, .str _, H, I.tok _, ⟨_, rfl⟩, q⟩
          show Array.size _ ≤ _
          rw [foldl_size]
          have e1 : z.cps.size = 1 := hl
          have : (1000 : Nat) ≤ sizeLine := by decide
          rw [e1]; simp; omega
  ok := by
    intro x y d e c Z H Q s hx hy hg p
    unfold dMulS at hg
    split at hg
    · split at hg
      · rename_i hl
        cases hx; cases hy; cases hg
        exact ⟨_, _, rfl, rfl, hl.1, hl.2.1, hl.2.2, p _ Z H (ExtP.refl s) (.str _)⟩
      · cases hg
    · cases hg
/-! ### methods of texts -/
def dZfill : D → List D → Option D
  | .str x, [.int i] => if PadOk i = true then some (.str (Txt.zfill x i)) else none
  | _, _ => none
theorem repA1 {Z : Hp} {vs : List V} {d : D} (h : RepA K Z vs [d]) : ∃ v, vs = [v] ∧ Rep K Z v d := by
  cases h with
  | cons h1 h2 => cases h2; exact ⟨_, rfl, h1⟩
theorem repA2 {Z : Hp} {vs : List V} {d e : D} (h : RepA K Z vs [d, e]) : ∃ v u, vs = [v, u] ∧ Rep K Z v d ∧ Rep K Z u e := by
  cases h with
  | cons h1 h2 =>
    obtain ⟨u, rfl, h3⟩ := repA1 h2
    exact ⟨_, _, rfl, h1, h3⟩
theorem md_zfill : MthD K X "str.zfill" (fun x xs H Q => ∃ (a : Str) (i : Int), x = .str a ∧ xs = [.int i] ∧ PadOk i = true ∧ Q (.str (Txt.zfill a i)) H) (gP dZfill) := ⟨fun _ => mt_zfill, gP_ok fun x d vs ds c Z H Q s hx hv hg p => by
  unfold dZfill at hg
  split at hg
  · split at hg
    · rename_i hp
      obtain ⟨v, rfl, h1⟩ := repA1 hv
      cases hx; cases h1; cases hg
      exact ⟨_, _, rfl, rfl, hp, p _ Z H (ExtP.refl s) (.str _)⟩
    · cases hg
  · cases hg⟩
def dRstrip : D → List D → Option D
  | .str x, [.str y] => if x.length ≤ 1000000 then some (.str (Txt.rstripChars x y)) else none
  | _, _ => none
theorem md_rstrip : MthD K X "str.rstrip" (fun x xs H Q => ∃ a b, x = .str a ∧ xs = [.str b] ∧ a.length ≤ sizeLine ∧ Q (.str (Txt.rstripChars a b)) H) (gP dRstrip) := ⟨fun _ => mt_rstripChars, gP_ok fun x d vs ds c Z H Q s hx hv hg p => by
  unfold dRstrip at hg
  split at hg
  · split at hg
    · rename_i hp
      obtain ⟨v, rfl, h1⟩ := repA1 hv
      cases hx; cases h1; cases hg
      exact ⟨_, _, rfl, rfl, size_le hp, p _ Z H (ExtP.refl s) (.str _)⟩
    · cases hg
  · cases hg⟩
def dRmpre : D → List D → Option D
  | .str x, [.str y] => if x.length ≤ 1000000 then some (.str (Txt.removeprefix x y)) else none
  | _, _ => none
theorem md_rmpre : MthD K X "str.removeprefix" (fun x xs H Q => ∃ a b, x = .str a ∧ xs = [.str b] ∧ a.length ≤ sizeLine ∧ Q (.str (Txt.removeprefix a b)) H) (gP dRmpre) := ⟨fun _ => mt_removeprefix, gP_ok fun x d vs ds c Z H Q s hx hv hg p => by
  unfold dRmpre at hg
  split at hg
  · split at hg
    · rename_i hp
      obtain ⟨v, rfl, h1⟩ := repA1 hv
      cases hx; cases h1; cases hg
      exact ⟨_, _, rfl, rfl, size_le hp, p _ Z H (ExtP.refl s) (.str _)⟩
    · cases hg
  · cases hg⟩
def dPart : D → List D → Option D
  | .str x, [.str y] => if (y.length == 0) = false ∧ x.length ≤ 1000000 then some (.tup [.str (Txt.partition x y).1, .str (Txt.partition x y).2.1, .str (Txt.partition x y).2.2]) else none
  | _, _ => none
theorem md_part : MthD K X "str.partition" (fun x xs H Q => ∃ a b, x = .str a ∧ xs = [.str b] ∧ (b.length == 0) = false ∧ a.length ≤ sizeLine ∧
    ∀ p, H p = none → Q (.ref p) (upd H p (.tup [.str (Txt.partition a b).1, .str (Txt.partition a b).2.1, .str (Txt.partition a b).2.2]))) (gP dPart) := ⟨fun _ => mt_partition, gP_ok fun x d vs ds c Z H Q s hx hv hg p => by
  unfold dPart at hg
  split at hg
  · split at hg
    · rename_i hp
      obtain ⟨v, rfl, h1⟩ := repA1 hv
      cases hx; cases h1; cases hg
      exact ⟨_, _, rfl, rfl, hp.1, size_le hp.2, fun l hl => p _ _ _ (ExtP.new s hl) (.tup (.inl (.inl upd_same)) (.cons (.str _) (.cons (.str _) (.cons (.str _) .nil))))⟩
    · cases hg
  · cases hg⟩
theorem repA_strs {Z : Hp} : ∀ ys : List Str, RepA K Z (ys.map V.str) (ys.map D.str)
  | [] => .nil
  | y :: ys => .cons (.str y) (repA_strs ys)
def dSplit : D → List D → Option D
  | .str x, [.str y] => if (y.length == 0) = false ∧ x.length ≤ 1000000 then some (.lst ((Txt.split x y).map .str)) else none
  | _, _ => none
theorem md_split : MthD K X "str.split" (fun x xs H Q => ∃ a b, x = .str a ∧ xs = [.str b] ∧ (b.length == 0) = false ∧ a.length + 2 ≤ sizeLine ∧ rNewStrs (Txt.split a b) H Q) (gP dSplit) := ⟨fun _ => mt_split, gP_ok fun x d vs ds c Z H Q s hx hv hg p => by
  unfold dSplit at hg
  split at hg
  · split at hg
    · rename_i hp
      obtain ⟨v, rfl, h1⟩ := repA1 hv
      cases hx; cases h1; cases hg
      refine ⟨_, _, rfl, rfl, hp.1, ?_, fun l hl => p _ _ _ (ExtP.new s hl) (.lst (.inl upd_same) (repA_strs _))⟩
      have : (1000002 : Nat) ≤ sizeLine := by decide
      omega
    · cases hg
  · cases hg⟩
def allS : List D → Option (List Str)
  | [] => some []
  | .str x :: r => (allS r).map (x :: ·)
  | _ :: _ => none
theorem allS_rep {Z : Hp} : ∀ {vs : List V} {ds : List D} {bs : List Str}, RepA K Z vs ds → allS ds = some bs → vs = bs.map V.str
  | _, _, _, .nil, e => by cases e; rfl
  | _, _, _, .cons (d := d) (ds := ds) h r, e => by
    cases h with
    | str b =>
      have e : (allS ds).map (b :: ·) = some _ := e
      cases q : allS ds with
      | none => rw [q] at e; cases e
      | some bs => rw [q] at e; cases e; rw [allS_rep r q]; rfl
    | _ => cases e
def dJoin : D → List D → Option D
  | .str a, [.lst ds] => match allS ds with
    | some ys => if (ys.map (·.length)).sum + ys.length * a.length ≤ 16777216 then some (.str (Txt.join a ys)) else none
    | none => none
  | _, _ => none
theorem md_join : MthD K X "str.join" (fun x xs H Q => ∃ a p, ∃ ys : List Str, x = .str a ∧ xs = [.ref p] ∧ (SqL K H p (ys.map V.str) ∨ SqT K H p (ys.map V.str)) ∧
    (ys.map (·.length)).sum + ys.length * a.length ≤ 16777216 ∧ Q (.str (Txt.join a ys)) H) (gP dJoin) := ⟨fun k => by rw [← k]; exact mt_join, gP_ok fun x d vs ds c Z H Q s hx hv hg p => by
  unfold dJoin at hg
  split at hg
  · rename_i ds'
    cases q : allS ds' with
    | none => rw [q] at hg; cases hg
    | some ys =>
      rw [q] at hg
      simp only at hg
      split at hg
      · rename_i hp
        obtain ⟨v, rfl, h1⟩ := repA1 hv
        cases hx; cases hg
        cases h1 with
        | lst h1 h2 => exact ⟨_, _, ys, rfl, rfl, .inl (by rw [← allS_rep h2 q]; exact .inl (same_rd s h1)), hp, p _ Z H (ExtP.refl s) (.str _)⟩
      · cases hg
  · cases hg⟩
def dLjust : D → List D → Option D
  | .str x, [.int i, .str f] => if PadOk i = true ∧ f.length = 1 then some (.str (Txt.ljustF x i (f.cps.getD 0 0))) else none
  | _, _ => none
theorem md_ljust : MthD K X "str.ljust" (fun x xs H Q => ∃ (a : Str) (i : Int) (f : Str), x = .str a ∧ xs = [.int i, .str f] ∧ PadOk i = true ∧ f.length = 1 ∧ Q (.str (Txt.ljustF a i (f.cps.getD 0 0))) H) (gP dLjust) := ⟨fun _ pins s σ H x xs v us Q I rx rs h => by
    obtain ⟨a, i, f, rfl, rfl, hp, hf, q⟩ := h
    obtain ⟨t, rfl⟩ := rx
    cases rs with
    | cons r1 rs =>
    cases rs with
    | cons r2 rs =>
    cases rs
    obtain ⟨u, rfl⟩ := r1
    obtain ⟨z, rfl⟩ := r2
    exact PyProof.Rows.ljust_fill hp hf fun t' k => ⟨.str _, H, I.tok k, ⟨_, rfl⟩, q⟩, gP_ok fun x d vs ds c Z H Q s hx hv hg p => by
  unfold dLjust at hg
  split at hg
  · split at hg
    · rename_i hp
      obtain ⟨v, u, rfl, h1, h2⟩ := repA2 hv
      cases hx; cases h1; cases h2; cases hg
      exact ⟨_, _, _, rfl, rfl, hp.1, hp.2, p _ Z H (ExtP.refl s) (.str _)⟩
    · cases hg
  · cases hg⟩
def dIndex : D → List D → Option D
  | .str a, [.str b] => match Builtin.Str.occurrences a b 0 a.length 1 with
    | i :: _ => some (.int (i : Nat))
    | [] => none
  | _, _ => none
theorem md_index : MthD K X "str.index" (fun x xs H Q => ∃ a b i rest, x = .str a ∧ xs = [.str b] ∧ Builtin.Str.occurrences a b 0 a.length 1 = i :: rest ∧ Q (.int (i : Nat)) H) (gP dIndex) := ⟨fun _ => mt_sindex, gP_ok fun x d vs ds c Z H Q s hx hv hg p => by
  unfold dIndex at hg
  split at hg
  · rename_i a b
    cases q : Builtin.Str.occurrences a b 0 a.length 1 with
    | nil => rw [q] at hg; cases hg
    | cons i r =>
      rw [q] at hg; cases hg
      obtain ⟨v, rfl, h1⟩ := repA1 hv
      cases hx; cases h1
      exact ⟨_, _, i, r, rfl, rfl, q, p _ Z H (ExtP.refl s) (.int _)⟩
  · cases hg⟩
/-! ### f-strings -/
def dFmt : D → Option D
  | .int i => if i.natAbs.log2 < 1920 then some (.str (Str.ofString (toString i))) else none
  | .str y => if y.length ≤ 1000000 then some (.str y) else none
  | _ => none
def mFmt (m : EM) : EM := bnd m (pur fun d => ret (dFmt d))
theorem de_fmt {te : TE} {m : EM} (h : DE K X W e te m) : DE K X W (.FormattedValue e (-1) none pos) (tFmt te) (mFmt m) := ⟨h.k, pe_fmt h.pe, ⟨fun σ H s Z I r0 Q w rs e p => by
  refine h.so.bnd w rs e p.x fun d v M1 Z1 H1 I1 w1 rs1 x1 q1 e1 => ?_
  obtain ⟨d, rfl, e1⟩ := pur_ok e1
  obtain ⟨c, hc, rfl⟩ := ret_ok e1
  have p1 := PostP.of w1 (p.mono x1)
  unfold dFmt at hc
  split at hc
  · split at hc
    · rename_i hl
      cases q1; cases hc
      exact .inr ⟨_, rfl, hl, p1 _ Z1 H1 (ExtP.refl w1.sub) (.str _)⟩
    · cases hc
  · split at hc
    · rename_i hl
      cases q1; cases hc
      exact .inl ⟨_, rfl, size_le hl, p1 _ Z1 H1 (ExtP.refl w1.sub) (.str _)⟩
    · cases hc
  · cases hc⟩⟩
def RepStr (_ : Hp) (_ : List Addr) (x y : Str) : Prop := x = y
abbrev JM := Str → Mi Str
structure DJ (K : PySem.W.Frag) (X : Cx) (W : WX) (es : List Expr) (ts : List TE) (m : JM) : Prop where
  k : X.K = K
  pj : PJ X es ts
  so : ∀ acc, Sound K W RepStr (tJs ts acc) (m acc)
def jNil : JM := fun acc s => some (.ok acc s.m)
def jCons (m : EM) (r : JM) : JM := fun acc => bnd m (pur fun d => match d with
  | .str y => fun s => if acc.length + y.length ≤ 1000000 then r (acc ++ y) s else none
  | _ => fun _ => none)
theorem len_app (x y : Str) : (x ++ y).length = x.length + y.length := by
  show (x.cps ++ y.cps).size = _
  rw [Array.size_append]; rfl
theorem dj_nil (k : X.K = K := by rfl) : DJ K X W [] [] jNil := ⟨k, .nil, fun acc => ⟨fun σ H s Z I r Q w rs e p => by
  cases e; exact p acc Z H I w Ext.refl rfl⟩⟩
theorem dj_cons {te : TE} {m : EM} {ts : List TE} {r : JM} (h : DE K X W e te m) (hr : DJ K X W es ts r) : DJ K X W (e :: es) (te :: ts) (jCons m r) := ⟨h.k, .cons h.pe hr.pj, fun acc => ⟨fun σ H s Z I r0 Q w rs e p => by
  refine h.so.bnd w rs e p.x fun d v M1 Z1 H1 I1 w1 rs1 x1 q1 e1 => ?_
  obtain ⟨d, rfl, e1⟩ := pur_ok e1
  cases d with
  | str y =>
    cases q1
    have e1 : (if acc.length + y.length ≤ 1000000 then r (acc ++ y) ⟨s.l, M1⟩ else none) = some r0 := e1
    split at e1
    · rename_i hl
      refine ⟨y, rfl, by rw [len_app]; exact size_le hl, (hr.so (acc ++ y)).ok σ H1 ⟨s.l, M1⟩ Z1 I1 r0 _ w1 rs1 e1 (p.mono x1)⟩
    · cases e1
  | _ => cases e1⟩⟩
def mJoined (r : JM) : EM := bnd (r Str.empty) fun y s => some (.ok (.p (.str y)) s.m)
theorem de_joined1 {te : TE} {m : EM} (h : DE K X W e te m) : DE K X W (.JoinedStr [e] pos) te m := ⟨h.k, pe_joined1 h.pe, h.so⟩
theorem de_joined {v1 v2 : Expr} {rest : List Expr} {ts : List TE} {r : JM} (h : DJ K X W (v1 :: v2 :: rest) ts r) : DE K X W (.JoinedStr (v1 :: v2 :: rest) pos) (fun σ H Q => tJs ts Str.empty σ H fun out H1 => Q (.str out) H1) (mJoined r) := ⟨h.k, pe_joined h.pj, ⟨fun σ H s Z I r0 Q w rs e p => by
  refine (h.so Str.empty).bnd w rs e p.x fun d v M1 Z1 H1 I1 w1 rs1 x1 q1 e1 => ?_
  cases (show v = d from q1)
  cases e1
  exact p _ Z1 H1 I1 w1 x1 (.str _)⟩⟩
end
end DL
namespace DL
open PySem L2
/-! ### texts as lists of their signs -/
def tx (l : List Nat) : Str := ⟨l.toArray⟩
@[simp] theorem tx_list (l : List Nat) : (tx l).cps.toList = l := List.toList_toArray
@[simp] theorem tx_len (l : List Nat) : (tx l).length = l.length := List.size_toArray
theorem tx_of (x : Str) : x = tx x.cps.toList := by
  cases x with
  | mk a => show Str.mk a = Str.mk a.toList.toArray; rw [Array.toArray_toList]
theorem eq_tx {x : Str} {l : List Nat} (h : x.cps.toList = l) : x = tx l := by rw [← h]; exact tx_of x
@[simp] theorem tx_inj (a b : List Nat) : tx a = tx b ↔ a = b := ⟨fun h => by have := congrArg (fun x : Str => x.cps.toList) h; simpa using this, fun h => by rw [h]⟩
@[simp] theorem tx_app (a b : List Nat) : tx a ++ tx b = tx (a ++ b) := by
  apply eq_tx
  show ((tx a).cps ++ (tx b).cps).toList = _
  rw [Array.toList_append, tx_list, tx_list]
@[simp] theorem tx_empty : Str.empty = tx [] := rfl
theorem tx_ofString (s : String) : Str.ofString s = tx (s.toList.map Char.toNat) := by
  rw [Str.ofString_eq_toList]; apply eq_tx; simp
theorem sub_tx (l : List Nat) (i j : Nat) : Builtin.Str.strSub (tx l) i j = tx ((l.take j).drop i) := by
  apply eq_tx
  show ((tx l).cps.extract i j).toList = _
  rw [Array.toList_extract, tx_list]
  rw [List.extract_eq_take_drop, List.drop_take]
@[simp] theorem in_tx (c : Nat) (l : List Nat) : inS (tx [c]) (tx l) = decide (c ∈ l) := by
  have h := StrLaws.found_one (tx l) c
  rw [tx_list] at h
  exact h
@[simp] theorem e_inSS (i j : Str) : inD (.str i) (.str j) = some (inS i j) := rfl
@[simp] theorem e_dIn (d e : D) : dIn d e = (inD d e).map .bl := rfl
@[simp] theorem e_dNin (d e : D) : dNin d e = (inD d e).map fun b => .bl !b := rfl
theorem at_one (l : List Nat) (c i : Nat) : StrLaws.At (tx l) (tx [c]) (tx l).length i ↔ l[i]? = some c := by
  have h := StrLaws.subAt_one (tx l) c i
  rw [tx_list] at h
  exact h
/-- the place of the first c -/
def idx (c : Nat) (l : List Nat) : Nat := (l.takeWhile (· != c)).length
theorem idx_first : ∀ {c i : Nat} {l : List Nat}, l[i]? = some c → (∀ k, k < i → ¬ l[k]? = some c) → i = idx c l
  | c, i, [], h, _ => by simp at h
  | c, 0, x :: l, h, _ => by
    simp at h; subst h
    unfold idx; simp
  | c, i + 1, x :: l, h, n => by
    have hx : x ≠ c := fun e => n 0 (by omega) (by simp [e])
    have := idx_first (c := c) (i := i) (l := l) (by simpa using h) fun k hk => by have := n (k + 1) (by omega); simpa using this
    unfold idx at this ⊢
    rw [List.takeWhile_cons]
    simp [hx, this]
theorem occ_tx (c : Nat) (l : List Nat) : Builtin.Str.occurrences (tx l) (tx [c]) 0 (tx l).length 1 = [] ∧ c ∉ l ∨ ∃ r, Builtin.Str.occurrences (tx l) (tx [c]) 0 (tx l).length 1 = idx c l :: r ∧ c ∈ l := by
  rcases StrLaws.occ_head (tx l) (tx [c]) 1 (Nat.le_refl 1) with ⟨h1, h2⟩ | ⟨i, r, h1, h2, h3⟩
  · refine .inl ⟨h1, fun hm => ?_⟩
    obtain ⟨i, hi⟩ := List.mem_iff_getElem?.mp hm
    exact h2 i ((at_one l c i).mpr hi)
  · have a := (at_one l c i).mp h2
    have e := idx_first a fun k hk q => h3 k hk ((at_one l c k).mpr q)
    exact .inr ⟨r, by rw [h1, e], List.mem_of_getElem? a⟩
theorem takeWhile_take (c : Nat) : ∀ l : List Nat, l.take (idx c l) = l.takeWhile (· != c)
  | [] => rfl
  | x :: l => by
    unfold idx
    rw [List.takeWhile_cons]
    by_cases h : x = c
    · simp [h]
    · simp [h]; exact takeWhile_take c l
theorem dropWhile_drop (c : Nat) : ∀ l : List Nat, l.drop (idx c l) = l.dropWhile (· != c)
  | [] => rfl
  | x :: l => by
    unfold idx
    rw [List.takeWhile_cons, List.dropWhile_cons]
    by_cases h : x = c
    · simp [h]
    · simp [h]; exact dropWhile_drop c l
def befC (c : Nat) (l : List Nat) : List Nat := l.takeWhile (· != c)
def aftC (c : Nat) (l : List Nat) : List Nat := (l.dropWhile (· != c)).tail
theorem part_tx (c : Nat) (l : List Nat) : Txt.partition (tx l) (tx [c]) = if c ∈ l then (tx (befC c l), tx [c], tx (aftC c l)) else (tx l, tx [], tx []) := by
  unfold Txt.partition
  rcases occ_tx c l with ⟨h, hm⟩ | ⟨r, h, hm⟩
  · rw [h, if_neg hm]; rfl
  · rw [h, if_pos hm]
    show (Builtin.Str.strSub (tx l) 0 (idx c l), tx [c], Builtin.Str.strSub (tx l) (idx c l + 1) (tx l).length) = _
    rw [sub_tx, sub_tx, tx_len, List.take_length, List.drop_zero, takeWhile_take, ← List.tail_drop, dropWhile_drop]
    rfl
theorem rmpre_tx (c : Nat) (l : List Nat) : Txt.removeprefix (tx l) (tx [c]) = tx (if l.head? = some c then l.tail else l) := by
  rw [StrLaws.removeprefix_eq]
  have h := at_one l c 0
  unfold StrLaws.At at h
  have e : (decide (0 + (tx [c]).length ≤ (tx l).length) && Builtin.Str.subAt (tx l) (tx [c]) 0) = decide (l.head? = some c) := by
    rw [Bool.eq_iff_iff, Bool.and_eq_true, decide_eq_true_eq, decide_eq_true_eq, h, List.head?_eq_getElem?]
  rw [e]
  by_cases q : l.head? = some c
  · rw [if_pos (decide_eq_true q), if_pos q]
    apply eq_tx
    rw [List.toList_toArray, tx_list, tx_len, tx_len]
    cases l with
    | nil => rfl
    | cons x l => simp
  · rw [if_neg (by simpa using q), if_neg q]
def rstripL (c : Nat) (l : List Nat) : List Nat := (l.reverse.dropWhile (· == c)).reverse
theorem take_rev (c : Nat) (l : List Nat) : l.take (l.length - (l.reverse.takeWhile (· == c)).length) = rstripL c l := by
  unfold rstripL
  have e := List.takeWhile_append_dropWhile (p := (· == c)) (l := l.reverse)
  have e2 := congrArg List.reverse e
  rw [List.reverse_append, List.reverse_reverse] at e2
  have hl := congrArg List.length e2
  rw [List.length_append, List.length_reverse, List.length_reverse] at hl
  generalize l.reverse.dropWhile (· == c) = a at e2 hl ⊢
  generalize l.reverse.takeWhile (· == c) = b at e2 hl ⊢
  rw [← e2, List.take_append_of_le_length (by simp <;> omega)]
  rw [List.take_of_length_le (by simp)]
theorem rstrip_tx (c : Nat) (l : List Nat) : Txt.rstripChars (tx l) (tx [c]) = tx (rstripL c l) := by
  unfold Txt.rstripChars
  rw [PyProof.Rows.stripBy_eq]
  have e : stripLo (tx [c]).cps.contains false (tx l) = 0 := rfl
  rw [e, sub_tx, List.drop_zero]
  unfold stripHi
  rw [if_pos rfl, tx_list, List.drop_zero, tx_len]
  have g : (tx [c]).cps.contains = (· == c) := by
    funext x
    rw [← Array.contains_toList, tx_list, Bool.eq_iff_iff]
    simp
  rw [g, take_rev]
theorem zfill_tx (l : List Nat) (i : Int) (h : ∀ c, l.head? = some c → c ≠ 43 ∧ c ≠ 45) : Txt.zfill (tx l) i = tx (List.replicate (i.toNat - l.length) 48 ++ l) := by
  unfold Txt.zfill
  rw [tx_len]
  split
  · rename_i q
    have e : i.toNat - l.length = 0 := by omega
    rw [e]; rfl
  · have e : zfilled (tx l) (i.toNat - l.length) = Builtin.Str.padded (tx l) (i.toNat - l.length) 0 48 := by
      unfold zfilled
      have g : (tx l).cps[0]? = l.head? := by
        rw [← Array.getElem?_toList, tx_list, List.head?_eq_getElem?]
      rw [g]
      cases l with
      | nil => rfl
      | cons x r =>
        have := h x rfl
        show (match some x with | some 43 | some 45 => _ | _ => _) = _
        split
        · rename_i q; cases q; exact absurd rfl this.1
        · rename_i q; cases q; exact absurd rfl this.2
        · rfl
    rw [e]
    apply eq_tx
    show (Array.replicate _ _ ++ (tx l).cps ++ Array.replicate _ _).toList = _
    rw [Array.toList_append, Array.toList_append, tx_list]
    simp
theorem ljust_tx (l : List Nat) (i : Int) (c : Nat) : Txt.ljustF (tx l) i c = tx (l ++ List.replicate (i.toNat - l.length) c) := by
  apply eq_tx
  rw [PyProof.Rows.ljustF_list, tx_list, tx_len]
theorem join_txt : ∀ ls : List (List Nat), Txt.join (tx []) (ls.map tx) = tx ls.flatten := by
  intro ls
  have e : Txt.join (tx []) (ls.map tx) = Str.join (tx []) (ls.map tx) := StrLaws.glued_eq_join _ _
  rw [e]
  clear e
  have : ∀ ls : List (List Nat), Str.join (tx []) (ls.map tx) = tx ls.flatten := by
    intro ls
    induction ls with
    | nil => rfl
    | cons a r ih =>
      cases r with
      | nil => simp [Str.join]
      | cons b r =>
        show tx a ++ tx [] ++ Str.join (tx []) ((b :: r).map tx) = _
        rw [ih]; simp
  exact this ls
theorem foldl_app (x : Array Nat) : ∀ (n : Nat) (acc : Array Nat), ((List.replicate n x).foldl (· ++ ·) acc).toList = acc.toList ++ (List.replicate n x.toList).flatten
  | 0, acc => by simp
  | n + 1, acc => by
    rw [List.replicate_succ, List.foldl_cons, foldl_app x n, Array.toList_append, List.replicate_succ, List.flatten_cons, List.append_assoc]
theorem flat_one (c : Nat) : ∀ n : Nat, (List.replicate n [c]).flatten = List.replicate n c
  | 0 => rfl
  | n + 1 => by rw [List.replicate_succ, List.flatten_cons, flat_one c n]; rfl
theorem rep_tx (c : Nat) (n : Int) : repS (tx [c]) n = tx (List.replicate n.toNat c) := by
  unfold repS
  split
  · rename_i h
    have : n.toNat = 0 := by omega
    rw [this]; rfl
  · split
    · rename_i h1 h2
      have : n = 1 := by simpa using h2
      subst this; rfl
    · apply eq_tx
      show ((List.replicate n.toNat (tx [c]).cps).foldl (· ++ ·) #[]).toList = _
      rw [foldl_app, tx_list, flat_one]; simp
/-- split at one sign -/
def splitL (c : Nat) : List Nat → List (List Nat)
  | [] => [[]]
  | x :: l => if x = c then [] :: splitL c l else match splitL c l with
    | p :: r => (x :: p) :: r
    | [] => [[x]]
theorem splitL_ne (c : Nat) : ∀ l, splitL c l ≠ []
  | [] => by simp [splitL]
  | x :: l => by
    unfold splitL
    split
    · simp
    · split <;> simp
theorem splitL_app (c : Nat) : ∀ (p l : List Nat), c ∉ p → splitL c (p ++ c :: l) = p :: splitL c l
  | [], l, _ => by simp [splitL]
  | x :: p, l, h => by
    have hx : x ≠ c := fun e => h (by simp [e])
    have ih := splitL_app c p l fun m => h (List.mem_cons_of_mem _ m)
    rw [List.cons_append, splitL, if_neg hx, ih]
theorem splitL_free (c : Nat) : ∀ (p : List Nat), c ∉ p → splitL c p = [p]
  | [], _ => rfl
  | x :: p, h => by
    have hx : x ≠ c := fun e => h (by simp [e])
    rw [splitL, if_neg hx, splitL_free c p fun m => h (List.mem_cons_of_mem _ m)]
theorem split_join (c : Nat) : ∀ (ps : List Str), ps ≠ [] → (∀ p ∈ ps, c ∉ p.cps.toList) → (splitL c (Str.join (tx [c]) ps).cps.toList).map tx = ps
  | [], h, _ => absurd rfl h
  | [p], _, h => by
    show (splitL c p.cps.toList).map tx = _
    rw [splitL_free c _ (h p (by simp))]
    simp [← tx_of]
  | p :: q :: r, _, h => by
    have ih := split_join c (q :: r) (by simp) fun z hz => h z (List.mem_cons_of_mem _ hz)
    show (splitL c (p ++ tx [c] ++ Str.join (tx [c]) (q :: r)).cps.toList).map tx = _
    have e : (p ++ tx [c] ++ Str.join (tx [c]) (q :: r)).cps.toList = p.cps.toList ++ c :: (Str.join (tx [c]) (q :: r)).cps.toList := by
      conv => lhs; rw [tx_of p, tx_of (Str.join (tx [c]) (q :: r)), tx_app, tx_app, tx_list]
      simp
    rw [e, splitL_app c _ _ (h p (by simp)), List.map_cons, ih, ← tx_of]
theorem split_tx (c : Nat) (l : List Nat) : Txt.split (tx l) (tx [c]) = (splitL c l).map tx := by
  have h1 := StrLaws.join_split (tx l) (tx [c])
  have h2 := StrLaws.split_free (tx l) c
  have h3 := PyProof.Rows.split_pos (tx l) (tx [c])
  have h4 := split_join c (Txt.split (tx l) (tx [c])) (by intro e; rw [e] at h3; simp at h3) h2
  rw [h1, tx_list] at h4
  exact h4.symm
/-! slices -/
theorem cutS_to (l : List Nat) (k : Int) (h : 0 ≤ k) : cutS (tx l) none (some k) = tx (l.take k.toNat) := by
  apply eq_tx
  unfold cutS
  rw [List.toList_toArray, tx_list, tx_len, HT.sIx_none, List.drop_zero, Nat.sub_zero]
  obtain ⟨n, rfl⟩ := Int.eq_ofNat_of_zero_le h
  rw [HT.sIx_nat, Int.toNat_natCast]
  by_cases q : n ≤ l.length
  · rw [Nat.min_eq_left q]
  · rw [Nat.min_eq_right (by omega), List.take_length, List.take_of_length_le (by omega)]
theorem cutS_from (l : List Nat) (k : Int) (h : 0 ≤ k) : cutS (tx l) (some k) none = tx (l.drop k.toNat) := by
  apply eq_tx
  unfold cutS
  rw [List.toList_toArray, tx_list, tx_len, HT.sIx_none]
  obtain ⟨n, rfl⟩ := Int.eq_ofNat_of_zero_le h
  rw [HT.sIx_nat, Int.toNat_natCast]
  by_cases q : n ≤ l.length
  · rw [Nat.min_eq_left q, List.take_of_length_le (by simp)]
  · rw [Nat.min_eq_right (by omega), List.drop_length, List.drop_of_length_le (by omega)]; simp
@[simp] theorem e_slS (z : Str) (lo hi : Option Int) : slE (.str z) lo hi = if z.length ≤ 1000000 then some (.str (cutS z lo hi)) else none := rfl
@[simp] theorem e_ixS (l : List Nat) (i : Int) : ixD (.str (tx l)) i = if l.length ≤ 1000000 then (atI l i).map fun c => .str (tx [c]) else none := by
  show (if (tx l).length ≤ 1000000 then (atI (tx l).cps.toList i).map fun c => D.str ⟨#[c]⟩ else none) = _
  rw [tx_len, tx_list]; rfl
/-! the digits of a number -/
def decs (n : Nat) : List Nat := (Nat.toDigits 10 n).map Char.toNat
theorem decs_lt {n : Nat} (h : n < 10) : decs n = [48 + n] := by
  unfold decs
  rw [Nat.toDigits_of_lt_base h]
  have : ∀ m, m < 10 → (Nat.digitChar m).toNat = 48 + m := by decide
  simp [this n h]
theorem decs_ge {n : Nat} (h : 10 ≤ n) : decs n = decs (n / 10) ++ [48 + n % 10] := by
  unfold decs
  rw [Nat.toDigits_of_base_le (by decide) h]
  have : ∀ m, m < 10 → (Nat.digitChar m).toNat = 48 + m := by decide
  simp [this (n % 10) (Nat.mod_lt _ (by decide))]
theorem ofInt_tx (n : Nat) : Str.ofString (toString (n : Int)) = tx (decs n) := by
  rw [tx_ofString]
  have e : toString (n : Int) = Nat.repr n := rfl
  rw [e, Nat.repr_eq_ofList_toDigits, String.toList_ofList]
  rfl
open NumText in
theorem decs_spec (n : Nat) : AllDigits (decs n) ∧ decs n ≠ [] ∧ digitsVal (decs n) = n ∧ (0 < n → (decs n).head? ≠ some 48) := by
  induction n using Nat.strongRecOn with
  | ind n ih =>
    by_cases h : n < 10
    · rw [decs_lt h]
      refine ⟨fun c hc => ?_, by simp, ?_, fun hp => ?_⟩
      · simp at hc; omega
      · show 0 * 10 + (48 + n - 48) = n; omega
      · simp; omega
    · have h : 10 ≤ n := by omega
      obtain ⟨a, b, c, d⟩ := ih (n / 10) (by omega)
      rw [decs_ge h]
      refine ⟨fun x hx => ?_, by simp, ?_, fun _ => ?_⟩
      · rw [List.mem_append] at hx
        rcases hx with hx | hx
        · exact a x hx
        · simp at hx; omega
      · unfold digitsVal at c ⊢
        rw [List.foldl_append, c]
        show n / 10 * 10 + (48 + n % 10 - 48) = n
        omega
      · have d := d (by omega)
        cases q : decs (n / 10) with
        | nil => exact absurd q b
        | cons x r => rw [q] at d; simpa using d
theorem decs_len : ∀ (k n : Nat), n < 10 ^ (k + 1) → (decs n).length ≤ k + 1
  | 0, n, h => by rw [decs_lt (by simpa using h)]; simp
  | k + 1, n, h => by
    by_cases q : n < 10
    · rw [decs_lt q]; simp
    · rw [decs_ge (by omega), List.length_append]
      have := decs_len k (n / 10) (by rw [Nat.pow_succ] at h; omega)
      simp; omega
theorem decs_len_ge : ∀ (k n : Nat), 10 ^ k ≤ n → k + 1 ≤ (decs n).length
  | 0, n, h => by
    have := (decs_spec n).2.1
    cases q : decs n with
    | nil => exact absurd q this
    | cons x r => simp
  | k + 1, n, h => by
    have h10 : 10 ≤ n := by
      have : 10 ^ 1 ≤ 10 ^ (k + 1) := Nat.pow_le_pow_right (by decide) (by omega)
      omega
    rw [decs_ge h10, List.length_append]
    have := decs_len_ge k (n / 10) (by rw [Nat.pow_succ] at h; omega)
    simp; omega
open NumText in
theorem int_tx {l : List Nat} (h : AllDigits l) (h1 : l ≠ []) (h2 : l.length ≤ 640) : PySem.intText? (tx l) = some ((digitsVal l : Nat) : Int) := by
  have := intText_digits (x := tx l) (by rw [tx_list]; exact h) (by rw [tx_list]; exact h1) (by rw [tx_len]; omega)
  rw [tx_list] at this
  exact this
def logOk (i : Int) : Bool := decide (i.natAbs.log2 < 1920)
def intS (i : Int) : Str := Str.ofString (toString i)
theorem intS_tx (n : Nat) : intS (n : Int) = tx (decs n) := ofInt_tx n
@[simp] theorem e_str (i : Int) : dStr (.int i) = if logOk i = true then some (.str (intS i)) else none := by
  show (if i.natAbs.log2 < 1920 then some (D.str (intS i)) else none) = _
  unfold logOk
  by_cases h : i.natAbs.log2 < 1920
  · rw [if_pos h, if_pos (decide_eq_true h)]
  · rw [if_neg h, if_neg (by simpa using h)]
@[simp] theorem e_intS (x : Str) : dIntS (.str x) = if x.length ≤ 640 then (PySem.intText? x).map .int else none := rfl
@[simp] theorem e_allL (ds : List D) : dAll (.lst ds) = (allBl ds).map fun bs => .bl (bs.all id) := rfl
theorem allBl_map (bs : List Bool) : allBl (bs.map .bl) = some bs := by
  induction bs with
  | nil => rfl
  | cons b r ih => show (allBl (r.map .bl)).map _ = _; rw [ih]; rfl
@[simp] theorem e_mulS (x : Str) (n : Int) : dMulS (.str x) (.int n) = if x.length = 1 ∧ -1000 ≤ n ∧ n ≤ 1000 then some (.str (repS x n)) else none := rfl
@[simp] theorem e_gP (g : D → List D → Option D) (d : D) (ds : List DV) (s : S) : gP g (.p d) ds s = (match allP ds with | some xs => ret (g d xs) s | none => none) := rfl
@[simp] theorem e_zfill (x : Str) (i : Int) : dZfill (.str x) [.int i] = if PadOk i = true then some (.str (Txt.zfill x i)) else none := rfl
@[simp] theorem e_rstrip (x y : Str) : dRstrip (.str x) [.str y] = if x.length ≤ 1000000 then some (.str (Txt.rstripChars x y)) else none := rfl
@[simp] theorem e_rmpre (x y : Str) : dRmpre (.str x) [.str y] = if x.length ≤ 1000000 then some (.str (Txt.removeprefix x y)) else none := rfl
@[simp] theorem e_part (x y : Str) : dPart (.str x) [.str y] = if (y.length == 0) = false ∧ x.length ≤ 1000000 then some (.tup [.str (Txt.partition x y).1, .str (Txt.partition x y).2.1, .str (Txt.partition x y).2.2]) else none := rfl
@[simp] theorem e_split (x y : Str) : dSplit (.str x) [.str y] = if (y.length == 0) = false ∧ x.length ≤ 1000000 then some (.lst ((Txt.split x y).map .str)) else none := rfl
@[simp] theorem e_join (a : Str) (ds : List D) : dJoin (.str a) [.lst ds] = (match allS ds with | some ys => if (ys.map (·.length)).sum + ys.length * a.length ≤ 16777216 then some (.str (Txt.join a ys)) else none | none => none) := rfl
theorem allS_map (ys : List Str) : allS (ys.map .str) = some ys := by
  induction ys with
  | nil => rfl
  | cons b r ih => show (allS (r.map .str)).map _ = _; rw [ih]; rfl
def sign1 (f : Str) : Nat := f.cps.getD 0 0
@[simp] theorem e_sign1 (c : Nat) : sign1 (tx [c]) = c := rfl
@[simp] theorem e_ljust (x : Str) (i : Int) (f : Str) : dLjust (.str x) [.int i, .str f] = if PadOk i = true ∧ f.length = 1 then some (.str (Txt.ljustF x i (sign1 f))) else none := rfl
theorem index_tx {c : Nat} {l : List Nat} (h : c ∈ l) : dIndex (.str (tx l)) [.str (tx [c])] = some (.int (idx c l : Nat)) := by
  unfold dIndex
  rcases occ_tx c l with ⟨_, hm⟩ | ⟨r, e, _⟩
  · exact absurd h hm
  · simp only [e]
@[simp] theorem e_fmt (m : EM) (s : S) : mFmt m s = (bnd m (pur fun d => ret (dFmt d))) s := rfl
@[simp] theorem e_fmtI (i : Int) : dFmt (.int i) = if logOk i = true then some (.str (intS i)) else none := e_str i
@[simp] theorem e_fmtS (y : Str) : dFmt (.str y) = if y.length ≤ 1000000 then some (.str y) else none := rfl
@[simp] theorem e_jNil (acc : Str) (s : S) : jNil acc s = some (.ok acc s.m) := rfl
def jK (r : JM) (acc : Str) (d : D) : Mi Str := match d with
  | .str y => fun s => if acc.length + y.length ≤ 1000000 then r (acc ++ y) s else none
  | _ => fun _ => none
@[simp] theorem e_jCons (m : EM) (r : JM) (acc : Str) (s : S) : jCons m r acc s = (bnd m (pur (jK r acc))) s := rfl
@[simp] theorem e_jK (r : JM) (acc y : Str) (s : S) : jK r acc (.str y) s = if acc.length + y.length ≤ 1000000 then r (acc ++ y) s else none := rfl
@[simp] theorem e_joined (r : JM) (s : S) : mJoined r s = (bnd (r Str.empty) fun y s => some (.ok (.p (.str y)) s.m)) s := rfl
theorem log_ok {n : Nat} (h : n ≤ 1000000000000000000) : n.log2 < 1920 := by
  by_cases q : n = 0
  · subst q; decide
  · exact Nat.lt_of_lt_of_le ((Nat.log2_lt q).mpr (Nat.lt_of_le_of_lt h (by decide : 1000000000000000000 < 2 ^ 64))) (by decide)
theorem logOk_of {i : Int} (h : i.natAbs ≤ 1000000000000000000) : logOk i = true := decide_eq_true (log_ok h)
theorem pad4 : PadOk 4 = true := by decide
@[simp] theorem e_itS (l : List Nat) : itS (.str (tx l)) = some (l.map fun c => .p (.str (tx [c]))) := by
  show some ((tx l).cps.toList.map _) = _
  rw [tx_list]; rfl
@[simp] theorem e_tyS (M : List O) (x : Str) : tyOk "str" M (.p (.str x)) = true := rfl
@[simp] theorem e_tyL (M : List O) (x : List D) : tyOk "list" M (.p (.lst x)) = true := rfl
@[simp] theorem e_gs0 (s : S) : gsNil [] s = some s := rfl
@[simp] theorem e_gs1 (m : GM) (n : List DV → S → Option S) (d : DV) (r : List DV) (s : S) : gsCons m n (d :: r) s = (match m d s with | some s1 => n r s1 | none => none) := rfl
@[simp] theorem e_gT (n : Nat) (m : List DV → S → Option S) (xs : List D) (s : S) : gT n m (.p (.tup xs)) s = if xs.length = n then m (xs.map .p) s else none := rfl
theorem pad_digits {l : List Nat} (k : Nat) (h : NumText.AllDigits l) : NumText.AllDigits (l ++ List.replicate k 48) := fun c hc => by
  rw [List.mem_append] at hc
  rcases hc with hc | hc
  · exact h c hc
  · have := List.eq_of_mem_replicate hc; omega
end DL
namespace DL
open PySem L2
/-! loops and comprehensions with what stays true -/
theorem wpS.imp {o : Option (Fl × S)} {P Q : Fl → S → Prop} (h : wpS o P) (k : ∀ f s, P f s → Q f s) : wpS o Q := by
  obtain ⟨f, s, e, n, p⟩ := h
  exact ⟨f, s, e, n, k f s p⟩
/-- a loop whose body goes on, or returns -/
theorem w_loop {g : GM} {b : SM} {Inv : S → Prop} {R : DV → S → Prop} : ∀ (ds : List DV) (s : S), Inv s →
    (∀ d ∈ ds, ∀ s, Inv s → ∃ s1, g d s = some s1 ∧ wpS (b s1) (fun f s2 => (f = .nx ∧ Inv s2) ∨ (∃ v, f = .rt v ∧ R v s2))) →
    wpS (loopS g b ds s) (fun f s2 => (f = .nx ∧ Inv s2) ∨ (∃ v, f = .rt v ∧ R v s2))
  | [], s, h, _ => by simp [h]
  | d :: ds, s, h, k => by
    obtain ⟨s1, h1, f, s2, e, n, p⟩ := k d (by simp) s h
    rw [loopS_cons, h1]
    dsimp only
    rw [e]
    rcases p with ⟨rfl, p⟩ | ⟨v, rfl, p⟩
    · exact w_loop ds s2 p fun x hx => k x (List.mem_cons_of_mem _ hx)
    · exact ⟨_, _, rfl, rfl, .inr ⟨v, rfl, p⟩⟩
/-- a comprehension that draws -/
theorem compL_draw {l : List (Option DV)} {g : GM} {e : EM} {Inv : List O → Prop} {R : D → Prop} : ∀ (ds : List DV) (acc : List D) (M : List O), Inv M → (∀ y ∈ acc, R y) → acc.length + ds.length ≤ 1000000 →
    (∀ d ∈ ds, ∀ M, Inv M → ∃ s1, g d ⟨l, M⟩ = some s1 ∧ wpB (e s1) (fun v M2 => ∃ y, v = .p y ∧ R y ∧ Inv M2)) →
    ∃ ys M', compL l g tYesM e ds acc M = some (ys, M') ∧ Inv M' ∧ (∀ y ∈ ys, R y) ∧ ys.length = acc.length + ds.length
  | [], acc, M, h, ha, _, _ => ⟨acc, M, rfl, h, ha, rfl⟩
  | d :: ds, acc, M, h, ha, hl, k => by
    obtain ⟨s1, h1, v, M2, e1, y, rfl, hy, h2⟩ := k d (by simp) M h
    have hl' : acc.length + (ds.length + 1) ≤ 1000000 := hl
    obtain ⟨ys, M', e2, i2, r2, l2⟩ := compL_draw ds (acc ++ [y]) M2 h2 (fun z hz => by
      rw [List.mem_append] at hz
      rcases hz with hz | hz
      · exact ha z hz
      · simp at hz; rw [hz]; exact hy) (by simp; omega) fun x hx => k x (List.mem_cons_of_mem _ hx)
    refine ⟨ys, M', ?_, i2, r2, by rw [l2]; simp; omega⟩
    unfold compL
    rw [h1]
    dsimp only
    have q : tYesM s1 = some (.ok (.p (.bl true)) s1.m) := rfl
    rw [q]
    dsimp only
    have q2 : e ⟨s1.l, s1.m⟩ = some (.ok (.p y) M2) := e1
    rw [q2]
    dsimp only
    rw [if_pos (by omega)]
    exact e2
end DL
namespace DL
open PySem L2
open PyProof.Rows (AllBare IntsAre)
/-! ### the law's own def, run by the caller itself: no repr is under way -/
section
variable {P : Program} {w : World} {K : PySem.W.Frag} {mg : Str → Option Value} {base : Heap} {x qual : Str} {st : Stmt} {f a : Addr} {fd : FuncData} {N : List Str} {k : Nat}
def Told (s₁ : Shared) (r : Result) (s' : Shared) : Prop := r = .ok (.ret (.bool true)) ∧ OldK s₁.heap s'.heap ∧ s'.os = s₁.os ∧ AllBare s'.gens
abbrev TopB (P : Program) (w : World) (K : PySem.W.Frag) (mg : Str → Option Value) (base : Heap) (N : List Str) (qual : Str) (st : Stmt) (f : Addr) (k : Nat) (m : SM) : Prop :=
  ∀ (cdv : Value) (s : Shared) (H : Hp) (E : XK), Room k (callerA.deeper (PyProof.Rows.envOfC qual (defScope st) s.heap.objs.size f cdv)) →
    ∃ t, DSs K (cxOf (L2.CX P w) P w K mg base N qual (defScope st) f cdv callerA [] s H E) (WE0 E) (defBody st) t m
/-- from the entry on -/
theorem run_top {m : SM} {s₁ : Shared} {H : Hp} {ns : List Int} {p : Str} (F : Fun K x qual st f fd) (Sc : FnScope N [p] (defScope st)) (hr : Room (k + 1) callerA) (body : TopB P w K mg base N qual st f k m)
    (e0 : Env0 P w K mg base callerA [] s₁ H) (hb : BindsTo s₁ fd ⟨[.ref a], []⟩ [(p, .ref a)]) (hS : SqL K H a (ns.map V.int)) (hO : Only H) (good : runA N.length m [.scr (ns.map .int)] = some (.ok (.bl true))) :
    codeAny (model P w) callerA (.call (.ref f) ⟨[.ref a], []⟩) (Told s₁) s₁ := by
  obtain ⟨oc, od, kV, doc, pm, an, cdv, ct, osl, rfl, lk, hcd⟩ := F.ex
  have inS : ∀ b o, base.get? b = some o → s₁.heap.get? b = some o := fun b o q => (e0.bs b o q).1
  have KS : K.In s₁.heap := e0.mod.kin.keeps inS
  have NL : s₁.heap.NoLimit := e0.mod.nolimit.keeps inS
  refine codeAny_mono (R := CR (L2.CX P w) [] P w H s₁ (fun v _ => v = V.bl true) (fun _ _ _ => False)) ?_ fun r s' h => ?_
  rotate_left
  · cases r with
    | error e =>
      obtain ⟨_, _, _, _, _, _, _, _, _, _, _, _, z⟩ := (show L2.CX P w [] H s₁ (fun _ _ _ => False) e s' from h)
      exact z.elim
    | ok fl =>
      cases fl with
      | ret u =>
        obtain ⟨v, H', os, bare, un, hok, rv, e⟩ := h
        have e : v = V.bl true := e
        subst e
        obtain rfl : u = Value.bool true := rv
        refine ⟨rfl, OldK.of_keep fun b o e => ?_, os, bare⟩
        rcases hO b with z | ⟨ob, xs, z⟩
        · exact un.keep b o e z (by intro q; exact absurd (show b ∈ ([] : List Addr) from q) (by simp)) (by simp)
        · obtain ⟨e1, _⟩ := e0.hok b _ z
          obtain ⟨e2, _⟩ := hok b _ (un.frzs b ob _ z)
          rw [e] at e1; cases e1
          exact e2
      | next => exact False.elim h
      | brk => exact False.elim h
      | cont => exact False.elim h
  -- the frame is made, the script bound
  refine PySem.codeAny_call_function hr.depth (KS _ _ lk) rfl Sc.co Sc.gen rfl (PySem.W.codeRec_of KS hcd) (hb _ _ _ _ ?_)
  refine PySem.wpAny_newFunctionEnv_cells Sc.kind (fun y hy => ?_) fun env he s2 made => ?_
  · obtain ⟨n, v⟩ := y
    rcases Sc.par n (List.of_mem_zip (l₁ := [p]) (l₂ := [Value.ref a]) hy).1 with q | q
    · exact .inl q
    · exact .inr ⟨q, PySem.W.cellsFrom_some _ _ _ (.inl q)⟩
  subst he
  refine ⟨NL.keeps made.toInCall.keep, PySem.codeAny_func ?_⟩
  obtain ⟨t, d⟩ := body cdv s₁ H (fun _ _ _ => False) (hr.deeper _)
  have I := inv_start (CX := L2.CX P w) (E := fun _ _ _ => False) Sc hr.hd e0 (vs := [.ref a]) rfl (.cons rfl .nil) made
  have q : t { nx := fun _ H' => (fun v (_ : Hp) => v = V.bl true) .non H', rt := fun v _ => v = V.bl true } (L2.start N [.ref a]) H := by
    have w0 : Wf K H H [] [] := ⟨Same.refl _, rfl, List.nodup_nil, (by simp), fun n a o h => by simp at h⟩
    unfold runA at good
    cases z : m ⟨slotsOf N.length ([D.scr (ns.map .int)].map .p), []⟩ with
    | none => rw [z] at good; cases good
    | some fs =>
      rw [z] at good
      obtain ⟨fl, s1⟩ := fs
      refine d.so.ok (L2.start N [.ref a]) H _ H [] _ _ w0 (start_rep (.cons (show RepV K H [] (.ref a) (.p (.scr (ns.map .int))) from Rep.scr hS (intsRep ns)) .nil)) z ?_
      cases fl with
      | nx => cases good
      | rt d =>
        cases d with
        | p d => cases good; exact fun v Z' H' I' w' x' r' => by cases r'; rfl
        | o n => cases good
      | ex c fs => cases good
      | bk => cases good
      | ct => cases good
  refine wpAny_mono (d.ps.run [] s2 (L2.start N [.ref a]) H _ I q) (fun fl s' h => ?_) fun e s' h => ?_
  · cases fl with
    | ret u =>
      obtain ⟨v, σ', H', J, rv, e⟩ := h
      exact ⟨v, H', J.os, J.bare, J.base, J.hok, rv, e⟩
    | next =>
      obtain ⟨σ', H', J, e⟩ := h
      cases e
    | brk =>
      obtain ⟨_, _, _, e⟩ := h
      exact False.elim e
    | cont =>
      obtain ⟨_, _, _, e⟩ := h
      exact False.elim e
  · exact h
/-- the entry: what is tracked is the script at most -/
theorem entry {H : Hp} {s₁ : Shared} {mb : Str → Option Value} {vs : List Value} (KX : K.In s₁.heap) (hns : s₁.heap.Ns mainGlobals mg) (hb : s₁.heap.Ns builtinsNs mb) (hbb : ∀ x : Str, x ≠ "__name__" → mb x = bootBuiltins x) (hlim : s₁.heap.NoLimit) (hg : s₁.gens = #[])
    (ha : s₁.heap.get? a = some { cls := .type "list", data := .seq vs.toArray }) (hok : HOk P w H s₁.heap) (one : ∀ b, H b ≠ none → b = a) (out : H a ≠ none → K.lookup a = none) :
    Env0 P w K mg (hidT s₁.heap H) callerA [] s₁ H ∧ K.In (hidT s₁.heap H) ∧ (hidT s₁.heap H).Ns mainGlobals mg := by
  have free : ∀ {b : Addr}, b ≠ a → H b = none := fun {b} n => by
    cases q : H b with
    | none => rfl
    | some u => exact absurd (one b (by rw [q]; simp)) n
  have kin : K.In (hidT s₁.heap H) := fun b o e => by
    refine hidT_get (KX b o e) ?_
    by_cases n : b = a
    · subst n
      cases q : H b with
      | none => rfl
      | some u => rw [out (by rw [q]; simp)] at e; cases e
    · exact free n
  have ns : ∀ {b : Addr} {m : Str → Option Value}, s₁.heap.Ns b m → (hidT s₁.heap H).Ns b m := fun {b m} h => by
    obtain ⟨o, es, ep, e, d, r⟩ := h
    refine ⟨o, es, ep, hidT_get e ?_, d, r⟩
    by_cases n : b = a
    · subst n
      rw [ha] at e; cases e
      have d' : Data.seq vs.toArray _ = Data.dict es ep := d
      cases d'
    · exact free n
  refine ⟨⟨rfl, ⟨kin, ns hns, ⟨mb, ns hb, hbb⟩, ?_⟩, fun b o e => of_hidT e, Nat.le_of_eq (hidT_size _ _), trivial, fun b q => absurd (show b ∈ ([] : List Addr) from q) (by simp), hok, .of_eq hg⟩, kin, ns hns⟩
  obtain ⟨mc, h1, h2⟩ := hlim
  exact ⟨mc, ns h1, h2⟩
theorem law_top {m : SM} {s₁ : Shared} {mb : Str → Option Value} {vs : List Value} {ns : List Int} {p : Str} (KX : K.In s₁.heap) (hns : s₁.heap.Ns mainGlobals mg) (hb : s₁.heap.Ns builtinsNs mb) (hbb : ∀ x : Str, x ≠ "__name__" → mb x = bootBuiltins x) (hlim : s₁.heap.NoLimit) (hg : s₁.gens = #[])
    (ha : s₁.heap.get? a = some { cls := .type "list", data := .seq vs.toArray }) (hi : IntsAre vs ns) (hl : ns.length ≤ sizeLine) (hr : Room (k + 1) callerA) (F : Fun K x qual st f fd) (Sc : FnScope N [p] (defScope st)) (hbind : ∀ (s : Shared) (u : Value), BindsTo s fd ⟨[u], []⟩ [(p, u)])
    (body : ∀ base : Heap, K.In base → base.Ns mainGlobals mg → TopB P w K mg base N qual st f k m) (good : runA N.length m [.scr (ns.map .int)] = some (.ok (.bl true))) :
    codeAny (model P w) callerA (.call (.ref f) ⟨[.ref a], []⟩) (Told s₁) s₁ := by
  have rv := vals_ints hi
  cases hk : K.lookup a with
  | some o =>
    have e := KX a o hk
    rw [ha] at e
    cases e
    obtain ⟨e0, k0, n0⟩ := entry (P := P) (w := w) (H := fun _ => none) KX hns hb hbb hlim hg ha (fun b u z => by have z' : (none : Option HO) = some u := z; cases z') (fun b z => absurd rfl z) (fun z => absurd rfl z)
    exact run_top F Sc hr (body _ k0 n0) e0 (hbind _ _) (.inr ⟨_, vs.toArray, _, hk, rfl, rfl, rfl, by rw [List.size_toArray, hi.length]; exact hl, by simpa using rv⟩) (fun _ => .inl rfl) good
  | none =>
    obtain ⟨e0, k0, n0⟩ := entry (P := P) (w := w) (H := fun b => if b = a then some (.frz { cls := .type "list", data := .seq vs.toArray } (.lst (ns.map V.int))) else none) KX hns hb hbb hlim hg ha (fun b u z => by
      by_cases n : b = a
      · have z' := (if_pos n).symm.trans z
        cases z'
        subst n
        exact ⟨ha, by rw [List.length_map]; exact hl, vs, _, rv, ha⟩
      · have z' := (if_neg n).symm.trans z
        cases z') (fun b z => by
      by_cases n : b = a
      · exact n
      · exact absurd (if_neg n) z) (fun _ => hk)
    refine run_top F Sc hr (body _ k0 n0) e0 (hbind _ _) (.inl (.inr ⟨{ cls := .type "list", data := .seq vs.toArray }, if_pos rfl⟩)) (fun b => ?_) good
    by_cases n : b = a
    · exact .inr ⟨_, _, if_pos n⟩
    · exact .inl (if_neg n)
end
theorem walk_dlG {l : PySem.W.OpenLaw} {k : Nat} {q : Program} {loose : List Str} {XP : (Str → Option Value) → Heap → Prop} {YP : World → Heap → Prop} {d : DefRec} {K : Params → PySem.W.Frag} {x qual : Str} {st : Stmt} {N : List Str} {m : SM} (hn : l.most = some 63) (hdf : d.params.defaults = []) (hr : Room (k + 1) callerA)
    (hY : ∀ (w : World) (h : Heap), YP w h → (K w.params).In h) (Sc : FnScope N ["script"] (defScope st))
    (F : ∀ (w : World) (mg : Str → Option Value) (fa : Addr) (h : Heap), (K w.params).In h → h.Ns mainGlobals mg → mg d.name = some (.ref fa) →
      ∃ fd : FuncData, Fun (K w.params) x qual st fa fd ∧ (∀ (s : Shared) (u : Value), BindsTo s fd ⟨[u], []⟩ [("script", u)]) ∧ ∀ base : Heap, (K w.params).In base → base.Ns mainGlobals mg → TopB l.prog w (K w.params) mg base N qual st fa k m)
    (good : ∀ ns : List Int, ns.length ≤ 63 → (∀ z ∈ ns, Builtin.Int.intBits z ≤ 1048576) → runA N.length m [.scr (ns.map .int)] = some (.ok (.bl true))) :
    PySem.W.WalkO q loose XP YP l.row.toRowW d [] (fun f vs => PySem.call f vs) := by
  refine Att.attach_callB hn hdf fun w s₀ s₁ mg mb fa o pm cd doc a vs ns G Y ho hd hcd hmg hobj hints hlen hbits hg => ?_
  have KX := hY w _ Y
  obtain ⟨fd, hF, hbind, body⟩ := F w mg fa _ KX G.T.g hmg
  exact law_top KX G.T.g G.T.b G.T.builtins G.T.nolimit hg hobj hints (Nat.le_trans hlen (by decide)) hr hF Sc hbind body (good ns hlen hbits)
end DL
namespace DL
open PySem L2
/-! ### repr of data -/
section
variable {K : PySem.W.Frag} {X : Cx} {W : WX} {e a b c : Expr} {es : List Expr} {pos : Pos}
def rReprT (K : PySem.W.Frag) : List V → Hp → VK → Prop := fun xs H Q => ∃ x d, xs = [x] ∧ Dp K H x d ∧ PyData.canLay0 d = true ∧ d.depth ≤ 64 ∧ d.showable = true ∧ d.shown.length ≤ sizeLine ∧ Q (.str d.shown) H
theorem call_reprT (hg : X.A.guards = some []) (hu : X.A.units + 66 < cLine) : CallR X (.builtin "repr") (rReprT X.K) := by
  intro pins s σ H xs us Q I rs h
  obtain ⟨x, d, rfl, hd, hc, hdep, hs, hz, q⟩ := h
  cases rs with
  | cons rx r =>
  cases r
  rename_i v
  have ref : ∀ (p : Addr), x = .ref p → wpAny (model X.prog X.w) X.A (call (.builtin "repr") [v]) (EP X pins σ Q) X.xe s := fun p e => by
    subst e
    obtain ⟨as, r1⟩ := Dp.reads I d _ v hd rx
    obtain rfl : v = Value.ref p := rx
    exact PySem.repr_of_reads' r1 hs (PyData.noDict_hsm (PyData.hasDict_of_canLay d hc)) hg (by omega) (fun _ _ q => q) (fun h' u tk hk => ⟨.str _, H, I.kept hk, ⟨_, rfl⟩, q⟩) hz
  cases hd with
  | non => obtain rfl : v = Value.none := rx; exact PySem.P.repr_of_none ⟨.str _, H, I.tok _, ⟨_, rfl⟩, q⟩
  | bl b => obtain rfl : v = Value.bool b := rx; exact PySem.P.repr_of_bool ⟨.str _, H, I.tok _, ⟨_, rfl⟩, by cases b <;> exact q⟩
  | int i =>
    obtain ⟨t, rfl⟩ := rx
    have hs' : decide (i.natAbs.log2 < 1920) = true := hs
    exact PySem.P.repr_of_int (of_decide_eq_true hs') ⟨.str _, H, I.tok _, ⟨_, rfl⟩, q⟩
  | str y => obtain ⟨t, rfl⟩ := rx; exact PySem.P.repr_of_str ⟨.str _, H, I.tok _, ⟨_, rfl⟩, q⟩ hz
  | lst h1 h2 => exact ref _ rfl
  | tup h1 h2 => exact ref _ rfl
mutual
def showD : D → Bool
  | .int i => logOk i
  | .lst xs => showDs xs
  | .tup xs => showDs xs
  | .non => true
  | .bl _ => true
  | .str _ => true
  | _ => false
def showDs : List D → Bool
  | [] => true
  | x :: xs => showD x && showDs xs
end
/-! what a text of it has at most -/
mutual
def rb : D → Nat
  | .int i => (intS i).length
  | .str x => (reprText x).length
  | .lst xs => rbs xs + 3
  | .tup xs => rbs xs + 3
  | _ => 5
def rbs : List D → Nat
  | [] => 0
  | x :: xs => rb x + 2 + rbs xs
end
mutual
theorem showD_ok : ∀ d : D, showD d = true → (toP d).showable = true
  | .non, _ => by simp [toP, PyData.showable]
  | .bl _, _ => by simp [toP, PyData.showable]
  | .int i, h => h
  | .str x, _ => by simp [toP, PyData.showable]
  | .lst xs, h => by
    show PyData.showable (.list (toPs xs)) = true
    simp only [PyData.showable]
    exact showDs_ok xs h
  | .tup xs, h => by
    show PyData.showable (.tuple (toPs xs)) = true
    simp only [PyData.showable]
    exact showDs_ok xs h
  | .dK _, h => by cases h
  | .dT _, h => by cases h
  | .fn _, h => by cases h
  | .scr _, h => by cases h
  | .ty _, h => by cases h
theorem showDs_ok : ∀ d : List D, showDs d = true → PyData.showableAll (toPs d) = true
  | [], _ => by simp [toPs, PyData.showableAll]
  | x :: xs, h => by
    have h : (showD x && showDs xs) = true := h
    rw [Bool.and_eq_true] at h
    show PyData.showableAll (toP x :: toPs xs) = true
    simp only [PyData.showableAll]
    rw [showD_ok x h.1, showDs_ok xs h.2]; rfl
end
theorem none_len : (PyData.shown .none).length ≤ 5 := by decide +kernel
theorem bool_len (b : Bool) : (PyData.shown (.bool b)).length ≤ 5 := by cases b <;> decide +kernel
mutual
theorem rb_ok : ∀ d : D, okD d = true → (toP d).shown.length ≤ rb d
  | .non, _ => none_len
  | .bl b, _ => bool_len b
  | .int i, _ => by
    show (PyData.shown (.int i)).length ≤ (intS i).length
    simp only [PyData.shown]
    exact Nat.le_refl _
  | .str x, _ => by
    show (PyData.shown (.str x)).length ≤ (reprText x).length
    simp only [PyData.shown]
    exact Nat.le_refl _
  | .lst xs, h => by
    show (PyData.shown (.list (toPs xs))).length ≤ rbs xs + 3
    simp only [PyData.shown]
    have a := listText_len_le (PyData.shownAll (toPs xs))
    have b := rbs_ok xs h
    omega
  | .tup xs, h => by
    show (PyData.shown (.tuple (toPs xs))).length ≤ rbs xs + 3
    simp only [PyData.shown]
    have a := tupleText_len_le (PyData.shownAll (toPs xs))
    have b := rbs_ok xs h
    omega
  | .dK _, h => by cases h
  | .dT _, h => by cases h
  | .fn _, h => by cases h
  | .scr _, h => by cases h
  | .ty _, h => by cases h
theorem rbs_ok : ∀ d : List D, okDs d = true → ((PyData.shownAll (toPs d)).map (·.length)).sum + 2 * (PyData.shownAll (toPs d)).length ≤ rbs d
  | [], _ => by
    have e : PyData.shownAll (toPs []) = [] := by show PyData.shownAll [] = []; simp only [PyData.shownAll]
    rw [e]; simp [rbs]
  | x :: xs, h => by
    have h : (okD x && okDs xs) = true := h
    rw [Bool.and_eq_true] at h
    have e : PyData.shownAll (toPs (x :: xs)) = (toP x).shown :: PyData.shownAll (toPs xs) := by show PyData.shownAll (toP x :: toPs xs) = _; simp only [PyData.shownAll]
    have a := rb_ok x h.1
    have b := rbs_ok xs h.2
    rw [e, List.map_cons, List.sum_cons, List.length_cons]
    show _ ≤ rb x + 2 + rbs xs
    omega
end
def reprD (d : D) : Str := (toP d).shown
def dRepr (d : D) : Option D := if (shp d && showD d) = true then if rb d ≤ 1000000 then some (.str (reprD d)) else none else none
theorem cd_repr (hg : X.A.guards = some []) (hu : X.A.units + 66 < cLine) : CallD K X (.builtin "repr") (rReprT K) (g1 dRepr) := ⟨fun k => by rw [← k]; exact call_reprT hg hu, g1_ok fun x d c Z H Q s hx hg p => by
  unfold dRepr at hg
  split at hg
  · rename_i h1
    split at hg
    · rename_i h2
      cases hg
      rw [Bool.and_eq_true] at h1
      have h0 := h1.1
      unfold shp at h0
      rw [Bool.and_eq_true, decide_eq_true_eq] at h0
      exact ⟨x, toP d, rfl, hx.dp s (shaped_can h1.1), shaped_can h1.1, by rw [depD_dep d h0.1]; exact h0.2, showD_ok d h1.2, Nat.le_trans (rb_ok d h0.1) (size_le h2), p _ Z H (ExtP.refl s) (.str _)⟩
    · cases hg
  · cases hg⟩
theorem units66 {k : Nat} {A : Around} (r : Room k A) : A.units + 66 < cLine := by have := r.un; omega
end
end DL
namespace DL
open PySem L2
section
variable {K : PySem.W.Frag} {X : Cx} {W : WX} {e a b c : Expr} {es : List Expr} {pos : Pos}
/-! ### order of ints, texts, truths -/
def lexS (x y : Str) : Bool := decide (x.cps.toList < y.cps.toList)
def b2n (b : Bool) : Int := if b then 1 else 0
def dLt2 : D → D → Option D
  | .int i, .int j => some (.bl (decide (i < j)))
  | .str x, .str y => some (.bl (lexS x y))
  | .bl p, .bl q => some (.bl (decide (b2n p < b2n q)))
  | _, _ => none
def dLe2 : D → D → Option D
  | .int i, .int j => some (.bl (decide (i ≤ j)))
  | .str x, .str y => some (.bl (!lexS y x))
  | .bl p, .bl q => some (.bl (decide (b2n p ≤ b2n q)))
  | _, _ => none
theorem bool_dLt2 : boolD dLt2 := fun d e c h => by
  unfold dLt2 at h
  split at h <;> first | (cases h; exact ⟨_, rfl⟩) | cases h
theorem bool_dLe2 : boolD dLe2 := fun d e c h => by
  unfold dLe2 at h
  split at h <;> first | (cases h; exact ⟨_, rfl⟩) | cases h
theorem op_lt_bl : OpR X (compareOp .Lt) (fun x y H Q => ∃ p q, x = .bl p ∧ y = .bl q ∧ Q (.bl (decide (b2n p < b2n q))) H) := by
  intro pins s σ H x y v u Q I rx ry h
  obtain ⟨p, r, rfl, rfl, q⟩ := h
  cases (show v = Value.bool p from rx)
  cases (show u = Value.bool r from ry)
  exact PyProof.Rows.lt_bool ⟨.bl _, H, I, rfl, by cases p <;> cases r <;> exact q⟩
theorem op_le_bl : OpR X (compareOp .LtE) (fun x y H Q => ∃ p q, x = .bl p ∧ y = .bl q ∧ Q (.bl (decide (b2n p ≤ b2n q))) H) := by
  intro pins s σ H x y v u Q I rx ry h
  obtain ⟨p, r, rfl, rfl, q⟩ := h
  cases (show v = Value.bool p from rx)
  cases (show u = Value.bool r from ry)
  exact PyProof.Rows.le_bool ⟨.bl _, H, I, rfl, by cases p <;> cases r <;> exact q⟩
theorem od_lt2 : OpD K X (compareOp .Lt) (fun x y H Q => rI0 (fun i j => .bl (decide (i < j))) x y H Q ∨ (∃ i j, x = .str i ∧ y = .str j ∧ Q (.bl (decide (i.cps.toList < j.cps.toList))) H) ∨ ∃ p q, x = .bl p ∧ y = .bl q ∧ Q (.bl (decide (b2n p < b2n q))) H) dLt2 where
  op := fun _ pins s σ H x y v u Q I rx ry h => by
    rcases h with h | h | h
    · exact op_lt pins s σ H x y v u Q I rx ry h
    · exact op_lt_str pins s σ H x y v u Q I rx ry h
    · exact op_lt_bl pins s σ H x y v u Q I rx ry h
  ok := by
    intro x y d e c Z H Q s hx hy hg p
    unfold dLt2 at hg
    split at hg
    · cases hx; cases hy; cases hg; exact .inl ⟨_, _, rfl, rfl, p _ Z H (ExtP.refl s) (.bl _)⟩
    · cases hx; cases hy; cases hg; exact .inr (.inl ⟨_, _, rfl, rfl, p _ Z H (ExtP.refl s) (.bl _)⟩)
    · cases hx; cases hy; cases hg; exact .inr (.inr ⟨_, _, rfl, rfl, p _ Z H (ExtP.refl s) (.bl _)⟩)
    · cases hg
theorem od_le2 : OpD K X (compareOp .LtE) (fun x y H Q => rI0 (fun i j => .bl (decide (i ≤ j))) x y H Q ∨ (∃ i j, x = .str i ∧ y = .str j ∧ Q (.bl (!decide (j.cps.toList < i.cps.toList))) H) ∨ ∃ p q, x = .bl p ∧ y = .bl q ∧ Q (.bl (decide (b2n p ≤ b2n q))) H) dLe2 where
  op := fun _ pins s σ H x y v u Q I rx ry h => by
    rcases h with h | h | h
    · exact op_le pins s σ H x y v u Q I rx ry h
    · exact op_le_str pins s σ H x y v u Q I rx ry h
    · exact op_le_bl pins s σ H x y v u Q I rx ry h
  ok := by
    intro x y d e c Z H Q s hx hy hg p
    unfold dLe2 at hg
    split at hg
    · cases hx; cases hy; cases hg; exact .inl ⟨_, _, rfl, rfl, p _ Z H (ExtP.refl s) (.bl _)⟩
    · cases hx; cases hy; cases hg; exact .inr (.inl ⟨_, _, rfl, rfl, p _ Z H (ExtP.refl s) (.bl _)⟩)
    · cases hx; cases hy; cases hg; exact .inr (.inr ⟨_, _, rfl, rfl, p _ Z H (ExtP.refl s) (.bl _)⟩)
    · cases hg
/-! ### is True, is False -/
def dIs : D → D → Option D
  | .bl p, .bl q => some (.bl (decide (p = q)))
  | _, _ => none
def dIsN : D → D → Option D
  | .bl p, .bl q => some (.bl (!decide (p = q)))
  | _, _ => none
theorem bool_dIs : boolD dIs := fun d e c h => by
  unfold dIs at h
  split at h <;> first | (cases h; exact ⟨_, rfl⟩) | cases h
theorem bool_dIsN : boolD dIsN := fun d e c h => by
  unfold dIsN at h
  split at h <;> first | (cases h; exact ⟨_, rfl⟩) | cases h
theorem od_is : OpD K X (compareOp .Is) rIsB dIs := ⟨fun _ => op_isBl, by
    intro x y d e c Z H Q s hx hy hg p
    unfold dIs at hg
    split at hg
    · cases hx; cases hy; cases hg; exact ⟨_, _, rfl, rfl, p _ Z H (ExtP.refl s) (.bl _)⟩
    · cases hg⟩
theorem od_isn : OpD K X (compareOp .IsNot) rNotB dIsN := ⟨fun _ => op_notBl, by
    intro x y d e c Z H Q s hx hy hg p
    unfold dIsN at hg
    split at hg
    · cases hx; cases hy; cases hg; exact ⟨_, _, rfl, rfl, p _ Z H (ExtP.refl s) (.bl _)⟩
    · cases hg⟩
/-! ### lists one behind the other -/
def rCatL (K : PySem.W.Frag) : R2 := fun x y H Q => ∃ l b xs zs, x = .ref l ∧ y = .ref b ∧ SqL K H l xs ∧ SqL K H b zs ∧ xs.length + zs.length ≤ sizeLine ∧ ∀ p, H p = none → Q (.ref p) (upd H p (.lst (xs ++ zs)))
theorem op_catL : OpR X (binaryOp .Add) (rCatL X.K) := by
  intro pins s σ H x y v u Q I rx ry h
  obtain ⟨l, b, xs, zs, rfl, rfl, hx, hy, hz, q⟩ := h
  obtain rfl : v = Value.ref l := rx
  obtain rfl : u = Value.ref b := ry
  obtain ⟨its, r, ⟨⟨cls, dd, data, sl⟩, n, ho, hc, hdn, hd⟩, _⟩ := I.list hx
  obtain ⟨its2, r2, ⟨⟨cls2, dd2, data2, sl2⟩, n2, ho2, hc2, hdn2, hd2⟩, _⟩ := I.list hy
  simp only at hc hd hdn hc2 hd2 hdn2
  subst hc hd hdn hc2 hd2 hdn2
  have hl := r.length
  have hl2 := r2.length
  refine concat_meets ⟨_, ho, rfl⟩ ⟨_, ho2, rfl⟩ noFill_list_add seq_list_add PySem.F.slot_list_add PySem.F.entry_list_add (PySem.F.args_list_add_2 _ _) (PyProof.Rows.list_addW l b its.toArray its2.toArray n n2 none none sl sl2 (by simp; omega)) ⟨ho, ho2, ?_⟩
  have e : its.toArray ++ its2.toArray = (its ++ its2).toArray := by simp
  rw [e]
  exact ⟨.ref _, _, I.lnew (t' := s.toks) (r.append r2) (by rw [List.length_append]; omega), rfl, q _ I.fresh⟩
def dAdd2 : D → D → Option D
  | .int i, .int j => some (.int (i + j))
  | .str x, .str y => if x.length + y.length ≤ 1000000 then some (.str (x ++ y)) else none
  | .lst x, .lst y => if x.length + y.length ≤ 1000000 then some (.lst (x ++ y)) else none
  | _, _ => none
theorem od_add2 : OpD K X (binaryOp .Add) (fun x y H Q => rI0 (fun i j => .int (i + j)) x y H Q ∨ (∃ i j, x = .str i ∧ y = .str j ∧ i.length + j.length ≤ sizeLine ∧ Q (.str (i ++ j)) H) ∨ rCatL K x y H Q) dAdd2 where
  op := fun k pins s σ H x y v u Q I rx ry h => by
    subst k
    rcases h with h | h | h
    · exact op_add pins s σ H x y v u Q I rx ry h
    · exact op_add_str pins s σ H x y v u Q I rx ry h
    · exact op_catL pins s σ H x y v u Q I rx ry h
  ok := by
    intro x y d e c Z H Q s hx hy hg p
    unfold dAdd2 at hg
    split at hg
    · cases hx; cases hy; cases hg
      exact .inl ⟨_, _, rfl, rfl, p _ Z H (ExtP.refl s) (.int _)⟩
    · split at hg
      · rename_i hl
        cases hx; cases hy; cases hg
        exact .inr (.inl ⟨_, _, rfl, rfl, size_le hl, p _ Z H (ExtP.refl s) (.str _)⟩)
      · cases hg
    · split at hg
      · rename_i hl
        cases hg
        cases hx with
        | lst h1 h2 =>
        cases hy with
        | lst h3 h4 =>
        exact .inr (.inr ⟨_, _, _, _, rfl, rfl, .inl (same_rd s h1), .inl (same_rd s h3), by rw [h2.length, h4.length]; exact size_le hl, fun l hl => p _ _ _ (ExtP.new s hl) (.lst (.inl upd_same) ((h2.append h4).mono (same_upd (none_of s hl))))⟩)
      · cases hg
    · cases hg
end
end DL
namespace DL
open PySem L2
section
variable {K : PySem.W.Frag} {X : Cx} {W : WX} {e a b c tg iter tg1 iter1 elt : Expr} {es : List Expr} {pos : Pos}
/-! ### a comprehension with two fors -/
theorem RepV.mono2 {Z Z' : Hp} {I I' : List Addr} (z : Same Z Z') (i : ∃ t, I' = I ++ t) {v : V} : ∀ {d : DV}, RepV K Z I v d → RepV K Z' I' v d
  | .p _, h => Rep.mono z h
  | .o n, ⟨a, h, q⟩ => by
    obtain ⟨t, rfl⟩ := i
    exact ⟨a, by rw [List.getElem?_append_left (List.getElem?_eq_some_iff.mp h).1]; exact h, q⟩
theorem RepS.mono2 {Z Z' : Hp} {I I' : List Addr} {σ : St} {l : List (Option DV)} (r : RepS K Z I σ l) (z : Same Z Z') (i : ∃ t, I' = I ++ t) : RepS K Z' I' σ l := ⟨r.len, fun n dv h => by
  obtain ⟨v, h1, h2⟩ := r.at_ n dv h
  exact ⟨v, h1, h2.mono2 z i⟩⟩
theorem ex_app {I1 I2 I3 : List Addr} (a : ∃ t, I2 = I1 ++ t) (b : ∃ t, I3 = I2 ++ t) : ∃ t, I3 = I1 ++ t := by
  obtain ⟨t, rfl⟩ := a
  obtain ⟨u, rfl⟩ := b
  exact ⟨t ++ u, by rw [List.append_assoc]⟩
abbrev HG (K : PySem.W.Frag) (g : TG) (gm : GM) (ix : List Nat) : Prop := ∀ (v : V) (dv : DV) (σ : St) (H : Hp) (s s' : S) (Z : Hp) (I : List Addr) (Q : St → Hp → Prop), Wf K Z H I s.m → RepS K Z I σ s.l → RepV K Z I v dv → gm dv s = some s' →
      (∀ σ' Z' H' I', Wf K Z' H' I' s'.m → RepS K Z' I' σ' s'.l → Ext Z H I Z' H' I' → (∀ vs, (∀ i ∈ ix, i ∈ vs) → L2.wipe σ' vs = L2.wipe σ vs) → Q σ' H') → g v σ H Q
/-- the loop within -/
theorem inner_ok {g1 : TG} {tt1 : TT} {te : TE} {vs1 : List Nat} {gm1 : GM} {ix1 : List Nat} {t1 em : EM} (hg : HG K g1 gm1 ix1) (hix : ∀ i ∈ ix1, i ∈ vs1) (ht : Sound K WF RepB tt1 t1) (he : Sound K WF (RepV K) te em)
    {Z1 H1 : Hp} {I1 : List Addr} {D : Addr} (hD : H1 D = none) {σ2 : St} {l2 : List (Option DV)} {Z4 H4 : Hp} {I4 : List Addr} {M4 : List O} {J1 : It} {ds1 : List DV} (q : ItOk K Z4 I4 J1 ds1) (rs : RepS K Z4 I4 σ2 l2)
    {acc : List V} {bd : List DL.D} (f : Fill K Z1 H1 I1 D Z4 H4 I4 M4 acc bd) {ad : List DL.D} {Mf : List O} (e : compL (wipeL l2 vs1) gm1 t1 em ds1 bd M4 = some (ad, Mf)) {Nx : Hp → Prop} (k : ∀ Z' H' I' acc', Fill K Z1 H1 I1 D Z' H' I' Mf acc' ad → Nx H') :
    ∃ W1 : Nat → Nat → Hp → Prop, (∃ m, W1 0 m H4) ∧ ∀ j k H, W1 j k H → (J1.stop j H ∧ Nx H) ∨ (J1.go j H ∧ ∃ Nx1 : Hp → Prop, (∀ H', Nx1 H' → ∃ k', k' < k ∧ W1 (j + 1) k' H') ∧ ∀ x H', J1.yld j H x H' → g1 x (L2.wipe σ2 vs1) H' fun σ3 H5 => L2.wipe σ3 vs1 = L2.wipe σ2 vs1 ∧ tt1 σ3 H5 fun b H6 =>
        if b = true then te σ3 H6 fun y H7 => ∃ acc, H7 D = some (.lst acc) ∧ acc.length < sizeLine ∧ Nx1 (upd H7 D (.lst (acc ++ [y]))) else Nx1 H6) := by
  refine ⟨fun i m H' => m = ds1.length - i ∧ i ≤ ds1.length ∧ ∃ Z' I' M acc bd, Fill K Z1 H1 I1 D Z' H' I' M acc bd ∧ Same Z4 Z' ∧ (∃ t, I' = I4 ++ t) ∧ compL (wipeL l2 vs1) gm1 t1 em (ds1.drop i) bd M = some (ad, Mf), ⟨ds1.length, by simp, Nat.zero_le _, Z4, I4, M4, acc, bd, f, Same.refl _, ⟨[], by simp⟩, e⟩, ?_⟩
  rintro i m H' ⟨rfl, hil, Z', I', M, acc, bd, f, sz, si, e'⟩
  have Jo := q Z' H' I' sz si f.w.sub i
  by_cases hlt : i < ds1.length
  · right
    have hd : ds1[i]? = some ds1[i] := by simp [hlt]
    obtain ⟨go, yl⟩ := Jo.1 _ hd
    rw [List.drop_eq_getElem_cons hlt] at e'
    refine ⟨go, fun H2 => ∃ Z2 I2 M2 acc2 bd2, Fill K Z1 H1 I1 D Z2 H2 I2 M2 acc2 bd2 ∧ Same Z4 Z2 ∧ (∃ t, I2 = I4 ++ t) ∧ compL (wipeL l2 vs1) gm1 t1 em (ds1.drop (i + 1)) bd2 M2 = some (ad, Mf),
      fun H2 h2 => ⟨ds1.length - (i + 1), by omega, rfl, hlt, h2⟩, fun x H2 hx => ?_⟩
    obtain ⟨Z2, x2, rx⟩ := yl x H2 hx
    have f2 := f.step (f.w.extP x2) (x2.ext f.w)
    have sz2 := sz.trans x2.z
    have rs2 : RepS K Z2 I' (L2.wipe σ2 vs1) (wipeL l2 vs1) := (rs.mono2 sz2 si).wipe vs1
    unfold compL at e'
    cases zg : gm1 ds1[i] ⟨wipeL l2 vs1, M⟩ with
    | none => rw [zg] at e'; cases e'
    | some s1 =>
      rw [zg] at e'
      refine hg x ds1[i] (L2.wipe σ2 vs1) H2 ⟨wipeL l2 vs1, M⟩ s1 Z2 I' _ f2.w rs2 rx zg fun σ3 Z3 H3 I3 w3 rs3 x3 k3 => ?_
      have f3 := f2.step w3 x3
      have sz3 := sz2.trans x3.z
      have si3 := ex_app si x3.i
      refine ⟨(k3 vs1 hix).trans (wipe_wipe vs1 vs1 fun _ h => h), ?_⟩
      have e' : (match t1 s1 with
        | some (.ok (.p (.bl true)) M1) => match em ⟨s1.l, M1⟩ with
          | some (.ok (.p y) M2) => if bd.length < 1000000 then compL (wipeL l2 vs1) gm1 t1 em (ds1.drop (i + 1)) (bd ++ [y]) M2 else none
          | _ => none
        | some (.ok (.p (.bl false)) M1) => compL (wipeL l2 vs1) gm1 t1 em (ds1.drop (i + 1)) bd M1
        | _ => none) = some (ad, Mf) := e'
      cases zt : t1 s1 with
      | none => rw [zt] at e'; cases e'
      | some rt =>
        rw [zt] at e'
        refine ht.ok σ3 H3 s1 Z3 I3 rt _ w3 rs3 zt ?_
        cases rt with
        | ex c fs M4 => cases e'
        | ok d4 M4 =>
          intro b Z5 H5 I5 w4 x4 r4
          cases (show d4 = .p (.bl b) from r4)
          have f4 := f3.step w4 x4
          have sz4 := sz3.trans x4.z
          have si4 := ex_app si3 x4.i
          cases b with
          | false =>
            rw [if_neg Bool.false_ne_true]
            exact ⟨Z5, I5, M4, acc, bd, f4, sz4, si4, e'⟩
          | true =>
            rw [if_pos rfl]
            have e' : (match em ⟨s1.l, M4⟩ with
              | some (.ok (.p y) M2) => if bd.length < 1000000 then compL (wipeL l2 vs1) gm1 t1 em (ds1.drop (i + 1)) (bd ++ [y]) M2 else none
              | _ => none) = some (ad, Mf) := e'
            cases ze : em ⟨s1.l, M4⟩ with
            | none => rw [ze] at e'; cases e'
            | some re =>
              rw [ze] at e'
              refine he.ok σ3 H5 ⟨s1.l, M4⟩ Z5 I5 re _ w4 (rs3.mono x4) ze ?_
              cases re with
              | ex c fs M5 => cases e'
              | ok d5 M5 =>
                intro y Z6 H6 I6 w5 x5 r5
                have f5 := f4.step w5 x5
                cases d5 with
                | o n => cases e'
                | p d5 =>
                  have e' : (if bd.length < 1000000 then compL (wipeL l2 vs1) gm1 t1 em (ds1.drop (i + 1)) (bd ++ [d5]) M5 else none) = some (ad, Mf) := e'
                  split at e'
                  · rename_i hlen
                    refine ⟨acc, f5.at_, by rw [f5.r.length]; exact size_lt (Nat.le_of_lt hlen), ?_⟩
                    exact ⟨Z6, I6, M5, _, _, f5.put hD r5, sz4.trans x5.z, ex_app si4 x5.i, e'⟩
                  · cases e'
  · left
    have e0 : ds1.drop i = [] := List.drop_eq_nil_of_le (by omega)
    rw [e0] at e'
    cases e'
    exact ⟨Jo.2 (by omega), k Z' H' I' acc f⟩
def compL2 (l : List (Option DV)) (g : GM) (t : EM) (it1 : IM) (g1 : GM) (t1 e : EM) (vs1 : List Nat) : List DV → List D → List O → Option (List D × List O)
  | [], acc, M => some (acc, M)
  | d :: ds, acc, M => match g d ⟨l, M⟩ with
    | none => none
    | some s1 => match t s1 with
      | some (.ok (.p (.bl true)) M1) => match it1 ⟨s1.l, M1⟩ with
        | some (.ok ds1 M2) => match compL (wipeL s1.l vs1) g1 t1 e ds1 acc M2 with
          | some (acc', M3) => compL2 l g t it1 g1 t1 e vs1 ds acc' M3
          | none => none
        | _ => none
      | some (.ok (.p (.bl false)) M1) => compL2 l g t it1 g1 t1 e vs1 ds acc M1
      | _ => none
def mLc2 (it : IM) (vs : List Nat) (g : GM) (t : EM) (it1 : IM) (vs1 : List Nat) (g1 : GM) (t1 e : EM) : EM := bnd it fun ds s => match compL2 (wipeL s.l vs) g t it1 g1 t1 e vs1 ds [] s.m with
  | some (acc, M) => some (.ok (.p (.lst acc)) M)
  | none => none
theorem tLc2_ok {wi wi1 : TI} {g g1 : TG} {tt tt1 : TT} {te : TE} {vs vs1 : List Nat} {it it1 : IM} {gm gm1 : GM} {ix ix1 : List Nat} {t t1 em : EM} (hi : Sound K W (ItOk K) wi it) (hg : HG K g gm ix) (hix : ∀ i ∈ ix, i ∈ vs) (ht : Sound K WF RepB tt t)
    (hi1 : Sound K WF (ItOk K) wi1 it1) (hg1 : HG K g1 gm1 ix1) (hix1 : ∀ i ∈ ix1, i ∈ vs1) (ht1 : Sound K WF RepB tt1 t1) (he : Sound K WF (RepV K) te em) {σ : St} {H : Hp} {s : S} {Z : Hp} {I : List Addr} {r : Rs DV} {Q : VK} {k : List D → List O → Rs DV} (w : Wf K Z H I s.m) (rs : RepS K Z I σ s.l)
    (e : bnd it (fun ds s => match compL2 (wipeL s.l vs) gm t it1 gm1 t1 em vs1 ds [] s.m with | some (acc, M) => some (k acc M) | none => none) s = some r) (px : ∀ c fs M, r = .ex c fs M → PostX K W Z H I σ M c fs)
    (hk : ∀ Z1 H1 I1 D Z' H' I' M acc ad, r = k ad M → H1 D = none → Ext Z H I Z1 H1 I1 → Fill K Z1 H1 I1 D Z' H' I' M acc ad → Q (.ref D) H') : tLc2 wi g tt wi1 g1 tt1 te vs vs1 σ H Q := by
  refine hi.bnd w rs e px fun ds J M1 Z1 H1 I1 w1 rs1 x1 q1 e1 => ?_
  have e1 : (match compL2 (wipeL s.l vs) gm t it1 gm1 t1 em vs1 ds [] M1 with | some (acc, M) => some (k acc M) | none => none) = some r := e1
  cases zc : compL2 (wipeL s.l vs) gm t it1 gm1 t1 em vs1 ds [] M1 with
  | none => rw [zc] at e1; cases e1
  | some am =>
    rw [zc] at e1
    obtain ⟨ad, Mf⟩ := am
    have e1 : some (k ad Mf) = some r := e1
    intro D hD
    have f0 : Fill K Z1 H1 I1 D Z1 (upd H1 D (.lst [])) I1 M1 [] [] := by
      refine ⟨⟨fun a u q => by rw [upd_ne (ne_of_none (w1.sub a u q) hD)]; exact w1.sub a u q, w1.len, w1.nd, fun a m => by rw [upd_ne (fun q => w1.tr a m (by rw [q]; exact hD))]; exact w1.tr a m, fun n a o h1 h2 h3 => ?_⟩, ⟨Same.refl _, ⟨[], by simp⟩, fun a o q _ => by rw [upd_ne (ne_of_none q hD)]; exact q, fun _ m => .inl m, fun _ m => .inl m, fun a q => by rw [upd_ne (fun y => q (by rw [y]; exact hD))]; exact q⟩, upd_same, none_of w1.sub hD, fun m => w1.tr D m hD, .nil⟩
      obtain ⟨q1, q2⟩ := w1.ob n a o h1 h2 h3
      exact ⟨q1, q2.mono (Same.refl _) (upd_ne fun q => w1.tr a (List.mem_of_getElem? h1) (by rw [q]; exact hD))⟩
    refine ⟨fun i m H' => m = ds.length - i ∧ i ≤ ds.length ∧ ∃ Z' I' M acc bd, Fill K Z1 H1 I1 D Z' H' I' M acc bd ∧ compL2 (wipeL s.l vs) gm t it1 gm1 t1 em vs1 (ds.drop i) bd M = some (ad, Mf), ⟨ds.length, by simp, Nat.zero_le _, Z1, I1, M1, [], [], f0, zc⟩, ?_⟩
    rintro i m H' ⟨rfl, hil, Z', I', M, acc, bd, f, e'⟩
    have Jo := q1 Z' H' I' f.x.z f.x.i f.w.sub i
    by_cases hlt : i < ds.length
    · right
      have hd : ds[i]? = some ds[i] := by simp [hlt]
      obtain ⟨go, yl⟩ := Jo.1 _ hd
      rw [List.drop_eq_getElem_cons hlt] at e'
      refine ⟨go, fun H2 => ∃ Z2 I2 M2 acc2 bd2, Fill K Z1 H1 I1 D Z2 H2 I2 M2 acc2 bd2 ∧ compL2 (wipeL s.l vs) gm t it1 gm1 t1 em vs1 (ds.drop (i + 1)) bd2 M2 = some (ad, Mf),
        fun H2 h2 => ⟨ds.length - (i + 1), by omega, rfl, hlt, h2⟩, fun x H2 hx => ?_⟩
      obtain ⟨Z2, x2, rx⟩ := yl x H2 hx
      have f2 := f.step (f.w.extP x2) (x2.ext f.w)
      have rs2 : RepS K Z2 I' (L2.wipe σ vs) (wipeL s.l vs) := ((rs1.mono f2.x)).wipe vs
      unfold compL2 at e'
      cases zg : gm ds[i] ⟨wipeL s.l vs, M⟩ with
      | none => rw [zg] at e'; cases e'
      | some s1 =>
        rw [zg] at e'
        refine hg x ds[i] (L2.wipe σ vs) H2 ⟨wipeL s.l vs, M⟩ s1 Z2 I' _ f2.w rs2 rx zg fun σ3 Z3 H3 I3 w3 rs3 x3 k3 => ?_
        have f3 := f2.step w3 x3
        refine ⟨(k3 vs hix).trans (wipe_wipe vs vs fun _ h => h), ?_⟩
        have e' : (match t s1 with
          | some (.ok (.p (.bl true)) M1) => match it1 ⟨s1.l, M1⟩ with
            | some (.ok ds1 M2) => match compL (wipeL s1.l vs1) gm1 t1 em ds1 bd M2 with
              | some (acc', M3) => compL2 (wipeL s.l vs) gm t it1 gm1 t1 em vs1 (ds.drop (i + 1)) acc' M3
              | none => none
            | _ => none
          | some (.ok (.p (.bl false)) M1) => compL2 (wipeL s.l vs) gm t it1 gm1 t1 em vs1 (ds.drop (i + 1)) bd M1
          | _ => none) = some (ad, Mf) := e'
        cases zt : t s1 with
        | none => rw [zt] at e'; cases e'
        | some rt =>
          rw [zt] at e'
          refine ht.ok σ3 H3 s1 Z3 I3 rt _ w3 rs3 zt ?_
          cases rt with
          | ex c fs M4 => cases e'
          | ok d4 M4 =>
            intro b Z4 H4 I4 w4 x4 r4
            cases (show d4 = .p (.bl b) from r4)
            have f4 := f3.step w4 x4
            cases b with
            | false =>
              rw [if_neg Bool.false_ne_true]
              exact ⟨Z4, I4, M4, acc, bd, f4, e'⟩
            | true =>
              rw [if_pos rfl]
              have e' : (match it1 ⟨s1.l, M4⟩ with
                | some (.ok ds1 M2) => match compL (wipeL s1.l vs1) gm1 t1 em ds1 bd M2 with
                  | some (acc', M3) => compL2 (wipeL s.l vs) gm t it1 gm1 t1 em vs1 (ds.drop (i + 1)) acc' M3
                  | none => none
                | _ => none) = some (ad, Mf) := e'
              cases zi : it1 ⟨s1.l, M4⟩ with
              | none => rw [zi] at e'; cases e'
              | some ri =>
                rw [zi] at e'
                refine hi1.ok σ3 H4 ⟨s1.l, M4⟩ Z4 I4 ri _ w4 (rs3.mono x4) zi ?_
                cases ri with
                | ex c fs M5 => cases e'
                | ok ds1 M5 =>
                  intro J1 Z5 H5 I5 w5 x5 q5
                  have f5 := f4.step w5 x5
                  have e' : (match compL (wipeL s1.l vs1) gm1 t1 em ds1 bd M5 with
                    | some (acc', M3) => compL2 (wipeL s.l vs) gm t it1 gm1 t1 em vs1 (ds.drop (i + 1)) acc' M3
                    | none => none) = some (ad, Mf) := e'
                  cases zl : compL (wipeL s1.l vs1) gm1 t1 em ds1 bd M5 with
                  | none => rw [zl] at e'; cases e'
                  | some am =>
                    rw [zl] at e'
                    obtain ⟨ad1, M6⟩ := am
                    have e' : compL2 (wipeL s.l vs) gm t it1 gm1 t1 em vs1 (ds.drop (i + 1)) ad1 M6 = some (ad, Mf) := e'
                    exact inner_ok hg1 hix1 ht1 he hD q5 ((rs3.mono x4).mono x5) f5 zl fun Z7 H7 I7 acc7 f7 => ⟨Z7, I7, M6, acc7, ad1, f7, e'⟩
    · left
      have e0 : ds.drop i = [] := List.drop_eq_nil_of_le (by omega)
      rw [e0] at e'
      cases e'
      exact ⟨Jo.2 (by omega), hk Z1 H1 I1 D Z' H' I' _ acc _ (Option.some.inj e1).symm hD x1 f⟩
section
variable {ifs ifs1 : List Expr} {scope : Scope} {own : List (Str × Nat)} {wi wi1 : TI} {g g1 : TG} {tt tt1 : TT} {te : TE} {it it1 : IM} {gm gm1 : GM} {ix ix1 : List Nat} {t t1 em : EM}
theorem so_lc2 {vs vs1 : List Nat} (hi : Sound K W (ItOk K) wi it) (hg : HG K g gm ix) (hix : ∀ i ∈ ix, i ∈ vs) (ht : Sound K WF RepB tt t) (hi1 : Sound K WF (ItOk K) wi1 it1) (hg1 : HG K g1 gm1 ix1) (hix1 : ∀ i ∈ ix1, i ∈ vs1) (ht1 : Sound K WF RepB tt1 t1) (he : Sound K WF (RepV K) te em) :
    Sound K W (RepV K) (tLc2 wi g tt wi1 g1 tt1 te vs vs1) (mLc2 it vs gm t it1 vs1 gm1 t1 em) := ⟨fun σ H s Z I r Q w rs e p => by
  refine tLc2_ok hi hg hix ht hi1 hg1 hix1 ht1 he (k := fun acc M => .ok (.p (.lst acc)) M) w rs e p.x fun Z1 H1 I1 D Z' H' I' M acc ad er h0 x1 f => ?_
  subst er
  obtain ⟨w', x'⟩ := f.frz h0
  exact p _ _ H' I' w' (x1.trans x') (.lst (.inl upd_same) (f.r.mono (same_upd f.nz)))⟩
theorem de_lc2 {vs vs1 : List Nat} (hN : X.N.Nodup) (hc : X.calm = true) (hi : DI K X W tg iter wi it) (ok : BlkOk X.N X.env.scope scope own)
    (hg : ∀ (s : Shared) (H : Hp) (C : Addr) (cl : List (Str × Addr)) (fp : List Addr), DG K (X.blk s H scope (compEnvC scope cl C X.env) fp) tg g gm ix) (ht : ∀ (s : Shared) (H : Hp) (C : Addr) (cl : List (Str × Addr)) (fp : List Addr), DPT K (X.blk s H scope (compEnvC scope cl C X.env) fp) ifs tt t)
    (hi1 : ∀ (s : Shared) (H : Hp) (C : Addr) (cl : List (Str × Addr)) (fp : List Addr), DI K (X.blk s H scope (compEnvC scope cl C X.env) fp) WF tg1 iter1 wi1 it1)
    (hg1 : ∀ (s : Shared) (H : Hp) (C : Addr) (cl : List (Str × Addr)) (fp : List Addr), DG K (X.blk s H scope (compEnvC scope cl C X.env) fp) tg1 g1 gm1 ix1) (ht1 : ∀ (s : Shared) (H : Hp) (C : Addr) (cl : List (Str × Addr)) (fp : List Addr), DPT K (X.blk s H scope (compEnvC scope cl C X.env) fp) ifs1 tt1 t1)
    (he : ∀ (s : Shared) (H : Hp) (C : Addr) (cl : List (Str × Addr)) (fp : List Addr), DE K (X.blk s H scope (compEnvC scope cl C X.env) fp) WF elt te em) (hix : ∀ i ∈ ix, i ∈ own.map (·.2) := by decide) (hix1 : ∀ i ∈ ix1, i ∈ vs1 := by decide) (hv1 : ∀ i ∈ vs1, i ∈ own.map (·.2) := by decide)
    (hs : ∀ x, foldedSetIterable iter X.env x = pure x := by intro _; rfl) (hs1 : ∀ env x, foldedSetIterable iter1 env x = pure x := by intro _ _; rfl) (hv : own.map (·.2) = vs := by rfl) :
    DE K X W (.ListComp elt [⟨tg, iter, ifs, 0⟩, ⟨tg1, iter1, ifs1, 0⟩] scope pos) (tLc2 wi g tt wi1 g1 tt1 te vs vs1) (mLc2 it vs gm t it1 vs1 gm1 t1 em) := by
  subst hv
  exact ⟨hi.k, pe_lc2 hc hN hi.pi ok hv1 (fun s H C cl fp => (hg s H C cl fp).pg) (fun s H C cl fp => (ht s H C cl fp).pt) (fun s H C cl fp => (hi1 s H C cl fp).pi) (fun s H C cl fp => (hg1 s H C cl fp).pg) (fun s H C cl fp => (ht1 s H C cl fp).pt) (fun s H C cl fp => (he s H C cl fp).pe) hs hs1,
    so_lc2 hi.so (hg {} (fun _ => none) 0 [] []).ok hix (ht {} (fun _ => none) 0 [] []).so (hi1 {} (fun _ => none) 0 [] []).so (hg1 {} (fun _ => none) 0 [] []).ok hix1 (ht1 {} (fun _ => none) 0 [] []).so (he {} (fun _ => none) 0 [] []).so⟩
theorem ds_setLc2 {i : Nat} {vs vs1 : List Nat} {y : Str} {py spos : Pos} (hN : X.N.Nodup) (hc : X.calm = true) (hi : DI K X W tg iter wi it) (ok : BlkOk X.N X.env.scope scope own)
    (hg : ∀ (s : Shared) (H : Hp) (C : Addr) (cl : List (Str × Addr)) (fp : List Addr), DG K (X.blk s H scope (compEnvC scope cl C X.env) fp) tg g gm ix) (ht : ∀ (s : Shared) (H : Hp) (C : Addr) (cl : List (Str × Addr)) (fp : List Addr), DPT K (X.blk s H scope (compEnvC scope cl C X.env) fp) ifs tt t)
    (hi1 : ∀ (s : Shared) (H : Hp) (C : Addr) (cl : List (Str × Addr)) (fp : List Addr), DI K (X.blk s H scope (compEnvC scope cl C X.env) fp) WF tg1 iter1 wi1 it1)
    (hg1 : ∀ (s : Shared) (H : Hp) (C : Addr) (cl : List (Str × Addr)) (fp : List Addr), DG K (X.blk s H scope (compEnvC scope cl C X.env) fp) tg1 g1 gm1 ix1) (ht1 : ∀ (s : Shared) (H : Hp) (C : Addr) (cl : List (Str × Addr)) (fp : List Addr), DPT K (X.blk s H scope (compEnvC scope cl C X.env) fp) ifs1 tt1 t1)
    (he : ∀ (s : Shared) (H : Hp) (C : Addr) (cl : List (Str × Addr)) (fp : List Addr), DE K (X.blk s H scope (compEnvC scope cl C X.env) fp) WF elt te em) (hy : X.N[i]? = some y := by rfl) (hyl : X.env.scope.names.lookup y = some .local := by rfl)
    (hsw : swapsWith (.ListComp elt [⟨tg, iter, ifs, 0⟩, ⟨tg1, iter1, ifs1, 0⟩] scope pos) (some (.Name y py)) spos.line X.env = pure true := by exact sw_true rfl rfl rfl (by decide +kernel)) (hix : ∀ i ∈ ix, i ∈ own.map (·.2) := by decide) (hix1 : ∀ i ∈ ix1, i ∈ vs1 := by decide) (hv1 : ∀ i ∈ vs1, i ∈ own.map (·.2) := by decide)
    (hs : ∀ x, foldedSetIterable iter X.env x = pure x := by intro _; rfl) (hs1 : ∀ env x, foldedSetIterable iter1 env x = pure x := by intro _ _; rfl) (hv : own.map (·.2) = vs := by rfl) :
    DS K X W (.Assign [.Name y py] (.ListComp elt [⟨tg, iter, ifs, 0⟩, ⟨tg1, iter1, ifs1, 0⟩] scope pos) spos) (tAsg (tLc2 wi g tt wi1 g1 tt1 te vs vs1) (gName i)) (sAsg (mLc2 it vs gm t it1 vs1 gm1 t1 em) (gN i)) := by
  subst hv
  exact ⟨hi.k, ps_setLc2 hc hN hy hyl hsw hi.pi ok hv1 (fun s H C cl fp => (hg s H C cl fp).pg) (fun s H C cl fp => (ht s H C cl fp).pt) (fun s H C cl fp => (hi1 s H C cl fp).pi) (fun s H C cl fp => (hg1 s H C cl fp).pg) (fun s H C cl fp => (ht1 s H C cl fp).pt) (fun s H C cl fp => (he s H C cl fp).pe) hs hs1,
    so_asg (so_lc2 hi.so (hg {} (fun _ => none) 0 [] []).ok hix (ht {} (fun _ => none) 0 [] []).so (hi1 {} (fun _ => none) 0 [] []).so (hg1 {} (fun _ => none) 0 [] []).ok hix1 (ht1 {} (fun _ => none) 0 [] []).so (he {} (fun _ => none) 0 [] []).so) (dg_name hN hi.k hy (.inl hyl) (.inr hyl) : DG K X (.Name y py) _ _ _)⟩
end
end
end DL
namespace DL
open PySem L2
/-- a tuple of the module -/
theorem rep_ktup {K : PySem.W.Frag} {a : Addr} {d : Option Addr} {its : Array Value} {z : Nat} {w : Array (Option Value)} {Z : Hp} {xs : List V} {ds : List D} (l : K.lookup a = some ⟨.type "tuple", d, .seq its z, w⟩) (hz : its.size ≤ sizeLine) (v : Vals xs its.toList) (r : RepA K Z xs ds) : Rep K Z (.ref a) (.tup ds) :=
  .tup (.inr ⟨_, its, z, l, rfl, rfl, hz, v⟩) r
end DL
namespace DL
open PySem L2
section
variable {K : PySem.W.Frag} {X : Cx} {W : WX} {e a b c : Expr} {es : List Expr} {pos : Pos}
/-! ### a dict of the module, keys texts -/
structure GD (K : PySem.W.Frag) (w : World) (mg : Str → Option Value) (x : Str) (kvs : List (Str × D)) where
  a : Addr
  m : mg x = some (.ref a)
  at_ : ∀ z d, kvs.lookup z = some d → ∃ v, KDct K w a z v ∧ ∀ Z, Rep K Z v d
def kdK (kvs : List (Str × D)) : D → EM
  | .str z => ret (kvs.lookup z)
  | _ => fun _ => none
def mKd (kvs : List (Str × D)) (m : EM) : EM := bnd m (pur (kdK kvs))
theorem de_kdix {mg : Str → Option Value} {w : World} {x : Str} {p : Pos} {kvs : List (Str × D)} {te : TE} {m : EM} (g : GD K w mg x kvs) (h : DE K X W e te m) (hm : X.mg = mg := by rfl) (hw : X.w = w := by rfl) (hg : Gl X x := by rfl) (hd : (x == ("__debug__" : Str)) = false := by decide) (hs : PlainIx e := by exact fun _ _ => rfl) :
    DE K X W (.Subscript (.Name x p) e pos) (tOp (rIxD K w) (tC (.ref g.a)) te) (mKd kvs m) := by
  subst hm hw
  refine ⟨h.k, ?_, ⟨fun σ H s Z I r0 Q w rs e1 p1 => ?_⟩⟩
  · have q := pe_ix (X := X) (pos := pos) ix_kdict (pe_glob (v := .ref g.a) (pos := p) hg g.m rfl hd) h.pe hs
    rw [h.k] at q
    exact q
  · show te σ H _
    refine h.so.bnd w rs e1 p1.x fun d v M1 Z1 H1 I1 w1 rs1 x1 q1 e2 => ?_
    obtain ⟨d, rfl, e2⟩ := pur_ok e2
    cases d with
    | str z =>
      cases q1
      obtain ⟨c, hc, rfl⟩ := ret_ok (show ret (kvs.lookup z) ⟨s.l, M1⟩ = some r0 from e2)
      obtain ⟨v, hv, hr⟩ := g.at_ z c hc
      exact ⟨g.a, z, v, rfl, rfl, hv, p1 v Z1 H1 I1 w1 x1 (hr Z1)⟩
    | _ => cases e2
/-! ### dicts with keys ints and texts -/
def keyD : D → Option Key
  | .int i => some (.inl i)
  | .str x => some (.inr x)
  | _ => none
def valD (kvs : List (Key × D)) (k : Key) : Option D := (kvs.find? fun kv => decide (kv.1 = k)).map (·.2)
theorem val_rep {Z : Hp} : ∀ {ks : List (Key × V)} {ds : List (Key × D)} (k : Key), RepK K Z ks ds → (valV ks k = none ∧ valD ds k = none) ∨ ∃ v d, valV ks k = some v ∧ valD ds k = some d ∧ Rep K Z v d
  | _, _, k, .nil => .inl ⟨rfl, rfl⟩
  | _, _, k, .cons (k := k0) (v := v) (vs := vs) (d := d) (ds := ds) h r => by
    by_cases q : k0 = k
    · exact .inr ⟨v, d, by simp [valV, q], by simp [valD, q], h⟩
    · have e1 : valV ((k0, v) :: vs) k = valV vs k := by simp [valV, q]
      have e2 : valD ((k0, d) :: ds) k = valD ds k := by simp [valD, q]
      rw [e1, e2]
      exact val_rep k r
theorem key_rep {Z : Hp} {v : V} {d : D} {k : Key} (h : Rep K Z v d) (e : keyD d = some k) : v = kV k := by
  unfold keyD at e
  split at e
  · cases h; cases e; rfl
  · cases h; cases e; rfl
  · cases e
def getD (d k : D) : Option (Option D) := match d with
  | .dK kvs => (keyD k).map (valD kvs)
  | _ => none
theorem get_ok {Z H : Hp} {x y : V} {d k : D} {o : Option D} (s : Same Z H) (hx : Rep K Z x d) (hy : Rep K Z y k) (e : getD d k = some o) : ∃ a r, x = .ref a ∧ DGet H a y r ∧ ((r = none ∧ o = none) ∨ ∃ v c, r = some v ∧ o = some c ∧ Rep K Z v c) := by
  unfold getD at e
  split at e
  · rename_i kvs
    cases q : keyD k with
    | none => rw [q] at e; cases e
    | some kk =>
      rw [q] at e; cases e
      cases hx with
      | dK h1 h2 =>
        refine ⟨_, _, rfl, .inl ⟨_, kk, .inl (s _ _ h1), key_rep hy q, rfl⟩, ?_⟩
        rcases val_rep kk h2 with ⟨a, b⟩ | ⟨v, c, a, b, r⟩
        · exact .inl ⟨a, b⟩
        · exact .inr ⟨v, c, a, b, r⟩
  · cases e
def dGetI (d k : D) : Option D := match getD d k with
  | some (some c) => some c
  | _ => none
theorem de_dget (hu : X.A.units + 1 < cLine) {td ty : TE} {m n : EM} (ha : DE K X W a td m) (hb : DE K X W b ty n) (hs : NoSl b := by exact fun _ _ => rfl) : DE K X W (.Subscript a b pos) (tDGet td ty) (mBin dGetI m n) := by
  refine ⟨ha.k, pe_dget hu ha.pe hb.pe hs, ⟨fun σ H s Z I r0 Q w rs e p => ?_⟩⟩
  refine ha.so.bnd w rs e p.x fun d v M1 Z1 H1 I1 w1 rs1 x1 q1 e1 => ?_
  obtain ⟨d, rfl, e1⟩ := pur_ok e1
  have p1 := p.mono x1
  refine hb.so.bnd (s := ⟨s.l, M1⟩) w1 rs1 e1 p1.x fun d2 v2 M2 Z2 H2 I2 w2 rs2 x2 q2 e2 => ?_
  obtain ⟨d2, rfl, e2⟩ := pur_ok e2
  obtain ⟨c, hc, rfl⟩ := ret_ok e2
  unfold dGetI at hc
  cases z : getD d d2 with
  | none => rw [z] at hc; cases hc
  | some o =>
    rw [z] at hc
    obtain ⟨ad, r, ex, g, k⟩ := get_ok w2.sub (Rep.mono x2.z q1) q2 z
    rcases k with ⟨_, rfl⟩ | ⟨u, c', rfl, rfl, hr⟩
    · cases hc
    · cases hc
      exact ⟨ad, u, ex, g, (p1.mono x2) u Z2 H2 I2 w2 Ext.refl hr⟩
end
end DL
namespace DL
open PySem L2
section
variable {K : PySem.W.Frag} {X : Cx} {W : WX} {pos : Pos}
theorem units1 {k : Nat} {A : Around} (r : Room k A) : A.units + 1 < cLine := by have := r.un; omega
theorem lk_nil {P : Str → D → Prop} : ∀ z e, List.lookup z ([] : List (Str × D)) = some e → P z e := fun z e h => by cases h
theorem lk_cons {P : Str → D → Prop} {k : Str} {d : D} {r : List (Str × D)} (h : P k d) (hr : ∀ z e, List.lookup z r = some e → P z e) : ∀ z e, List.lookup z ((k, d) :: r) = some e → P z e := fun z e q => by
  rw [List.lookup_cons] at q
  cases b : z == k with
  | true =>
    rw [b] at q
    cases q
    have e1 : z = k := by simpa using b
    rw [e1]; exact h
  | false => rw [b] at q; exact hr z e q
/-- {k: v, ..} of constants -/
theorem de_dictC {keys : List (Option Expr)} {values : List Expr} {trs : List (TE × TE)} {kvs : List (Key × V)} {ds : List (Key × D)} (h : PPs X pos keys values trs) (ht : ∀ (σ : St) (H : Hp) (Q : List (V × V) → Hp → Prop), Q (kvs.map fun kv => (kV kv.1, kv.2)) H → tPairs trs σ H Q) (hr : ∀ Z, RepK K Z kvs ds)
    (hm : mergeK [] kvs = kvs) (h15' : kvs.length ≤ 15) (hall : keys.all (·.isSome) = true := by rfl) (hl : keys.length = values.length := by rfl) (h0 : keys ≠ [] := by exact List.cons_ne_nil _ _) (h15 : keys.length ≤ 15 := by decide) (k : X.K = K := by rfl) : DE K X W (.Dict keys values pos) (tDisp trs) (mC (.dK ds)) :=
  ⟨k, pe_disp h hall hl h0 h15, ⟨fun σ H s Z I r Q w rs e p => by
    obtain rfl := Option.some.inj e
    intro l hp
    refine ht σ _ _ ⟨upd_same, kvs, rfl, h15', ?_⟩
    rw [hm]
    have e2 : upd (upd H l (.dK [])) l (.dK kvs) = upd H l (.dK kvs) := by
      funext b
      by_cases q : b = l
      · subst q; rw [upd_same, upd_same]
      · rw [upd_ne q, upd_ne q, upd_ne q]
    rw [e2]
    have y := ExtP.new (o := .dK kvs) w.sub hp
    exact p _ _ _ I (w.extP y) (y.ext w) (show Rep K (upd Z l (.dK kvs)) (.ref l) (.dK ds) from .dK upd_same (hr _))⟩⟩
end
end DL
namespace Law
open PySem L2 DL
def topS (i : Nat) : Stmt := PySem.Challenge.pw_labelgrid_k09_operators_on_values.main.body.getD i (.Pass ⟨0, 0, 0, 0⟩)
def k_MOST : D := (.int 1000000000000000)
def k_UNIT : D := (.int 10000)
def k_WRONG_VALUE : D := (.tup [(.str (PySem.Str.ofString "error")), (.str (PySem.Str.ofString "value"))])
def k_PLACES : D := (.int 4)
def k_LONGEST_TEXT : D := (.int 60)
def kd_BLANKS : List (Str × D) := [((PySem.Str.ofString "num"), (.int 0)), ((PySem.Str.ofString "text"), (.str (PySem.Str.ofString ""))), ((PySem.Str.ofString "bool"), (.bl false))]
def b_l_as_number : SM := (sSeq (sIf (mIsN (mVar 0)) (sRet (mC (.int 0))) sNil)
  (sSeq (sIf (mBin dEq (mIx (mVar 0) (mC (.int 0))) (mC (.str (PySem.Str.ofString "num")))) (sRet (mIx (mVar 0) (mC (.int 1)))) sNil)
  (sRet (mC .non))))
def m_l_as_number : MA := runA 1 b_l_as_number
def b_l_bad : SM := (sRet (mAnd (mNotN (mVar 0)) (mBin dEq (mIx (mVar 0) (mC (.int 0))) (mC (.str (PySem.Str.ofString "error"))))))
def m_l_bad : MA := runA 1 b_l_bad
def b_l_minus : SM := (sSeq (sIf (mTru (mCallA 1 m_l_bad (aCons (mVar 0) aNil))) (sRet (mVar 0)) sNil)
  (sSeq (sAsg (mCallA 1 m_l_as_number (aCons (mVar 0) aNil)) (gN 1))
  (sSeq (sIf (mIsN (mVar 1)) (sRet (disp .tup (aCons (mC (.str (PySem.Str.ofString "error"))) (aCons (mC (.str (PySem.Str.ofString "value"))) aNil)))) sNil)
  (sRet (disp .tup (aCons (mC (.str (PySem.Str.ofString "num"))) (aCons (mBin dSub (mC (.int 0)) (mVar 1)) aNil)))))))
def m_l_minus : MA := runA 2 b_l_minus
def b_l_decimal_6 : SM := (sRet (mBin dAdd (mIx (disp .lst (aCons (mC (.str (PySem.Str.ofString ""))) (aCons (mC (.str (PySem.Str.ofString "-"))) aNil))) (mCB (g1 dInt) (aCons (mBin dLt (mVar 0) (mC (.int 0))) aNil))) (mVar 2)))
def b_l_decimal_5 : SM := (sSeq (sIf (mBin dNe (mVar 4) (mC (.str (PySem.Str.ofString "")))) (sAsg (mBin dAdd (mBin dAdd (mVar 2) (mC (.str (PySem.Str.ofString ".")))) (mVar 4)) (gN 2)) sNil) b_l_decimal_6)
def b_l_decimal_4 : SM := (sSeq (sFor (mRng rng1D (aCons (mC (.int 4)) aNil)) (gN 3) (sIf (mAnd (mBin dNe (mVar 4) (mC (.str (PySem.Str.ofString "")))) (mBin dEq (mIx (mVar 4) (mBin dSub (mCB dLen (aCons (mVar 4) aNil)) (mC (.int 1)))) (mC (.str (PySem.Str.ofString "0"))))) (sAsg (mSlE (mVar 4) pNone (pSome (mBin dSub (mCB dLen (aCons (mVar 4) aNil)) (mC (.int 1))))) (gN 4)) sNil)) b_l_decimal_5)
def b_l_decimal_3 : SM := (sSeq (sAsg (mSlE (mVar 1) (pSome (mBin dSub (mCB dLen (aCons (mVar 1) aNil)) (mC (.int 4)))) pNone) (gN 4)) b_l_decimal_4)
def b_l_decimal_2 : SM := (sSeq (sFor (mRng rng1D (aCons (mC (.int 4)) aNil)) (gN 3) (sIf (mAnd (mBin dGt (mCB dLen (aCons (mVar 2) aNil)) (mC (.int 1))) (mBin dEq (mIx (mVar 2) (mC (.int 0))) (mC (.str (PySem.Str.ofString "0"))))) (sAsg (mSlE (mVar 2) (pSome (mC (.int 1))) pNone) (gN 2)) sNil)) b_l_decimal_3)
def b_l_decimal_1 : SM := (sSeq (sAsg (mSlE (mVar 1) pNone (pSome (mBin dSub (mCB dLen (aCons (mVar 1) aNil)) (mC (.int 4))))) (gN 2)) b_l_decimal_2)
def b_l_decimal : SM := (sSeq (sAsg (mBin dAdd (mC (.str (PySem.Str.ofString "0000"))) (mCB (g1 dStr) (aCons (mCB (g1 dAbs) (aCons (mVar 0) aNil)) aNil))) (gN 1)) b_l_decimal_1)
def m_l_decimal : MA := runA 5 b_l_decimal
def b_l_as_text : SM := (sSeq (sIf (mIsN (mVar 0)) (sRet (mC (.str (PySem.Str.ofString "")))) sNil)
  (sSeq (sIf (mBin dEq (mIx (mVar 0) (mC (.int 0))) (mC (.str (PySem.Str.ofString "num")))) (sRet (mCallA 1 m_l_decimal (aCons (mIx (mVar 0) (mC (.int 1))) aNil))) sNil)
  (sSeq (sIf (mBin dEq (mIx (mVar 0) (mC (.int 0))) (mC (.str (PySem.Str.ofString "bool")))) (sRet (mIx (disp .lst (aCons (mC (.str (PySem.Str.ofString "FALSE"))) (aCons (mC (.str (PySem.Str.ofString "TRUE"))) aNil))) (mCB (g1 dInt) (aCons (mIx (mVar 0) (mC (.int 1))) aNil)))) sNil)
  (sRet (mIx (mVar 0) (mC (.int 1)))))))
def m_l_as_text : MA := runA 1 b_l_as_text
def b_l_fits : SM := (sSeq (sIf (mBin dGt (mCB (g1 dAbs) (aCons (mVar 0) aNil)) (mC (.int 1000000000000000))) (sRet (disp .tup (aCons (mC (.str (PySem.Str.ofString "error"))) (aCons (mC (.str (PySem.Str.ofString "range"))) aNil)))) sNil)
  (sRet (disp .tup (aCons (mC (.str (PySem.Str.ofString "num"))) (aCons (mVar 0) aNil)))))
def m_l_fits : MA := runA 1 b_l_fits
def b_l_joined : SM := (sSeq (sIf (mBin dGt (mCB dLen (aCons (mVar 0) aNil)) (mC (.int 60))) (sRet (disp .tup (aCons (mC (.str (PySem.Str.ofString "error"))) (aCons (mC (.str (PySem.Str.ofString "range"))) aNil)))) sNil)
  (sRet (disp .tup (aCons (mC (.str (PySem.Str.ofString "text"))) (aCons (mVar 0) aNil)))))
def m_l_joined : MA := runA 1 b_l_joined
def b_l_less : SM := (sSeq (sAsg (mC (.dK [((.inr (PySem.Str.ofString "num")), (.int 0)), ((.inr (PySem.Str.ofString "text")), (.str (PySem.Str.ofString ""))), ((.inr (PySem.Str.ofString "bool")), (.bl false))])) (gN 3))
  (sSeq (sIf (mAnd (mIsN (mVar 1)) (mIsN (mVar 2))) (sRet (disp .tup (aCons (mC (.str (PySem.Str.ofString "bool"))) (aCons (mBin dEq (mVar 0) (mC (.str (PySem.Str.ofString "<=")))) aNil)))) sNil)
  (sSeq (sIf (mIsN (mVar 1)) (sAsg (disp .tup (aCons (mIx (mVar 2) (mC (.int 0))) (aCons (mBin dGetI (mVar 3) (mIx (mVar 2) (mC (.int 0)))) aNil))) (gN 1)) sNil)
  (sSeq (sIf (mIsN (mVar 2)) (sAsg (disp .tup (aCons (mIx (mVar 1) (mC (.int 0))) (aCons (mBin dGetI (mVar 3) (mIx (mVar 1) (mC (.int 0)))) aNil))) (gN 2)) sNil)
  (sSeq (sIf (mBin dNe (mIx (mVar 1) (mC (.int 0))) (mIx (mVar 2) (mC (.int 0)))) (sRet (disp .tup (aCons (mC (.str (PySem.Str.ofString "error"))) (aCons (mC (.str (PySem.Str.ofString "value"))) aNil)))) sNil)
  (sRet (disp .tup (aCons (mC (.str (PySem.Str.ofString "bool"))) (aCons (mOr (mBin dLt2 (mIx (mVar 1) (mC (.int 1))) (mIx (mVar 2) (mC (.int 1)))) (mAnd (mBin dEq (mVar 0) (mC (.str (PySem.Str.ofString "<=")))) (mBin dEq (mIx (mVar 1) (mC (.int 1))) (mIx (mVar 2) (mC (.int 1)))))) aNil)))))))))
def m_l_less : MA := runA 4 b_l_less
def b_l_quotient : SM := (sSeq (sAsg (mC (.int 1)) (gN 2))
  (sSeq (sIf (mBin dNe (mBin dLt (mVar 0) (mC (.int 0))) (mBin dLt (mVar 1) (mC (.int 0)))) (sAsg (mUn dNeg (mC (.int 1))) (gN 2)) sNil)
  (sSeq (sPar 0 1 (aCons (mCB (g1 dAbs) (aCons (mVar 0) aNil)) (aCons (mCB (g1 dAbs) (aCons (mVar 1) aNil)) aNil)))
  (sSeq (sAsg (mBin dDiv (mVar 0) (mVar 1)) (gN 3))
  (sSeq (sIf (mBin dGe (mBin dMul (mC (.int 2)) (mBin dSub (mVar 0) (mBin dMul (mVar 3) (mVar 1)))) (mVar 1)) (sAsg (mBin dAdd (mVar 3) (mC (.int 1))) (gN 3)) sNil)
  (sRet (mBin dMul (mVar 2) (mVar 3))))))))
def m_l_quotient : MA := runA 4 b_l_quotient
def b_l_operated : SM := (sSeq (sIf (mTru (mCallA 1 m_l_bad (aCons (mVar 1) aNil))) (sRet (mVar 1)) sNil)
  (sSeq (sIf (mTru (mCallA 1 m_l_bad (aCons (mVar 2) aNil))) (sRet (mVar 2)) sNil)
  (sSeq (sIf (mBin dEq (mVar 0) (mC (.str (PySem.Str.ofString "&")))) (sRet (mCallA 1 m_l_joined (aCons (mBin dAdd (mCallA 1 m_l_as_text (aCons (mVar 1) aNil)) (mCallA 1 m_l_as_text (aCons (mVar 2) aNil))) aNil))) sNil)
  (sSeq (sIf (mBin dIn (mVar 0) (disp .lst (aCons (mC (.str (PySem.Str.ofString "="))) (aCons (mC (.str (PySem.Str.ofString "!="))) aNil)))) (sRet (disp .tup (aCons (mC (.str (PySem.Str.ofString "bool"))) (aCons (mBin dEq (mBin dEq (mVar 1) (mVar 2)) (mBin dEq (mVar 0) (mC (.str (PySem.Str.ofString "="))))) aNil)))) sNil)
  (sSeq (sIf (mBin dIn (mVar 0) (disp .lst (aCons (mC (.str (PySem.Str.ofString "<"))) (aCons (mC (.str (PySem.Str.ofString "<="))) aNil)))) (sRet (mCallA 3 m_l_less (aCons (mVar 0) (aCons (mVar 1) (aCons (mVar 2) aNil))))) sNil)
  (sSeq (sPar 3 4 (aCons (mCallA 1 m_l_as_number (aCons (mVar 1) aNil)) (aCons (mCallA 1 m_l_as_number (aCons (mVar 2) aNil)) aNil)))
  (sSeq (sIf (mOr (mIsN (mVar 3)) (mIsN (mVar 4))) (sRet (disp .tup (aCons (mC (.str (PySem.Str.ofString "error"))) (aCons (mC (.str (PySem.Str.ofString "value"))) aNil)))) sNil)
  (sSeq (sIf (mBin dEq (mVar 0) (mC (.str (PySem.Str.ofString "+")))) (sRet (mCallA 1 m_l_fits (aCons (mBin dAdd (mVar 3) (mVar 4)) aNil))) sNil)
  (sSeq (sIf (mBin dEq (mVar 0) (mC (.str (PySem.Str.ofString "-")))) (sRet (mCallA 1 m_l_fits (aCons (mBin dSub (mVar 3) (mVar 4)) aNil))) sNil)
  (sSeq (sIf (mBin dEq (mVar 0) (mC (.str (PySem.Str.ofString "*")))) (sRet (mCallA 1 m_l_fits (aCons (mCallA 2 m_l_quotient (aCons (mBin dMul (mVar 3) (mVar 4)) (aCons (mC (.int 10000)) aNil))) aNil))) sNil)
  (sSeq (sIf (mBin dEq (mVar 4) (mC (.int 0))) (sRet (disp .tup (aCons (mC (.str (PySem.Str.ofString "error"))) (aCons (mC (.str (PySem.Str.ofString "zero"))) aNil)))) sNil)
  (sRet (mCallA 1 m_l_fits (aCons (mCallA 2 m_l_quotient (aCons (mBin dMul (mVar 3) (mC (.int 10000))) (aCons (mVar 4) aNil))) aNil))))))))))))))
def m_l_operated : MA := runA 5 b_l_operated
def b_l_state : SM := (sSeq (sAsg (mLcO (mItD itL (mSlE (mVar 0) pNone (pSome (mC (.int 63))))) [2] (gN 2) tYesM (mCB (g1 dAbs) (aCons (mVar 2) aNil))) (gN 1))
  (sSeq (sIf (mBin dEq (mCB dLen (aCons (mVar 1) aNil)) (mC (.int 0))) (sAsg (dispO (aCons (mC (.int 0)) aNil)) (gN 1)) sNil)
  (sRet (dispO (aCons (mC (.int 0)) (aCons (mVar 1) aNil))))))
def m_l_state : List DV → List O → Option (Rs DV) := runB 3 b_l_state
def b_l_take : SM := (sSeq (sIf (mBin dLt (mVar 1) (mC (.int 1))) (sRet (mC (.int 0))) sNil)
  (sSeq (sAsg (mIx (mVar 0) (mC (.int 1))) (gN 2))
  (sSeq (sAsg (mBin dMod (mIx (mVar 0) (mC (.int 0))) (mCB dLen (aCons (mVar 2) aNil))) (gN 3))
  (sSeq (sAsg (mIx (mVar 2) (mVar 3)) (gN 4))
  (sSeq (sIf (mBin dGe (mVar 4) (mC (.int 1000000000000000000))) (sSeq (sAsg (mBin dDiv (mVar 4) (mVar 1)) (gSet (mVar 2) (mVar 3)))
  (sRet (mBin dMod (mVar 4) (mVar 1)))) sNil)
  (sSeq (sAsg (mBin dAdd (mIx (mVar 0) (mC (.int 0))) (mC (.int 1))) (gSet (mVar 0) (mC (.int 0))))
  (sSeq (sAsg (mBin dMod (mCB (g1 dInt) (aCons (mBin dAdd (mBin dMul (mVar 4) (mC (.int 48271))) (mBin dMul (mIx (mVar 0) (mC (.int 0))) (mC (.int 69621)))) aNil)) (mC (.int 2147483647))) (gN 5))
  (sSeq (sAsg (mBin dMod (mCB (g1 dInt) (aCons (mBin dAdd (mBin dMul (mVar 5) (mC (.int 16807))) (mBin dMul (mIx (mVar 0) (mC (.int 0))) (mC (.int 7919)))) aNil)) (mC (.int 1000000007))) (gN 5))
  (sRet (mBin dMod (mBin dDiv (mVar 5) (mC (.int 7))) (mVar 1)))))))))))
def m_l_take : List DV → List O → Option (Rs DV) := runB 6 b_l_take
def b_l_value : SM := (sSeq (sAsg (mCallB 2 m_l_take (aCons (mVar 0) (aCons (mC (.int 9)) aNil))) (gN 1))
  (sSeq (sIf (mBin dEq (mVar 1) (mC (.int 0))) (sRet (mC .non)) sNil)
  (sSeq (sIf (mBin dLt (mVar 1) (mC (.int 4))) (sRet (disp .tup (aCons (mC (.str (PySem.Str.ofString "num"))) (aCons (mIx (disp .lst (aCons (mC (.int 0)) (aCons (mC (.int 10000)) (aCons (mUn dNeg (mC (.int 10000))) (aCons (mC (.int 25000)) (aCons (mC (.int 1)) (aCons (mUn dNeg (mC (.int 1))) (aCons (mC (.int 1000000000000000)) (aCons (mUn dNeg (mC (.int 1000000000000000))) (aCons (mC (.int 30000)) (aCons (mC (.int 100000)) aNil))))))))))) (mCallB 2 m_l_take (aCons (mVar 0) (aCons (mC (.int 10)) aNil)))) aNil)))) sNil)
  (sSeq (sIf (mBin dEq (mVar 1) (mC (.int 4))) (sRet (disp .tup (aCons (mC (.str (PySem.Str.ofString "num"))) (aCons (mBin dSub (mCallB 2 m_l_take (aCons (mVar 0) (aCons (mC (.int 200000)) aNil))) (mC (.int 100000))) aNil)))) sNil)
  (sSeq (sIf (mBin dLt (mVar 1) (mC (.int 7))) (sRet (disp .tup (aCons (mC (.str (PySem.Str.ofString "text"))) (aCons (mIx (disp .lst (aCons (mC (.str (PySem.Str.ofString ""))) (aCons (mC (.str (PySem.Str.ofString "a"))) (aCons (mC (.str (PySem.Str.ofString "b"))) (aCons (mC (.str (PySem.Str.ofString "ab"))) (aCons (mC (.str (PySem.Str.ofString "TRUE"))) (aCons (mC (.str (PySem.Str.ofString "1"))) (aCons (mBin dMulS (mC (.str (PySem.Str.ofString "z"))) (mC (.int 60))) (aCons (mC (.str (PySem.Str.ofString "B"))) (aCons (mBin dMulS (mC (.str (PySem.Str.ofString "x"))) (mC (.int 30))) aNil)))))))))) (mCallB 2 m_l_take (aCons (mVar 0) (aCons (mC (.int 9)) aNil)))) aNil)))) sNil)
  (sSeq (sIf (mBin dEq (mVar 1) (mC (.int 7))) (sRet (disp .tup (aCons (mC (.str (PySem.Str.ofString "bool"))) (aCons (mBin dEq (mCallB 2 m_l_take (aCons (mVar 0) (aCons (mC (.int 2)) aNil))) (mC (.int 0))) aNil)))) sNil)
  (sRet (disp .tup (aCons (mC (.str (PySem.Str.ofString "error"))) (aCons (mIx (disp .lst (aCons (mC (.str (PySem.Str.ofString "value"))) (aCons (mC (.str (PySem.Str.ofString "zero"))) (aCons (mC (.str (PySem.Str.ofString "range"))) (aCons (mC (.str (PySem.Str.ofString "name"))) (aCons (mC (.str (PySem.Str.ofString "cycle"))) aNil)))))) (mCallB 2 m_l_take (aCons (mVar 0) (aCons (mC (.int 5)) aNil)))) aNil))))))))))
def m_l_value : List DV → List O → Option (Rs DV) := runB 2 b_l_value
def b_number_value : SM := (sSeq (sIf (mChain dLe dLe (mUn dNeg (mC k_MOST)) (mVar 0) (mC k_MOST)) (sRet (disp .tup (aCons (mC (.str (PySem.Str.ofString "num"))) (aCons (mVar 0) aNil)))) sNil)
  (sRet (disp .tup (aCons (mC (.str (PySem.Str.ofString "error"))) (aCons (mC (.str (PySem.Str.ofString "range"))) aNil)))))
def m_number_value : MA := runA 1 b_number_value
def b_add : SM := (sRet (mCallA 1 m_number_value (aCons (mBin dAdd (mVar 0) (mVar 1)) aNil)))
def m_add : MA := runA 2 b_add
def b_rounded : SM := (sSeq (sIf (mBin dLt (mVar 0) (mC (.int 0))) (sRet (mUn dNeg (mBin dDiv (mBin dSub (mVar 1) (mBin dMul (mC (.int 2)) (mVar 0))) (mBin dMul (mC (.int 2)) (mVar 1))))) sNil)
  (sRet (mBin dDiv (mBin dAdd (mVar 1) (mBin dMul (mC (.int 2)) (mVar 0))) (mBin dMul (mC (.int 2)) (mVar 1)))))
def m_rounded : MA := runA 2 b_rounded
def b_over : SM := (sSeq (sIf (mBin dEq (mVar 1) (mC (.int 0))) (sRet (disp .tup (aCons (mC (.str (PySem.Str.ofString "error"))) (aCons (mC (.str (PySem.Str.ofString "zero"))) aNil)))) sNil)
  (sSeq (sIf (mBin dLt (mVar 1) (mC (.int 0))) (sRet (mCallA 1 m_number_value (aCons (mCallA 2 m_rounded (aCons (mBin dMul (mUn dNeg (mVar 0)) (mC k_UNIT)) (aCons (mUn dNeg (mVar 1)) aNil))) aNil))) sNil)
  (sRet (mCallA 1 m_number_value (aCons (mCallA 2 m_rounded (aCons (mBin dMul (mVar 0) (mC k_UNIT)) (aCons (mVar 1) aNil))) aNil)))))
def m_over : MA := runA 2 b_over
def b_times : SM := (sRet (mCallA 1 m_number_value (aCons (mCallA 2 m_rounded (aCons (mBin dMul (mVar 0) (mVar 1)) (aCons (mC k_UNIT) aNil))) aNil)))
def m_times : MA := runA 2 b_times
def b_calculated : SM := (sSeq (sIf (mOr (mIsN (mVar 1)) (mIsN (mVar 2))) (sRet (mC k_WRONG_VALUE)) sNil)
  (sSeq (sIf (mBin dEq (mVar 0) (mC (.str (PySem.Str.ofString "+")))) (sRet (mCallA 2 m_add (aCons (mVar 1) (aCons (mVar 2) aNil)))) sNil)
  (sSeq (sIf (mBin dEq (mVar 0) (mC (.str (PySem.Str.ofString "-")))) (sRet (mCallA 2 m_add (aCons (mVar 1) (aCons (mUn dNeg (mVar 2)) aNil)))) sNil)
  (sSeq (sIf (mBin dEq (mVar 0) (mC (.str (PySem.Str.ofString "*")))) (sRet (mCallA 2 m_times (aCons (mVar 1) (aCons (mVar 2) aNil)))) sNil)
  (sRet (mCallA 2 m_over (aCons (mVar 1) (aCons (mVar 2) aNil))))))))
def m_calculated : MA := runA 3 b_calculated
def b_beside : SM := (sSeq (sIf (mIsN (mVar 0)) (sRet (disp .tup (aCons (mIx (mVar 1) (mC (.int 0))) (aCons (mKd kd_BLANKS (mIx (mVar 1) (mC (.int 0)))) aNil)))) sNil)
  (sRet (mVar 0)))
def m_beside : MA := runA 2 b_beside
def b_compared : SM := (sSeq (sIf (mAnd (mIsN (mVar 1)) (mIsN (mVar 2))) (sRet (disp .tup (aCons (mC (.str (PySem.Str.ofString "bool"))) (aCons (mBin dEq (mVar 0) (mC (.str (PySem.Str.ofString "<=")))) aNil)))) sNil)
  (sSeq (sAsg (mCallA 2 m_beside (aCons (mVar 1) (aCons (mVar 2) aNil))) (gN 3))
  (sSeq (sAsg (mCallA 2 m_beside (aCons (mVar 2) (aCons (mVar 1) aNil))) (gN 4))
  (sSeq (sIf (mBin dNe (mIx (mVar 3) (mC (.int 0))) (mIx (mVar 4) (mC (.int 0)))) (sRet (mC k_WRONG_VALUE)) sNil)
  (sSeq (sIf (mBin dEq (mVar 0) (mC (.str (PySem.Str.ofString "<")))) (sRet (disp .tup (aCons (mC (.str (PySem.Str.ofString "bool"))) (aCons (mBin dLt2 (mIx (mVar 3) (mC (.int 1))) (mIx (mVar 4) (mC (.int 1)))) aNil)))) sNil)
  (sRet (disp .tup (aCons (mC (.str (PySem.Str.ofString "bool"))) (aCons (mBin dLe2 (mIx (mVar 3) (mC (.int 1))) (mIx (mVar 4) (mC (.int 1)))) aNil)))))))))
def m_compared : MA := runA 5 b_compared
def b_is_error : SM := (sRet (mAnd (mNotN (mVar 0)) (mBin dEq (mIx (mVar 0) (mC (.int 0))) (mC (.str (PySem.Str.ofString "error"))))))
def m_is_error : MA := runA 1 b_is_error
def b_number_in : SM := (sSeq (sIf (mIsN (mVar 0)) (sRet (mC (.int 0))) sNil)
  (sRet (mIf (mBin dEq (mIx (mVar 0) (mC (.int 0))) (mC (.str (PySem.Str.ofString "num")))) (mIx (mVar 0) (mC (.int 1))) (mC .non))))
def m_number_in : MA := runA 1 b_number_in
def b_show_number_4 : SM := (sRet (mJoined (jCons (mFmt (mVar 1)) (jCons (mFmt (mVar 2)) (jCons (mC (.str (PySem.Str.ofString "."))) (jCons (mFmt (mVar 3)) jNil))))))
def b_show_number_3 : SM := (sSeq (sIf (mBin dEq (mVar 3) (mC (.str (PySem.Str.ofString "")))) (sRet (mJoined (jCons (mFmt (mVar 1)) (jCons (mFmt (mVar 2)) jNil)))) sNil) b_show_number_4)
def b_show_number_2 : SM := (sSeq (sAsg (mMth "str" (gP dRstrip) (mMth "str" (gP dZfill) (mCB (g1 dStr) (aCons (mBin dMod (mCB (g1 dAbs) (aCons (mVar 0) aNil)) (mC k_UNIT)) aNil)) (aCons (mC k_PLACES) aNil)) (aCons (mC (.str (PySem.Str.ofString "0"))) aNil)) (gN 3)) b_show_number_3)
def b_show_number_1 : SM := (sSeq (sAsg (mBin dDiv (mCB (g1 dAbs) (aCons (mVar 0) aNil)) (mC k_UNIT)) (gN 2)) b_show_number_2)
def b_show_number : SM := (sSeq (sAsg (mIf (mBin dLt (mVar 0) (mC (.int 0))) (mC (.str (PySem.Str.ofString "-"))) (mC (.str (PySem.Str.ofString "")))) (gN 1)) b_show_number_1)
def m_show_number : MA := runA 4 b_show_number
def b_text_in : SM := (sSeq (sIf (mIsN (mVar 0)) (sRet (mC (.str (PySem.Str.ofString "")))) sNil)
  (sSeq (sIf (mBin dEq (mIx (mVar 0) (mC (.int 0))) (mC (.str (PySem.Str.ofString "num")))) (sRet (mCallA 1 m_show_number (aCons (mIx (mVar 0) (mC (.int 1))) aNil))) sNil)
  (sSeq (sIf (mBin dEq (mIx (mVar 0) (mC (.int 0))) (mC (.str (PySem.Str.ofString "bool")))) (sRet (mIf (mTru (mIx (mVar 0) (mC (.int 1)))) (mC (.str (PySem.Str.ofString "TRUE"))) (mC (.str (PySem.Str.ofString "FALSE"))))) sNil)
  (sRet (mIx (mVar 0) (mC (.int 1)))))))
def m_text_in : MA := runA 1 b_text_in
def b_text_value : SM := (sSeq (sIf (mBin dGt (mCB dLen (aCons (mVar 0) aNil)) (mC k_LONGEST_TEXT)) (sRet (disp .tup (aCons (mC (.str (PySem.Str.ofString "error"))) (aCons (mC (.str (PySem.Str.ofString "range"))) aNil)))) sNil)
  (sRet (disp .tup (aCons (mC (.str (PySem.Str.ofString "text"))) (aCons (mVar 0) aNil)))))
def m_text_value : MA := runA 1 b_text_value
def b_apply_operator : SM := (sSeq (sIf (mTru (mCallA 1 m_is_error (aCons (mVar 1) aNil))) (sRet (mVar 1)) sNil)
  (sSeq (sIf (mTru (mCallA 1 m_is_error (aCons (mVar 2) aNil))) (sRet (mVar 2)) sNil)
  (sSeq (sIf (mBin dEq (mVar 0) (mC (.str (PySem.Str.ofString "&")))) (sRet (mCallA 1 m_text_value (aCons (mBin dAdd (mCallA 1 m_text_in (aCons (mVar 1) aNil)) (mCallA 1 m_text_in (aCons (mVar 2) aNil))) aNil))) sNil)
  (sSeq (sIf (mBin dEq (mVar 0) (mC (.str (PySem.Str.ofString "=")))) (sRet (disp .tup (aCons (mC (.str (PySem.Str.ofString "bool"))) (aCons (mBin dEq (mVar 1) (mVar 2)) aNil)))) sNil)
  (sSeq (sIf (mBin dEq (mVar 0) (mC (.str (PySem.Str.ofString "!=")))) (sRet (disp .tup (aCons (mC (.str (PySem.Str.ofString "bool"))) (aCons (mBin dNe (mVar 1) (mVar 2)) aNil)))) sNil)
  (sSeq (sIf (mOr (mBin dEq (mVar 0) (mC (.str (PySem.Str.ofString "<")))) (mBin dEq (mVar 0) (mC (.str (PySem.Str.ofString "<="))))) (sRet (mCallA 3 m_compared (aCons (mVar 0) (aCons (mVar 1) (aCons (mVar 2) aNil))))) sNil)
  (sRet (mCallA 3 m_calculated (aCons (mVar 0) (aCons (mCallA 1 m_number_in (aCons (mVar 1) aNil)) (aCons (mCallA 1 m_number_in (aCons (mVar 2) aNil)) aNil)))))))))))
def m_apply_operator : MA := runA 3 b_apply_operator
def b_negated : SM := (sSeq (sIf (mTru (mCallA 1 m_is_error (aCons (mVar 0) aNil))) (sRet (mVar 0)) sNil)
  (sSeq (sAsg (mCallA 1 m_number_in (aCons (mVar 0) aNil)) (gN 1))
  (sRet (mIf (mIsN (mVar 1)) (mC k_WRONG_VALUE) (mCallA 1 m_number_value (aCons (mUn dNeg (mVar 1)) aNil))))))
def m_negated : MA := runA 2 b_negated
def b_law_2 : SM := (sRet (mC (.bl true)))
def b_law_1 : SM := (sSeq (sFor (mRng rng1D (aCons (mC (.int 4)) aNil)) (gN 2) (sSeq (sPar 3 4 (aCons (mCallB 1 m_l_value (aCons (mVar 1) aNil)) (aCons (mCallB 1 m_l_value (aCons (mVar 1) aNil)) aNil)))
  (sSeq (sIf (mBin dEq (mCallB 2 m_l_take (aCons (mVar 1) (aCons (mC (.int 4)) aNil))) (mC (.int 0))) (sAsg (mVar 3) (gN 4)) sNil)
  (sSeq (sFor (mItD itL (disp .lst (aCons (mC (.str (PySem.Str.ofString "+"))) (aCons (mC (.str (PySem.Str.ofString "-"))) (aCons (mC (.str (PySem.Str.ofString "*"))) (aCons (mC (.str (PySem.Str.ofString "/"))) (aCons (mC (.str (PySem.Str.ofString "&"))) (aCons (mC (.str (PySem.Str.ofString "="))) (aCons (mC (.str (PySem.Str.ofString "!="))) (aCons (mC (.str (PySem.Str.ofString "<"))) (aCons (mC (.str (PySem.Str.ofString "<="))) aNil))))))))))) (gN 5) (sSeq (sAsg (mCallA 3 m_apply_operator (aCons (mVar 5) (aCons (mVar 3) (aCons (mVar 4) aNil)))) (gN 6))
  (sIf (mOr (mBin dNe (mVar 6) (mCallA 3 m_l_operated (aCons (mVar 5) (aCons (mVar 3) (aCons (mVar 4) aNil))))) (mBin dNe (mCB (g1 dRepr) (aCons (mVar 6) aNil)) (mCB (g1 dRepr) (aCons (mCallA 3 m_l_operated (aCons (mVar 5) (aCons (mVar 3) (aCons (mVar 4) aNil)))) aNil)))) (sRet (mC (.bl false))) sNil)))
  (sIf (mBin dNe (mCallA 1 m_negated (aCons (mVar 3) aNil)) (mCallA 1 m_l_minus (aCons (mVar 3) aNil))) (sRet (mC (.bl false))) sNil))))) b_law_2)
def b_law : SM := (sSeq (sAsg (mCallB 1 m_l_state (aCons (mVar 0) aNil)) (gN 1)) b_law_1)
def m_law : MA := runA 7 b_law
end Law
namespace Law
open PySem L2 DL
abbrev s_l_as_number : Stmt := topS 30
abbrev n_l_as_number : List Str := ["value"]
theorem sc_l_as_number : FnScope n_l_as_number ["value"] (defScope s_l_as_number) := ⟨rfl, rfl, rfl, by decide +kernel, rfl, by decide +kernel, by decide +kernel⟩
abbrev s_l_bad : Stmt := topS 29
abbrev n_l_bad : List Str := ["value"]
theorem sc_l_bad : FnScope n_l_bad ["value"] (defScope s_l_bad) := ⟨rfl, rfl, rfl, by decide +kernel, rfl, by decide +kernel, by decide +kernel⟩
abbrev s_l_minus : Stmt := topS 36
abbrev n_l_minus : List Str := ["value", "number"]
theorem sc_l_minus : FnScope n_l_minus ["value"] (defScope s_l_minus) := ⟨rfl, rfl, rfl, by decide +kernel, rfl, by decide +kernel, by decide +kernel⟩
abbrev s_l_decimal : Stmt := topS 31
abbrev n_l_decimal : List Str := ["number", "digits", "whole", "turn", "places"]
theorem sc_l_decimal : FnScope n_l_decimal ["number"] (defScope s_l_decimal) := ⟨rfl, rfl, rfl, by decide +kernel, rfl, by decide +kernel, by decide +kernel⟩
abbrev s_l_as_text : Stmt := topS 32
abbrev n_l_as_text : List Str := ["value"]
theorem sc_l_as_text : FnScope n_l_as_text ["value"] (defScope s_l_as_text) := ⟨rfl, rfl, rfl, by decide +kernel, rfl, by decide +kernel, by decide +kernel⟩
abbrev s_l_fits : Stmt := topS 28
abbrev n_l_fits : List Str := ["number"]
theorem sc_l_fits : FnScope n_l_fits ["number"] (defScope s_l_fits) := ⟨rfl, rfl, rfl, by decide +kernel, rfl, by decide +kernel, by decide +kernel⟩
abbrev s_l_joined : Stmt := topS 33
abbrev n_l_joined : List Str := ["text"]
theorem sc_l_joined : FnScope n_l_joined ["text"] (defScope s_l_joined) := ⟨rfl, rfl, rfl, by decide +kernel, rfl, by decide +kernel, by decide +kernel⟩
abbrev s_l_less : Stmt := topS 34
abbrev n_l_less : List Str := ["sign", "a", "b", "blank"]
theorem sc_l_less : FnScope n_l_less ["sign", "a", "b"] (defScope s_l_less) := ⟨rfl, rfl, rfl, by decide +kernel, rfl, by decide +kernel, by decide +kernel⟩
abbrev s_l_quotient : Stmt := topS 27
abbrev n_l_quotient : List Str := ["a", "b", "sign", "whole"]
theorem sc_l_quotient : FnScope n_l_quotient ["a", "b"] (defScope s_l_quotient) := ⟨rfl, rfl, rfl, by decide +kernel, rfl, by decide +kernel, by decide +kernel⟩
abbrev s_l_operated : Stmt := topS 35
abbrev n_l_operated : List Str := ["sign", "a", "b", "one", "two"]
theorem sc_l_operated : FnScope n_l_operated ["sign", "a", "b"] (defScope s_l_operated) := ⟨rfl, rfl, rfl, by decide +kernel, rfl, by decide +kernel, by decide +kernel⟩
abbrev s_l_state : Stmt := topS 24
abbrev n_l_state : List Str := ["script", "cells", "cell"]
theorem sc_l_state : FnScope n_l_state ["script"] (defScope s_l_state) := ⟨rfl, rfl, rfl, by decide +kernel, rfl, by decide +kernel, by decide +kernel⟩
abbrev s_l_take : Stmt := topS 25
abbrev n_l_take : List Str := ["state", "most", "cells", "at", "cell", "mixed"]
theorem sc_l_take : FnScope n_l_take ["state", "most"] (defScope s_l_take) := ⟨rfl, rfl, rfl, by decide +kernel, rfl, by decide +kernel, by decide +kernel⟩
abbrev s_l_value : Stmt := topS 26
abbrev n_l_value : List Str := ["state", "kind"]
theorem sc_l_value : FnScope n_l_value ["state"] (defScope s_l_value) := ⟨rfl, rfl, rfl, by decide +kernel, rfl, by decide +kernel, by decide +kernel⟩
abbrev s_number_value : Stmt := topS 5
abbrev n_number_value : List Str := ["n"]
theorem sc_number_value : FnScope n_number_value ["n"] (defScope s_number_value) := ⟨rfl, rfl, rfl, by decide +kernel, rfl, by decide +kernel, by decide +kernel⟩
abbrev s_add : Stmt := topS 6
abbrev n_add : List Str := ["a", "b"]
theorem sc_add : FnScope n_add ["a", "b"] (defScope s_add) := ⟨rfl, rfl, rfl, by decide +kernel, rfl, by decide +kernel, by decide +kernel⟩
abbrev s_rounded : Stmt := topS 4
abbrev n_rounded : List Str := ["a", "b"]
theorem sc_rounded : FnScope n_rounded ["a", "b"] (defScope s_rounded) := ⟨rfl, rfl, rfl, by decide +kernel, rfl, by decide +kernel, by decide +kernel⟩
abbrev s_over : Stmt := topS 8
abbrev n_over : List Str := ["a", "b"]
theorem sc_over : FnScope n_over ["a", "b"] (defScope s_over) := ⟨rfl, rfl, rfl, by decide +kernel, rfl, by decide +kernel, by decide +kernel⟩
abbrev s_times : Stmt := topS 7
abbrev n_times : List Str := ["a", "b"]
theorem sc_times : FnScope n_times ["a", "b"] (defScope s_times) := ⟨rfl, rfl, rfl, by decide +kernel, rfl, by decide +kernel, by decide +kernel⟩
abbrev s_calculated : Stmt := topS 19
abbrev n_calculated : List Str := ["sign", "a", "b"]
theorem sc_calculated : FnScope n_calculated ["sign", "a", "b"] (defScope s_calculated) := ⟨rfl, rfl, rfl, by decide +kernel, rfl, by decide +kernel, by decide +kernel⟩
abbrev s_beside : Stmt := topS 21
abbrev n_beside : List Str := ["value", "other"]
theorem sc_beside : FnScope n_beside ["value", "other"] (defScope s_beside) := ⟨rfl, rfl, rfl, by decide +kernel, rfl, by decide +kernel, by decide +kernel⟩
abbrev s_compared : Stmt := topS 20
abbrev n_compared : List Str := ["sign", "a", "b", "left", "right"]
theorem sc_compared : FnScope n_compared ["sign", "a", "b"] (defScope s_compared) := ⟨rfl, rfl, rfl, by decide +kernel, rfl, by decide +kernel, by decide +kernel⟩
abbrev s_is_error : Stmt := topS 14
abbrev n_is_error : List Str := ["value"]
theorem sc_is_error : FnScope n_is_error ["value"] (defScope s_is_error) := ⟨rfl, rfl, rfl, by decide +kernel, rfl, by decide +kernel, by decide +kernel⟩
abbrev s_number_in : Stmt := topS 15
abbrev n_number_in : List Str := ["value"]
theorem sc_number_in : FnScope n_number_in ["value"] (defScope s_number_in) := ⟨rfl, rfl, rfl, by decide +kernel, rfl, by decide +kernel, by decide +kernel⟩
abbrev s_show_number : Stmt := topS 9
abbrev n_show_number : List Str := ["n", "sign", "whole", "behind"]
theorem sc_show_number : FnScope n_show_number ["n"] (defScope s_show_number) := ⟨rfl, rfl, rfl, by decide +kernel, rfl, by decide +kernel, by decide +kernel⟩
abbrev s_text_in : Stmt := topS 16
abbrev n_text_in : List Str := ["value"]
theorem sc_text_in : FnScope n_text_in ["value"] (defScope s_text_in) := ⟨rfl, rfl, rfl, by decide +kernel, rfl, by decide +kernel, by decide +kernel⟩
abbrev s_text_value : Stmt := topS 17
abbrev n_text_value : List Str := ["text"]
theorem sc_text_value : FnScope n_text_value ["text"] (defScope s_text_value) := ⟨rfl, rfl, rfl, by decide +kernel, rfl, by decide +kernel, by decide +kernel⟩
abbrev s_apply_operator : Stmt := topS 18
abbrev n_apply_operator : List Str := ["sign", "a", "b"]
theorem sc_apply_operator : FnScope n_apply_operator ["sign", "a", "b"] (defScope s_apply_operator) := ⟨rfl, rfl, rfl, by decide +kernel, rfl, by decide +kernel, by decide +kernel⟩
abbrev s_negated : Stmt := topS 22
abbrev n_negated : List Str := ["value", "n"]
theorem sc_negated : FnScope n_negated ["value"] (defScope s_negated) := ⟨rfl, rfl, rfl, by decide +kernel, rfl, by decide +kernel, by decide +kernel⟩
abbrev s_law : Stmt := topS 44
abbrev n_law : List Str := ["script", "state", "turn", "a", "b", "sign", "told"]
theorem sc_law : FnScope n_law ["script"] (defScope s_law) := ⟨rfl, rfl, rfl, by decide +kernel, rfl, by decide +kernel, by decide +kernel⟩
structure Tx (K : PySem.W.Frag) (w : World) (mg : Str → Option Value) where
  f__law_as_number : Df K mg "_law_as_number" s_l_as_number ["value"]
  f__law_bad : Df K mg "_law_bad" s_l_bad ["value"]
  f__law_minus : Df K mg "_law_minus" s_l_minus ["value"]
  f__law_decimal : Df K mg "_law_decimal" s_l_decimal ["number"]
  f__law_as_text : Df K mg "_law_as_text" s_l_as_text ["value"]
  f__law_fits : Df K mg "_law_fits" s_l_fits ["number"]
  f__law_joined : Df K mg "_law_joined" s_l_joined ["text"]
  f__law_less : Df K mg "_law_less" s_l_less ["sign", "a", "b"]
  f__law_quotient : Df K mg "_law_quotient" s_l_quotient ["a", "b"]
  f__law_operated : Df K mg "_law_operated" s_l_operated ["sign", "a", "b"]
  f__law_state : Df K mg "_law_state" s_l_state ["script"]
  f__law_take : Df K mg "_law_take" s_l_take ["state", "most"]
  f__law_value : Df K mg "_law_value" s_l_value ["state"]
  f_number_value : Df K mg "number_value" s_number_value ["n"]
  f_add : Df K mg "add" s_add ["a", "b"]
  f_rounded : Df K mg "rounded" s_rounded ["a", "b"]
  f_over : Df K mg "over" s_over ["a", "b"]
  f_times : Df K mg "times" s_times ["a", "b"]
  f__calculated : Df K mg "_calculated" s_calculated ["sign", "a", "b"]
  f__beside : Df K mg "_beside" s_beside ["value", "other"]
  f__compared : Df K mg "_compared" s_compared ["sign", "a", "b"]
  f_is_error : Df K mg "is_error" s_is_error ["value"]
  f_number_in : Df K mg "number_in" s_number_in ["value"]
  f_show_number : Df K mg "show_number" s_show_number ["n"]
  f_text_in : Df K mg "text_in" s_text_in ["value"]
  f_text_value : Df K mg "text_value" s_text_value ["text"]
  f_apply_operator : Df K mg "apply_operator" s_apply_operator ["sign", "a", "b"]
  f_negated : Df K mg "negated" s_negated ["value"]
  f_law : Df K mg "law" s_law ["script"]
  c_MOST : GC K mg "MOST" k_MOST
  c_UNIT : GC K mg "UNIT" k_UNIT
  c_WRONG_VALUE : GC K mg "WRONG_VALUE" k_WRONG_VALUE
  c_PLACES : GC K mg "PLACES" k_PLACES
  c_LONGEST_TEXT : GC K mg "LONGEST_TEXT" k_LONGEST_TEXT
  d_BLANKS : GD K w mg "BLANKS" kd_BLANKS
  n_abs : mg "abs" = none
  n_int : mg "int" = none
  n_len : mg "len" = none
  n_range : mg "range" = none
  n_repr : mg "repr" = none
  n_str : mg "str" = none
section
variable {P : Program} {w : World} {K : PySem.W.Frag} {mg : Str → Option Value} {base : Heap}
theorem ok_l_as_number (T : Tx K w mg) : FnOk P w K mg base (L2.CX P w) 1 T.f__law_as_number.a T.f__law_as_number.fd ["value"] (spA K 1 m_l_as_number) := by
  refine fnA (N := n_l_as_number) T.f__law_as_number.F sc_l_as_number fun cdv A outer s H E hr => ?_
  have nd := sc_l_as_number.nd
  have tk := takes_of (X := cxOf (L2.CX P w) P w K mg base n_l_as_number "_law_as_number" (defScope s_l_as_number) T.f__law_as_number.a cdv A outer s H E) (E := E) rfl rfl rfl rfl
  exact ⟨_, (dss_cons (ds_if (dt_isN (de_var 0)) (dss_one (ds_ret de_int)) dss_nil)
  (dss_cons (ds_if (dt_cmp (od_eq hr.units) bool_dEq (de_ix (de_var 0) de_int) de_str) (dss_one (ds_ret (de_ix (de_var 0) de_int))) dss_nil)
  (dss_one (ds_ret de_non))))⟩
theorem ok_l_bad (T : Tx K w mg) : FnOk P w K mg base (L2.CX P w) 1 T.f__law_bad.a T.f__law_bad.fd ["value"] (spA K 1 m_l_bad) := by
  refine fnA (N := n_l_bad) T.f__law_bad.F sc_l_bad fun cdv A outer s H E hr => ?_
  have nd := sc_l_bad.nd
  have tk := takes_of (X := cxOf (L2.CX P w) P w K mg base n_l_bad "_law_bad" (defScope s_l_bad) T.f__law_bad.a cdv A outer s H E) (E := E) rfl rfl rfl rfl
  exact ⟨_, (dss_one (ds_ret (de_and (de_notN (de_var 0)) (de_one (de_cmp (od_eq hr.units) (de_ix (de_var 0) de_int) de_str)))))⟩
theorem ok_l_minus (T : Tx K w mg) : FnOk P w K mg base (L2.CX P w) 2 T.f__law_minus.a T.f__law_minus.fd ["value"] (spA K 1 m_l_minus) := by
  refine fnA (N := n_l_minus) T.f__law_minus.F sc_l_minus fun cdv A outer s H E hr => ?_
  have nd := sc_l_minus.nd
  have tk := takes_of (X := cxOf (L2.CX P w) P w K mg base n_l_minus "_law_minus" (defScope s_l_minus) T.f__law_minus.a cdv A outer s H E) (E := E) rfl rfl rfl rfl
  exact ⟨_, (dss_cons (ds_if (dt_tru (de_callA ((ok_l_bad T).mono (by decide)) hr tk T.f__law_bad.m T.f__law_bad.F.kp T.f__law_bad.b (da_cons (de_var 0) da_nil))) (dss_one (ds_ret (de_var 0))) dss_nil)
  (dss_cons (ds_set (i := 1) nd (de_callA ((ok_l_as_number T).mono (by decide)) hr tk T.f__law_as_number.m T.f__law_as_number.F.kp T.f__law_as_number.b (da_cons (de_var 0) da_nil)))
  (dss_cons (ds_if (dt_isN (de_var 1)) (dss_one (ds_ret (de_tup (da_cons de_str (da_cons de_str da_nil))))) dss_nil)
  (dss_one (ds_ret (de_tup (da_cons de_str (da_cons (de_bin od_sub de_int (de_var 1)) da_nil))))))))⟩
theorem ok_l_decimal (T : Tx K w mg) : FnOk P w K mg base (L2.CX P w) 1 T.f__law_decimal.a T.f__law_decimal.fd ["number"] (spA K 1 m_l_decimal) := by
  refine fnA (N := n_l_decimal) T.f__law_decimal.F sc_l_decimal fun cdv A outer s H E hr => ?_
  have nd := sc_l_decimal.nd
  have tk := takes_of (X := cxOf (L2.CX P w) P w K mg base n_l_decimal "_law_decimal" (defScope s_l_decimal) T.f__law_decimal.a cdv A outer s H E) (E := E) rfl rfl rfl rfl
  exact ⟨_, (dss_cons (ds_set (i := 1) nd (de_bin od_add de_str (de_callTy cd_str T.n_str (da_cons (de_callB cd_abs T.n_abs (da_cons (de_var 0) da_nil)) da_nil))))
  (dss_cons (ds_set (i := 2) nd (de_sl (de_var 1) dp_none (dp_some (de_bin od_sub (de_callB cd_len T.n_len (da_cons (de_var 1) da_nil)) de_int))))
  (dss_cons (ds_for (passes_of rfl) rfl (di_range1 T.n_range (da_cons de_int da_nil)) (dg_name (i := 3) nd) (dss_one (ds_if (dt_w (dw_and (dt_cmp od_gt bool_dIb (de_callB cd_len T.n_len (da_cons (de_var 2) da_nil)) de_int) (dw_and1 (dt_cmp (od_eq hr.units) bool_dEq (de_ix (de_var 2) de_int) de_str)))) (dss_one (ds_set (i := 2) nd (de_sl (de_var 2) (dp_some de_int) dp_none))) dss_nil)))
  (dss_cons (ds_set (i := 4) nd (de_sl (de_var 1) (dp_some (de_bin od_sub (de_callB cd_len T.n_len (da_cons (de_var 1) da_nil)) de_int)) dp_none))
  (dss_cons (ds_for (passes_of rfl) rfl (di_range1 T.n_range (da_cons de_int da_nil)) (dg_name (i := 3) nd) (dss_one (ds_if (dt_w (dw_and (dt_cmp (od_ne hr.units) bool_dNe (de_var 4) de_str) (dw_and1 (dt_cmp (od_eq hr.units) bool_dEq (de_ix (de_var 4) (de_bin od_sub (de_callB cd_len T.n_len (da_cons (de_var 4) da_nil)) de_int)) de_str)))) (dss_one (ds_set (i := 4) nd (de_sl (de_var 4) dp_none (dp_some (de_bin od_sub (de_callB cd_len T.n_len (da_cons (de_var 4) da_nil)) de_int))))) dss_nil)))
  (dss_cons (ds_if (dt_cmp (od_ne hr.units) bool_dNe (de_var 4) de_str) (dss_one (ds_set (i := 2) nd (de_bin od_add (de_bin od_add (de_var 2) de_str) (de_var 4)))) dss_nil)
  (dss_one (ds_ret (de_bin od_add (de_ix (de_lst (da_cons de_str (da_cons de_str da_nil))) (de_callTy cd_int T.n_int (da_cons (de_cmp od_lt (de_var 0) de_int) da_nil))) (de_var 2))))))))))⟩
theorem ok_l_as_text (T : Tx K w mg) : FnOk P w K mg base (L2.CX P w) 2 T.f__law_as_text.a T.f__law_as_text.fd ["value"] (spA K 1 m_l_as_text) := by
  refine fnA (N := n_l_as_text) T.f__law_as_text.F sc_l_as_text fun cdv A outer s H E hr => ?_
  have nd := sc_l_as_text.nd
  have tk := takes_of (X := cxOf (L2.CX P w) P w K mg base n_l_as_text "_law_as_text" (defScope s_l_as_text) T.f__law_as_text.a cdv A outer s H E) (E := E) rfl rfl rfl rfl
  exact ⟨_, (dss_cons (ds_if (dt_isN (de_var 0)) (dss_one (ds_ret de_str)) dss_nil)
  (dss_cons (ds_if (dt_cmp (od_eq hr.units) bool_dEq (de_ix (de_var 0) de_int) de_str) (dss_one (ds_ret (de_callA ((ok_l_decimal T).mono (by decide)) hr tk T.f__law_decimal.m T.f__law_decimal.F.kp T.f__law_decimal.b (da_cons (de_ix (de_var 0) de_int) da_nil)))) dss_nil)
  (dss_cons (ds_if (dt_cmp (od_eq hr.units) bool_dEq (de_ix (de_var 0) de_int) de_str) (dss_one (ds_ret (de_ix (de_lst (da_cons de_str (da_cons de_str da_nil))) (de_callTy cd_int T.n_int (da_cons (de_ix (de_var 0) de_int) da_nil))))) dss_nil)
  (dss_one (ds_ret (de_ix (de_var 0) de_int))))))⟩
theorem ok_l_fits (T : Tx K w mg) : FnOk P w K mg base (L2.CX P w) 1 T.f__law_fits.a T.f__law_fits.fd ["number"] (spA K 1 m_l_fits) := by
  refine fnA (N := n_l_fits) T.f__law_fits.F sc_l_fits fun cdv A outer s H E hr => ?_
  have nd := sc_l_fits.nd
  have tk := takes_of (X := cxOf (L2.CX P w) P w K mg base n_l_fits "_law_fits" (defScope s_l_fits) T.f__law_fits.a cdv A outer s H E) (E := E) rfl rfl rfl rfl
  exact ⟨_, (dss_cons (ds_if (dt_cmp od_gt bool_dIb (de_callB cd_abs T.n_abs (da_cons (de_var 0) da_nil)) de_int) (dss_one (ds_ret (de_tup (da_cons de_str (da_cons de_str da_nil))))) dss_nil)
  (dss_one (ds_ret (de_tup (da_cons de_str (da_cons (de_var 0) da_nil))))))⟩
theorem ok_l_joined (T : Tx K w mg) : FnOk P w K mg base (L2.CX P w) 1 T.f__law_joined.a T.f__law_joined.fd ["text"] (spA K 1 m_l_joined) := by
  refine fnA (N := n_l_joined) T.f__law_joined.F sc_l_joined fun cdv A outer s H E hr => ?_
  have nd := sc_l_joined.nd
  have tk := takes_of (X := cxOf (L2.CX P w) P w K mg base n_l_joined "_law_joined" (defScope s_l_joined) T.f__law_joined.a cdv A outer s H E) (E := E) rfl rfl rfl rfl
  exact ⟨_, (dss_cons (ds_if (dt_cmp od_gt bool_dIb (de_callB cd_len T.n_len (da_cons (de_var 0) da_nil)) de_int) (dss_one (ds_ret (de_tup (da_cons de_str (da_cons de_str da_nil))))) dss_nil)
  (dss_one (ds_ret (de_tup (da_cons de_str (da_cons (de_var 0) da_nil))))))⟩
theorem ok_l_less (T : Tx K w mg) : FnOk P w K mg base (L2.CX P w) 1 T.f__law_less.a T.f__law_less.fd ["sign", "a", "b"] (spA K 3 m_l_less) := by
  refine fnA (N := n_l_less) T.f__law_less.F sc_l_less fun cdv A outer s H E hr => ?_
  have nd := sc_l_less.nd
  have tk := takes_of (X := cxOf (L2.CX P w) P w K mg base n_l_less "_law_less" (defScope s_l_less) T.f__law_less.a cdv A outer s H E) (E := E) rfl rfl rfl rfl
  exact ⟨_, (dss_cons (ds_set (i := 3) nd (de_dictC (kvs := [((.inr (PySem.Str.ofString "num")), (.int 0)), ((.inr (PySem.Str.ofString "text")), (.str (PySem.Str.ofString ""))), ((.inr (PySem.Str.ofString "bool")), (.bl false))]) (ds := [((.inr (PySem.Str.ofString "num")), (.int 0)), ((.inr (PySem.Str.ofString "text")), (.str (PySem.Str.ofString ""))), ((.inr (PySem.Str.ofString "bool")), (.bl false))]) (pps_cons pe_str pe_int (pps_cons pe_str pe_str (pps_cons pe_str pe_bl pps_nil))) (fun _ _ _ q => q) (fun _ => (.cons (.int _) (.cons (.str _) (.cons (.bl _) .nil)))) (by decide +kernel) (by decide)))
  (dss_cons (ds_if (dt_w (dw_and (dt_isN (de_var 1)) (dw_and1 (dt_isN (de_var 2))))) (dss_one (ds_ret (de_tup (da_cons de_str (da_cons (de_cmp (od_eq hr.units) (de_var 0) de_str) da_nil))))) dss_nil)
  (dss_cons (ds_if (dt_isN (de_var 1)) (dss_one (ds_set (i := 1) nd (de_tup (da_cons (de_ix (de_var 2) de_int) (da_cons (de_dget (units1 hr) (de_var 3) (de_ix (de_var 2) de_int)) da_nil))))) dss_nil)
  (dss_cons (ds_if (dt_isN (de_var 2)) (dss_one (ds_set (i := 2) nd (de_tup (da_cons (de_ix (de_var 1) de_int) (da_cons (de_dget (units1 hr) (de_var 3) (de_ix (de_var 1) de_int)) da_nil))))) dss_nil)
  (dss_cons (ds_if (dt_cmp (od_ne hr.units) bool_dNe (de_ix (de_var 1) de_int) (de_ix (de_var 2) de_int)) (dss_one (ds_ret (de_tup (da_cons de_str (da_cons de_str da_nil))))) dss_nil)
  (dss_one (ds_ret (de_tup (da_cons de_str (da_cons (de_or (de_cmp od_lt2 (de_ix (de_var 1) de_int) (de_ix (de_var 2) de_int)) (de_one (de_and (de_cmp (od_eq hr.units) (de_var 0) de_str) (de_one (de_cmp (od_eq hr.units) (de_ix (de_var 1) de_int) (de_ix (de_var 2) de_int)))))) da_nil))))))))))⟩
theorem ok_l_quotient (T : Tx K w mg) : FnOk P w K mg base (L2.CX P w) 1 T.f__law_quotient.a T.f__law_quotient.fd ["a", "b"] (spA K 2 m_l_quotient) := by
  refine fnA (N := n_l_quotient) T.f__law_quotient.F sc_l_quotient fun cdv A outer s H E hr => ?_
  have nd := sc_l_quotient.nd
  have tk := takes_of (X := cxOf (L2.CX P w) P w K mg base n_l_quotient "_law_quotient" (defScope s_l_quotient) T.f__law_quotient.a cdv A outer s H E) (E := E) rfl rfl rfl rfl
  exact ⟨_, (dss_cons (ds_set (i := 2) nd de_int)
  (dss_cons (ds_if (dt_cmp (od_ne hr.units) bool_dNe (de_cmp od_lt (de_var 0) de_int) (de_cmp od_lt (de_var 1) de_int)) (dss_one (ds_set (i := 2) nd (de_usub de_int))) dss_nil)
  (dss_cons (ds_par (i := 0) (j := 1) rfl nd (da_cons (de_callB cd_abs T.n_abs (da_cons (de_var 0) da_nil)) (da_cons (de_callB cd_abs T.n_abs (da_cons (de_var 1) da_nil)) da_nil)))
  (dss_cons (ds_set (i := 3) nd (de_bin od_fdiv (de_var 0) (de_var 1)))
  (dss_cons (ds_if (dt_cmp od_ge bool_dIb (de_bin od_mul de_int (de_bin od_sub (de_var 0) (de_bin od_mul (de_var 3) (de_var 1)))) (de_var 1)) (dss_one (ds_set (i := 3) nd (de_bin od_add (de_var 3) de_int))) dss_nil)
  (dss_one (ds_ret (de_bin od_mul (de_var 2) (de_var 3)))))))))⟩
theorem ok_l_operated (T : Tx K w mg) : FnOk P w K mg base (L2.CX P w) 3 T.f__law_operated.a T.f__law_operated.fd ["sign", "a", "b"] (spA K 3 m_l_operated) := by
  refine fnA (N := n_l_operated) T.f__law_operated.F sc_l_operated fun cdv A outer s H E hr => ?_
  have nd := sc_l_operated.nd
  have tk := takes_of (X := cxOf (L2.CX P w) P w K mg base n_l_operated "_law_operated" (defScope s_l_operated) T.f__law_operated.a cdv A outer s H E) (E := E) rfl rfl rfl rfl
  exact ⟨_, (dss_cons (ds_if (dt_tru (de_callA ((ok_l_bad T).mono (by decide)) hr tk T.f__law_bad.m T.f__law_bad.F.kp T.f__law_bad.b (da_cons (de_var 1) da_nil))) (dss_one (ds_ret (de_var 1))) dss_nil)
  (dss_cons (ds_if (dt_tru (de_callA ((ok_l_bad T).mono (by decide)) hr tk T.f__law_bad.m T.f__law_bad.F.kp T.f__law_bad.b (da_cons (de_var 2) da_nil))) (dss_one (ds_ret (de_var 2))) dss_nil)
  (dss_cons (ds_if (dt_cmp (od_eq hr.units) bool_dEq (de_var 0) de_str) (dss_one (ds_ret (de_callA ((ok_l_joined T).mono (by decide)) hr tk T.f__law_joined.m T.f__law_joined.F.kp T.f__law_joined.b (da_cons (de_bin od_add (de_callA ((ok_l_as_text T).mono (by decide)) hr tk T.f__law_as_text.m T.f__law_as_text.F.kp T.f__law_as_text.b (da_cons (de_var 1) da_nil)) (de_callA ((ok_l_as_text T).mono (by decide)) hr tk T.f__law_as_text.m T.f__law_as_text.F.kp T.f__law_as_text.b (da_cons (de_var 2) da_nil))) da_nil)))) dss_nil)
  (dss_cons (ds_if (dt_cmp (od_in (units65 hr)) bool_dIn (de_var 0) (de_lst (da_cons de_str (da_cons de_str da_nil)))) (dss_one (ds_ret (de_tup (da_cons de_str (da_cons (de_cmp (od_eq hr.units) (de_cmp (od_eq hr.units) (de_var 1) (de_var 2)) (de_cmp (od_eq hr.units) (de_var 0) de_str)) da_nil))))) dss_nil)
  (dss_cons (ds_if (dt_cmp (od_in (units65 hr)) bool_dIn (de_var 0) (de_lst (da_cons de_str (da_cons de_str da_nil)))) (dss_one (ds_ret (de_callA ((ok_l_less T).mono (by decide)) hr tk T.f__law_less.m T.f__law_less.F.kp T.f__law_less.b (da_cons (de_var 0) (da_cons (de_var 1) (da_cons (de_var 2) da_nil)))))) dss_nil)
  (dss_cons (ds_par (i := 3) (j := 4) rfl nd (da_cons (de_callA ((ok_l_as_number T).mono (by decide)) hr tk T.f__law_as_number.m T.f__law_as_number.F.kp T.f__law_as_number.b (da_cons (de_var 1) da_nil)) (da_cons (de_callA ((ok_l_as_number T).mono (by decide)) hr tk T.f__law_as_number.m T.f__law_as_number.F.kp T.f__law_as_number.b (da_cons (de_var 2) da_nil)) da_nil)))
  (dss_cons (ds_if (dt_w (dw_or (dt_isN (de_var 3)) (dw_or1 (dt_isN (de_var 4))))) (dss_one (ds_ret (de_tup (da_cons de_str (da_cons de_str da_nil))))) dss_nil)
  (dss_cons (ds_if (dt_cmp (od_eq hr.units) bool_dEq (de_var 0) de_str) (dss_one (ds_ret (de_callA ((ok_l_fits T).mono (by decide)) hr tk T.f__law_fits.m T.f__law_fits.F.kp T.f__law_fits.b (da_cons (de_bin od_add (de_var 3) (de_var 4)) da_nil)))) dss_nil)
  (dss_cons (ds_if (dt_cmp (od_eq hr.units) bool_dEq (de_var 0) de_str) (dss_one (ds_ret (de_callA ((ok_l_fits T).mono (by decide)) hr tk T.f__law_fits.m T.f__law_fits.F.kp T.f__law_fits.b (da_cons (de_bin od_sub (de_var 3) (de_var 4)) da_nil)))) dss_nil)
  (dss_cons (ds_if (dt_cmp (od_eq hr.units) bool_dEq (de_var 0) de_str) (dss_one (ds_ret (de_callA ((ok_l_fits T).mono (by decide)) hr tk T.f__law_fits.m T.f__law_fits.F.kp T.f__law_fits.b (da_cons (de_callA ((ok_l_quotient T).mono (by decide)) hr tk T.f__law_quotient.m T.f__law_quotient.F.kp T.f__law_quotient.b (da_cons (de_bin od_mul (de_var 3) (de_var 4)) (da_cons de_int da_nil))) da_nil)))) dss_nil)
  (dss_cons (ds_if (dt_cmp (od_eq hr.units) bool_dEq (de_var 4) de_int) (dss_one (ds_ret (de_tup (da_cons de_str (da_cons de_str da_nil))))) dss_nil)
  (dss_one (ds_ret (de_callA ((ok_l_fits T).mono (by decide)) hr tk T.f__law_fits.m T.f__law_fits.F.kp T.f__law_fits.b (da_cons (de_callA ((ok_l_quotient T).mono (by decide)) hr tk T.f__law_quotient.m T.f__law_quotient.F.kp T.f__law_quotient.b (da_cons (de_bin od_mul (de_var 3) de_int) (da_cons (de_var 4) da_nil))) da_nil)))))))))))))))⟩
theorem ok_l_state (T : Tx K w mg) : FnOk P w K mg base (L2.CX P w) 1 T.f__law_state.a T.f__law_state.fd ["script"] (spB K 1 m_l_state) := by
  refine fnB (N := n_l_state) T.f__law_state.F sc_l_state fun cdv A outer s H E hr => ?_
  have nd := sc_l_state.nd
  have tk := takes_of (X := cxOf (L2.CX P w) P w K mg base n_l_state "_law_state" (defScope s_l_state) T.f__law_state.a cdv A outer s H E) (E := E) rfl rfl rfl rfl
  exact ⟨_, (dss_cons (ds_setLcO (i := 1) nd rfl (di_list (de_sl (de_var 0) dp_none (dp_some de_int))) (blkOk_by (own := [((PySem.Str.ofString "cell"), 2)]) (N := n_l_state) (sc := defScope s_l_state) (by decide +kernel)) (fun _ _ _ _ _ => (dg_name (i := 2) nd)) (fun _ _ _ _ _ => dpt_nil) (fun _ _ _ _ _ => (de_callB cd_abs T.n_abs (da_cons (de_var 2) da_nil))))
  (dss_cons (ds_if (dt_cmp (od_eq hr.units) bool_dEq (de_callB cd_len T.n_len (da_cons (de_var 1) da_nil)) de_int) (dss_one (ds_set (i := 1) nd (de_lstO (da_cons de_int da_nil)))) dss_nil)
  (dss_one (ds_ret (de_lstO (da_cons de_int (da_cons (de_var 1) da_nil)))))))⟩
theorem ok_l_take (T : Tx K w mg) : FnOk P w K mg base (L2.CX P w) 1 T.f__law_take.a T.f__law_take.fd ["state", "most"] (spB K 2 m_l_take) := by
  refine fnB (N := n_l_take) T.f__law_take.F sc_l_take fun cdv A outer s H E hr => ?_
  have nd := sc_l_take.nd
  have tk := takes_of (X := cxOf (L2.CX P w) P w K mg base n_l_take "_law_take" (defScope s_l_take) T.f__law_take.a cdv A outer s H E) (E := E) rfl rfl rfl rfl
  exact ⟨_, (dss_cons (ds_if (dt_cmp od_lt bool_dIb (de_var 1) de_int) (dss_one (ds_ret de_int)) dss_nil)
  (dss_cons (ds_set (i := 2) nd (de_ix (de_var 0) de_int))
  (dss_cons (ds_set (i := 3) nd (de_bin od_mod (de_ix (de_var 0) de_int) (de_callB cd_len T.n_len (da_cons (de_var 2) da_nil))))
  (dss_cons (ds_set (i := 4) nd (de_ix (de_var 2) (de_var 3)))
  (dss_cons (ds_if (dt_cmp od_ge bool_dIb (de_var 4) de_int) (dss_cons (ds_asg (de_bin od_fdiv (de_var 4) (de_var 1)) (dg_set (de_var 2) (de_var 3)))
  (dss_one (ds_ret (de_bin od_mod (de_var 4) (de_var 1))))) dss_nil)
  (dss_cons (ds_asg (de_bin od_add (de_ix (de_var 0) de_int) de_int) (dg_set (de_var 0) de_int))
  (dss_cons (ds_set (i := 5) nd (de_bin od_mod (de_callTy cd_int T.n_int (da_cons (de_bin od_add (de_bin od_mul (de_var 4) de_int) (de_bin od_mul (de_ix (de_var 0) de_int) de_int)) da_nil)) de_int))
  (dss_cons (ds_set (i := 5) nd (de_bin od_mod (de_callTy cd_int T.n_int (da_cons (de_bin od_add (de_bin od_mul (de_var 5) de_int) (de_bin od_mul (de_ix (de_var 0) de_int) de_int)) da_nil)) de_int))
  (dss_one (ds_ret (de_bin od_mod (de_bin od_fdiv (de_var 5) de_int) (de_var 1))))))))))))⟩
theorem ok_l_value (T : Tx K w mg) : FnOk P w K mg base (L2.CX P w) 2 T.f__law_value.a T.f__law_value.fd ["state"] (spB K 1 m_l_value) := by
  refine fnB (N := n_l_value) T.f__law_value.F sc_l_value fun cdv A outer s H E hr => ?_
  have nd := sc_l_value.nd
  have tk := takes_of (X := cxOf (L2.CX P w) P w K mg base n_l_value "_law_value" (defScope s_l_value) T.f__law_value.a cdv A outer s H E) (E := E) rfl rfl rfl rfl
  exact ⟨_, (dss_cons (ds_set (i := 1) nd (de_callB' ((ok_l_take T).mono (by decide)) hr tk T.f__law_take.m T.f__law_take.F.kp T.f__law_take.b (da_cons (de_var 0) (da_cons de_int da_nil))))
  (dss_cons (ds_if (dt_cmp (od_eq hr.units) bool_dEq (de_var 1) de_int) (dss_one (ds_ret de_non)) dss_nil)
  (dss_cons (ds_if (dt_cmp od_lt bool_dIb (de_var 1) de_int) (dss_one (ds_ret (de_tup (da_cons de_str (da_cons (de_ix (de_lst (da_cons de_int (da_cons de_int (da_cons (de_usub de_int) (da_cons de_int (da_cons de_int (da_cons (de_usub de_int) (da_cons de_int (da_cons (de_usub de_int) (da_cons de_int (da_cons de_int da_nil))))))))))) (de_callB' ((ok_l_take T).mono (by decide)) hr tk T.f__law_take.m T.f__law_take.F.kp T.f__law_take.b (da_cons (de_var 0) (da_cons de_int da_nil)))) da_nil))))) dss_nil)
  (dss_cons (ds_if (dt_cmp (od_eq hr.units) bool_dEq (de_var 1) de_int) (dss_one (ds_ret (de_tup (da_cons de_str (da_cons (de_bin od_sub (de_callB' ((ok_l_take T).mono (by decide)) hr tk T.f__law_take.m T.f__law_take.F.kp T.f__law_take.b (da_cons (de_var 0) (da_cons de_int da_nil))) de_int) da_nil))))) dss_nil)
  (dss_cons (ds_if (dt_cmp od_lt bool_dIb (de_var 1) de_int) (dss_one (ds_ret (de_tup (da_cons de_str (da_cons (de_ix (de_lst (da_cons de_str (da_cons de_str (da_cons de_str (da_cons de_str (da_cons de_str (da_cons de_str (da_cons (de_bin od_mulS de_str de_int) (da_cons de_str (da_cons (de_bin od_mulS de_str de_int) da_nil)))))))))) (de_callB' ((ok_l_take T).mono (by decide)) hr tk T.f__law_take.m T.f__law_take.F.kp T.f__law_take.b (da_cons (de_var 0) (da_cons de_int da_nil)))) da_nil))))) dss_nil)
  (dss_cons (ds_if (dt_cmp (od_eq hr.units) bool_dEq (de_var 1) de_int) (dss_one (ds_ret (de_tup (da_cons de_str (da_cons (de_cmp (od_eq hr.units) (de_callB' ((ok_l_take T).mono (by decide)) hr tk T.f__law_take.m T.f__law_take.F.kp T.f__law_take.b (da_cons (de_var 0) (da_cons de_int da_nil))) de_int) da_nil))))) dss_nil)
  (dss_one (ds_ret (de_tup (da_cons de_str (da_cons (de_ix (de_lst (da_cons de_str (da_cons de_str (da_cons de_str (da_cons de_str (da_cons de_str da_nil)))))) (de_callB' ((ok_l_take T).mono (by decide)) hr tk T.f__law_take.m T.f__law_take.F.kp T.f__law_take.b (da_cons (de_var 0) (da_cons de_int da_nil)))) da_nil)))))))))))⟩
theorem ok_number_value (T : Tx K w mg) : FnOk P w K mg base (L2.CX P w) 1 T.f_number_value.a T.f_number_value.fd ["n"] (spA K 1 m_number_value) := by
  refine fnA (N := n_number_value) T.f_number_value.F sc_number_value fun cdv A outer s H E hr => ?_
  have nd := sc_number_value.nd
  have tk := takes_of (X := cxOf (L2.CX P w) P w K mg base n_number_value "number_value" (defScope s_number_value) T.f_number_value.a cdv A outer s H E) (E := E) rfl rfl rfl rfl
  exact ⟨_, (dss_cons (ds_if (dt_chain od_le od_le bool_dIb (de_usub (de_gc T.c_MOST)) (de_var 0) (de_gc T.c_MOST)) (dss_one (ds_ret (de_tup (da_cons de_str (da_cons (de_var 0) da_nil))))) dss_nil)
  (dss_one (ds_ret (de_tup (da_cons de_str (da_cons de_str da_nil))))))⟩
theorem ok_add (T : Tx K w mg) : FnOk P w K mg base (L2.CX P w) 2 T.f_add.a T.f_add.fd ["a", "b"] (spA K 2 m_add) := by
  refine fnA (N := n_add) T.f_add.F sc_add fun cdv A outer s H E hr => ?_
  have nd := sc_add.nd
  have tk := takes_of (X := cxOf (L2.CX P w) P w K mg base n_add "add" (defScope s_add) T.f_add.a cdv A outer s H E) (E := E) rfl rfl rfl rfl
  exact ⟨_, (dss_one (ds_ret (de_callA ((ok_number_value T).mono (by decide)) hr tk T.f_number_value.m T.f_number_value.F.kp T.f_number_value.b (da_cons (de_bin od_add (de_var 0) (de_var 1)) da_nil))))⟩
theorem ok_rounded (T : Tx K w mg) : FnOk P w K mg base (L2.CX P w) 1 T.f_rounded.a T.f_rounded.fd ["a", "b"] (spA K 2 m_rounded) := by
  refine fnA (N := n_rounded) T.f_rounded.F sc_rounded fun cdv A outer s H E hr => ?_
  have nd := sc_rounded.nd
  have tk := takes_of (X := cxOf (L2.CX P w) P w K mg base n_rounded "rounded" (defScope s_rounded) T.f_rounded.a cdv A outer s H E) (E := E) rfl rfl rfl rfl
  exact ⟨_, (dss_cons (ds_if (dt_cmp od_lt bool_dIb (de_var 0) de_int) (dss_one (ds_ret (de_usub (de_bin od_fdiv (de_bin od_sub (de_var 1) (de_bin od_mul de_int (de_var 0))) (de_bin od_mul de_int (de_var 1)))))) dss_nil)
  (dss_one (ds_ret (de_bin od_fdiv (de_bin od_add (de_var 1) (de_bin od_mul de_int (de_var 0))) (de_bin od_mul de_int (de_var 1))))))⟩
theorem ok_over (T : Tx K w mg) : FnOk P w K mg base (L2.CX P w) 2 T.f_over.a T.f_over.fd ["a", "b"] (spA K 2 m_over) := by
  refine fnA (N := n_over) T.f_over.F sc_over fun cdv A outer s H E hr => ?_
  have nd := sc_over.nd
  have tk := takes_of (X := cxOf (L2.CX P w) P w K mg base n_over "over" (defScope s_over) T.f_over.a cdv A outer s H E) (E := E) rfl rfl rfl rfl
  exact ⟨_, (dss_cons (ds_if (dt_cmp (od_eq hr.units) bool_dEq (de_var 1) de_int) (dss_one (ds_ret (de_tup (da_cons de_str (da_cons de_str da_nil))))) dss_nil)
  (dss_cons (ds_if (dt_cmp od_lt bool_dIb (de_var 1) de_int) (dss_one (ds_ret (de_callA ((ok_number_value T).mono (by decide)) hr tk T.f_number_value.m T.f_number_value.F.kp T.f_number_value.b (da_cons (de_callA ((ok_rounded T).mono (by decide)) hr tk T.f_rounded.m T.f_rounded.F.kp T.f_rounded.b (da_cons (de_bin od_mul (de_usub (de_var 0)) (de_gc T.c_UNIT)) (da_cons (de_usub (de_var 1)) da_nil))) da_nil)))) dss_nil)
  (dss_one (ds_ret (de_callA ((ok_number_value T).mono (by decide)) hr tk T.f_number_value.m T.f_number_value.F.kp T.f_number_value.b (da_cons (de_callA ((ok_rounded T).mono (by decide)) hr tk T.f_rounded.m T.f_rounded.F.kp T.f_rounded.b (da_cons (de_bin od_mul (de_var 0) (de_gc T.c_UNIT)) (da_cons (de_var 1) da_nil))) da_nil))))))⟩
theorem ok_times (T : Tx K w mg) : FnOk P w K mg base (L2.CX P w) 2 T.f_times.a T.f_times.fd ["a", "b"] (spA K 2 m_times) := by
  refine fnA (N := n_times) T.f_times.F sc_times fun cdv A outer s H E hr => ?_
  have nd := sc_times.nd
  have tk := takes_of (X := cxOf (L2.CX P w) P w K mg base n_times "times" (defScope s_times) T.f_times.a cdv A outer s H E) (E := E) rfl rfl rfl rfl
  exact ⟨_, (dss_one (ds_ret (de_callA ((ok_number_value T).mono (by decide)) hr tk T.f_number_value.m T.f_number_value.F.kp T.f_number_value.b (da_cons (de_callA ((ok_rounded T).mono (by decide)) hr tk T.f_rounded.m T.f_rounded.F.kp T.f_rounded.b (da_cons (de_bin od_mul (de_var 0) (de_var 1)) (da_cons (de_gc T.c_UNIT) da_nil))) da_nil))))⟩
theorem ok_calculated (T : Tx K w mg) : FnOk P w K mg base (L2.CX P w) 3 T.f__calculated.a T.f__calculated.fd ["sign", "a", "b"] (spA K 3 m_calculated) := by
  refine fnA (N := n_calculated) T.f__calculated.F sc_calculated fun cdv A outer s H E hr => ?_
  have nd := sc_calculated.nd
  have tk := takes_of (X := cxOf (L2.CX P w) P w K mg base n_calculated "_calculated" (defScope s_calculated) T.f__calculated.a cdv A outer s H E) (E := E) rfl rfl rfl rfl
  exact ⟨_, (dss_cons (ds_if (dt_w (dw_or (dt_isN (de_var 1)) (dw_or1 (dt_isN (de_var 2))))) (dss_one (ds_ret (de_gc T.c_WRONG_VALUE))) dss_nil)
  (dss_cons (ds_if (dt_cmp (od_eq hr.units) bool_dEq (de_var 0) de_str) (dss_one (ds_ret (de_callA ((ok_add T).mono (by decide)) hr tk T.f_add.m T.f_add.F.kp T.f_add.b (da_cons (de_var 1) (da_cons (de_var 2) da_nil))))) dss_nil)
  (dss_cons (ds_if (dt_cmp (od_eq hr.units) bool_dEq (de_var 0) de_str) (dss_one (ds_ret (de_callA ((ok_add T).mono (by decide)) hr tk T.f_add.m T.f_add.F.kp T.f_add.b (da_cons (de_var 1) (da_cons (de_usub (de_var 2)) da_nil))))) dss_nil)
  (dss_cons (ds_if (dt_cmp (od_eq hr.units) bool_dEq (de_var 0) de_str) (dss_one (ds_ret (de_callA ((ok_times T).mono (by decide)) hr tk T.f_times.m T.f_times.F.kp T.f_times.b (da_cons (de_var 1) (da_cons (de_var 2) da_nil))))) dss_nil)
  (dss_one (ds_ret (de_callA ((ok_over T).mono (by decide)) hr tk T.f_over.m T.f_over.F.kp T.f_over.b (da_cons (de_var 1) (da_cons (de_var 2) da_nil)))))))))⟩
theorem ok_beside (T : Tx K w mg) : FnOk P w K mg base (L2.CX P w) 1 T.f__beside.a T.f__beside.fd ["value", "other"] (spA K 2 m_beside) := by
  refine fnA (N := n_beside) T.f__beside.F sc_beside fun cdv A outer s H E hr => ?_
  have nd := sc_beside.nd
  have tk := takes_of (X := cxOf (L2.CX P w) P w K mg base n_beside "_beside" (defScope s_beside) T.f__beside.a cdv A outer s H E) (E := E) rfl rfl rfl rfl
  exact ⟨_, (dss_cons (ds_if (dt_isN (de_var 0)) (dss_one (ds_ret (de_tup (da_cons (de_ix (de_var 1) de_int) (da_cons (de_kdix T.d_BLANKS (de_ix (de_var 1) de_int)) da_nil))))) dss_nil)
  (dss_one (ds_ret (de_var 0))))⟩
theorem ok_compared (T : Tx K w mg) : FnOk P w K mg base (L2.CX P w) 2 T.f__compared.a T.f__compared.fd ["sign", "a", "b"] (spA K 3 m_compared) := by
  refine fnA (N := n_compared) T.f__compared.F sc_compared fun cdv A outer s H E hr => ?_
  have nd := sc_compared.nd
  have tk := takes_of (X := cxOf (L2.CX P w) P w K mg base n_compared "_compared" (defScope s_compared) T.f__compared.a cdv A outer s H E) (E := E) rfl rfl rfl rfl
  exact ⟨_, (dss_cons (ds_if (dt_w (dw_and (dt_isN (de_var 1)) (dw_and1 (dt_isN (de_var 2))))) (dss_one (ds_ret (de_tup (da_cons de_str (da_cons (de_cmp (od_eq hr.units) (de_var 0) de_str) da_nil))))) dss_nil)
  (dss_cons (ds_set (i := 3) nd (de_callA ((ok_beside T).mono (by decide)) hr tk T.f__beside.m T.f__beside.F.kp T.f__beside.b (da_cons (de_var 1) (da_cons (de_var 2) da_nil))))
  (dss_cons (ds_set (i := 4) nd (de_callA ((ok_beside T).mono (by decide)) hr tk T.f__beside.m T.f__beside.F.kp T.f__beside.b (da_cons (de_var 2) (da_cons (de_var 1) da_nil))))
  (dss_cons (ds_if (dt_cmp (od_ne hr.units) bool_dNe (de_ix (de_var 3) de_int) (de_ix (de_var 4) de_int)) (dss_one (ds_ret (de_gc T.c_WRONG_VALUE))) dss_nil)
  (dss_cons (ds_if (dt_cmp (od_eq hr.units) bool_dEq (de_var 0) de_str) (dss_one (ds_ret (de_tup (da_cons de_str (da_cons (de_cmp od_lt2 (de_ix (de_var 3) de_int) (de_ix (de_var 4) de_int)) da_nil))))) dss_nil)
  (dss_one (ds_ret (de_tup (da_cons de_str (da_cons (de_cmp od_le2 (de_ix (de_var 3) de_int) (de_ix (de_var 4) de_int)) da_nil))))))))))⟩
theorem ok_is_error (T : Tx K w mg) : FnOk P w K mg base (L2.CX P w) 1 T.f_is_error.a T.f_is_error.fd ["value"] (spA K 1 m_is_error) := by
  refine fnA (N := n_is_error) T.f_is_error.F sc_is_error fun cdv A outer s H E hr => ?_
  have nd := sc_is_error.nd
  have tk := takes_of (X := cxOf (L2.CX P w) P w K mg base n_is_error "is_error" (defScope s_is_error) T.f_is_error.a cdv A outer s H E) (E := E) rfl rfl rfl rfl
  exact ⟨_, (dss_one (ds_ret (de_and (de_notN (de_var 0)) (de_one (de_cmp (od_eq hr.units) (de_ix (de_var 0) de_int) de_str)))))⟩
theorem ok_number_in (T : Tx K w mg) : FnOk P w K mg base (L2.CX P w) 1 T.f_number_in.a T.f_number_in.fd ["value"] (spA K 1 m_number_in) := by
  refine fnA (N := n_number_in) T.f_number_in.F sc_number_in fun cdv A outer s H E hr => ?_
  have nd := sc_number_in.nd
  have tk := takes_of (X := cxOf (L2.CX P w) P w K mg base n_number_in "number_in" (defScope s_number_in) T.f_number_in.a cdv A outer s H E) (E := E) rfl rfl rfl rfl
  exact ⟨_, (dss_cons (ds_if (dt_isN (de_var 0)) (dss_one (ds_ret de_int)) dss_nil)
  (dss_one (ds_ret (de_ifE (dt_cmp (od_eq hr.units) bool_dEq (de_ix (de_var 0) de_int) de_str) (de_ix (de_var 0) de_int) de_non))))⟩
theorem ok_show_number (T : Tx K w mg) : FnOk P w K mg base (L2.CX P w) 1 T.f_show_number.a T.f_show_number.fd ["n"] (spA K 1 m_show_number) := by
  refine fnA (N := n_show_number) T.f_show_number.F sc_show_number fun cdv A outer s H E hr => ?_
  have nd := sc_show_number.nd
  have tk := takes_of (X := cxOf (L2.CX P w) P w K mg base n_show_number "show_number" (defScope s_show_number) T.f_show_number.a cdv A outer s H E) (E := E) rfl rfl rfl rfl
  exact ⟨_, (dss_cons (ds_set (i := 1) nd (de_ifE (dt_cmp od_lt bool_dIb (de_var 0) de_int) de_str de_str))
  (dss_cons (ds_set (i := 2) nd (de_bin od_fdiv (de_callB cd_abs T.n_abs (da_cons (de_var 0) da_nil)) (de_gc T.c_UNIT)))
  (dss_cons (ds_set (i := 3) nd (de_mth md_rstrip (de_mth md_zfill (de_callTy cd_str T.n_str (da_cons (de_bin od_mod (de_callB cd_abs T.n_abs (da_cons (de_var 0) da_nil)) (de_gc T.c_UNIT)) da_nil)) (da_cons (de_gc T.c_PLACES) da_nil) PySem.F.plainAttrs_str PySem.F.slot_str_zfill PySem.F.type_str_zfill) (da_cons de_str da_nil) PySem.F.plainAttrs_str PySem.F.slot_str_rstrip PySem.F.type_str_rstrip))
  (dss_cons (ds_if (dt_cmp (od_eq hr.units) bool_dEq (de_var 3) de_str) (dss_one (ds_ret (de_joined (dj_cons (de_fmt (de_var 1)) (dj_cons (de_fmt (de_var 2)) dj_nil))))) dss_nil)
  (dss_one (ds_ret (de_joined (dj_cons (de_fmt (de_var 1)) (dj_cons (de_fmt (de_var 2)) (dj_cons de_str (dj_cons (de_fmt (de_var 3)) dj_nil)))))))))))⟩
theorem ok_text_in (T : Tx K w mg) : FnOk P w K mg base (L2.CX P w) 2 T.f_text_in.a T.f_text_in.fd ["value"] (spA K 1 m_text_in) := by
  refine fnA (N := n_text_in) T.f_text_in.F sc_text_in fun cdv A outer s H E hr => ?_
  have nd := sc_text_in.nd
  have tk := takes_of (X := cxOf (L2.CX P w) P w K mg base n_text_in "text_in" (defScope s_text_in) T.f_text_in.a cdv A outer s H E) (E := E) rfl rfl rfl rfl
  exact ⟨_, (dss_cons (ds_if (dt_isN (de_var 0)) (dss_one (ds_ret de_str)) dss_nil)
  (dss_cons (ds_if (dt_cmp (od_eq hr.units) bool_dEq (de_ix (de_var 0) de_int) de_str) (dss_one (ds_ret (de_callA ((ok_show_number T).mono (by decide)) hr tk T.f_show_number.m T.f_show_number.F.kp T.f_show_number.b (da_cons (de_ix (de_var 0) de_int) da_nil)))) dss_nil)
  (dss_cons (ds_if (dt_cmp (od_eq hr.units) bool_dEq (de_ix (de_var 0) de_int) de_str) (dss_one (ds_ret (de_ifE (dt_tru (de_ix (de_var 0) de_int)) de_str de_str))) dss_nil)
  (dss_one (ds_ret (de_ix (de_var 0) de_int))))))⟩
theorem ok_text_value (T : Tx K w mg) : FnOk P w K mg base (L2.CX P w) 1 T.f_text_value.a T.f_text_value.fd ["text"] (spA K 1 m_text_value) := by
  refine fnA (N := n_text_value) T.f_text_value.F sc_text_value fun cdv A outer s H E hr => ?_
  have nd := sc_text_value.nd
  have tk := takes_of (X := cxOf (L2.CX P w) P w K mg base n_text_value "text_value" (defScope s_text_value) T.f_text_value.a cdv A outer s H E) (E := E) rfl rfl rfl rfl
  exact ⟨_, (dss_cons (ds_if (dt_cmp od_gt bool_dIb (de_callB cd_len T.n_len (da_cons (de_var 0) da_nil)) (de_gc T.c_LONGEST_TEXT)) (dss_one (ds_ret (de_tup (da_cons de_str (da_cons de_str da_nil))))) dss_nil)
  (dss_one (ds_ret (de_tup (da_cons de_str (da_cons (de_var 0) da_nil))))))⟩
theorem ok_apply_operator (T : Tx K w mg) : FnOk P w K mg base (L2.CX P w) 4 T.f_apply_operator.a T.f_apply_operator.fd ["sign", "a", "b"] (spA K 3 m_apply_operator) := by
  refine fnA (N := n_apply_operator) T.f_apply_operator.F sc_apply_operator fun cdv A outer s H E hr => ?_
  have nd := sc_apply_operator.nd
  have tk := takes_of (X := cxOf (L2.CX P w) P w K mg base n_apply_operator "apply_operator" (defScope s_apply_operator) T.f_apply_operator.a cdv A outer s H E) (E := E) rfl rfl rfl rfl
  exact ⟨_, (dss_cons (ds_if (dt_tru (de_callA ((ok_is_error T).mono (by decide)) hr tk T.f_is_error.m T.f_is_error.F.kp T.f_is_error.b (da_cons (de_var 1) da_nil))) (dss_one (ds_ret (de_var 1))) dss_nil)
  (dss_cons (ds_if (dt_tru (de_callA ((ok_is_error T).mono (by decide)) hr tk T.f_is_error.m T.f_is_error.F.kp T.f_is_error.b (da_cons (de_var 2) da_nil))) (dss_one (ds_ret (de_var 2))) dss_nil)
  (dss_cons (ds_if (dt_cmp (od_eq hr.units) bool_dEq (de_var 0) de_str) (dss_one (ds_ret (de_callA ((ok_text_value T).mono (by decide)) hr tk T.f_text_value.m T.f_text_value.F.kp T.f_text_value.b (da_cons (de_bin od_add (de_callA ((ok_text_in T).mono (by decide)) hr tk T.f_text_in.m T.f_text_in.F.kp T.f_text_in.b (da_cons (de_var 1) da_nil)) (de_callA ((ok_text_in T).mono (by decide)) hr tk T.f_text_in.m T.f_text_in.F.kp T.f_text_in.b (da_cons (de_var 2) da_nil))) da_nil)))) dss_nil)
  (dss_cons (ds_if (dt_cmp (od_eq hr.units) bool_dEq (de_var 0) de_str) (dss_one (ds_ret (de_tup (da_cons de_str (da_cons (de_cmp (od_eq hr.units) (de_var 1) (de_var 2)) da_nil))))) dss_nil)
  (dss_cons (ds_if (dt_cmp (od_eq hr.units) bool_dEq (de_var 0) de_str) (dss_one (ds_ret (de_tup (da_cons de_str (da_cons (de_cmp (od_ne hr.units) (de_var 1) (de_var 2)) da_nil))))) dss_nil)
  (dss_cons (ds_if (dt_w (dw_or (dt_cmp (od_eq hr.units) bool_dEq (de_var 0) de_str) (dw_or1 (dt_cmp (od_eq hr.units) bool_dEq (de_var 0) de_str)))) (dss_one (ds_ret (de_callA ((ok_compared T).mono (by decide)) hr tk T.f__compared.m T.f__compared.F.kp T.f__compared.b (da_cons (de_var 0) (da_cons (de_var 1) (da_cons (de_var 2) da_nil)))))) dss_nil)
  (dss_one (ds_ret (de_callA ((ok_calculated T).mono (by decide)) hr tk T.f__calculated.m T.f__calculated.F.kp T.f__calculated.b (da_cons (de_var 0) (da_cons (de_callA ((ok_number_in T).mono (by decide)) hr tk T.f_number_in.m T.f_number_in.F.kp T.f_number_in.b (da_cons (de_var 1) da_nil)) (da_cons (de_callA ((ok_number_in T).mono (by decide)) hr tk T.f_number_in.m T.f_number_in.F.kp T.f_number_in.b (da_cons (de_var 2) da_nil)) da_nil))))))))))))⟩
theorem ok_negated (T : Tx K w mg) : FnOk P w K mg base (L2.CX P w) 2 T.f_negated.a T.f_negated.fd ["value"] (spA K 1 m_negated) := by
  refine fnA (N := n_negated) T.f_negated.F sc_negated fun cdv A outer s H E hr => ?_
  have nd := sc_negated.nd
  have tk := takes_of (X := cxOf (L2.CX P w) P w K mg base n_negated "negated" (defScope s_negated) T.f_negated.a cdv A outer s H E) (E := E) rfl rfl rfl rfl
  exact ⟨_, (dss_cons (ds_if (dt_tru (de_callA ((ok_is_error T).mono (by decide)) hr tk T.f_is_error.m T.f_is_error.F.kp T.f_is_error.b (da_cons (de_var 0) da_nil))) (dss_one (ds_ret (de_var 0))) dss_nil)
  (dss_cons (ds_set (i := 1) nd (de_callA ((ok_number_in T).mono (by decide)) hr tk T.f_number_in.m T.f_number_in.F.kp T.f_number_in.b (da_cons (de_var 0) da_nil)))
  (dss_one (ds_ret (de_ifE (dt_isN (de_var 1)) (de_gc T.c_WRONG_VALUE) (de_callA ((ok_number_value T).mono (by decide)) hr tk T.f_number_value.m T.f_number_value.F.kp T.f_number_value.b (da_cons (de_usub (de_var 1)) da_nil)))))))⟩
theorem top_law (T : Tx K w mg) : TopB P w K mg base n_law "law" s_law T.f_law.a 4 b_law := by
  intro cdv s H E hr
  have nd := sc_law.nd
  have tk := takes_of (X := cxOf (L2.CX P w) P w K mg base n_law "law" (defScope s_law) T.f_law.a cdv callerA [] s H E) (E := E) rfl rfl rfl rfl
  exact ⟨_, (dss_cons (ds_set (i := 1) nd (de_callB' ((ok_l_state T).mono (by decide)) hr tk T.f__law_state.m T.f__law_state.F.kp T.f__law_state.b (da_cons (de_var 0) da_nil)))
  (dss_cons (ds_for (passes_of rfl) rfl (di_range1 T.n_range (da_cons de_int da_nil)) (dg_name (i := 2) nd) (dss_cons (ds_par (i := 3) (j := 4) rfl nd (da_cons (de_callB' ((ok_l_value T).mono (by decide)) hr tk T.f__law_value.m T.f__law_value.F.kp T.f__law_value.b (da_cons (de_var 1) da_nil)) (da_cons (de_callB' ((ok_l_value T).mono (by decide)) hr tk T.f__law_value.m T.f__law_value.F.kp T.f__law_value.b (da_cons (de_var 1) da_nil)) da_nil)))
  (dss_cons (ds_if (dt_cmp (od_eq hr.units) bool_dEq (de_callB' ((ok_l_take T).mono (by decide)) hr tk T.f__law_take.m T.f__law_take.F.kp T.f__law_take.b (da_cons (de_var 1) (da_cons de_int da_nil))) de_int) (dss_one (ds_set (i := 4) nd (de_var 3))) dss_nil)
  (dss_cons (ds_for (passes_of rfl) rfl (di_list (de_lst (da_cons de_str (da_cons de_str (da_cons de_str (da_cons de_str (da_cons de_str (da_cons de_str (da_cons de_str (da_cons de_str (da_cons de_str da_nil))))))))))) (dg_name (i := 5) nd) (dss_cons (ds_set (i := 6) nd (de_callA ((ok_apply_operator T).mono (by decide)) hr tk T.f_apply_operator.m T.f_apply_operator.F.kp T.f_apply_operator.b (da_cons (de_var 5) (da_cons (de_var 3) (da_cons (de_var 4) da_nil)))))
  (dss_one (ds_if (dt_w (dw_or (dt_cmp (od_ne hr.units) bool_dNe (de_var 6) (de_callA ((ok_l_operated T).mono (by decide)) hr tk T.f__law_operated.m T.f__law_operated.F.kp T.f__law_operated.b (da_cons (de_var 5) (da_cons (de_var 3) (da_cons (de_var 4) da_nil))))) (dw_or1 (dt_cmp (od_ne hr.units) bool_dNe (de_callB (cd_repr rfl (units66 hr)) T.n_repr (da_cons (de_var 6) da_nil)) (de_callB (cd_repr rfl (units66 hr)) T.n_repr (da_cons (de_callA ((ok_l_operated T).mono (by decide)) hr tk T.f__law_operated.m T.f__law_operated.F.kp T.f__law_operated.b (da_cons (de_var 5) (da_cons (de_var 3) (da_cons (de_var 4) da_nil)))) da_nil)))))) (dss_one (ds_ret de_bl)) dss_nil))))
  (dss_one (ds_if (dt_cmp (od_ne hr.units) bool_dNe (de_callA ((ok_negated T).mono (by decide)) hr tk T.f_negated.m T.f_negated.F.kp T.f_negated.b (da_cons (de_var 3) da_nil)) (de_callA ((ok_l_minus T).mono (by decide)) hr tk T.f__law_minus.m T.f__law_minus.F.kp T.f__law_minus.b (da_cons (de_var 3) da_nil))) (dss_one (ds_ret de_bl)) dss_nil))))))
  (dss_one (ds_ret de_bl))))⟩
end
theorem all_mk {l : PySem.W.OpenLaw} {w : World} {K : PySem.W.Frag} {h : Heap} {mg : Str → Option Value} {fa f0 f1 f2 f3 f4 f5 f6 f7 f8 f9 f10 f11 f12 f13 f14 f15 f16 f17 f18 f19 f20 f21 f22 f23 f24 f25 f26 f27 f28 : Addr} (X : K.In h) (G : h.Ns mainGlobals mg) (hfa : mg "law" = some (.ref fa))
    {od0 an0 od1 an1 od2 an2 od3 an3 od4 an4 od5 an5 od6 an6 od7 an7 od8 an8 od9 an9 od10 an10 od11 an11 od12 an12 od13 an13 od14 an14 od15 an15 od16 an16 od17 an17 od18 an18 od19 an19 od20 an20 od21 an21 od22 an22 od23 an23 od24 an24 od25 an25 od26 an26 od27 an27 od28 an28 : Option Addr} {sl0 sl1 sl2 sl3 sl4 sl5 sl6 sl7 sl8 sl9 sl10 sl11 sl12 sl13 sl14 sl15 sl16 sl17 sl18 sl19 sl20 sl21 sl22 sl23 sl24 sl25 sl26 sl27 sl28 : Array (Option Value)} {oc0 kV0 dc0 pm0 cd0 ct0 oc1 kV1 dc1 pm1 cd1 ct1 oc2 kV2 dc2 pm2 cd2 ct2 oc3 kV3 dc3 pm3 cd3 ct3 oc4 kV4 dc4 pm4 cd4 ct4 oc5 kV5 dc5 pm5 cd5 ct5 oc6 kV6 dc6 pm6 cd6 ct6 oc7 kV7 dc7 pm7 cd7 ct7 oc8 kV8 dc8 pm8 cd8 ct8 oc9 kV9 dc9 pm9 cd9 ct9 oc10 kV10 dc10 pm10 cd10 ct10 oc11 kV11 dc11 pm11 cd11 ct11 oc12 kV12 dc12 pm12 cd12 ct12 oc13 kV13 dc13 pm13 cd13 ct13 oc14 kV14 dc14 pm14 cd14 ct14 oc15 kV15 dc15 pm15 cd15 ct15 oc16 kV16 dc16 pm16 cd16 ct16 oc17 kV17 dc17 pm17 cd17 ct17 oc18 kV18 dc18 pm18 cd18 ct18 oc19 kV19 dc19 pm19 cd19 ct19 oc20 kV20 dc20 pm20 cd20 ct20 oc21 kV21 dc21 pm21 cd21 ct21 oc22 kV22 dc22 pm22 cd22 ct22 oc23 kV23 dc23 pm23 cd23 ct23 oc24 kV24 dc24 pm24 cd24 ct24 oc25 kV25 dc25 pm25 cd25 ct25 oc26 kV26 dc26 pm26 cd26 ct26 oc27 kV27 dc27 pm27 cd27 ct27 oc28 kV28 dc28 pm28 cd28 ct28 : Value} {t_MOST : Tok} {t_UNIT : Tok} {t_WRONG_VALUE_0 : Tok} {t_WRONG_VALUE_1 : Tok} {a_WRONG_VALUE : Addr} {d_WRONG_VALUE : Option Addr} {z_WRONG_VALUE : Nat} {w_WRONG_VALUE : Array (Option Value)} {t_PLACES : Tok} {t_LONGEST_TEXT : Tok} {a_BLANKS : Addr} {es_BLANKS : Array DictEntry} {n_BLANKS : Nat} {t_BLANKS_0 : Tok} {t_BLANKS_1 : Tok}
        (a0 : PySem.W.nsIn K mainGlobals "_law_as_number" = some (some (.ref f0))) (l0 : K.lookup f0 = some ⟨oc0, od0, .func (PySem.W.fnOf "_law_as_number" "_law_as_number" (defArgs s_l_as_number) (defBody s_l_as_number) (defScope s_l_as_number) .none kV0 dc0 pm0 an0 cd0 ct0), sl0⟩) (c0 : PySem.W.codeIn K cd0 "_law_as_number" = true) (k0 : PySem.W.keepIn K (.ref f0) = true)
    (a1 : PySem.W.nsIn K mainGlobals "_law_bad" = some (some (.ref f1))) (l1 : K.lookup f1 = some ⟨oc1, od1, .func (PySem.W.fnOf "_law_bad" "_law_bad" (defArgs s_l_bad) (defBody s_l_bad) (defScope s_l_bad) .none kV1 dc1 pm1 an1 cd1 ct1), sl1⟩) (c1 : PySem.W.codeIn K cd1 "_law_bad" = true) (k1 : PySem.W.keepIn K (.ref f1) = true)
    (a2 : PySem.W.nsIn K mainGlobals "_law_minus" = some (some (.ref f2))) (l2 : K.lookup f2 = some ⟨oc2, od2, .func (PySem.W.fnOf "_law_minus" "_law_minus" (defArgs s_l_minus) (defBody s_l_minus) (defScope s_l_minus) .none kV2 dc2 pm2 an2 cd2 ct2), sl2⟩) (c2 : PySem.W.codeIn K cd2 "_law_minus" = true) (k2 : PySem.W.keepIn K (.ref f2) = true)
    (a3 : PySem.W.nsIn K mainGlobals "_law_decimal" = some (some (.ref f3))) (l3 : K.lookup f3 = some ⟨oc3, od3, .func (PySem.W.fnOf "_law_decimal" "_law_decimal" (defArgs s_l_decimal) (defBody s_l_decimal) (defScope s_l_decimal) .none kV3 dc3 pm3 an3 cd3 ct3), sl3⟩) (c3 : PySem.W.codeIn K cd3 "_law_decimal" = true) (k3 : PySem.W.keepIn K (.ref f3) = true)
    (a4 : PySem.W.nsIn K mainGlobals "_law_as_text" = some (some (.ref f4))) (l4 : K.lookup f4 = some ⟨oc4, od4, .func (PySem.W.fnOf "_law_as_text" "_law_as_text" (defArgs s_l_as_text) (defBody s_l_as_text) (defScope s_l_as_text) .none kV4 dc4 pm4 an4 cd4 ct4), sl4⟩) (c4 : PySem.W.codeIn K cd4 "_law_as_text" = true) (k4 : PySem.W.keepIn K (.ref f4) = true)
    (a5 : PySem.W.nsIn K mainGlobals "_law_fits" = some (some (.ref f5))) (l5 : K.lookup f5 = some ⟨oc5, od5, .func (PySem.W.fnOf "_law_fits" "_law_fits" (defArgs s_l_fits) (defBody s_l_fits) (defScope s_l_fits) .none kV5 dc5 pm5 an5 cd5 ct5), sl5⟩) (c5 : PySem.W.codeIn K cd5 "_law_fits" = true) (k5 : PySem.W.keepIn K (.ref f5) = true)
    (a6 : PySem.W.nsIn K mainGlobals "_law_joined" = some (some (.ref f6))) (l6 : K.lookup f6 = some ⟨oc6, od6, .func (PySem.W.fnOf "_law_joined" "_law_joined" (defArgs s_l_joined) (defBody s_l_joined) (defScope s_l_joined) .none kV6 dc6 pm6 an6 cd6 ct6), sl6⟩) (c6 : PySem.W.codeIn K cd6 "_law_joined" = true) (k6 : PySem.W.keepIn K (.ref f6) = true)
    (a7 : PySem.W.nsIn K mainGlobals "_law_less" = some (some (.ref f7))) (l7 : K.lookup f7 = some ⟨oc7, od7, .func (PySem.W.fnOf "_law_less" "_law_less" (defArgs s_l_less) (defBody s_l_less) (defScope s_l_less) .none kV7 dc7 pm7 an7 cd7 ct7), sl7⟩) (c7 : PySem.W.codeIn K cd7 "_law_less" = true) (k7 : PySem.W.keepIn K (.ref f7) = true)
    (a8 : PySem.W.nsIn K mainGlobals "_law_quotient" = some (some (.ref f8))) (l8 : K.lookup f8 = some ⟨oc8, od8, .func (PySem.W.fnOf "_law_quotient" "_law_quotient" (defArgs s_l_quotient) (defBody s_l_quotient) (defScope s_l_quotient) .none kV8 dc8 pm8 an8 cd8 ct8), sl8⟩) (c8 : PySem.W.codeIn K cd8 "_law_quotient" = true) (k8 : PySem.W.keepIn K (.ref f8) = true)
    (a9 : PySem.W.nsIn K mainGlobals "_law_operated" = some (some (.ref f9))) (l9 : K.lookup f9 = some ⟨oc9, od9, .func (PySem.W.fnOf "_law_operated" "_law_operated" (defArgs s_l_operated) (defBody s_l_operated) (defScope s_l_operated) .none kV9 dc9 pm9 an9 cd9 ct9), sl9⟩) (c9 : PySem.W.codeIn K cd9 "_law_operated" = true) (k9 : PySem.W.keepIn K (.ref f9) = true)
    (a10 : PySem.W.nsIn K mainGlobals "_law_state" = some (some (.ref f10))) (l10 : K.lookup f10 = some ⟨oc10, od10, .func (PySem.W.fnOf "_law_state" "_law_state" (defArgs s_l_state) (defBody s_l_state) (defScope s_l_state) .none kV10 dc10 pm10 an10 cd10 ct10), sl10⟩) (c10 : PySem.W.codeIn K cd10 "_law_state" = true) (k10 : PySem.W.keepIn K (.ref f10) = true)
    (a11 : PySem.W.nsIn K mainGlobals "_law_take" = some (some (.ref f11))) (l11 : K.lookup f11 = some ⟨oc11, od11, .func (PySem.W.fnOf "_law_take" "_law_take" (defArgs s_l_take) (defBody s_l_take) (defScope s_l_take) .none kV11 dc11 pm11 an11 cd11 ct11), sl11⟩) (c11 : PySem.W.codeIn K cd11 "_law_take" = true) (k11 : PySem.W.keepIn K (.ref f11) = true)
    (a12 : PySem.W.nsIn K mainGlobals "_law_value" = some (some (.ref f12))) (l12 : K.lookup f12 = some ⟨oc12, od12, .func (PySem.W.fnOf "_law_value" "_law_value" (defArgs s_l_value) (defBody s_l_value) (defScope s_l_value) .none kV12 dc12 pm12 an12 cd12 ct12), sl12⟩) (c12 : PySem.W.codeIn K cd12 "_law_value" = true) (k12 : PySem.W.keepIn K (.ref f12) = true)
    (a13 : PySem.W.nsIn K mainGlobals "number_value" = some (some (.ref f13))) (l13 : K.lookup f13 = some ⟨oc13, od13, .func (PySem.W.fnOf "number_value" "number_value" (defArgs s_number_value) (defBody s_number_value) (defScope s_number_value) .none kV13 dc13 pm13 an13 cd13 ct13), sl13⟩) (c13 : PySem.W.codeIn K cd13 "number_value" = true) (k13 : PySem.W.keepIn K (.ref f13) = true)
    (a14 : PySem.W.nsIn K mainGlobals "add" = some (some (.ref f14))) (l14 : K.lookup f14 = some ⟨oc14, od14, .func (PySem.W.fnOf "add" "add" (defArgs s_add) (defBody s_add) (defScope s_add) .none kV14 dc14 pm14 an14 cd14 ct14), sl14⟩) (c14 : PySem.W.codeIn K cd14 "add" = true) (k14 : PySem.W.keepIn K (.ref f14) = true)
    (a15 : PySem.W.nsIn K mainGlobals "rounded" = some (some (.ref f15))) (l15 : K.lookup f15 = some ⟨oc15, od15, .func (PySem.W.fnOf "rounded" "rounded" (defArgs s_rounded) (defBody s_rounded) (defScope s_rounded) .none kV15 dc15 pm15 an15 cd15 ct15), sl15⟩) (c15 : PySem.W.codeIn K cd15 "rounded" = true) (k15 : PySem.W.keepIn K (.ref f15) = true)
    (a16 : PySem.W.nsIn K mainGlobals "over" = some (some (.ref f16))) (l16 : K.lookup f16 = some ⟨oc16, od16, .func (PySem.W.fnOf "over" "over" (defArgs s_over) (defBody s_over) (defScope s_over) .none kV16 dc16 pm16 an16 cd16 ct16), sl16⟩) (c16 : PySem.W.codeIn K cd16 "over" = true) (k16 : PySem.W.keepIn K (.ref f16) = true)
    (a17 : PySem.W.nsIn K mainGlobals "times" = some (some (.ref f17))) (l17 : K.lookup f17 = some ⟨oc17, od17, .func (PySem.W.fnOf "times" "times" (defArgs s_times) (defBody s_times) (defScope s_times) .none kV17 dc17 pm17 an17 cd17 ct17), sl17⟩) (c17 : PySem.W.codeIn K cd17 "times" = true) (k17 : PySem.W.keepIn K (.ref f17) = true)
    (a18 : PySem.W.nsIn K mainGlobals "_calculated" = some (some (.ref f18))) (l18 : K.lookup f18 = some ⟨oc18, od18, .func (PySem.W.fnOf "_calculated" "_calculated" (defArgs s_calculated) (defBody s_calculated) (defScope s_calculated) .none kV18 dc18 pm18 an18 cd18 ct18), sl18⟩) (c18 : PySem.W.codeIn K cd18 "_calculated" = true) (k18 : PySem.W.keepIn K (.ref f18) = true)
    (a19 : PySem.W.nsIn K mainGlobals "_beside" = some (some (.ref f19))) (l19 : K.lookup f19 = some ⟨oc19, od19, .func (PySem.W.fnOf "_beside" "_beside" (defArgs s_beside) (defBody s_beside) (defScope s_beside) .none kV19 dc19 pm19 an19 cd19 ct19), sl19⟩) (c19 : PySem.W.codeIn K cd19 "_beside" = true) (k19 : PySem.W.keepIn K (.ref f19) = true)
    (a20 : PySem.W.nsIn K mainGlobals "_compared" = some (some (.ref f20))) (l20 : K.lookup f20 = some ⟨oc20, od20, .func (PySem.W.fnOf "_compared" "_compared" (defArgs s_compared) (defBody s_compared) (defScope s_compared) .none kV20 dc20 pm20 an20 cd20 ct20), sl20⟩) (c20 : PySem.W.codeIn K cd20 "_compared" = true) (k20 : PySem.W.keepIn K (.ref f20) = true)
    (a21 : PySem.W.nsIn K mainGlobals "is_error" = some (some (.ref f21))) (l21 : K.lookup f21 = some ⟨oc21, od21, .func (PySem.W.fnOf "is_error" "is_error" (defArgs s_is_error) (defBody s_is_error) (defScope s_is_error) .none kV21 dc21 pm21 an21 cd21 ct21), sl21⟩) (c21 : PySem.W.codeIn K cd21 "is_error" = true) (k21 : PySem.W.keepIn K (.ref f21) = true)
    (a22 : PySem.W.nsIn K mainGlobals "number_in" = some (some (.ref f22))) (l22 : K.lookup f22 = some ⟨oc22, od22, .func (PySem.W.fnOf "number_in" "number_in" (defArgs s_number_in) (defBody s_number_in) (defScope s_number_in) .none kV22 dc22 pm22 an22 cd22 ct22), sl22⟩) (c22 : PySem.W.codeIn K cd22 "number_in" = true) (k22 : PySem.W.keepIn K (.ref f22) = true)
    (a23 : PySem.W.nsIn K mainGlobals "show_number" = some (some (.ref f23))) (l23 : K.lookup f23 = some ⟨oc23, od23, .func (PySem.W.fnOf "show_number" "show_number" (defArgs s_show_number) (defBody s_show_number) (defScope s_show_number) .none kV23 dc23 pm23 an23 cd23 ct23), sl23⟩) (c23 : PySem.W.codeIn K cd23 "show_number" = true) (k23 : PySem.W.keepIn K (.ref f23) = true)
    (a24 : PySem.W.nsIn K mainGlobals "text_in" = some (some (.ref f24))) (l24 : K.lookup f24 = some ⟨oc24, od24, .func (PySem.W.fnOf "text_in" "text_in" (defArgs s_text_in) (defBody s_text_in) (defScope s_text_in) .none kV24 dc24 pm24 an24 cd24 ct24), sl24⟩) (c24 : PySem.W.codeIn K cd24 "text_in" = true) (k24 : PySem.W.keepIn K (.ref f24) = true)
    (a25 : PySem.W.nsIn K mainGlobals "text_value" = some (some (.ref f25))) (l25 : K.lookup f25 = some ⟨oc25, od25, .func (PySem.W.fnOf "text_value" "text_value" (defArgs s_text_value) (defBody s_text_value) (defScope s_text_value) .none kV25 dc25 pm25 an25 cd25 ct25), sl25⟩) (c25 : PySem.W.codeIn K cd25 "text_value" = true) (k25 : PySem.W.keepIn K (.ref f25) = true)
    (a26 : PySem.W.nsIn K mainGlobals "apply_operator" = some (some (.ref f26))) (l26 : K.lookup f26 = some ⟨oc26, od26, .func (PySem.W.fnOf "apply_operator" "apply_operator" (defArgs s_apply_operator) (defBody s_apply_operator) (defScope s_apply_operator) .none kV26 dc26 pm26 an26 cd26 ct26), sl26⟩) (c26 : PySem.W.codeIn K cd26 "apply_operator" = true) (k26 : PySem.W.keepIn K (.ref f26) = true)
    (a27 : PySem.W.nsIn K mainGlobals "negated" = some (some (.ref f27))) (l27 : K.lookup f27 = some ⟨oc27, od27, .func (PySem.W.fnOf "negated" "negated" (defArgs s_negated) (defBody s_negated) (defScope s_negated) .none kV27 dc27 pm27 an27 cd27 ct27), sl27⟩) (c27 : PySem.W.codeIn K cd27 "negated" = true) (k27 : PySem.W.keepIn K (.ref f27) = true)
    (a28 : PySem.W.nsIn K mainGlobals "law" = some (some (.ref f28))) (l28 : K.lookup f28 = some ⟨oc28, od28, .func (PySem.W.fnOf "law" "law" (defArgs s_law) (defBody s_law) (defScope s_law) .none kV28 dc28 pm28 an28 cd28 ct28), sl28⟩) (c28 : PySem.W.codeIn K cd28 "law" = true) (k28 : PySem.W.keepIn K (.ref f28) = true)
    (g_MOST : PySem.W.nsIn K mainGlobals "MOST" = some (some (.int 1000000000000000 t_MOST)))
    (g_UNIT : PySem.W.nsIn K mainGlobals "UNIT" = some (some (.int 10000 t_UNIT)))
    (g_WRONG_VALUE : PySem.W.nsIn K mainGlobals "WRONG_VALUE" = some (some (.ref a_WRONG_VALUE))) (l_WRONG_VALUE : K.lookup a_WRONG_VALUE = some ⟨.type "tuple", d_WRONG_VALUE, .seq #[(.str (PySem.Str.ofString "error") t_WRONG_VALUE_0), (.str (PySem.Str.ofString "value") t_WRONG_VALUE_1)] z_WRONG_VALUE, w_WRONG_VALUE⟩)
    (g_PLACES : PySem.W.nsIn K mainGlobals "PLACES" = some (some (.int 4 t_PLACES)))
    (g_LONGEST_TEXT : PySem.W.nsIn K mainGlobals "LONGEST_TEXT" = some (some (.int 60 t_LONGEST_TEXT)))
    (g_BLANKS : PySem.W.nsIn K mainGlobals "BLANKS" = some (some (.ref a_BLANKS))) (l_BLANKS : K.lookup a_BLANKS = some ⟨.type "dict", none, .dict es_BLANKS n_BLANKS, #[]⟩) (kl_BLANKS : PySem.W.KeysLit w.params es_BLANKS.toList) (i_BLANKS_0 : PySem.W.nsIn K a_BLANKS "num" = some (some (.int 0 t_BLANKS_0))) (i_BLANKS_1 : PySem.W.nsIn K a_BLANKS "text" = some (some (.str (PySem.Str.ofString "") t_BLANKS_1))) (i_BLANKS_2 : PySem.W.nsIn K a_BLANKS "bool" = some (some (.bool false)))
    (z_abs : PySem.W.nsIn K mainGlobals "abs" = some none)
    (z_int : PySem.W.nsIn K mainGlobals "int" = some none)
    (z_len : PySem.W.nsIn K mainGlobals "len" = some none)
    (z_range : PySem.W.nsIn K mainGlobals "range" = some none)
    (z_repr : PySem.W.nsIn K mainGlobals "repr" = some none)
    (z_str : PySem.W.nsIn K mainGlobals "str" = some none) :
    ∃ fd : FuncData, Fun K "law" "law" s_law fa fd ∧ (∀ (s : Shared) (v : Value), BindsTo s fd ⟨[v], []⟩ [("script", v)]) ∧ ∀ base : Heap, K.In base → base.Ns mainGlobals mg → TopB l.prog w K mg base n_law "law" s_law fa 4 b_law := by
  have e := hfa.symm.trans (PySem.W.mg_of X G a28)
  cases e
  let T : Tx K w mg := {
    f__law_as_number := ⟨_, _, fun_mk (st := s_l_as_number) l0 c0 k0, PySem.W.mg_of X G a0, (fun_mk (st := s_l_as_number) l0 c0 k0).binds (ps := ["value"]) fun _ _ _ _ _ _ us hl => match us, hl with | [_], _ => rfl⟩
    f__law_bad := ⟨_, _, fun_mk (st := s_l_bad) l1 c1 k1, PySem.W.mg_of X G a1, (fun_mk (st := s_l_bad) l1 c1 k1).binds (ps := ["value"]) fun _ _ _ _ _ _ us hl => match us, hl with | [_], _ => rfl⟩
    f__law_minus := ⟨_, _, fun_mk (st := s_l_minus) l2 c2 k2, PySem.W.mg_of X G a2, (fun_mk (st := s_l_minus) l2 c2 k2).binds (ps := ["value"]) fun _ _ _ _ _ _ us hl => match us, hl with | [_], _ => rfl⟩
    f__law_decimal := ⟨_, _, fun_mk (st := s_l_decimal) l3 c3 k3, PySem.W.mg_of X G a3, (fun_mk (st := s_l_decimal) l3 c3 k3).binds (ps := ["number"]) fun _ _ _ _ _ _ us hl => match us, hl with | [_], _ => rfl⟩
    f__law_as_text := ⟨_, _, fun_mk (st := s_l_as_text) l4 c4 k4, PySem.W.mg_of X G a4, (fun_mk (st := s_l_as_text) l4 c4 k4).binds (ps := ["value"]) fun _ _ _ _ _ _ us hl => match us, hl with | [_], _ => rfl⟩
    f__law_fits := ⟨_, _, fun_mk (st := s_l_fits) l5 c5 k5, PySem.W.mg_of X G a5, (fun_mk (st := s_l_fits) l5 c5 k5).binds (ps := ["number"]) fun _ _ _ _ _ _ us hl => match us, hl with | [_], _ => rfl⟩
    f__law_joined := ⟨_, _, fun_mk (st := s_l_joined) l6 c6 k6, PySem.W.mg_of X G a6, (fun_mk (st := s_l_joined) l6 c6 k6).binds (ps := ["text"]) fun _ _ _ _ _ _ us hl => match us, hl with | [_], _ => rfl⟩
    f__law_less := ⟨_, _, fun_mk (st := s_l_less) l7 c7 k7, PySem.W.mg_of X G a7, (fun_mk (st := s_l_less) l7 c7 k7).binds (ps := ["sign", "a", "b"]) fun _ _ _ _ _ _ us hl => match us, hl with | [_, _, _], _ => rfl⟩
    f__law_quotient := ⟨_, _, fun_mk (st := s_l_quotient) l8 c8 k8, PySem.W.mg_of X G a8, (fun_mk (st := s_l_quotient) l8 c8 k8).binds (ps := ["a", "b"]) fun _ _ _ _ _ _ us hl => match us, hl with | [_, _], _ => rfl⟩
    f__law_operated := ⟨_, _, fun_mk (st := s_l_operated) l9 c9 k9, PySem.W.mg_of X G a9, (fun_mk (st := s_l_operated) l9 c9 k9).binds (ps := ["sign", "a", "b"]) fun _ _ _ _ _ _ us hl => match us, hl with | [_, _, _], _ => rfl⟩
    f__law_state := ⟨_, _, fun_mk (st := s_l_state) l10 c10 k10, PySem.W.mg_of X G a10, (fun_mk (st := s_l_state) l10 c10 k10).binds (ps := ["script"]) fun _ _ _ _ _ _ us hl => match us, hl with | [_], _ => rfl⟩
    f__law_take := ⟨_, _, fun_mk (st := s_l_take) l11 c11 k11, PySem.W.mg_of X G a11, (fun_mk (st := s_l_take) l11 c11 k11).binds (ps := ["state", "most"]) fun _ _ _ _ _ _ us hl => match us, hl with | [_, _], _ => rfl⟩
    f__law_value := ⟨_, _, fun_mk (st := s_l_value) l12 c12 k12, PySem.W.mg_of X G a12, (fun_mk (st := s_l_value) l12 c12 k12).binds (ps := ["state"]) fun _ _ _ _ _ _ us hl => match us, hl with | [_], _ => rfl⟩
    f_number_value := ⟨_, _, fun_mk (st := s_number_value) l13 c13 k13, PySem.W.mg_of X G a13, (fun_mk (st := s_number_value) l13 c13 k13).binds (ps := ["n"]) fun _ _ _ _ _ _ us hl => match us, hl with | [_], _ => rfl⟩
    f_add := ⟨_, _, fun_mk (st := s_add) l14 c14 k14, PySem.W.mg_of X G a14, (fun_mk (st := s_add) l14 c14 k14).binds (ps := ["a", "b"]) fun _ _ _ _ _ _ us hl => match us, hl with | [_, _], _ => rfl⟩
    f_rounded := ⟨_, _, fun_mk (st := s_rounded) l15 c15 k15, PySem.W.mg_of X G a15, (fun_mk (st := s_rounded) l15 c15 k15).binds (ps := ["a", "b"]) fun _ _ _ _ _ _ us hl => match us, hl with | [_, _], _ => rfl⟩
    f_over := ⟨_, _, fun_mk (st := s_over) l16 c16 k16, PySem.W.mg_of X G a16, (fun_mk (st := s_over) l16 c16 k16).binds (ps := ["a", "b"]) fun _ _ _ _ _ _ us hl => match us, hl with | [_, _], _ => rfl⟩
    f_times := ⟨_, _, fun_mk (st := s_times) l17 c17 k17, PySem.W.mg_of X G a17, (fun_mk (st := s_times) l17 c17 k17).binds (ps := ["a", "b"]) fun _ _ _ _ _ _ us hl => match us, hl with | [_, _], _ => rfl⟩
    f__calculated := ⟨_, _, fun_mk (st := s_calculated) l18 c18 k18, PySem.W.mg_of X G a18, (fun_mk (st := s_calculated) l18 c18 k18).binds (ps := ["sign", "a", "b"]) fun _ _ _ _ _ _ us hl => match us, hl with | [_, _, _], _ => rfl⟩
    f__beside := ⟨_, _, fun_mk (st := s_beside) l19 c19 k19, PySem.W.mg_of X G a19, (fun_mk (st := s_beside) l19 c19 k19).binds (ps := ["value", "other"]) fun _ _ _ _ _ _ us hl => match us, hl with | [_, _], _ => rfl⟩
    f__compared := ⟨_, _, fun_mk (st := s_compared) l20 c20 k20, PySem.W.mg_of X G a20, (fun_mk (st := s_compared) l20 c20 k20).binds (ps := ["sign", "a", "b"]) fun _ _ _ _ _ _ us hl => match us, hl with | [_, _, _], _ => rfl⟩
    f_is_error := ⟨_, _, fun_mk (st := s_is_error) l21 c21 k21, PySem.W.mg_of X G a21, (fun_mk (st := s_is_error) l21 c21 k21).binds (ps := ["value"]) fun _ _ _ _ _ _ us hl => match us, hl with | [_], _ => rfl⟩
    f_number_in := ⟨_, _, fun_mk (st := s_number_in) l22 c22 k22, PySem.W.mg_of X G a22, (fun_mk (st := s_number_in) l22 c22 k22).binds (ps := ["value"]) fun _ _ _ _ _ _ us hl => match us, hl with | [_], _ => rfl⟩
    f_show_number := ⟨_, _, fun_mk (st := s_show_number) l23 c23 k23, PySem.W.mg_of X G a23, (fun_mk (st := s_show_number) l23 c23 k23).binds (ps := ["n"]) fun _ _ _ _ _ _ us hl => match us, hl with | [_], _ => rfl⟩
    f_text_in := ⟨_, _, fun_mk (st := s_text_in) l24 c24 k24, PySem.W.mg_of X G a24, (fun_mk (st := s_text_in) l24 c24 k24).binds (ps := ["value"]) fun _ _ _ _ _ _ us hl => match us, hl with | [_], _ => rfl⟩
    f_text_value := ⟨_, _, fun_mk (st := s_text_value) l25 c25 k25, PySem.W.mg_of X G a25, (fun_mk (st := s_text_value) l25 c25 k25).binds (ps := ["text"]) fun _ _ _ _ _ _ us hl => match us, hl with | [_], _ => rfl⟩
    f_apply_operator := ⟨_, _, fun_mk (st := s_apply_operator) l26 c26 k26, PySem.W.mg_of X G a26, (fun_mk (st := s_apply_operator) l26 c26 k26).binds (ps := ["sign", "a", "b"]) fun _ _ _ _ _ _ us hl => match us, hl with | [_, _, _], _ => rfl⟩
    f_negated := ⟨_, _, fun_mk (st := s_negated) l27 c27 k27, PySem.W.mg_of X G a27, (fun_mk (st := s_negated) l27 c27 k27).binds (ps := ["value"]) fun _ _ _ _ _ _ us hl => match us, hl with | [_], _ => rfl⟩
    f_law := ⟨_, _, fun_mk (st := s_law) l28 c28 k28, PySem.W.mg_of X G a28, (fun_mk (st := s_law) l28 c28 k28).binds (ps := ["script"]) fun _ _ _ _ _ _ us hl => match us, hl with | [_], _ => rfl⟩
    c_MOST := gc_mk (v := (.int 1000000000000000)) (PySem.W.mg_of X G g_MOST) ⟨_, rfl⟩ fun _ => (.int _)
    c_UNIT := gc_mk (v := (.int 10000)) (PySem.W.mg_of X G g_UNIT) ⟨_, rfl⟩ fun _ => (.int _)
    c_WRONG_VALUE := gc_mk (v := (.ref a_WRONG_VALUE)) (PySem.W.mg_of X G g_WRONG_VALUE) rfl fun _ => (rep_ktup (xs := [(.str (PySem.Str.ofString "error")), (.str (PySem.Str.ofString "value"))]) l_WRONG_VALUE (by exact (by decide : 2 ≤ sizeLine)) (.cons ⟨_, rfl⟩ (.cons ⟨_, rfl⟩ .nil)) (.cons (.str _) (.cons (.str _) .nil)))
    c_PLACES := gc_mk (v := (.int 4)) (PySem.W.mg_of X G g_PLACES) ⟨_, rfl⟩ fun _ => (.int _)
    c_LONGEST_TEXT := gc_mk (v := (.int 60)) (PySem.W.mg_of X G g_LONGEST_TEXT) ⟨_, rfl⟩ fun _ => (.int _)
    d_BLANKS := ⟨a_BLANKS, PySem.W.mg_of X G g_BLANKS, (lk_cons ⟨(.int 0), ⟨es_BLANKS, n_BLANKS, _, l_BLANKS, kl_BLANKS, i_BLANKS_0, ⟨_, rfl⟩⟩, fun _ => (.int _)⟩ (lk_cons ⟨(.str (PySem.Str.ofString "")), ⟨es_BLANKS, n_BLANKS, _, l_BLANKS, kl_BLANKS, i_BLANKS_1, ⟨_, rfl⟩⟩, fun _ => (.str _)⟩ (lk_cons ⟨(.bl false), ⟨es_BLANKS, n_BLANKS, _, l_BLANKS, kl_BLANKS, i_BLANKS_2, rfl⟩, fun _ => (.bl false)⟩ lk_nil)))⟩
    n_abs := PySem.W.mg_none_of X G z_abs
    n_int := PySem.W.mg_none_of X G z_int
    n_len := PySem.W.mg_none_of X G z_len
    n_range := PySem.W.mg_none_of X G z_range
    n_repr := PySem.W.mg_none_of X G z_repr
    n_str := PySem.W.mg_none_of X G z_str }
  exact ⟨PySem.W.fnOf "law" "law" (defArgs s_law) (defBody s_law) (defScope s_law) .none kV28 dc28 pm28 an28 cd28 ct28, T.f_law.F, fun s v => .of_eq rfl, fun base _ _ => top_law T⟩
end Law
namespace Law
open PySem L2 DL
open NumText (AllDigits digitsVal)
def rnd (a b : Int) : Int := if a < 0 then -((b - 2 * a) / (2 * b)) else (b + 2 * a) / (2 * b)
theorem rounded_spec (a b : Int) (h : 0 < b) (h2 : b < 9223372036854775808) : m_rounded [.int a, .int b] = some (.ok (.int (rnd a b))) := by
  have h3 : 2 * b < 18446744073709551616 := by omega
  have h4 : 0 < 2 * b := by omega
  unfold rnd
  by_cases ha : a < 0 <;> simp [e_bnd, e_seq, e_lift, e_runA, e_runB, m_rounded, b_rounded, ha, h3, h4]
def nv (n : Int) : D := if -1000000000000000 ≤ n ∧ n ≤ 1000000000000000 then .tup [.str (Str.ofString "num"), .int n] else .tup [.str (Str.ofString "error"), .str (Str.ofString "range")]
theorem number_value_spec (n : Int) : m_number_value [.int n] = some (.ok (nv n)) := by
  unfold nv
  by_cases h1 : -1000000000000000 ≤ n <;> by_cases h2 : n ≤ 1000000000000000 <;> simp [e_bnd, e_seq, e_lift, e_runA, e_runB, m_number_value, b_number_value, k_MOST, h1, h2]
theorem add_spec (a b : Int) : m_add [.int a, .int b] = some (.ok (nv (a + b))) := by
  simp [e_bnd, e_seq, e_lift, e_runA, e_runB, m_add, b_add, number_value_spec]
theorem times_spec (a b : Int) (h : mulOk a b = true) : m_times [.int a, .int b] = some (.ok (nv (rnd (a * b) 10000))) := by
  simp [e_bnd, e_seq, e_lift, e_runA, e_runB, m_times, b_times, number_value_spec, rounded_spec, k_UNIT, h]
def er (k : String) : D := .tup [.str (Str.ofString "error"), .str (Str.ofString k)]
theorem mulK (i : Int) : mulOk i 10000 = true := by unfold mulOk; simp
theorem over_spec (a b : Int) (h : b < 9223372036854775808) (h' : -9223372036854775808 < b) : m_over [.int a, .int b] = some (.ok (if b = 0 then er "zero" else if b < 0 then nv (rnd (-a * 10000) (-b)) else nv (rnd (a * 10000) b))) := by
  by_cases h0 : b = 0
  · subst h0
    simp [e_bnd, e_seq, e_lift, e_runA, e_runB, m_over, b_over, er]
  · by_cases h1 : b < 0
    · have e := rounded_spec (-a * 10000) (-b) (by omega) (by omega)
      simp [e_bnd, e_seq, e_lift, e_runA, e_runB, m_over, b_over, number_value_spec, e, k_UNIT, mulK, h0, h1]
    · have e := rounded_spec (a * 10000) b (by omega) (by omega)
      simp [e_bnd, e_seq, e_lift, e_runA, e_runB, m_over, b_over, number_value_spec, e, k_UNIT, mulK, h0, h1]
theorem t_min : Str.ofString "-" = tx [45] := by rw [tx_ofString]; rfl
theorem t_nil : Str.ofString "" = tx [] := by rw [tx_ofString]; rfl
theorem t_pt : Str.ofString "." = tx [46] := by rw [tx_ofString]; rfl
theorem t_0 : Str.ofString "0" = tx [48] := by rw [tx_ofString]; rfl
def pad4L (b : Nat) : List Nat := [48 + b / 1000, 48 + b / 100 % 10, 48 + b / 10 % 10, 48 + b % 10]
theorem pad_small {b : Nat} (h : b < 10000) : List.replicate (4 - (decs b).length) 48 ++ decs b = pad4L b := by
  unfold pad4L
  by_cases h1 : b < 10
  · rw [decs_lt h1]
    simp [List.replicate]
    omega
  · rw [decs_ge (by omega)]
    by_cases h2 : b / 10 < 10
    · rw [decs_lt h2]
      simp [List.replicate]
      omega
    · rw [decs_ge (n := b / 10) (by omega)]
      by_cases h3 : b / 10 / 10 < 10
      · rw [decs_lt h3]
        simp [List.replicate]
        omega
      · rw [decs_ge (n := b / 10 / 10) (by omega), decs_lt (n := b / 10 / 10 / 10) (by omega)]
        simp [List.replicate]
        omega
theorem decs_big {n : Nat} (h : 10000 ≤ n) : decs n = decs (n / 10000) ++ pad4L (n % 10000) := by
  unfold pad4L
  rw [decs_ge (n := n) (by omega), decs_ge (n := n / 10) (by omega), decs_ge (n := n / 10 / 10) (by omega), decs_ge (n := n / 10 / 10 / 10) (by omega)]
  have e : n / 10 / 10 / 10 / 10 = n / 10000 := by omega
  rw [e]
  simp
  omega
theorem padded (n : Nat) : List.replicate (5 - (decs n).length) 48 ++ decs n = decs (n / 10000) ++ pad4L (n % 10000) := by
  by_cases h : n < 10000
  · have hl := decs_len 3 n (by simpa using h)
    have e1 : n / 10000 = 0 := by omega
    have e2 : n % 10000 = n := by omega
    rw [e1, e2, decs_lt (n := 0) (by decide), ← pad_small h]
    have e3 : 5 - (decs n).length = (4 - (decs n).length) + 1 := by omega
    rw [e3, List.replicate_succ]
    rfl
  · have hl := decs_len_ge 4 n (by omega)
    have e3 : 5 - (decs n).length = 0 := by omega
    rw [e3, ← decs_big (by omega)]
    rfl
theorem pad4_digits (b : Nat) (h : b < 10000) : AllDigits (pad4L b) := by
  intro c hc
  unfold pad4L at hc
  simp at hc
  omega
theorem pad4_val (b : Nat) (h : b < 10000) : digitsVal (pad4L b) = b := by
  show ((((0 * 10 + (48 + b / 1000 - 48)) * 10 + (48 + b / 100 % 10 - 48)) * 10 + (48 + b / 10 % 10 - 48)) * 10 + (48 + b % 10 - 48)) = b
  omega
/-! stripping -/
theorem rstrip_snoc (c : Nat) (p : List Nat) : rstripL c (p ++ [c]) = rstripL c p := by
  unfold rstripL
  simp
theorem rstrip_keep (c x : Nat) (p : List Nat) (h : x ≠ c) : rstripL c (p ++ [x]) = p ++ [x] := by
  unfold rstripL
  simp [h]
theorem all_rep (c : Nat) : ∀ l : List Nat, (∀ x ∈ l, x = c) → l = List.replicate l.length c
  | [], _ => rfl
  | x :: l, h => by
    rw [List.length_cons, List.replicate_succ, h x (by simp), ← all_rep c l fun y hy => h y (List.mem_cons_of_mem _ hy)]
theorem rstrip_back0 (c : Nat) : ∀ r : List Nat, rstripL c r.reverse ++ List.replicate (r.reverse.length - (rstripL c r.reverse).length) c = r.reverse
  | [] => rfl
  | x :: r => by
    have ih := rstrip_back0 c r
    rw [List.reverse_cons]
    generalize r.reverse = p at ih ⊢
    by_cases h : x = c
    · subst h
      rw [rstrip_snoc]
      have hl : (rstripL x p).length ≤ p.length := by have := congrArg List.length ih; simp at this; omega
      have e : (p ++ [x]).length - (rstripL x p).length = (p.length - (rstripL x p).length) + 1 := by simp; omega
      rw [e, List.replicate_succ', ← List.append_assoc, ih]
    · rw [rstrip_keep _ _ _ h]
      simp
theorem rstrip_back (c : Nat) (l : List Nat) : rstripL c l ++ List.replicate (l.length - (rstripL c l).length) c = l := by
  have h := rstrip_back0 c l.reverse
  rw [List.reverse_reverse] at h
  exact h
theorem rstrip_len (c : Nat) (l : List Nat) : (rstripL c l).length ≤ l.length := by
  have := congrArg List.length (rstrip_back c l); simp at this; omega
theorem rstrip_mem {c x : Nat} {l : List Nat} (h : x ∈ rstripL c l) : x ∈ l := by
  rw [← rstrip_back c l]; exact List.mem_append_left _ h
def shown (m : Nat) : List Nat := decs (m / 10000) ++ (if rstripL 48 (pad4L (m % 10000)) = [] then [] else 46 :: rstripL 48 (pad4L (m % 10000)))
def sgn (n : Int) : List Nat := if n < 0 then [45] else []
theorem logOk_nat {m : Nat} (h : m ≤ 1000000000000000) : logOk (m : Int) = true := logOk_of (by rw [Int.natAbs_natCast]; omega)
theorem head_decs (n : Nat) : ∀ c, (decs n).head? = some c → c ≠ 43 ∧ c ≠ 45 := fun c h => by
  have := (decs_spec n).1 c (List.mem_of_mem_head? h)
  omega
theorem show_fin (n : Int) (sg w st : List Nat) (W : Int) (hW : intS W = tx w) (hl : logOk W = true) (h1 : sg.length ≤ 10) (h2 : w.length ≤ 1000) (h3 : st.length ≤ 4) :
    wpS (b_show_number_3 ⟨[some (.p (.int n)), some (.p (.str (tx sg))), some (.p (.int W)), some (.p (.str (tx st)))], []⟩) (endA (· = .str (tx (sg ++ (w ++ (if st = [] then [] else 46 :: st)))))) := by
  have a1 : sg.length ≤ 1000000 := by omega
  have a2 : sg.length + w.length ≤ 1000000 := by omega
  have a3 : sg.length + (w.length + 1) ≤ 1000000 := by omega
  have a4 : sg.length + (w.length + (st.length + 1)) ≤ 1000000 := by omega
  have a5 : st.length ≤ 1000000 := by omega
  have a6 : w.length ≤ 1000000 := by omega
  have a8 : sg.length + w.length ≤ 999999 := by omega
  have a9 : sg.length + (w.length + 1) + (st.length) ≤ 1000000 := by omega
  have a7 : sg.length + (w.length + 1) + st.length ≤ 1000000 := by omega
  by_cases h : st = []
  · subst h
    simp [b_show_number_3, t_nil, hW, hl, a1, a2, a6]
  · simp [b_show_number_3, t_nil, h, b_show_number_4, hW, hl, a1, a2, a3, a4, a5, a6, a7, a8, a9, t_pt]
theorem show_mid (n : Int) (sg : List Nat) (m : Nat) (ha : (if n < 0 then -n else n) = (m : Int)) (hm : m ≤ 1000000000000000) (h1 : sg.length ≤ 10) :
    wpS (b_show_number_1 ⟨[some (.p (.int n)), some (.p (.str (tx sg))), none, none], []⟩) (endA (· = .str (tx (sg ++ shown m)))) := by
  have d1 : intS ((m : Int) / 10000) = tx (decs (m / 10000)) := intS_tx (m / 10000)
  have d2 : intS ((m : Int) % 10000) = tx (decs (m % 10000)) := intS_tx (m % 10000)
  have l1 : logOk ((m : Int) / 10000) = true := logOk_nat (m := m / 10000) (by omega)
  have l2 : logOk ((m : Int) % 10000) = true := logOk_nat (m := m % 10000) (by omega)
  have hz : Txt.zfill (tx (decs (m % 10000))) 4 = tx (pad4L (m % 10000)) := by
    rw [zfill_tx _ _ (head_decs _), ← pad_small (Nat.mod_lt m (by decide))]
    rfl
  have hr := rstrip_tx 48 (pad4L (m % 10000))
  have hlp : (pad4L (m % 10000)).length ≤ 1000000 := by show 4 ≤ 1000000; decide
  have hw := decs_len 11 (m / 10000) (by omega)
  have hs := rstrip_len 48 (pad4L (m % 10000))
  have f := show_fin n sg (decs (m / 10000)) (rstripL 48 (pad4L (m % 10000))) _ d1 l1 h1 (by omega) hs
  unfold shown
  generalize rstripL 48 (pad4L (m % 10000)) = st at *
  generalize pad4L (m % 10000) = pd at *
  generalize decs (m / 10000) = w at *
  simp [b_show_number_1, ha, k_UNIT, b_show_number_2, k_PLACES, pad4, t_0, l2, d2, hz, hr, hlp]
  exact f
theorem show_spec (n : Int) (m : Nat) (ha : (if n < 0 then -n else n) = (m : Int)) (hm : m ≤ 1000000000000000) : m_show_number [.int n] = some (.ok (.str (tx (sgn n ++ shown m)))) := by
  apply wpA.eq
  by_cases hn : n < 0
  · have f := show_mid n [45] m ha hm (by decide)
    have e : sgn n = [45] := by unfold sgn; rw [if_pos hn]
    rw [e]
    simp [m_show_number, b_show_number, hn, t_min]
    exact f
  · have f := show_mid n [] m ha hm (by decide)
    have e : sgn n = [] := by unfold sgn; rw [if_neg hn]
    rw [e]
    have hn' : 0 ≤ n := by omega
    simp [m_show_number, b_show_number, hn, t_nil]
    exact f
theorem quot_up (x b : Int) (hx : 0 ≤ x) (hb : 0 < b) : (b + 2 * x) / (2 * b) = if b ≤ 2 * (x - x / b * b) then x / b + 1 else x / b := by
  have e1 := Int.mul_ediv_add_emod x b
  have e2 := Int.emod_nonneg x (b := b) (by omega)
  have e3 := Int.emod_lt_of_pos x hb
  generalize x / b = q at *
  generalize x % b = r at *
  have e4 : q * b = b * q := Int.mul_comm _ _
  rw [e4]
  have e5 : b + 2 * x = (b + 2 * r) + q * (2 * b) := by
    have : q * (2 * b) = 2 * (b * q) := by rw [Int.mul_left_comm, Int.mul_comm q b]
    rw [this]; omega
  rw [e5, Int.add_mul_ediv_right _ _ (by omega)]
  have e6 : x - b * q = r := by omega
  rw [e6]
  split
  · rename_i h
    have : (b + 2 * r) / (2 * b) = 1 := by
      have h1 := Int.ediv_emod_unique (a := b + 2 * r) (b := 2 * b) (r := 2 * r - b) (q := 1) (by omega)
      exact (h1.mpr ⟨by omega, by omega, by omega⟩).1
    rw [this]; omega
  · rename_i h
    have : (b + 2 * r) / (2 * b) = 0 := Int.ediv_eq_zero_of_lt (by omega) (by omega)
    rw [this]; omega
theorem fits_spec (n : Int) : m_l_fits [.int n] = some (.ok (nv n)) := by
  unfold nv
  apply wpA.eq
  by_cases h : n < 0
  · simp [m_l_fits, b_l_fits, h]
    exact ⟨fun h1 h2 => by omega, fun h1 => by omega⟩
  · simp [m_l_fits, b_l_fits, h]
    exact ⟨fun h1 h2 => by omega, fun h1 => by omega⟩
/-- the nearest quotient of any two, the second not 0 -/
def quo (a b : Int) : Int := if b < 0 then rnd (-a) (-b) else rnd a b
theorem quot_spec (a b : Int) (hb : b ≠ 0) (h1 : b < 9223372036854775808) (h2 : -9223372036854775808 < b) : m_l_quotient [.int a, .int b] = some (.ok (.int (quo a b))) := by
  have main : ∀ (x c : Int) (sg : Int) (r : Int), 0 ≤ x → 0 < c → c < 9223372036854775808 → sg * ((c + 2 * x) / (2 * c)) = r → (if a < 0 then -a else a) = x → (if b < 0 then -b else b) = c → (sg = 1 ∨ sg = -1) → (sg = if (decide (a < 0) = decide (b < 0)) then 1 else -1) → wpA (m_l_quotient [.int a, .int b]) (· = .int r) := by
    intro x c sg r hx hc hc2 e1 e2 e3 e4 e5
    have q := quot_up x c hx hc
    have hm : mulOk (x / c) c = true := mulOkR _ _ (by omega) (by omega)
    have hm2 : ∀ y, mulOk sg y = true := fun y => by rcases e4 with e | e <;> subst e <;> unfold mulOk <;> simp
    have hc3 : 0 < c ∧ c < 18446744073709551616 := ⟨hc, by omega⟩
    have dv : dDiv (.int x) (.int c) = some (.int (x / c)) := by show (if 0 < c ∧ c < 18446744073709551616 then some (D.int (x / c)) else none) = _; rw [if_pos hc3]
    by_cases hd : decide (a < 0) = decide (b < 0)
    · rw [if_pos hd] at e5
      subst e5
      rw [Int.one_mul] at e1
      subst e1
      by_cases hh : c ≤ 2 * (x - x / c * c)
      · rw [if_pos hh] at q
        rw [q]
        simp [m_l_quotient, b_l_quotient, hd, e2, e3, hc3, hm, hm2, hh]
      · rw [if_neg hh] at q
        rw [q]
        simp [m_l_quotient, b_l_quotient, hd, e2, e3, hc3, hm, hm2, hh]
    · rw [if_neg hd] at e5
      subst e5
      subst e1
      by_cases hh : c ≤ 2 * (x - x / c * c)
      · rw [if_pos hh] at q
        rw [q]
        simp [m_l_quotient, b_l_quotient, hd, e2, e3, hc3, hm, hm2, hh]
      · rw [if_neg hh] at q
        rw [q]
        simp [m_l_quotient, b_l_quotient, hd, e2, e3, hc3, hm, hm2, hh]
  apply wpA.eq
  unfold quo rnd
  by_cases ha : a < 0 <;> by_cases hb2 : b < 0
  · rw [if_pos hb2, if_neg (by omega)]
    exact main (-a) (-b) 1 _ (by omega) (by omega) (by omega) (by rw [Int.one_mul]) (by rw [if_pos ha]) (by rw [if_pos hb2]) (.inl rfl) (by rw [if_pos (by simp [ha, hb2])])
  · rw [if_neg hb2, if_pos ha]
    exact main (-a) b (-1) _ (by omega) (by omega) (by omega) (by rw [show b + 2 * -a = b - 2 * a by omega, Int.neg_one_mul]) (by rw [if_pos ha]) (by rw [if_neg hb2]) (.inr rfl) (by rw [if_neg (by simp [ha, hb2])])
  · rw [if_pos hb2]
    by_cases h0 : a = 0
    · subst h0
      rw [if_neg (by omega)]
      exact main 0 (-b) (-1) _ (by omega) (by omega) (by omega) (by
        have e : (-b + 2 * 0) / (2 * -b) = 0 := Int.ediv_eq_zero_of_lt (by omega) (by omega)
        have e2 : (-b + 2 * -0) / (2 * -b) = 0 := Int.ediv_eq_zero_of_lt (by omega) (by omega)
        rw [e, e2]; rfl) (by rfl) (by rw [if_pos hb2]) (.inr rfl) (by rw [if_neg (by simp [hb2])])
    · rw [if_pos (by omega)]
      exact main a (-b) (-1) _ (by omega) (by omega) (by omega) (by rw [show -b + 2 * a = -b - 2 * -a by omega, Int.neg_one_mul]) (by rw [if_neg ha]) (by rw [if_pos hb2]) (.inr rfl) (by rw [if_neg (by simp [ha, hb2])])
  · rw [if_neg hb2, if_neg ha]
    exact main a b 1 _ (by omega) (by omega) (by omega) (by rw [Int.one_mul]) (by rw [if_neg ha]) (by rw [if_neg hb2]) (.inl rfl) (by rw [if_pos (by simp [ha, hb2])])
def loopP : SM := (sIf (mAnd (mBin dNe (mVar 4) (mC (.str (PySem.Str.ofString "")))) (mBin dEq (mIx (mVar 4) (mBin dSub (mCB dLen (aCons (mVar 4) aNil)) (mC (.int 1)))) (mC (.str (PySem.Str.ofString "0"))))) (sAsg (mSlE (mVar 4) pNone (pSome (mBin dSub (mCB dLen (aCons (mVar 4) aNil)) (mC (.int 1))))) (gN 4)) sNil)
def loopW : SM := (sIf (mAnd (mBin dGt (mCB dLen (aCons (mVar 2) aNil)) (mC (.int 1))) (mBin dEq (mIx (mVar 2) (mC (.int 0))) (mC (.str (PySem.Str.ofString "0"))))) (sAsg (mSlE (mVar 2) (pSome (mC (.int 1))) pNone) (gN 2)) sNil)
theorem dec_2 : b_l_decimal_2 = sSeq (sFor (mRng rng1D (aCons (mC (.int 4)) aNil)) (gN 3) loopW) b_l_decimal_3 := rfl
theorem dec_4 : b_l_decimal_4 = sSeq (sFor (mRng rng1D (aCons (mC (.int 4)) aNil)) (gN 3) loopP) b_l_decimal_5 := rfl
theorem loopP_spec : ∀ (k : Nat) (lo : Int) (l : List Nat) (x0 x1 x2 x3 : Option DV), l.length ≤ 4 → (l.length ≤ k ∨ rstripL 48 l = l) →
    ∃ d', loopS (gN 3) loopP (DL.intsFrom lo k) ⟨[x0, x1, x2, x3, some (.p (.str (tx l)))], []⟩ = some (.nx, ⟨[x0, x1, x2, d', some (.p (.str (tx (rstripL 48 l))))], []⟩) := by
  intro k
  induction k with
  | zero =>
    intro lo l x0 x1 x2 x3 _ h
    have e : rstripL 48 l = l := by
      rcases h with h | h
      · have : l = [] := List.length_eq_zero_iff.mp (by omega)
        subst this; rfl
      · exact h
    rw [e]
    exact ⟨x3, by simp [ints0]⟩
  | succ k ih =>
    intro lo l x0 x1 x2 x3 h4 h
    rw [intsS, loopS_cons]
    rcases List.eq_nil_or_concat l with rfl | ⟨p, x, rfl⟩
    · obtain ⟨d', hd⟩ := ih (lo + 1) [] x0 x1 x2 (some (.p (.int lo))) (by simp) (.inl (by simp))
      refine ⟨d', ?_⟩
      simp [loopP, e_bnd, e_lift, t_nil]
      exact hd
    · rw [List.concat_eq_append] at *
      have hl : p.length + 1 ≤ 4 := by simpa using h4
      have a1 : p.length + 1 ≤ 1000000 := by omega
      have e1 : ((p.length : Int) + 1 - 1) = (p.length : Int) := by omega
      have a2 : atI (p ++ [x]) (p.length : Int) = some x := atI_nat' (by omega) (by simp)
      have a3 : cutS (tx (p ++ [x])) none (some (p.length : Int)) = tx p := by
        rw [cutS_to _ _ (by omega)]
        simp
      by_cases hx : x = 48
      · subst hx
        obtain ⟨d', hd⟩ := ih (lo + 1) p x0 x1 x2 (some (.p (.int lo))) (by omega) (by
          rcases h with h | h
          · left; simp at h; omega
          · exfalso
            rw [rstrip_snoc] at h
            have := rstrip_len 48 p
            have := congrArg List.length h
            simp at this; omega)
        refine ⟨d', ?_⟩
        rw [rstrip_snoc]
        simp [loopP, e_bnd, e_lift, t_nil, t_0, a1, e1, a2, a3]
        exact hd
      · have hk := rstrip_keep 48 x p hx
        obtain ⟨d', hd⟩ := ih (lo + 1) (p ++ [x]) x0 x1 x2 (some (.p (.int lo))) (by simp; omega) (.inr hk)
        refine ⟨d', ?_⟩
        simp [loopP, e_bnd, e_lift, t_nil, t_0, a1, e1, a2, a3, hx]
        exact hd
theorem loopW_spec : ∀ (k z : Nat) (lo : Int) (l : List Nat) (x0 x1 x3 x4 : Option DV), l ≠ [] → l.length ≤ 1000 → (l.head? ≠ some 48 ∨ l.length = 1) → z ≤ k → z ≤ 4 →
    ∃ d', loopS (gN 3) loopW (DL.intsFrom lo k) ⟨[x0, x1, some (.p (.str (tx (List.replicate z 48 ++ l)))), x3, x4], []⟩ = some (.nx, ⟨[x0, x1, some (.p (.str (tx l))), d', x4], []⟩) := by
  intro k
  induction k with
  | zero =>
    intro z lo l x0 x1 x3 x4 _ _ _ hz _
    have : z = 0 := by omega
    subst this
    exact ⟨x3, by simp [ints0]⟩
  | succ k ih =>
    intro z lo l x0 x1 x3 x4 hne hl hh hz h4
    rw [intsS, loopS_cons]
    cases z with
    | zero =>
      obtain ⟨d', hd⟩ := ih 0 (lo + 1) l x0 x1 (some (.p (.int lo))) x4 hne hl hh (by omega) (by omega)
      refine ⟨d', ?_⟩
      simp only [List.replicate_zero, List.nil_append] at hd ⊢
      cases l with
      | nil => exact absurd rfl hne
      | cons x r =>
        have a1 : r.length + 1 ≤ 1000000 := by rw [List.length_cons] at hl; omega
        by_cases hx : x = 48
        · have hr : r.length = 0 := by
            rcases hh with h | h
            · exact absurd (by rw [hx]; rfl) h
            · simpa using h
          have : r = [] := List.length_eq_zero_iff.mp hr
          subst this
          simp [loopW, e_bnd, e_lift]
          exact hd
        · by_cases hr : 1 < (r.length : Int) + 1
          · simp [loopW, e_bnd, e_lift, a1, atI0, t_0, hx, hr]
            first | exact hd | (split <;> exact hd)
          · simp [loopW, e_bnd, e_lift, a1, hr]
            first | exact hd | (split <;> exact hd)
    | succ z =>
      obtain ⟨d', hd⟩ := ih z (lo + 1) l x0 x1 (some (.p (.int lo))) x4 hne hl hh (by omega) (by omega)
      refine ⟨d', ?_⟩
      have e : List.replicate (z + 1) 48 ++ l = 48 :: (List.replicate z 48 ++ l) := by rw [List.replicate_succ]; rfl
      rw [e]
      have hp : 0 < l.length := List.length_pos_iff.mpr hne
      have a1 : z + l.length + 1 ≤ 1000000 := by omega
      have a2 : (1 : Int) < (z : Int) + (l.length : Int) + 1 := by omega
      have a3 : cutS (tx (48 :: (List.replicate z 48 ++ l))) (some 1) none = tx (List.replicate z 48 ++ l) := by rw [cutS_from _ _ (by decide)]; rfl
      have a4 : 0 < z + l.length := by omega
      simp [loopW, e_bnd, e_lift, a1, a2, atI0, t_0, a3]
      exact hd
theorem rng4 : rngOk 4 = true := by decide
theorem four (m : Nat) : ∃ z, z ≤ 4 ∧ [48, 48, 48, 48] ++ decs m = (List.replicate z 48 ++ decs (m / 10000)) ++ pad4L (m % 10000) := by
  by_cases h : m < 10000
  · have hl := decs_len 3 m (by simpa using h)
    have h1 : 1 ≤ (decs m).length := List.length_pos_iff.mpr (decs_spec m).2.1
    have e1 : m / 10000 = 0 := by omega
    have e2 : m % 10000 = m := by omega
    refine ⟨(decs m).length - 1, by omega, ?_⟩
    rw [e1, e2, decs_lt (n := 0) (by decide), ← pad_small h]
    have e3 : ([48, 48, 48, 48] : List Nat) = List.replicate 4 48 := rfl
    have e4 : ([48 + 0] : List Nat) = List.replicate 1 48 := rfl
    rw [e3, e4, List.replicate_append_replicate, ← List.append_assoc, List.replicate_append_replicate]
    congr 2
    omega
  · refine ⟨4, Nat.le_refl _, ?_⟩
    rw [decs_big (n := m) (by omega), ← List.append_assoc]
    rfl
theorem dec_fin (n : Int) (w st : List Nat) (x1 d3 : Option DV) (hw : w.length ≤ 1000) (hst : st.length ≤ 4) :
    wpS (b_l_decimal_5 ⟨[some (.p (.int n)), x1, some (.p (.str (tx w))), d3, some (.p (.str (tx st)))], []⟩) (endA (· = .str (tx (sgn n ++ (w ++ (if st = [] then [] else 46 :: st)))))) := by
  have a3 : w.length + 1 ≤ 1000000 := by omega
  have a4 : w.length + (st.length + 1) ≤ 1000000 := by omega
  have a5 : w.length ≤ 1000000 := by omega
  have a6 : w.length + 1 + st.length ≤ 1000000 := by omega
  have a8 : w.length ≤ 999999 := by omega
  have a9 : w.length + st.length + 1 ≤ 1000000 := by omega
  have a10 : 1 + (w.length + (st.length + 1)) ≤ 1000000 := by omega
  have a11 : 1 + w.length ≤ 1000000 := by omega
  unfold sgn
  by_cases hn : n < 0 <;> by_cases hs : st = []
  · simp [b_l_decimal_5, hs, t_nil, b_l_decimal_6, hn, atI1, t_min, a5, a11]
  · simp [b_l_decimal_5, hs, t_nil, t_pt, a3, a4, a6, a8, b_l_decimal_6, hn, atI1, t_min, a5, a9, a10]
  · simp [b_l_decimal_5, hs, t_nil, b_l_decimal_6, hn, atI0, t_min, a5]
  · simp [b_l_decimal_5, hs, t_nil, t_pt, a3, a4, a6, a8, b_l_decimal_6, hn, atI0, t_min, a5, a9, a10]
theorem t_0000 : Str.ofString "0000" = tx [48, 48, 48, 48] := by rw [tx_ofString]; rfl
theorem decimal_spec (n : Int) (m : Nat) (ha : (if n < 0 then -n else n) = (m : Int)) (hm : m ≤ 1000000000000000) : m_l_decimal [.int n] = some (.ok (.str (tx (sgn n ++ shown m)))) := by
  obtain ⟨z, hz, h4⟩ := four m
  have l1 : logOk (m : Int) = true := logOk_nat hm
  have d1 := intS_tx m
  have hl := decs_len 15 m (by omega)
  have hw := decs_len 11 (m / 10000) (by omega)
  have hpl : (pad4L (m % 10000)).length = 4 := rfl
  have hs := rstrip_len 48 (pad4L (m % 10000))
  obtain ⟨g1, g2, g3, g4⟩ := decs_spec (m / 10000)
  have hh : (decs (m / 10000)).head? ≠ some 48 ∨ (decs (m / 10000)).length = 1 := by
    by_cases q : 0 < m / 10000
    · exact .inl (g4 q)
    · right
      have : m / 10000 = 0 := by omega
      rw [this, decs_lt (by decide)]; rfl
  obtain ⟨d5, hd5⟩ := loopW_spec 4 z 0 (decs (m / 10000)) (some (.p (.int n))) (some (.p (.str (tx ([48, 48, 48, 48] ++ decs m))))) none none g2 (by omega) hh hz hz
  obtain ⟨d6, hd6⟩ := loopP_spec 4 0 (pad4L (m % 10000)) (some (.p (.int n))) (some (.p (.str (tx ([48, 48, 48, 48] ++ decs m))))) (some (.p (.str (tx (decs (m / 10000)))))) d5 (by rw [hpl]; exact Nat.le_refl _) (.inl (by rw [hpl]; exact Nat.le_refl _))
  have f := dec_fin n (decs (m / 10000)) (rstripL 48 (pad4L (m % 10000))) (some (.p (.str (tx ([48, 48, 48, 48] ++ decs m))))) d6 (by omega) (by omega)
  have hlen := congrArg List.length h4
  have hc : cutS (tx ([48, 48, 48, 48] ++ decs m)) none (some ((decs m).length : Int)) = tx (List.replicate z 48 ++ decs (m / 10000)) := by
    rw [cutS_to _ _ (by omega), h4]
    congr 1
    rw [Int.toNat_natCast, List.take_append_of_le_length, List.take_of_length_le]
    · simp at hlen ⊢; omega
    · simp at hlen ⊢; omega
  have hc2 : cutS (tx ([48, 48, 48, 48] ++ decs m)) (some ((decs m).length : Int)) none = tx (pad4L (m % 10000)) := by
    rw [cutS_from _ _ (by omega), h4]
    congr 1
    rw [Int.toNat_natCast]
    have e : (decs m).length = (List.replicate z 48 ++ decs (m / 10000)).length := by simp at hlen ⊢; omega
    rw [e, List.drop_left]
  unfold shown
  generalize rstripL 48 (pad4L (m % 10000)) = st at *
  generalize pad4L (m % 10000) = pd at *
  generalize decs (m / 10000) = w at *
  generalize decs m = ds at *
  clear h4 hlen
  have c1 : 4 + ds.length ≤ 1000000 := by omega
  have c2 : ds.length + 1 + 1 + 1 + 1 ≤ 1000000 := by omega
  have c3 : ((ds.length : Int) + 1 + 1 + 1 + 1 - 4) = (ds.length : Int) := by omega
  apply wpA.eq
  simp at hc hc2 hd5 hd6 f
  simp [m_l_decimal, b_l_decimal, ha, l1, d1, b_l_decimal_1, t_0000, c1, c2, c3, hc, dec_2, rng4, hd5, b_l_decimal_3, hc2, dec_4, hd6]
  exact f
/-! values -/
inductive Vl where
  | non | num (n : Int) | text (l : List Nat) | bool (b : Bool) | err (k : String)
def enc : Vl → D
  | .non => .non
  | .num n => .tup [.str (Str.ofString "num"), .int n]
  | .text l => .tup [.str (Str.ofString "text"), .str (tx l)]
  | .bool b => .tup [.str (Str.ofString "bool"), .bl b]
  | .err k => .tup [.str (Str.ofString "error"), .str (Str.ofString k)]
def isErr : Vl → Bool
  | .err _ => true
  | _ => false
def Vok : Vl → Prop
  | .num n => -1000000000000000 ≤ n ∧ n ≤ 1000000000000000
  | .text l => l.length ≤ 60 ∧ ∀ c ∈ l, c < 1114112
  | .err k => k.toList.length ≤ 10
  | _ => True
theorem is_error_spec (v : Vl) : m_is_error [enc v] = some (.ok (.bl (isErr v))) := by
  apply wpA.eq
  cases v <;> simp [m_is_error, b_is_error, enc, isErr, atI0]
theorem bad_spec (v : Vl) : m_l_bad [enc v] = some (.ok (.bl (isErr v))) := by
  apply wpA.eq
  cases v <;> simp [m_l_bad, b_l_bad, enc, isErr, atI0]
def numIn : Vl → D
  | .non => .int 0
  | .num n => .int n
  | _ => .non
theorem number_in_spec (v : Vl) : m_number_in [enc v] = some (.ok (numIn v)) := by
  apply wpA.eq
  cases v <;> simp [m_number_in, b_number_in, enc, numIn, atI0, atI1]
theorem as_number_spec (v : Vl) : m_l_as_number [enc v] = some (.ok (numIn v)) := by
  apply wpA.eq
  cases v <;> simp [m_l_as_number, b_l_as_number, enc, numIn, atI0, atI1]
def txtIn : Vl → List Nat
  | .non => []
  | .num n => sgn n ++ shown n.natAbs
  | .text l => l
  | .bool b => if b then [84, 82, 85, 69] else [70, 65, 76, 83, 69]
  | .err k => k.toList.map Char.toNat
theorem abs_nat (n : Int) : (if n < 0 then -n else n) = ((n.natAbs : Nat) : Int) := by split <;> omega
theorem t_TRUE : Str.ofString "TRUE" = tx [84, 82, 85, 69] := by rw [tx_ofString]; rfl
theorem t_FALSE : Str.ofString "FALSE" = tx [70, 65, 76, 83, 69] := by rw [tx_ofString]; rfl
theorem text_in_spec (v : Vl) (h : Vok v) : m_text_in [enc v] = some (.ok (.str (tx (txtIn v)))) := by
  apply wpA.eq
  cases v with
  | num n =>
    have e := show_spec n n.natAbs (abs_nat n) (by have := h.1; have := h.2; omega)
    simp [m_text_in, b_text_in, enc, txtIn, atI0, atI1, e]
  | bool b => cases b <;> simp [m_text_in, b_text_in, enc, txtIn, atI0, atI1, t_TRUE, t_FALSE]
  | err k => simp [m_text_in, b_text_in, enc, txtIn, atI0, atI1, tx_ofString k]
  | non => simp [m_text_in, b_text_in, enc, txtIn, t_nil]
  | text l => simp [m_text_in, b_text_in, enc, txtIn, atI0, atI1]
theorem as_text_spec (v : Vl) (h : Vok v) : m_l_as_text [enc v] = some (.ok (.str (tx (txtIn v)))) := by
  apply wpA.eq
  cases v with
  | num n =>
    have e := decimal_spec n n.natAbs (abs_nat n) (by have := h.1; have := h.2; omega)
    simp [m_l_as_text, b_l_as_text, enc, txtIn, atI0, atI1, e]
  | bool b => cases b <;> simp [m_l_as_text, b_l_as_text, enc, txtIn, atI0, atI1, t_TRUE, t_FALSE]
  | err k => simp [m_l_as_text, b_l_as_text, enc, txtIn, atI0, atI1, tx_ofString k]
  | non => simp [m_l_as_text, b_l_as_text, enc, txtIn, t_nil]
  | text l => simp [m_l_as_text, b_l_as_text, enc, txtIn, atI0, atI1]
def tv (l : List Nat) : D := if 60 < l.length then er "range" else .tup [.str (Str.ofString "text"), .str (tx l)]
theorem text_value_spec (l : List Nat) (h : l.length ≤ 1000000) : m_text_value [.str (tx l)] = some (.ok (tv l)) := by
  apply wpA.eq
  unfold tv er
  by_cases q : 60 < l.length
  · have q' : (60 : Int) < (l.length : Int) := by omega
    simp [m_text_value, b_text_value, k_LONGEST_TEXT, h, q, q']
  · have q' : ¬ (60 : Int) < (l.length : Int) := by omega
    simp [m_text_value, b_text_value, k_LONGEST_TEXT, h, q, q']
theorem joined_spec (l : List Nat) (h : l.length ≤ 1000000) : m_l_joined [.str (tx l)] = some (.ok (tv l)) := by
  apply wpA.eq
  unfold tv er
  by_cases q : 60 < l.length
  · have q' : (60 : Int) < (l.length : Int) := by omega
    simp [m_l_joined, b_l_joined, h, q, q']
  · have q' : ¬ (60 : Int) < (l.length : Int) := by omega
    simp [m_l_joined, b_l_joined, h, q, q']
theorem txt_len (v : Vl) (h : Vok v) : (txtIn v).length ≤ 100 := by
  cases v with
  | non => simp [txtIn]
  | num n =>
    have a : (sgn n).length ≤ 1 := by unfold sgn; split <;> simp
    have b := decs_len 11 (n.natAbs / 10000) (by have := h.1; have := h.2; omega)
    have c := rstrip_len 48 (pad4L (n.natAbs % 10000))
    have d : (pad4L (n.natAbs % 10000)).length = 4 := rfl
    show (sgn n ++ shown n.natAbs).length ≤ 100
    unfold shown
    rw [List.length_append, List.length_append]
    split
    · simp; omega
    · simp; omega
  | text l => have : l.length ≤ 60 := h.1; show l.length ≤ 100; omega
  | bool b => cases b <;> simp [txtIn]
  | err k => have : k.toList.length ≤ 10 := h; show (k.toList.map Char.toNat).length ≤ 100; simp; omega
theorem strOk_tx (l : List Nat) (h : ∀ c ∈ l, c < 1114112) : PyData.strOk (tx l) = true := by
  unfold PyData.strOk
  rw [← Array.all_toList, tx_list, List.all_eq_true]
  intro c hc
  exact decide_eq_true (h c hc)
theorem shp_enc (v : Vl) (h : Vok v) : shp (enc v) = true := by
  cases v with
  | text l => simp [enc, strOk_tx l h.2]
  | _ => simp [enc]
theorem eq_enc (a b : Vl) (ha : Vok a) (hb : Vok b) : ∃ q, eqD (enc a) (enc b) = some q := by
  have h1 := shp_enc a ha
  have h2 := shp_enc b hb
  have key : ∀ xs ys, shp (.tup xs) = true → shp (.tup ys) = true → ∃ q, eqD (.tup xs) (.tup ys) = some q := fun xs ys e1 e2 => ⟨deqs xs ys, by rw [e_eqTT, e1, e2]; rfl⟩
  have k1 : ∀ xs, shp (.tup xs) = true → ∃ q, eqD (.tup xs) .non = some q := fun xs e1 => ⟨false, by rw [e_eqTN, e1]; rfl⟩
  have k2 : ∀ xs, shp (.tup xs) = true → ∃ q, eqD .non (.tup xs) = some q := fun xs e1 => ⟨false, by rw [e_eqNT, e1]; rfl⟩
  cases a <;> cases b <;> first | exact ⟨true, rfl⟩ | exact k1 _ h1 | exact k2 _ h2 | exact key _ _ h1 h2
@[simp] theorem beq_of (a b : String) : (Str.ofString a == Str.ofString b) = decide (a = b) := by
  by_cases h : a = b <;> simp [h]
@[simp] theorem e_kd (kvs : List (Str × D)) (m : EM) (s : S) : mKd kvs m s = (bnd m (pur (kdK kvs))) s := rfl
@[simp] theorem e_kdK (kvs : List (Str × D)) (z : Str) (s : S) : kdK kvs (.str z) s = ret (kvs.lookup z) s := rfl
@[simp] theorem e_lt2I (i j : Int) : dLt2 (.int i) (.int j) = some (.bl (decide (i < j))) := rfl
@[simp] theorem e_lt2S (i j : Str) : dLt2 (.str i) (.str j) = some (.bl (lexS i j)) := rfl
@[simp] theorem e_lt2B (i j : Bool) : dLt2 (.bl i) (.bl j) = some (.bl (decide (b2n i < b2n j))) := rfl
@[simp] theorem e_le2I (i j : Int) : dLe2 (.int i) (.int j) = some (.bl (decide (i ≤ j))) := rfl
@[simp] theorem e_le2S (i j : Str) : dLe2 (.str i) (.str j) = some (.bl (!lexS j i)) := rfl
@[simp] theorem e_le2B (i j : Bool) : dLe2 (.bl i) (.bl j) = some (.bl (decide (b2n i ≤ b2n j))) := rfl
@[simp] theorem e_getI (kvs : List (Key × D)) (x : Str) : dGetI (.dK kvs) (.str x) = valD kvs (.inr x) := by
  show (match (valD kvs (.inr x) |> some : Option (Option D)) with | some (some c) => some c | _ => none) = _
  cases valD kvs (.inr x) <;> rfl
def noErr : Vl → Prop
  | .err _ => False
  | _ => True
def bl0 : Vl → Vl
  | .num _ => .num 0
  | .text _ => .text []
  | .bool _ => .bool false
  | x => x
def isNon : Vl → Bool
  | .non => true
  | _ => false
def side : Vl → Vl → Vl
  | .non, w => bl0 w
  | v, _ => v
theorem beside_spec (v w : Vl) (nw : noErr w) (h : isNon v = false ∨ isNon w = false) : m_beside [enc v, enc w] = some (.ok (enc (side v w))) := by
  apply wpA.eq
  cases v with
  | non =>
    cases w with
    | non => rcases h with h | h <;> cases h
    | err k => exact nw.elim
    | num n => simp [m_beside, b_beside, enc, side, bl0, atI0, kd_BLANKS, List.lookup]
    | text l => simp [m_beside, b_beside, enc, side, bl0, atI0, kd_BLANKS, List.lookup, t_nil]
    | bool b => simp [m_beside, b_beside, enc, side, bl0, atI0, kd_BLANKS, List.lookup]
  | _ => simp [m_beside, b_beside, enc, side]
def ltR (le : Bool) : Vl → Vl → D
  | .num a, .num b => .tup [.str (Str.ofString "bool"), .bl (if le then decide (a ≤ b) else decide (a < b))]
  | .text a, .text b => .tup [.str (Str.ofString "bool"), .bl (if le then !lexS (tx b) (tx a) else lexS (tx a) (tx b))]
  | .bool a, .bool b => .tup [.str (Str.ofString "bool"), .bl (if le then decide (b2n a ≤ b2n b) else decide (b2n a < b2n b))]
  | _, _ => er "value"
def cmpR (le : Bool) (a b : Vl) : D := if isNon a && isNon b then .tup [.str (Str.ofString "bool"), .bl le] else ltR le (side a b) (side b a)
theorem compared_spec (le : Bool) (a b : Vl) (na : noErr a) (nb : noErr b) : m_compared [.str (Str.ofString (if le then "<=" else "<")), enc a, enc b] = some (.ok (cmpR le a b)) := by
  apply wpA.eq
  by_cases h : isNon a && isNon b
  · unfold cmpR
    rw [if_pos h]
    have h1 : a = .non := by cases a <;> first | rfl | (cases b <;> cases h)
    have h2 : b = .non := by cases b <;> first | rfl | (cases a <;> cases h)
    subst h1 h2
    cases le <;> simp [m_compared, b_compared, enc]
  · have h' : isNon a = false ∨ isNon b = false := by
      cases a <;> cases b <;> first | exact .inl rfl | exact .inr rfl | exact absurd rfl h
    have e1 := beside_spec a b nb h'
    have e2 := beside_spec b a na (h'.symm)
    unfold cmpR
    rw [if_neg h]
    cases le <;> cases a <;> cases b <;> first | exact na.elim | exact nb.elim | exact absurd rfl h | (simp [enc, side, bl0] at e1 e2; simp [m_compared, b_compared, enc, side, bl0, e1, e2, atI0, atI1, ltR, k_WRONG_VALUE, er])
@[simp] theorem val_num (x y z : D) : valD [(.inr (Str.ofString "num"), x), (.inr (Str.ofString "text"), y), (.inr (Str.ofString "bool"), z)] (.inr (Str.ofString "num")) = some x := by simp [valD]
@[simp] theorem val_text (x y z : D) : valD [(.inr (Str.ofString "num"), x), (.inr (Str.ofString "text"), y), (.inr (Str.ofString "bool"), z)] (.inr (Str.ofString "text")) = some y := by simp [valD]
@[simp] theorem val_bool (x y z : D) : valD [(.inr (Str.ofString "num"), x), (.inr (Str.ofString "text"), y), (.inr (Str.ofString "bool"), z)] (.inr (Str.ofString "bool")) = some z := by simp [valD]
theorem less_spec0 (a b : Vl) (na : noErr a) (nb : noErr b) : m_l_less [.str (Str.ofString "<"), enc a, enc b] = some (.ok (cmpR false a b)) := by
  apply wpA.eq
  unfold cmpR
  cases a <;> cases b <;> first | exact na.elim | exact nb.elim | simp [m_l_less, b_l_less, enc, side, bl0, isNon, atI0, atI1, ltR, er, t_nil]
theorem lex_eq (a b : List Nat) : (!lexS (tx b) (tx a)) = (lexS (tx a) (tx b) || decide (a = b)) := by
  unfold lexS
  rw [tx_list, tx_list]
  by_cases h : a = b
  · subst h
    have : ¬ a < a := List.lt_irrefl a
    simp [this]
  · by_cases h1 : a < b
    · have h2 : ¬ b < a := fun h2 => List.lt_irrefl a (List.lt_trans h1 h2)
      simp [h1, h2]
    · have h2 : b < a := by
        have h3 : b ≤ a := List.not_lt.mp h1
        rcases Classical.em (b < a) with q | q
        · exact q
        · exact absurd (List.le_antisymm (List.not_lt.mp q) h3) h
      simp [h1, h2, h]
theorem less_spec1 (a b : Vl) (na : noErr a) (nb : noErr b) : m_l_less [.str (Str.ofString "<="), enc a, enc b] = some (.ok (cmpR true a b)) := by
  apply wpA.eq
  unfold cmpR
  cases a <;> cases b <;> first | exact na.elim | exact nb.elim | (simp [m_l_less, b_l_less, enc, side, bl0, isNon, atI0, atI1, ltR, er, t_nil, lex_eq]; done) | simp [m_l_less, b_l_less, enc, side, bl0, isNon, atI0, atI1, ltR, er, t_nil, lex_eq]
  all_goals first | omega | exact ⟨fun h => .inl h, fun h1 h2 => by rw [h1] at h2; cases h2⟩ | (rename_i b c; cases b <;> cases c <;> decide) | (rename_i b; cases b <;> decide)
/-! the whole operator -/
def ar (sg : String) (x y : Int) : D := if sg = "+" then nv (x + y) else if sg = "-" then nv (x - y) else if sg = "*" then nv (rnd (x * y) 10000) else if y = 0 then er "zero" else nv (quo (x * 10000) y)
def ari (sg : String) : D → D → D
  | .int x, .int y => ar sg x y
  | _, _ => er "value"
def Small (x : Int) : Prop := -1000000000000000 ≤ x ∧ x ≤ 1000000000000000
theorem over_quo (x y : Int) (h : Small y) : m_over [.int x, .int y] = some (.ok (if y = 0 then er "zero" else nv (quo (x * 10000) y))) := by
  have e := over_spec x y (by have := h.2; omega) (by have := h.1; omega)
  rw [e]
  unfold quo
  by_cases h0 : y = 0
  · rw [if_pos h0, if_pos h0]
  · rw [if_neg h0, if_neg h0]
    by_cases h1 : y < 0
    · rw [if_pos h1, if_pos h1, Int.neg_mul]
    · rw [if_neg h1, if_neg h1]
theorem calc_spec (sg : String) (hs : sg = "+" ∨ sg = "-" ∨ sg = "*" ∨ sg = "/") (x y : Int) (hx : Small x) (hy : Small y) : m_calculated [.str (Str.ofString sg), .int x, .int y] = some (.ok (ar sg x y)) := by
  apply wpA.eq
  have e1 := add_spec x y
  have e2 := add_spec x (-y)
  have e3 := times_spec x y (mulOkR _ _ (by have := hy.1; omega) (by have := hy.2; omega))
  have e4 := over_quo x y hy
  rcases hs with h | h | h | h <;> subst h
  · simp [m_calculated, b_calculated, e1, ar]
  · have : x + -y = x - y := by omega
    rw [this] at e2
    simp [m_calculated, b_calculated, e2, ar]
  · simp [m_calculated, b_calculated, e3, ar]
  · simp [m_calculated, b_calculated, e4, ar]
theorem numIn_cases (v : Vl) (h : Vok v) : numIn v = .non ∨ ∃ x, numIn v = .int x ∧ Small x := by
  cases v with
  | non => exact .inr ⟨0, rfl, by unfold Small; omega⟩
  | num n => exact .inr ⟨n, rfl, h⟩
  | _ => exact .inl rfl
theorem calc_any (sg : String) (hs : sg = "+" ∨ sg = "-" ∨ sg = "*" ∨ sg = "/") (a b : Vl) (ha : Vok a) (hb : Vok b) : m_calculated [.str (Str.ofString sg), numIn a, numIn b] = some (.ok (ari sg (numIn a) (numIn b))) := by
  rcases numIn_cases a ha with h1 | ⟨x, h1, hx⟩ <;> rcases numIn_cases b hb with h2 | ⟨y, h2, hy⟩ <;> rw [h1, h2]
  · apply wpA.eq; simp [m_calculated, b_calculated, ari, er, k_WRONG_VALUE]
  · apply wpA.eq; simp [m_calculated, b_calculated, ari, er, k_WRONG_VALUE]
  · apply wpA.eq; simp [m_calculated, b_calculated, ari, er, k_WRONG_VALUE]
  · exact calc_spec sg hs x y hx hy
theorem noErr_is {v : Vl} (h : noErr v) : isErr v = false := by cases v <;> first | rfl | exact h.elim
theorem apply_arith (sg : String) (hs : sg = "+" ∨ sg = "-" ∨ sg = "*" ∨ sg = "/") (a b : Vl) (ha : Vok a) (hb : Vok b) (na : noErr a) (nb : noErr b) : m_apply_operator [.str (Str.ofString sg), enc a, enc b] = some (.ok (ari sg (numIn a) (numIn b))) := by
  have e := calc_any sg hs a b ha hb
  apply wpA.eq
  rcases hs with h | h | h | h <;> subst h <;> simp [m_apply_operator, b_apply_operator, is_error_spec, noErr_is na, noErr_is nb, number_in_spec, e]
theorem fits_int (x : Int) : wpA (m_l_fits [.int x]) (· = nv x) := ⟨_, fits_spec x, rfl⟩
@[simp] theorem e_inSL (x : Str) (ds : List D) : inD (.str x) (.lst ds) = if (shp (.str x) && shp (.lst ds)) = true then some (ds.any fun z => deq z (.str x)) else none := rfl
theorem operated_arith (sg : String) (hs : sg = "+" ∨ sg = "-" ∨ sg = "*" ∨ sg = "/") (a b : Vl) (ha : Vok a) (hb : Vok b) (na : noErr a) (nb : noErr b) : m_l_operated [.str (Str.ofString sg), enc a, enc b] = some (.ok (ari sg (numIn a) (numIn b))) := by
  apply wpA.eq
  have hA := as_number_spec a
  have hB := as_number_spec b
  have bA := bad_spec a
  have bB := bad_spec b
  rw [noErr_is na] at bA
  rw [noErr_is nb] at bB
  generalize enc a = A at *
  generalize enc b = B at *
  rcases numIn_cases a ha with h1 | ⟨x, h1, hx⟩ <;> rcases numIn_cases b hb with h2 | ⟨y, h2, hy⟩ <;> rw [h1] at hA ⊢ <;> rw [h2] at hB ⊢
  · rcases hs with h | h | h | h <;> subst h <;> simp [m_l_operated, b_l_operated, bA, bB, hA, hB, ari, er]
  · rcases hs with h | h | h | h <;> subst h <;> simp [m_l_operated, b_l_operated, bA, bB, hA, hB, ari, er]
  · rcases hs with h | h | h | h <;> subst h <;> simp [m_l_operated, b_l_operated, bA, bB, hA, hB, ari, er]
  · have q1 := quot_spec (x * y) 10000 (by decide) (by decide) (by decide)
    have q0 : quo (x * y) 10000 = rnd (x * y) 10000 := by unfold quo; rw [if_neg (by decide)]
    rw [q0] at q1
    have m1 : mulOk x y = true := mulOkR _ _ (by have := hy.1; omega) (by have := hy.2; omega)
    have m2 : mulOk x 10000 = true := mulOkR _ _ (by decide) (by decide)
    rcases hs with h | h | h | h <;> subst h
    · simp [m_l_operated, b_l_operated, bA, bB, hA, hB, ari, ar, fits_spec]
    · simp [m_l_operated, b_l_operated, bA, bB, hA, hB, ari, ar, fits_spec]
    · simp [m_l_operated, b_l_operated, bA, bB, hA, hB, ari, ar, fits_spec, m1, q1]
    · by_cases h0 : y = 0
      · subst h0
        simp [m_l_operated, b_l_operated, bA, bB, hA, hB, ari, ar, er]
      · have q2 := quot_spec (x * 10000) y h0 (by have := hy.2; omega) (by have := hy.1; omega)
        simp [m_l_operated, b_l_operated, bA, bB, hA, hB, ari, ar, fits_spec, m2, q2, h0]
/-- what an operator makes of two values -/
def opR (sg : String) (a b : Vl) : D := if isErr a = true then enc a else if isErr b = true then enc b else
  if sg = "&" then tv (txtIn a ++ txtIn b) else if sg = "=" then .tup [.str (Str.ofString "bool"), .bl ((eqD (enc a) (enc b)).getD false)] else if sg = "!=" then .tup [.str (Str.ofString "bool"), .bl (!(eqD (enc a) (enc b)).getD false)]
  else if sg = "<" then cmpR false a b else if sg = "<=" then cmpR true a b else ari sg (numIn a) (numIn b)
def signs : List String := ["+", "-", "*", "/", "&", "=", "!=", "<", "<="]
theorem err_or (v : Vl) : isErr v = true ∨ noErr v := by cases v <;> first | exact .inl rfl | exact .inr trivial
theorem apply_spec (sg : String) (hs : sg ∈ signs) (a b : Vl) (ha : Vok a) (hb : Vok b) : m_apply_operator [.str (Str.ofString sg), enc a, enc b] = some (.ok (opR sg a b)) := by
  unfold opR
  rcases err_or a with ea | na
  · rw [if_pos ea]
    apply wpA.eq
    simp [m_apply_operator, b_apply_operator, is_error_spec, ea]
  · rw [if_neg (by rw [noErr_is na]; decide)]
    rcases err_or b with eb | nb
    · rw [if_pos eb]
      apply wpA.eq
      simp [m_apply_operator, b_apply_operator, is_error_spec, eb, noErr_is na]
    · rw [if_neg (by rw [noErr_is nb]; decide)]
      obtain ⟨q, hq⟩ := eq_enc a b ha hb
      have hl : (txtIn a).length + (txtIn b).length ≤ 1000000 := by have := txt_len a ha; have := txt_len b hb; omega
      have e1 := text_in_spec a ha
      have e2 := text_in_spec b hb
      have e3 := text_value_spec (txtIn a ++ txtIn b) (by rw [List.length_append]; exact hl)
      have c0 := compared_spec false a b na nb
      have c1 := compared_spec true a b na nb
      simp only [Bool.false_eq_true, if_false, if_true] at c0 c1
      simp only [signs, List.mem_cons, List.not_mem_nil, or_false] at hs
      rcases hs with h | h | h | h | h | h | h | h | h
      · subst h; exact apply_arith _ (.inl rfl) a b ha hb na nb
      · subst h; exact apply_arith _ (.inr (.inl rfl)) a b ha hb na nb
      · subst h; exact apply_arith _ (.inr (.inr (.inl rfl))) a b ha hb na nb
      · subst h; exact apply_arith _ (.inr (.inr (.inr rfl))) a b ha hb na nb
      · subst h; apply wpA.eq; simp [m_apply_operator, b_apply_operator, is_error_spec, noErr_is na, noErr_is nb, e1, e2, e3, hl]
      · subst h; apply wpA.eq; simp [m_apply_operator, b_apply_operator, is_error_spec, noErr_is na, noErr_is nb, hq]
      · subst h; apply wpA.eq; simp [m_apply_operator, b_apply_operator, is_error_spec, noErr_is na, noErr_is nb, hq]
      · subst h; apply wpA.eq; simp [m_apply_operator, b_apply_operator, is_error_spec, noErr_is na, noErr_is nb, c0]
      · subst h; apply wpA.eq; simp [m_apply_operator, b_apply_operator, is_error_spec, noErr_is na, noErr_is nb, c1]
theorem operated_spec (sg : String) (hs : sg ∈ signs) (a b : Vl) (ha : Vok a) (hb : Vok b) : m_l_operated [.str (Str.ofString sg), enc a, enc b] = some (.ok (opR sg a b)) := by
  unfold opR
  rcases err_or a with ea | na
  · rw [if_pos ea]
    apply wpA.eq
    simp [m_l_operated, b_l_operated, bad_spec, ea]
  · rw [if_neg (by rw [noErr_is na]; decide)]
    rcases err_or b with eb | nb
    · rw [if_pos eb]
      apply wpA.eq
      simp [m_l_operated, b_l_operated, bad_spec, eb, noErr_is na]
    · rw [if_neg (by rw [noErr_is nb]; decide)]
      obtain ⟨q, hq⟩ := eq_enc a b ha hb
      have hl : (txtIn a).length + (txtIn b).length ≤ 1000000 := by have := txt_len a ha; have := txt_len b hb; omega
      have e1 := as_text_spec a ha
      have e2 := as_text_spec b hb
      have e3 := joined_spec (txtIn a ++ txtIn b) (by rw [List.length_append]; exact hl)
      have c0 := less_spec0 a b na nb
      have c1 := less_spec1 a b na nb
      simp only [signs, List.mem_cons, List.not_mem_nil, or_false] at hs
      rcases hs with h | h | h | h | h | h | h | h | h
      · subst h; exact operated_arith _ (.inl rfl) a b ha hb na nb
      · subst h; exact operated_arith _ (.inr (.inl rfl)) a b ha hb na nb
      · subst h; exact operated_arith _ (.inr (.inr (.inl rfl))) a b ha hb na nb
      · subst h; exact operated_arith _ (.inr (.inr (.inr rfl))) a b ha hb na nb
      · subst h; apply wpA.eq; simp [m_l_operated, b_l_operated, bad_spec, noErr_is na, noErr_is nb, e1, e2, e3, hl]
      · subst h; apply wpA.eq; cases q <;> simp [m_l_operated, b_l_operated, bad_spec, noErr_is na, noErr_is nb, hq]
      · subst h; apply wpA.eq; cases q <;> simp [m_l_operated, b_l_operated, bad_spec, noErr_is na, noErr_is nb, hq]
      · subst h; apply wpA.eq; simp [m_l_operated, b_l_operated, bad_spec, noErr_is na, noErr_is nb, c0]
      · subst h; apply wpA.eq; simp [m_l_operated, b_l_operated, bad_spec, noErr_is na, noErr_is nb, c1]
def Good (r : D) : Prop := eqD r r = some true ∧ ∃ t, dRepr r = some t ∧ eqD t t = some true
theorem rt_len (x : Str) (h : PyData.strOk x = true) : (reprText x).length ≤ 10 * x.length + 2 := by
  refine StrLaws.reprText_len x fun c hc => ?_
  unfold PyData.strOk at h
  rw [← Array.all_toList, List.all_eq_true] at h
  have := of_decide_eq_true (h c hc)
  have e : (1114112 : Nat) ≤ 16 ^ 8 := by decide
  omega
theorem good_tup (k : String) (x : D) (hk : (Str.ofString k).length ≤ 10) (h1 : okD x = true) (h2 : depD x = 0) (h3 : showD x = true) (h4 : rb x ≤ 10000) (h5 : deq x x = true) : Good (.tup [.str (Str.ofString k), x]) := by
  have hs : shp (.tup [.str (Str.ofString k), x]) = true := by simp [h1, h2]
  have hr := rt_len (Str.ofString k) (strOk_of k)
  have hd : showD (.tup [.str (Str.ofString k), x]) = true := by
    show (true && (showD x && true)) = true
    rw [h3]; rfl
  have hb : rb (.tup [.str (Str.ofString k), x]) ≤ 1000000 := by
    show ((reprText (Str.ofString k)).length + 2 + (rb x + 2 + 0)) + 3 ≤ 1000000
    omega
  refine ⟨?_, .str (reprD (.tup [.str (Str.ofString k), x])), ?_, by simp⟩
  · rw [e_eqTT, hs]
    simp [h5]
  · unfold dRepr
    rw [hs, hd, if_pos (by decide), if_pos hb]
theorem ks_len (k : String) : (Str.ofString k).length = k.toList.length := by rw [tx_ofString, tx_len, List.length_map]
theorem good_int (k : String) (n : Int) (hk : k.toList.length ≤ 10) (h : Small n) : Good (.tup [.str (Str.ofString k), .int n]) := by
  have hn : n.natAbs.log2 < 1920 := log_ok (by have := h.1; have := h.2; omega)
  refine good_tup k _ (by rw [ks_len]; exact hk) rfl rfl (decide_eq_true hn) ?_ (by simp)
  show (intS n).length ≤ 10000
  have := int_text_length_le (k := 1920) (by decide) hn
  unfold intS
  rw [ofString_length]
  omega
theorem good_bl (k : String) (b : Bool) (hk : k.toList.length ≤ 10) : Good (.tup [.str (Str.ofString k), .bl b]) := good_tup k _ (by rw [ks_len]; exact hk) rfl rfl rfl (by show 5 ≤ 10000; decide) (by simp)
theorem good_str (k : String) (x : Str) (hk : k.toList.length ≤ 10) (hx : PyData.strOk x = true) (hl : x.length ≤ 100) : Good (.tup [.str (Str.ofString k), .str x]) := by
  refine good_tup k _ (by rw [ks_len]; exact hk) hx rfl rfl ?_ (by simp)
  show (reprText x).length ≤ 10000
  have := rt_len x hx
  omega
theorem good_er (k : String) (h : k.toList.length ≤ 10) : Good (er k) := good_str "error" _ (by decide) (strOk_of k) (by rw [ks_len]; omega)
theorem good_nv (n : Int) : Good (nv n) := by
  unfold nv
  split
  · exact good_int "num" n (by decide) ‹_›
  · exact good_er "range" (by decide)
theorem good_ari (sg : String) (a b : D) : Good (ari sg a b) := by
  unfold ari
  split
  · unfold ar
    split
    · exact good_nv _
    · split
      · exact good_nv _
      · split
        · exact good_nv _
        · split
          · exact good_er "zero" (by decide)
          · exact good_nv _
  · exact good_er "value" (by decide)
theorem good_ltR (le : Bool) (x y : Vl) : Good (ltR le x y) := by
  unfold ltR
  split
  · exact good_bl _ _ (by decide)
  · exact good_bl _ _ (by decide)
  · exact good_bl _ _ (by decide)
  · exact good_er "value" (by decide)
theorem good_cmp (le : Bool) (a b : Vl) : Good (cmpR le a b) := by
  unfold cmpR
  split
  · exact good_bl _ _ (by decide)
  · exact good_ltR _ _ _
theorem txt_ok (v : Vl) (h : Vok v) (ne : noErr v) : ∀ c ∈ txtIn v, c < 1114112 := by
  intro c hc
  cases v with
  | non => simp [txtIn] at hc
  | num n =>
    have hd := (decs_spec (n.natAbs / 10000)).1
    have hp := pad4_digits (n.natAbs % 10000) (Nat.mod_lt _ (by decide))
    have hc : c ∈ sgn n ++ shown n.natAbs := hc
    unfold shown sgn at hc
    rw [List.mem_append, List.mem_append] at hc
    rcases hc with hc | hc | hc
    · split at hc
      · simp at hc; omega
      · simp at hc
    · have := hd c hc; omega
    · split at hc
      · simp at hc
      · rcases List.mem_cons.mp hc with e | e
        · omega
        · have := hp c (rstrip_mem e); omega
  | text l => exact h.2 c hc
  | bool b => cases b <;> simp [txtIn] at hc <;> omega
  | err k => exact ne.elim
theorem good_op (sg : String) (a b : Vl) (ha : Vok a) (hb : Vok b) : Good (opR sg a b) := by
  unfold opR
  rcases err_or a with ea | na
  · rw [if_pos ea]
    cases a with
    | err k => exact good_er k ha
    | _ => cases ea
  · rw [if_neg (by rw [noErr_is na]; decide)]
    rcases err_or b with eb | nb
    · rw [if_pos eb]
      cases b with
      | err k => exact good_er k hb
      | _ => cases eb
    · rw [if_neg (by rw [noErr_is nb]; decide)]
      split
      · unfold tv
        split
        · exact good_er "range" (by decide)
        · rename_i hl
          refine good_str "text" _ (by decide) (strOk_tx _ fun c hc => ?_) (by rw [tx_len]; omega)
          rw [List.mem_append] at hc
          rcases hc with hc | hc
          · exact txt_ok a ha na c hc
          · exact txt_ok b hb nb c hc
      · split
        · exact good_bl _ _ (by decide)
        · split
          · exact good_bl _ _ (by decide)
          · split
            · exact good_cmp _ _ _
            · split
              · exact good_cmp _ _ _
              · exact good_ari _ _ _
def negR (v : Vl) : D := if isErr v = true then enc v else match numIn v with
  | .int x => nv (-x)
  | _ => er "value"
theorem good_neg (v : Vl) (h : Vok v) : Good (negR v) := by
  unfold negR
  rcases err_or v with e | n
  · rw [if_pos e]
    cases v with
    | err k => exact good_er k h
    | _ => cases e
  · rw [if_neg (by rw [noErr_is n]; decide)]
    split
    · exact good_nv _
    · exact good_er "value" (by decide)
theorem negated_spec (v : Vl) (h : Vok v) : m_negated [enc v] = some (.ok (negR v)) := by
  apply wpA.eq
  have e1 := is_error_spec v
  have e2 := number_in_spec v
  unfold negR
  rcases err_or v with e | n
  · rw [if_pos e]; rw [e] at e1; simp [m_negated, b_negated, e1]
  · rw [noErr_is n] at e1 ⊢
    rw [if_neg (by decide)]
    rcases numIn_cases v h with q | ⟨x, q, _⟩ <;> rw [q] at e2 ⊢ <;> simp [m_negated, b_negated, e1, e2, k_WRONG_VALUE, er, number_value_spec]
theorem minus_spec (v : Vl) (h : Vok v) : m_l_minus [enc v] = some (.ok (negR v)) := by
  apply wpA.eq
  have e1 := bad_spec v
  have e2 := as_number_spec v
  unfold negR
  rcases err_or v with e | n
  · rw [if_pos e]; rw [e] at e1; simp [m_l_minus, b_l_minus, e1]
  · rw [noErr_is n] at e1 ⊢
    rw [if_neg (by decide)]
    rcases numIn_cases v h with q | ⟨x, q, hx⟩ <;> rw [q] at e2 ⊢
    · simp [m_l_minus, b_l_minus, e1, e2, er]
    · have hv : nv (-x) = .tup [.str (Str.ofString "num"), .int (-x)] := by unfold nv; rw [if_pos (by have := hx.1; have := hx.2; omega)]
      simp [m_l_minus, b_l_minus, e1, e2, hv]
theorem take_eq : m_l_take = takeM := rfl
theorem state_eq : m_l_state = stateM := rfl
theorem v_tx (s : String) : Str.ofString s = tx (s.toList.map Char.toNat) := tx_ofString s
def TXS : List (List Nat) := [[], [97], [98], [97, 98], [84, 82, 85, 69], [49], List.replicate 60 122, [66], List.replicate 30 120]
theorem u_a : Str.ofString "a" = tx [97] := by rw [tx_ofString]; rfl
theorem u_b : Str.ofString "b" = tx [98] := by rw [tx_ofString]; rfl
theorem u_ab : Str.ofString "ab" = tx [97, 98] := by rw [tx_ofString]; rfl
theorem u_1 : Str.ofString "1" = tx [49] := by rw [tx_ofString]; rfl
theorem u_z : Str.ofString "z" = tx [122] := by rw [tx_ofString]; rfl
theorem u_B : Str.ofString "B" = tx [66] := by rw [tx_ofString]; rfl
theorem u_x : Str.ofString "x" = tx [120] := by rw [tx_ofString]; rfl
theorem u_z60 : repS (tx [122]) 60 = tx (List.replicate 60 122) := rep_tx 122 60
theorem u_x30 : repS (tx [120]) 30 = tx (List.replicate 30 120) := rep_tx 120 30
theorem wp_value {n : Nat} {sv : DV} {M : List O} {P : DV → List O → Prop} (h : Dr n sv M) (k : ∀ v M', Dr n sv M' → Vok v → P (.p (enc v)) M') : wpB (m_l_value [sv] M) P := by
  simp [m_l_value, b_l_value, take_eq]
  refine wp_take h (by decide) fun r M1 d1 _ b1 => ?_
  have b1 := b1 (by decide)
  have hM : ∀ {M2}, Dr n sv M2 → M2.length = M.length := fun d => by rw [d.len, h.len]
  simp
  refine ⟨fun h0 => ?_, fun h0 => ⟨fun h4 => ?_, fun h4 => ⟨fun h5 => ?_, fun h5 => ⟨fun h7 => ?_, fun h7 => ⟨fun h8 => ?_, fun h8 => ?_⟩⟩⟩⟩⟩
  · rw [dropM_len (hM d1)]; exact k .non _ d1 trivial
  · refine wp_take d1 (by decide) fun q M2 d2 _ q1 => ?_
    have q1 := q1 (by decide)
    obtain ⟨z, hz, mz⟩ := at_mem (xs := [D.int 0, .int 10000, .int (-10000), .int 25000, .int 1, .int (-1), .int 1000000000000000, .int (-1000000000000000), .int 30000, .int 100000]) q1.1 q1.2
    simp only [List.mem_cons, List.not_mem_nil, or_false] at mz
    rcases mz with m | m | m | m | m | m | m | m | m | m <;> subst m <;> simp [hz, dropM_len (hM d2)] <;> exact k (.num _) _ d2 (by unfold Vok; omega)
  · refine wp_take d1 (by decide) fun q M2 d2 _ q1 => ?_
    have q1 := q1 (by decide)
    simp [dropM_len (hM d2)]
    exact k (.num _) _ d2 (by unfold Vok; omega)
  · simp [t_nil, u_a, u_b, u_ab, t_TRUE, u_1, u_z, u_B, u_x, u_z60, u_x30]
    refine wp_take d1 (by decide) fun q M2 d2 _ q1 => ?_
    have q1 := q1 (by decide)
    obtain ⟨z, hz, mz⟩ := at_mem (xs := TXS.map fun l => D.str (tx l)) q1.1 q1.2
    have hz' := hz
    obtain ⟨l, ml, rfl⟩ := List.mem_map.mp mz
    simp [TXS] at hz'
    simp [hz', dropM_len (hM d2)]
    exact k (.text l) _ d2 ((by decide : ∀ l ∈ TXS, l.length ≤ 60 ∧ ∀ c ∈ l, c < 1114112) l ml)
  · refine wp_take d1 (by decide) fun q M2 d2 _ q1 => ?_
    simp [dropM_len (hM d2)]
    exact k (.bool _) _ d2 trivial
  · refine wp_take d1 (by decide) fun q M2 d2 _ q1 => ?_
    have q1 := q1 (by decide)
    obtain ⟨z, hz, mz⟩ := at_mem (xs := [D.str (Str.ofString "value"), .str (Str.ofString "zero"), .str (Str.ofString "range"), .str (Str.ofString "name"), .str (Str.ofString "cycle")]) q1.1 q1.2
    simp only [List.mem_cons, List.not_mem_nil, or_false] at mz
    rcases mz with m | m | m | m | m <;> subst m <;> simp [hz, dropM_len (hM d2)] <;> exact k (.err _) _ d2 (by show List.length _ ≤ 10; decide)
abbrev GoodR : D → Prop := (· = .bl true)
def InvO (n : Nat) (sv : DV) (x0 : Option DV) (s : S) : Prop := ∃ x2 x3 x4 x5 x6 M, s = ⟨[x0, some sv, x2, x3, x4, x5, x6], M⟩ ∧ Dr n sv M
def InvI (n : Nat) (sv : DV) (x0 x2 : Option DV) (a b : Vl) (s : S) : Prop := ∃ x5 x6 M, s = ⟨[x0, some sv, x2, some (.p (enc a)), some (.p (enc b)), x5, x6], M⟩ ∧ Dr n sv M
def signBody : SM := (sSeq (sAsg (mCallA 3 m_apply_operator (aCons (mVar 5) (aCons (mVar 3) (aCons (mVar 4) aNil)))) (gN 6))
  (sIf (mOr (mBin dNe (mVar 6) (mCallA 3 m_l_operated (aCons (mVar 5) (aCons (mVar 3) (aCons (mVar 4) aNil))))) (mBin dNe (mCB (g1 dRepr) (aCons (mVar 6) aNil)) (mCB (g1 dRepr) (aCons (mCallA 3 m_l_operated (aCons (mVar 5) (aCons (mVar 3) (aCons (mVar 4) aNil)))) aNil)))) (sRet (mC (.bl false))) sNil))
def tailBody : SM := sSeq (sFor (mItD itL (disp .lst (aCons (mC (.str (PySem.Str.ofString "+"))) (aCons (mC (.str (PySem.Str.ofString "-"))) (aCons (mC (.str (PySem.Str.ofString "*"))) (aCons (mC (.str (PySem.Str.ofString "/"))) (aCons (mC (.str (PySem.Str.ofString "&"))) (aCons (mC (.str (PySem.Str.ofString "="))) (aCons (mC (.str (PySem.Str.ofString "!="))) (aCons (mC (.str (PySem.Str.ofString "<"))) (aCons (mC (.str (PySem.Str.ofString "<="))) aNil))))))))))) (gN 5) signBody)
  (sIf (mBin dNe (mCallA 1 m_negated (aCons (mVar 3) aNil)) (mCallA 1 m_l_minus (aCons (mVar 3) aNil))) (sRet (mC (.bl false))) sNil)
theorem law_split : b_law_1 = sSeq (sFor (mRng rng1D (aCons (mC (.int 4)) aNil)) (gN 2) (sSeq (sPar 3 4 (aCons (mCallB 1 m_l_value (aCons (mVar 1) aNil)) (aCons (mCallB 1 m_l_value (aCons (mVar 1) aNil)) aNil)))
  (sSeq (sIf (mBin dEq (mCallB 2 m_l_take (aCons (mVar 1) (aCons (mC (.int 4)) aNil))) (mC (.int 0))) (sAsg (mVar 3) (gN 4)) sNil) tailBody))) b_law_2 := rfl
theorem tail_ok {n : Nat} {sv : DV} {M : List O} (h : Dr n sv M) (x0 x2 x5 x6 : Option DV) (a b : Vl) (ha : Vok a) (hb : Vok b) : wpS (tailBody ⟨[x0, some sv, x2, some (.p (enc a)), some (.p (enc b)), x5, x6], M⟩) (fun f s2 => (f = .nx ∧ InvO n sv x0 s2) ∨ (∃ v, f = .rt v ∧ False)) := by
  unfold tailBody
  rw [w_seq, e_for, w_lift]
  simp
  refine wpS.imp (w_loop (Inv := InvI n sv x0 x2 a b) (R := fun _ _ => False) _ _ ⟨_, _, _, rfl, h⟩ fun d hd s hs => ?_) fun f s2 hf => ?_
  · obtain ⟨y5, y6, M1, rfl, d1⟩ := hs
    obtain ⟨sg, hsg, rfl⟩ : ∃ sg ∈ signs, d = .p (.str (Str.ofString sg)) := by
      simp only [List.mem_cons, List.not_mem_nil, or_false] at hd
      rcases hd with e | e | e | e | e | e | e | e | e <;> subst e
      · exact ⟨"+", by decide, rfl⟩
      · exact ⟨"-", by decide, rfl⟩
      · exact ⟨"*", by decide, rfl⟩
      · exact ⟨"/", by decide, rfl⟩
      · exact ⟨"&", by decide, rfl⟩
      · exact ⟨"=", by decide, rfl⟩
      · exact ⟨"!=", by decide, rfl⟩
      · exact ⟨"<", by decide, rfl⟩
      · exact ⟨"<=", by decide, rfl⟩
    refine ⟨_, rfl, ?_⟩
    have e1 := apply_spec sg hsg a b ha hb
    have e2 := operated_spec sg hsg a b ha hb
    obtain ⟨g1, t, g2, g3⟩ := good_op sg a b ha hb
    generalize opR sg a b = r at *
    simp [signBody, e1, e2, g1, g2, g3]
    exact ⟨_, _, _, rfl, d1⟩
  · rcases hf with ⟨rfl, y5, y6, M1, rfl, d1⟩ | ⟨v, _, q⟩
    · have e1 := negated_spec a ha
      have e2 := minus_spec a ha
      obtain ⟨g1, _⟩ := good_neg a ha
      generalize negR a = r at *
      simp [e1, e2, g1]
      exact ⟨_, _, _, _, _, _, rfl, d1⟩
    · exact q.elim
theorem law_loop {n : Nat} {sv : DV} {M : List O} (h : Dr n sv M) (x0 : Option DV) : wpS (b_law_1 ⟨[x0, some sv, none, none, none, none, none], M⟩) (endA GoodR) := by
  rw [law_split, w_seq, e_for, w_lift]
  have rng4 : rngOk 4 = true := by decide
  simp [rng4]
  refine wpS.imp (w_loop (Inv := InvO n sv x0) (R := fun _ _ => False) _ _ ⟨_, _, _, _, _, _, rfl, h⟩ fun d _ s hs => ?_) fun f s2 hf => ?_
  · obtain ⟨y2, y3, y4, y5, y6, M1, rfl, d1⟩ := hs
    refine ⟨_, rfl, ?_⟩
    simp [take_eq]
    refine wp_value d1 fun a M2 d2 ha => ?_
    refine wp_value d2 fun b M3 d3 hb => ?_
    refine wp_take d3 (by decide) fun q M4 d4 _ q1 => ?_
    simp
    exact ⟨fun _ => by simpa using tail_ok d4 x0 (some d) y5 y6 a a ha ha, fun _ => by simpa using tail_ok d4 x0 (some d) y5 y6 a b ha hb⟩
  · rcases hf with ⟨rfl, y2, y3, y4, y5, y6, M1, rfl, d1⟩ | ⟨v, _, q⟩
    · simp [b_law_2]
    · exact q.elim
theorem law_ok (ns : List Int) (hl : ns.length ≤ 63) (hb : ∀ z ∈ ns, Builtin.Int.intBits z ≤ 1048576) : m_law [.scr (ns.map .int)] = some (.ok (.bl true)) := by
  obtain ⟨n, sv, M0, es, d0⟩ := state_spec ns hl
  apply wpA.eq
  simp [m_law, b_law, state_eq, es]
  exact law_loop d0 _
end Law

open PySem PySem.W PyProof.Rows in
set_option maxRecDepth 100000 in
set_option maxHeartbeats 0 in
theorem PySem.Challenge.cw_labelgrid_k09_operators_on_values_holds : PySem.Challenge.rw_labelgrid_k09_operators_on_values.Holds := by
  w_on; o_law; k_head; (case hw => w_witness2)
  k_fill
  refine DL.walk_dlG (l := PySem.Challenge.rw_labelgrid_k09_operators_on_values) (k := 4) (x := "law") (qual := "law") (st := Law.s_law) (N := Law.n_law) (m := Law.b_law) rfl rfl ⟨rfl, by decide, by decide⟩ (fun w h Y => PySem.W.kIn_of Y) Law.sc_law ?F Law.law_ok
  case F =>
    intro w mg fa h KX G hmg
    refine' Law.all_mk KX G hmg ?a0 ?l0 ?c0 ?k0 ?a1 ?l1 ?c1 ?k1 ?a2 ?l2 ?c2 ?k2 ?a3 ?l3 ?c3 ?k3 ?a4 ?l4 ?c4 ?k4 ?a5 ?l5 ?c5 ?k5 ?a6 ?l6 ?c6 ?k6 ?a7 ?l7 ?c7 ?k7 ?a8 ?l8 ?c8 ?k8 ?a9 ?l9 ?c9 ?k9 ?a10 ?l10 ?c10 ?k10 ?a11 ?l11 ?c11 ?k11 ?a12 ?l12 ?c12 ?k12 ?a13 ?l13 ?c13 ?k13 ?a14 ?l14 ?c14 ?k14 ?a15 ?l15 ?c15 ?k15 ?a16 ?l16 ?c16 ?k16 ?a17 ?l17 ?c17 ?k17 ?a18 ?l18 ?c18 ?k18 ?a19 ?l19 ?c19 ?k19 ?a20 ?l20 ?c20 ?k20 ?a21 ?l21 ?c21 ?k21 ?a22 ?l22 ?c22 ?k22 ?a23 ?l23 ?c23 ?k23 ?a24 ?l24 ?c24 ?k24 ?a25 ?l25 ?c25 ?k25 ?a26 ?l26 ?c26 ?k26 ?a27 ?l27 ?c27 ?k27 ?a28 ?l28 ?c28 ?k28 ?g_MOST ?g_UNIT ?g_WRONG_VALUE ?l_WRONG_VALUE ?g_PLACES ?g_LONGEST_TEXT ?g_BLANKS ?l_BLANKS ?kl_BLANKS ?i_BLANKS_0 ?i_BLANKS_1 ?i_BLANKS_2 ?z_abs ?z_int ?z_len ?z_range ?z_repr ?z_str
    (case a0 => k_is)
    (case l0 => k_is)
    (case c0 => k_is)
    (case k0 => k_is)
    (case a1 => k_is)
    (case l1 => k_is)
    (case c1 => k_is)
    (case k1 => k_is)
    (case a2 => k_is)
    (case l2 => k_is)
    (case c2 => k_is)
    (case k2 => k_is)
    (case a3 => k_is)
    (case l3 => k_is)
    (case c3 => k_is)
    (case k3 => k_is)
    (case a4 => k_is)
    (case l4 => k_is)
    (case c4 => k_is)
    (case k4 => k_is)
    (case a5 => k_is)
    (case l5 => k_is)
    (case c5 => k_is)
    (case k5 => k_is)
    (case a6 => k_is)
    (case l6 => k_is)
    (case c6 => k_is)
    (case k6 => k_is)
    (case a7 => k_is)
    (case l7 => k_is)
    (case c7 => k_is)
    (case k7 => k_is)
    (case a8 => k_is)
    (case l8 => k_is)
    (case c8 => k_is)
    (case k8 => k_is)
    (case a9 => k_is)
    (case l9 => k_is)
    (case c9 => k_is)
    (case k9 => k_is)
    (case a10 => k_is)
    (case l10 => k_is)
    (case c10 => k_is)
    (case k10 => k_is)
    (case a11 => k_is)
    (case l11 => k_is)
    (case c11 => k_is)
    (case k11 => k_is)
    (case a12 => k_is)
    (case l12 => k_is)
    (case c12 => k_is)
    (case k12 => k_is)
    (case a13 => k_is)
    (case l13 => k_is)
    (case c13 => k_is)
    (case k13 => k_is)
    (case a14 => k_is)
    (case l14 => k_is)
    (case c14 => k_is)
    (case k14 => k_is)
    (case a15 => k_is)
    (case l15 => k_is)
    (case c15 => k_is)
    (case k15 => k_is)
    (case a16 => k_is)
    (case l16 => k_is)
    (case c16 => k_is)
    (case k16 => k_is)
    (case a17 => k_is)
    (case l17 => k_is)
    (case c17 => k_is)
    (case k17 => k_is)
    (case a18 => k_is)
    (case l18 => k_is)
    (case c18 => k_is)
    (case k18 => k_is)
    (case a19 => k_is)
    (case l19 => k_is)
    (case c19 => k_is)
    (case k19 => k_is)
    (case a20 => k_is)
    (case l20 => k_is)
    (case c20 => k_is)
    (case k20 => k_is)
    (case a21 => k_is)
    (case l21 => k_is)
    (case c21 => k_is)
    (case k21 => k_is)
    (case a22 => k_is)
    (case l22 => k_is)
    (case c22 => k_is)
    (case k22 => k_is)
    (case a23 => k_is)
    (case l23 => k_is)
    (case c23 => k_is)
    (case k23 => k_is)
    (case a24 => k_is)
    (case l24 => k_is)
    (case c24 => k_is)
    (case k24 => k_is)
    (case a25 => k_is)
    (case l25 => k_is)
    (case c25 => k_is)
    (case k25 => k_is)
    (case a26 => k_is)
    (case l26 => k_is)
    (case c26 => k_is)
    (case k26 => k_is)
    (case a27 => k_is)
    (case l27 => k_is)
    (case c27 => k_is)
    (case k27 => k_is)
    (case a28 => k_is)
    (case l28 => k_is)
    (case c28 => k_is)
    (case k28 => k_is)
    (case g_MOST => k_is)
    (case g_UNIT => k_is)
    (case g_WRONG_VALUE => k_is)
    (case l_WRONG_VALUE => k_is)
    (case g_PLACES => k_is)
    (case g_LONGEST_TEXT => k_is)
    (case g_BLANKS => k_is)
    (case l_BLANKS => k_is)
    (case kl_BLANKS => exact ⟨⟨_, _, rfl, rfl⟩, ⟨_, _, rfl, rfl⟩, ⟨_, _, rfl, rfl⟩, trivial⟩)
    (case i_BLANKS_0 => k_is)
    (case i_BLANKS_1 => k_is)
    (case i_BLANKS_2 => k_is)
    (case z_abs => k_is)
    (case z_int => k_is)
    (case z_len => k_is)
    (case z_range => k_is)
    (case z_repr => k_is)
    (case z_str => k_is)

