import PyProof.Rows.All
import Wide.All
import OpenK.AllK
import Wide.FinOn
import HandS.ForMost
import HandS.ForExc
import HandS.Wide
import HandS.Comp
import HandS.IsInst
import HandS.EndBits
import HandS.Text
import HandS.StrMore
import HandS.FStr
import HandS.Replace
import HandS.Deep
import HandS.RaiseMore
import PyProof.StrOps2
import PyProof.Rows.StrPadFill
import PyProof.StrLawsTight
import PyProof.StrLawsChain
import PyProof.Rows.StrItems
import PyProof.Rows.StrCut
import PyProof.Rows.StrPadWhole
import KE.IntTextLaws
import PyProof.ReprRoads
import PyProof.ReprLen
import PyProof.Rows.StrReprFit
import HandS.Style
import PyProof.Rows.RuleB_bool
import PyProof.Rows.SeqMore
import HandS.Dict
import HandS.More
import KE.SortKeyHeap
import HandS.ExcValue
import HandS.SortKw
import HandS.Sort
import PySem.Challenge.RW_labelgrid_k67_ledgers_are_judged
set_option Elab.async false
set_option linter.all false
set_option autoImplicit false
set_option maxRecDepth 100000
set_option maxHeartbeats 4000000
namespace DL
open PySem L2
/-! data, values with objects of one's own, objects -/
inductive D where
  | non | bl (b : Bool) | int (i : Int) | str (s : Str)
  | tup (xs : List D) | ktup (xs : List D) | lst (xs : List D) | klst (xs : List D) | dK (kvs : List (Key × D)) | dT (kvs : List (List Key × D)) | fn (a : Addr) | scr (xs : List D) | ty (n : String) | rng (lo hi : Int)
inductive DV where
  | p (d : D) | o (n : Nat)
inductive O where
  | lst (xs : List DV) | dK (kvs : List (Key × DV)) | dT (kvs : List (List Key × DV)) | ins (C : Addr) (fs : List (Str × DV)) | gone
inductive Rs (α : Type) where
  | ok (v : α) (M : List O) | ex (c : Addr) (fs : List (Str × D)) (M : List O)
structure S where
  l : List (Option DV)
  m : List O
mutual
inductive Rep (K : PySem.W.Frag) (Z : Hp) : V → D → Prop
  | non : Rep K Z .non .non
  | bl (b : Bool) : Rep K Z (.bl b) (.bl b)
  | int (i : Int) : Rep K Z (.int i) (.int i)
  | str (x : Str) : Rep K Z (.str x) (.str x)
  | lst {a : Addr} {xs : List V} {ds : List D} : Rd Z a (.lst xs) → RepA K Z xs ds → Rep K Z (.ref a) (.lst ds)
  | tup {a : Addr} {xs : List V} {ds : List D} : Z a = some (.tup xs) → RepA K Z xs ds → Rep K Z (.ref a) (.tup ds)
  | ktup {a : Addr} {xs : List V} {ds : List D} : SqT K Z a xs → RepA K Z xs ds → Rep K Z (.ref a) (.ktup ds)
  | klst {a : Addr} {xs : List V} {ds : List D} : SqL K Z a xs → RepA K Z xs ds → Rep K Z (.ref a) (.klst ds)
  | dK {a : Addr} {ks : List (Key × V)} {ds : List (Key × D)} : Z a = some (.dK ks) → RepK K Z ks ds → Rep K Z (.ref a) (.dK ds)
  | dT {a : Addr} {ks : List (List Key × V)} {ds : List (List Key × D)} : Z a = some (.dT ks) → RepT K Z ks ds → Rep K Z (.ref a) (.dT ds)
  | fn (a : Addr) : Rep K Z (.ref a) (.fn a)
  | ty (n : String) : Rep K Z (.ty n) (.ty n)
  | rng {a : Addr} {lo hi : Int} : Z a = some (.rng lo hi) → Rep K Z (.ref a) (.rng lo hi)
  | scr {a : Addr} {xs : List V} {ds : List D} : SqL K Z a xs → RepA K Z xs ds → Rep K Z (.ref a) (.scr ds)
inductive RepA (K : PySem.W.Frag) (Z : Hp) : List V → List D → Prop
  | nil : RepA K Z [] []
  | cons {v : V} {vs : List V} {d : D} {ds : List D} : Rep K Z v d → RepA K Z vs ds → RepA K Z (v :: vs) (d :: ds)
inductive RepK (K : PySem.W.Frag) (Z : Hp) : List (Key × V) → List (Key × D) → Prop
  | nil : RepK K Z [] []
  | cons {k : Key} {v : V} {vs : List (Key × V)} {d : D} {ds : List (Key × D)} : Rep K Z v d → RepK K Z vs ds → RepK K Z ((k, v) :: vs) ((k, d) :: ds)
inductive RepT (K : PySem.W.Frag) (Z : Hp) : List (List Key × V) → List (List Key × D) → Prop
  | nil : RepT K Z [] []
  | cons {k : List Key} {v : V} {vs : List (List Key × V)} {d : D} {ds : List (List Key × D)} : Rep K Z v d → RepT K Z vs ds → RepT K Z ((k, v) :: vs) ((k, d) :: ds)
end
theorem same_l {K : PySem.W.Frag} {H H' : Hp} {a : Addr} {xs : List V} (e : Same H H') (h : SqL K H a xs) : SqL K H' a xs := e.seq h
theorem same_rd {H H' : Hp} {a : Addr} {u : HO} (e : Same H H') (h : Rd H a u) : Rd H' a u := by
  rcases h with h | ⟨o, h⟩
  · exact .inl (e a _ h)
  · exact .inr ⟨o, e a _ h⟩
theorem sqt {K : PySem.W.Frag} {H H' : Hp} {a : Addr} {xs : List V} (e : Same H H') (h : H a = some (.tup xs)) : SqT K H' a xs := .inl (.inl (e a _ h))
theorem same_t {K : PySem.W.Frag} {H H' : Hp} {a : Addr} {xs : List V} (e : Same H H') (h : SqT K H a xs) : SqT K H' a xs := by
  rcases h with (h | ⟨o, h⟩) | h
  · exact .inl (.inl (e a _ h))
  · exact .inl (.inr ⟨o, e a _ h⟩)
  · exact .inr h
section
variable {K : PySem.W.Frag} {Z Z' H H' : Hp}
mutual
theorem Rep.mono (e : Same Z Z') : ∀ {v : V} {d : D}, Rep K Z v d → Rep K Z' v d
  | _, _, .non => .non
  | _, _, .bl b => .bl b
  | _, _, .int i => .int i
  | _, _, .str x => .str x
  | _, _, .lst h r => .lst (same_rd e h) (RepA.mono e r)
  | _, _, .tup h r => .tup (e _ _ h) (RepA.mono e r)
  | _, _, .ktup h r => .ktup (same_t e h) (RepA.mono e r)
  | _, _, .klst h r => .klst (same_l e h) (RepA.mono e r)
  | _, _, .dK h r => .dK (e _ _ h) (RepK.mono e r)
  | _, _, .dT h r => .dT (e _ _ h) (RepT.mono e r)
  | _, _, .fn a => .fn a
  | _, _, .ty n => .ty n
  | _, _, .rng h => .rng (e _ _ h)
  | _, _, .scr h r => .scr (same_l e h) (RepA.mono e r)
theorem RepA.mono (e : Same Z Z') : ∀ {v : List V} {d : List D}, RepA K Z v d → RepA K Z' v d
  | _, _, .nil => .nil
  | _, _, .cons h r => .cons (Rep.mono e h) (RepA.mono e r)
theorem RepK.mono (e : Same Z Z') : ∀ {v : List (Key × V)} {d : List (Key × D)}, RepK K Z v d → RepK K Z' v d
  | _, _, .nil => .nil
  | _, _, .cons h r => .cons (Rep.mono e h) (RepK.mono e r)
theorem RepT.mono (e : Same Z Z') : ∀ {v : List (List Key × V)} {d : List (List Key × D)}, RepT K Z v d → RepT K Z' v d
  | _, _, .nil => .nil
  | _, _, .cons h r => .cons (Rep.mono e h) (RepT.mono e r)
end
theorem RepA.length : ∀ {v : List V} {d : List D}, RepA K Z v d → v.length = d.length
  | _, _, .nil => rfl
  | _, _, .cons _ r => by rw [List.length_cons, List.length_cons, RepA.length r]
theorem RepA.get : ∀ {v : List V} {d : List D} {i : Nat} {x : D}, RepA K Z v d → d[i]? = some x → ∃ u, v[i]? = some u ∧ Rep K Z u x
  | _, _, _, _, .nil, e => by simp at e
  | _, _, 0, _, .cons h _, e => by simp at e; subst e; exact ⟨_, rfl, h⟩
  | _, _, i + 1, x, .cons _ r, e => by
    obtain ⟨u, h1, h2⟩ := RepA.get (i := i) (x := x) r (by simpa using e)
    exact ⟨u, by simpa using h1, h2⟩
theorem RepA.get' : ∀ {v : List V} {d : List D} {i : Nat} {u : V}, RepA K Z v d → v[i]? = some u → ∃ x, d[i]? = some x ∧ Rep K Z u x
  | _, _, _, _, .nil, e => by simp at e
  | _, _, 0, _, .cons h _, e => by simp at e; subst e; exact ⟨_, rfl, h⟩
  | _, _, i + 1, x, .cons _ r, e => by
    obtain ⟨u, h1, h2⟩ := RepA.get' (i := i) (u := x) r (by simpa using e)
    exact ⟨u, by simpa using h1, h2⟩
theorem RepA.append : ∀ {v w : List V} {d f : List D}, RepA K Z v d → RepA K Z w f → RepA K Z (v ++ w) (d ++ f)
  | _, _, _, _, .nil, s => s
  | _, _, _, _, .cons h r, s => .cons h (RepA.append r s)
theorem RepA.take : ∀ {v : List V} {d : List D} (n : Nat), RepA K Z v d → RepA K Z (v.take n) (d.take n)
  | _, _, 0, _ => .nil
  | _, _, _ + 1, .nil => .nil
  | _, _, n + 1, .cons h r => .cons h (RepA.take n r)
theorem RepA.drop : ∀ {v : List V} {d : List D} (n : Nat), RepA K Z v d → RepA K Z (v.drop n) (d.drop n)
  | _, _, 0, h => h
  | _, _, _ + 1, .nil => .nil
  | _, _, n + 1, .cons _ r => RepA.drop n r
/-! values with objects of one's own -/
def RepV (K : PySem.W.Frag) (Z : Hp) (I : List Addr) (v : V) : DV → Prop
  | .p d => Rep K Z v d
  | .o n => ∃ a, I[n]? = some a ∧ v = .ref a
abbrev RepVs (K : PySem.W.Frag) (Z : Hp) (I : List Addr) : List V → List DV → Prop := Paired (RepV K Z I)
theorem paired_len {α β : Type} {F : α → β → Prop} : ∀ {xs : List α} {ys : List β}, Paired F xs ys → xs.length = ys.length
  | _, _, .nil => rfl
  | _, _, .cons _ r => by rw [List.length_cons, List.length_cons, paired_len r]
theorem paired_get {α β : Type} {F : α → β → Prop} : ∀ {xs : List α} {ys : List β} {i : Nat} {y : β}, Paired F xs ys → ys[i]? = some y → ∃ x, xs[i]? = some x ∧ F x y
  | _, _, _, _, .nil, e => by simp at e
  | _, _, 0, _, .cons h _, e => by simp at e; subst e; exact ⟨_, rfl, h⟩
  | _, _, i + 1, x, .cons _ r, e => by
    obtain ⟨u, h1, h2⟩ := paired_get (i := i) (y := x) r (by simpa using e)
    exact ⟨u, by simpa using h1, h2⟩
theorem paired_set {α β : Type} {F : α → β → Prop} {x : α} {y : β} (h : F x y) : ∀ {xs : List α} {ys : List β} (i : Nat), Paired F xs ys → Paired F (xs.set i x) (ys.set i y)
  | _, _, _, .nil => .nil
  | _, _, 0, .cons _ r => .cons h r
  | _, _, i + 1, .cons q r => .cons q (paired_set h i r)
theorem paired_app {α β : Type} {F : α → β → Prop} : ∀ {xs zs : List α} {ys ws : List β}, Paired F xs ys → Paired F zs ws → Paired F (xs ++ zs) (ys ++ ws)
  | _, _, _, _, .nil, s => s
  | _, _, _, _, .cons h r, s => .cons h (paired_app r s)
theorem paired_imp {α β : Type} {F G : α → β → Prop} (k : ∀ a b, F a b → G a b) : ∀ {xs : List α} {ys : List β}, Paired F xs ys → Paired G xs ys
  | _, _, .nil => .nil
  | _, _, .cons h r => .cons (k _ _ h) (paired_imp k r)
def FRel (K : PySem.W.Frag) (Z : Hp) (I : List Addr) {κ : Type} (p : κ × V) (q : κ × DV) : Prop := p.1 = q.1 ∧ RepV K Z I p.2 q.2
def RepO (K : PySem.W.Frag) (Z : Hp) (I : List Addr) (H : Hp) (a : Addr) : O → Prop
  | .lst ds => ∃ xs, H a = some (.lst xs) ∧ RepVs K Z I xs ds
  | .dK ds => ∃ ks, H a = some (.dK ks) ∧ Paired (FRel K Z I) ks ds
  | .dT ds => ∃ ks, H a = some (.dT ks) ∧ Paired (FRel K Z I) ks ds
  | .ins C fs => ∃ dx vs, H a = some (.ins C dx vs) ∧ Paired (FRel K Z I) vs fs
  | .gone => True
structure Wf (K : PySem.W.Frag) (Z H : Hp) (I : List Addr) (M : List O) : Prop where
  sub : Same Z H
  len : I.length = M.length
  nd : I.Nodup
  tr : ∀ a ∈ I, H a ≠ none
  ob : ∀ (n : Nat) (a : Addr) (o : O), I[n]? = some a → M[n]? = some o → o ≠ .gone → Z a = none ∧ RepO K Z I H a o
structure Ext (Z H : Hp) (I : List Addr) (Z' H' : Hp) (I' : List Addr) : Prop where
  z : Same Z Z'
  i : ∃ t, I' = I ++ t
  fr : ∀ a o, H a = some o → a ∉ I → H' a = some o
  nw : ∀ a ∈ I', a ∈ I ∨ H a = none
  zn : ∀ a, Z' a ≠ none → Z a ≠ none ∨ H a = none ∨ a ∈ I
  tr : ∀ a, H a ≠ none → H' a ≠ none
end
theorem Ext.refl {Z H : Hp} {I : List Addr} : Ext Z H I Z H I := ⟨Same.refl Z, ⟨[], by simp⟩, fun _ _ h _ => h, fun _ h => .inl h, fun _ h => .inl h, fun _ h => h⟩
theorem Ext.mem {Z H Z1 H1 : Hp} {I I1 : List Addr} (a : Ext Z H I Z1 H1 I1) {b : Addr} (h : b ∈ I) : b ∈ I1 := by
  obtain ⟨t, rfl⟩ := a.i
  exact List.mem_append_left _ h
theorem Ext.trans {Z H Z1 H1 Z2 H2 : Hp} {I I1 I2 : List Addr} (a : Ext Z H I Z1 H1 I1) (b : Ext Z1 H1 I1 Z2 H2 I2) : Ext Z H I Z2 H2 I2 where
  z := a.z.trans b.z
  i := by
    obtain ⟨t, e⟩ := a.i
    obtain ⟨u, f⟩ := b.i
    exact ⟨t ++ u, by rw [f, e, List.append_assoc]⟩
  fr := fun c o h n => b.fr c o (a.fr c o h n) fun m => by
    rcases a.nw c m with k | k
    · exact n k
    · rw [h] at k; cases k
  nw := fun c m => by
    rcases b.nw c m with k | k
    · exact a.nw c k
    · right
      cases e : H c with
      | none => rfl
      | some o => exact absurd k (a.tr c (by rw [e]; simp))
  zn := fun c h => by
    rcases b.zn c h with k | k | k
    · exact a.zn c k
    · right; left
      cases e : H c with
      | none => rfl
      | some o => exact absurd k (a.tr c (by rw [e]; simp))
    · rcases a.nw c k with q | q
      · exact .inr (.inr q)
      · exact .inr (.inl q)
  tr := fun c h => b.tr c (a.tr c h)
section
variable {K : PySem.W.Frag} {Z H Z' H' : Hp} {I I' : List Addr}
theorem RepV.mono (e : Ext Z H I Z' H' I') {v : V} : ∀ {d : DV}, RepV K Z I v d → RepV K Z' I' v d
  | .p _, h => Rep.mono e.z h
  | .o n, ⟨a, h, q⟩ => by
    obtain ⟨t, rfl⟩ := e.i
    exact ⟨a, by rw [List.getElem?_append_left (List.getElem?_eq_some_iff.mp h).1]; exact h, q⟩
theorem RepV.mono' (z : Same Z Z') {v : V} : ∀ {d : DV}, RepV K Z I v d → RepV K Z' I v d
  | .p _, h => Rep.mono z h
  | .o _, h => h
/-- a pure step: nothing of one's own is touched -/
structure ExtP (Z H Z' H' : Hp) : Prop where
  z : Same Z Z'
  h : Same H H'
  sub : Same Z' H'
  zn : ∀ a, Z' a ≠ none → Z a ≠ none ∨ H a = none
theorem ExtP.refl (h : Same Z H) : ExtP Z H Z H := ⟨Same.refl _, Same.refl _, h, fun _ h => .inl h⟩
theorem ExtP.trans {Z2 H2 : Hp} (a : ExtP Z H Z' H') (b : ExtP Z' H' Z2 H2) : ExtP Z H Z2 H2 := ⟨a.z.trans b.z, a.h.trans b.h, b.sub, fun c h => by
  rcases b.zn c h with k | k
  · exact a.zn c k
  · exact .inr (a.h.free k)⟩
theorem none_of {Z H : Hp} (s : Same Z H) {p : Addr} (h : H p = none) : Z p = none := s.free h
theorem same_upd {H : Hp} {p : Addr} {o : HO} (h : H p = none) : Same H (upd H p o) := fun a u e => by
  rw [upd_ne (ne_of_none e h)]; exact e
theorem ExtP.new {p : Addr} {o : HO} (s : Same Z H) (h : H p = none) : ExtP Z H (upd Z p o) (upd H p o) := by
  refine ⟨same_upd (none_of s h), same_upd h, fun a u e => ?_, fun a e => ?_⟩
  · by_cases q : a = p
    · subst q; rw [upd_same] at e ⊢; exact e
    · rw [upd_ne q] at e ⊢; exact s a u e
  · by_cases q : a = p
    · subst q; exact .inr h
    · rw [upd_ne q] at e; exact .inl e
theorem RepO.mono {a : Addr} (z : Same Z Z') (ha : H' a = H a) : ∀ {o : O}, RepO K Z I H a o → RepO K Z' I H' a o
  | .lst _, ⟨xs, h, r⟩ => ⟨xs, ha.trans h, paired_imp (fun _ _ q => RepV.mono' z q) r⟩
  | .dK _, ⟨xs, h, r⟩ => ⟨xs, ha.trans h, paired_imp (fun _ _ q => ⟨q.1, RepV.mono' z q.2⟩) r⟩
  | .dT _, ⟨xs, h, r⟩ => ⟨xs, ha.trans h, paired_imp (fun _ _ q => ⟨q.1, RepV.mono' z q.2⟩) r⟩
  | .ins _ _, ⟨dx, xs, h, r⟩ => ⟨dx, xs, ha.trans h, paired_imp (fun _ _ q => ⟨q.1, RepV.mono' z q.2⟩) r⟩
  | .gone, _ => trivial
theorem same_eq {H H' : Hp} (e : Same H H') {a : Addr} (h : H a ≠ none) : H' a = H a := by
  cases q : H a with
  | none => exact absurd q h
  | some o => exact e a o q
theorem Wf.extP {M : List O} (w : Wf K Z H I M) (e : ExtP Z H Z' H') : Wf K Z' H' I M where
  sub := e.sub
  len := w.len
  nd := w.nd
  tr := fun a h => by rw [same_eq e.h (w.tr a h)]; exact w.tr a h
  ob := fun n a o h1 h2 h3 => by
    obtain ⟨q1, q2⟩ := w.ob n a o h1 h2 h3
    have ha := w.tr a (List.mem_of_getElem? h1)
    refine ⟨?_, q2.mono e.z (same_eq e.h ha)⟩
    cases q : Z' a with
    | none => rfl
    | some u =>
      rcases e.zn a (by rw [q]; simp) with k | k
      · exact absurd q1 k
      · exact absurd k ha
theorem ExtP.ext {M : List O} (w : Wf K Z H I M) (e : ExtP Z H Z' H') : Ext Z H I Z' H' I := ⟨e.z, ⟨[], by simp⟩, fun a o h _ => e.h a o h, fun _ h => .inl h, fun a h => (e.zn a h).imp_right .inl, fun a h => by rw [same_eq e.h h]; exact h⟩
/-! ### slots -/
structure RepS (K : PySem.W.Frag) (Z : Hp) (I : List Addr) (σ : St) (l : List (Option DV)) : Prop where
  len : σ.length = l.length
  at_ : ∀ (i : Nat) (dv : DV), l[i]? = some (some dv) → ∃ v, σ[i]? = some (some v) ∧ RepV K Z I v dv
theorem RepS.mono {σ : St} {l : List (Option DV)} (r : RepS K Z I σ l) (e : Ext Z H I Z' H' I') : RepS K Z' I' σ l := ⟨r.len, fun i dv h => by
  obtain ⟨v, h1, h2⟩ := r.at_ i dv h
  exact ⟨v, h1, h2.mono e⟩⟩
theorem RepS.set {σ : St} {l : List (Option DV)} (r : RepS K Z I σ l) {v : V} {dv : DV} (h : RepV K Z I v dv) (i : Nat) : RepS K Z I (σ.set i (some v)) (l.set i (some dv)) := by
  refine ⟨by simpa using r.len, fun j dw e => ?_⟩
  by_cases q : i = j
  · subst q
    by_cases b : i < l.length
    · rw [List.getElem?_set_self b] at e
      cases e
      exact ⟨v, by rw [List.getElem?_set_self (by rw [r.len]; exact b)], h⟩
    · rw [List.getElem?_eq_none (by simpa using b)] at e; cases e
  · rw [List.getElem?_set_ne q] at e ⊢
    exact r.at_ j dw e
/-! ### what is wanted -/
def ExcAt (K : PySem.W.Frag) (Z H : Hp) (d : Option Addr) (fs : List (Str × D)) : Prop :=
  (d = none ∧ fs = []) ∨ ∃ a vs, d = some a ∧ H a = some (.xd vs) ∧ Paired (fun (p : Str × V) (q : Str × D) => p.1 = q.1 ∧ Rep K Z p.2 q.2) vs fs
def PostX (K : PySem.W.Frag) (W : WX) (Z H : Hp) (I : List Addr) (σ : St) (M' : List O) (c : Addr) (fs : List (Str × D)) : Prop :=
  ∀ d Z' H' I', Wf K Z' H' I' M' → Ext Z H I Z' H' I' → ExcAt K Z' H' d fs → (∀ a, d = some a → H a = none ∧ a ∉ I') → W (.ref c) d σ H'
theorem PostX.mono {W : WX} {σ : St} {M' : List O} {c : Addr} {fs : List (Str × D)} {Z1 H1 : Hp} {I1 : List Addr} (e : Ext Z H I Z1 H1 I1) (h : PostX K W Z H I σ M' c fs) : PostX K W Z1 H1 I1 σ M' c fs :=
  fun d Z' H' I' w x a n => h d Z' H' I' w (e.trans x) a fun b q => ⟨by
    cases z : H b with
    | none => rfl
    | some o => exact absurd (n b q).1 (e.tr b (by rw [z]; simp)), (n b q).2⟩
def PostR {α β : Type} (K : PySem.W.Frag) (W : WX) (R : Hp → List Addr → β → α → Prop) (Z H : Hp) (I : List Addr) (σ : St) (Q : β → Hp → Prop) : Rs α → Prop
  | .ok a M' => ∀ b Z' H' I', Wf K Z' H' I' M' → Ext Z H I Z' H' I' → R Z' I' b a → Q b H'
  | .ex c fs M' => PostX K W Z H I σ M' c fs
theorem PostR.mono {α β : Type} {W : WX} {R : Hp → List Addr → β → α → Prop} {σ : St} {Q : β → Hp → Prop} {Z1 H1 : Hp} {I1 : List Addr} (e : Ext Z H I Z1 H1 I1) : ∀ {r : Rs α}, PostR K W R Z H I σ Q r → PostR K W R Z1 H1 I1 σ Q r
  | .ok _ _, h => fun b Z' H' I' w x q => h b Z' H' I' w (e.trans x) q
  | .ex _ _ _, h => PostX.mono e h
theorem PostR.x {α β : Type} {W : WX} {R : Hp → List Addr → β → α → Prop} {σ : St} {Q : β → Hp → Prop} {r : Rs α} (h : PostR K W R Z H I σ Q r) (c : Addr) (fs : List (Str × D)) (M : List O) (e : r = .ex c fs M) : PostX K W Z H I σ M c fs := by
  subst e; exact h
abbrev Mi (α : Type) := S → Option (Rs α)
structure Sound {α β : Type} (K : PySem.W.Frag) (W : WX) (R : Hp → List Addr → β → α → Prop) (t : St → Hp → (β → Hp → Prop) → Prop) (m : Mi α) : Prop where
  ok : ∀ (σ : St) (H : Hp) (s : S) (Z : Hp) (I : List Addr) (r : Rs α) (Q : β → Hp → Prop), Wf K Z H I s.m → RepS K Z I σ s.l → m s = some r → PostR K W R Z H I σ Q r → t σ H Q
def bnd {α γ : Type} (m : Mi α) (k : α → Mi γ) : Mi γ := fun s => match m s with
  | some (.ok v M) => k v ⟨s.l, M⟩
  | some (.ex c f M) => some (.ex c f M)
  | none => none
theorem Sound.bnd {α β γ : Type} {W : WX} {R : Hp → List Addr → β → α → Prop} {t : St → Hp → (β → Hp → Prop) → Prop} {m : Mi α} (h : Sound K W R t m) {σ : St} {s : S} {k : α → Mi γ} {r : Rs γ} {Q : β → Hp → Prop}
    (w : Wf K Z H I s.m) (rs : RepS K Z I σ s.l) (e : DL.bnd m k s = some r) (hx : ∀ c fs M, r = .ex c fs M → PostX K W Z H I σ M c fs)
    (hk : ∀ a b M' Z' H' I', Wf K Z' H' I' M' → RepS K Z' I' σ s.l → Ext Z H I Z' H' I' → R Z' I' b a → k a ⟨s.l, M'⟩ = some r → Q b H') : t σ H Q := by
  unfold DL.bnd at e
  cases q : m s with
  | none => rw [q] at e; cases e
  | some r0 =>
    rw [q] at e
    cases r0 with
    | ok v M => exact h.ok σ H s Z I _ Q w rs q fun b Z' H' I' w' x' r' => hk v b M Z' H' I' w' (rs.mono x') x' r' e
    | ex c f M =>
      obtain rfl := Option.some.inj e
      exact h.ok σ H s Z I _ Q w rs q (hx c f M rfl)
abbrev EM := Mi DV
abbrev AM := Mi (List DV)
structure DE (K : PySem.W.Frag) (X : Cx) (W : WX) (e : Expr) (t : TE) (m : EM) : Prop where
  k : X.K = K
  pe : PE X e t
  so : Sound K W (RepV K) t m
def RepB (_ : Hp) (_ : List Addr) (b : Bool) (d : DV) : Prop := d = .p (.bl b)
structure DT (K : PySem.W.Frag) (X : Cx) (W : WX) (e : Expr) (t : TT) (m : EM) : Prop where
  k : X.K = K
  pt : PT X e t
  so : Sound K W RepB t m
structure DW (K : PySem.W.Frag) (X : Cx) (W : WX) (e : Expr) (t : TT) (m : EM) : Prop where
  k : X.K = K
  pw : PW X e t
  so : Sound K W RepB t m
structure DA (K : PySem.W.Frag) (X : Cx) (W : WX) (es : List Expr) (t : TA) (m : AM) : Prop where
  k : X.K = K
  pa : PA X es t
  so : Sound K W (RepVs K) t m
/-- statements -/
inductive Fl where
  | nx | rt (v : DV) | bk | ct | ex (c : Addr) (fs : List (Str × D))
abbrev SM := S → Option (Fl × S)
def PostS (K : PySem.W.Frag) (W : WX) (Z H : Hp) (I : List Addr) (D : Ends) : Fl × S → Prop
  | (.nx, s') => ∀ σ' Z' H' I', Wf K Z' H' I' s'.m → RepS K Z' I' σ' s'.l → Ext Z H I Z' H' I' → D.nx σ' H'
  | (.rt dv, s') => ∀ v Z' H' I', Wf K Z' H' I' s'.m → Ext Z H I Z' H' I' → RepV K Z' I' v dv → D.rt v H'
  | (.bk, s') => ∀ σ' Z' H' I', Wf K Z' H' I' s'.m → RepS K Z' I' σ' s'.l → Ext Z H I Z' H' I' → D.bk σ' H'
  | (.ct, s') => ∀ σ' Z' H' I', Wf K Z' H' I' s'.m → RepS K Z' I' σ' s'.l → Ext Z H I Z' H' I' → D.ct σ' H'
  | (.ex c fs, s') => ∀ σ' d Z' H' I', Wf K Z' H' I' s'.m → RepS K Z' I' σ' s'.l → Ext Z H I Z' H' I' → ExcAt K Z' H' d fs → (∀ a, d = some a → H a = none ∧ a ∉ I') → W (.ref c) d σ' H'
structure SoundS (K : PySem.W.Frag) (W : WX) (t : TS) (m : SM) : Prop where
  ok : ∀ (σ : St) (H : Hp) (s : S) (Z : Hp) (I : List Addr) (r : Fl × S) (D : Ends), Wf K Z H I s.m → RepS K Z I σ s.l → m s = some r → PostS K W Z H I D r → t D σ H
structure DS (K : PySem.W.Frag) (X : Cx) (W : WX) (st : Stmt) (t : TS) (m : SM) : Prop where
  k : X.K = K
  ps : PS X st t
  so : SoundS K W t m
structure DSs (K : PySem.W.Frag) (X : Cx) (W : WX) (st : List Stmt) (t : TS) (m : SM) : Prop where
  k : X.K = K
  ps : PSs X st t
  so : SoundS K W t m
end
end DL
namespace DL
open PySem L2
section
variable {K : PySem.W.Frag} {X : Cx} {W : WX} {e a b c : Expr} {pos : Pos}
/-! ### names, constants -/
def gv (l : List (Option DV)) (i : Nat) : Option DV := match l[i]? with
  | some (some d) => some d
  | _ => none
def mVar (i : Nat) : EM := fun s => match gv s.l i with
  | some d => some (.ok d s.m)
  | none => none
theorem gv_some {l : List (Option DV)} {i : Nat} {d : DV} (h : gv l i = some d) : l[i]? = some (some d) := by
  unfold gv at h
  split at h
  · cases h; assumption
  · cases h
theorem so_var {i : Nat} : Sound K W (RepV K) (tVar i) (mVar i) := ⟨fun σ H s Z I r Q w rs e p => by
  unfold mVar at e
  split at e
  · rename_i d hd
    obtain rfl := Option.some.inj e
    obtain ⟨v, h1, h2⟩ := rs.at_ i d (gv_some hd)
    exact ⟨v, h1, p v Z H I w Ext.refl h2⟩
  · cases e⟩
def mC (d : D) : EM := fun s => some (.ok (.p d) s.m)
theorem so_c {v : V} {d : D} (h : ∀ Z, Rep K Z v d) : Sound K W (RepV K) (tC v) (mC d) := ⟨fun σ H s Z I r Q w rs e p => by
  obtain rfl := Option.some.inj e
  exact p v Z H I w Ext.refl (h Z)⟩
theorem de_var (i : Nat) {x : Str} (k : X.K = K := by rfl) (hN : X.N[i]? = some x := by rfl) (hv : Vis X.env.scope x := by first | exact Or.inl rfl | exact Or.inr (Or.inl rfl) | exact Or.inr (Or.inr rfl)) (hd : (x == ("__debug__" : Str)) = false := by decide)
    (hcd : (x == ("__classdict__" : Str)) = false := by decide) : DE K X W (.Name x pos) (tVar i) (mVar i) := ⟨k, pe_var hN hv hd hcd, so_var⟩
theorem de_int {i : Int} {j} (k : X.K = K := by rfl) : DE K X W (.Constant (.int i) j pos) (tC (.int i)) (mC (.int i)) := ⟨k, pe_int, so_c fun _ => .int i⟩
theorem de_bl {i : Bool} {j} (k : X.K = K := by rfl) : DE K X W (.Constant (.bool i) j pos) (tC (.bl i)) (mC (.bl i)) := ⟨k, pe_bl, so_c fun _ => .bl i⟩
theorem de_non {j} (k : X.K = K := by rfl) : DE K X W (.Constant .none j pos) (tC .non) (mC .non) := ⟨k, pe_non, so_c fun _ => .non⟩
theorem de_str {x : Str} {j} (k : X.K = K := by rfl) : DE K X W (.Constant (.str x) j pos) (tC (.str x)) (mC (.str x)) := ⟨k, pe_str, so_c fun _ => .str x⟩
/-- a constant of the top: its value u, what it is -/
theorem de_glob {x : Str} {v : V} {u : Value} {d : D} (hm : X.mg x = some u) (r : RelV v u) (h : ∀ Z, Rep K Z v d) (k : X.K = K := by rfl) (hg : Gl X x := by rfl) (hd : (x == ("__debug__" : Str)) = false := by decide) :
    DE K X W (.Name x pos) (tC v) (mC d) := ⟨k, pe_glob hg hm r hd, so_c h⟩
/-! ### operations on data -/
def pur {γ : Type} (k : D → Mi γ) : DV → Mi γ
  | .p d, s => k d s
  | .o _, _ => none
/-- the value of an operation: at the heap as it is, or with new objects -/
def PostP (K : PySem.W.Frag) (Z H : Hp) (d : D) (Q : VK) : Prop := ∀ v Z' H', ExtP Z H Z' H' → Rep K Z' v d → Q v H'
def ret (o : Option D) : EM := fun s => match o with
  | some d => some (.ok (.p d) s.m)
  | none => none
theorem PostP.of {Z H : Hp} {I : List Addr} {σ : St} {Q : VK} {d : D} {M : List O} (w : Wf K Z H I M) (p : PostR K W (RepV K) Z H I σ Q (.ok (.p d) M)) : PostP K Z H d Q :=
  fun v Z' H' x r => p v Z' H' I (w.extP x) (x.ext w) r
structure OpD (K : PySem.W.Frag) (X : Cx) (f : Value → Value → Sem Value) (r : R2) (g : D → D → Option D) : Prop where
  op : X.K = K → OpR X f r
  ok : ∀ (x y : V) (d e c : D) (Z H : Hp) (Q : VK), Same Z H → Rep K Z x d → Rep K Z y e → g d e = some c → PostP K Z H c Q → r x y H Q
def mBin (g : D → D → Option D) (m n : EM) : EM := bnd m (pur fun d => bnd n (pur fun e => ret (g d e)))
theorem so_bin {r : R2} {g : D → D → Option D} {ta tb : TE} {m n : EM} (h : ∀ (x y : V) (d e c : D) (Z H : Hp) (Q : VK), Same Z H → Rep K Z x d → Rep K Z y e → g d e = some c → PostP K Z H c Q → r x y H Q)
    (ha : Sound K W (RepV K) ta m) (hb : Sound K W (RepV K) tb n) : Sound K W (RepV K) (tOp r ta tb) (mBin g m n) := ⟨fun σ H s Z I r0 Q w rs e p => by
  refine ha.bnd w rs e (p.x) fun d v M1 Z1 H1 I1 w1 rs1 x1 q1 e1 => ?_
  cases d with
  | o n => cases e1
  | p d =>
  have p1 := p.mono x1
  refine hb.bnd (s := ⟨s.l, M1⟩) w1 rs1 e1 (p1.x) fun d2 v2 M2 Z2 H2 I2 w2 rs2 x2 q2 e2 => ?_
  cases d2 with
  | o n => cases e2
  | p d2 =>
  have p2 := p1.mono x2
  have e3 : ret (g d d2) ⟨s.l, M2⟩ = some r0 := e2
  unfold ret at e3
  cases q : g d d2 with
  | none => rw [q] at e3; cases e3
  | some c =>
    rw [q] at e3
    obtain rfl := Option.some.inj e3
    exact h v v2 d d2 c Z2 H2 Q w2.sub (Rep.mono x2.z q1) q2 q (PostP.of w2 p2)⟩
theorem de_bin {op : Operator} {r : R2} {g : D → D → Option D} {ta tb : TE} {m n : EM} (h : OpD K X (binaryOp op) r g) (ha : DE K X W a ta m) (hb : DE K X W b tb n) : DE K X W (.BinOp a op b pos) (tOp r ta tb) (mBin g m n) :=
  ⟨ha.k, pe_op (h.op ha.k) ha.pe hb.pe, so_bin h.ok ha.so hb.so⟩
theorem de_cmp {op : CmpOp} {r : R2} {g : D → D → Option D} {ta tb : TE} {m n : EM} (h : OpD K X (compareOp op) r g) (ha : DE K X W a ta m) (hb : DE K X W b tb n) (hm : behindInMarks op b = false := by first | exact nomark _ | rfl) : DE K X W (.Compare a [op] [b] pos) (tOp r ta tb) (mBin g m n) :=
  ⟨ha.k, pe_cmpR (h.op ha.k) ha.pe hb.pe hm, so_bin h.ok ha.so hb.so⟩
theorem so_test {t : TE} {m : EM} (h : Sound K W (RepV K) t m) (hb : ∀ s r, m s = some r → ∀ v M, r = .ok v M → ∃ b, v = .p (.bl b)) : Sound K W RepB (tTest t) m := ⟨fun σ H s Z I r Q w rs e p => by
  refine h.ok σ H s Z I r _ w rs e ?_
  cases r with
  | ex c fs M => exact p
  | ok v M =>
    obtain ⟨b, rfl⟩ := hb s _ e v M rfl
    intro v Z' H' I' w' x' r'
    cases r'
    exact ⟨b, rfl, p b Z' H' I' w' x' rfl⟩⟩
/-- a result that is a truth -/
def boolD (g : D → D → Option D) : Prop := ∀ d e c, g d e = some c → ∃ b, c = .bl b
theorem bnd_ok {α γ : Type} {m : Mi α} {k : α → Mi γ} {s : S} {v : γ} {M : List O} (e : bnd m k s = some (.ok v M)) : ∃ a M1, m s = some (.ok a M1) ∧ k a ⟨s.l, M1⟩ = some (.ok v M) := by
  unfold bnd at e
  cases q : m s with
  | none => rw [q] at e; cases e
  | some r0 =>
    rw [q] at e
    cases r0 with
    | ok a M1 => exact ⟨a, M1, rfl, e⟩
    | ex c f M1 => cases e
theorem pur_ok {γ : Type} {k : D → Mi γ} {v : DV} {s : S} {r : Rs γ} (e : pur k v s = some r) : ∃ d, v = .p d ∧ k d s = some r := by
  cases v with
  | p d => exact ⟨d, rfl, e⟩
  | o n => cases e
theorem ret_ok {o : Option D} {s : S} {r : Rs DV} (e : ret o s = some r) : ∃ d, o = some d ∧ r = .ok (.p d) s.m := by
  cases o with
  | none => cases e
  | some d => exact ⟨d, rfl, (Option.some.inj e).symm⟩
theorem mBin_bool {g : D → D → Option D} {m n : EM} (hg : boolD g) (s : S) (r : Rs DV) (e : mBin g m n s = some r) (v : DV) (M : List O) (hr : r = .ok v M) : ∃ b, v = .p (.bl b) := by
  subst hr
  obtain ⟨a, M1, _, e⟩ := bnd_ok e
  obtain ⟨d, _, e⟩ := pur_ok e
  obtain ⟨a2, M2, _, e⟩ := bnd_ok e
  obtain ⟨d2, _, e⟩ := pur_ok e
  obtain ⟨c, q, e⟩ := ret_ok e
  cases e
  obtain ⟨b, rfl⟩ := hg _ _ _ q
  exact ⟨b, rfl⟩
theorem dt_cmp {op : CmpOp} {r : R2} {g : D → D → Option D} {ta tb : TE} {m n : EM} (h : OpD K X (compareOp op) r g) (hg : boolD g) (ha : DE K X W a ta m) (hb : DE K X W b tb n) (hm : behindInMarks op b = false := by first | exact nomark _ | rfl) : DT K X W (.Compare a [op] [b] pos) (tTest (tOp r ta tb)) (mBin g m n) :=
  ⟨ha.k, pt_cmpR (h.op ha.k) ha.pe hb.pe hm, so_test (so_bin h.ok ha.so hb.so) (mBin_bool hg)⟩
/-! the ints -/
def dI (g : Int → Int → Option D) : D → D → Option D
  | .int i, .int j => g i j
  | _, _ => none
theorem ok_rI {C : Int → Int → Prop} {h : Int → Int → V} {g : Int → Int → Option D} (hc : ∀ i j c, g i j = some c → C i j ∧ ∀ Z, Rep K Z (h i j) c) : ∀ (x y : V) (d e c : D) (Z H : Hp) (Q : VK), Same Z H → Rep K Z x d → Rep K Z y e → dI g d e = some c → PostP K Z H c Q → rI C h x y H Q := by
  intro x y d e c Z H Q s hx hy hg p
  unfold dI at hg
  split at hg
  · cases hx; cases hy
    obtain ⟨h1, h2⟩ := hc _ _ _ hg
    exact ⟨_, _, rfl, rfl, h1, p _ Z H (ExtP.refl s) (h2 Z)⟩
  · cases hg
theorem ok_rI0 {h : Int → Int → V} {g : Int → Int → Option D} (hc : ∀ i j c, g i j = some c → ∀ Z, Rep K Z (h i j) c) : ∀ (x y : V) (d e c : D) (Z H : Hp) (Q : VK), Same Z H → Rep K Z x d → Rep K Z y e → dI g d e = some c → PostP K Z H c Q → rI0 h x y H Q := by
  intro x y d e c Z H Q s hx hy hg p
  unfold dI at hg
  split at hg
  · cases hx; cases hy
    exact ⟨_, _, rfl, rfl, p _ Z H (ExtP.refl s) (hc _ _ _ hg Z)⟩
  · cases hg
abbrev dIi (g : Int → Int → Int) : D → D → Option D := dI fun i j => some (.int (g i j))
abbrev dIb (g : Int → Int → Bool) : D → D → Option D := dI fun i j => some (.bl (g i j))
def dAdd : D → D → Option D
  | .int i, .int j => some (.int (i + j))
  | .str x, .str y => if x.length + y.length ≤ 1000000 then some (.str (x ++ y)) else none
  | _, _ => none
theorem size_le {n : Nat} (h : n ≤ 1000000) : n ≤ sizeLine := Nat.le_trans h (by decide)
theorem size_lt {n : Nat} (h : n ≤ 1000000) : n < sizeLine := Nat.lt_of_le_of_lt h (by decide)
theorem od_add : OpD K X (binaryOp .Add) (fun x y H Q => rI0 (fun i j => .int (i + j)) x y H Q ∨ ∃ i j, x = .str i ∧ y = .str j ∧ i.length + j.length ≤ sizeLine ∧ Q (.str (i ++ j)) H) dAdd where
  op := fun _ pins s σ H x y v u Q I rx ry h => by
    rcases h with h | h
    · exact op_add pins s σ H x y v u Q I rx ry h
    · exact op_add_str pins s σ H x y v u Q I rx ry h
  ok := by
    intro x y d e c Z H Q s hx hy hg p
    unfold dAdd at hg
    split at hg
    · cases hx; cases hy; cases hg
      exact .inl ⟨_, _, rfl, rfl, p _ Z H (ExtP.refl s) (.int _)⟩
    · split at hg
      · rename_i hl
        cases hx; cases hy; cases hg
        exact .inr ⟨_, _, rfl, rfl, size_le hl, p _ Z H (ExtP.refl s) (.str _)⟩
      · cases hg
    · cases hg
theorem od_sub : OpD K X (binaryOp .Sub) (rI0 fun i j => .int (i - j)) (dIi fun i j => i - j) := ⟨fun _ => op_sub, ok_rI0 fun i j c h Z => by cases h; exact .int _⟩
def mulOk (i j : Int) : Bool := decide (-(2 ^ 64) < i ∧ i < 2 ^ 64) || decide (-(2 ^ 64) < j ∧ j < 2 ^ 64)
theorem od_mul : OpD K X (binaryOp .Mult) (rI CMul fun i j => .int (i * j)) (dI fun i j => if mulOk i j = true then some (.int (i * j)) else none) := ⟨fun _ => op_mul, ok_rI fun i j c h => by
  split at h
  · rename_i hc
    cases h
    refine ⟨?_, fun _ => .int _⟩
    unfold mulOk at hc
    simp only [Bool.or_eq_true, decide_eq_true_eq] at hc
    exact hc
  · cases h⟩
end
end DL
namespace DL
open PySem L2
section
variable {K : PySem.W.Frag} {X : Cx} {W : WX} {e a b c : Expr} {pos : Pos}
/-! ### more ints -/
theorem od_fdiv : OpD K X (binaryOp .FloorDiv) (rI CDivW fun i j => .int (i / j)) (dI fun i j => if 0 < j ∧ j < 18446744073709551616 then some (.int (i / j)) else none) := ⟨fun _ => op_fdivW, ok_rI fun i j c h => by
  split at h
  · rename_i hc
    cases h
    exact ⟨wide_div hc.1 (b := 64) (by have : (2 : Nat) ^ 64 = 18446744073709551616 := by decide
                                       omega) (by decide) (by decide), fun _ => .int _⟩
  · cases h⟩
theorem od_mod : OpD K X (binaryOp .Mod) (rI (fun _ j => 0 < j) fun i j => .int (i % j)) (dI fun i j => if 0 < j then some (.int (i % j)) else none) := ⟨fun _ => op_mod, ok_rI fun i j c h => by
  split at h
  · rename_i hc; cases h; exact ⟨hc, fun _ => .int _⟩
  · cases h⟩
theorem od_lt : OpD K X (compareOp .Lt) (rI0 fun i j => .bl (decide (i < j))) (dIb fun i j => decide (i < j)) := ⟨fun _ => op_lt, ok_rI0 fun i j c h Z => by cases h; exact .bl _⟩
theorem od_le : OpD K X (compareOp .LtE) (rI0 fun i j => .bl (decide (i ≤ j))) (dIb fun i j => decide (i ≤ j)) := ⟨fun _ => op_le, ok_rI0 fun i j c h Z => by cases h; exact .bl _⟩
theorem od_gt : OpD K X (compareOp .Gt) (rI0 fun i j => .bl (decide (j < i))) (dIb fun i j => decide (j < i)) := ⟨fun _ => op_gt, ok_rI0 fun i j c h Z => by cases h; exact .bl _⟩
theorem od_ge : OpD K X (compareOp .GtE) (rI0 fun i j => .bl (decide (j ≤ i))) (dIb fun i j => decide (j ≤ i)) := ⟨fun _ => op_ge, ok_rI0 fun i j c h Z => by cases h; exact .bl _⟩
theorem bool_dIb {g : Int → Int → Bool} : boolD (dIb g) := fun d e c h => by
  unfold dIb dI at h
  split at h
  · exact ⟨_, (Option.some.inj h).symm⟩
  · cases h
/-! ### one value in -/
def mUn (g : D → Option D) (m : EM) : EM := bnd m (pur fun d => ret (g d))
theorem so_un {r : V → Hp → VK → Prop} {g : D → Option D} {ta : TE} {m : EM} (h : ∀ (x : V) (d c : D) (Z H : Hp) (Q : VK), Same Z H → Rep K Z x d → g d = some c → PostP K Z H c Q → r x H Q)
    (ha : Sound K W (RepV K) ta m) : Sound K W (RepV K) (tUn r ta) (mUn g m) := ⟨fun σ H s Z I r0 Q w rs e p => by
  refine ha.bnd w rs e (p.x) fun d v M1 Z1 H1 I1 w1 rs1 x1 q1 e1 => ?_
  obtain ⟨d, rfl, e1⟩ := pur_ok e1
  obtain ⟨c, q, rfl⟩ := ret_ok e1
  exact h v d c Z1 H1 Q w1.sub q1 q (PostP.of w1 (p.mono x1))⟩
theorem de_neg {ta : TE} {m : EM} (ha : DE K X W a ta m) : DE K X W (.UnaryOp .USub a pos) (tUn (rU fun i => .int (-i)) ta) (mUn (fun d => match d with | .int i => some (.int (-i)) | _ => none) m) :=
  ⟨ha.k, pe_un un_neg ha.pe, so_un (fun x d c Z H Q s hx hg p => by
    split at hg
    · cases hx; cases hg; exact ⟨_, rfl, p _ Z H (ExtP.refl s) (.int _)⟩
    · cases hg) ha.so⟩
/-! ### is None -/
def isN : D → Bool
  | .non => true
  | _ => false
theorem rep_isN {Z : Hp} {x : V} {d : D} (h : Rep K Z x d) : decide (x = .non) = isN d := by
  cases h <;> rfl
def isNV : DV → Bool
  | .p d => isN d
  | .o _ => false
theorem repV_isN {Z : Hp} {I : List Addr} {x : V} {d : DV} (h : RepV K Z I x d) : decide (x = .non) = isNV d := by
  cases d with
  | p d => exact rep_isN h
  | o n => obtain ⟨a, _, rfl⟩ := h; rfl
def mIsN (m : EM) : EM := bnd m fun d s => some (.ok (.p (.bl (isNV d))) s.m)
def mNotN (m : EM) : EM := bnd m fun d s => some (.ok (.p (.bl (!isNV d))) s.m)
theorem so_isN {ta : TE} {m : EM} (ha : Sound K W (RepV K) ta m) : Sound K W (RepV K) (tIsN ta) (mIsN m) := ⟨fun σ H s Z I r0 Q w rs e p => by
  refine ha.bnd w rs e (p.x) fun d v M1 Z1 H1 I1 w1 rs1 x1 q1 e1 => ?_
  obtain rfl := Option.some.inj e1
  rw [repV_isN q1]
  exact p _ Z1 H1 I1 w1 x1 (.bl _)⟩
theorem so_notN {ta : TE} {m : EM} (ha : Sound K W (RepV K) ta m) : Sound K W (RepV K) (tNotN ta) (mNotN m) := ⟨fun σ H s Z I r0 Q w rs e p => by
  refine ha.bnd w rs e (p.x) fun d v M1 Z1 H1 I1 w1 rs1 x1 q1 e1 => ?_
  obtain rfl := Option.some.inj e1
  rw [repV_isN q1]
  exact p _ Z1 H1 I1 w1 x1 (.bl _)⟩
theorem so_B {t : TE} {m : EM} (h : Sound K W (RepV K) t m) (hb : ∀ s r, m s = some r → ∀ v M, r = .ok v M → ∃ b, v = .p (.bl b)) : Sound K W RepB (tB t) m := so_test h hb
theorem mIsN_bool {m : EM} (s : S) (r : Rs DV) (e : mIsN m s = some r) (v : DV) (M : List O) (hr : r = .ok v M) : ∃ b, v = .p (.bl b) := by
  subst hr
  obtain ⟨a, M1, _, e⟩ := bnd_ok e
  cases e; exact ⟨_, rfl⟩
theorem mNotN_bool {m : EM} (s : S) (r : Rs DV) (e : mNotN m s = some r) (v : DV) (M : List O) (hr : r = .ok v M) : ∃ b, v = .p (.bl b) := by
  subst hr
  obtain ⟨a, M1, _, e⟩ := bnd_ok e
  cases e; exact ⟨_, rfl⟩
theorem de_isN {ta : TE} {m : EM} {j} {pos' : Pos} (ha : DE K X W a ta m) : DE K X W (.Compare a [.Is] [.Constant .none j pos'] pos) (tIsN ta) (mIsN m) := ⟨ha.k, pe_cmp (pc_isN ha.pe), so_isN ha.so⟩
theorem de_notN {ta : TE} {m : EM} {j} {pos' : Pos} (ha : DE K X W a ta m) : DE K X W (.Compare a [.IsNot] [.Constant .none j pos'] pos) (tNotN ta) (mNotN m) := ⟨ha.k, pe_cmp (pc_notN ha.pe), so_notN ha.so⟩
theorem dt_isN {ta : TE} {m : EM} {j} {pos' : Pos} (ha : DE K X W a ta m) : DT K X W (.Compare a [.Is] [.Constant .none j pos'] pos) (tB (tIsN ta)) (mIsN m) := ⟨ha.k, pt_cmp (pc_isN ha.pe), so_B (so_isN ha.so) mIsN_bool⟩
theorem dt_notN {ta : TE} {m : EM} {j} {pos' : Pos} (ha : DE K X W a ta m) : DT K X W (.Compare a [.IsNot] [.Constant .none j pos'] pos) (tB (tNotN ta)) (mNotN m) := ⟨ha.k, pt_cmp (pc_notN ha.pe), so_B (so_notN ha.so) mNotN_bool⟩
/-! ### truth -/
def truD : D → Option Bool
  | .non => some false
  | .bl b => some b
  | .int i => some (i != 0)
  | .str y => if y.length ≤ 1000000 then some (!(y.length == 0)) else none
  | .lst xs => some (!xs.isEmpty)
  | .tup xs => some (!xs.isEmpty)
  | .ktup xs => some (!xs.isEmpty)
  | .klst xs => some (!xs.isEmpty)
  | _ => none
def truO : Option O → Option Bool
  | some (.lst xs) => some (!xs.isEmpty)
  | some (.dK xs) => some (!xs.isEmpty)
  | _ => none
def truM (M : List O) : DV → Option Bool
  | .p d => truD d
  | .o n => truO M[n]?
def mTru (m : EM) : EM := bnd m fun d s => match truM s.m d with
  | some b => some (.ok (.p (.bl b)) s.m)
  | none => none
theorem isEmpty_len {α β : Type} {xs : List α} {ys : List β} (h : xs.length = ys.length) : xs.isEmpty = ys.isEmpty := by
  cases xs <;> cases ys <;> first | rfl | cases h
theorem truV_of {Z H : Hp} {I : List Addr} {M : List O} {x : V} {d : DV} {b : Bool} (w : Wf K Z H I M) (h : RepV K Z I x d) (e : truM M d = some b) : TruV K x H b := by
  cases d with
  | o n =>
    obtain ⟨a, ha, rfl⟩ := h
    have e : truO M[n]? = some b := e
    cases q : M[n]? with
    | none => rw [q] at e; cases e
    | some o =>
      rw [q] at e
      cases o with
      | lst xs =>
        obtain ⟨_, ys, h1, h2⟩ := w.ob n a _ ha q (by intro z; cases z)
        cases e
        exact .inl ⟨ys, SqL.of h1, by rw [isEmpty_len (paired_len h2)]⟩
      | dK xs =>
        obtain ⟨_, ys, h1, h2⟩ := w.ob n a _ ha q (by intro z; cases z)
        cases e
        exact .inr (.inr ⟨ys, h1, by rw [isEmpty_len (paired_len h2)]⟩)
      | _ => cases e
  | p d =>
    have h : Rep K Z x d := h
    have e : truD d = some b := e
    cases h with
    | non => cases e; rfl
    | bl k => cases e; rfl
    | int i => cases e; rfl
    | str y =>
      have e : (if y.length ≤ 1000000 then some (!(y.length == 0)) else none) = some b := e
      split at e
      · rename_i hl
        cases e
        refine ⟨size_le hl, ?_⟩
        cases hz : y.length with
        | zero => rfl
        | succ n =>
          have : ¬ ((n : Int) + 1 = 0) := by omega
          simp [this]
      · cases e
    | lst h1 h2 => cases e; exact .inl ⟨_, .inl (same_rd w.sub h1), by rw [isEmpty_len h2.length]⟩
    | tup h1 h2 => cases e; exact .inr (.inl ⟨_, sqt w.sub h1, by rw [isEmpty_len h2.length]⟩)
    | ktup h1 h2 => cases e; exact .inr (.inl ⟨_, same_t w.sub h1, by rw [isEmpty_len h2.length]⟩)
    | klst h1 h2 => cases e; exact .inl ⟨_, same_l w.sub h1, by rw [isEmpty_len h2.length]⟩
    | dK _ _ => cases e
    | dT _ _ => cases e
    | fn _ => cases e
    | scr _ _ => cases e
    | ty _ => cases e
    | rng _ => cases e
theorem dt_tru {ta : TE} {m : EM} (ha : DE K X W a ta m) (he : ∀ whole, isTrue a X.env whole = (do let v ← whole; standAt a.pos; holding [v] (truthy v)) := by intro _; rfl) : DT K X W a (fun σ H Q => ta σ H fun x H' => ∃ k, TruV K x H' k ∧ Q k H') (mTru m) := by
  refine ⟨ha.k, ?_, ⟨fun σ H s Z I r0 Q w rs e p => ?_⟩⟩
  · rw [← ha.k]; exact pt_truth ha.pe he
  refine ha.so.bnd w rs e (p.x) fun d v M1 Z1 H1 I1 w1 rs1 x1 q1 e1 => ?_
  have e1 : (match truM M1 d with | some b => some (Rs.ok (DV.p (.bl b)) M1) | none => none) = some r0 := e1
  cases q : truM M1 d with
  | none => rw [q] at e1; cases e1
  | some k =>
    rw [q] at e1
    obtain rfl := Option.some.inj e1
    exact ⟨k, truV_of w1 q1 q, p k Z1 H1 I1 w1 x1 rfl⟩
/-! ### and, or, not, if-else -/
def ifM {γ : Type} (n k : Mi γ) : DV → Mi γ
  | .p (.bl true), s => n s
  | .p (.bl false), s => k s
  | _, _ => none
def fls : EM := fun s => some (.ok (.p (.bl false)) s.m)
def tru : EM := fun s => some (.ok (.p (.bl true)) s.m)
def mAnd (m n : EM) : EM := bnd m (ifM n fls)
def mOr (m n : EM) : EM := bnd m (ifM tru n)
def mNot (m : EM) : EM := bnd m (ifM fls tru)
def mIf (c m n : EM) : EM := bnd c (ifM m n)
theorem so_and {t u : TT} {m n : EM} (ha : Sound K W RepB t m) (hb : Sound K W RepB u n) : Sound K W RepB (tAnd t u) (mAnd m n) := ⟨fun σ H s Z I r0 Q w rs e p => by
  refine ha.bnd w rs e (p.x) fun d v M1 Z1 H1 I1 w1 rs1 x1 q1 e1 => ?_
  cases (show d = .p (.bl v) from q1)
  cases v with
  | true => exact hb.ok σ H1 ⟨s.l, M1⟩ Z1 I1 r0 Q w1 rs1 e1 (p.mono x1)
  | false => cases e1; exact p false Z1 H1 I1 w1 x1 rfl⟩
theorem so_or {t u : TT} {m n : EM} (ha : Sound K W RepB t m) (hb : Sound K W RepB u n) : Sound K W RepB (tOr t u) (mOr m n) := ⟨fun σ H s Z I r0 Q w rs e p => by
  refine ha.bnd w rs e (p.x) fun d v M1 Z1 H1 I1 w1 rs1 x1 q1 e1 => ?_
  cases (show d = .p (.bl v) from q1)
  cases v with
  | false => exact hb.ok σ H1 ⟨s.l, M1⟩ Z1 I1 r0 Q w1 rs1 e1 (p.mono x1)
  | true => cases e1; exact p true Z1 H1 I1 w1 x1 rfl⟩
theorem so_not {t : TT} {m : EM} (ha : Sound K W RepB t m) : Sound K W RepB (tNot t) (mNot m) := ⟨fun σ H s Z I r0 Q w rs e p => by
  refine ha.bnd w rs e (p.x) fun d v M1 Z1 H1 I1 w1 rs1 x1 q1 e1 => ?_
  cases (show d = .p (.bl v) from q1)
  cases v with
  | false => cases e1; exact p true Z1 H1 I1 w1 x1 rfl
  | true => cases e1; exact p false Z1 H1 I1 w1 x1 rfl⟩
theorem dw_and1 {t : TT} {m : EM} (ha : DT K X W a t m) : DW K X W (.BoolOp .And [a] pos) t m := ⟨ha.k, pw_and1 ha.pt, ha.so⟩
theorem dw_or1 {t : TT} {m : EM} (ha : DT K X W a t m) : DW K X W (.BoolOp .Or [a] pos) t m := ⟨ha.k, pw_or1 ha.pt, ha.so⟩
theorem dw_and {t u : TT} {m n : EM} {rest : List Expr} (ha : DT K X W a t m) (hb : DW K X W (.BoolOp .And (b :: rest) pos) u n) : DW K X W (.BoolOp .And (a :: b :: rest) pos) (tAnd t u) (mAnd m n) := ⟨ha.k, pw_and ha.pt hb.pw, so_and ha.so hb.so⟩
theorem dw_or {t u : TT} {m n : EM} {rest : List Expr} (ha : DT K X W a t m) (hb : DW K X W (.BoolOp .Or (b :: rest) pos) u n) : DW K X W (.BoolOp .Or (a :: b :: rest) pos) (tOr t u) (mOr m n) := ⟨ha.k, pw_or ha.pt hb.pw, so_or ha.so hb.so⟩
theorem dt_w {t : TT} {m : EM} (h : DW K X W a t m) : DT K X W a t m := ⟨h.k, h.pw.pt, h.so⟩
theorem dt_not {t : TT} {m : EM} (h : DT K X W a t m) : DT K X W (.UnaryOp .Not a pos) (tNot t) (mNot m) := ⟨h.k, pt_not h.pt, so_not h.so⟩
/-- as values -/
theorem so_andV {t u : TE} {m n : EM} (ha : Sound K W (RepV K) t m) (hb : Sound K W (RepV K) u n) : Sound K W (RepV K) (tAndV t u) (mAnd m n) := ⟨fun σ H s Z I r0 Q w rs e p => by
  refine ha.bnd w rs e (p.x) fun d v M1 Z1 H1 I1 w1 rs1 x1 q1 e1 => ?_
  unfold ifM at e1
  split at e1
  · cases q1; exact ⟨true, rfl, by rw [if_pos rfl]; exact hb.ok σ H1 ⟨s.l, M1⟩ Z1 I1 r0 Q w1 rs1 e1 (p.mono x1)⟩
  · cases q1; cases e1; exact ⟨false, rfl, by rw [if_neg Bool.false_ne_true]; exact p _ Z1 H1 I1 w1 x1 (.bl _)⟩
  · cases e1⟩
theorem so_orV {t u : TE} {m n : EM} (ha : Sound K W (RepV K) t m) (hb : Sound K W (RepV K) u n) : Sound K W (RepV K) (tOrV t u) (mOr m n) := ⟨fun σ H s Z I r0 Q w rs e p => by
  refine ha.bnd w rs e (p.x) fun d v M1 Z1 H1 I1 w1 rs1 x1 q1 e1 => ?_
  unfold ifM at e1
  split at e1
  · cases q1; cases e1; exact ⟨true, rfl, by rw [if_pos rfl]; exact p _ Z1 H1 I1 w1 x1 (.bl _)⟩
  · cases q1; exact ⟨false, rfl, by rw [if_neg Bool.false_ne_true]; exact hb.ok σ H1 ⟨s.l, M1⟩ Z1 I1 r0 Q w1 rs1 e1 (p.mono x1)⟩
  · cases e1⟩
theorem so_notV {t : TE} {m : EM} (ha : Sound K W (RepV K) t m) : Sound K W (RepV K) (tNotV t) (mNot m) := ⟨fun σ H s Z I r0 Q w rs e p => by
  refine ha.bnd w rs e (p.x) fun d v M1 Z1 H1 I1 w1 rs1 x1 q1 e1 => ?_
  unfold ifM at e1
  split at e1
  · cases q1; cases e1; exact ⟨true, rfl, p _ Z1 H1 I1 w1 x1 (.bl _)⟩
  · cases q1; cases e1; exact ⟨false, rfl, p _ Z1 H1 I1 w1 x1 (.bl _)⟩
  · cases e1⟩
theorem de_one {op} {t : TE} {m : EM} (ha : DE K X W a t m) : DE K X W (.BoolOp op [a] pos) t m := ⟨ha.k, pe_one ha.pe, ha.so⟩
theorem de_and {t u : TE} {m n : EM} {rest : List Expr} (ha : DE K X W a t m) (hb : DE K X W (.BoolOp .And (b :: rest) pos) u n) : DE K X W (.BoolOp .And (a :: b :: rest) pos) (tAndV t u) (mAnd m n) := ⟨ha.k, pe_and ha.pe hb.pe, so_andV ha.so hb.so⟩
theorem de_or {t u : TE} {m n : EM} {rest : List Expr} (ha : DE K X W a t m) (hb : DE K X W (.BoolOp .Or (b :: rest) pos) u n) : DE K X W (.BoolOp .Or (a :: b :: rest) pos) (tOrV t u) (mOr m n) := ⟨ha.k, pe_or ha.pe hb.pe, so_orV ha.so hb.so⟩
theorem de_not {t : TE} {m : EM} (h : DE K X W a t m) : DE K X W (.UnaryOp .Not a pos) (tNotV t) (mNot m) := ⟨h.k, pe_not h.pe, so_notV h.so⟩
theorem so_ifE {t : TT} {ta tb : TE} {m n k : EM} (hc : Sound K W RepB t m) (ha : Sound K W (RepV K) ta n) (hb : Sound K W (RepV K) tb k) : Sound K W (RepV K) (tIf t ta tb) (mIf m n k) := ⟨fun σ H s Z I r0 Q w rs e p => by
  refine hc.bnd w rs e (p.x) fun d v M1 Z1 H1 I1 w1 rs1 x1 q1 e1 => ?_
  cases (show d = .p (.bl v) from q1)
  cases v with
  | true => exact ha.ok σ H1 ⟨s.l, M1⟩ Z1 I1 r0 Q w1 rs1 e1 (p.mono x1)
  | false => exact hb.ok σ H1 ⟨s.l, M1⟩ Z1 I1 r0 Q w1 rs1 e1 (p.mono x1)⟩
theorem de_ifE {t : TT} {ta tb : TE} {m n k : EM} (hc : DT K X W c t m) (ha : DE K X W a ta n) (hb : DE K X W b tb k) : DE K X W (.IfExp c a b pos) (tIf t ta tb) (mIf m n k) := ⟨hc.k, pe_ifExp hc.pt ha.pe hb.pe, so_ifE hc.so ha.so hb.so⟩
/-- a value that is a truth, as a test -/
def asB (m : EM) : EM := bnd m (ifM tru fls)
theorem dt_val {t : TE} {m : EM} (h : DE K X W a t m) (he : ∀ whole, isTrue a X.env whole = (do let v ← whole; standAt a.pos; holding [v] (truthy v)) := by intro _; rfl) : DT K X W a (tB t) (asB m) := ⟨h.k, pt_val h.pe he, ⟨fun σ H s Z I r0 Q w rs e p => by
  refine h.so.bnd w rs e (p.x) fun d v M1 Z1 H1 I1 w1 rs1 x1 q1 e1 => ?_
  unfold ifM at e1
  split at e1
  · cases q1; cases e1; exact ⟨true, rfl, p true Z1 H1 I1 w1 x1 rfl⟩
  · cases q1; cases e1; exact ⟨false, rfl, p false Z1 H1 I1 w1 x1 rfl⟩
  · cases e1⟩⟩
/-! ### a chain of two comparisons -/
def mChain (g h : D → D → Option D) (m n k : EM) : EM := bnd m (pur fun d => bnd n (pur fun e => bnd (ret (g d e)) (ifM (bnd k (pur fun f => ret (h e f))) fls)))
theorem so_chain {r r' : R2} {g h : D → D → Option D} {ta tb tc : TE} {m n k : EM} (hg : ∀ (x y : V) (d e c : D) (Z H : Hp) (Q : VK), Same Z H → Rep K Z x d → Rep K Z y e → g d e = some c → PostP K Z H c Q → r x y H Q)
    (hh : ∀ (x y : V) (d e c : D) (Z H : Hp) (Q : VK), Same Z H → Rep K Z x d → Rep K Z y e → h d e = some c → PostP K Z H c Q → r' x y H Q)
    (ha : Sound K W (RepV K) ta m) (hb : Sound K W (RepV K) tb n) (hc : Sound K W (RepV K) tc k) : Sound K W (RepV K) (tChain r r' ta tb tc) (mChain g h m n k) := ⟨fun σ H s Z I r0 Q w rs e p => by
  refine ha.bnd w rs e (p.x) fun d v M1 Z1 H1 I1 w1 rs1 x1 q1 e1 => ?_
  obtain ⟨d, rfl, e1⟩ := pur_ok e1
  have p1 := p.mono x1
  refine hb.bnd (s := ⟨s.l, M1⟩) w1 rs1 e1 (p1.x) fun d2 v2 M2 Z2 H2 I2 w2 rs2 x2 q2 e2 => ?_
  obtain ⟨d2, rfl, e2⟩ := pur_ok e2
  have p2 := p1.mono x2
  cases hq : g d d2 with
  | none =>
    have e2 : bnd (ret (g d d2)) (ifM (bnd k (pur fun f => ret (h d2 f))) fls) ⟨s.l, M2⟩ = some r0 := e2
    rw [hq] at e2; cases e2
  | some c =>
    have e2 : bnd (ret (g d d2)) (ifM (bnd k (pur fun f => ret (h d2 f))) fls) ⟨s.l, M2⟩ = some r0 := e2
    rw [hq] at e2
    have e2 : ifM (bnd k (pur fun f => ret (h d2 f))) fls (.p c) ⟨s.l, M2⟩ = some r0 := e2
    refine hg v v2 d d2 c Z2 H2 _ w2.sub (Rep.mono x2.z q1) q2 hq fun v3 Z3 H3 x3 q3 => ?_
    have w3 := w2.extP x3
    have y3 := x3.ext w2
    have p3 := p2.mono y3
    have rs3 := rs2.mono y3
    unfold ifM at e2
    split at e2
    · rename_i hz
      cases hz
      cases q3
      refine ⟨true, rfl, ?_⟩
      rw [if_pos rfl]
      refine hc.bnd (s := ⟨s.l, M2⟩) w3 rs3 e2 (p3.x) fun d4 v4 M4 Z4 H4 I4 w4 rs4 x4 q4 e4 => ?_
      obtain ⟨d4, rfl, e4⟩ := pur_ok e4
      obtain ⟨c, q, rfl⟩ := ret_ok e4
      exact hh v2 v4 d2 d4 c Z4 H4 Q w4.sub (Rep.mono x4.z (Rep.mono x3.z q2)) q4 q (PostP.of w4 (p3.mono x4))
    · rename_i hz
      cases hz
      cases q3
      cases e2
      refine ⟨false, rfl, ?_⟩
      rw [if_neg Bool.false_ne_true]
      exact p3 _ Z3 H3 I2 w3 Ext.refl (.bl _)
    · cases e2⟩
theorem de_chain {op op' : CmpOp} {r r' : R2} {g h : D → D → Option D} {ta tb tc : TE} {m n k : EM} (hg : OpD K X (compareOp op) r g) (hh : OpD K X (compareOp op') r' h) (ha : DE K X W a ta m) (hb : DE K X W b tb n) (hc : DE K X W c tc k)
    (hm : lastMarks [op, op'] [b, c] = false := by with_unfolding_all rfl) : DE K X W (.Compare a [op, op'] [b, c] pos) (tChain r r' ta tb tc) (mChain g h m n k) :=
  ⟨ha.k, pe_chain (hg.op ha.k) (hh.op ha.k) ha.pe hb.pe hc.pe hm, so_chain hg.ok hh.ok ha.so hb.so hc.so⟩
theorem mChain_bool {g h : D → D → Option D} {m n k : EM} (hb : boolD h) (s : S) (r : Rs DV) (e : mChain g h m n k s = some r) (v : DV) (M : List O) (hr : r = .ok v M) : ∃ b, v = .p (.bl b) := by
  subst hr
  obtain ⟨a, M1, _, e⟩ := bnd_ok e
  obtain ⟨d, _, e⟩ := pur_ok e
  obtain ⟨a2, M2, _, e⟩ := bnd_ok e
  obtain ⟨d2, _, e⟩ := pur_ok e
  obtain ⟨a3, M3, _, e⟩ := bnd_ok e
  unfold ifM at e
  split at e
  · obtain ⟨a4, M4, _, e⟩ := bnd_ok e
    obtain ⟨d4, _, e⟩ := pur_ok e
    obtain ⟨c, q, e⟩ := ret_ok e
    cases e
    obtain ⟨b, rfl⟩ := hb _ _ _ q
    exact ⟨b, rfl⟩
  · cases e; exact ⟨_, rfl⟩
  · cases e
theorem dt_chain {op op' : CmpOp} {r r' : R2} {g h : D → D → Option D} {ta tb tc : TE} {m n k : EM} (hg : OpD K X (compareOp op) r g) (hh : OpD K X (compareOp op') r' h) (hbo : boolD h) (ha : DE K X W a ta m) (hb : DE K X W b tb n) (hc : DE K X W c tc k)
    (hm : lastMarks [op, op'] [b, c] = false := by with_unfolding_all rfl) : DT K X W (.Compare a [op, op'] [b, c] pos) (tTest (tChain r r' ta tb tc)) (mChain g h m n k) :=
  ⟨ha.k, pt_chain (hg.op ha.k) (hh.op ha.k) ha.pe hb.pe hc.pe hm, so_test (so_chain hg.ok hh.ok ha.so hb.so hc.so) (mChain_bool hbo)⟩
end
end DL
namespace DL
open PySem L2
section
variable {K : PySem.W.Frag} {Z H Z' H' : Hp} {I I' : List Addr} {M : List O}
/-! ### the store's steps -/
theorem RepO.ext {a : Addr} (x : Ext Z H I Z' H' I') (ha : H' a = H a) : ∀ {o : O}, RepO K Z I H a o → RepO K Z' I' H' a o
  | .lst _, ⟨xs, h, r⟩ => ⟨xs, ha.trans h, paired_imp (fun _ _ q => RepV.mono x q) r⟩
  | .dK _, ⟨xs, h, r⟩ => ⟨xs, ha.trans h, paired_imp (fun _ _ q => ⟨q.1, RepV.mono x q.2⟩) r⟩
  | .dT _, ⟨xs, h, r⟩ => ⟨xs, ha.trans h, paired_imp (fun _ _ q => ⟨q.1, RepV.mono x q.2⟩) r⟩
  | .ins _ _, ⟨dx, xs, h, r⟩ => ⟨dx, xs, ha.trans h, paired_imp (fun _ _ q => ⟨q.1, RepV.mono x q.2⟩) r⟩
  | .gone, _ => trivial
theorem ext_new {p : Addr} {o : HO} (s : Same Z H) (h : H p = none) : Ext Z H I Z (upd H p o) (I ++ [p]) where
  z := Same.refl _
  i := ⟨[p], rfl⟩
  fr := fun a u e _ => by rw [upd_ne (ne_of_none e h)]; exact e
  nw := fun a m => by
    rcases List.mem_append.mp m with k | k
    · exact .inl k
    · rw [List.mem_singleton.mp k]; exact .inr h
  zn := fun a e => .inl e
  tr := fun a e => by
    rw [upd_ne (fun q => e (by rw [q]; exact h))]; exact e
theorem Wf.newO (w : Wf K Z H I M) {p : Addr} {ho : HO} {o : O} (hp : H p = none) (r : RepO K Z (I ++ [p]) (upd H p ho) p o) : Wf K Z (upd H p ho) (I ++ [p]) (M ++ [o]) where
  sub := fun a u e => by rw [upd_ne (ne_of_none (w.sub a u e) hp)]; exact w.sub a u e
  len := by rw [List.length_append, List.length_append, w.len]; rfl
  nd := by
    refine List.nodup_append.mpr ⟨w.nd, by simp, fun a ha b hb => ?_⟩
    rw [List.mem_singleton.mp hb]
    intro q
    exact w.tr a ha (by rw [q]; exact hp)
  tr := fun a m => by
    rcases List.mem_append.mp m with k | k
    · rw [upd_ne (fun q => w.tr a k (by rw [q]; exact hp))]; exact w.tr a k
    · rw [List.mem_singleton.mp k, upd_same]; simp
  ob := fun n a o' h1 h2 h3 => by
    by_cases hn : n < I.length
    · rw [List.getElem?_append_left hn] at h1
      rw [List.getElem?_append_left (by rw [← w.len]; exact hn)] at h2
      obtain ⟨q1, q2⟩ := w.ob n a o' h1 h2 h3
      exact ⟨q1, q2.ext (ext_new w.sub hp) (upd_ne fun q => w.tr a (List.mem_of_getElem? h1) (by rw [q]; exact hp))⟩
    · have e1 : n = I.length := by
        have := (List.getElem?_eq_some_iff.mp h1).1
        rw [List.length_append, List.length_singleton] at this
        omega
      subst e1
      rw [List.getElem?_append_right (Nat.le_refl _), Nat.sub_self] at h1
      rw [List.getElem?_append_right (by rw [w.len]; exact Nat.le_refl _), w.len, Nat.sub_self] at h2
      cases h1
      cases h2
      exact ⟨none_of w.sub hp, r⟩
theorem ext_set {a : Addr} {ho : HO} (ha : a ∈ I) : Ext Z H I Z (upd H a ho) I where
  z := Same.refl _
  i := ⟨[], by simp⟩
  fr := fun b u e n => by rw [upd_ne (fun q => n (by rw [q]; exact ha))]; exact e
  nw := fun _ m => .inl m
  zn := fun _ e => .inl e
  tr := fun b e => by
    by_cases q : b = a
    · rw [q, upd_same]; simp
    · rw [upd_ne q]; exact e
theorem Wf.setO (w : Wf K Z H I M) {n : Nat} {a : Addr} {ho : HO} {o o' : O} (ha : I[n]? = some a) (hm : M[n]? = some o) (hg : o ≠ .gone) (r : RepO K Z I (upd H a ho) a o') : Wf K Z (upd H a ho) I (M.set n o') where
  sub := fun b u e => by
    have q := (w.ob n a o ha hm hg).1
    rw [upd_ne (fun z => by rw [z, q] at e; cases e)]; exact w.sub b u e
  len := by rw [List.length_set]; exact w.len
  nd := w.nd
  tr := fun b m => (ext_set (Z := Z) (I := I) (List.mem_of_getElem? ha)).tr b (w.tr b m)
  ob := fun j b u h1 h2 h3 => by
    by_cases q : n = j
    · subst q
      rw [ha] at h1; cases h1
      rw [List.getElem?_set_self (List.getElem?_eq_some_iff.mp hm).1] at h2
      cases h2
      exact ⟨(w.ob n a o ha hm hg).1, r⟩
    · rw [List.getElem?_set_ne q] at h2
      obtain ⟨q1, q2⟩ := w.ob j b u h1 h2 h3
      refine ⟨q1, q2.ext (ext_set (List.mem_of_getElem? ha)) (upd_ne fun z => ?_)⟩
      obtain ⟨l1, e1⟩ := List.getElem?_eq_some_iff.mp ha
      obtain ⟨l2, e2⟩ := List.getElem?_eq_some_iff.mp h1
      exact q ((List.getElem_inj w.nd).mp (e1.trans (z.symm.trans e2.symm)))
def allP : List DV → Option (List D)
  | [] => some []
  | .p d :: r => (allP r).map (d :: ·)
  | .o _ :: _ => none
theorem allP_rep : ∀ {vs : List V} {ds : List DV} {xs : List D}, RepVs K Z I vs ds → allP ds = some xs → RepA K Z vs xs
  | _, [], _, .nil, e => by cases e; exact .nil
  | _, .p d :: r, _, .cons h t, e => by
    have e : (allP r).map (d :: ·) = some _ := e
    cases q : allP r with
    | none => rw [q] at e; cases e
    | some ys =>
      rw [q] at e; cases e
      exact .cons h (allP_rep t q)
  | _, .o n :: r, _, .cons h t, e => by cases e
theorem allP_map : ∀ {vs : List V} {xs : List D}, RepA K Z vs xs → RepVs K Z I vs (xs.map .p)
  | _, _, .nil => .nil
  | _, _, .cons h t => .cons h (allP_map t)
/-- one's own list is given up: from now on it stays -/
theorem ext_frz {n : Nat} {a : Addr} {ho : HO} (w : Wf K Z H I M) (ha : I[n]? = some a) (hz : Z a = none) (hh : H a = some ho) : Ext Z H I (upd Z a ho) H I where
  z := same_upd hz
  i := ⟨[], by simp⟩
  fr := fun _ _ e _ => e
  nw := fun _ m => .inl m
  zn := fun b e => by
    by_cases q : b = a
    · rw [q]; exact .inr (.inr (List.mem_of_getElem? ha))
    · rw [upd_ne q] at e; exact .inl e
  tr := fun _ e => e
theorem Wf.frz (w : Wf K Z H I M) {n : Nat} {a : Addr} {ho : HO} {o : O} (ha : I[n]? = some a) (hm : M[n]? = some o) (hg : o ≠ .gone) (hh : H a = some ho) : Wf K (upd Z a ho) H I (M.set n .gone) where
  sub := fun b u e => by
    by_cases q : b = a
    · rw [q, upd_same] at e; rw [q, hh]; exact e
    · rw [upd_ne q] at e; exact w.sub b u e
  len := by rw [List.length_set]; exact w.len
  nd := w.nd
  tr := w.tr
  ob := fun j b u h1 h2 h3 => by
    by_cases q : n = j
    · subst q
      rw [List.getElem?_set_self (List.getElem?_eq_some_iff.mp hm).1] at h2
      cases h2
      exact absurd rfl h3
    · rw [List.getElem?_set_ne q] at h2
      obtain ⟨q1, q2⟩ := w.ob j b u h1 h2 h3
      have hz := (w.ob n a o ha hm hg).1
      refine ⟨?_, q2.ext (ext_frz w ha hz hh) rfl⟩
      rw [upd_ne fun z => ?_]
      · exact q1
      obtain ⟨l1, e1⟩ := List.getElem?_eq_some_iff.mp ha
      obtain ⟨l2, e2⟩ := List.getElem?_eq_some_iff.mp h1
      exact q ((List.getElem_inj w.nd).mp (e1.trans (z.symm.trans e2.symm)))
end
section
variable {K : PySem.W.Frag} {X : Cx} {W : WX} {e a b c : Expr} {es : List Expr} {pos : Pos}
/-! ### argument lists, displays -/
def aNil : AM := fun s => some (.ok [] s.m)
def aCons (m : EM) (ms : AM) : AM := bnd m fun d => bnd ms fun ds s => some (.ok (d :: ds) s.m)
theorem so_aNil : Sound K W (RepVs K) tNil aNil := ⟨fun σ H s Z I r Q w rs e p => by
  obtain rfl := Option.some.inj e
  exact p [] Z H I w Ext.refl .nil⟩
theorem so_aCons {ta : TE} {tr : TA} {m : EM} {ms : AM} (ha : Sound K W (RepV K) ta m) (hr : Sound K W (RepVs K) tr ms) : Sound K W (RepVs K) (tCons ta tr) (aCons m ms) := ⟨fun σ H s Z I r0 Q w rs e p => by
  refine ha.bnd w rs e (p.x) fun d v M1 Z1 H1 I1 w1 rs1 x1 q1 e1 => ?_
  have p1 := p.mono x1
  refine hr.bnd (s := ⟨s.l, M1⟩) w1 rs1 e1 (p1.x) fun ds vs M2 Z2 H2 I2 w2 rs2 x2 q2 e2 => ?_
  obtain rfl := Option.some.inj e2
  exact p1 _ Z2 H2 I2 w2 x2 (.cons (q1.mono x2) q2)⟩
theorem da_nil (k : X.K = K := by rfl) : DA K X W [] tNil aNil := ⟨k, pa_nil, so_aNil⟩
theorem da_cons {ta : TE} {tr : TA} {m : EM} {ms : AM} (ha : DE K X W e ta m) (hr : DA K X W es tr ms) (hs : starEach (e :: es) X.env = (false, eval e X.env) :: starEach es X.env := by rfl) : DA K X W (e :: es) (tCons ta tr) (aCons m ms) :=
  ⟨ha.k, pa_cons ha.pe hr.pa hs, so_aCons ha.so hr.so⟩
def disp (g : List D → D) (ms : AM) : EM := bnd ms fun ds s => match allP ds with
  | some xs => if xs.length ≤ 1000000 then some (.ok (.p (g xs)) s.m) else none
  | none => none
theorem so_tup {t : TA} {ms : AM} (h : Sound K W (RepVs K) t ms) : Sound K W (RepV K) (tTup t) (disp .tup ms) := ⟨fun σ H s Z I r0 Q w rs e p => by
  refine h.bnd w rs e (p.x) fun ds vs M1 Z1 H1 I1 w1 rs1 x1 q1 e1 => ?_
  have e1 : (match allP ds with | some xs => if xs.length ≤ 1000000 then some (Rs.ok (DV.p (D.tup xs)) M1) else none | none => none) = some r0 := e1
  cases q : allP ds with
  | none => rw [q] at e1; cases e1
  | some xs =>
    rw [q] at e1
    have e1 : (if xs.length ≤ 1000000 then some (Rs.ok (DV.p (D.tup xs)) M1) else none) = some r0 := e1
    split at e1
    · rename_i hl
      obtain rfl := Option.some.inj e1
      have ra := allP_rep q1 q
      refine ⟨by rw [ra.length]; exact size_le hl, fun l hl => ?_⟩
      have y := ExtP.new (o := .tup vs) w1.sub hl
      exact (p.mono x1) _ _ _ I1 (w1.extP y) (y.ext w1) (.tup upd_same (ra.mono y.z))
    · cases e1⟩
theorem so_lst {t : TA} {ms : AM} (h : Sound K W (RepVs K) t ms) : Sound K W (RepV K) (tLst t) (disp .lst ms) := ⟨fun σ H s Z I r0 Q w rs e p => by
  refine h.bnd w rs e (p.x) fun ds vs M1 Z1 H1 I1 w1 rs1 x1 q1 e1 => ?_
  have e1 : (match allP ds with | some xs => if xs.length ≤ 1000000 then some (Rs.ok (DV.p (D.lst xs)) M1) else none | none => none) = some r0 := e1
  cases q : allP ds with
  | none => rw [q] at e1; cases e1
  | some xs =>
    rw [q] at e1
    have e1 : (if xs.length ≤ 1000000 then some (Rs.ok (DV.p (D.lst xs)) M1) else none) = some r0 := e1
    split at e1
    · rename_i hl
      obtain rfl := Option.some.inj e1
      have ra := allP_rep q1 q
      refine ⟨by rw [ra.length]; exact size_le hl, fun l hl => ?_⟩
      have y := ExtP.new (o := .lst vs) w1.sub hl
      exact (p.mono x1) _ _ _ I1 (w1.extP y) (y.ext w1) (.lst (.inl upd_same) (ra.mono y.z))
    · cases e1⟩
def dispO (ms : AM) : EM := bnd ms fun ds s => if ds.length ≤ 1000000 then some (.ok (.o s.m.length) (s.m ++ [.lst ds])) else none
theorem so_lstO {t : TA} {ms : AM} (h : Sound K W (RepVs K) t ms) : Sound K W (RepV K) (tLst t) (dispO ms) := ⟨fun σ H s Z I r0 Q w rs e p => by
  refine h.bnd w rs e (p.x) fun ds vs M1 Z1 H1 I1 w1 rs1 x1 q1 e1 => ?_
  have e1 : (if ds.length ≤ 1000000 then some (Rs.ok (DV.o M1.length) (M1 ++ [.lst ds])) else none) = some r0 := e1
  split at e1
  · rename_i hl
    obtain rfl := Option.some.inj e1
    refine ⟨by rw [paired_len q1]; exact size_le hl, fun l hp => ?_⟩
    have y := ext_new (I := I1) (o := .lst vs) w1.sub hp
    refine (p.mono x1) _ Z1 _ (I1 ++ [l]) (w1.newO hp ⟨vs, upd_same, paired_imp (fun _ _ q => RepV.mono y q) q1⟩) y ⟨l, ?_, rfl⟩
    rw [← w1.len, List.getElem?_append_right (Nat.le_refl _), Nat.sub_self]
    rfl
  · cases e1⟩
theorem de_tup {t : TA} {ms : AM} {x1} (h : DA K X W es t ms) : DE K X W (.Tuple es x1 pos) (tTup t) (disp .tup ms) := ⟨h.k, pe_tup h.pa, so_tup h.so⟩
theorem de_lst {t : TA} {ms : AM} (h : DA K X W es t ms) : DE K X W (.List es pos) (tLst t) (disp .lst ms) := ⟨h.k, pe_lst h.pa, so_lst h.so⟩
theorem de_lstO {t : TA} {ms : AM} (h : DA K X W es t ms) : DE K X W (.List es pos) (tLst t) (dispO ms) := ⟨h.k, pe_lst h.pa, so_lstO h.so⟩
/-! ### an item -/
def ixD : D → Int → Option D
  | .lst xs, i => atI xs i
  | .tup xs, i => atI xs i
  | .ktup xs, i => atI xs i
  | .klst xs, i => atI xs i
  | .str z, i => if z.length ≤ 1000000 then (atI z.cps.toList i).map fun c => .str ⟨#[c]⟩ else none
  | _, _ => none
def ixO : Option O → Int → Option DV
  | some (.lst xs), i => atI xs i
  | _, _ => none
def ixM (M : List O) : DV → Int → Option DV
  | .p d, i => (ixD d i).map .p
  | .o n, i => ixO M[n]? i
def mIx (m n : EM) : EM := bnd m fun d => bnd n (pur fun i s => match i with
  | .int i => match ixM s.m d i with
    | some c => some (.ok c s.m)
    | none => none
  | _ => none)
theorem atI_get {α : Type} {xs : List α} {i : Int} {x : α} (h : atI xs i = some x) : ∃ j, ixN xs.length i = some j ∧ xs[j]? = some x := by
  unfold atI at h
  cases q : ixN xs.length i with
  | none => rw [q] at h; cases h
  | some j => rw [q] at h; exact ⟨j, rfl, h⟩
theorem atI_rep {Z : Hp} {xs : List V} {ds : List D} {i : Int} {d : D} (r : RepA K Z xs ds) (h : atI ds i = some d) : ∃ v, atI xs i = some v ∧ Rep K Z v d := by
  obtain ⟨j, h1, h2⟩ := atI_get h
  obtain ⟨v, h3, h4⟩ := r.get h2
  exact ⟨v, by unfold atI; rw [r.length, h1]; exact h3, h4⟩
theorem atI_repV {Z : Hp} {I : List Addr} {xs : List V} {ds : List DV} {i : Int} {d : DV} (r : RepVs K Z I xs ds) (h : atI ds i = some d) : ∃ v, atI xs i = some v ∧ RepV K Z I v d := by
  obtain ⟨j, h1, h2⟩ := atI_get h
  obtain ⟨v, h3, h4⟩ := paired_get r h2
  exact ⟨v, by unfold atI; rw [paired_len r, h1]; exact h3, h4⟩
theorem ix_ok {Z H : Hp} {I : List Addr} {M : List O} {x : V} {d c : DV} {i : Int} {Q : VK} (w : Wf K Z H I M) (h : RepV K Z I x d) (e : ixM M d i = some c) (q : ∀ v, RepV K Z I v c → Q v H) : rIx K x (.int i) H Q := by
  cases d with
  | o n =>
    obtain ⟨a, ha, rfl⟩ := h
    have e : ixO M[n]? i = some c := e
    cases z : M[n]? with
    | none => rw [z] at e; cases e
    | some o =>
      rw [z] at e
      cases o with
      | lst xs =>
        obtain ⟨_, ys, h1, h2⟩ := w.ob n a _ ha z (by intro z; cases z)
        obtain ⟨v, h3, h4⟩ := atI_repV h2 e
        exact .inl ⟨_, ys, i, v, rfl, rfl, SqL.of h1, h3, q v h4⟩
      | _ => cases e
  | p d =>
    have h : Rep K Z x d := h
    have e : (ixD d i).map .p = some c := e
    cases z : ixD d i with
    | none => rw [z] at e; cases e
    | some c' =>
    rw [z] at e; cases e
    cases h with
    | lst h1 h2 =>
      obtain ⟨v, h3, h4⟩ := atI_rep h2 (show atI _ i = some c' from z)
      exact .inl ⟨_, _, i, v, rfl, rfl, .inl (same_rd w.sub h1), h3, q v h4⟩
    | tup h1 h2 =>
      obtain ⟨v, h3, h4⟩ := atI_rep h2 (show atI _ i = some c' from z)
      exact .inr (.inl ⟨_, _, i, v, rfl, rfl, sqt w.sub h1, h3, q v h4⟩)
    | ktup h1 h2 =>
      obtain ⟨v, h3, h4⟩ := atI_rep h2 (show atI _ i = some c' from z)
      exact .inr (.inl ⟨_, _, i, v, rfl, rfl, same_t w.sub h1, h3, q v h4⟩)
    | klst h1 h2 =>
      obtain ⟨v, h3, h4⟩ := atI_rep h2 (show atI _ i = some c' from z)
      exact .inl ⟨_, _, i, v, rfl, rfl, same_l w.sub h1, h3, q v h4⟩
    | str y =>
      have z : (if y.length ≤ 1000000 then (atI y.cps.toList i).map fun c => D.str ⟨#[c]⟩ else none) = some c' := z
      split at z
      · rename_i hl
        cases z2 : atI y.cps.toList i with
        | none => rw [z2] at z; cases z
        | some k =>
          rw [z2] at z; cases z
          exact .inr (.inr ⟨y, i, k, rfl, rfl, size_le hl, z2, q _ (.str _)⟩)
      · cases z
    | _ => cases z
theorem so_ix {ta tb : TE} {m n : EM} (ha : Sound K W (RepV K) ta m) (hb : Sound K W (RepV K) tb n) : Sound K W (RepV K) (tOp (rIx K) ta tb) (mIx m n) := ⟨fun σ H s Z I r0 Q w rs e p => by
  refine ha.bnd w rs e (p.x) fun d v M1 Z1 H1 I1 w1 rs1 x1 q1 e1 => ?_
  have p1 := p.mono x1
  refine hb.bnd (s := ⟨s.l, M1⟩) w1 rs1 e1 (p1.x) fun d2 v2 M2 Z2 H2 I2 w2 rs2 x2 q2 e2 => ?_
  obtain ⟨d2, rfl, e2⟩ := pur_ok e2
  have p2 := p1.mono x2
  cases d2 with
  | int i =>
    have e2 : (match ixM M2 d i with | some c => some (Rs.ok c M2) | none => none) = some r0 := e2
    cases q2
    cases z : ixM M2 d i with
    | none => rw [z] at e2; cases e2
    | some c =>
      rw [z] at e2; cases e2
      exact ix_ok w2 (q1.mono x2) z fun v r => p2 v Z2 H2 I2 w2 Ext.refl r
  | _ => cases e2⟩
theorem de_ix {ta tb : TE} {m n : EM} (ha : DE K X W a ta m) (hb : DE K X W b tb n) (hs : PlainIx b := by exact fun _ _ => rfl) : DE K X W (.Subscript a b pos) (tOp (rIx K) ta tb) (mIx m n) := by
  refine ⟨ha.k, ?_, so_ix ha.so hb.so⟩
  have h := pe_ix (X := X) (pos := pos) ix_seq ha.pe hb.pe hs
  rw [ha.k] at h
  exact h
/-! ### built-in calls -/
structure CallD (K : PySem.W.Frag) (X : Cx) (f : Value) (r : List V → Hp → VK → Prop) (g : List O → List DV → Option D) : Prop where
  op : X.K = K → CallR X f r
  ok : ∀ (vs : List V) (ds : List DV) (c : D) (Z H : Hp) (I : List Addr) (M : List O) (Q : VK), Wf K Z H I M → RepVs K Z I vs ds → g M ds = some c → PostP K Z H c Q → r vs H Q
def mCB (g : List O → List DV → Option D) (ms : AM) : EM := bnd ms fun ds s => ret (g s.m ds) s
theorem so_cb {r : List V → Hp → VK → Prop} {g : List O → List DV → Option D} {t : TA} {ms : AM} (h : ∀ (vs : List V) (ds : List DV) (c : D) (Z H : Hp) (I : List Addr) (M : List O) (Q : VK), Wf K Z H I M → RepVs K Z I vs ds → g M ds = some c → PostP K Z H c Q → r vs H Q)
    (ha : Sound K W (RepVs K) t ms) : Sound K W (RepV K) (tCB r t) (mCB g ms) := ⟨fun σ H s Z I r0 Q w rs e p => by
  refine ha.bnd w rs e (p.x) fun ds vs M1 Z1 H1 I1 w1 rs1 x1 q1 e1 => ?_
  obtain ⟨c, q, rfl⟩ := ret_ok e1
  exact h vs ds c Z1 H1 I1 M1 Q w1 q1 q (PostP.of w1 (p.mono x1))⟩
theorem de_callB {id : String} {r : List V → Hp → VK → Prop} {g : List O → List DV → Option D} {t : TA} {ms : AM} {x : Str} {p : Pos} (h : CallD K X (.builtin id) r g) (hm : X.mg x = none) (ha : DA K X W (e :: es) t ms) (hv : bootBuiltins x = some (.builtin id) := by decide +kernel) (hg : Gl X x := by rfl) (hn : x ≠ "__name__" := by decide) (hdb : (x == ("__debug__" : Str)) = false := by decide)
    (he : starEach (e :: es) X.env = (false, eval e X.env) :: starEach es X.env := by rfl) (hpl : (backTo pos (starEach es X.env)).any (·.1) = false := by rfl) : DE K X W (.Call (.Name x p) (e :: es) [] pos) (tCB r t) (mCB g ms) :=
  ⟨ha.k, pe_callB (h.op ha.k) hg hm hv ha.pa hn hdb he hpl, so_cb h.ok ha.so⟩
theorem de_callTy {T : String} {r : List V → Hp → VK → Prop} {g : List O → List DV → Option D} {t : TA} {ms : AM} {x : Str} {p : Pos} (h : CallD K X (.type T) r g) (hm : X.mg x = none) (ha : DA K X W (e :: es) t ms) (hv : bootBuiltins x = some (.type T) := by decide +kernel) (hg : Gl X x := by rfl) (hn : x ≠ "__name__" := by decide) (hdb : (x == ("__debug__" : Str)) = false := by decide)
    (he : starEach (e :: es) X.env = (false, eval e X.env) :: starEach es X.env := by rfl) (hpl : (backTo pos (starEach es X.env)).any (·.1) = false := by rfl) : DE K X W (.Call (.Name x p) (e :: es) [] pos) (tCB r t) (mCB g ms) :=
  ⟨ha.k, pe_callTy (h.op ha.k) hg hm hv ha.pa hn hdb he hpl, so_cb h.ok ha.so⟩
def g1 (g : D → Option D) : List O → List DV → Option D
  | _, [.p d] => g d
  | _, _ => none
theorem g1_ok {r : List V → Hp → VK → Prop} {g : D → Option D} (h : ∀ (x : V) (d c : D) (Z H : Hp) (Q : VK), Same Z H → Rep K Z x d → g d = some c → PostP K Z H c Q → r [x] H Q) :
    ∀ (vs : List V) (ds : List DV) (c : D) (Z H : Hp) (I : List Addr) (M : List O) (Q : VK), Wf K Z H I M → RepVs K Z I vs ds → g1 g M ds = some c → PostP K Z H c Q → r vs H Q := by
  intro vs ds c Z H I M Q w rv hg p
  unfold g1 at hg
  split at hg
  · cases rv with
    | cons h1 h2 =>
      cases h2
      exact h _ _ c Z H Q w.sub h1 hg p
  · cases hg
def dAbs : D → Option D
  | .int i => some (.int (if i < 0 then -i else i))
  | _ => none
theorem cd_abs : CallD K X (.builtin "abs") (fun xs H Q => ∃ i, xs = [.int i] ∧ Q (.int (if i < 0 then -i else i)) H) (g1 dAbs) := ⟨fun _ => call_abs, g1_ok fun x d c Z H Q s hx hg p => by
  unfold dAbs at hg
  split at hg
  · cases hx; cases hg; exact ⟨_, rfl, p _ Z H (ExtP.refl s) (.int _)⟩
  · cases hg⟩
def dInt : D → Option D
  | .int i => some (.int i)
  | .bl b => some (.int (if b then 1 else 0))
  | _ => none
theorem cd_int : CallD K X (.type "int") (fun xs H Q => (∃ i, xs = [.int i] ∧ Q (.int i) H) ∨ ∃ k, xs = [.bl k] ∧ Q (.int (if k then 1 else 0)) H) (g1 dInt) := ⟨fun _ => call_int1, g1_ok fun x d c Z H Q s hx hg p => by
  unfold dInt at hg
  split at hg
  · cases hx; cases hg; exact .inl ⟨_, rfl, p _ Z H (ExtP.refl s) (.int _)⟩
  · cases hx; cases hg; exact .inr ⟨_, rfl, p _ Z H (ExtP.refl s) (.int _)⟩
  · cases hg⟩
def lenD : D → Option Nat
  | .lst xs => some xs.length
  | .tup xs => some xs.length
  | .ktup xs => some xs.length
  | .klst xs => some xs.length
  | .str y => if y.length ≤ 1000000 then some y.length else none
  | _ => none
def lenO : Option O → Option Nat
  | some (.lst xs) => some xs.length
  | _ => none
def lenM (M : List O) : DV → Option Nat
  | .p d => lenD d
  | .o n => lenO M[n]?
def dLen : List O → List DV → Option D
  | M, [d] => Option.map (fun (n : Nat) => D.int (n : Int)) (lenM M d)
  | _, _ => none
theorem cd_len : CallD K X (.builtin "len") (fun xs H Q => ∃ x n, xs = [x] ∧ LenV K x H n ∧ Q (.int n) H) dLen := ⟨fun k => by rw [← k]; exact call_len, fun vs ds c Z H I M Q w rv hg p => by
  unfold dLen at hg
  split at hg
  · rename_i d
    cases rv with
    | cons h1 h2 =>
    cases h2
    cases z : lenM M d with
    | none => rw [z] at hg; cases hg
    | some n =>
      rw [z] at hg; cases hg
      refine ⟨_, n, rfl, ?_, p _ Z H (ExtP.refl w.sub) (.int _)⟩
      cases d with
      | o j =>
        obtain ⟨a, ha, rfl⟩ := h1
        have z : lenO M[j]? = some n := z
        cases y : M[j]? with
        | none => rw [y] at z; cases z
        | some o =>
          rw [y] at z
          cases o with
          | lst xs =>
            obtain ⟨_, ys, g1, g2⟩ := w.ob j a _ ha y (by intro z; cases z)
            cases z
            exact .inl ⟨ys, SqL.of g1, (paired_len g2).symm⟩
          | _ => cases z
      | p d =>
        have h1 : Rep K Z _ d := h1
        have z : lenD d = some n := z
        cases h1 with
        | lst g1 g2 => cases z; exact .inl ⟨_, .inl (same_rd w.sub g1), g2.length.symm⟩
        | tup g1 g2 => cases z; exact .inr ⟨_, sqt w.sub g1, g2.length.symm⟩
        | ktup g1 g2 => cases z; exact .inr ⟨_, same_t w.sub g1, g2.length.symm⟩
        | klst g1 g2 => cases z; exact .inl ⟨_, same_l w.sub g1, g2.length.symm⟩
        | str y =>
          have z : (if y.length ≤ 1000000 then some y.length else none) = some n := z
          split at z
          · rename_i hl
            cases z
            exact ⟨size_le hl, rfl⟩
          · cases z
        | _ => cases z
  · cases hg⟩
end
end DL
namespace DL
open PySem L2
/-! ### defs: by data alone (A), with objects of one's own (B) -/
inductive RD where
  | ok (d : D) | ex (c : Addr) (fs : List (Str × D))
abbrev MA := List D → Option RD
abbrev MB := List DV → Mi DV
def spA (K : PySem.W.Frag) (n : Nat) (f : MA) : Sp := fun vs H Q E => vs.length = n ∧ ∃ Z ds r, Same Z H ∧ RepA K Z vs ds ∧ f ds = some r ∧ (match r with
  | .ok d => PostP K Z H d Q
  | .ex c fs => ∀ d Z' H', ExtP Z H Z' H' → ExcAt K Z' H' d fs → (∀ a, d = some a → H a = none) → E (.ref c) d H')
def spB (K : PySem.W.Frag) (n : Nat) (f : List DV → List O → Option (Rs DV)) : Sp := fun vs H Q E => vs.length = n ∧ ∃ Z I M ds r, Wf K Z H I M ∧ RepVs K Z I vs ds ∧ f ds M = some r ∧ (match r with
  | .ok dv M' => ∀ v Z' H' I', Wf K Z' H' I' M' → Ext Z H I Z' H' I' → RepV K Z' I' v dv → Q v H'
  | .ex c fs M' => ∀ d Z' H' I', Wf K Z' H' I' M' → Ext Z H I Z' H' I' → ExcAt K Z' H' d fs → (∀ a, d = some a → H a = none ∧ a ∉ I') → E (.ref c) d H')
theorem spA_len {K : PySem.W.Frag} {n : Nat} {f : MA} : ∀ vs H Q E, spA K n f vs H Q E → vs.length = n := fun _ _ _ _ h => h.1
theorem spB_len {K : PySem.W.Frag} {n : Nat} {f : List DV → List O → Option (Rs DV)} : ∀ vs H Q E, spB K n f vs H Q E → vs.length = n := fun _ _ _ _ h => h.1
section
variable {K : PySem.W.Frag} {X : Cx} {W : WX} {e a b c : Expr} {es : List Expr} {pos : Pos}
/-! ### calls of defs -/
def mCallA (n : Nat) (f : MA) (ms : AM) : EM := bnd ms fun ds s => if ds.length = n then match allP ds with
  | some xs => match f xs with
    | some (.ok d) => some (.ok (.p d) s.m)
    | some (.ex c fs) => some (.ex c fs s.m)
    | none => none
  | none => none else none
def mCallB (n : Nat) (f : List DV → List O → Option (Rs DV)) (ms : AM) : EM := bnd ms fun ds s => if ds.length = n then f ds s.m else none
theorem so_callA {n : Nat} {f : MA} {t : TA} {ms : AM} (ha : Sound K W (RepVs K) t ms) : Sound K W (RepV K) (tCallS (spA K n f) (fun σ => WE W σ) t) (mCallA n f ms) := ⟨fun σ H s Z I r0 Q w rs e p => by
  refine ha.bnd w rs e (p.x) fun ds vs M1 Z1 H1 I1 w1 rs1 x1 q1 e1 => ?_
  have p1 := p.mono x1
  have e1 : (if ds.length = n then match allP ds with
    | some xs => match f xs with
      | some (.ok d) => some (Rs.ok (DV.p d) M1)
      | some (.ex c fs) => some (Rs.ex c fs M1)
      | none => none
    | none => none else none) = some r0 := e1
  split at e1
  · rename_i hl
    cases z : allP ds with
    | none => rw [z] at e1; cases e1
    | some xs =>
      rw [z] at e1
      have e1 : (match f xs with
        | some (.ok d) => some (Rs.ok (DV.p d) M1)
        | some (.ex c fs) => some (Rs.ex c fs M1)
        | none => none) = some r0 := e1
      have ra := allP_rep q1 z
      cases y : f xs with
      | none => rw [y] at e1; cases e1
      | some r =>
        rw [y] at e1
        refine ⟨by rw [paired_len q1]; exact hl, Z1, xs, r, w1.sub, ra, y, ?_⟩
        cases r with
        | ok d => cases e1; exact PostP.of w1 p1
        | ex c fs =>
          cases e1
          intro d Z2 H2 x2 ea na
          exact p1 d Z2 H2 I1 (w1.extP x2) (x2.ext w1) ea fun b q => ⟨na b q, fun m => w1.tr b m (na b q)⟩
  · cases e1⟩
theorem so_callB {n : Nat} {f : List DV → List O → Option (Rs DV)} {t : TA} {ms : AM} (ha : Sound K W (RepVs K) t ms) : Sound K W (RepV K) (tCallS (spB K n f) (fun σ => WE W σ) t) (mCallB n f ms) := ⟨fun σ H s Z I r0 Q w rs e p => by
  refine ha.bnd w rs e (p.x) fun ds vs M1 Z1 H1 I1 w1 rs1 x1 q1 e1 => ?_
  have p1 := p.mono x1
  have e1 : (if ds.length = n then f ds M1 else none) = some r0 := e1
  split at e1
  · rename_i hl
    refine ⟨by rw [paired_len q1]; exact hl, Z1, I1, M1, ds, r0, w1, q1, e1, ?_⟩
    cases r0 with
    | ok d M' => exact p1
    | ex c fs M' => exact p1
  · cases e1⟩
theorem de_callA {n k : Nat} {f : MA} {fa : Addr} {fd : FuncData} {ps : List Str} {t : TA} {ms : AM} {x : Str} {p : Pos} (F : FnOk X.prog X.w K X.mg X.base (L2.CX X.prog X.w) k fa fd ps (spA K n f)) (hr : Room k X.A) (tk : Takes X W) (hm : X.mg x = some (.ref fa)) (hk : PySem.W.keepIn K (.ref fa) = true) (hb : Binds K fd ps [])
    (ha : DA K X W (e :: es) t ms) (hg : Gl X x := by rfl) (hdb : (x == ("__debug__" : Str)) = false := by decide) (he : starEach (e :: es) X.env = (false, eval e X.env) :: starEach es X.env := by rfl) (hpl : (backTo pos (starEach es X.env)).any (·.1) = false := by rfl) :
    DE K X W (.Call (.Name x p) (e :: es) [] pos) (tCallS (spA K n f) (fun σ => WE W σ) t) (mCallA n f ms) := by
  have k := ha.k
  subst k
  exact ⟨rfl, pe_callS F hr hg hm hk hb (fun σ => passAt tk σ) ha.pa hdb he hpl, so_callA ha.so⟩
theorem de_callB' {n k : Nat} {f : List DV → List O → Option (Rs DV)} {fa : Addr} {fd : FuncData} {ps : List Str} {t : TA} {ms : AM} {x : Str} {p : Pos} (F : FnOk X.prog X.w K X.mg X.base (L2.CX X.prog X.w) k fa fd ps (spB K n f)) (hr : Room k X.A) (tk : Takes X W) (hm : X.mg x = some (.ref fa)) (hk : PySem.W.keepIn K (.ref fa) = true) (hb : Binds K fd ps [])
    (ha : DA K X W (e :: es) t ms) (hg : Gl X x := by rfl) (hdb : (x == ("__debug__" : Str)) = false := by decide) (he : starEach (e :: es) X.env = (false, eval e X.env) :: starEach es X.env := by rfl) (hpl : (backTo pos (starEach es X.env)).any (·.1) = false := by rfl) :
    DE K X W (.Call (.Name x p) (e :: es) [] pos) (tCallS (spB K n f) (fun σ => WE W σ) t) (mCallB n f ms) := by
  have k := ha.k
  subst k
  exact ⟨rfl, pe_callS F hr hg hm hk hb (fun σ => passAt tk σ) ha.pa hdb he hpl, so_callB ha.so⟩
/-! ### one's own list, given up -/
def mFrz (m : EM) : EM := bnd m fun d s => match d with
  | .p d => some (.ok (.p d) s.m)
  | .o n => match s.m[n]? with
    | some (.lst ds) => match allP ds with
      | some xs => some (.ok (.p (.lst xs)) (s.m.set n .gone))
      | none => none
    | _ => none
theorem so_frz {t : TE} {m : EM} (h : Sound K W (RepV K) t m) : Sound K W (RepV K) t (mFrz m) := ⟨fun σ H s Z I r0 Q w rs e p => by
  unfold mFrz bnd at e
  cases z : m s with
  | none => rw [z] at e; cases e
  | some r =>
    rw [z] at e
    refine h.ok σ H s Z I r Q w rs z ?_
    cases r with
    | ex c fs M => cases e; exact p
    | ok d M =>
      cases d with
      | p d => cases e; exact p
      | o n =>
        have e : (match M[n]? with
          | some (.lst ds) => match allP ds with
            | some xs => some (Rs.ok (DV.p (D.lst xs)) (M.set n .gone))
            | none => none
          | _ => none) = some r0 := e
        intro v Z' H' I' w' x' q'
        obtain ⟨a, ha, rfl⟩ := q'
        cases y : M[n]? with
        | none => rw [y] at e; cases e
        | some o =>
          rw [y] at e
          cases o with
          | lst ds =>
            have e : (match allP ds with
              | some xs => some (Rs.ok (DV.p (D.lst xs)) (M.set n .gone))
              | none => none) = some r0 := e
            cases u : allP ds with
            | none => rw [u] at e; cases e
            | some xs =>
              rw [u] at e; cases e
              obtain ⟨hz, ys, h1, h2⟩ := w'.ob n a _ ha y (by intro z; cases z)
              have x2 := ext_frz w' ha hz h1
              exact p _ _ _ I' (w'.frz ha y (by intro z; cases z) h1) (x'.trans x2) (.lst (.inl upd_same) ((allP_rep h2 u).mono x2.z))
          | _ => cases e⟩
theorem de_frz {t : TE} {m : EM} (h : DE K X W e t m) : DE K X W e t (mFrz m) := ⟨h.k, h.pe, so_frz h.so⟩
/-! ### statements -/
def liftS {α : Type} (m : Mi α) (k : α → SM) : SM := fun s => match m s with
  | some (.ok v M) => k v ⟨s.l, M⟩
  | some (.ex c f M) => some (.ex c f, ⟨s.l, M⟩)
  | none => none
theorem PostS.mono {Z H Z1 H1 : Hp} {I I1 : List Addr} {D : Ends} (x : Ext Z H I Z1 H1 I1) : ∀ {r : Fl × S}, PostS K W Z H I D r → PostS K W Z1 H1 I1 D r
  | (.nx, _), p => fun σ' Z' H' I' w r x' => p σ' Z' H' I' w r (x.trans x')
  | (.rt _, _), p => fun v Z' H' I' w x' r => p v Z' H' I' w (x.trans x') r
  | (.bk, _), p => fun σ' Z' H' I' w r x' => p σ' Z' H' I' w r (x.trans x')
  | (.ct, _), p => fun σ' Z' H' I' w r x' => p σ' Z' H' I' w r (x.trans x')
  | (.ex _ _, _), p => fun σ' d Z' H' I' w r x' ea na => p σ' d Z' H' I' w r (x.trans x') ea fun b q => ⟨by
      cases z : H b with
      | none => rfl
      | some o => exact absurd (na b q).1 (x.tr b (by rw [z]; simp)), (na b q).2⟩
theorem Sound.lift {α β : Type} {R : Hp → List Addr → β → α → Prop} {t : St → Hp → (β → Hp → Prop) → Prop} {m : Mi α} (h : Sound K W R t m) {σ : St} {H Z : Hp} {I : List Addr} {s : S} {k : α → SM} {r : Fl × S} {D : Ends} {Q : β → Hp → Prop}
    (w : Wf K Z H I s.m) (rs : RepS K Z I σ s.l) (e : liftS m k s = some r) (p : PostS K W Z H I D r)
    (hk : ∀ a b M' Z' H' I', Wf K Z' H' I' M' → RepS K Z' I' σ s.l → Ext Z H I Z' H' I' → R Z' I' b a → k a ⟨s.l, M'⟩ = some r → PostS K W Z' H' I' D r → Q b H') : t σ H Q := by
  unfold liftS at e
  cases q : m s with
  | none => rw [q] at e; cases e
  | some r0 =>
    rw [q] at e
    cases r0 with
    | ok v M => exact h.ok σ H s Z I _ Q w rs q fun b Z' H' I' w' x' r' => hk v b M Z' H' I' w' (rs.mono x') x' r' e (p.mono x')
    | ex c f M =>
      obtain rfl := Option.some.inj e
      exact h.ok σ H s Z I _ Q w rs q fun d Z' H' I' w' x' ea na => p σ d Z' H' I' w' (rs.mono x') x' ea na
def sNil : SM := fun s => some (.nx, s)
def sSeq (a b : SM) : SM := fun s => match a s with
  | some (.nx, s1) => b s1
  | r => r
theorem so_nil : SoundS K W tNext sNil := ⟨fun σ H s Z I r D w rs e p => by
  cases e; exact p σ Z H I w rs Ext.refl⟩
theorem so_seq {t u : TS} {m n : SM} (ha : SoundS K W t m) (hb : SoundS K W u n) : SoundS K W (tSeq t u) (sSeq m n) := ⟨fun σ H s Z I r D w rs e p => by
  unfold sSeq at e
  show t { D with nx := u D } σ H
  cases q : m s with
  | none => rw [q] at e; cases e
  | some r1 =>
    rw [q] at e
    obtain ⟨f, s1⟩ := r1
    cases f with
    | nx => exact ha.ok σ H s Z I _ _ w rs q fun σ' Z' H' I' w' rs' x' => hb.ok σ' H' s1 Z' I' r D w' rs' e (p.mono x')
    | rt v => cases e; exact ha.ok σ H s Z I _ _ w rs q p
    | bk => cases e; exact ha.ok σ H s Z I _ _ w rs q p
    | ct => cases e; exact ha.ok σ H s Z I _ _ w rs q p
    | ex c fs => cases e; exact ha.ok σ H s Z I _ _ w rs q p⟩
theorem dss_nil (k : X.K = K := by rfl) : DSs K X W [] tNext sNil := ⟨k, pss_nil, so_nil⟩
theorem dss_cons {st : Stmt} {rest : List Stmt} {t u : TS} {m n : SM} (ha : DS K X W st t m) (hb : DSs K X W rest u n) : DSs K X W (st :: rest) (tSeq t u) (sSeq m n) := ⟨ha.k, pss_cons ha.ps hb.ps, so_seq ha.so hb.so⟩
theorem dss_one {st : Stmt} {t : TS} {m : SM} (ha : DS K X W st t m) : DSs K X W [st] t m := ⟨ha.k, pss_one ha.ps, ha.so⟩
theorem ds_pass (k : X.K = K := by rfl) : DS K X W (.Pass pos) tNext sNil := ⟨k, ps_pass, so_nil⟩
def sBrk : SM := fun s => some (.bk, s)
def sCnt : SM := fun s => some (.ct, s)
theorem ds_break (k : X.K = K := by rfl) : DS K X W (.Break pos) tBreak sBrk := ⟨k, ps_break, ⟨fun σ H s Z I r D w rs e p => by
  cases e; exact p σ Z H I w rs Ext.refl⟩⟩
theorem ds_continue (k : X.K = K := by rfl) : DS K X W (.Continue pos) tCont sCnt := ⟨k, ps_continue, ⟨fun σ H s Z I r D w rs e p => by
  cases e; exact p σ Z H I w rs Ext.refl⟩⟩
theorem ds_doc {x : Str} {j} {pos' : Pos} (k : X.K = K := by rfl) : DS K X W (.Expr (.Constant (.str x) j pos) pos') tNext sNil := ⟨k, ps_doc, so_nil⟩
def sExpr (m : EM) : SM := liftS m fun _ s => some (.nx, s)
theorem ds_expr {te : TE} {m : EM} (h : DE K X W e te m) (hs : swapsWith e none pos.line X.env = pure false := by rfl) : DS K X W (.Expr e pos) (tDrop te) (sExpr m) := ⟨h.k, ps_expr h.pe hs, ⟨fun σ H s Z I r D w rs e p => by
  refine h.so.lift w rs e p fun d v M1 Z1 H1 I1 w1 rs1 x1 q1 e1 p1 => ?_
  cases e1; exact p1 σ Z1 H1 I1 w1 rs1 Ext.refl⟩⟩
def sRet (m : EM) : SM := liftS m fun d s => some (.rt d, s)
theorem ds_ret {te : TE} {m : EM} (h : DE K X W e te m) : DS K X W (.Return (some e) pos) (tRet te) (sRet m) := ⟨h.k, ps_ret h.pe, ⟨fun σ H s Z I r D w rs e p => by
  refine h.so.lift w rs e p fun d v M1 Z1 H1 I1 w1 rs1 x1 q1 e1 p1 => ?_
  cases e1; exact p1 v Z1 H1 I1 w1 Ext.refl q1⟩⟩
def sRetN : SM := fun s => some (.rt (.p .non), s)
theorem ds_retN (k : X.K = K := by rfl) : DS K X W (.Return none pos) tRetN sRetN := ⟨k, ps_retN, ⟨fun σ H s Z I r D w rs e p => by
  cases e; exact p .non Z H I w Ext.refl .non⟩⟩
def ifS (n k : SM) : DV → SM
  | .p (.bl true), s => n s
  | .p (.bl false), s => k s
  | _, _ => none
def sIf (c : EM) (m n : SM) : SM := liftS c (ifS m n)
theorem ds_if {x y : List Stmt} {tc : TT} {t u : TS} {k : EM} {m n : SM} (hc : DT K X W c tc k) (ha : DSs K X W x t m) (hb : DSs K X W y u n) : DS K X W (.If c x y pos) (tIfS tc t u) (sIf k m n) := ⟨hc.k, ps_if hc.pt ha.ps hb.ps, ⟨fun σ H s Z I r D w rs e p => by
  refine hc.so.lift w rs e p fun d v M1 Z1 H1 I1 w1 rs1 x1 q1 e1 p1 => ?_
  cases (show d = .p (.bl v) from q1)
  cases v with
  | true => exact ha.so.ok σ H1 ⟨s.l, M1⟩ Z1 I1 r D w1 rs1 e1 p1
  | false => exact hb.so.ok σ H1 ⟨s.l, M1⟩ Z1 I1 r D w1 rs1 e1 p1⟩⟩
/-! ### targets -/
theorem wipe_set {σ : St} {i : Nat} {x : Option V} : ∀ {vs : List Nat}, i ∈ vs → wipe (σ.set i x) vs = wipe σ vs
  | v :: vs, h => by
    show (wipe (σ.set i x) vs).set v none = (wipe σ vs).set v none
    by_cases q : i ∈ vs
    · rw [wipe_set q]
    · have e : v = i := by
        rcases List.mem_cons.mp h with k | k
        · exact k.symm
        · exact absurd k q
      subst e
      have c : ∀ ws : List Nat, v ∉ ws → wipe (σ.set v x) ws = (wipe σ ws).set v x := by
        intro ws
        induction ws with
        | nil => intro _; rfl
        | cons w ws ih =>
          intro hw
          rw [List.mem_cons, not_or] at hw
          show (wipe (σ.set v x) ws).set w none = ((wipe σ ws).set w none).set v x
          rw [ih hw.2, List.set_comm _ _ hw.1]
      rw [c vs q, List.set_set]
abbrev GM := DV → S → Option S
structure DG (K : PySem.W.Frag) (X : Cx) (tg : Expr) (g : TG) (m : GM) (ix : List Nat) : Prop where
  k : X.K = K
  pg : PG X tg g
  ok : ∀ (v : V) (dv : DV) (σ : St) (H : Hp) (s s' : S) (Z : Hp) (I : List Addr) (Q : St → Hp → Prop), Wf K Z H I s.m → RepS K Z I σ s.l → RepV K Z I v dv → m dv s = some s' →
    (∀ σ' Z' H' I', Wf K Z' H' I' s'.m → RepS K Z' I' σ' s'.l → Ext Z H I Z' H' I' → (∀ vs, (∀ i ∈ ix, i ∈ vs) → wipe σ' vs = wipe σ vs) → Q σ' H') → g v σ H Q
def gN (i : Nat) : GM := fun d s => some ⟨s.l.set i (some d), s.m⟩
theorem dg_name {i : Nat} {x : Str} (hN : X.N.Nodup) (k : X.K = K := by rfl) (hi : X.N[i]? = some x := by rfl) (hx : Loc X.env.scope x := by first | exact Or.inl rfl | exact Or.inr rfl) (hf : X.fn x = true ∨ X.env.scope.names.lookup x = some .local := by first | exact .inl rfl | exact .inr rfl) : DG K X (.Name x pos) (gName i) (gN i) [i] :=
  ⟨k, pg_name hN hi hx hf, fun v dv σ H s s' Z I Q w rs rv e q => by
    cases e; exact q _ Z H I w (rs.set rv i) Ext.refl fun vs hv => wipe_set (hv i (by simp))⟩
structure DGs (K : PySem.W.Frag) (X : Cx) (tg : List Expr) (g : TGs) (m : List DV → S → Option S) (ix : List Nat) : Prop where
  k : X.K = K
  pg : PGs X tg g
  ok : ∀ (v : List V) (dv : List DV) (σ : St) (H : Hp) (s s' : S) (Z : Hp) (I : List Addr) (Q : St → Hp → Prop), Wf K Z H I s.m → RepS K Z I σ s.l → RepVs K Z I v dv → m dv s = some s' →
    (∀ σ' Z' H' I', Wf K Z' H' I' s'.m → RepS K Z' I' σ' s'.l → Ext Z H I Z' H' I' → (∀ vs, (∀ i ∈ ix, i ∈ vs) → wipe σ' vs = wipe σ vs) → Q σ' H') → g v σ H Q
def gsNil : List DV → S → Option S
  | [], s => some s
  | _, _ => none
def gsCons (m : GM) (n : List DV → S → Option S) : List DV → S → Option S
  | d :: r, s => match m d s with
    | some s1 => n r s1
    | none => none
  | [], _ => none
theorem dgs_nil (k : X.K = K := by rfl) : DGs K X [] gNil gsNil [] := ⟨k, pgs_nil, fun v dv σ H s s' Z I Q w rs rv e q => by
  cases rv with
  | nil => cases e; exact ⟨rfl, q σ Z H I w rs Ext.refl fun _ _ => rfl⟩
  | cons _ _ => cases e⟩
theorem dgs_cons {tg : Expr} {tgs : List Expr} {t : TG} {u : TGs} {m : GM} {n : List DV → S → Option S} {i1 i2 : List Nat} (h1 : DG K X tg t m i1) (h2 : DGs K X tgs u n i2)
    (hs : (assignEach (tg :: tgs) X.env).map (·.2) = assign tg X.env :: (assignEach tgs X.env).map (·.2) := by rfl) : DGs K X (tg :: tgs) (gCons t u) (gsCons m n) (i1 ++ i2) := ⟨h1.k, pgs_cons h1.pg h2.pg hs, fun v dv σ H s s' Z I Q w rs rv e q => by
  cases rv with
  | nil => cases e
  | @cons _ d _ _ r1 r2 =>
    have e : (match m d s with | some s1 => n _ s1 | none => none) = some s' := e
    refine ⟨_, _, rfl, ?_⟩
    cases z : m d s with
    | none => rw [z] at e; cases e
    | some s1 =>
      rw [z] at e
      refine h1.ok _ d σ H s s1 Z I _ w rs r1 z fun σ' Z' H' I' w' rs' x' k' => ?_
      exact h2.ok _ _ σ' H' s1 s' Z' I' Q w' rs' (paired_imp (fun _ _ q => RepV.mono x' q) r2) e fun σ2 Z2 H2 I2 w2 rs2 x2 k2 => q σ2 Z2 H2 I2 w2 rs2 (x'.trans x2) fun vs hv =>
        (k2 vs fun i hi => hv i (List.mem_append_right _ hi)).trans (k' vs fun i hi => hv i (List.mem_append_left _ hi))⟩
def gT (n : Nat) (m : List DV → S → Option S) : GM := fun d s => match d with
  | .p (.tup xs) => if xs.length = n then m (xs.map .p) s else none
  | .p (.ktup xs) => if xs.length = n then m (xs.map .p) s else none
  | _ => none
theorem dg_tup {tgs : List Expr} {k : Nat} {t : TGs} {m : List DV → S → Option S} {n : Nat} {ix : List Nat} (hc : X.calm = true) (h : DGs K X tgs t m ix) (hn : (assignEach tgs X.env).length = n := by rfl) (hst : (assignEach tgs X.env).findIdx? (·.1) = none := by rfl) :
    DG K X (.Tuple tgs k pos) (gTup K n t) (gT n m) ix := by
  have kk := h.k
  subst kk
  refine ⟨rfl, pg_tup hc h.pg hn hst, fun v dv σ H s s' Z I Q w rs rv e q => ?_⟩
  cases dv with
  | o j => cases e
  | p d =>
    have rv : Rep X.K Z v d := rv
    cases rv with
    | tup h1 h2 =>
      rename_i a xs ds
      have e : (if ds.length = n then m (ds.map .p) s else none) = some s' := e
      split at e
      · rename_i hl
        exact ⟨a, xs, rfl, sqt w.sub h1, by rw [h2.length]; exact hl, h.ok _ _ σ H s s' Z I Q w rs (allP_map h2) e q⟩
      · cases e
    | ktup h1 h2 =>
      rename_i a xs ds
      have e : (if ds.length = n then m (ds.map .p) s else none) = some s' := e
      split at e
      · rename_i hl
        exact ⟨a, xs, rfl, same_t w.sub h1, by rw [h2.length]; exact hl, h.ok _ _ σ H s s' Z I Q w rs (allP_map h2) e q⟩
      · cases e
    | _ => cases e
def sAsg (m : EM) (g : GM) : SM := liftS m fun d s => match g d s with
  | some s1 => some (.nx, s1)
  | none => none
theorem ds_asg {tg : Expr} {te : TE} {g : TG} {m : EM} {gm : GM} {ix : List Nat} (he : DE K X W e te m) (hg : DG K X tg g gm ix) (hs : swapsWithSole [tg] e pos.line X.env = pure false := by rfl) (hw : swappedStores [tg] e X.env = pure none := by rfl)
    (h1 : (assignEach [tg] X.env).map (·.2) = [assign tg X.env] := by rfl) : DS K X W (.Assign [tg] e pos) (tAsg te g) (sAsg m gm) := ⟨he.k, ps_asg he.pe hg.pg hs hw h1, ⟨fun σ H s Z I r D w rs e p => by
  refine he.so.lift w rs e p fun d v M1 Z1 H1 I1 w1 rs1 x1 q1 e1 p1 => ?_
  have e1 : (match gm d ⟨s.l, M1⟩ with | some s1 => some (Fl.nx, s1) | none => none) = some r := e1
  cases z : gm d ⟨s.l, M1⟩ with
  | none => rw [z] at e1; cases e1
  | some s1 =>
    rw [z] at e1; cases e1
    exact hg.ok v d σ H1 ⟨s.l, M1⟩ s1 Z1 I1 _ w1 rs1 q1 z fun σ' Z' H' I' w' rs' x' _ => p1 σ' Z' H' I' w' rs' x'⟩⟩
theorem ds_set {i : Nat} {x : Str} {te : TE} {m : EM} {px : Pos} (hN : X.N.Nodup) (he : DE K X W e te m) (hi : X.N[i]? = some x := by rfl) (hx : Loc X.env.scope x := by first | exact Or.inl rfl | exact Or.inr rfl) (hf : X.fn x = true ∨ X.env.scope.names.lookup x = some .local := by first | exact .inl rfl | exact .inr rfl)
    (hs : swapsWithSole [.Name x px] e pos.line X.env = pure false := by rfl) (hw : swappedStores [.Name x px] e X.env = pure none := by rfl) (h1 : (assignEach [.Name x px] X.env).map (·.2) = [assign (.Name x px) X.env] := by rfl) : DS K X W (.Assign [.Name x px] e pos) (tAsg te (gName i)) (sAsg m (gN i)) :=
  ds_asg he (dg_name hN he.k hi hx hf) hs hw h1
/-- a, b = x, y -/
def sPar (i j : Nat) (ms : AM) : SM := liftS ms fun ds s => match ds with
  | [d, f] => some (.nx, ⟨(s.l.set i (some d)).set j (some f), s.m⟩)
  | _ => none
theorem ds_par {i j : Nat} {x y : Str} {ta : TA} {ms : AM} {px py pt : Pos} {kt k2} {pt2 : Pos} (hc : X.calm = true) (hN : X.N.Nodup) (ha : DA K X W [a, b] ta ms) (hi : X.N[i]? = some x := by rfl) (hj : X.N[j]? = some y := by rfl) (hij : i ≠ j := by decide)
    (hx : X.env.scope.names.lookup x = some .local := by rfl) (hy : X.env.scope.names.lookup y = some .local := by rfl)
    (hw : swappedStores [.Tuple [.Name x px, .Name y py] kt pt] (.Tuple [a, b] k2 pt2) X.env = pure (some [x, y]) := by rfl) (hs : swapsWithSole [.Tuple [.Name x px, .Name y py] kt pt] (.Tuple [a, b] k2 pt2) pos.line X.env = pure false := by rfl) :
    DS K X W (.Assign [.Tuple [.Name x px, .Name y py] kt pt] (.Tuple [a, b] k2 pt2) pos) (tPar i j ta) (sPar i j ms) := ⟨ha.k, ps_par hc hN hi hj hij hx hy ha.pa hw hs, ⟨fun σ H s Z I r D w rs e p => by
  refine ha.so.lift w rs e p fun ds vs M1 Z1 H1 I1 w1 rs1 x1 q1 e1 p1 => ?_
  cases q1 with
  | nil => cases e1
  | cons r1 q1 =>
  cases q1 with
  | nil => cases e1
  | cons r2 q1 =>
  cases q1 with
  | nil =>
    cases e1
    exact ⟨_, _, rfl, p1 _ Z1 H1 I1 w1 ((rs1.set r1 i).set r2 j) Ext.refl⟩
  | cons _ _ => cases e1⟩⟩
end
end DL
namespace DL
open PySem L2
section
variable {K : PySem.W.Frag} {X : Cx} {W : WX} {e a b c tg iter : Expr} {es : List Expr} {pos : Pos}
/-! ### what is walked -/
def ItOk (K : PySem.W.Frag) (Z0 : Hp) (I0 : List Addr) (J : It) (items : List DV) : Prop :=
  ∀ Z H I, Same Z0 Z → (∃ t, I = I0 ++ t) → Same Z H → ∀ i : Nat, (∀ d, items[i]? = some d → J.go i H ∧ ∀ x H', J.yld i H x H' → ∃ Z', ExtP Z H Z' H' ∧ RepV K Z' I x d) ∧ (items.length ≤ i → J.stop i H)
abbrev IM := Mi (List DV)
structure DI (K : PySem.W.Frag) (X : Cx) (W : WX) (tg iter : Expr) (wi : TI) (m : IM) : Prop where
  k : X.K = K
  pi : PI X tg iter wi
  so : Sound K W (ItOk K) wi m
def itD : D → Option (List DV)
  | .lst xs => some (xs.map .p)
  | .tup xs => some (xs.map .p)
  | .ktup xs => some (xs.map .p)
  | _ => none
def mItD (g : D → Option (List DV)) (m : EM) : IM := bnd m (pur fun d s => match g d with
  | some ds => some (.ok ds s.m)
  | none => none)
theorem so_itD {g : D → Option (List DV)} {te : TE} {m : EM} {r : V → Hp → (It → Hp → Prop) → Prop} (h : Sound K W (RepV K) te m) (hr : ∀ v d ds Z H I (R : It → Hp → Prop), Same Z H → Rep K Z v d → g d = some ds → (∀ J, ItOk K Z I J ds → R J H) → r v H R) :
    Sound K W (ItOk K) (fun σ H R => te σ H fun x H1 => r x H1 R) (mItD g m) := ⟨fun σ H s Z I r0 Q w rs e p => by
  refine h.bnd w rs e (p.x) fun d v M1 Z1 H1 I1 w1 rs1 x1 q1 e1 => ?_
  obtain ⟨d, rfl, e1⟩ := pur_ok e1
  have e1 : (match g d with | some ds => some (Rs.ok ds M1) | none => none) = some r0 := e1
  cases z : g d with
  | none => rw [z] at e1; cases e1
  | some ds =>
    rw [z] at e1; cases e1
    exact hr v d ds Z1 H1 I1 Q w1.sub q1 z fun J hJ => p J Z1 H1 I1 w1 x1 hJ⟩
def itL : D → Option (List DV)
  | .lst xs => some (xs.map .p)
  | .klst xs => some (xs.map .p)
  | .scr xs => some (xs.map .p)
  | _ => none
def itT : D → Option (List DV)
  | .tup xs => some (xs.map .p)
  | .ktup xs => some (xs.map .p)
  | _ => none
theorem getP {α : Type} {xs : List D} {i : Nat} {d : DV} (h : (xs.map DV.p)[i]? = some d) : ∃ y, xs[i]? = some y ∧ d = .p y := by
  rw [List.getElem?_map] at h
  cases q : xs[i]? with
  | none => rw [q] at h; cases h
  | some y => rw [q] at h; cases h; exact ⟨y, rfl, rfl⟩
theorem rd_inj_len {K : PySem.W.Frag} {Z : Hp} {vs : List V} {xs : List D} (r : RepA K Z vs xs) {i : Nat} {y : D} (h : xs[i]? = some y) : ∃ v, vs[i]? = some v ∧ Rep K Z v y := r.get h
theorem di_list {te : TE} {m : EM} (h : DE K X W iter te m) : DI K X W tg iter (iList K te) (mItD itL m) := by
  refine ⟨h.k, ?_, ?_⟩
  · rw [← h.k]; exact pi_list h.pe
  · refine so_itD (r := fun x H1 R => ∃ a, x = .ref a ∧ (∃ xs, SqL K H1 a xs) ∧ R (Itl K a) H1) h.so fun v d ds Z H I R s hd hg q => ?_
    cases hd with
    | lst h1 h2 =>
      rename_i a vs xs
      cases hg
      refine ⟨a, rfl, ⟨vs, .inl (same_rd s h1)⟩, q _ fun Z' H' I' z _ s' i => ⟨fun d hd => ?_, fun hl => ⟨vs, .inl (same_rd s' (same_rd z h1)), by rw [h2.length]; simpa using hl⟩⟩⟩
      obtain ⟨y, hy, rfl⟩ := getP (α := Unit) hd
      obtain ⟨v, hv, rv⟩ := h2.get hy
      refine ⟨⟨vs, v, .inl (same_rd s' (same_rd z h1)), hv⟩, fun x H2 hx => ?_⟩
      obtain ⟨rfl, hx⟩ := hx
      have := hx vs (.inl (same_rd s' (same_rd z h1)))
      rw [hv] at this
      cases this
      exact ⟨Z', ExtP.refl s', rv.mono z⟩
    | klst h1 h2 =>
      rename_i a vs xs
      cases hg
      refine ⟨a, rfl, ⟨vs, same_l s h1⟩, q _ fun Z' H' I' z _ s' i => ⟨fun d hd => ?_, fun hl => ⟨vs, same_l s' (same_l z h1), by rw [h2.length]; simpa using hl⟩⟩⟩
      obtain ⟨y, hy, rfl⟩ := getP (α := Unit) hd
      obtain ⟨v, hv, rv⟩ := h2.get hy
      refine ⟨⟨vs, v, same_l s' (same_l z h1), hv⟩, fun x H2 hx => ?_⟩
      obtain ⟨rfl, hx⟩ := hx
      have := hx vs (same_l s' (same_l z h1))
      rw [hv] at this
      cases this
      exact ⟨Z', ExtP.refl s', rv.mono z⟩
    | scr h1 h2 =>
      rename_i a vs xs
      cases hg
      refine ⟨a, rfl, ⟨vs, same_l s h1⟩, q _ fun Z' H' I' z _ s' i => ⟨fun d hd => ?_, fun hl => ⟨vs, same_l s' (same_l z h1), by rw [h2.length]; simpa using hl⟩⟩⟩
      obtain ⟨y, hy, rfl⟩ := getP (α := Unit) hd
      obtain ⟨v, hv, rv⟩ := h2.get hy
      refine ⟨⟨vs, v, same_l s' (same_l z h1), hv⟩, fun x H2 hx => ?_⟩
      obtain ⟨rfl, hx⟩ := hx
      have := hx vs (same_l s' (same_l z h1))
      rw [hv] at this
      cases this
      exact ⟨Z', ExtP.refl s', rv.mono z⟩
    | _ => cases hg
theorem di_tup {te : TE} {m : EM} (h : DE K X W iter te m) : DI K X W tg iter (iTup K te) (mItD itT m) := by
  refine ⟨h.k, ?_, ?_⟩
  · rw [← h.k]; exact pi_tup h.pe
  · refine so_itD (r := fun x H1 R => ∃ a, x = .ref a ∧ (∃ xs, SqT K H1 a xs) ∧ R (Itt K a) H1) h.so fun v d ds Z H I R s hd hg q => ?_
    cases hd with
    | tup h1 h2 =>
      rename_i a vs xs
      cases hg
      refine ⟨a, rfl, ⟨vs, sqt s h1⟩, q _ fun Z' H' I' z _ s' i => ⟨fun d hd => ?_, fun hl => ⟨vs, sqt s' (z _ _ h1), by rw [h2.length]; simpa using hl⟩⟩⟩
      obtain ⟨y, hy, rfl⟩ := getP (α := Unit) hd
      obtain ⟨v, hv, rv⟩ := h2.get hy
      refine ⟨⟨vs, v, sqt s' (z _ _ h1), hv⟩, fun x H2 hx => ?_⟩
      obtain ⟨rfl, hx⟩ := hx
      have := hx vs (sqt s' (z _ _ h1))
      rw [hv] at this
      cases this
      exact ⟨Z', ExtP.refl s', rv.mono z⟩
    | ktup h1 h2 =>
      rename_i a vs xs
      cases hg
      refine ⟨a, rfl, ⟨vs, same_t s h1⟩, q _ fun Z' H' I' z _ s' i => ⟨fun d hd => ?_, fun hl => ⟨vs, same_t s' (same_t z h1), by rw [h2.length]; simpa using hl⟩⟩⟩
      obtain ⟨y, hy, rfl⟩ := getP (α := Unit) hd
      obtain ⟨v, hv, rv⟩ := h2.get hy
      refine ⟨⟨vs, v, same_t s' (same_t z h1), hv⟩, fun x H2 hx => ?_⟩
      obtain ⟨rfl, hx⟩ := hx
      have := hx vs (same_t s' (same_t z h1))
      rw [hv] at this
      cases this
      exact ⟨Z', ExtP.refl s', rv.mono z⟩
    | _ => cases hg
def itS : D → Option (List DV)
  | .str x => some (x.cps.toList.map fun c => .p (.str ⟨#[c]⟩))
  | _ => none
theorem di_str {te : TE} {m : EM} (h : DE K X W iter te m) : DI K X W tg iter (iStr te) (mItD itS m) := by
  refine ⟨h.k, pi_str h.pe, ?_⟩
  refine so_itD (r := fun v H1 R => ∃ x, v = .str x ∧ R (Its x) H1) h.so fun v d ds Z H I R s hd hg q => ?_
  cases hd with
  | str x =>
    cases hg
    refine ⟨x, rfl, q _ fun Z' H' I' z _ s' i => ⟨fun d hd => ?_, fun hl => ?_⟩⟩
    · rw [List.getElem?_map] at hd
      cases hc : x.cps.toList[i]? with
      | none => rw [hc] at hd; cases hd
      | some c =>
        rw [hc] at hd; cases hd
        have hi : i < x.cps.size := by
          have := (List.getElem?_eq_some_iff.mp hc).1
          simpa using this
        refine ⟨hi, fun y H2 hy => ?_⟩
        obtain ⟨rfl, c', hc', rfl⟩ := hy
        have : c' = c := by
          have e1 : x.cps.toList[i]? = some c' := by simpa using hc'
          rw [hc] at e1
          exact (Option.some.inj e1).symm
        subst this
        exact ⟨Z', ExtP.refl s', .str _⟩
    · show x.cps.size ≤ i
      simpa using hl
  | _ => cases hg
def intsFrom (lo : Int) (n : Nat) : List DV := (List.range n).map fun (i : Nat) => .p (.int (lo + (i : Int)))
theorem itr_ok {Z : Hp} {I : List Addr} {lo : Int} {n : Nat} : ItOk K Z I (Itr lo n) (intsFrom lo n) := fun Z' H' I' z _ s' i => by
  refine ⟨fun d hd => ?_, fun hl => ?_⟩
  · unfold intsFrom at hd
    rw [List.getElem?_map] at hd
    cases q : (List.range n)[i]? with
    | none => rw [q] at hd; cases hd
    | some j =>
      rw [q] at hd
      have hi : i < n := by simpa using (List.getElem?_eq_some_iff.mp q).1
      have ej : j = i := by
        rw [List.getElem?_range hi] at q
        exact (Option.some.inj q).symm
      subst ej
      cases hd
      refine ⟨hi, fun x H2 hx => ?_⟩
      obtain ⟨rfl, rfl⟩ := hx
      exact ⟨Z', ExtP.refl s', .int _⟩
  · show n ≤ i
    simpa [intsFrom] using hl
def rngOk (i : Int) : Bool := decide (-4611686018427387904 ≤ i ∧ i < 4611686018427387904)
def rng1D : List DV → Option (List DV)
  | [.p (.int j)] => if rngOk j = true then some (intsFrom 0 j.toNat) else none
  | _ => none
def rng2D : List DV → Option (List DV)
  | [.p (.int i), .p (.int j)] => if rngOk i = true then if rngOk j = true then some (intsFrom i (j - i).toNat) else none else none
  | _ => none
def mRng (g : List DV → Option (List DV)) (ms : AM) : IM := bnd ms fun ds s => match g ds with
  | some xs => some (.ok xs s.m)
  | none => none
theorem rng_bound {i : Int} (h : rngOk i = true) : -(2 ^ 62) ≤ i ∧ i < 2 ^ 62 := by
  unfold rngOk at h
  simp only [decide_eq_true_eq] at h
  have : (2 : Int) ^ 62 = 4611686018427387904 := by decide
  omega
theorem so_rng {g : List DV → Option (List DV)} {ta : TA} {ms : AM} {r : List V → Hp → (It → Hp → Prop) → Prop} (h : Sound K W (RepVs K) ta ms) (hr : ∀ vs ds xs Z H I (R : It → Hp → Prop), RepVs K Z I vs ds → g ds = some xs → (∀ J, ItOk K Z I J xs → R J H) → r vs H R) :
    Sound K W (ItOk K) (fun σ H R => ta σ H fun vs H1 => r vs H1 R) (mRng g ms) := ⟨fun σ H s Z I r0 Q w rs e p => by
  refine h.bnd w rs e (p.x) fun ds vs M1 Z1 H1 I1 w1 rs1 x1 q1 e1 => ?_
  have e1 : (match g ds with | some xs => some (Rs.ok xs M1) | none => none) = some r0 := e1
  cases z : g ds with
  | none => rw [z] at e1; cases e1
  | some xs =>
    rw [z] at e1; cases e1
    exact hr vs ds xs Z1 H1 I1 Q q1 z fun J hJ => p J Z1 H1 I1 w1 x1 hJ⟩
theorem di_range1 {ta : TA} {ms : AM} {p : Pos} (hm : X.mg "range" = none) (h : DA K X W [a] ta ms) (hg : Gl X "range" := by rfl) (hs : starEach [a] X.env = [(false, eval a X.env)] := by rfl) : DI K X W tg (.Call (.Name "range" p) [a] [] pos) (iRng1 ta) (mRng rng1D ms) :=
  ⟨h.k, pi_range1 hg hm h.pa hs, so_rng (r := fun vs H1 R => ∃ j : Int, vs = [.int j] ∧ -(2 ^ 62) ≤ j ∧ j < 2 ^ 62 ∧ R (Itr 0 j.toNat) H1) h.so fun vs ds xs Z H I R rv z q => by
    unfold rng1D at z
    split at z
    · split at z
      · rename_i hb
        cases z
        cases rv with
        | cons g1 g2 =>
        cases g2
        cases g1
        obtain ⟨b1, b2⟩ := rng_bound hb
        exact ⟨_, rfl, b1, b2, q _ itr_ok⟩
      · cases z
    · cases z⟩
theorem di_range2 {ta : TA} {ms : AM} {p : Pos} (hm : X.mg "range" = none) (h : DA K X W [a, b] ta ms) (hg : Gl X "range" := by rfl) (hs : starEach [a, b] X.env = [(false, eval a X.env), (false, eval b X.env)] := by rfl) (hs2 : starEach [b] X.env = [(false, eval b X.env)] := by rfl) : DI K X W tg (.Call (.Name "range" p) [a, b] [] pos) (iRng2 ta) (mRng rng2D ms) :=
  ⟨h.k, pi_range2 hg hm h.pa hs hs2, so_rng (r := fun vs H1 R => ∃ i j : Int, vs = [.int i, .int j] ∧ (-(2 ^ 62) ≤ i ∧ i < 2 ^ 62 ∧ -(2 ^ 62) ≤ j ∧ j < 2 ^ 62) ∧ R (Itr i (j - i).toNat) H1) h.so fun vs ds xs Z H I R rv z q => by
    unfold rng2D at z
    split at z
    · split at z
      · rename_i hb
        split at z
        · rename_i hb2
          cases z
          cases rv with
          | cons g1 g2 =>
          cases g2 with
          | cons g2 g3 =>
          cases g3
          cases g1
          cases g2
          obtain ⟨b1, b2⟩ := rng_bound hb
          obtain ⟨b3, b4⟩ := rng_bound hb2
          exact ⟨_, _, rfl, ⟨b1, b2, b3, b4⟩, q _ itr_ok⟩
        · cases z
      · cases z
    · cases z⟩
/-! ### for -/
def loopS (g : GM) (body : SM) : List DV → SM
  | [], s => some (.nx, s)
  | d :: ds, s => match g d s with
    | none => none
    | some s1 => match body s1 with
      | none => none
      | some (.nx, s2) => loopS g body ds s2
      | some (.ct, s2) => loopS g body ds s2
      | some (.bk, s2) => some (.nx, s2)
      | some (.rt v, s2) => some (.rt v, s2)
      | some (.ex c f, s2) => some (.ex c f, s2)
def sFor (it : IM) (g : GM) (body : SM) : SM := liftS it fun ds => loopS g body ds
theorem ExtP.ext' {Z H Z' H' : Hp} {I : List Addr} {M : List O} (w : Wf K Z H I M) (e : ExtP Z H Z' H') : Ext Z H I Z' H' I := e.ext w
theorem ds_for {body : List Stmt} {wi : TI} {g : TG} {tb : TS} {it : IM} {gm : GM} {ix : List Nat} {mb : SM} (hp : PassesOwn (model X.prog X.w) X.A X.env X.xe) (hc : X.calm = true) (hi : DI K X W tg iter wi it) (hg : DG K X tg g gm ix) (hb : DSs K X W body tb mb)
    (hs : ∀ x, foldedSetIterable iter X.env x = pure x := by intro _; rfl) : DS K X W (.For tg iter body [] pos) (tFor wi g tb) (sFor it gm mb) := ⟨hi.k, ps_for hp hc hi.pi hg.pg hb.ps hs, ⟨fun σ H s Z I r D w rs e p => by
  refine hi.so.lift w rs e p fun ds J M1 Z1 H1 I1 w1 rs1 x1 q1 e1 p1 => ?_
  refine ⟨fun i m σ' H' => m = ds.length - i ∧ i ≤ ds.length ∧ ∃ Z' I' s', Wf K Z' H' I' s'.m ∧ RepS K Z' I' σ' s'.l ∧ Ext Z1 H1 I1 Z' H' I' ∧ loopS gm mb (ds.drop i) s' = some r, ⟨ds.length, by simp, Nat.zero_le _, Z1, I1, ⟨s.l, M1⟩, w1, rs1, Ext.refl, e1⟩, ?_⟩
  rintro i m σ' H' ⟨rfl, hi', Z', I', s', w', rs', x', e'⟩
  have Jo := q1 Z' H' I' x'.z x'.i w'.sub i
  by_cases hlt : i < ds.length
  · right
    have hd : ds[i]? = some ds[i] := by simp [hlt]
    obtain ⟨go, yl⟩ := Jo.1 _ hd
    rw [List.drop_eq_getElem_cons hlt] at e'
    refine ⟨go, fun σ2 H2 => ∃ Z2 I2 s2, Wf K Z2 H2 I2 s2.m ∧ RepS K Z2 I2 σ2 s2.l ∧ Ext Z1 H1 I1 Z2 H2 I2 ∧ loopS gm mb (ds.drop (i + 1)) s2 = some r,
      fun σ2 H2 h2 => ⟨ds.length - (i + 1), by omega, rfl, hlt, h2⟩, fun x H2 hx => ?_⟩
    obtain ⟨Z2, x2, rx⟩ := yl x H2 hx
    have w2 := w'.extP x2
    have y2 := x2.ext w'
    have e' : (match gm ds[i] s' with
      | none => none
      | some s1 => match mb s1 with
        | none => none
        | some (.nx, s2) => loopS gm mb (ds.drop (i + 1)) s2
        | some (.ct, s2) => loopS gm mb (ds.drop (i + 1)) s2
        | some (.bk, s2) => some (.nx, s2)
        | some (.rt v, s2) => some (.rt v, s2)
        | some (.ex c f, s2) => some (.ex c f, s2)) = some r := e'
    cases z : gm ds[i] s' with
    | none => rw [z] at e'; cases e'
    | some s1 =>
      rw [z] at e'
      refine hg.ok x ds[i] σ' H2 s' s1 Z2 I' _ w2 (rs'.mono y2) rx z fun σ3 Z3 H3 I3 w3 rs3 x3 _ => ?_
      have xx := (x'.trans y2).trans x3
      cases z2 : mb s1 with
      | none =>
        have e' : (match mb s1 with
          | none => none
          | some (.nx, s2) => loopS gm mb (ds.drop (i + 1)) s2
          | some (.ct, s2) => loopS gm mb (ds.drop (i + 1)) s2
          | some (.bk, s2) => some (.nx, s2)
          | some (.rt v, s2) => some (.rt v, s2)
          | some (.ex c f, s2) => some (.ex c f, s2)) = some r := e'
        rw [z2] at e'; cases e'
      | some fr =>
        have e' : (match mb s1 with
          | none => none
          | some (.nx, s2) => loopS gm mb (ds.drop (i + 1)) s2
          | some (.ct, s2) => loopS gm mb (ds.drop (i + 1)) s2
          | some (.bk, s2) => some (.nx, s2)
          | some (.rt v, s2) => some (.rt v, s2)
          | some (.ex c f, s2) => some (.ex c f, s2)) = some r := e'
        rw [z2] at e'
        obtain ⟨f, s2⟩ := fr
        have p3 := p1.mono xx
        refine hb.so.ok σ3 H3 s1 Z3 I3 _ _ w3 rs3 z2 ?_
        cases f with
        | nx => exact fun σ4 Z4 H4 I4 w4 rs4 x4 => ⟨Z4, I4, s2, w4, rs4, xx.trans x4, e'⟩
        | ct => exact fun σ4 Z4 H4 I4 w4 rs4 x4 => ⟨Z4, I4, s2, w4, rs4, xx.trans x4, e'⟩
        | bk => cases e'; exact p3
        | rt v => cases e'; exact p3
        | ex c fs => cases e'; exact p3
  · left
    have e0 : ds.drop i = [] := List.drop_eq_nil_of_le (by omega)
    rw [e0] at e'
    cases e'
    exact ⟨Jo.2 (by omega), (p1.mono x') σ' Z' H' I' w' rs' Ext.refl⟩⟩⟩
/-! ### while -/
def sWhile : Nat → EM → SM → SM
  | 0, _, _ => fun _ => none
  | n + 1, c, body => liftS c fun d s => match d with
    | .p (.bl true) => match body s with
      | none => none
      | some (.nx, s2) => sWhile n c body s2
      | some (.ct, s2) => sWhile n c body s2
      | some (.bk, s2) => some (.nx, s2)
      | some (.rt v, s2) => some (.rt v, s2)
      | some (.ex c f, s2) => some (.ex c f, s2)
    | .p (.bl false) => some (.nx, s)
    | _ => none
theorem ds_while {body : List Stmt} {tc : TT} {tb : TS} {c : Expr} {mc : EM} {mb : SM} (n : Nat) (hp : PassesOwn (model X.prog X.w) X.A X.env X.xe) (hc : DT K X W c tc mc) (hb : DSs K X W body tb mb) : DS K X W (.While c body [] pos) (tWhile tc tb) (sWhile n mc mb) := ⟨hc.k, ps_while hp hc.pt hb.ps, ⟨fun σ H s Z I r D w rs e p => by
  refine ⟨fun m σ' H' => ∃ Z' I' s', Wf K Z' H' I' s'.m ∧ RepS K Z' I' σ' s'.l ∧ Ext Z H I Z' H' I' ∧ sWhile m mc mb s' = some r, ⟨n, Z, I, s, w, rs, Ext.refl, e⟩, ?_⟩
  rintro m σ' H' ⟨Z', I', s', w', rs', x', e'⟩
  cases m with
  | zero => cases e'
  | succ m =>
    refine hc.so.lift w' rs' e' (p.mono x') fun d v M1 Z1 H1 I1 w1 rs1 x1 q1 e1 p1 => ?_
    cases (show d = .p (.bl v) from q1)
    cases v with
    | false =>
      rw [if_neg Bool.false_ne_true]
      cases e1
      exact p1 σ' Z1 H1 I1 w1 rs1 Ext.refl
    | true =>
      rw [if_pos rfl]
      have e1 : (match mb ⟨s'.l, M1⟩ with
        | none => none
        | some (.nx, s2) => sWhile m mc mb s2
        | some (.ct, s2) => sWhile m mc mb s2
        | some (.bk, s2) => some (.nx, s2)
        | some (.rt v, s2) => some (.rt v, s2)
        | some (.ex c f, s2) => some (.ex c f, s2)) = some r := e1
      refine ⟨fun σ2 H2 => ∃ Z2 I2 s2, Wf K Z2 H2 I2 s2.m ∧ RepS K Z2 I2 σ2 s2.l ∧ Ext Z H I Z2 H2 I2 ∧ sWhile m mc mb s2 = some r, fun σ2 H2 h2 => ⟨m, Nat.lt_succ_self m, h2⟩, ?_⟩
      cases z2 : mb ⟨s'.l, M1⟩ with
      | none => rw [z2] at e1; cases e1
      | some fr =>
        rw [z2] at e1
        obtain ⟨f, s2⟩ := fr
        refine hb.so.ok σ' H1 ⟨s'.l, M1⟩ Z1 I1 _ _ w1 rs1 z2 ?_
        cases f with
        | nx => exact fun σ4 Z4 H4 I4 w4 rs4 x4 => ⟨Z4, I4, s2, w4, rs4, (x'.trans x1).trans x4, e1⟩
        | ct => exact fun σ4 Z4 H4 I4 w4 rs4 x4 => ⟨Z4, I4, s2, w4, rs4, (x'.trans x1).trans x4, e1⟩
        | bk => cases e1; exact p1
        | rt v => cases e1; exact p1
        | ex c fs => cases e1; exact p1⟩⟩
end
end DL
namespace DL
open PySem L2
abbrev WF : WX := fun _ _ _ _ => False
section
variable {K : PySem.W.Frag} {X : Cx} {W : WX} {e a b c tg iter : Expr} {es : List Expr} {pos : Pos}
def wipeL (l : List (Option DV)) : List Nat → List (Option DV)
  | [] => l
  | v :: vs => (wipeL l vs).set v none
theorem RepS.wipe {Z : Hp} {I : List Addr} {σ : St} {l : List (Option DV)} (r : RepS K Z I σ l) : ∀ vs : List Nat, RepS K Z I (L2.wipe σ vs) (wipeL l vs)
  | [] => r
  | v :: vs => by
    have h := RepS.wipe r vs
    refine ⟨by show ((L2.wipe σ vs).set v none).length = ((wipeL l vs).set v none).length; simpa using h.len, fun i dv e => ?_⟩
    have e : ((wipeL l vs).set v none)[i]? = some (some dv) := e
    by_cases q : v = i
    · subst q
      by_cases b : v < (wipeL l vs).length
      · rw [List.getElem?_set_self b] at e; cases e
      · rw [List.getElem?_eq_none (by simpa using b)] at e; cases e
    · rw [List.getElem?_set_ne q] at e
      obtain ⟨u, h1, h2⟩ := h.at_ i dv e
      refine ⟨u, ?_, h2⟩
      show ((L2.wipe σ vs).set v none)[i]? = _
      rw [List.getElem?_set_ne q]; exact h1
theorem wipe_wipe {σ : St} : ∀ vs ws : List Nat, (∀ i ∈ vs, i ∈ ws) → L2.wipe (L2.wipe σ vs) ws = L2.wipe σ ws
  | [], _, _ => rfl
  | v :: vs, ws, h => by
    show L2.wipe ((L2.wipe σ vs).set v none) ws = _
    rw [wipe_set (h v (by simp))]
    exact wipe_wipe vs ws fun i hi => h i (by simp [hi])
/-- the block of a list comprehension: results that are data -/
def compL (l : List (Option DV)) (g : GM) (t e : EM) : List DV → List D → List O → Option (List D × List O)
  | [], acc, M => some (acc, M)
  | d :: ds, acc, M => match g d ⟨l, M⟩ with
    | none => none
    | some s1 => match t s1 with
      | some (.ok (.p (.bl true)) M1) => match e ⟨s1.l, M1⟩ with
        | some (.ok (.p y) M2) => if acc.length < 1000000 then compL l g t e ds (acc ++ [y]) M2 else none
        | _ => none
      | some (.ok (.p (.bl false)) M1) => compL l g t e ds acc M1
      | _ => none
def mLc (it : IM) (vs : List Nat) (g : GM) (t e : EM) : EM := bnd it fun ds s => match compL (wipeL s.l vs) g t e ds [] s.m with
  | some (acc, M) => some (.ok (.p (.lst acc)) M)
  | none => none
def mLcO (it : IM) (vs : List Nat) (g : GM) (t e : EM) : EM := bnd it fun ds s => match compL (wipeL s.l vs) g t e ds [] s.m with
  | some (acc, M) => some (.ok (.o M.length) (M ++ [.lst (acc.map .p)]))
  | none => none
/-- what is known of the new list at D while it is filled -/
structure Fill (K : PySem.W.Frag) (Z1 H1 : Hp) (I1 : List Addr) (D : Addr) (Z H : Hp) (I : List Addr) (M : List O) (acc : List V) (ad : List DL.D) : Prop where
  w : Wf K Z H I M
  x : Ext Z1 H1 I1 Z H I
  at_ : H D = some (.lst acc)
  nz : Z D = none
  ni : D ∉ I
  r : RepA K Z acc ad
theorem Fill.step {Z1 H1 Z H Z' H' : Hp} {I1 I I' : List Addr} {D : Addr} {M M' : List O} {acc : List V} {ad : List DL.D} (f : Fill K Z1 H1 I1 D Z H I M acc ad) (w : Wf K Z' H' I' M') (x : Ext Z H I Z' H' I') : Fill K Z1 H1 I1 D Z' H' I' M' acc ad where
  w := w
  x := f.x.trans x
  at_ := x.fr D _ f.at_ f.ni
  nz := by
    cases q : Z' D with
    | none => rfl
    | some o =>
      rcases x.zn D (by rw [q]; simp) with k | k | k
      · exact absurd f.nz k
      · rw [f.at_] at k; cases k
      · exact absurd k f.ni
  ni := fun m => by
    rcases x.nw D m with k | k
    · exact f.ni k
    · rw [f.at_] at k; cases k
  r := f.r.mono x.z
theorem Fill.put {Z1 H1 Z H : Hp} {I1 I : List Addr} {D : Addr} {M : List O} {acc : List V} {ad : List DL.D} (f : Fill K Z1 H1 I1 D Z H I M acc ad) (h0 : H1 D = none) {v : V} {d : DL.D} (r : Rep K Z v d) : Fill K Z1 H1 I1 D Z (upd H D (.lst (acc ++ [v]))) I M (acc ++ [v]) (ad ++ [d]) where
  w := ⟨fun a u e => by rw [upd_ne (fun q => by rw [q, f.nz] at e; cases e)]; exact f.w.sub a u e, f.w.len, f.w.nd, fun a m => by rw [upd_ne (fun q => f.ni (by rw [← q]; exact m))]; exact f.w.tr a m, fun n a o h1 h2 h3 => by
    obtain ⟨q1, q2⟩ := f.w.ob n a o h1 h2 h3
    exact ⟨q1, q2.mono (Same.refl _) (upd_ne fun q => f.ni (by rw [← q]; exact List.mem_of_getElem? h1))⟩⟩
  x := ⟨f.x.z, f.x.i, fun a o e n => by rw [upd_ne (ne_of_none e h0)]; exact f.x.fr a o e n, f.x.nw, f.x.zn, fun a e => by
    by_cases q : a = D
    · rw [q, upd_same]; simp
    · rw [upd_ne q]; exact f.x.tr a e⟩
  at_ := upd_same
  nz := f.nz
  ni := f.ni
  r := f.r.append (.cons r .nil)
theorem tLc_ok {wi : TI} {g : TG} {tt : TT} {te : TE} {vs : List Nat} {it : IM} {gm : GM} {ix : List Nat} {t em : EM} (hi : Sound K W (ItOk K) wi it)
    (hg : ∀ (v : V) (dv : DV) (σ : St) (H : Hp) (s s' : S) (Z : Hp) (I : List Addr) (Q : St → Hp → Prop), Wf K Z H I s.m → RepS K Z I σ s.l → RepV K Z I v dv → gm dv s = some s' →
      (∀ σ' Z' H' I', Wf K Z' H' I' s'.m → RepS K Z' I' σ' s'.l → Ext Z H I Z' H' I' → (∀ vs, (∀ i ∈ ix, i ∈ vs) → L2.wipe σ' vs = L2.wipe σ vs) → Q σ' H') → g v σ H Q) (hix : ∀ i ∈ ix, i ∈ vs)
    (ht : Sound K WF RepB tt t) (he : Sound K WF (RepV K) te em) {σ : St} {H : Hp} {s : S} {Z : Hp} {I : List Addr} {r : Rs DV} {Q : VK} {k : List D → List O → Rs DV} (w : Wf K Z H I s.m) (rs : RepS K Z I σ s.l)
    (e : bnd it (fun ds s => match compL (wipeL s.l vs) gm t em ds [] s.m with | some (acc, M) => some (k acc M) | none => none) s = some r) (px : ∀ c fs M, r = .ex c fs M → PostX K W Z H I σ M c fs)
    (hk : ∀ Z1 H1 I1 D Z' H' I' M acc ad, r = k ad M → H1 D = none → Ext Z H I Z1 H1 I1 → Fill K Z1 H1 I1 D Z' H' I' M acc ad → Q (.ref D) H') : tLc wi g tt te vs σ H Q := by
  refine hi.bnd w rs e px fun ds J M1 Z1 H1 I1 w1 rs1 x1 q1 e1 => ?_
  have e1 : (match compL (wipeL s.l vs) gm t em ds [] M1 with | some (acc, M) => some (k acc M) | none => none) = some r := e1
  cases zc : compL (wipeL s.l vs) gm t em ds [] M1 with
  | none => rw [zc] at e1; cases e1
  | some am =>
    rw [zc] at e1
    obtain ⟨ad, Mf⟩ := am
    have e1 : some (k ad Mf) = some r := e1
    intro D hD
    have f0 : Fill K Z1 H1 I1 D Z1 (upd H1 D (.lst [])) I1 M1 [] [] := by
      refine ⟨⟨fun a u q => by rw [upd_ne (ne_of_none (w1.sub a u q) hD)]; exact w1.sub a u q, w1.len, w1.nd, fun a m => by rw [upd_ne (fun q => w1.tr a m (by rw [q]; exact hD))]; exact w1.tr a m, fun n a o h1 h2 h3 => ?_⟩, ⟨Same.refl _, ⟨[], by simp⟩, fun a o q _ => by rw [upd_ne (ne_of_none q hD)]; exact q, fun _ m => .inl m, fun _ m => .inl m, fun a q => by rw [upd_ne (fun y => q (by rw [y]; exact hD))]; exact q⟩, upd_same, none_of w1.sub hD, fun m => w1.tr D m hD, .nil⟩
      obtain ⟨q1, q2⟩ := w1.ob n a o h1 h2 h3
      exact ⟨q1, q2.mono (Same.refl _) (upd_ne fun q => w1.tr a (List.mem_of_getElem? h1) (by rw [q]; exact hD))⟩
    refine ⟨fun i m H' => m = ds.length - i ∧ i ≤ ds.length ∧ ∃ Z' I' M acc bd, Fill K Z1 H1 I1 D Z' H' I' M acc bd ∧ compL (wipeL s.l vs) gm t em (ds.drop i) bd M = some (ad, Mf), ⟨ds.length, by simp, Nat.zero_le _, Z1, I1, M1, [], [], f0, zc⟩, ?_⟩
    rintro i m H' ⟨rfl, hil, Z', I', M, acc, bd, f, e'⟩
    have Jo := q1 Z' H' I' f.x.z f.x.i f.w.sub i
    by_cases hlt : i < ds.length
    · right
      have hd : ds[i]? = some ds[i] := by simp [hlt]
      obtain ⟨go, yl⟩ := Jo.1 _ hd
      rw [List.drop_eq_getElem_cons hlt] at e'
      refine ⟨go, fun H2 => ∃ Z2 I2 M2 acc2 bd2, Fill K Z1 H1 I1 D Z2 H2 I2 M2 acc2 bd2 ∧ compL (wipeL s.l vs) gm t em (ds.drop (i + 1)) bd2 M2 = some (ad, Mf),
        fun H2 h2 => ⟨ds.length - (i + 1), by omega, rfl, hlt, h2⟩, fun x H2 hx => ?_⟩
      obtain ⟨Z2, x2, rx⟩ := yl x H2 hx
      have f2 := f.step (f.w.extP x2) (x2.ext f.w)
      have rs2 : RepS K Z2 I' (L2.wipe σ vs) (wipeL s.l vs) := ((rs1.mono f2.x)).wipe vs
      unfold compL at e'
      cases zg : gm ds[i] ⟨wipeL s.l vs, M⟩ with
      | none => rw [zg] at e'; cases e'
      | some s1 =>
        rw [zg] at e'
        refine hg x ds[i] (L2.wipe σ vs) H2 ⟨wipeL s.l vs, M⟩ s1 Z2 I' _ f2.w rs2 rx zg fun σ3 Z3 H3 I3 w3 rs3 x3 k3 => ?_
        have f3 := f2.step w3 x3
        refine ⟨(k3 vs hix).trans (wipe_wipe vs vs fun _ h => h) , ?_⟩
        have e' : (match t s1 with
          | some (.ok (.p (.bl true)) M1) => match em ⟨s1.l, M1⟩ with
            | some (.ok (.p y) M2) => if bd.length < 1000000 then compL (wipeL s.l vs) gm t em (ds.drop (i + 1)) (bd ++ [y]) M2 else none
            | _ => none
          | some (.ok (.p (.bl false)) M1) => compL (wipeL s.l vs) gm t em (ds.drop (i + 1)) bd M1
          | _ => none) = some (ad, Mf) := e'
        cases zt : t s1 with
        | none => rw [zt] at e'; cases e'
        | some rt =>
          rw [zt] at e'
          refine ht.ok σ3 H3 s1 Z3 I3 rt _ w3 rs3 zt ?_
          cases rt with
          | ex c fs M4 => cases e'
          | ok d4 M4 =>
            intro b Z4 H4 I4 w4 x4 r4
            cases (show d4 = .p (.bl b) from r4)
            have f4 := f3.step w4 x4
            cases b with
            | false =>
              rw [if_neg Bool.false_ne_true]
              exact ⟨Z4, I4, M4, acc, bd, f4, e'⟩
            | true =>
              rw [if_pos rfl]
              have e' : (match em ⟨s1.l, M4⟩ with
                | some (.ok (.p y) M2) => if bd.length < 1000000 then compL (wipeL s.l vs) gm t em (ds.drop (i + 1)) (bd ++ [y]) M2 else none
                | _ => none) = some (ad, Mf) := e'
              cases ze : em ⟨s1.l, M4⟩ with
              | none => rw [ze] at e'; cases e'
              | some re =>
                rw [ze] at e'
                refine he.ok σ3 H4 ⟨s1.l, M4⟩ Z4 I4 re _ w4 (rs3.mono x4) ze ?_
                cases re with
                | ex c fs M5 => cases e'
                | ok d5 M5 =>
                  intro y Z5 H5 I5 w5 x5 r5
                  have f5 := f4.step w5 x5
                  cases d5 with
                  | o n => cases e'
                  | p d5 =>
                    have e' : (if bd.length < 1000000 then compL (wipeL s.l vs) gm t em (ds.drop (i + 1)) (bd ++ [d5]) M5 else none) = some (ad, Mf) := e'
                    split at e'
                    · rename_i hlen
                      refine ⟨acc, f5.at_, by rw [f5.r.length]; exact size_lt (Nat.le_of_lt hlen), ?_⟩
                      exact ⟨Z5, I5, M5, _, _, f5.put hD r5, e'⟩
                    · cases e'
    · left
      have e0 : ds.drop i = [] := List.drop_eq_nil_of_le (by omega)
      rw [e0] at e'
      cases e'
      exact ⟨Jo.2 (by omega), hk Z1 H1 I1 D Z' H' I' _ acc _ (Option.some.inj e1).symm hD x1 f⟩
theorem Fill.frz {Z1 H1 Z H : Hp} {I1 I : List Addr} {D : Addr} {M : List O} {acc : List V} {ad : List DL.D} (f : Fill K Z1 H1 I1 D Z H I M acc ad) (h0 : H1 D = none) : Wf K (upd Z D (.lst acc)) H I M ∧ Ext Z1 H1 I1 (upd Z D (.lst acc)) H I := by
  refine ⟨⟨fun a u e => ?_, f.w.len, f.w.nd, f.w.tr, fun n a o h1 h2 h3 => ?_⟩, ⟨f.x.z.trans (same_upd f.nz), f.x.i, f.x.fr, f.x.nw, fun a e => ?_, f.x.tr⟩⟩
  · by_cases q : a = D
    · rw [q, upd_same] at e; rw [q, f.at_]; exact e
    · rw [upd_ne q] at e; exact f.w.sub a u e
  · obtain ⟨q1, q2⟩ := f.w.ob n a o h1 h2 h3
    exact ⟨by rw [upd_ne fun q => f.ni (by rw [← q]; exact List.mem_of_getElem? h1)]; exact q1, q2.mono (same_upd f.nz) rfl⟩
  · by_cases q : a = D
    · rw [q]; exact .inr (.inl h0)
    · rw [upd_ne q] at e; exact f.x.zn a e
theorem Fill.own {Z1 H1 Z H : Hp} {I1 I : List Addr} {D : Addr} {M : List O} {acc : List V} {ad : List DL.D} (f : Fill K Z1 H1 I1 D Z H I M acc ad) (h0 : H1 D = none) : Wf K Z H (I ++ [D]) (M ++ [.lst (ad.map .p)]) ∧ Ext Z1 H1 I1 Z H (I ++ [D]) := by
  have x : Ext Z1 H1 I1 Z H (I ++ [D]) := by
    refine ⟨f.x.z, ?_, f.x.fr, fun a m => ?_, f.x.zn, f.x.tr⟩
    · obtain ⟨t, e⟩ := f.x.i
      exact ⟨t ++ [D], by rw [e, List.append_assoc]⟩
    · rcases List.mem_append.mp m with k | k
      · exact f.x.nw a k
      · rw [List.mem_singleton.mp k]; exact .inr h0
  have x2 : Ext Z H I Z H (I ++ [D]) ∨ True := .inr trivial
  refine ⟨⟨f.w.sub, by rw [List.length_append, List.length_append, f.w.len]; rfl, ?_, fun a m => ?_, fun n a o h1 h2 h3 => ?_⟩, x⟩
  · refine List.nodup_append.mpr ⟨f.w.nd, by simp, fun a ha b hb => ?_⟩
    rw [List.mem_singleton.mp hb]
    intro q
    exact f.ni (by rw [← q]; exact ha)
  · rcases List.mem_append.mp m with k | k
    · exact f.w.tr a k
    · rw [List.mem_singleton.mp k, f.at_]; simp
  · have up : ∀ {v : V} {d : DV}, RepV K Z I v d → RepV K Z (I ++ [D]) v d := fun {v d} h => by
      cases d with
      | p d => exact h
      | o j =>
        obtain ⟨b, hb, q⟩ := h
        exact ⟨b, by rw [List.getElem?_append_left (List.getElem?_eq_some_iff.mp hb).1]; exact hb, q⟩
    by_cases hn : n < I.length
    · rw [List.getElem?_append_left hn] at h1
      rw [List.getElem?_append_left (by rw [← f.w.len]; exact hn)] at h2
      obtain ⟨q1, q2⟩ := f.w.ob n a o h1 h2 h3
      refine ⟨q1, ?_⟩
      cases o with
      | lst _ => obtain ⟨xs, h, r⟩ := q2; exact ⟨xs, h, paired_imp (fun _ _ q => up q) r⟩
      | dK _ => obtain ⟨xs, h, r⟩ := q2; exact ⟨xs, h, paired_imp (fun _ _ q => ⟨q.1, up q.2⟩) r⟩
      | dT _ => obtain ⟨xs, h, r⟩ := q2; exact ⟨xs, h, paired_imp (fun _ _ q => ⟨q.1, up q.2⟩) r⟩
      | ins _ _ => obtain ⟨dx, xs, h, r⟩ := q2; exact ⟨dx, xs, h, paired_imp (fun _ _ q => ⟨q.1, up q.2⟩) r⟩
      | gone => trivial
    · have e1 : n = I.length := by
        have := (List.getElem?_eq_some_iff.mp h1).1
        rw [List.length_append, List.length_singleton] at this
        omega
      subst e1
      rw [List.getElem?_append_right (Nat.le_refl _), Nat.sub_self] at h1
      rw [List.getElem?_append_right (by rw [f.w.len]; exact Nat.le_refl _), f.w.len, Nat.sub_self] at h2
      cases h1
      cases h2
      exact ⟨f.nz, acc, f.at_, allP_map f.r⟩
def tYesM : EM := tru
theorem so_yes : Sound K WF RepB tYes tYesM := ⟨fun σ H s Z I r Q w rs e p => by
  cases e; exact p true Z H I w Ext.refl rfl⟩
structure DPT (K : PySem.W.Frag) (X : Cx) (es : List Expr) (t : TT) (m : EM) : Prop where
  k : X.K = K
  pt : PTs X es t
  so : Sound K WF RepB t m
theorem dpt_nil (k : X.K = K := by rfl) : DPT K X [] tYes tYesM := ⟨k, pts_nil, so_yes⟩
theorem dpt_one {t : TT} {m : EM} (h : DT K X WF c t m) : DPT K X [c] t m := ⟨h.k, pts_one h.pt, h.so⟩
section
variable {elt : Expr} {ifs : List Expr} {scope : Scope} {own : List (Str × Nat)} {wi : TI} {g : TG} {tt : TT} {te : TE} {it : IM} {gm : GM} {ix : List Nat} {t em : EM}
theorem so_lc (hi : Sound K W (ItOk K) wi it) (hg : ∃ X' tg', DG K X' tg' g gm ix) (hix : ∀ i ∈ ix, i ∈ own.map (·.2)) (ht : Sound K WF RepB tt t) (he : Sound K WF (RepV K) te em) : Sound K W (RepV K) (tLc wi g tt te (own.map (·.2))) (mLc it (own.map (·.2)) gm t em) := ⟨fun σ H s Z I r Q w rs e p => by
  obtain ⟨X', tg', hg⟩ := hg
  refine tLc_ok hi hg.ok hix ht he (k := fun acc M => .ok (.p (.lst acc)) M) w rs e p.x fun Z1 H1 I1 D Z' H' I' M acc ad er h0 x1 f => ?_
  subst er
  obtain ⟨w', x'⟩ := f.frz h0
  exact p _ _ H' I' w' (x1.trans x') (.lst (.inl upd_same) (f.r.mono (same_upd f.nz)))⟩
theorem so_lcO (hi : Sound K W (ItOk K) wi it) (hg : ∃ X' tg', DG K X' tg' g gm ix) (hix : ∀ i ∈ ix, i ∈ own.map (·.2)) (ht : Sound K WF RepB tt t) (he : Sound K WF (RepV K) te em) : Sound K W (RepV K) (tLc wi g tt te (own.map (·.2))) (mLcO it (own.map (·.2)) gm t em) := ⟨fun σ H s Z I r Q w rs e p => by
  obtain ⟨X', tg', hg⟩ := hg
  refine tLc_ok hi hg.ok hix ht he (k := fun (acc : List D) M => Rs.ok (DV.o M.length) (M ++ [O.lst (acc.map DV.p)])) w rs e p.x fun Z1 H1 I1 D Z' H' I' M acc ad er h0 x1 f => ?_
  subst er
  obtain ⟨w', x'⟩ := f.own h0
  exact p _ _ H' _ w' (x1.trans x') ⟨D, by rw [← f.w.len, List.getElem?_append_right (Nat.le_refl _), Nat.sub_self]; rfl, rfl⟩⟩
theorem de_lc {vs : List Nat} (hN : X.N.Nodup) (hc : X.calm = true) (hi : DI K X W tg iter wi it) (ok : BlkOk X.N X.env.scope scope own)
    (hg : ∀ (s : Shared) (H : Hp) (C : Addr) (cl : List (Str × Addr)) (fp : List Addr), DG K (X.blk s H scope (compEnvC scope cl C X.env) fp) tg g gm ix) (ht : ∀ (s : Shared) (H : Hp) (C : Addr) (cl : List (Str × Addr)) (fp : List Addr), DPT K (X.blk s H scope (compEnvC scope cl C X.env) fp) ifs tt t)
    (he : ∀ (s : Shared) (H : Hp) (C : Addr) (cl : List (Str × Addr)) (fp : List Addr), DE K (X.blk s H scope (compEnvC scope cl C X.env) fp) WF elt te em) (hix : ∀ i ∈ ix, i ∈ own.map (·.2) := by decide) (hs : ∀ x, foldedSetIterable iter X.env x = pure x := by intro _; rfl) (hv : own.map (·.2) = vs := by rfl) :
    DE K X W (.ListComp elt [⟨tg, iter, ifs, 0⟩] scope pos) (tLc wi g tt te vs) (mLc it vs gm t em) := by
  subst hv
  exact ⟨hi.k, pe_lc hc hN hi.pi ok (fun s H C cl fp => (hg s H C cl fp).pg) (fun s H C cl fp => (ht s H C cl fp).pt) (fun s H C cl fp => (he s H C cl fp).pe) hs,
    so_lc hi.so ⟨_, _, hg {} (fun _ => none) 0 [] []⟩ hix (ht {} (fun _ => none) 0 [] []).so (he {} (fun _ => none) 0 [] []).so⟩
theorem de_lcO {vs : List Nat} (hN : X.N.Nodup) (hc : X.calm = true) (hi : DI K X W tg iter wi it) (ok : BlkOk X.N X.env.scope scope own)
    (hg : ∀ (s : Shared) (H : Hp) (C : Addr) (cl : List (Str × Addr)) (fp : List Addr), DG K (X.blk s H scope (compEnvC scope cl C X.env) fp) tg g gm ix) (ht : ∀ (s : Shared) (H : Hp) (C : Addr) (cl : List (Str × Addr)) (fp : List Addr), DPT K (X.blk s H scope (compEnvC scope cl C X.env) fp) ifs tt t)
    (he : ∀ (s : Shared) (H : Hp) (C : Addr) (cl : List (Str × Addr)) (fp : List Addr), DE K (X.blk s H scope (compEnvC scope cl C X.env) fp) WF elt te em) (hix : ∀ i ∈ ix, i ∈ own.map (·.2) := by decide) (hs : ∀ x, foldedSetIterable iter X.env x = pure x := by intro _; rfl) (hv : own.map (·.2) = vs := by rfl) :
    DE K X W (.ListComp elt [⟨tg, iter, ifs, 0⟩] scope pos) (tLc wi g tt te vs) (mLcO it vs gm t em) := by
  subst hv
  exact ⟨hi.k, pe_lc hc hN hi.pi ok (fun s H C cl fp => (hg s H C cl fp).pg) (fun s H C cl fp => (ht s H C cl fp).pt) (fun s H C cl fp => (he s H C cl fp).pe) hs,
    so_lcO hi.so ⟨_, _, hg {} (fun _ => none) 0 [] []⟩ hix (ht {} (fun _ => none) 0 [] []).so (he {} (fun _ => none) 0 [] []).so⟩
end
end
end DL
namespace DL
open PySem L2
section
variable {K : PySem.W.Frag} {X : Cx} {W : WX} {e a b c tg iter : Expr} {es : List Expr} {pos : Pos}
section
variable {elt : Expr} {ifs : List Expr} {scope : Scope} {own : List (Str × Nat)} {wi : TI} {g : TG} {tt : TT} {te : TE} {it : IM} {gm : GM} {ix : List Nat} {t em : EM}
theorem so_asg {te : TE} {g : TG} {m : EM} {gm : GM} {ix : List Nat} {X' : Cx} {tg' : Expr} (he : Sound K W (RepV K) te m) (hg : DG K X' tg' g gm ix) : SoundS K W (tAsg te g) (sAsg m gm) := ⟨fun σ H s Z I r D w rs e p => by
  refine he.lift w rs e p fun d v M1 Z1 H1 I1 w1 rs1 x1 q1 e1 p1 => ?_
  have e1 : (match gm d ⟨s.l, M1⟩ with | some s1 => some (Fl.nx, s1) | none => none) = some r := e1
  cases z : gm d ⟨s.l, M1⟩ with
  | none => rw [z] at e1; cases e1
  | some s1 =>
    rw [z] at e1; cases e1
    exact hg.ok v d σ H1 ⟨s.l, M1⟩ s1 Z1 I1 _ w1 rs1 q1 z fun σ' Z' H' I' w' rs' x' _ => p1 σ' Z' H' I' w' rs' x'⟩
theorem ds_setLc {i : Nat} {vs : List Nat} {y : Str} {py spos : Pos} (hN : X.N.Nodup) (hc : X.calm = true) (hi : DI K X W tg iter wi it) (ok : BlkOk X.N X.env.scope scope own)
    (hg : ∀ (s : Shared) (H : Hp) (C : Addr) (cl : List (Str × Addr)) (fp : List Addr), DG K (X.blk s H scope (compEnvC scope cl C X.env) fp) tg g gm ix) (ht : ∀ (s : Shared) (H : Hp) (C : Addr) (cl : List (Str × Addr)) (fp : List Addr), DPT K (X.blk s H scope (compEnvC scope cl C X.env) fp) ifs tt t)
    (he : ∀ (s : Shared) (H : Hp) (C : Addr) (cl : List (Str × Addr)) (fp : List Addr), DE K (X.blk s H scope (compEnvC scope cl C X.env) fp) WF elt te em) (hy : X.N[i]? = some y := by rfl) (hyl : X.env.scope.names.lookup y = some .local := by rfl)
    (hsw : swapsWith (.ListComp elt [⟨tg, iter, ifs, 0⟩] scope pos) (some (.Name y py)) spos.line X.env = pure true := by exact sw_true rfl rfl rfl (by decide +kernel)) (hix : ∀ i ∈ ix, i ∈ own.map (·.2) := by decide) (hs : ∀ x, foldedSetIterable iter X.env x = pure x := by intro _; rfl) (hv : own.map (·.2) = vs := by rfl) :
    DS K X W (.Assign [.Name y py] (.ListComp elt [⟨tg, iter, ifs, 0⟩] scope pos) spos) (tAsg (tLc wi g tt te vs) (gName i)) (sAsg (mLc it vs gm t em) (gN i)) := by
  subst hv
  exact ⟨hi.k, ps_setLc hc hN hy hyl hsw hi.pi ok (fun s H C cl fp => (hg s H C cl fp).pg) (fun s H C cl fp => (ht s H C cl fp).pt) (fun s H C cl fp => (he s H C cl fp).pe) hs,
    so_asg (so_lc hi.so ⟨_, _, hg {} (fun _ => none) 0 [] []⟩ hix (ht {} (fun _ => none) 0 [] []).so (he {} (fun _ => none) 0 [] []).so) (dg_name hN hi.k hy (.inl hyl) (.inr hyl) : DG K X (.Name y py) _ _ _)⟩
theorem ds_setLcO {i : Nat} {vs : List Nat} {y : Str} {py spos : Pos} (hN : X.N.Nodup) (hc : X.calm = true) (hi : DI K X W tg iter wi it) (ok : BlkOk X.N X.env.scope scope own)
    (hg : ∀ (s : Shared) (H : Hp) (C : Addr) (cl : List (Str × Addr)) (fp : List Addr), DG K (X.blk s H scope (compEnvC scope cl C X.env) fp) tg g gm ix) (ht : ∀ (s : Shared) (H : Hp) (C : Addr) (cl : List (Str × Addr)) (fp : List Addr), DPT K (X.blk s H scope (compEnvC scope cl C X.env) fp) ifs tt t)
    (he : ∀ (s : Shared) (H : Hp) (C : Addr) (cl : List (Str × Addr)) (fp : List Addr), DE K (X.blk s H scope (compEnvC scope cl C X.env) fp) WF elt te em) (hy : X.N[i]? = some y := by rfl) (hyl : X.env.scope.names.lookup y = some .local := by rfl)
    (hsw : swapsWith (.ListComp elt [⟨tg, iter, ifs, 0⟩] scope pos) (some (.Name y py)) spos.line X.env = pure true := by exact sw_true rfl rfl rfl (by decide +kernel)) (hix : ∀ i ∈ ix, i ∈ own.map (·.2) := by decide) (hs : ∀ x, foldedSetIterable iter X.env x = pure x := by intro _; rfl) (hv : own.map (·.2) = vs := by rfl) :
    DS K X W (.Assign [.Name y py] (.ListComp elt [⟨tg, iter, ifs, 0⟩] scope pos) spos) (tAsg (tLc wi g tt te vs) (gName i)) (sAsg (mLcO it vs gm t em) (gN i)) := by
  subst hv
  exact ⟨hi.k, ps_setLc hc hN hy hyl hsw hi.pi ok (fun s H C cl fp => (hg s H C cl fp).pg) (fun s H C cl fp => (ht s H C cl fp).pt) (fun s H C cl fp => (he s H C cl fp).pe) hs,
    so_asg (so_lcO hi.so ⟨_, _, hg {} (fun _ => none) 0 [] []⟩ hix (ht {} (fun _ => none) 0 [] []).so (he {} (fun _ => none) 0 [] []).so) (dg_name hN hi.k hy (.inl hyl) (.inr hyl) : DG K X (.Name y py) _ _ _)⟩
end
/-! ### o[i] = v at a list of one's own -/
def setL (m : List O) (n : Nat) (i : Int) (d : DV) : Option (List O) := match m[n]? with
  | some (.lst ds) => match ixN ds.length i with
    | some j => some (m.set n (.lst (ds.set j d)))
    | none => none
  | _ => none
def gSetK (d x : DV) (y : D) : EM := fun s => match x, y with
  | .o n, .int j => match setL s.m n j d with
    | some M => some (.ok (.p .non) M)
    | none => none
  | _, _ => none
def gSet (o i : EM) : GM := fun d s => match bnd o (fun x => bnd i (pur (gSetK d x))) s with
  | some (.ok _ M) => some ⟨s.l, M⟩
  | _ => none
theorem dg_set {o i : Expr} {to ti : TE} {mo mi : EM} (ho : DE K X WF o to mo) (hi : DE K X WF i ti mi) (ha : ∀ v, assign (.Subscript o i pos) X.env v = (do
      let ov ← holding [v] (eval o X.env)
      let iv ← holding [v, ov] (eval i X.env)
      standAt pos
      holding [v, ov, iv] (setItem ov iv v)
      release [v, ov, iv] []) := by intro _; rfl) : DG K X (.Subscript o i pos) (gSub to ti rSetL) (gSet mo mi) [] :=
  ⟨ho.k, pg_sub ho.pe hi.pe set_list ha, fun v dv σ H s s' Z I Q w rs rv e q => by
    unfold gSet at e
    cases z : bnd mo (fun x => bnd mi (pur (gSetK dv x))) s with
    | none => rw [z] at e; cases e
    | some r0 =>
      rw [z] at e
      cases r0 with
      | ex c fs M => cases e
      | ok d0 M0 =>
        cases e
        refine ho.so.bnd w rs z (fun c fs M h => by cases h) fun x ov M1 Z1 H1 I1 w1 rs1 x1 q1 e1 => ?_
        refine hi.so.bnd (s := ⟨s.l, M1⟩) w1 rs1 e1 (fun c fs M h => by cases h) fun y iv M2 Z2 H2 I2 w2 rs2 x2 q2 e2 => ?_
        obtain ⟨y, rfl, e2⟩ := pur_ok e2
        cases x with
        | p d => cases e2
        | o n =>
          cases y with
          | int j =>
            have e2 : (match setL M2 n j dv with | some M => some (Rs.ok (DV.p .non) M) | none => none) = some (Rs.ok d0 M0) := e2
            obtain ⟨a, ha', rfl⟩ := q1.mono x2
            cases q2
            cases y : setL M2 n j dv with
            | none => rw [y] at e2; cases e2
            | some M3 =>
              rw [y] at e2
              obtain rfl : M3 = M0 := by cases e2; rfl
              unfold setL at y
              cases y1 : M2[n]? with
              | none => rw [y1] at y; cases y
              | some ob =>
                rw [y1] at y
                cases ob with
                | lst ds =>
                  have y : (match ixN ds.length j with | some j => some (M2.set n (.lst (ds.set j dv))) | none => none) = some M3 := y
                  cases y2 : ixN ds.length j with
                  | none => rw [y2] at y; cases y
                  | some k =>
                    rw [y2] at y; cases y
                    obtain ⟨_, xs, h1, h2⟩ := w2.ob n a _ ha' y1 (by intro z; cases z)
                    have y3 := ext_set (Z := Z2) (H := H2) (ho := .lst (xs.set k v)) (List.mem_of_getElem? ha')
                    have rv2 : RepV K Z2 I2 v dv := RepV.mono (x1.trans x2) rv
                    refine ⟨a, xs, j, k, rfl, rfl, h1, by rw [paired_len h2]; exact y2, ?_⟩
                    exact q σ Z2 _ I2 (w2.setO (o' := .lst (ds.set k dv)) ha' y1 (by intro z; cases z) ⟨_, upd_same, paired_set rv2 k h2⟩) (rs2.mono y3) ((x1.trans x2).trans y3) fun _ _ => rfl
                | _ => cases y
          | _ => cases e2⟩
/-! ### methods of built-in types -/
def tyOk (T : String) (M : List O) : DV → Bool
  | .p (.str _) => T == "str"
  | .p (.lst _) => T == "list"
  | .p (.dK _) => T == "dict"
  | .p (.dT _) => T == "dict"
  | .o n => match M[n]? with
    | some (.lst _) => T == "list"
    | some (.dK _) => T == "dict"
    | some (.dT _) => T == "dict"
    | _ => false
  | _ => false
theorem ty_of {T : String} {Z H : Hp} {I : List Addr} {M : List O} {x : V} {d : DV} (w : Wf K Z H I M) (h : RepV K Z I x d) (e : tyOk T M d = true) : tyV K T x H := by
  cases d with
  | o n =>
    obtain ⟨a, ha, rfl⟩ := h
    unfold tyOk at e
    simp only at e
    cases z : M[n]? with
    | none => rw [z] at e; cases e
    | some o =>
      rw [z] at e
      cases o with
      | lst ds =>
        obtain ⟨_, xs, h1, _⟩ := w.ob n a _ ha z (by intro z; cases z)
        exact .inl ⟨by simpa using e, xs, SqL.of h1⟩
      | dK ds =>
        obtain ⟨_, xs, h1, _⟩ := w.ob n a _ ha z (by intro z; cases z)
        exact .inr (.inr (.inl ⟨by simpa using e, .inl ⟨xs, h1⟩⟩))
      | dT ds =>
        obtain ⟨_, xs, h1, _⟩ := w.ob n a _ ha z (by intro z; cases z)
        exact .inr (.inr (.inl ⟨by simpa using e, .inr ⟨xs, h1⟩⟩))
      | _ => cases e
  | p d =>
    have h : Rep K Z x d := h
    cases h with
    | str y => exact (by simpa [tyOk] using e : T = "str")
    | lst h1 h2 => exact .inl ⟨by simpa [tyOk] using e, _, .inl (same_rd w.sub h1)⟩
    | dK h1 h2 => exact .inr (.inr (.inl ⟨by simpa [tyOk] using e, .inl ⟨_, w.sub _ _ h1⟩⟩))
    | dT h1 h2 => exact .inr (.inr (.inl ⟨by simpa [tyOk] using e, .inr ⟨_, w.sub _ _ h1⟩⟩))
    | _ => cases e
abbrev MtG := DV → List DV → EM
structure MthD (K : PySem.W.Frag) (X : Cx) (id : String) (r : V → List V → Hp → VK → Prop) (g : MtG) : Prop where
  op : X.K = K → MtR X id r
  ok : ∀ (W : WX) (σ : St) (x : V) (d : DV) (vs : List V) (ds : List DV) (Z H : Hp) (I : List Addr) (s : S) (r0 : Rs DV) (Q : VK), Wf K Z H I s.m → RepV K Z I x d → RepVs K Z I vs ds → g d ds s = some r0 → PostR K W (RepV K) Z H I σ Q r0 → r x vs H Q
def mMth (T : String) (g : MtG) (o : EM) (ms : AM) : EM := bnd o fun d s => if tyOk T s.m d = true then bnd ms (fun ds => g d ds) s else none
theorem so_mth {T : String} {r : V → List V → Hp → VK → Prop} {g : MtG} {to : TE} {t : TA} {mo : EM} {ms : AM}
    (h : ∀ (W : WX) (σ : St) (x : V) (d : DV) (vs : List V) (ds : List DV) (Z H : Hp) (I : List Addr) (s : S) (r0 : Rs DV) (Q : VK), Wf K Z H I s.m → RepV K Z I x d → RepVs K Z I vs ds → g d ds s = some r0 → PostR K W (RepV K) Z H I σ Q r0 → r x vs H Q)
    (ho : Sound K W (RepV K) to mo) (ha : Sound K W (RepVs K) t ms) : Sound K W (RepV K) (tBM K T r to t) (mMth T g mo ms) := ⟨fun σ H s Z I r0 Q w rs e p => by
  refine ho.bnd w rs e p.x fun d v M1 Z1 H1 I1 w1 rs1 x1 q1 e1 => ?_
  have e1 : (if tyOk T M1 d = true then bnd ms (fun ds => g d ds) ⟨s.l, M1⟩ else none) = some r0 := e1
  split at e1
  · rename_i hty
    have p1 := p.mono x1
    refine ⟨ty_of w1 q1 hty, ha.bnd (s := ⟨s.l, M1⟩) w1 rs1 e1 p1.x fun ds vs M2 Z2 H2 I2 w2 rs2 x2 q2 e2 => ?_⟩
    exact h W σ v d vs ds Z2 H2 I2 ⟨s.l, M2⟩ r0 Q w2 (q1.mono x2) q2 e2 (p1.mono x2)
  · cases e1⟩
theorem de_mth {T id : String} {r : V → List V → Hp → VK → Prop} {g : MtG} {o : Expr} {name : Str} {apos cpos : Pos} {to : TE} {t : TA} {mo : EM} {ms : AM} (h : MthD K X id r g) (ho : DE K X W o to mo) (ha : DA K X W (e :: es) t ms) (pa : PlainAttrs T) (slot : Slot T name id) (hty : typeOf (.builtin id) = pure (.type "method_descriptor"))
    (hs : starEach (e :: es) X.env = (false, eval e X.env) :: starEach es X.env := by rfl) (hpl : (backTo cpos (starEach es X.env)).any (·.1) = false := by rfl)
    (hbase : attributeBase o name X.env (eval o X.env) = eval o X.env := by rfl) (hfew : ((((backTo cpos (starEach (e :: es) X.env)).all fun x => !x.1) && (backToKw cpos (keywordEach [] X.env)).all fun x => x.1.isSome) && decide (((e :: es).length + ([] : List Keyword).length + if ([] : List Keyword).isEmpty = true then 0 else 1) < 30)) = true := by rfl)
    (hline : (apos.endLine == cpos.line) = true := by rfl) : DE K X W (.Call (.Attribute o name apos) (e :: es) [] cpos) (tBM K T r to t) (mMth T g mo ms) := by
  refine ⟨ho.k, ?_, so_mth h.ok ho.so ha.so⟩
  have q := pe_bm (X := X) (cpos := cpos) (apos := apos) pa slot hty (h.op ho.k) ho.pe ha.pa (hbase := hbase) (hfew := hfew) (hline := hline) (hs := hs) (hplain := hpl)
  rw [ho.k] at q
  exact q
/-- data in, data out -/
def gP (g : D → List D → Option D) : MtG := fun d ds s => match d with
  | .p d => match allP ds with
    | some xs => ret (g d xs) s
    | none => none
  | .o _ => none
theorem gP_ok {r : V → List V → Hp → VK → Prop} {g : D → List D → Option D} (h : ∀ (x : V) (d : D) (vs : List V) (ds : List D) (c : D) (Z H : Hp) (Q : VK), Same Z H → Rep K Z x d → RepA K Z vs ds → g d ds = some c → PostP K Z H c Q → r x vs H Q) :
    ∀ (W : WX) (σ : St) (x : V) (d : DV) (vs : List V) (ds : List DV) (Z H : Hp) (I : List Addr) (s : S) (r0 : Rs DV) (Q : VK), Wf K Z H I s.m → RepV K Z I x d → RepVs K Z I vs ds → gP g d ds s = some r0 → PostR K W (RepV K) Z H I σ Q r0 → r x vs H Q := by
  intro W σ x d vs ds Z H I s r0 Q w hx hv e p
  cases d with
  | o n => cases e
  | p d =>
    have e : (match allP ds with | some xs => ret (g d xs) s | none => none) = some r0 := e
    cases q : allP ds with
    | none => rw [q] at e; cases e
    | some xs =>
      rw [q] at e
      obtain ⟨c, hc, rfl⟩ := ret_ok e
      exact h x d vs xs c Z H Q w.sub hx (allP_rep hv q) hc (PostP.of w p)
def gApp : MtG := fun d ds s => match d, ds with
  | .o n, [y] => match s.m[n]? with
    | some (.lst xs) => if xs.length < 1000000 then some (.ok (.p .non) (s.m.set n (.lst (xs ++ [y])))) else none
    | _ => none
  | _, _ => none
theorem md_app : MthD K X "list.append" rAppend gApp := ⟨fun _ => mt_append, fun W σ x d vs ds Z H I s r0 Q w hx hv e p => by
  unfold gApp at e
  split at e
  · rename_i n y
    obtain ⟨a, ha, rfl⟩ := hx
    cases hv with
    | cons h1 h2 =>
    cases h2
    split at e
    · rename_i xs hm
      split at e
      · rename_i hl
        cases e
        obtain ⟨_, ys, g1, g2⟩ := w.ob n a _ ha hm (by intro z; cases z)
        refine ⟨a, ys, _, rfl, rfl, g1, by rw [paired_len g2]; exact size_lt (Nat.le_of_lt hl), ?_⟩
        exact p _ Z _ I (w.setO ha hm (by intro z; cases z) ⟨_, upd_same, paired_app g2 (.cons h1 .nil)⟩) (ext_set (List.mem_of_getElem? ha)) .non
      · cases e
    · cases e
  · cases e⟩
/-! ### defs -/
def slotsOf (n : Nat) (ds : List DV) : List (Option DV) := ds.map some ++ List.replicate (n - ds.length) none
theorem start_rep {Z : Hp} {I : List Addr} {N : List Str} {vs : List V} {ds : List DV} (r : RepVs K Z I vs ds) : RepS K Z I (L2.start N vs) (slotsOf N.length ds) := by
  have hl := paired_len r
  refine ⟨by unfold L2.start slotsOf; simp [hl], fun i dv e => ?_⟩
  unfold slotsOf at e
  unfold L2.start
  by_cases hi : i < ds.length
  · rw [List.getElem?_append_left (by simpa using hi), List.getElem?_map] at e
    cases q : ds[i]? with
    | none => rw [q] at e; cases e
    | some d =>
      rw [q] at e
      cases e
      obtain ⟨v, h1, h2⟩ := paired_get r q
      exact ⟨v, by rw [List.getElem?_append_left (by simpa [hl] using hi), List.getElem?_map, h1]; rfl, h2⟩
  · rw [List.getElem?_append_right (by simpa using hi), List.getElem?_replicate] at e
    split at e <;> cases e
def runA (n : Nat) (m : SM) : MA := fun ds => match m ⟨slotsOf n (ds.map .p), []⟩ with
  | some (.nx, _) => some (.ok .non)
  | some (.rt (.p d), _) => some (.ok d)
  | some (.ex c fs, _) => some (.ex c fs)
  | _ => none
def ltO (k : Nat) : DV → Bool
  | .p _ => true
  | .o n => decide (n < k)
def closed (k : Nat) : O → Bool
  | .lst xs => xs.all (ltO k)
  | .dK xs => xs.all fun p => ltO k p.2
  | .dT xs => xs.all fun p => ltO k p.2
  | .ins _ xs => xs.all fun p => ltO k p.2
  | .gone => true
def dropM (k : Nat) (d : DV) (M : List O) : List O := if (ltO k d && (M.take k).all (closed k)) = true then M.take k else M
def runB (n : Nat) (m : SM) : List DV → List O → Option (Rs DV) := fun ds M => match m ⟨slotsOf n ds, M⟩ with
  | some (.nx, s) => some (.ok (.p .non) (dropM M.length (.p .non) s.m))
  | some (.rt d, s) => some (.ok d (dropM M.length d s.m))
  | some (.ex c fs, s) => some (.ex c fs (dropM M.length (.p .non) s.m))
  | _ => none
theorem repV_take {Z : Hp} {I t : List Addr} {v : V} {d : DV} (h : RepV K Z (I ++ t) v d) (l : ltO I.length d = true) : RepV K Z I v d := by
  cases d with
  | p d => exact h
  | o n =>
    obtain ⟨a, ha, e⟩ := h
    have l : n < I.length := by simpa [ltO] using l
    exact ⟨a, by rw [List.getElem?_append_left l] at ha; exact ha, e⟩
theorem paired_all {α β : Type} {F G : α → β → Prop} {p : β → Bool} (k : ∀ a b, F a b → p b = true → G a b) : ∀ {xs : List α} {ys : List β}, Paired F xs ys → ys.all p = true → Paired G xs ys
  | _, _, .nil, _ => .nil
  | _, _, .cons h r, e => by
    rw [List.all_cons, Bool.and_eq_true] at e
    exact .cons (k _ _ h e.1) (paired_all k r e.2)
theorem wf_take {Z H : Hp} {I t : List Addr} {M : List O} (w : Wf K Z H (I ++ t) M) (l : (M.take I.length).all (closed I.length) = true) : Wf K Z H I (M.take I.length) where
  sub := w.sub
  len := by
    have := w.len
    rw [List.length_append] at this
    rw [List.length_take]; omega
  nd := (List.nodup_append.mp w.nd).1
  tr := fun a m => w.tr a (List.mem_append_left _ m)
  ob := fun n a o h1 h2 h3 => by
    have hn := (List.getElem?_eq_some_iff.mp h1).1
    have cl : closed I.length o = true := List.all_eq_true.mp l o (List.mem_of_getElem? h2)
    rw [List.getElem?_take_of_lt hn] at h2
    obtain ⟨q1, q2⟩ := w.ob n a o (by rw [List.getElem?_append_left hn]; exact h1) h2 h3
    refine ⟨q1, ?_⟩
    cases o with
    | lst ds => obtain ⟨xs, h, r⟩ := q2; exact ⟨xs, h, paired_all (p := ltO I.length) (fun _ _ q l => repV_take q l) r cl⟩
    | dK _ => obtain ⟨xs, h, r⟩ := q2; exact ⟨xs, h, paired_all (G := FRel K Z I) (p := fun p => ltO I.length p.2) (fun a b q l => (⟨q.1, repV_take q.2 l⟩ : FRel K Z I a b)) r cl⟩
    | dT _ => obtain ⟨xs, h, r⟩ := q2; exact ⟨xs, h, paired_all (G := FRel K Z I) (p := fun p => ltO I.length p.2) (fun a b q l => (⟨q.1, repV_take q.2 l⟩ : FRel K Z I a b)) r cl⟩
    | ins _ _ => obtain ⟨dx, xs, h, r⟩ := q2; exact ⟨dx, xs, h, paired_all (G := FRel K Z I) (p := fun p => ltO I.length p.2) (fun a b q l => (⟨q.1, repV_take q.2 l⟩ : FRel K Z I a b)) r cl⟩
    | gone => trivial
theorem drop_ok {Z H Z' H' : Hp} {I I' : List Addr} {M M' : List O} {v : V} {d : DV} (w0 : Wf K Z H I M) (w : Wf K Z' H' I' M') (x : Ext Z H I Z' H' I') (r : RepV K Z' I' v d) : ∃ I2, Wf K Z' H' I2 (dropM M.length d M') ∧ Ext Z H I Z' H' I2 ∧ RepV K Z' I2 v d ∧ ∀ a ∈ I2, a ∈ I' := by
  unfold dropM
  split
  · rename_i h
    rw [Bool.and_eq_true] at h
    obtain ⟨t, rfl⟩ := x.i
    rw [← w0.len] at h ⊢
    exact ⟨I, wf_take w h.2, ⟨x.z, ⟨[], by simp⟩, x.fr, fun a m => .inl m, x.zn, x.tr⟩, repV_take r h.1, fun a m => List.mem_append_left _ m⟩
  · exact ⟨I', w, x, r, fun _ m => m⟩
section
variable {P : Program} {w : World} {mg : Str → Option Value} {base : Heap} {x qual : Str} {st : Stmt} {f : Addr} {fd : FuncData} {N ps : List Str} {k : Nat}
abbrev WE0 (E : XK) : WX := fun cls d _ H => E cls d H
theorem fnA {m : SM} (F : Fun K x qual st f fd) (Sc : FnScope N ps (defScope st))
    (body : ∀ (cdv : Value) (A : Around) (outer : List Env) (s : Shared) (H : Hp) (E : XK), Room k (A.deeper (PyProof.Rows.envOfC qual (defScope st) s.heap.objs.size f cdv)) →
      ∃ t, DSs K (cxOf (L2.CX P w) P w K mg base N qual (defScope st) f cdv A outer s H E) (WE0 E) (defBody st) t m) : FnOk P w K mg base (L2.CX P w) (k + 1) f fd ps (spA K ps.length (runA N.length m)) := by
  refine F.okX Sc spA_len fun cdv A outer s H vs Q E hr h => ?_
  obtain ⟨hl, Z, ds, r, sub, rp, e, p⟩ := h
  obtain ⟨t, b⟩ := body cdv A outer s H E hr
  refine ⟨t, b.ps, ?_⟩
  have w0 : Wf K Z H [] [] := ⟨sub, rfl, List.nodup_nil, (by simp), fun n a o h => by simp at h⟩
  unfold runA at e
  cases z : m ⟨slotsOf N.length (ds.map .p), []⟩ with
  | none => rw [z] at e; cases e
  | some fs =>
    rw [z] at e
    obtain ⟨fl, s1⟩ := fs
    have xp : ∀ {Z' H' I'}, Wf K Z' H' I' s1.m → Ext Z H [] Z' H' I' → ExtP Z H Z' H' := fun {Z' H' I'} w' x' => ⟨x'.z, fun a o q => x'.fr a o q (by simp), w'.sub, fun a q => by
      rcases x'.zn a q with k | k | k
      · exact .inl k
      · exact .inr k
      · cases k⟩
    refine b.so.ok (L2.start N vs) H _ Z [] _ _ w0 (start_rep (allP_map rp)) z ?_
    cases fl with
    | nx => cases e; exact fun σ' Z' H' I' w' rs' x' => p _ Z' H' (xp w' x') .non
    | rt d =>
      cases d with
      | p d => cases e; exact fun v Z' H' I' w' x' r' => p v Z' H' (xp w' x') r'
      | o n => cases e
    | ex c fs => cases e; exact fun σ' d Z' H' I' w' rs' x' ea na => p d Z' H' (xp w' x') ea fun a q => (na a q).1
    | bk => cases e
    | ct => cases e
theorem fnB {m : SM} (F : Fun K x qual st f fd) (Sc : FnScope N ps (defScope st))
    (body : ∀ (cdv : Value) (A : Around) (outer : List Env) (s : Shared) (H : Hp) (E : XK), Room k (A.deeper (PyProof.Rows.envOfC qual (defScope st) s.heap.objs.size f cdv)) →
      ∃ t, DSs K (cxOf (L2.CX P w) P w K mg base N qual (defScope st) f cdv A outer s H E) (WE0 E) (defBody st) t m) : FnOk P w K mg base (L2.CX P w) (k + 1) f fd ps (spB K ps.length (runB N.length m)) := by
  refine F.okX Sc spB_len fun cdv A outer s H vs Q E hr h => ?_
  obtain ⟨hl, Z, I, M, ds, r, w0, rp, e, p⟩ := h
  obtain ⟨t, b⟩ := body cdv A outer s H E hr
  refine ⟨t, b.ps, ?_⟩
  unfold runB at e
  cases z : m ⟨slotsOf N.length ds, M⟩ with
  | none => rw [z] at e; cases e
  | some fs =>
    rw [z] at e
    obtain ⟨fl, s1⟩ := fs
    refine b.so.ok (L2.start N vs) H ⟨slotsOf N.length ds, M⟩ Z I _ _ w0 (start_rep rp) z ?_
    cases fl with
    | nx =>
      cases e
      intro σ' Z' H' I' w' rs' x'
      obtain ⟨I2, w2, x2, r2, _⟩ := drop_ok (d := .p .non) (v := .non) w0 w' x' (show Rep K Z' .non .non from .non)
      exact p _ Z' H' I2 w2 x2 r2
    | rt d =>
      cases e
      intro v Z' H' I' w' x' r'
      obtain ⟨I2, w2, x2, r2, _⟩ := drop_ok w0 w' x' r'
      exact p v Z' H' I2 w2 x2 r2
    | ex c fs =>
      cases e
      intro σ' d Z' H' I' w' rs' x' ea na
      obtain ⟨I2, w2, x2, _, h2⟩ := drop_ok (d := .p .non) (v := .non) w0 w' x' (show Rep K Z' .non .non from .non)
      exact p d Z' H' I2 w2 x2 ea fun a q => ⟨(na a q).1, fun m => (na a q).2 (h2 a m)⟩
    | bk => cases e
    | ct => cases e
end
end
end DL
namespace DL
open PySem L2
/-! ### equality of data -/
mutual
def toP : D → PyData
  | .non => .none
  | .bl b => .bool b
  | .int i => .int i
  | .str s => .str s
  | .lst xs => .list (toPs xs)
  | .klst xs => .list (toPs xs)
  | .tup xs => .tuple (toPs xs)
  | .ktup xs => .tuple (toPs xs)
  | .dK _ => .dict []
  | .dT _ => .dict []
  | .fn _ => .dict []
  | .scr _ => .dict []
  | .ty _ => .dict []
  | .rng _ _ => .dict []
def toPs : List D → List PyData
  | [] => []
  | d :: r => toP d :: toPs r
end
mutual
/-- the same, as == tells -/
def deq : D → D → Bool
  | .non, .non => true
  | .bl a, .bl b => a == b
  | .bl a, .int j => (if a then 1 else 0) == j
  | .int i, .bl b => i == (if b then 1 else 0)
  | .int i, .int j => i == j
  | .str x, .str y => x == y
  | .lst xs, .lst ys => deqs xs ys
  | .lst xs, .klst ys => deqs xs ys
  | .klst xs, .lst ys => deqs xs ys
  | .klst xs, .klst ys => deqs xs ys
  | .tup xs, .tup ys => deqs xs ys
  | .tup xs, .ktup ys => deqs xs ys
  | .ktup xs, .tup ys => deqs xs ys
  | .ktup xs, .ktup ys => deqs xs ys
  | _, _ => false
def deqs : List D → List D → Bool
  | [], [] => true
  | x :: xs, y :: ys => deq x y && deqs xs ys
  | _, _ => false
end
mutual
theorem deq_eqv : ∀ a b : D, PyData.eqv (toP a) (toP b) = deq a b
  | .lst xs, b => by
    cases b with
    | lst ys => exact deqs_eqv xs ys
    | klst ys => exact deqs_eqv xs ys
    | _ => rfl
  | .klst xs, b => by
    cases b with
    | lst ys => exact deqs_eqv xs ys
    | klst ys => exact deqs_eqv xs ys
    | _ => rfl
  | .tup xs, b => by
    cases b with
    | tup ys => exact deqs_eqv xs ys
    | ktup ys => exact deqs_eqv xs ys
    | _ => rfl
  | .ktup xs, b => by
    cases b with
    | tup ys => exact deqs_eqv xs ys
    | ktup ys => exact deqs_eqv xs ys
    | _ => rfl
  | .non, b => by cases b <;> rfl
  | .bl _, b => by cases b <;> rfl
  | .int _, b => by cases b <;> rfl
  | .str _, b => by cases b <;> rfl
  | .dK _, b => by cases b <;> rfl
  | .dT _, b => by cases b <;> rfl
  | .fn _, b => by cases b <;> rfl
  | .scr _, b => by cases b <;> rfl
  | .ty _, b => by cases b <;> rfl
  | .rng _ _, b => by cases b <;> rfl
theorem deqs_eqv : ∀ a b : List D, PyData.eqvAll (toPs a) (toPs b) = deqs a b
  | [], [] => rfl
  | x :: xs, y :: ys => by
    show (PyData.eqv (toP x) (toP y) && PyData.eqvAll (toPs xs) (toPs ys)) = (deq x y && deqs xs ys)
    rw [deq_eqv x y, deqs_eqv xs ys]
  | [], _ :: _ => rfl
  | _ :: _, [] => rfl
end
section
variable {K : PySem.W.Frag} {Z H : Hp}
mutual
theorem Rep.dp (s : Same Z H) : ∀ {v : V} {d : D}, Rep K Z v d → PyData.canLay0 (toP d) = true → Dp K H v (toP d)
  | _, _, .non, _ => .non
  | _, _, .bl b, _ => .bl b
  | _, _, .int i, _ => .int i
  | _, _, .str x, _ => .str x
  | _, _, .lst h r, e => .lst (.inl (same_rd s h)) (RepA.dp s r e)
  | _, _, .tup h r, e => .tup (sqt s h) (RepA.dp s r e)
  | _, _, .ktup h r, e => .tup (same_t s h) (RepA.dp s r e)
  | _, _, .klst h r, e => .lst (same_l s h) (RepA.dp s r e)
  | _, _, .dK _ _, e => by cases e
  | _, _, .dT _ _, e => by cases e
  | _, _, .fn _, e => by cases e
  | _, _, .scr _ _, e => by cases e
  | _, _, .ty _, e => by cases e
  | _, _, .rng _, e => by cases e
theorem RepA.dp (s : Same Z H) : ∀ {v : List V} {d : List D}, RepA K Z v d → PyData.canLayAll0 (toPs d) = true → DpAll K H v (toPs d)
  | _, _, .nil, _ => .nil
  | _, _, .cons h r, e => by
    have e : (PyData.canLay0 (toP _) && PyData.canLayAll0 (toPs _)) = true := e
    rw [Bool.and_eq_true] at e
    exact .cons (Rep.dp s h e.1) (RepA.dp s r e.2)
end
end
mutual
def okD : D → Bool
  | .non => true
  | .bl _ => true
  | .int _ => true
  | .str x => PyData.strOk x
  | .lst xs => okDs xs
  | .tup xs => okDs xs
  | .ktup xs => okDs xs
  | .klst xs => okDs xs
  | _ => false
def okDs : List D → Bool
  | [] => true
  | x :: xs => okD x && okDs xs
end
mutual
def depD : D → Nat
  | .lst xs => depDs xs + 1
  | .tup xs => depDs xs + 1
  | .ktup xs => depDs xs + 1
  | .klst xs => depDs xs + 1
  | _ => 0
def depDs : List D → Nat
  | [] => 0
  | x :: xs => max (depD x) (depDs xs)
end
mutual
theorem okD_can : ∀ d : D, okD d = true → PyData.canLay0 (toP d) = true
  | .non, _ => rfl
  | .bl _, _ => rfl
  | .int _, _ => rfl
  | .str x, h => h
  | .lst xs, h => okDs_can xs h
  | .tup xs, h => okDs_can xs h
  | .ktup xs, h => okDs_can xs h
  | .klst xs, h => okDs_can xs h
  | .dK _, h => by cases h
  | .dT _, h => by cases h
  | .fn _, h => by cases h
  | .scr _, h => by cases h
  | .ty _, h => by cases h
  | .rng _ _, h => by cases h
theorem okDs_can : ∀ d : List D, okDs d = true → PyData.canLayAll0 (toPs d) = true
  | [], _ => rfl
  | x :: xs, h => by
    have h : (okD x && okDs xs) = true := h
    rw [Bool.and_eq_true] at h
    show (PyData.canLay0 (toP x) && PyData.canLayAll0 (toPs xs)) = true
    rw [okD_can x h.1, okDs_can xs h.2]; rfl
end
mutual
theorem depD_dep : ∀ d : D, okD d = true → PyData.depth (toP d) = depD d
  | .non, _ => rfl
  | .bl _, _ => rfl
  | .int _, _ => rfl
  | .str x, _ => rfl
  | .lst xs, h => by show PyData.depthAll (toPs xs) + 1 = depDs xs + 1; rw [depDs_dep xs h]
  | .tup xs, h => by show PyData.depthAll (toPs xs) + 1 = depDs xs + 1; rw [depDs_dep xs h]
  | .ktup xs, h => by show PyData.depthAll (toPs xs) + 1 = depDs xs + 1; rw [depDs_dep xs h]
  | .klst xs, h => by show PyData.depthAll (toPs xs) + 1 = depDs xs + 1; rw [depDs_dep xs h]
  | .dK _, h => by cases h
  | .dT _, h => by cases h
  | .fn _, h => by cases h
  | .scr _, h => by cases h
  | .ty _, h => by cases h
  | .rng _ _, h => by cases h
theorem depDs_dep : ∀ d : List D, okDs d = true → PyData.depthAll (toPs d) = depDs d
  | [], _ => rfl
  | x :: xs, h => by
    have h : (okD x && okDs xs) = true := h
    rw [Bool.and_eq_true] at h
    show max (PyData.depth (toP x)) (PyData.depthAll (toPs xs)) = max (depD x) (depDs xs)
    rw [depD_dep x h.1, depDs_dep xs h.2]
end
def shp (d : D) : Bool := okD d && decide (depD d ≤ 64)
theorem shp_ok {d : D} (h : shp d = true) : SeqAt.shaped (toP d) = true := by
  unfold shp at h
  rw [Bool.and_eq_true] at h
  unfold SeqAt.shaped
  rw [okD_can d h.1, depD_dep d h.1, h.2]; rfl
/-- scalars are told apart at once; the rest has to be shaped -/
def scalD : D → D → Option Bool
  | .non, .non => some true
  | .non, .int _ => some false
  | .int _, .non => some false
  | .non, .bl _ => some false
  | .bl _, .non => some false
  | .non, .str _ => some false
  | .str _, .non => some false
  | .int i, .int j => some (i == j)
  | .bl i, .bl j => some (i == j)
  | .str x, .str y => some (x == y)
  | .int _, .str _ => some false
  | .str _, .int _ => some false
  | .bl _, .str _ => some false
  | .str _, .bl _ => some false
  | _, _ => none
def eqD (d e : D) : Option Bool := match scalD d e with
  | some b => some b
  | none => if (shp d && shp e) = true then some (deq d e) else none
def dEq (d e : D) : Option D := (eqD d e).map .bl
def dNe (d e : D) : Option D := (eqD d e).map fun b => .bl !b
theorem boolMap {α : Type} {o : Option α} {f : α → Bool} {c : D} (h : (o.map fun a => D.bl (f a)) = some c) : ∃ b, c = .bl b := by
  cases o with
  | none => cases h
  | some a => cases h; exact ⟨_, rfl⟩
theorem bool_dEq : boolD dEq := fun d e c h => boolMap (f := id) h
theorem bool_dNe : boolD dNe := fun d e c h => boolMap h
section
variable {K : PySem.W.Frag} {X : Cx}
theorem scal_ok {Z : Hp} {x y : V} {d e : D} {b : Bool} (hx : Rep K Z x d) (hy : Rep K Z y e) (h : scalD d e = some b) : scal x y = true ∧ decide (x = y) = b := by
  cases hx with
  | non => cases hy <;> cases h <;> exact ⟨rfl, rfl⟩
  | int i => cases hy with
    | int j => cases h; refine ⟨rfl, ?_⟩; by_cases q : i = j <;> simp [q]
    | non => cases h; exact ⟨rfl, rfl⟩
    | str _ => cases h; exact ⟨rfl, rfl⟩
    | _ => cases h
  | bl i => cases hy with
    | bl j => cases h; refine ⟨rfl, ?_⟩; by_cases q : i = j <;> simp [q]
    | non => cases h; exact ⟨rfl, rfl⟩
    | str _ => cases h; exact ⟨rfl, rfl⟩
    | _ => cases h
  | str i => cases hy with
    | str j => cases h; refine ⟨rfl, ?_⟩; by_cases q : i = j <;> simp [q]
    | non => cases h; exact ⟨rfl, rfl⟩
    | int _ => cases h; exact ⟨rfl, rfl⟩
    | bl _ => cases h; exact ⟨rfl, rfl⟩
    | _ => cases h
  | _ => cases hy <;> cases h
def rEqX (K : PySem.W.Frag) : R2 := fun x y H Q => rEq x y H Q ∨ rEqD K x y H Q
def rNeX (K : PySem.W.Frag) : R2 := fun x y H Q => rNe x y H Q ∨ rNeD K x y H Q
theorem shaped_can {d : D} (h : shp d = true) : PyData.canLay0 (toP d) = true := SeqAt.canLay_of_shaped (shp_ok h)
theorem od_eq (hu : X.A.units + 64 < cLine) : OpD K X (compareOp .Eq) (rEqX K) dEq where
  op := fun k pins s σ H x y v u Q I rx ry h => by
    subst k
    rcases h with h | h
    · exact op_eq pins s σ H x y v u Q I rx ry h
    · exact op_eqD hu pins s σ H x y v u Q I rx ry h
  ok := by
    intro x y d e c Z H Q s hx hy hg p
    unfold dEq eqD at hg
    cases z : scalD d e with
    | some b =>
      rw [z] at hg; cases hg
      obtain ⟨h1, h2⟩ := scal_ok hx hy z
      exact .inl ⟨h1, by rw [h2]; exact p _ Z H (ExtP.refl s) (.bl _)⟩
    | none =>
      rw [z] at hg
      have hg : (if (shp d && shp e) = true then some (deq d e) else none).map D.bl = some c := hg
      split at hg
      · rename_i hs
        cases hg
        rw [Bool.and_eq_true] at hs
        exact .inr ⟨_, _, hx.dp s (shaped_can hs.1), hy.dp s (shaped_can hs.2), shp_ok hs.1, shp_ok hs.2, by rw [deq_eqv]; exact p _ Z H (ExtP.refl s) (.bl _)⟩
      · cases hg
theorem od_ne (hu : X.A.units + 64 < cLine) : OpD K X (compareOp .NotEq) (rNeX K) dNe where
  op := fun k pins s σ H x y v u Q I rx ry h => by
    subst k
    rcases h with h | h
    · exact op_ne pins s σ H x y v u Q I rx ry h
    · exact op_neD hu pins s σ H x y v u Q I rx ry h
  ok := by
    intro x y d e c Z H Q s hx hy hg p
    unfold dNe eqD at hg
    cases z : scalD d e with
    | some b =>
      rw [z] at hg; cases hg
      obtain ⟨h1, h2⟩ := scal_ok hx hy z
      exact .inl ⟨h1, by rw [h2]; exact p _ Z H (ExtP.refl s) (.bl _)⟩
    | none =>
      rw [z] at hg
      have hg : (if (shp d && shp e) = true then some (deq d e) else none).map (fun b => D.bl !b) = some c := hg
      split at hg
      · rename_i hs
        cases hg
        rw [Bool.and_eq_true] at hs
        exact .inr ⟨_, _, hx.dp s (shaped_can hs.1), hy.dp s (shaped_can hs.2), shp_ok hs.1, shp_ok hs.2, by rw [deq_eqv]; exact p _ Z H (ExtP.refl s) (.bl _)⟩
      · cases hg
end
/-! ### slices -/
section
variable {K : PySem.W.Frag} {X : Cx} {W : WX} {e a b c : Expr} {es : List Expr} {pos : Pos}
def RepOI (_ : Hp) (_ : List Addr) (x y : Option Int) : Prop := x = y
abbrev PM := Mi (Option Int)
structure DP (K : PySem.W.Frag) (X : Cx) (W : WX) (e : Option Expr) (t : TO) (m : PM) : Prop where
  k : X.K = K
  po : PO X e t
  so : Sound K W RepOI t m
def pNone : PM := fun s => some (.ok none s.m)
def pSome (m : EM) : PM := bnd m (pur fun d s => match d with
  | .int i => some (.ok (some i) s.m)
  | _ => none)
theorem dp_none (k : X.K = K := by rfl) : DP K X W none tNoPart pNone := ⟨k, po_none, ⟨fun σ H s Z I r Q w rs e p => by
  cases e; exact p none Z H I w Ext.refl rfl⟩⟩
theorem dp_some {te : TE} {m : EM} (h : DE K X W e te m) : DP K X W (some e) (tPart te) (pSome m) := ⟨h.k, po_some h.pe, ⟨fun σ H s Z I r Q w rs e p => by
  refine h.so.bnd w rs e p.x fun d v M1 Z1 H1 I1 w1 rs1 x1 q1 e1 => ?_
  obtain ⟨d, rfl, e1⟩ := pur_ok e1
  cases d with
  | int i => cases q1; cases e1; exact ⟨i, rfl, p _ Z1 H1 I1 w1 x1 rfl⟩
  | _ => cases e1⟩⟩
def cutD {α : Type} (xs : List α) (lo hi : Option Int) : List α := (xs.drop (HT.sIx xs.length 0 lo)).take (HT.sIx xs.length xs.length hi - HT.sIx xs.length 0 lo)
def slD : D → Option Int → Option Int → Option D
  | .str z, l, u => if z.length ≤ 1000000 then some (.str (cutS z l u)) else none
  | .lst xs, l, u => some (.lst (cutD xs l u))
  | .scr xs, l, u => some (.lst (cutD xs l u))
  | .tup xs, l, u => if HT.sIx xs.length 0 l = 0 ∧ HT.sIx xs.length xs.length u = xs.length then some (.tup xs) else some (.tup (cutD xs l u))
  | _, _, _ => none
def mSl (m : EM) (l u : PM) : EM := bnd m (pur fun d => bnd l fun i => bnd u fun j => ret (slD d i j))
def rSl (K : PySem.W.Frag) : V → Option Int → Option Int → Hp → VK → Prop := fun x lo hi H Q => rSlS x lo hi H Q ∨ rSlL K x lo hi H Q ∨ (∃ a xs, x = .ref a ∧ SqT K H a xs ∧ ¬ (HT.sIx xs.length 0 lo = 0 ∧ HT.sIx xs.length xs.length hi = xs.length) ∧ ∀ p, H p = none → Q (.ref p) (upd H p (.tup (cutV xs lo hi))))
theorem RepA.cut {Z : Hp} {xs : List V} {ds : List D} (r : RepA K Z xs ds) (lo hi : Option Int) : RepA K Z (cutV xs lo hi) (cutD ds lo hi) := by
  unfold cutV cutD
  rw [r.length]
  exact (r.drop _).take _
theorem sl_any : SlR X (rSl X.K) := fun pins s σ H x v vl vu lo hi sl Q I rx hs pl pu h => by
  rcases h with h | h | h
  · exact sl_str pins s σ H x v vl vu lo hi sl Q I rx hs pl pu h
  · exact sl_list pins s σ H x v vl vu lo hi sl Q I rx hs pl pu h
  · exact sl_tup pins s σ H x v vl vu lo hi sl Q I rx hs pl pu h
theorem sl_ok {x : V} {d c : D} {lo hi : Option Int} {Z H : Hp} {Q : VK} (s : Same Z H) (hx : Rep K Z x d) (hg : slD d lo hi = some c) (p : PostP K Z H c Q) (nt : ∀ xs, d ≠ .tup xs) : rSl K x lo hi H Q := by
  cases hx with
  | str z =>
    have hg : (if z.length ≤ 1000000 then some (D.str (cutS z lo hi)) else none) = some c := hg
    split at hg
    · rename_i hl
      cases hg
      exact .inl ⟨z, rfl, size_le hl, p _ Z H (ExtP.refl s) (.str _)⟩
    · cases hg
  | lst h1 h2 =>
    cases hg
    exact .inr (.inl ⟨_, _, rfl, .inl (same_rd s h1), fun l hl => p _ _ _ (ExtP.new s hl) (.lst (.inl upd_same) ((h2.cut lo hi).mono (same_upd (none_of s hl))))⟩)
  | scr h1 h2 =>
    cases hg
    exact .inr (.inl ⟨_, _, rfl, same_l s h1, fun l hl => p _ _ _ (ExtP.new s hl) (.lst (.inl upd_same) ((h2.cut lo hi).mono (same_upd (none_of s hl))))⟩)
  | tup h1 h2 => exact absurd rfl (nt _)
  | _ => cases hg
/-- (tuples are not cut here) -/
def slE (d : D) (l u : Option Int) : Option D := match d with
  | .tup _ => none
  | d => slD d l u
theorem de_sl {te : TE} {tl th : TO} {m : EM} {ml mu : PM} {lo hi : Option Expr} {p2 : Pos} (h : DE K X W e te m) (hl : DP K X W lo tl ml) (hh : DP K X W hi th mu) : DE K X W (.Subscript e (.Slice lo hi none p2) pos) (tSl (rSl K) te tl th) (bnd m (pur fun d => bnd ml fun i => bnd mu fun j => ret (slE d i j))) := by
  refine ⟨h.k, ?_, ⟨fun σ H s Z I r0 Q w rs e p => ?_⟩⟩
  · have q := pe_slice (X := X) (pos := pos) (p2 := p2) sl_any h.pe hl.po hh.po
    rw [h.k] at q
    exact q
  · refine h.so.bnd w rs e p.x fun d v M1 Z1 H1 I1 w1 rs1 x1 q1 e1 => ?_
    obtain ⟨d, rfl, e1⟩ := pur_ok e1
    have p1 := p.mono x1
    refine hl.so.bnd (s := ⟨s.l, M1⟩) w1 rs1 e1 p1.x fun i i' M2 Z2 H2 I2 w2 rs2 x2 q2 e2 => ?_
    cases (show i' = i from q2)
    have p2 := p1.mono x2
    refine hh.so.bnd (s := ⟨s.l, M2⟩) w2 rs2 e2 p2.x fun j j' M3 Z3 H3 I3 w3 rs3 x3 q3 e3 => ?_
    cases (show j' = j from q3)
    obtain ⟨c, hc, rfl⟩ := ret_ok e3
    have hx : Rep K Z3 v d := Rep.mono x3.z (Rep.mono x2.z q1)
    unfold slE at hc
    split at hc
    · cases hc
    · rename_i hn
      exact sl_ok w3.sub hx hc (PostP.of w3 (p2.mono x3)) fun xs h => hn xs h
end
end DL
namespace DL
open PySem L2
section
variable {K : PySem.W.Frag} {X : Cx} {W : WX} {e a b c : Expr} {es : List Expr} {pos : Pos}
/-! ### isinstance -/
def tyName : D → Option String
  | .non => some "NoneType"
  | .bl _ => some "bool"
  | .int _ => some "int"
  | .str _ => some "str"
  | .lst _ => some "list"
  | .tup _ => some "tuple"
  | .ktup _ => some "tuple"
  | _ => none
theorem tyX_of {Z H : Hp} {x : V} {d : D} {n : String} (s : Same Z H) (h : Rep K Z x d) (e : tyName d = some n) : TyX K H x (.type n) := by
  cases h with
  | non => cases e; exact .base .non
  | bl b => cases e; exact .base (.bl b)
  | int b => cases e; exact .base (.int b)
  | str b => cases e; exact .base (.str b)
  | lst h1 h2 =>
    cases e
    rcases h1 with h1 | ⟨o, h1⟩
    · exact .base (.lst (s _ _ h1))
    · exact .base (.frz (s _ _ h1))
  | tup h1 h2 => cases e; exact .base (.tup (s _ _ h1))
  | ktup h1 h2 =>
    cases e
    rcases h1 with (h1 | ⟨o, h1⟩) | ⟨o, its, n, h1, h2, _⟩
    · exact .base (.tup (s _ _ h1))
    · exact .fTuple (s _ _ h1)
    · exact .kTuple h1 h2
  | _ => cases e
def dIsi : List O → List DV → Option D
  | _, [.p d, .p (.ty n)] => match tyName d with
    | some t => (kitB t n).map .bl
    | none => none
  | _, _ => none
theorem cd_isi : CallD K X (.builtin "isinstance") (rIsi K) dIsi := ⟨fun k => by rw [← k]; exact call_isi, fun vs ds c Z H I M Q w rv hg p => by
  unfold dIsi at hg
  split at hg
  · rename_i d n
    cases rv with
    | cons h1 h2 =>
    cases h2 with
    | cons h2 h3 =>
    cases h3
    split at hg
    · rename_i t ht
      cases z : kitB t n with
      | none => rw [z] at hg; cases hg
      | some r =>
        rw [z] at hg; cases hg
        cases h2
        exact ⟨_, _, .type t, .type n, r, rfl, .ty n, tyX_of w.sub h1 ht, kit_ty z, p _ Z H (ExtP.refl w.sub) (.bl _)⟩
    · cases hg
  · cases hg⟩
theorem de_bty {x : Str} {n : String} (hm : X.mg x = none) (hv : bootBuiltins x = some (.type n)) (k : X.K = K := by rfl) (hg : Gl X x := by rfl) (hn : x ≠ "__name__" := by decide) (hd : (x == ("__debug__" : Str)) = false := by decide) : DE K X W (.Name x pos) (tC (.ty n)) (mC (.ty n)) :=
  ⟨k, pe_bltn (v := .ty n) hg hm hv rfl hn hd, so_c fun _ => .ty n⟩
end
end DL
namespace DL
open PySem L2
abbrev dSub : D → D → Option D := dIi fun i j => i - j
abbrev dMul : D → D → Option D := dI fun i j => if mulOk i j = true then some (.int (i * j)) else none
abbrev dDiv : D → D → Option D := dI fun i j => if 0 < j ∧ j < 18446744073709551616 then some (.int (i / j)) else none
abbrev dMod : D → D → Option D := dI fun i j => if 0 < j then some (.int (i % j)) else none
abbrev dLt : D → D → Option D := dIb fun i j => decide (i < j)
abbrev dLe : D → D → Option D := dIb fun i j => decide (i ≤ j)
abbrev dGt : D → D → Option D := dIb fun i j => decide (j < i)
abbrev dGe : D → D → Option D := dIb fun i j => decide (j ≤ i)
def dNeg : D → Option D
  | .int i => some (.int (-i))
  | _ => none
theorem de_usub {K : PySem.W.Frag} {X : Cx} {W : WX} {a : Expr} {pos : Pos} {ta : TE} {m : EM} (ha : DE K X W a ta m) : DE K X W (.UnaryOp .USub a pos) (tUn (rU fun i => .int (-i)) ta) (mUn dNeg m) :=
  ⟨ha.k, pe_un un_neg ha.pe, so_un (fun x d c Z H Q s hx hg p => by
    unfold dNeg at hg
    split at hg
    · cases hx; cases hg; exact ⟨_, rfl, p _ Z H (ExtP.refl s) (.int _)⟩
    · cases hg) ha.so⟩
/-- a def of the top -/
structure Df (K : PySem.W.Frag) (mg : Str → Option Value) (nm : Str) (st : Stmt) (ps : List Str) where
  a : Addr
  fd : FuncData
  F : Fun K nm nm st a fd
  m : mg nm = some (.ref a)
  b : Binds K fd ps []
theorem intsRep {K : PySem.W.Frag} {Z : Hp} : ∀ ns : List Int, RepA K Z (ns.map V.int) (ns.map D.int)
  | [] => .nil
  | n :: r => .cons (.int n) (intsRep r)
theorem walk_dl {l : PySem.W.OpenLaw} {k : Nat} {q : Program} {loose : List Str} {XP : (Str → Option Value) → Heap → Prop} {YP : World → Heap → Prop} {d : DefRec} {K : Params → PySem.W.Frag} {f : MA} (hn : l.most = some 63) (hdf : d.params.defaults = []) (hr : Room k callerA)
    (hY : ∀ (w : World) (h : Heap), YP w h → (K w.params).In h)
    (F : ∀ (w : World) (mg : Str → Option Value) (fa : Addr) (h : Heap), (K w.params).In h → h.Ns mainGlobals mg → mg d.name = some (.ref fa) →
      ∃ fd : FuncData, (∀ (s : Shared) (u : Value), BindsTo s fd ⟨[u], []⟩ [("script", u)]) ∧ ∀ base : Heap, (K w.params).In base → base.Ns mainGlobals mg → FnOk l.prog w (K w.params) mg base (L2.CX l.prog w) k fa fd ["script"] (spA (K w.params) 1 f))
    (good : ∀ ns : List Int, ns.length ≤ 63 → (∀ z ∈ ns, Builtin.Int.intBits z ≤ 1048576) → f [.scr (ns.map .int)] = some (.ok (.bl true))) :
    PySem.W.WalkO q loose XP YP l.row.toRowW d [] (fun f vs => PySem.call f vs) :=
  walk_ofB (n := 63) (k := k) (x := "script") (CX := fun w => L2.CX l.prog w) (sp := fun w => spA (K w.params) 1 f) hn (by decide) hdf hr hY F
    (fun w H a ns hl hb ho hS => ⟨rfl, H, [.scr (ns.map .int)], .ok (.bl true), Same.refl _, .cons (.scr hS (intsRep ns)) .nil, good ns hl hb, fun v Z' H' x r => by cases r; rfl⟩)
    fun w H s e s' h => by
      obtain ⟨_, _, _, _, _, _, _, _, _, _, _, _, z⟩ := h
      exact z.elim
end DL
namespace DL
open PySem L2
/-- a constant of the top -/
structure GC (K : PySem.W.Frag) (mg : Str → Option Value) (x : Str) (d : D) where
  v : V
  u : Value
  m : mg x = some u
  r : RelV v u
  h : ∀ Z, Rep K Z v d
def gc_mk {K : PySem.W.Frag} {mg : Str → Option Value} {x : Str} {d : D} {v : V} {u : Value} (m : mg x = some u) (r : RelV v u) (h : ∀ Z, Rep K Z v d) : GC K mg x d := ⟨v, u, m, r, h⟩
theorem de_gc {K : PySem.W.Frag} {X : Cx} {W : WX} {x : Str} {d : D} {pos : Pos} {mg : Str → Option Value} (g : GC K mg x d) (hm : X.mg = mg := by rfl) (k : X.K = K := by rfl) (hg : Gl X x := by rfl) (hd : (x == ("__debug__" : Str)) = false := by decide) : DE K X W (.Name x pos) (tC g.v) (mC d) :=
  de_glob (by rw [hm]; exact g.m) g.r g.h k hg hd
def mSlE (m : EM) (l u : PM) : EM := bnd m (pur fun d => bnd l fun i => bnd u fun j => ret (slE d i j))
end DL
namespace DL
open PySem L2
/-! the mirror's equations -/
@[simp] theorem e_gv0 (x : Option DV) (r : List (Option DV)) : gv (x :: r) 0 = x := by unfold gv; cases x <;> rfl
@[simp] theorem e_gvS (x : Option DV) (r : List (Option DV)) (n : Nat) : gv (x :: r) (n + 1) = gv r n := by unfold gv; rfl
@[simp] theorem e_var (i : Nat) (s : S) : mVar i s = (match gv s.l i with | some d => some (.ok d s.m) | none => none) := rfl
@[simp] theorem e_c (d : D) (s : S) : mC d s = some (.ok (.p d) s.m) := rfl
theorem e_bnd {α γ : Type} (m : Mi α) (k : α → Mi γ) (s : S) : bnd m k s = (match m s with | some (.ok v M) => k v ⟨s.l, M⟩ | some (.ex c f M) => some (.ex c f M) | none => none) := rfl
@[simp] theorem e_pur {γ : Type} (k : D → Mi γ) (d : D) (s : S) : pur k (.p d) s = k d s := rfl
@[simp] theorem e_ret (d : D) (s : S) : ret (some d) s = some (.ok (.p d) s.m) := rfl
@[simp] theorem e_bin (g : D → D → Option D) (m n : EM) (s : S) : mBin g m n s = (bnd m (pur fun d => bnd n (pur fun e => ret (g d e)))) s := rfl
@[simp] theorem e_un (g : D → Option D) (m : EM) (s : S) : mUn g m s = (bnd m (pur fun d => ret (g d))) s := rfl
@[simp] theorem e_dI (g : Int → Int → Option D) (i j : Int) : dI g (.int i) (.int j) = g i j := rfl
@[simp] theorem e_addI (i j : Int) : dAdd (.int i) (.int j) = some (.int (i + j)) := rfl
@[simp] theorem e_addS (x y : Str) : dAdd (.str x) (.str y) = if x.length + y.length ≤ 1000000 then some (.str (x ++ y)) else none := rfl
@[simp] theorem e_neg (i : Int) : dNeg (.int i) = some (.int (-i)) := rfl
@[simp] theorem e_isN (m : EM) (s : S) : mIsN m s = (bnd m fun d s => some (.ok (.p (.bl (isNV d))) s.m)) s := rfl
@[simp] theorem e_notN (m : EM) (s : S) : mNotN m s = (bnd m fun d s => some (.ok (.p (.bl (!isNV d))) s.m)) s := rfl
@[simp] theorem e_isNVo (n : Nat) : isNV (.o n) = false := rfl
@[simp] theorem e_isNV0 : isNV (.p .non) = true := rfl
@[simp] theorem e_isNV1 (i : Int) : isNV (.p (.int i)) = false := rfl
@[simp] theorem e_isNV2 (i : Str) : isNV (.p (.str i)) = false := rfl
@[simp] theorem e_isNV3 (i : List D) : isNV (.p (.tup i)) = false := rfl
@[simp] theorem e_isNV4 (i : List D) : isNV (.p (.lst i)) = false := rfl
@[simp] theorem e_isNV5 (i : Bool) : isNV (.p (.bl i)) = false := rfl
@[simp] theorem e_tru (m : EM) (s : S) : mTru m s = (bnd m fun d s => match truM s.m d with | some b => some (.ok (.p (.bl b)) s.m) | none => none) s := rfl
@[simp] theorem e_truB (M : List O) (b : Bool) : truM M (.p (.bl b)) = some b := rfl
@[simp] theorem e_ifMt {γ : Type} (n k : Mi γ) (s : S) : ifM n k (.p (.bl true)) s = n s := rfl
@[simp] theorem e_ifMf {γ : Type} (n k : Mi γ) (s : S) : ifM n k (.p (.bl false)) s = k s := rfl
@[simp] theorem e_fls (s : S) : fls s = some (.ok (.p (.bl false)) s.m) := rfl
@[simp] theorem e_trus (s : S) : tru s = some (.ok (.p (.bl true)) s.m) := rfl
@[simp] theorem e_and (m n : EM) (s : S) : mAnd m n s = (bnd m (ifM n fls)) s := rfl
@[simp] theorem e_or (m n : EM) (s : S) : mOr m n s = (bnd m (ifM tru n)) s := rfl
@[simp] theorem e_not (m : EM) (s : S) : mNot m s = (bnd m (ifM fls tru)) s := rfl
@[simp] theorem e_ifE (c m n : EM) (s : S) : mIf c m n s = (bnd c (ifM m n)) s := rfl
@[simp] theorem e_chain (g h : D → D → Option D) (m n k : EM) (s : S) : mChain g h m n k s = (bnd m (pur fun d => bnd n (pur fun e => bnd (ret (g d e)) (ifM (bnd k (pur fun f => ret (h e f))) fls)))) s := rfl
@[simp] theorem e_aNil (s : S) : aNil s = some (.ok [] s.m) := rfl
@[simp] theorem e_aCons (m : EM) (ms : AM) (s : S) : aCons m ms s = (bnd m fun d => bnd ms fun ds s => some (.ok (d :: ds) s.m)) s := rfl
@[simp] theorem e_allP0 : allP [] = some [] := rfl
@[simp] theorem e_allP1 (d : D) (r : List DV) : allP (.p d :: r) = (allP r).map (d :: ·) := rfl
@[simp] theorem e_allPm (xs : List D) : allP (xs.map .p) = some xs := by
  induction xs with
  | nil => rfl
  | cons x r ih => show (allP (r.map .p)).map _ = _; rw [ih]; rfl
@[simp] theorem e_disp (g : List D → D) (ms : AM) (s : S) : disp g ms s = (bnd ms fun ds s => match allP ds with | some xs => if xs.length ≤ 1000000 then some (.ok (.p (g xs)) s.m) else none | none => none) s := rfl
@[simp] theorem e_dispO (ms : AM) (s : S) : dispO ms s = (bnd ms fun ds s => if ds.length ≤ 1000000 then some (.ok (.o s.m.length) (s.m ++ [.lst ds])) else none) s := rfl
def ixK (d : DV) (i : D) : EM := fun s => match i with
  | .int i => (match ixM s.m d i with
    | some c => some (.ok c s.m)
    | none => none)
  | _ => none
@[simp] theorem e_ix (m n : EM) (s : S) : mIx m n s = (bnd m fun d => bnd n (pur (ixK d))) s := rfl
@[simp] theorem e_ixK (d : DV) (i : Int) (s : S) : ixK d (.int i) s = (match ixM s.m d i with | some c => some (.ok c s.m) | none => none) := rfl
@[simp] theorem e_ixp (M : List O) (d : D) (i : Int) : ixM M (.p d) i = (ixD d i).map .p := rfl
@[simp] theorem e_ixo (M : List O) (n : Nat) (i : Int) : ixM M (.o n) i = ixO M[n]? i := rfl
@[simp] theorem e_ixl (xs : List D) (i : Int) : ixD (.lst xs) i = atI xs i := rfl
@[simp] theorem e_ixt (xs : List D) (i : Int) : ixD (.tup xs) i = atI xs i := rfl
@[simp] theorem e_ixO (xs : List DV) (i : Int) : ixO (some (.lst xs)) i = atI xs i := rfl
@[simp] theorem e_cb (g : List O → List DV → Option D) (ms : AM) (s : S) : mCB g ms s = (bnd ms fun ds s => ret (g s.m ds) s) s := rfl
@[simp] theorem e_g1 (g : D → Option D) (M : List O) (d : D) : g1 g M [.p d] = g d := rfl
@[simp] theorem e_abs (i : Int) : dAbs (.int i) = some (.int (if i < 0 then -i else i)) := rfl
@[simp] theorem e_int (i : Int) : dInt (.int i) = some (.int i) := rfl
@[simp] theorem e_intb (b : Bool) : dInt (.bl b) = some (.int (if b then 1 else 0)) := rfl
@[simp] theorem e_len (M : List O) (d : DV) : dLen M [d] = Option.map (fun (n : Nat) => D.int (n : Int)) (lenM M d) := rfl
@[simp] theorem e_lenp (M : List O) (d : D) : lenM M (.p d) = lenD d := rfl
@[simp] theorem e_leno (M : List O) (n : Nat) : lenM M (.o n) = lenO M[n]? := rfl
@[simp] theorem e_lenl (xs : List D) : lenD (.lst xs) = some xs.length := rfl
@[simp] theorem e_lent (xs : List D) : lenD (.tup xs) = some xs.length := rfl
@[simp] theorem e_lens (y : Str) : lenD (.str y) = if y.length ≤ 1000000 then some y.length else none := rfl
@[simp] theorem e_lenO (xs : List DV) : lenO (some (.lst xs)) = some xs.length := rfl
@[simp] theorem e_callA (n : Nat) (f : MA) (ms : AM) (s : S) : mCallA n f ms s = (bnd ms fun ds s => if ds.length = n then match allP ds with
  | some xs => match f xs with
    | some (.ok d) => some (.ok (.p d) s.m)
    | some (.ex c fs) => some (.ex c fs s.m)
    | none => none
  | none => none else none) s := rfl
@[simp] theorem e_callB (n : Nat) (f : List DV → List O → Option (Rs DV)) (ms : AM) (s : S) : mCallB n f ms s = (bnd ms fun ds s => if ds.length = n then f ds s.m else none) s := rfl
theorem e_lift {α : Type} (m : Mi α) (k : α → SM) (s : S) : liftS m k s = (match m s with | some (.ok v M) => k v ⟨s.l, M⟩ | some (.ex c f M) => some (.ex c f, ⟨s.l, M⟩) | none => none) := rfl
@[simp] theorem e_nil (s : S) : sNil s = some (.nx, s) := rfl
theorem e_seq (a b : SM) (s : S) : sSeq a b s = (match a s with | some (.nx, s1) => b s1 | r => r) := rfl
@[simp] theorem e_expr (m : EM) (s : S) : sExpr m s = (liftS m fun _ s => some (.nx, s)) s := rfl
@[simp] theorem e_sret (m : EM) (s : S) : sRet m s = (liftS m fun d s => some (.rt d, s)) s := rfl
@[simp] theorem e_ifSt (n k : SM) (s : S) : ifS n k (.p (.bl true)) s = n s := rfl
@[simp] theorem e_ifSf (n k : SM) (s : S) : ifS n k (.p (.bl false)) s = k s := rfl
@[simp] theorem e_sif (c : EM) (m n : SM) (s : S) : sIf c m n s = (liftS c (ifS m n)) s := rfl
@[simp] theorem e_gN (i : Nat) (d : DV) (s : S) : gN i d s = some ⟨s.l.set i (some d), s.m⟩ := rfl
@[simp] theorem e_asg (m : EM) (g : GM) (s : S) : sAsg m g s = (liftS m fun d s => match g d s with | some s1 => some (.nx, s1) | none => none) s := rfl
@[simp] theorem e_par (i j : Nat) (ms : AM) (s : S) : sPar i j ms s = (liftS ms fun ds s => match ds with | [d, f] => some (.nx, ⟨(s.l.set i (some d)).set j (some f), s.m⟩) | _ => none) s := rfl
@[simp] theorem e_loop0 (g : GM) (b : SM) (s : S) : loopS g b [] s = some (.nx, s) := rfl
@[simp] theorem e_for (it : IM) (g : GM) (b : SM) (s : S) : sFor it g b s = (liftS it fun ds => loopS g b ds) s := rfl
@[simp] theorem e_frz (m : EM) (s : S) : mFrz m s = (bnd m fun d s => match d with
  | .p d => some (.ok (.p d) s.m)
  | .o n => match s.m[n]? with
    | some (.lst ds) => match allP ds with
      | some xs => some (.ok (.p (.lst xs)) (s.m.set n .gone))
      | none => none
    | _ => none) s := rfl
theorem e_runA (n : Nat) (m : SM) (ds : List D) : runA n m ds = (match m ⟨slotsOf n (ds.map .p), []⟩ with
  | some (.nx, _) => some (.ok .non)
  | some (.rt (.p d), _) => some (.ok d)
  | some (.ex c fs, _) => some (.ex c fs)
  | _ => none) := rfl
theorem e_runB (n : Nat) (m : SM) (ds : List DV) (M : List O) : runB n m ds M = (match m ⟨slotsOf n ds, M⟩ with
  | some (.nx, s) => some (.ok (.p .non) (dropM M.length (.p .non) s.m))
  | some (.rt d, s) => some (.ok d (dropM M.length d s.m))
  | some (.ex c fs, s) => some (.ex c fs (dropM M.length (.p .non) s.m))
  | _ => none) := rfl
@[simp] theorem e_slots (n : Nat) (ds : List DV) : slotsOf n ds = ds.map some ++ List.replicate (n - ds.length) none := rfl
@[simp] theorem e_pNone (s : S) : pNone s = some (.ok none s.m) := rfl
@[simp] theorem e_pSome (m : EM) (s : S) : pSome m s = (bnd m (pur fun d s => match d with | .int i => some (.ok (some i) s.m) | _ => none)) s := rfl
@[simp] theorem e_slE (m : EM) (l u : PM) (s : S) : mSlE m l u s = (bnd m (pur fun d => bnd l fun i => bnd u fun j => ret (slE d i j))) s := rfl
@[simp] theorem e_itD (g : D → Option (List DV)) (m : EM) (s : S) : mItD g m s = (bnd m (pur fun d s => match g d with | some ds => some (.ok ds s.m) | none => none)) s := rfl
@[simp] theorem e_itL (xs : List D) : itL (.lst xs) = some (xs.map .p) := rfl
@[simp] theorem e_itT (xs : List D) : itT (.tup xs) = some (xs.map .p) := rfl
@[simp] theorem e_rng (g : List DV → Option (List DV)) (ms : AM) (s : S) : mRng g ms s = (bnd ms fun ds s => match g ds with | some xs => some (.ok xs s.m) | none => none) s := rfl
@[simp] theorem e_rng1 (j : Int) : rng1D [.p (.int j)] = if rngOk j = true then some (intsFrom 0 j.toNat) else none := rfl
@[simp] theorem e_rng2 (i j : Int) : rng2D [.p (.int i), .p (.int j)] = if rngOk i = true then if rngOk j = true then some (intsFrom i (j - i).toNat) else none else none := rfl
@[simp] theorem e_mth (T : String) (g : MtG) (o : EM) (ms : AM) (s : S) : mMth T g o ms s = (bnd o fun d s => if tyOk T s.m d = true then bnd ms (fun ds => g d ds) s else none) s := rfl
@[simp] theorem e_lc (it : IM) (vs : List Nat) (g : GM) (t e : EM) (s : S) : mLc it vs g t e s = (bnd it fun ds s => match compL (wipeL s.l vs) g t e ds [] s.m with | some (acc, M) => some (.ok (.p (.lst acc)) M) | none => none) s := rfl
@[simp] theorem e_lcO (it : IM) (vs : List Nat) (g : GM) (t e : EM) (s : S) : mLcO it vs g t e s = (bnd it fun ds s => match compL (wipeL s.l vs) g t e ds [] s.m with | some (acc, M) => some (.ok (.o M.length) (M ++ [.lst (acc.map .p)])) | none => none) s := rfl
@[simp] theorem e_wipe0 (l : List (Option DV)) : wipeL l [] = l := rfl
@[simp] theorem e_wipe1 (l : List (Option DV)) (v : Nat) (vs : List Nat) : wipeL l (v :: vs) = (wipeL l vs).set v none := rfl
@[simp] theorem e_yes (s : S) : tYesM s = some (.ok (.p (.bl true)) s.m) := rfl
@[simp] theorem e_eqD (d e : D) : dEq d e = (eqD d e).map .bl := rfl
@[simp] theorem e_neD (d e : D) : dNe d e = (eqD d e).map fun b => .bl !b := rfl
@[simp] theorem e_eqII (i j : Int) : eqD (.int i) (.int j) = some (decide (i = j)) := by show some (i == j) = _; rw [Bool.beq_eq_decide_eq]
@[simp] theorem e_eqSS (i j : Str) : eqD (.str i) (.str j) = some (decide (i = j)) := by
  show some (i == j) = _
  by_cases h : i = j <;> simp [h]
@[simp] theorem e_eqBB (i j : Bool) : eqD (.bl i) (.bl j) = some (decide (i = j)) := by show some (i == j) = _; rw [Bool.beq_eq_decide_eq]
@[simp] theorem e_eqNI (j : Int) : eqD .non (.int j) = some false := rfl
@[simp] theorem e_eqIN (j : Int) : eqD (.int j) .non = some false := rfl
@[simp] theorem e_eqNN : eqD .non .non = some true := rfl
@[simp] theorem mul2L (i : Int) : mulOk 2 i = true := by unfold mulOk; simp
end DL
namespace DL
open PySem L2
/-! the drawn numbers -/
def stateB : SM := (sSeq (sAsg (mLcO (mItD itL (mSlE (mVar 0) pNone (pSome (mC (.int 63))))) [2] (gN 2) tYesM (mCB (g1 dAbs) (aCons (mVar 2) aNil))) (gN 1))
  (sSeq (sIf (mBin dEq (mCB dLen (aCons (mVar 1) aNil)) (mC (.int 0))) (sAsg (dispO (aCons (mC (.int 0)) aNil)) (gN 1)) sNil)
  (sRet (dispO (aCons (mC (.int 0)) (aCons (mVar 1) aNil))))))
def stateM : List DV → List O → Option (Rs DV) := runB 3 stateB
def takeB : SM := (sSeq (sIf (mBin dLt (mVar 1) (mC (.int 1))) (sRet (mC (.int 0))) sNil)
  (sSeq (sAsg (mIx (mVar 0) (mC (.int 1))) (gN 2))
  (sSeq (sAsg (mBin dMod (mIx (mVar 0) (mC (.int 0))) (mCB dLen (aCons (mVar 2) aNil))) (gN 3))
  (sSeq (sAsg (mIx (mVar 2) (mVar 3)) (gN 4))
  (sSeq (sIf (mBin dGe (mVar 4) (mC (.int 1000000000000000000))) (sSeq (sAsg (mBin dDiv (mVar 4) (mVar 1)) (gSet (mVar 2) (mVar 3)))
  (sRet (mBin dMod (mVar 4) (mVar 1)))) sNil)
  (sSeq (sAsg (mBin dAdd (mIx (mVar 0) (mC (.int 0))) (mC (.int 1))) (gSet (mVar 0) (mC (.int 0))))
  (sSeq (sAsg (mBin dMod (mCB (g1 dInt) (aCons (mBin dAdd (mBin dMul (mVar 4) (mC (.int 48271))) (mBin dMul (mIx (mVar 0) (mC (.int 0))) (mC (.int 69621)))) aNil)) (mC (.int 2147483647))) (gN 5))
  (sSeq (sAsg (mBin dMod (mCB (g1 dInt) (aCons (mBin dAdd (mBin dMul (mVar 5) (mC (.int 16807))) (mBin dMul (mIx (mVar 0) (mC (.int 0))) (mC (.int 7919)))) aNil)) (mC (.int 1000000007))) (gN 5))
  (sRet (mBin dMod (mBin dDiv (mVar 5) (mC (.int 7))) (mVar 1)))))))))))
def takeM : List DV → List O → Option (Rs DV) := runB 6 takeB
structure Dr (n : Nat) (sv : DV) (M : List O) : Prop where
  len : M.length = n
  cl : M.all (closed n) = true
  ex : ∃ (k c : Nat) (i : Int) (cells : List Int), sv = .o k ∧ M[k]? = some (.lst [.p (.int i), .o c]) ∧ M[c]? = some (.lst (cells.map fun z => .p (.int z))) ∧ k ≠ c ∧ 0 ≤ i ∧ cells ≠ [] ∧ ∀ z ∈ cells, 0 ≤ z
theorem dropM_len {k : Nat} {d : DV} {M : List O} (h : M.length = k) : dropM k d M = M := by
  unfold dropM
  rw [List.take_of_length_le (by omega)]
  split <;> rfl
theorem dropM_app {k : Nat} {d : DL.D} {M g : List O} (h : M.length = k) (c : M.all (closed k) = true) : dropM k (.p d) (M ++ g) = M := by
  unfold dropM
  have e : (M ++ g).take k = M := by rw [← h, List.take_left]
  rw [e, c]
  rfl
theorem atI_nat' {α : Type} {xs : List α} {j : Int} {x : α} (h0 : 0 ≤ j) (h : xs[j.toNat]? = some x) : atI xs j = some x := by
  have hl := (List.getElem?_eq_some_iff.mp h).1
  unfold atI ixN
  rw [if_pos h0, if_pos (by omega)]
  exact h
theorem ixN_nat {n : Nat} {j : Int} (h0 : 0 ≤ j) (h : j < n) : ixN n j = some j.toNat := by
  unfold ixN
  rw [if_pos h0, if_pos h]
theorem atI0 {α : Type} (x : α) (xs : List α) : atI (x :: xs) 0 = some x := atI_nat' (by decide) rfl
theorem atI1 {α : Type} (x y : α) (xs : List α) : atI (x :: y :: xs) 1 = some y := atI_nat' (by decide) rfl
theorem all_set {p : O → Bool} {M : List O} {o : O} (h : M.all p = true) (ho : p o = true) (n : Nat) : (M.set n o).all p = true := by
  rw [List.all_eq_true] at h ⊢
  intro x hx
  rcases List.mem_or_eq_of_mem_set hx with h1 | h1
  · exact h x h1
  · rw [h1]; exact ho
theorem closed_ints (n : Nat) (cells : List Int) : closed n (.lst (cells.map fun z => .p (.int z))) = true := by
  show (cells.map fun z => DV.p (.int z)).all (ltO n) = true
  rw [List.all_map]
  exact List.all_eq_true.mpr fun _ _ => rfl
theorem set_map (cells : List Int) (j : Nat) (z : Int) : (cells.map fun z => DV.p (.int z)).set j (.p (.int z)) = (cells.set j z).map fun z => DV.p (.int z) := by
  rw [List.map_set]
theorem get_map {cells : List Int} {j : Nat} (h : j < cells.length) : (cells.map fun z => DV.p (.int z))[j]? = some (.p (.int cells[j])) := by
  rw [List.getElem?_map, List.getElem?_eq_getElem h]; rfl
theorem e_set (o i : EM) (d : DV) (s : S) : gSet o i d s = (match bnd o (fun x => bnd i (pur (gSetK d x))) s with | some (.ok _ M) => some ⟨s.l, M⟩ | _ => none) := rfl
theorem e_setK (d : DV) (n : Nat) (j : Int) (s : S) : gSetK d (.o n) (.int j) s = (match setL s.m n j d with | some M => some (.ok (.p .non) M) | none => none) := rfl
theorem setL_ok {M : List O} {n : Nat} {ds : List DV} {j : Int} {d : DV} (h : M[n]? = some (.lst ds)) (h0 : 0 ≤ j) (h1 : j < ds.length) : setL M n j d = some (M.set n (.lst (ds.set j.toNat d))) := by
  unfold setL
  rw [h]
  show (match ixN ds.length j with | some j => some (M.set n (.lst (ds.set j d))) | none => none) = _
  rw [ixN_nat h0 h1]
theorem mulOkR (i j : Int) (h : -18446744073709551616 < j) (h' : j < 18446744073709551616) : mulOk i j = true := by
  unfold mulOk
  have e : (2 : Int) ^ 64 = 18446744073709551616 := by decide
  simp only [e, Bool.or_eq_true, decide_eq_true_eq]
  exact .inr ⟨h, h'⟩
theorem take_spec {n : Nat} {sv : DV} {M : List O} (h : Dr n sv M) (most : Int) (hm : most < 18446744073709551616) : ∃ r M', takeM [sv, .p (.int most)] M = some (.ok (.p (.int r)) M') ∧ Dr n sv M' ∧ (most < 1 → r = 0) ∧ (1 ≤ most → 0 ≤ r ∧ r < most) := by
  obtain ⟨k, c, i, cells, rfl, hk, hc, kc, hi, ne, nn⟩ := h.ex
  by_cases h1 : most < 1
  · refine ⟨0, M, ?_, h, fun _ => rfl, fun h2 => by omega⟩
    simp [e_bnd, e_seq, e_lift, e_runA, e_runB, takeM, takeB, h1, dropM_len h.len, h.len]
  · have hl : 0 < cells.length := List.length_pos_iff.mpr ne
    have hl' : (0 : Int) < (cells.length : Int) := by omega
    have a0 : 0 ≤ i % (cells.length : Int) := Int.emod_nonneg _ (by omega)
    have a1 : i % (cells.length : Int) < (cells.length : Int) := Int.emod_lt_of_pos _ hl'
    have aN : (i % (cells.length : Int)).toNat < cells.length := by omega
    have hg := atI_nat' (xs := cells.map fun z => DV.p (.int z)) a0 (get_map aN)
    have cn : 0 ≤ cells[(i % (cells.length : Int)).toNat] := nn _ (List.getElem_mem aN)
    generalize hz : cells[(i % (cells.length : Int)).toNat] = z at hg cn
    have m0 : 0 < most := by omega
    by_cases h2 : 1000000000000000000 ≤ z
    · refine ⟨z % most, M.set c (.lst ((cells.set (i % (cells.length : Int)).toNat (z / most)).map fun z => .p (.int z))), ?_, ⟨by rw [List.length_set]; exact h.len, all_set h.cl (closed_ints n _) c, k, c, i, _, rfl, by rw [List.getElem?_set_ne kc.symm]; exact hk, by rw [List.getElem?_set_self (List.getElem?_eq_some_iff.mp hc).1], kc, hi, ?_, ?_⟩, fun h3 => absurd h3 h1, fun _ => ⟨Int.emod_nonneg _ (by omega), Int.emod_lt_of_pos _ m0⟩⟩
      · have hs := setL_ok (M := M) (n := c) (d := .p (.int (z / most))) hc a0 (by rw [List.length_map]; exact a1)
        simp [e_bnd, e_seq, e_lift, e_runA, e_runB, takeM, takeB, h1, hk, hc, atI0, atI1, hl, hl', hg, h2, e_set, e_setK, m0, hm, hs, h.len, dropM_len]
      · simpa using ne
      · intro y hy
        rcases List.mem_or_eq_of_mem_set hy with q | q
        · exact nn y q
        · rw [q]; exact Int.ediv_nonneg cn (by omega)
    · have hs := setL_ok (M := M) (n := k) (d := .p (.int (i + 1))) (j := 0) hk (by decide) (by simp)
      have hk' : (M.set k (.lst [DV.p (.int (i + 1)), .o c]))[k]? = some (.lst [.p (.int (i + 1)), .o c]) := by
        rw [List.getElem?_set_self (List.getElem?_eq_some_iff.mp hk).1]
      refine ⟨((((z * 48271 + (i + 1) * 69621) % 2147483647) * 16807 + (i + 1) * 7919) % 1000000007) / 7 % most, M.set k (.lst [.p (.int (i + 1)), .o c]), ?_, ⟨by rw [List.length_set]; exact h.len, all_set h.cl ?_ k, k, c, i + 1, cells, rfl, hk', by rw [List.getElem?_set_ne kc]; exact hc, kc, by omega, ne, nn⟩, fun h3 => absurd h3 h1, fun _ => ⟨Int.emod_nonneg _ (by omega), Int.emod_lt_of_pos _ m0⟩⟩
      · simp [e_bnd, e_seq, e_lift, e_runA, e_runB, takeM, takeB, h1, hk, hc, atI0, atI1, hl, hl', hg, h2, e_set, e_setK, m0, hm, hs, hk', h.len, dropM_len, mulOkR]
      · have := List.all_eq_true.mp h.cl _ (List.mem_of_getElem? hk)
        exact this
end DL
namespace DL
open PySem L2
theorem compL_fm {l : List (Option DV)} {g : GM} {t e : EM} {p : DV → Bool} {f : DV → D} {M : List O} : ∀ (ds : List DV) (acc : List D),
    (∀ d ∈ ds, ∃ s1 : S, g d ⟨l, M⟩ = some s1 ∧ t s1 = some (.ok (.p (.bl (p d))) M) ∧ (p d = true → e ⟨s1.l, M⟩ = some (.ok (.p (f d)) M))) → acc.length + ds.length ≤ 1000000 →
    compL l g t e ds acc M = some (acc ++ (ds.filter p).map f, M)
  | [], acc, _, _ => by simp [compL]
  | d :: ds, acc, h, hl => by
    obtain ⟨s1, h1, h2, h3⟩ := h d (by simp)
    have hl' : acc.length + (ds.length + 1) ≤ 1000000 := hl
    unfold compL
    rw [h1]
    dsimp only
    rw [h2]
    cases hp : p d with
    | true =>
      dsimp only
      rw [h3 hp]
      dsimp only
      rw [if_pos (by omega), compL_fm ds (acc ++ [f d]) (fun x hx => h x (by simp [hx])) (by simp; omega)]
      simp [hp]
    | false =>
      dsimp only
      rw [compL_fm ds acc (fun x hx => h x (by simp [hx])) (by omega)]
      simp [hp]
theorem compL_map {l : List (Option DV)} {g : GM} {t e : EM} {f : DV → D} {M : List O} (ds : List DV)
    (h : ∀ d ∈ ds, ∃ s1 : S, g d ⟨l, M⟩ = some s1 ∧ t s1 = some (.ok (.p (.bl true)) M) ∧ e ⟨s1.l, M⟩ = some (.ok (.p (f d)) M)) (hl : ds.length ≤ 1000000) : compL l g t e ds [] M = some (ds.map f, M) := by
  have q := compL_fm (p := fun _ => true) (f := f) ds [] (l := l) (g := g) (t := t) (e := e) (M := M) (fun d hd => by
    obtain ⟨s1, h1, h2, h3⟩ := h d hd
    exact ⟨s1, h1, h2, fun _ => h3⟩) (by simpa using hl)
  rw [q, List.filter_eq_self.mpr (fun _ _ => rfl)]
  rfl
theorem dropM_own {n : Nat} {M : List O} : dropM 0 (.o n) M = M := by simp [dropM, ltO]
theorem cut63 {α : Type} (xs : List α) (h : xs.length ≤ 63) : cutD xs none (some 63) = xs := by
  unfold cutD
  rw [HT.sIx_none, show (63 : Int) = ((63 : Nat) : Int) from rfl, HT.sIx_nat, List.drop_zero]
  exact List.take_of_length_le (by omega)
def iabs (i : Int) : Int := if i < 0 then -i else i
theorem state_spec (ns : List Int) (hl : ns.length ≤ 63) : ∃ n sv M, stateM [.p (.scr (ns.map .int))] [] = some (.ok sv M) ∧ Dr n sv M := by
  have hc : slE (.scr (ns.map D.int)) none (some 63) = some (.lst (ns.map D.int)) := by
    show some (D.lst (cutD (ns.map D.int) none (some 63))) = _
    rw [cut63 _ (by simpa using hl)]
  have hm : compL [some (.p (.scr (ns.map .int))), none, none] (gN 2) tYesM (mCB (g1 dAbs) (aCons (mVar 2) aNil)) ((ns.map D.int).map DV.p) [] [] = some ((ns.map iabs).map D.int, []) := by
    rw [compL_map (f := fun d => match d with | .p (.int i) => .int (iabs i) | _ => .non) ((ns.map D.int).map DV.p) (fun d hd => by
      rw [List.map_map] at hd
      obtain ⟨i, _, rfl⟩ := List.mem_map.mp hd
      exact ⟨_, rfl, rfl, by simp [e_bnd, iabs]⟩) (by simp; omega)]
    simp
  have e0 : (ns.map iabs).map D.int = [] → ns = [] := by simp
  by_cases he : ns = []
  · refine ⟨3, .o 2, [.lst [], .lst [.p (.int 0)], .lst [.p (.int 0), .o 1]], ?_, rfl, rfl, 2, 1, 0, [0], rfl, rfl, rfl, by decide, by decide, by simp, by simp⟩
    subst he
    simp [e_bnd, e_seq, e_lift, e_runA, e_runB, stateM, stateB, hc, hm, dropM_own]
    rfl
  · refine ⟨2, .o 1, [.lst ((ns.map iabs).map fun z => .p (.int z)), .lst [.p (.int 0), .o 0]], ?_, rfl, ?_, 1, 0, 0, ns.map iabs, rfl, rfl, rfl, by decide, by decide, by simpa using he, ?_⟩
    · generalize hA : (ns.map iabs) = A at hm
      have hA' : A ≠ [] := by rw [← hA]; simpa using he
      have hA2 : ¬ A.length = 0 := by
        intro h; exact hA' (List.length_eq_zero_iff.mp h)
      generalize hB : ns.map D.int = B at hm hc
      simp [e_bnd, e_seq, e_lift, e_runA, e_runB, stateM, stateB, hc, hm, dropM_own, hA', hA2]
    · show (closed 2 _ && _) = true
      rw [closed_ints]; rfl
    · intro z hz
      obtain ⟨i, _, rfl⟩ := List.mem_map.mp hz
      unfold iabs; split <;> omega
theorem at_mem {α : Type} {xs : List α} {j : Int} (h0 : 0 ≤ j) (h : j < xs.length) : ∃ x, atI xs j = some x ∧ x ∈ xs := by
  have hj : j.toNat < xs.length := by omega
  exact ⟨xs[j.toNat], atI_nat' h0 (List.getElem?_eq_getElem hj), List.getElem_mem hj⟩
theorem ints0 (lo : Int) : DL.intsFrom lo 0 = [] := rfl
theorem intsS (lo : Int) (n : Nat) : DL.intsFrom lo (n + 1) = .p (.int lo) :: DL.intsFrom (lo + 1) n := by
  unfold DL.intsFrom
  rw [List.range_succ_eq_map, List.map_cons, List.map_map]
  have e : lo + ((0 : Nat) : Int) = lo := by omega
  rw [e]
  congr 1
  refine List.map_congr_left fun i _ => ?_
  show DV.p (.int (lo + ((i + 1 : Nat) : Int))) = DV.p (.int (lo + 1 + (i : Int)))
  congr 2; omega
theorem loopS_cons {g : GM} {b : SM} {d : DV} {ds : List DV} {s : S} : loopS g b (d :: ds) s = (match g d s with
    | none => none
    | some s1 => match b s1 with
      | none => none
      | some (.nx, s2) => loopS g b ds s2
      | some (.ct, s2) => loopS g b ds s2
      | some (.bk, s2) => some (.nx, s2)
      | some (.rt v, s2) => some (.rt v, s2)
      | some (.ex c f, s2) => some (.ex c f, s2)) := rfl
end DL
namespace DL
open PySem L2
/-! going through a mirror step by step -/
def wpB {α : Type} (o : Option (Rs α)) (P : α → List O → Prop) : Prop := ∃ v M, o = some (.ok v M) ∧ P v M
def noX : Fl → Bool
  | .ex _ _ => false
  | _ => true
def wpS (o : Option (Fl × S)) (P : Fl → S → Prop) : Prop := ∃ f s, o = some (f, s) ∧ noX f = true ∧ P f s
def wpA (o : Option RD) (P : D → Prop) : Prop := ∃ d, o = some (.ok d) ∧ P d
@[simp] theorem w_ok {α : Type} (v : α) (M : List O) (P : α → List O → Prop) : wpB (some (.ok v M)) P ↔ P v M := ⟨fun ⟨_, _, e, h⟩ => by cases e; exact h, fun h => ⟨_, _, rfl, h⟩⟩
@[simp] theorem w_no {α : Type} (P : α → List O → Prop) : wpB none P ↔ False := ⟨fun ⟨_, _, e, h⟩ => (by cases e), fun h => False.elim h⟩
@[simp] theorem w_bnd {α γ : Type} (m : Mi α) (k : α → Mi γ) (s : S) (P : γ → List O → Prop) : wpB (bnd m k s) P ↔ wpB (m s) fun v M => wpB (k v ⟨s.l, M⟩) P := by
  constructor
  · rintro ⟨v, M, e, h⟩
    unfold bnd at e
    cases q : m s with
    | none => rw [q] at e; cases e
    | some r =>
      rw [q] at e
      cases r with
      | ok a M1 => exact ⟨a, M1, rfl, v, M, e, h⟩
      | ex c f M1 => cases e
  · rintro ⟨a, M1, e, v, M, e2, h⟩
    exact ⟨v, M, by unfold bnd; rw [e]; exact e2, h⟩
@[simp] theorem w_sok (f : Fl) (s : S) (P : Fl → S → Prop) : wpS (some (f, s)) P ↔ noX f = true ∧ P f s := ⟨fun ⟨_, _, e, h⟩ => by cases e; exact h, fun h => ⟨_, _, rfl, h⟩⟩
@[simp] theorem w_sno (P : Fl → S → Prop) : wpS none P ↔ False := ⟨fun ⟨_, _, e, h⟩ => (by cases e), fun h => False.elim h⟩
@[simp] theorem noX1 : noX .nx = true := rfl
@[simp] theorem noX2 (v : DV) : noX (.rt v) = true := rfl
@[simp] theorem noX3 : noX .bk = true := rfl
@[simp] theorem noX4 : noX .ct = true := rfl
/-- what follows a statement -/
def andS (b : SM) (P : Fl → S → Prop) : Fl → S → Prop
  | .nx, s => wpS (b s) P
  | f, s => P f s
@[simp] theorem w_andN (b : SM) (P : Fl → S → Prop) (s : S) : andS b P .nx s = wpS (b s) P := rfl
@[simp] theorem w_andR (b : SM) (P : Fl → S → Prop) (v : DV) (s : S) : andS b P (.rt v) s = P (.rt v) s := rfl
@[simp] theorem w_seq (a b : SM) (s : S) (P : Fl → S → Prop) : wpS (sSeq a b s) P ↔ wpS (a s) (andS b P) := by
  constructor
  · rintro ⟨f, s', e, n, h⟩
    unfold sSeq at e
    cases q : a s with
    | none => rw [q] at e; cases e
    | some r =>
      rw [q] at e
      obtain ⟨f1, s1⟩ := r
      refine ⟨f1, s1, rfl, ?_⟩
      cases f1 with
      | nx => exact ⟨rfl, f, s', e, n, h⟩
      | _ => cases e; exact ⟨n, h⟩
  · rintro ⟨f1, s1, e, n, h⟩
    cases f1 with
    | nx =>
      obtain ⟨f, s', e2, n, h⟩ := h
      exact ⟨f, s', by unfold sSeq; rw [e]; exact e2, n, h⟩
    | _ => exact ⟨_, s1, by unfold sSeq; rw [e], n, h⟩
@[simp] theorem w_lift {α : Type} (m : Mi α) (k : α → SM) (s : S) (P : Fl → S → Prop) : wpS (liftS m k s) P ↔ wpB (m s) fun v M => wpS (k v ⟨s.l, M⟩) P := by
  constructor
  · rintro ⟨f, s', e, n, h⟩
    unfold liftS at e
    cases q : m s with
    | none => rw [q] at e; cases e
    | some r =>
      rw [q] at e
      cases r with
      | ok a M1 => exact ⟨a, M1, rfl, f, s', e, n, h⟩
      | ex c f M1 => cases e; cases n
  · rintro ⟨a, M1, e, f, s', e2, n, h⟩
    exact ⟨f, s', by unfold liftS; rw [e]; exact e2, n, h⟩
def endB (k : Nat) (P : DV → List O → Prop) : Fl → S → Prop
  | .nx, s => P (.p .non) (dropM k (.p .non) s.m)
  | .rt d, s => P d (dropM k d s.m)
  | _, _ => False
@[simp] theorem w_endBn (k : Nat) (P : DV → List O → Prop) (s : S) : endB k P .nx s = P (.p .non) (dropM k (.p .non) s.m) := rfl
@[simp] theorem w_endBr (k : Nat) (P : DV → List O → Prop) (d : DV) (s : S) : endB k P (.rt d) s = P d (dropM k d s.m) := rfl
@[simp] theorem w_runB (n : Nat) (m : SM) (ds : List DV) (M : List O) (P : DV → List O → Prop) : wpB (runB n m ds M) P ↔ wpS (m ⟨slotsOf n ds, M⟩) (endB M.length P) := by
  constructor
  · rintro ⟨v, M1, e, h⟩
    rw [e_runB] at e
    cases q : m ⟨slotsOf n ds, M⟩ with
    | none => rw [q] at e; cases e
    | some r =>
      rw [q] at e
      obtain ⟨f1, s1⟩ := r
      cases f1 with
      | nx => cases e; exact ⟨_, _, rfl, rfl, h⟩
      | rt d => cases e; exact ⟨_, _, rfl, rfl, h⟩
      | _ => cases e
  · rintro ⟨f1, s1, e, n, h⟩
    cases f1 with
    | nx => exact ⟨_, _, by rw [e_runB, e], h⟩
    | rt d => exact ⟨_, _, by rw [e_runB, e], h⟩
    | _ => exact False.elim h
def endA (P : D → Prop) : Fl → S → Prop
  | .nx, s => P .non
  | .rt (.p d), s => P d
  | _, _ => False
@[simp] theorem w_endAn (P : D → Prop) (s : S) : endA P .nx s = P .non := rfl
@[simp] theorem w_endAr (P : D → Prop) (d : D) (s : S) : endA P (.rt (.p d)) s = P d := rfl
@[simp] theorem w_runA (n : Nat) (m : SM) (ds : List D) (P : D → Prop) : wpA (runA n m ds) P ↔ wpS (m ⟨slotsOf n (ds.map .p), []⟩) (endA P) := by
  constructor
  · rintro ⟨v, e, h⟩
    rw [e_runA] at e
    cases q : m ⟨slotsOf n (ds.map .p), []⟩ with
    | none => rw [q] at e; cases e
    | some r =>
      rw [q] at e
      obtain ⟨f1, s1⟩ := r
      cases f1 with
      | nx => cases e; exact ⟨_, _, rfl, rfl, h⟩
      | rt d =>
        cases d with
        | p d => cases e; exact ⟨_, _, rfl, rfl, h⟩
        | o n => cases e
      | _ => cases e
  · rintro ⟨f1, s1, e, n, h⟩
    cases f1 with
    | nx => exact ⟨_, by rw [e_runA, e], h⟩
    | rt d =>
      cases d with
      | p d => exact ⟨_, by rw [e_runA, e], h⟩
      | o n => exact False.elim h
    | _ => exact False.elim h
@[simp] theorem w_ifM {γ : Type} (n k : Mi γ) (b : Bool) (s : S) (P : γ → List O → Prop) : wpB (ifM n k (.p (.bl b)) s) P ↔ (b = true → wpB (n s) P) ∧ (b = false → wpB (k s) P) := by
  cases b
  · exact ⟨fun h => ⟨fun q => (by cases q), fun _ => h⟩, fun h => h.2 rfl⟩
  · exact ⟨fun h => ⟨fun _ => h, fun q => (by cases q)⟩, fun h => h.1 rfl⟩
@[simp] theorem w_ifS (n k : SM) (b : Bool) (s : S) (P : Fl → S → Prop) : wpS (ifS n k (.p (.bl b)) s) P ↔ (b = true → wpS (n s) P) ∧ (b = false → wpS (k s) P) := by
  cases b
  · exact ⟨fun h => ⟨fun q => (by cases q), fun _ => h⟩, fun h => h.2 rfl⟩
  · exact ⟨fun h => ⟨fun _ => h, fun q => (by cases q)⟩, fun h => h.1 rfl⟩
@[simp] theorem w_okA (d : D) (P : D → Prop) : wpA (some (.ok d)) P ↔ P d := ⟨fun ⟨_, e, h⟩ => by cases e; exact h, fun h => ⟨_, rfl, h⟩⟩
theorem wpB.imp {α : Type} {o : Option (Rs α)} {P Q : α → List O → Prop} (h : wpB o P) (k : ∀ v M, P v M → Q v M) : wpB o Q := by
  obtain ⟨v, M, e, p⟩ := h
  exact ⟨v, M, e, k v M p⟩
theorem wpA.imp {o : Option RD} {P Q : D → Prop} (h : wpA o P) (k : ∀ v, P v → Q v) : wpA o Q := by
  obtain ⟨v, e, p⟩ := h
  exact ⟨v, e, k v p⟩
theorem wpA.eq {o : Option RD} {d : D} (h : wpA o (· = d)) : o = some (.ok d) := by
  obtain ⟨v, e, p⟩ := h
  rw [e, p]
/-- a drawn number -/
theorem wp_take {n : Nat} {sv : DV} {M : List O} {most : Int} {P : DV → List O → Prop} (h : Dr n sv M) (hm : most < 18446744073709551616) (k : ∀ r M', Dr n sv M' → (most < 1 → r = 0) → (1 ≤ most → 0 ≤ r ∧ r < most) → P (.p (.int r)) M') : wpB (takeM [sv, .p (.int most)] M) P := by
  obtain ⟨r, M', e, d, b0, b⟩ := take_spec h most hm
  exact ⟨_, _, e, k r M' d b0 b⟩
end DL
namespace DL
open PySem L2
/-! texts that are written; comparing tuples -/
theorem char_inj {a b : Char} (h : a.toNat = b.toNat) : a = b := Char.toNat_inj.mp h
theorem map_toNat_inj : ∀ {a b : List Char}, a.map Char.toNat = b.map Char.toNat → a = b
  | [], [], _ => rfl
  | [], _ :: _, h => by cases h
  | _ :: _, [], h => by cases h
  | x :: a, y :: b, h => by
    injection h with h1 h2
    rw [char_inj h1, map_toNat_inj h2]
@[simp] theorem ofString_inj (a b : String) : (Str.ofString a = Str.ofString b) ↔ a = b := by
  constructor
  · intro h
    rw [Str.ofString_eq_toList, Str.ofString_eq_toList] at h
    injection h with h
    have h2 := congrArg Array.toList h
    exact String.toList_inj.mp (map_toNat_inj h2)
  · intro h; rw [h]
@[simp] theorem strOk_of (s : String) : PyData.strOk (Str.ofString s) = true := by
  rw [Str.ofString_eq_toList]
  unfold PyData.strOk
  rw [Array.all_eq_true]
  intro i hi
  simp
  have h := (s.toList[i]'(by simpa using hi)).valid
  rcases h with h | h
  · exact Nat.lt_of_lt_of_le h (by decide)
  · exact h.2
@[simp] theorem e_okN : okD .non = true := rfl
@[simp] theorem e_okI (i : Int) : okD (.int i) = true := rfl
@[simp] theorem e_okB (i : Bool) : okD (.bl i) = true := rfl
@[simp] theorem e_okS (i : Str) : okD (.str i) = PyData.strOk i := rfl
@[simp] theorem e_okL (i : List D) : okD (.lst i) = okDs i := rfl
@[simp] theorem e_okT (i : List D) : okD (.tup i) = okDs i := rfl
@[simp] theorem e_ok0 : okDs [] = true := rfl
@[simp] theorem e_ok1 (x : D) (r : List D) : okDs (x :: r) = (okD x && okDs r) := rfl
@[simp] theorem e_dpN : depD .non = 0 := rfl
@[simp] theorem e_dpI (i : Int) : depD (.int i) = 0 := rfl
@[simp] theorem e_dpB (i : Bool) : depD (.bl i) = 0 := rfl
@[simp] theorem e_dpS (i : Str) : depD (.str i) = 0 := rfl
@[simp] theorem e_dpL (i : List D) : depD (.lst i) = depDs i + 1 := rfl
@[simp] theorem e_dpT (i : List D) : depD (.tup i) = depDs i + 1 := rfl
@[simp] theorem e_dp0 : depDs [] = 0 := rfl
@[simp] theorem e_dp1 (x : D) (r : List D) : depDs (x :: r) = max (depD x) (depDs r) := rfl
@[simp] theorem e_shp (d : D) : shp d = (okD d && decide (depD d ≤ 64)) := rfl
@[simp] theorem e_eqTT (xs ys : List D) : eqD (.tup xs) (.tup ys) = if (shp (.tup xs) && shp (.tup ys)) = true then some (deqs xs ys) else none := rfl
@[simp] theorem e_eqLL (xs ys : List D) : eqD (.lst xs) (.lst ys) = if (shp (.lst xs) && shp (.lst ys)) = true then some (deqs xs ys) else none := rfl
@[simp] theorem e_eqTN (xs : List D) : eqD (.tup xs) .non = if (shp (.tup xs) && shp .non) = true then some false else none := rfl
@[simp] theorem e_eqNT (xs : List D) : eqD .non (.tup xs) = if (shp .non && shp (.tup xs)) = true then some false else none := rfl
@[simp] theorem e_deqII (i j : Int) : deq (.int i) (.int j) = decide (i = j) := by show (i == j) = _; rw [Bool.beq_eq_decide_eq]
@[simp] theorem e_deqSS (i j : Str) : deq (.str i) (.str j) = decide (i = j) := by
  show (i == j) = _
  by_cases h : i = j <;> simp [h]
@[simp] theorem e_deqBB (i j : Bool) : deq (.bl i) (.bl j) = decide (i = j) := by show (i == j) = _; rw [Bool.beq_eq_decide_eq]
@[simp] theorem e_deqNN : deq .non .non = true := rfl
@[simp] theorem e_deqTT (i j : List D) : deq (.tup i) (.tup j) = deqs i j := rfl
@[simp] theorem e_deqLL (i j : List D) : deq (.lst i) (.lst j) = deqs i j := rfl
@[simp] theorem e_deqIS (i : Int) (j : Str) : deq (.int i) (.str j) = false := rfl
@[simp] theorem e_deqSI (i : Int) (j : Str) : deq (.str j) (.int i) = false := rfl
@[simp] theorem e_deqNI (i : Int) : deq .non (.int i) = false := rfl
@[simp] theorem e_deqIN (i : Int) : deq (.int i) .non = false := rfl
@[simp] theorem e_deqNS (i : Str) : deq .non (.str i) = false := rfl
@[simp] theorem e_deqSN (i : Str) : deq (.str i) .non = false := rfl
@[simp] theorem e_deqNT (i : List D) : deq .non (.tup i) = false := rfl
@[simp] theorem e_deqTN (i : List D) : deq (.tup i) .non = false := rfl
@[simp] theorem e_deqs0 : deqs [] [] = true := rfl
@[simp] theorem e_deqs1 (x y : D) (xs ys : List D) : deqs (x :: xs) (y :: ys) = (deq x y && deqs xs ys) := rfl
@[simp] theorem e_deqs2 (x : D) (xs : List D) : deqs (x :: xs) [] = false := rfl
@[simp] theorem e_deqs3 (x : D) (xs : List D) : deqs [] (x :: xs) = false := rfl
@[simp] theorem e_isi (M : List O) (d : D) (n : String) : dIsi M [.p d, .p (.ty n)] = (match tyName d with | some t => (kitB t n).map .bl | none => none) := rfl
@[simp] theorem e_tyT (xs : List D) : tyName (.tup xs) = some "tuple" := rfl
@[simp] theorem kit_tt : kitB "tuple" "tuple" = some true := by decide +kernel
@[simp] theorem at0 {α : Type} (x : α) (xs : List α) : atI (x :: xs) 0 = some x := atI0 x xs
@[simp] theorem at1 {α : Type} (x y : α) (xs : List α) : atI (x :: y :: xs) 1 = some y := atI1 x y xs
end DL
namespace DL
open PySem L2
section
variable {K : PySem.W.Frag} {X : Cx} {W : WX} {e a b c : Expr} {es : List Expr} {pos : Pos}
/-! ### built-in calls on texts -/
def dStr : D → Option D
  | .int i => if i.natAbs.log2 < 1920 then some (.str (Str.ofString (toString i))) else none
  | .str x => some (.str x)
  | _ => none
theorem cd_str : CallD K X (.type "str") (fun xs H Q => (∃ i : Int, xs = [.int i] ∧ i.natAbs.log2 < 1920 ∧ Q (.str (toString i)) H) ∨ ∃ a, xs = [.str a] ∧ Q (.str a) H) (g1 dStr) := ⟨fun _ pins s σ H vs us Q I r h => by
    rcases h with h | h
    · exact call_str_int pins s σ H vs us Q I r h
    · exact SkE.call_str_str pins s σ H vs us Q I r h, g1_ok fun x d c Z H Q s hx hg p => by
  unfold dStr at hg
  split at hg
  · split at hg
    · rename_i hl
      cases hx; cases hg; exact .inl ⟨_, rfl, hl, p _ Z H (ExtP.refl s) (.str _)⟩
    · cases hg
  · cases hx; cases hg; exact .inr ⟨_, rfl, p _ Z H (ExtP.refl s) (.str _)⟩
  · cases hg⟩
def dIntS : D → Option D
  | .str x => if x.length ≤ 640 then (PySem.intText? x).map .int else none
  | _ => none
theorem cd_intS : CallD K X (.type "int") (fun xs H Q => ∃ a n, xs = [.str a] ∧ PySem.intText? a = some n ∧ a.length ≤ 640 ∧ Q (.int n) H) (g1 dIntS) := ⟨fun _ => call_int_str, g1_ok fun x d c Z H Q s hx hg p => by
  unfold dIntS at hg
  split at hg
  · rename_i y
    split at hg
    · rename_i hl
      cases q : PySem.intText? y with
      | none => rw [q] at hg; cases hg
      | some n => rw [q] at hg; cases hg; cases hx; exact ⟨_, _, rfl, q, hl, p _ Z H (ExtP.refl s) (.int _)⟩
    · cases hg
  · cases hg⟩
def allBl : List D → Option (List Bool)
  | [] => some []
  | .bl b :: r => (allBl r).map (b :: ·)
  | _ :: _ => none
theorem allBl_rep {Z : Hp} : ∀ {vs : List V} {ds : List D} {bs : List Bool}, RepA K Z vs ds → allBl ds = some bs → vs = bs.map V.bl
  | _, _, _, .nil, e => by cases e; rfl
  | _, _, _, .cons (d := d) (ds := ds) h r, e => by
    cases h with
    | bl b =>
      have e : (allBl ds).map (b :: ·) = some _ := e
      cases q : allBl ds with
      | none => rw [q] at e; cases e
      | some bs => rw [q] at e; cases e; rw [allBl_rep r q]; rfl
    | _ => cases e
def dAll : D → Option D
  | .lst ds => (allBl ds).map fun bs => .bl (bs.all id)
  | _ => none
def dAny : D → Option D
  | .lst ds => (allBl ds).map fun bs => .bl (bs.any id)
  | _ => none
theorem cd_all (hc : X.calm = true) : CallD K X (.builtin "all") (rAll K) (g1 dAll) := ⟨fun k => by rw [← k]; exact cr_all hc, g1_ok fun x d c Z H Q s hx hg p => by
  unfold dAll at hg
  split at hg
  · rename_i ds
    cases q : allBl ds with
    | none => rw [q] at hg; cases hg
    | some bs =>
      rw [q] at hg; cases hg
      cases hx with
      | lst h1 h2 => exact ⟨_, bs, rfl, by rw [← allBl_rep h2 q]; exact .inl (same_rd s h1), p _ Z H (ExtP.refl s) (.bl _)⟩
  · cases hg⟩
theorem cd_any (hc : X.calm = true) : CallD K X (.builtin "any") (rAny K) (g1 dAny) := ⟨fun k => by rw [← k]; exact cr_any hc, g1_ok fun x d c Z H Q s hx hg p => by
  unfold dAny at hg
  split at hg
  · rename_i ds
    cases q : allBl ds with
    | none => rw [q] at hg; cases hg
    | some bs =>
      rw [q] at hg; cases hg
      cases hx with
      | lst h1 h2 => exact ⟨_, bs, rfl, by rw [← allBl_rep h2 q]; exact .inl (same_rd s h1), p _ Z H (ExtP.refl s) (.bl _)⟩
  · cases hg⟩
def dMax2 : List O → List DV → Option D
  | _, [.p (.int i), .p (.int j)] => some (.int (if j > i then j else i))
  | _, _ => none
def dMin2 : List O → List DV → Option D
  | _, [.p (.int i), .p (.int j)] => some (.int (if j < i then j else i))
  | _, _ => none
theorem cd_max2 (hc : X.calm = true) : CallD K X (.builtin "max") (fun xs H Q => ∃ i j, xs = [.int i, .int j] ∧ Q (.int (if j > i then j else i)) H) dMax2 := ⟨fun _ => call_max2 hc, fun vs ds c Z H I M Q w rv hg p => by
  unfold dMax2 at hg
  split at hg
  · cases rv with
    | cons h1 h2 =>
    cases h2 with
    | cons h2 h3 =>
    cases h3; cases h1; cases h2; cases hg
    exact ⟨_, _, rfl, p _ Z H (ExtP.refl w.sub) (.int _)⟩
  · cases hg⟩
theorem cd_min2 (hc : X.calm = true) : CallD K X (.builtin "min") (fun xs H Q => ∃ i j, xs = [.int i, .int j] ∧ Q (.int (if j < i then j else i)) H) dMin2 := ⟨fun _ => call_min2 hc, fun vs ds c Z H I M Q w rv hg p => by
  unfold dMin2 at hg
  split at hg
  · cases rv with
    | cons h1 h2 =>
    cases h2 with
    | cons h2 h3 =>
    cases h3; cases h1; cases h2; cases hg
    exact ⟨_, _, rfl, p _ Z H (ExtP.refl w.sub) (.int _)⟩
  · cases hg⟩
/-! ### in, not in -/
theorem units65 {k : Nat} {A : Around} (r : Room k A) : A.units + 65 < cLine := by have := r.un; omega
def inS (i j : Str) : Bool := !(Builtin.Str.occurrences j i 0 j.length 1).isEmpty
def inD : D → D → Option Bool
  | .str i, .str j => some (inS i j)
  | d, .lst ds => if (shp d && shp (.lst ds)) = true then some (ds.any fun z => deq z d) else none
  | _, _ => none
def dIn (d e : D) : Option D := (inD d e).map .bl
def dNin (d e : D) : Option D := (inD d e).map fun b => .bl !b
theorem bool_dIn : boolD dIn := fun d e c h => boolMap (f := id) h
theorem bool_dNin : boolD dNin := fun d e c h => boolMap h
theorem any_eqv (d : D) : ∀ ds : List D, ((toPs ds).any fun z => PyData.eqv z (toP d)) = ds.any fun z => deq z d
  | [] => rfl
  | x :: xs => by
    show (PyData.eqv (toP x) (toP d) || _) = (deq x d || _)
    rw [deq_eqv x d]
    exact congrArg _ (any_eqv d xs)
theorem in_cases {d e : D} {b : Bool} (h : inD d e = some b) : (∃ i j, d = .str i ∧ e = .str j ∧ b = inS i j) ∨ ∃ ds, e = .lst ds ∧ shp d = true ∧ shp (.lst ds) = true ∧ b = ds.any fun z => deq z d := by
  unfold inD at h
  split at h
  · cases h; exact .inl ⟨_, _, rfl, rfl, rfl⟩
  · split at h
    · rename_i hs
      cases h
      rw [Bool.and_eq_true] at hs
      exact .inr ⟨_, rfl, hs.1, hs.2, rfl⟩
    · cases h
  · cases h
theorem od_in (hu : X.A.units + 65 < cLine) : OpD K X (compareOp .In) (fun x y H Q => (∃ i j, x = .str i ∧ y = .str j ∧ Q (.bl (!(Builtin.Str.occurrences j i 0 j.length 1).isEmpty)) H) ∨ rInD K x y H Q) dIn where
  op := fun k pins s σ H x y v u Q I rx ry h => by
    subst k
    rcases h with h | h
    · exact op_in_str pins s σ H x y v u Q I rx ry h
    · exact op_inD hu pins s σ H x y v u Q I rx ry h
  ok := by
    intro x y d e c Z H Q s hx hy hg p
    unfold dIn at hg
    cases z : inD d e with
    | none => rw [z] at hg; cases hg
    | some b =>
      rw [z] at hg; cases hg
      rcases in_cases z with ⟨i, j, rfl, rfl, rfl⟩ | ⟨ds, rfl, h1, h2, rfl⟩
      · cases hx; cases hy
        exact .inl ⟨_, _, rfl, rfl, p _ Z H (ExtP.refl s) (.bl _)⟩
      · exact .inr ⟨_, _, hx.dp s (shaped_can h1), hy.dp s (shaped_can h2), shp_ok h1, shp_ok h2, by rw [any_eqv]; exact p _ Z H (ExtP.refl s) (.bl _)⟩
theorem od_nin (hu : X.A.units + 65 < cLine) : OpD K X (compareOp .NotIn) (fun x y H Q => (∃ i j, x = .str i ∧ y = .str j ∧ Q (.bl (!(!(Builtin.Str.occurrences j i 0 j.length 1).isEmpty))) H) ∨ rNotInD K x y H Q) dNin where
  op := fun k pins s σ H x y v u Q I rx ry h => by
    subst k
    rcases h with h | h
    · exact op_notin_str pins s σ H x y v u Q I rx ry h
    · exact op_notInD hu pins s σ H x y v u Q I rx ry h
  ok := by
    intro x y d e c Z H Q s hx hy hg p
    unfold dNin at hg
    cases z : inD d e with
    | none => rw [z] at hg; cases hg
    | some b =>
      rw [z] at hg; cases hg
      rcases in_cases z with ⟨i, j, rfl, rfl, rfl⟩ | ⟨ds, rfl, h1, h2, rfl⟩
      · cases hx; cases hy
        exact .inl ⟨_, _, rfl, rfl, p _ Z H (ExtP.refl s) (.bl _)⟩
      · exact .inr ⟨_, _, hx.dp s (shaped_can h1), hy.dp s (shaped_can h2), shp_ok h1, shp_ok h2, by rw [any_eqv]; exact p _ Z H (ExtP.refl s) (.bl _)⟩
/-! ### a text times an int -/
def repS (x : Str) (n : Int) : Str := if n < 1 then Str.empty else if (n == 1 || x.length == 0) = true then x else ⟨(List.replicate n.toNat x.cps).foldl (· ++ ·) #[]⟩
def dMulS : D → D → Option D
  | .str x, .int n => if x.length = 1 ∧ -1000 ≤ n ∧ n ≤ 1000 then some (.str (repS x n)) else none
  | _, _ => none
theorem foldl_size (x : Array Nat) : ∀ (n : Nat) (acc : Array Nat), ((List.replicate n x).foldl (· ++ ·) acc).size = acc.size + n * x.size
  | 0, acc => by simp
  | n + 1, acc => by
    rw [List.replicate_succ, List.foldl_cons, foldl_size x n, Array.size_append, Nat.succ_mul]; omega
theorem od_mulS : OpD K X (binaryOp .Mult) (fun x y H Q => ∃ (z : Str) (n : Int), x = .str z ∧ y = .int n ∧ z.length = 1 ∧ -1000 ≤ n ∧ n ≤ 1000 ∧ Q (.str (repS z n)) H) dMulS where
  op := fun _ pins s σ H x y v u Q I rx ry h => by
    obtain ⟨z, n, rfl, rfl, hl, h1, h2, q⟩ := h
    obtain ⟨t, rfl⟩ := rx
    obtain ⟨t', rfl⟩ := ry
    refine PySem.P.mul_str ?_ ?_ ?_ ?_
    · have a1 : ¬ n < -(2 ^ 63 : Int) := by omega
      have a2 : ¬ n ≥ 2 ^ 63 := by omega
      rw [decide_eq_false a1, decide_eq_false a2]; rfl
    · intro a1 a2 a3
      rw [hl] at a3
      have b1 : (1 : Int) * n ≤ 2 ^ 63 - 1 := by omega
      have b2 := (Int.le_ediv_iff_mul_le (a := 1) (b := (2 ^ 63 - 1 : Int)) (by omega : 0 < n)).mpr b1
      exact absurd a3 (by show ¬ ((1 : Nat) : Int) > _; omega)
    · intro a1 a2
      rw [hl, Nat.one_mul]
      unfold PySem.Builtin.Str.tooLong
      exact decide_eq_false (by have : n.toNat ≤ 1000 := by omega
                                have : (1000 : Nat) ≤ sizeLine := by decide
                                omega)
    · unfold repS at q
      by_cases c1 : n < 1
      · rw [if_pos c1] at q ⊢
        exact ⟨by decide, .str _, H, I.tok _, ⟨_, rfl⟩, q⟩
      · rw [if_neg c1] at q ⊢
        split
        · rename_i c2; rw [if_pos c2] at q; exact ⟨.str _, H, I, ⟨_, rfl⟩, q⟩
        · rename_i c2; rw [if_neg c2] at q
          refine ⟨?_, .str _, H, I.tok _, ⟨_, rfl⟩, q⟩
          show Array.size _ ≤ _
          rw [foldl_size]
          have e1 : z.cps.size = 1 := hl
          have : (1000 : Nat) ≤ sizeLine := by decide
          rw [e1]; simp; omega
  ok := by
    intro x y d e c Z H Q s hx hy hg p
    unfold dMulS at hg
    split at hg
    · split at hg
      · rename_i hl
        cases hx; cases hy; cases hg
        exact ⟨_, _, rfl, rfl, hl.1, hl.2.1, hl.2.2, p _ Z H (ExtP.refl s) (.str _)⟩
      · cases hg
    · cases hg
/-! ### methods of texts -/
def dZfill : D → List D → Option D
  | .str x, [.int i] => if PadOk i = true then some (.str (Txt.zfill x i)) else none
  | _, _ => none
theorem repA1 {Z : Hp} {vs : List V} {d : D} (h : RepA K Z vs [d]) : ∃ v, vs = [v] ∧ Rep K Z v d := by
  cases h with
  | cons h1 h2 => cases h2; exact ⟨_, rfl, h1⟩
theorem repA2 {Z : Hp} {vs : List V} {d e : D} (h : RepA K Z vs [d, e]) : ∃ v u, vs = [v, u] ∧ Rep K Z v d ∧ Rep K Z u e := by
  cases h with
  | cons h1 h2 =>
    obtain ⟨u, rfl, h3⟩ := repA1 h2
    exact ⟨_, _, rfl, h1, h3⟩
theorem md_zfill : MthD K X "str.zfill" (fun x xs H Q => ∃ (a : Str) (i : Int), x = .str a ∧ xs = [.int i] ∧ PadOk i = true ∧ Q (.str (Txt.zfill a i)) H) (gP dZfill) := ⟨fun _ => mt_zfill, gP_ok fun x d vs ds c Z H Q s hx hv hg p => by
  unfold dZfill at hg
  split at hg
  · split at hg
    · rename_i hp
      obtain ⟨v, rfl, h1⟩ := repA1 hv
      cases hx; cases h1; cases hg
      exact ⟨_, _, rfl, rfl, hp, p _ Z H (ExtP.refl s) (.str _)⟩
    · cases hg
  · cases hg⟩
def dRstrip : D → List D → Option D
  | .str x, [.str y] => if x.length ≤ 1000000 then some (.str (Txt.rstripChars x y)) else none
  | _, _ => none
theorem md_rstrip : MthD K X "str.rstrip" (fun x xs H Q => ∃ a b, x = .str a ∧ xs = [.str b] ∧ a.length ≤ sizeLine ∧ Q (.str (Txt.rstripChars a b)) H) (gP dRstrip) := ⟨fun _ => mt_rstripChars, gP_ok fun x d vs ds c Z H Q s hx hv hg p => by
  unfold dRstrip at hg
  split at hg
  · split at hg
    · rename_i hp
      obtain ⟨v, rfl, h1⟩ := repA1 hv
      cases hx; cases h1; cases hg
      exact ⟨_, _, rfl, rfl, size_le hp, p _ Z H (ExtP.refl s) (.str _)⟩
    · cases hg
  · cases hg⟩
def dRmpre : D → List D → Option D
  | .str x, [.str y] => if x.length ≤ 1000000 then some (.str (Txt.removeprefix x y)) else none
  | _, _ => none
theorem md_rmpre : MthD K X "str.removeprefix" (fun x xs H Q => ∃ a b, x = .str a ∧ xs = [.str b] ∧ a.length ≤ sizeLine ∧ Q (.str (Txt.removeprefix a b)) H) (gP dRmpre) := ⟨fun _ => mt_removeprefix, gP_ok fun x d vs ds c Z H Q s hx hv hg p => by
  unfold dRmpre at hg
  split at hg
  · split at hg
    · rename_i hp
      obtain ⟨v, rfl, h1⟩ := repA1 hv
      cases hx; cases h1; cases hg
      exact ⟨_, _, rfl, rfl, size_le hp, p _ Z H (ExtP.refl s) (.str _)⟩
    · cases hg
  · cases hg⟩
def dPart : D → List D → Option D
  | .str x, [.str y] => if (y.length == 0) = false ∧ x.length ≤ 1000000 then some (.tup [.str (Txt.partition x y).1, .str (Txt.partition x y).2.1, .str (Txt.partition x y).2.2]) else none
  | _, _ => none
theorem md_part : MthD K X "str.partition" (fun x xs H Q => ∃ a b, x = .str a ∧ xs = [.str b] ∧ (b.length == 0) = false ∧ a.length ≤ sizeLine ∧
    ∀ p, H p = none → Q (.ref p) (upd H p (.tup [.str (Txt.partition a b).1, .str (Txt.partition a b).2.1, .str (Txt.partition a b).2.2]))) (gP dPart) := ⟨fun _ => mt_partition, gP_ok fun x d vs ds c Z H Q s hx hv hg p => by
  unfold dPart at hg
  split at hg
  · split at hg
    · rename_i hp
      obtain ⟨v, rfl, h1⟩ := repA1 hv
      cases hx; cases h1; cases hg
      exact ⟨_, _, rfl, rfl, hp.1, size_le hp.2, fun l hl => p _ _ _ (ExtP.new s hl) (.tup upd_same (.cons (.str _) (.cons (.str _) (.cons (.str _) .nil))))⟩
    · cases hg
  · cases hg⟩
theorem repA_strs {Z : Hp} : ∀ ys : List Str, RepA K Z (ys.map V.str) (ys.map D.str)
  | [] => .nil
  | y :: ys => .cons (.str y) (repA_strs ys)
def dSplit : D → List D → Option D
  | .str x, [.str y] => if (y.length == 0) = false ∧ x.length ≤ 1000000 then some (.lst ((Txt.split x y).map .str)) else none
  | _, _ => none
theorem md_split : MthD K X "str.split" (fun x xs H Q => ∃ a b, x = .str a ∧ xs = [.str b] ∧ (b.length == 0) = false ∧ a.length + 2 ≤ sizeLine ∧ rNewStrs (Txt.split a b) H Q) (gP dSplit) := ⟨fun _ => mt_split, gP_ok fun x d vs ds c Z H Q s hx hv hg p => by
  unfold dSplit at hg
  split at hg
  · split at hg
    · rename_i hp
      obtain ⟨v, rfl, h1⟩ := repA1 hv
      cases hx; cases h1; cases hg
      refine ⟨_, _, rfl, rfl, hp.1, ?_, fun l hl => p _ _ _ (ExtP.new s hl) (.lst (.inl upd_same) (repA_strs _))⟩
      have : (1000002 : Nat) ≤ sizeLine := by decide
      omega
    · cases hg
  · cases hg⟩
def allS : List D → Option (List Str)
  | [] => some []
  | .str x :: r => (allS r).map (x :: ·)
  | _ :: _ => none
theorem allS_rep {Z : Hp} : ∀ {vs : List V} {ds : List D} {bs : List Str}, RepA K Z vs ds → allS ds = some bs → vs = bs.map V.str
  | _, _, _, .nil, e => by cases e; rfl
  | _, _, _, .cons (d := d) (ds := ds) h r, e => by
    cases h with
    | str b =>
      have e : (allS ds).map (b :: ·) = some _ := e
      cases q : allS ds with
      | none => rw [q] at e; cases e
      | some bs => rw [q] at e; cases e; rw [allS_rep r q]; rfl
    | _ => cases e
def dJoin : D → List D → Option D
  | .str a, [.lst ds] => match allS ds with
    | some ys => if (ys.map (·.length)).sum + ys.length * a.length ≤ 16777216 then some (.str (Txt.join a ys)) else none
    | none => none
  | _, _ => none
theorem md_join : MthD K X "str.join" (fun x xs H Q => ∃ a p, ∃ ys : List Str, x = .str a ∧ xs = [.ref p] ∧ (SqL K H p (ys.map V.str) ∨ SqT K H p (ys.map V.str)) ∧
    (ys.map (·.length)).sum + ys.length * a.length ≤ 16777216 ∧ Q (.str (Txt.join a ys)) H) (gP dJoin) := ⟨fun k => by rw [← k]; exact mt_join, gP_ok fun x d vs ds c Z H Q s hx hv hg p => by
  unfold dJoin at hg
  split at hg
  · rename_i ds'
    cases q : allS ds' with
    | none => rw [q] at hg; cases hg
    | some ys =>
      rw [q] at hg
      simp only at hg
      split at hg
      · rename_i hp
        obtain ⟨v, rfl, h1⟩ := repA1 hv
        cases hx; cases hg
        cases h1 with
        | lst h1 h2 => exact ⟨_, _, ys, rfl, rfl, .inl (by rw [← allS_rep h2 q]; exact .inl (same_rd s h1)), hp, p _ Z H (ExtP.refl s) (.str _)⟩
      · cases hg
  · cases hg⟩
def dLjust : D → List D → Option D
  | .str x, [.int i, .str f] => if PadOk i = true ∧ f.length = 1 then some (.str (Txt.ljustF x i (f.cps.getD 0 0))) else none
  | _, _ => none
theorem md_ljust : MthD K X "str.ljust" (fun x xs H Q => ∃ (a : Str) (i : Int) (f : Str), x = .str a ∧ xs = [.int i, .str f] ∧ PadOk i = true ∧ f.length = 1 ∧ Q (.str (Txt.ljustF a i (f.cps.getD 0 0))) H) (gP dLjust) := ⟨fun _ pins s σ H x xs v us Q I rx rs h => by
    obtain ⟨a, i, f, rfl, rfl, hp, hf, q⟩ := h
    obtain ⟨t, rfl⟩ := rx
    cases rs with
    | cons r1 rs =>
    cases rs with
    | cons r2 rs =>
    cases rs
    obtain ⟨u, rfl⟩ := r1
    obtain ⟨z, rfl⟩ := r2
    exact PyProof.Rows.ljust_fill hp hf fun t' k => ⟨.str _, H, I.tok k, ⟨_, rfl⟩, q⟩, gP_ok fun x d vs ds c Z H Q s hx hv hg p => by
  unfold dLjust at hg
  split at hg
  · split at hg
    · rename_i hp
      obtain ⟨v, u, rfl, h1, h2⟩ := repA2 hv
      cases hx; cases h1; cases h2; cases hg
      exact ⟨_, _, _, rfl, rfl, hp.1, hp.2, p _ Z H (ExtP.refl s) (.str _)⟩
    · cases hg
  · cases hg⟩
def dIndex : D → List D → Option D
  | .str a, [.str b] => match Builtin.Str.occurrences a b 0 a.length 1 with
    | i :: _ => some (.int (i : Nat))
    | [] => none
  | _, _ => none
theorem md_index : MthD K X "str.index" (fun x xs H Q => ∃ a b i rest, x = .str a ∧ xs = [.str b] ∧ Builtin.Str.occurrences a b 0 a.length 1 = i :: rest ∧ Q (.int (i : Nat)) H) (gP dIndex) := ⟨fun _ => mt_sindex, gP_ok fun x d vs ds c Z H Q s hx hv hg p => by
  unfold dIndex at hg
  split at hg
  · rename_i a b
    cases q : Builtin.Str.occurrences a b 0 a.length 1 with
    | nil => rw [q] at hg; cases hg
    | cons i r =>
      rw [q] at hg; cases hg
      obtain ⟨v, rfl, h1⟩ := repA1 hv
      cases hx; cases h1
      exact ⟨_, _, i, r, rfl, rfl, q, p _ Z H (ExtP.refl s) (.int _)⟩
  · cases hg⟩
/-! ### f-strings -/
def dFmt : D → Option D
  | .int i => if i.natAbs.log2 < 1920 then some (.str (Str.ofString (toString i))) else none
  | .str y => if y.length ≤ 1000000 then some (.str y) else none
  | _ => none
def mFmt (m : EM) : EM := bnd m (pur fun d => ret (dFmt d))
theorem de_fmt {te : TE} {m : EM} (h : DE K X W e te m) : DE K X W (.FormattedValue e (-1) none pos) (tFmt te) (mFmt m) := ⟨h.k, pe_fmt h.pe, ⟨fun σ H s Z I r0 Q w rs e p => by
  refine h.so.bnd w rs e p.x fun d v M1 Z1 H1 I1 w1 rs1 x1 q1 e1 => ?_
  obtain ⟨d, rfl, e1⟩ := pur_ok e1
  obtain ⟨c, hc, rfl⟩ := ret_ok e1
  have p1 := PostP.of w1 (p.mono x1)
  unfold dFmt at hc
  split at hc
  · split at hc
    · rename_i hl
      cases q1; cases hc
      exact .inr ⟨_, rfl, hl, p1 _ Z1 H1 (ExtP.refl w1.sub) (.str _)⟩
    · cases hc
  · split at hc
    · rename_i hl
      cases q1; cases hc
      exact .inl ⟨_, rfl, size_le hl, p1 _ Z1 H1 (ExtP.refl w1.sub) (.str _)⟩
    · cases hc
  · cases hc⟩⟩
def RepStr (_ : Hp) (_ : List Addr) (x y : Str) : Prop := x = y
abbrev JM := Str → Mi Str
structure DJ (K : PySem.W.Frag) (X : Cx) (W : WX) (es : List Expr) (ts : List TE) (m : JM) : Prop where
  k : X.K = K
  pj : PJ X es ts
  so : ∀ acc, Sound K W RepStr (tJs ts acc) (m acc)
def jNil : JM := fun acc s => some (.ok acc s.m)
def jCons (m : EM) (r : JM) : JM := fun acc => bnd m (pur fun d => match d with
  | .str y => fun s => if acc.length + y.length ≤ 1000000 then r (acc ++ y) s else none
  | _ => fun _ => none)
theorem len_app (x y : Str) : (x ++ y).length = x.length + y.length := by
  show (x.cps ++ y.cps).size = _
  rw [Array.size_append]; rfl
theorem dj_nil (k : X.K = K := by rfl) : DJ K X W [] [] jNil := ⟨k, .nil, fun acc => ⟨fun σ H s Z I r Q w rs e p => by
  cases e; exact p acc Z H I w Ext.refl rfl⟩⟩
theorem dj_cons {te : TE} {m : EM} {ts : List TE} {r : JM} (h : DE K X W e te m) (hr : DJ K X W es ts r) : DJ K X W (e :: es) (te :: ts) (jCons m r) := ⟨h.k, .cons h.pe hr.pj, fun acc => ⟨fun σ H s Z I r0 Q w rs e p => by
  refine h.so.bnd w rs e p.x fun d v M1 Z1 H1 I1 w1 rs1 x1 q1 e1 => ?_
  obtain ⟨d, rfl, e1⟩ := pur_ok e1
  cases d with
  | str y =>
    cases q1
    have e1 : (if acc.length + y.length ≤ 1000000 then r (acc ++ y) ⟨s.l, M1⟩ else none) = some r0 := e1
    split at e1
    · rename_i hl
      refine ⟨y, rfl, by rw [len_app]; exact size_le hl, (hr.so (acc ++ y)).ok σ H1 ⟨s.l, M1⟩ Z1 I1 r0 _ w1 rs1 e1 (p.mono x1)⟩
    · cases e1
  | _ => cases e1⟩⟩
def mJoined (r : JM) : EM := bnd (r Str.empty) fun y s => some (.ok (.p (.str y)) s.m)
theorem de_joined1 {te : TE} {m : EM} (h : DE K X W e te m) : DE K X W (.JoinedStr [e] pos) te m := ⟨h.k, pe_joined1 h.pe, h.so⟩
theorem de_joined {v1 v2 : Expr} {rest : List Expr} {ts : List TE} {r : JM} (h : DJ K X W (v1 :: v2 :: rest) ts r) : DE K X W (.JoinedStr (v1 :: v2 :: rest) pos) (fun σ H Q => tJs ts Str.empty σ H fun out H1 => Q (.str out) H1) (mJoined r) := ⟨h.k, pe_joined h.pj, ⟨fun σ H s Z I r0 Q w rs e p => by
  refine (h.so Str.empty).bnd w rs e p.x fun d v M1 Z1 H1 I1 w1 rs1 x1 q1 e1 => ?_
  cases (show v = d from q1)
  cases e1
  exact p _ Z1 H1 I1 w1 x1 (.str _)⟩⟩
end
end DL
namespace DL
open PySem L2
/-! ### texts as lists of their signs -/
def tx (l : List Nat) : Str := ⟨l.toArray⟩
@[simp] theorem tx_list (l : List Nat) : (tx l).cps.toList = l := List.toList_toArray
@[simp] theorem tx_len (l : List Nat) : (tx l).length = l.length := List.size_toArray
theorem tx_of (x : Str) : x = tx x.cps.toList := by
  cases x with
  | mk a => show Str.mk a = Str.mk a.toList.toArray; rw [Array.toArray_toList]
theorem eq_tx {x : Str} {l : List Nat} (h : x.cps.toList = l) : x = tx l := by rw [← h]; exact tx_of x
@[simp] theorem tx_inj (a b : List Nat) : tx a = tx b ↔ a = b := ⟨fun h => by have := congrArg (fun x : Str => x.cps.toList) h; simpa using this, fun h => by rw [h]⟩
@[simp] theorem tx_app (a b : List Nat) : tx a ++ tx b = tx (a ++ b) := by
  apply eq_tx
  show ((tx a).cps ++ (tx b).cps).toList = _
  rw [Array.toList_append, tx_list, tx_list]
@[simp] theorem tx_empty : Str.empty = tx [] := rfl
theorem tx_ofString (s : String) : Str.ofString s = tx (s.toList.map Char.toNat) := by
  rw [Str.ofString_eq_toList]; apply eq_tx; simp
theorem sub_tx (l : List Nat) (i j : Nat) : Builtin.Str.strSub (tx l) i j = tx ((l.take j).drop i) := by
  apply eq_tx
  show ((tx l).cps.extract i j).toList = _
  rw [Array.toList_extract, tx_list]
  rw [List.extract_eq_take_drop, List.drop_take]
@[simp] theorem in_tx (c : Nat) (l : List Nat) : inS (tx [c]) (tx l) = decide (c ∈ l) := by
  have h := StrLaws.found_one (tx l) c
  rw [tx_list] at h
  exact h
@[simp] theorem e_inSS (i j : Str) : inD (.str i) (.str j) = some (inS i j) := rfl
@[simp] theorem e_dIn (d e : D) : dIn d e = (inD d e).map .bl := rfl
@[simp] theorem e_dNin (d e : D) : dNin d e = (inD d e).map fun b => .bl !b := rfl
theorem at_one (l : List Nat) (c i : Nat) : StrLaws.At (tx l) (tx [c]) (tx l).length i ↔ l[i]? = some c := by
  have h := StrLaws.subAt_one (tx l) c i
  rw [tx_list] at h
  exact h
/-- the place of the first c -/
def idx (c : Nat) (l : List Nat) : Nat := (l.takeWhile (· != c)).length
theorem idx_first : ∀ {c i : Nat} {l : List Nat}, l[i]? = some c → (∀ k, k < i → ¬ l[k]? = some c) → i = idx c l
  | c, i, [], h, _ => by simp at h
  | c, 0, x :: l, h, _ => by
    simp at h; subst h
    unfold idx; simp
  | c, i + 1, x :: l, h, n => by
    have hx : x ≠ c := fun e => n 0 (by omega) (by simp [e])
    have := idx_first (c := c) (i := i) (l := l) (by simpa using h) fun k hk => by have := n (k + 1) (by omega); simpa using this
    unfold idx at this ⊢
    rw [List.takeWhile_cons]
    simp [hx, this]
theorem occ_tx (c : Nat) (l : List Nat) : Builtin.Str.occurrences (tx l) (tx [c]) 0 (tx l).length 1 = [] ∧ c ∉ l ∨ ∃ r, Builtin.Str.occurrences (tx l) (tx [c]) 0 (tx l).length 1 = idx c l :: r ∧ c ∈ l := by
  rcases StrLaws.occ_head (tx l) (tx [c]) 1 (Nat.le_refl 1) with ⟨h1, h2⟩ | ⟨i, r, h1, h2, h3⟩
  · refine .inl ⟨h1, fun hm => ?_⟩
    obtain ⟨i, hi⟩ := List.mem_iff_getElem?.mp hm
    exact h2 i ((at_one l c i).mpr hi)
  · have a := (at_one l c i).mp h2
    have e := idx_first a fun k hk q => h3 k hk ((at_one l c k).mpr q)
    exact .inr ⟨r, by rw [h1, e], List.mem_of_getElem? a⟩
theorem takeWhile_take (c : Nat) : ∀ l : List Nat, l.take (idx c l) = l.takeWhile (· != c)
  | [] => rfl
  | x :: l => by
    unfold idx
    rw [List.takeWhile_cons]
    by_cases h : x = c
    · simp [h]
    · simp [h]; exact takeWhile_take c l
theorem dropWhile_drop (c : Nat) : ∀ l : List Nat, l.drop (idx c l) = l.dropWhile (· != c)
  | [] => rfl
  | x :: l => by
    unfold idx
    rw [List.takeWhile_cons, List.dropWhile_cons]
    by_cases h : x = c
    · simp [h]
    · simp [h]; exact dropWhile_drop c l
def befC (c : Nat) (l : List Nat) : List Nat := l.takeWhile (· != c)
def aftC (c : Nat) (l : List Nat) : List Nat := (l.dropWhile (· != c)).tail
theorem part_tx (c : Nat) (l : List Nat) : Txt.partition (tx l) (tx [c]) = if c ∈ l then (tx (befC c l), tx [c], tx (aftC c l)) else (tx l, tx [], tx []) := by
  unfold Txt.partition
  rcases occ_tx c l with ⟨h, hm⟩ | ⟨r, h, hm⟩
  · rw [h, if_neg hm]; rfl
  · rw [h, if_pos hm]
    show (Builtin.Str.strSub (tx l) 0 (idx c l), tx [c], Builtin.Str.strSub (tx l) (idx c l + 1) (tx l).length) = _
    rw [sub_tx, sub_tx, tx_len, List.take_length, List.drop_zero, takeWhile_take, ← List.tail_drop, dropWhile_drop]
    rfl
theorem rmpre_tx (c : Nat) (l : List Nat) : Txt.removeprefix (tx l) (tx [c]) = tx (if l.head? = some c then l.tail else l) := by
  rw [StrLaws.removeprefix_eq]
  have h := at_one l c 0
  unfold StrLaws.At at h
  have e : (decide (0 + (tx [c]).length ≤ (tx l).length) && Builtin.Str.subAt (tx l) (tx [c]) 0) = decide (l.head? = some c) := by
    rw [Bool.eq_iff_iff, Bool.and_eq_true, decide_eq_true_eq, decide_eq_true_eq, h, List.head?_eq_getElem?]
  rw [e]
  by_cases q : l.head? = some c
  · rw [if_pos (decide_eq_true q), if_pos q]
    apply eq_tx
    rw [List.toList_toArray, tx_list, tx_len, tx_len]
    cases l with
    | nil => rfl
    | cons x l => simp
  · rw [if_neg (by simpa using q), if_neg q]
def rstripL (c : Nat) (l : List Nat) : List Nat := (l.reverse.dropWhile (· == c)).reverse
theorem take_rev (c : Nat) (l : List Nat) : l.take (l.length - (l.reverse.takeWhile (· == c)).length) = rstripL c l := by
  unfold rstripL
  have e := List.takeWhile_append_dropWhile (p := (· == c)) (l := l.reverse)
  have e2 := congrArg List.reverse e
  rw [List.reverse_append, List.reverse_reverse] at e2
  have hl := congrArg List.length e2
  rw [List.length_append, List.length_reverse, List.length_reverse] at hl
  generalize l.reverse.dropWhile (· == c) = a at e2 hl ⊢
  generalize l.reverse.takeWhile (· == c) = b at e2 hl ⊢
  rw [← e2, List.take_append_of_le_length (by simp <;> omega)]
  rw [List.take_of_length_le (by simp)]
theorem rstrip_tx (c : Nat) (l : List Nat) : Txt.rstripChars (tx l) (tx [c]) = tx (rstripL c l) := by
  unfold Txt.rstripChars
  rw [PyProof.Rows.stripBy_eq]
  have e : stripLo (tx [c]).cps.contains false (tx l) = 0 := rfl
  rw [e, sub_tx, List.drop_zero]
  unfold stripHi
  rw [if_pos rfl, tx_list, List.drop_zero, tx_len]
  have g : (tx [c]).cps.contains = (· == c) := by
    funext x
    rw [← Array.contains_toList, tx_list, Bool.eq_iff_iff]
    simp
  rw [g, take_rev]
theorem zfill_tx (l : List Nat) (i : Int) (h : ∀ c, l.head? = some c → c ≠ 43 ∧ c ≠ 45) : Txt.zfill (tx l) i = tx (List.replicate (i.toNat - l.length) 48 ++ l) := by
  unfold Txt.zfill
  rw [tx_len]
  split
  · rename_i q
    have e : i.toNat - l.length = 0 := by omega
    rw [e]; rfl
  · have e : zfilled (tx l) (i.toNat - l.length) = Builtin.Str.padded (tx l) (i.toNat - l.length) 0 48 := by
      unfold zfilled
      have g : (tx l).cps[0]? = l.head? := by
        rw [← Array.getElem?_toList, tx_list, List.head?_eq_getElem?]
      rw [g]
      cases l with
      | nil => rfl
      | cons x r =>
        have := h x rfl
        show (match some x with | some 43 | some 45 => _ | _ => _) = _
        split
        · rename_i q; cases q; exact absurd rfl this.1
        · rename_i q; cases q; exact absurd rfl this.2
        · rfl
    rw [e]
    apply eq_tx
    show (Array.replicate _ _ ++ (tx l).cps ++ Array.replicate _ _).toList = _
    rw [Array.toList_append, Array.toList_append, tx_list]
    simp
theorem ljust_tx (l : List Nat) (i : Int) (c : Nat) : Txt.ljustF (tx l) i c = tx (l ++ List.replicate (i.toNat - l.length) c) := by
  apply eq_tx
  rw [PyProof.Rows.ljustF_list, tx_list, tx_len]
theorem join_txt : ∀ ls : List (List Nat), Txt.join (tx []) (ls.map tx) = tx ls.flatten := by
  intro ls
  have e : Txt.join (tx []) (ls.map tx) = Str.join (tx []) (ls.map tx) := StrLaws.glued_eq_join _ _
  rw [e]
  clear e
  have : ∀ ls : List (List Nat), Str.join (tx []) (ls.map tx) = tx ls.flatten := by
    intro ls
    induction ls with
    | nil => rfl
    | cons a r ih =>
      cases r with
      | nil => simp [Str.join]
      | cons b r =>
        show tx a ++ tx [] ++ Str.join (tx []) ((b :: r).map tx) = _
        rw [ih]; simp
  exact this ls
theorem foldl_app (x : Array Nat) : ∀ (n : Nat) (acc : Array Nat), ((List.replicate n x).foldl (· ++ ·) acc).toList = acc.toList ++ (List.replicate n x.toList).flatten
  | 0, acc => by simp
  | n + 1, acc => by
    rw [List.replicate_succ, List.foldl_cons, foldl_app x n, Array.toList_append, List.replicate_succ, List.flatten_cons, List.append_assoc]
theorem flat_one (c : Nat) : ∀ n : Nat, (List.replicate n [c]).flatten = List.replicate n c
  | 0 => rfl
  | n + 1 => by rw [List.replicate_succ, List.flatten_cons, flat_one c n]; rfl
theorem rep_tx (c : Nat) (n : Int) : repS (tx [c]) n = tx (List.replicate n.toNat c) := by
  unfold repS
  split
  · rename_i h
    have : n.toNat = 0 := by omega
    rw [this]; rfl
  · split
    · rename_i h1 h2
      have : n = 1 := by simpa using h2
      subst this; rfl
    · apply eq_tx
      show ((List.replicate n.toNat (tx [c]).cps).foldl (· ++ ·) #[]).toList = _
      rw [foldl_app, tx_list, flat_one]; simp
/-- split at one sign -/
def splitL (c : Nat) : List Nat → List (List Nat)
  | [] => [[]]
  | x :: l => if x = c then [] :: splitL c l else match splitL c l with
    | p :: r => (x :: p) :: r
    | [] => [[x]]
theorem splitL_ne (c : Nat) : ∀ l, splitL c l ≠ []
  | [] => by simp [splitL]
  | x :: l => by
    unfold splitL
    split
    · simp
    · split <;> simp
theorem splitL_app (c : Nat) : ∀ (p l : List Nat), c ∉ p → splitL c (p ++ c :: l) = p :: splitL c l
  | [], l, _ => by simp [splitL]
  | x :: p, l, h => by
    have hx : x ≠ c := fun e => h (by simp [e])
    have ih := splitL_app c p l fun m => h (List.mem_cons_of_mem _ m)
    rw [List.cons_append, splitL, if_neg hx, ih]
theorem splitL_free (c : Nat) : ∀ (p : List Nat), c ∉ p → splitL c p = [p]
  | [], _ => rfl
  | x :: p, h => by
    have hx : x ≠ c := fun e => h (by simp [e])
    rw [splitL, if_neg hx, splitL_free c p fun m => h (List.mem_cons_of_mem _ m)]
theorem split_join (c : Nat) : ∀ (ps : List Str), ps ≠ [] → (∀ p ∈ ps, c ∉ p.cps.toList) → (splitL c (Str.join (tx [c]) ps).cps.toList).map tx = ps
  | [], h, _ => absurd rfl h
  | [p], _, h => by
    show (splitL c p.cps.toList).map tx = _
    rw [splitL_free c _ (h p (by simp))]
    simp [← tx_of]
  | p :: q :: r, _, h => by
    have ih := split_join c (q :: r) (by simp) fun z hz => h z (List.mem_cons_of_mem _ hz)
    show (splitL c (p ++ tx [c] ++ Str.join (tx [c]) (q :: r)).cps.toList).map tx = _
    have e : (p ++ tx [c] ++ Str.join (tx [c]) (q :: r)).cps.toList = p.cps.toList ++ c :: (Str.join (tx [c]) (q :: r)).cps.toList := by
      conv => lhs; rw [tx_of p, tx_of (Str.join (tx [c]) (q :: r)), tx_app, tx_app, tx_list]
      simp
    rw [e, splitL_app c _ _ (h p (by simp)), List.map_cons, ih, ← tx_of]
theorem split_tx (c : Nat) (l : List Nat) : Txt.split (tx l) (tx [c]) = (splitL c l).map tx := by
  have h1 := StrLaws.join_split (tx l) (tx [c])
  have h2 := StrLaws.split_free (tx l) c
  have h3 := PyProof.Rows.split_pos (tx l) (tx [c])
  have h4 := split_join c (Txt.split (tx l) (tx [c])) (by intro e; rw [e] at h3; simp at h3) h2
  rw [h1, tx_list] at h4
  exact h4.symm
/-! slices -/
theorem cutS_to (l : List Nat) (k : Int) (h : 0 ≤ k) : cutS (tx l) none (some k) = tx (l.take k.toNat) := by
  apply eq_tx
  unfold cutS
  rw [List.toList_toArray, tx_list, tx_len, HT.sIx_none, List.drop_zero, Nat.sub_zero]
  obtain ⟨n, rfl⟩ := Int.eq_ofNat_of_zero_le h
  rw [HT.sIx_nat, Int.toNat_natCast]
  by_cases q : n ≤ l.length
  · rw [Nat.min_eq_left q]
  · rw [Nat.min_eq_right (by omega), List.take_length, List.take_of_length_le (by omega)]
theorem cutS_from (l : List Nat) (k : Int) (h : 0 ≤ k) : cutS (tx l) (some k) none = tx (l.drop k.toNat) := by
  apply eq_tx
  unfold cutS
  rw [List.toList_toArray, tx_list, tx_len, HT.sIx_none]
  obtain ⟨n, rfl⟩ := Int.eq_ofNat_of_zero_le h
  rw [HT.sIx_nat, Int.toNat_natCast]
  by_cases q : n ≤ l.length
  · rw [Nat.min_eq_left q, List.take_of_length_le (by simp)]
  · rw [Nat.min_eq_right (by omega), List.drop_length, List.drop_of_length_le (by omega)]; simp
@[simp] theorem e_slS (z : Str) (lo hi : Option Int) : slE (.str z) lo hi = if z.length ≤ 1000000 then some (.str (cutS z lo hi)) else none := rfl
@[simp] theorem e_ixS (l : List Nat) (i : Int) : ixD (.str (tx l)) i = if l.length ≤ 1000000 then (atI l i).map fun c => .str (tx [c]) else none := by
  show (if (tx l).length ≤ 1000000 then (atI (tx l).cps.toList i).map fun c => D.str ⟨#[c]⟩ else none) = _
  rw [tx_len, tx_list]; rfl
/-! the digits of a number -/
def decs (n : Nat) : List Nat := (Nat.toDigits 10 n).map Char.toNat
theorem decs_lt {n : Nat} (h : n < 10) : decs n = [48 + n] := by
  unfold decs
  rw [Nat.toDigits_of_lt_base h]
  have : ∀ m, m < 10 → (Nat.digitChar m).toNat = 48 + m := by decide
  simp [this n h]
theorem decs_ge {n : Nat} (h : 10 ≤ n) : decs n = decs (n / 10) ++ [48 + n % 10] := by
  unfold decs
  rw [Nat.toDigits_of_base_le (by decide) h]
  have : ∀ m, m < 10 → (Nat.digitChar m).toNat = 48 + m := by decide
  simp [this (n % 10) (Nat.mod_lt _ (by decide))]
theorem ofInt_tx (n : Nat) : Str.ofString (toString (n : Int)) = tx (decs n) := by
  rw [tx_ofString]
  have e : toString (n : Int) = Nat.repr n := rfl
  rw [e, Nat.repr_eq_ofList_toDigits, String.toList_ofList]
  rfl
open NumText in
theorem decs_spec (n : Nat) : AllDigits (decs n) ∧ decs n ≠ [] ∧ digitsVal (decs n) = n ∧ (0 < n → (decs n).head? ≠ some 48) := by
  induction n using Nat.strongRecOn with
  | ind n ih =>
    by_cases h : n < 10
    · rw [decs_lt h]
      refine ⟨fun c hc => ?_, by simp, ?_, fun hp => ?_⟩
      · simp at hc; omega
      · show 0 * 10 + (48 + n - 48) = n; omega
      · simp; omega
    · have h : 10 ≤ n := by omega
      obtain ⟨a, b, c, d⟩ := ih (n / 10) (by omega)
      rw [decs_ge h]
      refine ⟨fun x hx => ?_, by simp, ?_, fun _ => ?_⟩
      · rw [List.mem_append] at hx
        rcases hx with hx | hx
        · exact a x hx
        · simp at hx; omega
      · unfold digitsVal at c ⊢
        rw [List.foldl_append, c]
        show n / 10 * 10 + (48 + n % 10 - 48) = n
        omega
      · have d := d (by omega)
        cases q : decs (n / 10) with
        | nil => exact absurd q b
        | cons x r => rw [q] at d; simpa using d
theorem decs_len : ∀ (k n : Nat), n < 10 ^ (k + 1) → (decs n).length ≤ k + 1
  | 0, n, h => by rw [decs_lt (by simpa using h)]; simp
  | k + 1, n, h => by
    by_cases q : n < 10
    · rw [decs_lt q]; simp
    · rw [decs_ge (by omega), List.length_append]
      have := decs_len k (n / 10) (by rw [Nat.pow_succ] at h; omega)
      simp; omega
theorem decs_len_ge : ∀ (k n : Nat), 10 ^ k ≤ n → k + 1 ≤ (decs n).length
  | 0, n, h => by
    have := (decs_spec n).2.1
    cases q : decs n with
    | nil => exact absurd q this
    | cons x r => simp
  | k + 1, n, h => by
    have h10 : 10 ≤ n := by
      have : 10 ^ 1 ≤ 10 ^ (k + 1) := Nat.pow_le_pow_right (by decide) (by omega)
      omega
    rw [decs_ge h10, List.length_append]
    have := decs_len_ge k (n / 10) (by rw [Nat.pow_succ] at h; omega)
    simp; omega
open NumText in
theorem int_tx {l : List Nat} (h : AllDigits l) (h1 : l ≠ []) (h2 : l.length ≤ 640) : PySem.intText? (tx l) = some ((digitsVal l : Nat) : Int) := by
  have := intText_digits (x := tx l) (by rw [tx_list]; exact h) (by rw [tx_list]; exact h1) (by rw [tx_len]; omega)
  rw [tx_list] at this
  exact this
def logOk (i : Int) : Bool := decide (i.natAbs.log2 < 1920)
def intS (i : Int) : Str := Str.ofString (toString i)
theorem intS_tx (n : Nat) : intS (n : Int) = tx (decs n) := ofInt_tx n
@[simp] theorem e_str (i : Int) : dStr (.int i) = if logOk i = true then some (.str (intS i)) else none := by
  show (if i.natAbs.log2 < 1920 then some (D.str (intS i)) else none) = _
  unfold logOk
  by_cases h : i.natAbs.log2 < 1920
  · rw [if_pos h, if_pos (decide_eq_true h)]
  · rw [if_neg h, if_neg (by simpa using h)]
@[simp] theorem e_intS (x : Str) : dIntS (.str x) = if x.length ≤ 640 then (PySem.intText? x).map .int else none := rfl
@[simp] theorem e_allL (ds : List D) : dAll (.lst ds) = (allBl ds).map fun bs => .bl (bs.all id) := rfl
theorem allBl_map (bs : List Bool) : allBl (bs.map .bl) = some bs := by
  induction bs with
  | nil => rfl
  | cons b r ih => show (allBl (r.map .bl)).map _ = _; rw [ih]; rfl
@[simp] theorem e_mulS (x : Str) (n : Int) : dMulS (.str x) (.int n) = if x.length = 1 ∧ -1000 ≤ n ∧ n ≤ 1000 then some (.str (repS x n)) else none := rfl
@[simp] theorem e_gP (g : D → List D → Option D) (d : D) (ds : List DV) (s : S) : gP g (.p d) ds s = (match allP ds with | some xs => ret (g d xs) s | none => none) := rfl
@[simp] theorem e_zfill (x : Str) (i : Int) : dZfill (.str x) [.int i] = if PadOk i = true then some (.str (Txt.zfill x i)) else none := rfl
@[simp] theorem e_rstrip (x y : Str) : dRstrip (.str x) [.str y] = if x.length ≤ 1000000 then some (.str (Txt.rstripChars x y)) else none := rfl
@[simp] theorem e_rmpre (x y : Str) : dRmpre (.str x) [.str y] = if x.length ≤ 1000000 then some (.str (Txt.removeprefix x y)) else none := rfl
@[simp] theorem e_part (x y : Str) : dPart (.str x) [.str y] = if (y.length == 0) = false ∧ x.length ≤ 1000000 then some (.tup [.str (Txt.partition x y).1, .str (Txt.partition x y).2.1, .str (Txt.partition x y).2.2]) else none := rfl
@[simp] theorem e_split (x y : Str) : dSplit (.str x) [.str y] = if (y.length == 0) = false ∧ x.length ≤ 1000000 then some (.lst ((Txt.split x y).map .str)) else none := rfl
@[simp] theorem e_join (a : Str) (ds : List D) : dJoin (.str a) [.lst ds] = (match allS ds with | some ys => if (ys.map (·.length)).sum + ys.length * a.length ≤ 16777216 then some (.str (Txt.join a ys)) else none | none => none) := rfl
theorem allS_map (ys : List Str) : allS (ys.map .str) = some ys := by
  induction ys with
  | nil => rfl
  | cons b r ih => show (allS (r.map .str)).map _ = _; rw [ih]; rfl
def sign1 (f : Str) : Nat := f.cps.getD 0 0
@[simp] theorem e_sign1 (c : Nat) : sign1 (tx [c]) = c := rfl
@[simp] theorem e_ljust (x : Str) (i : Int) (f : Str) : dLjust (.str x) [.int i, .str f] = if PadOk i = true ∧ f.length = 1 then some (.str (Txt.ljustF x i (sign1 f))) else none := rfl
theorem index_tx {c : Nat} {l : List Nat} (h : c ∈ l) : dIndex (.str (tx l)) [.str (tx [c])] = some (.int (idx c l : Nat)) := by
  unfold dIndex
  rcases occ_tx c l with ⟨_, hm⟩ | ⟨r, e, _⟩
  · exact absurd h hm
  · simp only [e]
@[simp] theorem e_fmt (m : EM) (s : S) : mFmt m s = (bnd m (pur fun d => ret (dFmt d))) s := rfl
@[simp] theorem e_fmtI (i : Int) : dFmt (.int i) = if logOk i = true then some (.str (intS i)) else none := e_str i
@[simp] theorem e_fmtS (y : Str) : dFmt (.str y) = if y.length ≤ 1000000 then some (.str y) else none := rfl
@[simp] theorem e_jNil (acc : Str) (s : S) : jNil acc s = some (.ok acc s.m) := rfl
def jK (r : JM) (acc : Str) (d : D) : Mi Str := match d with
  | .str y => fun s => if acc.length + y.length ≤ 1000000 then r (acc ++ y) s else none
  | _ => fun _ => none
@[simp] theorem e_jCons (m : EM) (r : JM) (acc : Str) (s : S) : jCons m r acc s = (bnd m (pur (jK r acc))) s := rfl
@[simp] theorem e_jK (r : JM) (acc y : Str) (s : S) : jK r acc (.str y) s = if acc.length + y.length ≤ 1000000 then r (acc ++ y) s else none := rfl
@[simp] theorem e_joined (r : JM) (s : S) : mJoined r s = (bnd (r Str.empty) fun y s => some (.ok (.p (.str y)) s.m)) s := rfl
theorem log_ok {n : Nat} (h : n ≤ 1000000000000000000) : n.log2 < 1920 := by
  by_cases q : n = 0
  · subst q; decide
  · exact Nat.lt_of_lt_of_le ((Nat.log2_lt q).mpr (Nat.lt_of_le_of_lt h (by decide : 1000000000000000000 < 2 ^ 64))) (by decide)
theorem logOk_of {i : Int} (h : i.natAbs ≤ 1000000000000000000) : logOk i = true := decide_eq_true (log_ok h)
theorem pad4 : PadOk 4 = true := by decide
@[simp] theorem e_itS (l : List Nat) : itS (.str (tx l)) = some (l.map fun c => .p (.str (tx [c]))) := by
  show some ((tx l).cps.toList.map _) = _
  rw [tx_list]; rfl
@[simp] theorem e_tyS (M : List O) (x : Str) : tyOk "str" M (.p (.str x)) = true := rfl
@[simp] theorem e_tyL (M : List O) (x : List D) : tyOk "list" M (.p (.lst x)) = true := rfl
@[simp] theorem e_gs0 (s : S) : gsNil [] s = some s := rfl
@[simp] theorem e_gs1 (m : GM) (n : List DV → S → Option S) (d : DV) (r : List DV) (s : S) : gsCons m n (d :: r) s = (match m d s with | some s1 => n r s1 | none => none) := rfl
@[simp] theorem e_gT (n : Nat) (m : List DV → S → Option S) (xs : List D) (s : S) : gT n m (.p (.tup xs)) s = if xs.length = n then m (xs.map .p) s else none := rfl
theorem pad_digits {l : List Nat} (k : Nat) (h : NumText.AllDigits l) : NumText.AllDigits (l ++ List.replicate k 48) := fun c hc => by
  rw [List.mem_append] at hc
  rcases hc with hc | hc
  · exact h c hc
  · have := List.eq_of_mem_replicate hc; omega
end DL
namespace DL
open PySem L2
/-! loops and comprehensions with what stays true -/
theorem wpS.imp {o : Option (Fl × S)} {P Q : Fl → S → Prop} (h : wpS o P) (k : ∀ f s, P f s → Q f s) : wpS o Q := by
  obtain ⟨f, s, e, n, p⟩ := h
  exact ⟨f, s, e, n, k f s p⟩
/-- a loop whose body goes on, or returns -/
theorem w_loop {g : GM} {b : SM} {Inv : S → Prop} {R : DV → S → Prop} : ∀ (ds : List DV) (s : S), Inv s →
    (∀ d ∈ ds, ∀ s, Inv s → ∃ s1, g d s = some s1 ∧ wpS (b s1) (fun f s2 => (f = .nx ∧ Inv s2) ∨ (∃ v, f = .rt v ∧ R v s2))) →
    wpS (loopS g b ds s) (fun f s2 => (f = .nx ∧ Inv s2) ∨ (∃ v, f = .rt v ∧ R v s2))
  | [], s, h, _ => by simp [h]
  | d :: ds, s, h, k => by
    obtain ⟨s1, h1, f, s2, e, n, p⟩ := k d (by simp) s h
    rw [loopS_cons, h1]
    dsimp only
    rw [e]
    rcases p with ⟨rfl, p⟩ | ⟨v, rfl, p⟩
    · exact w_loop ds s2 p fun x hx => k x (List.mem_cons_of_mem _ hx)
    · exact ⟨_, _, rfl, rfl, .inr ⟨v, rfl, p⟩⟩
/-- a comprehension that draws -/
theorem compL_draw {l : List (Option DV)} {g : GM} {e : EM} {Inv : List O → Prop} {R : D → Prop} : ∀ (ds : List DV) (acc : List D) (M : List O), Inv M → (∀ y ∈ acc, R y) → acc.length + ds.length ≤ 1000000 →
    (∀ d ∈ ds, ∀ M, Inv M → ∃ s1, g d ⟨l, M⟩ = some s1 ∧ wpB (e s1) (fun v M2 => ∃ y, v = .p y ∧ R y ∧ Inv M2)) →
    ∃ ys M', compL l g tYesM e ds acc M = some (ys, M') ∧ Inv M' ∧ (∀ y ∈ ys, R y) ∧ ys.length = acc.length + ds.length
  | [], acc, M, h, ha, _, _ => ⟨acc, M, rfl, h, ha, rfl⟩
  | d :: ds, acc, M, h, ha, hl, k => by
    obtain ⟨s1, h1, v, M2, e1, y, rfl, hy, h2⟩ := k d (by simp) M h
    have hl' : acc.length + (ds.length + 1) ≤ 1000000 := hl
    obtain ⟨ys, M', e2, i2, r2, l2⟩ := compL_draw ds (acc ++ [y]) M2 h2 (fun z hz => by
      rw [List.mem_append] at hz
      rcases hz with hz | hz
      · exact ha z hz
      · simp at hz; rw [hz]; exact hy) (by simp; omega) fun x hx => k x (List.mem_cons_of_mem _ hx)
    refine ⟨ys, M', ?_, i2, r2, by rw [l2]; simp; omega⟩
    unfold compL
    rw [h1]
    dsimp only
    have q : tYesM s1 = some (.ok (.p (.bl true)) s1.m) := rfl
    rw [q]
    dsimp only
    have q2 : e ⟨s1.l, s1.m⟩ = some (.ok (.p y) M2) := e1
    rw [q2]
    dsimp only
    rw [if_pos (by omega)]
    exact e2
end DL
namespace DL
open PySem L2
open PyProof.Rows (AllBare IntsAre)
/-! ### the law's own def, run by the caller itself: no repr is under way -/
section
variable {P : Program} {w : World} {K : PySem.W.Frag} {mg : Str → Option Value} {base : Heap} {x qual : Str} {st : Stmt} {f a : Addr} {fd : FuncData} {N : List Str} {k : Nat}
def Told (s₁ : Shared) (r : Result) (s' : Shared) : Prop := r = .ok (.ret (.bool true)) ∧ OldK s₁.heap s'.heap ∧ s'.os = s₁.os ∧ AllBare s'.gens
abbrev TopB (P : Program) (w : World) (K : PySem.W.Frag) (mg : Str → Option Value) (base : Heap) (N : List Str) (qual : Str) (st : Stmt) (f : Addr) (k : Nat) (m : SM) : Prop :=
  ∀ (cdv : Value) (s : Shared) (H : Hp) (E : XK), Room k (callerA.deeper (PyProof.Rows.envOfC qual (defScope st) s.heap.objs.size f cdv)) →
    ∃ t, DSs K (cxOf (L2.CX P w) P w K mg base N qual (defScope st) f cdv callerA [] s H E) (WE0 E) (defBody st) t m
/-- from the entry on -/
theorem run_top {m : SM} {s₁ : Shared} {H : Hp} {ns : List Int} {p : Str} (F : Fun K x qual st f fd) (Sc : FnScope N [p] (defScope st)) (hr : Room (k + 1) callerA) (body : TopB P w K mg base N qual st f k m)
    (e0 : Env0 P w K mg base callerA [] s₁ H) (hb : BindsTo s₁ fd ⟨[.ref a], []⟩ [(p, .ref a)]) (hS : SqL K H a (ns.map V.int)) (hO : Only H) (good : runA N.length m [.scr (ns.map .int)] = some (.ok (.bl true))) :
    codeAny (model P w) callerA (.call (.ref f) ⟨[.ref a], []⟩) (Told s₁) s₁ := by
  obtain ⟨oc, od, kV, doc, pm, an, cdv, ct, osl, rfl, lk, hcd⟩ := F.ex
  have inS : ∀ b o, base.get? b = some o → s₁.heap.get? b = some o := fun b o q => (e0.bs b o q).1
  have KS : K.In s₁.heap := e0.mod.kin.keeps inS
  have NL : s₁.heap.NoLimit := e0.mod.nolimit.keeps inS
  refine codeAny_mono (R := CR (L2.CX P w) [] P w H s₁ (fun v _ => v = V.bl true) (fun _ _ _ => False)) ?_ fun r s' h => ?_
  rotate_left
  · cases r with
    | error e =>
      obtain ⟨_, _, _, _, _, _, _, _, _, _, _, _, z⟩ := (show L2.CX P w [] H s₁ (fun _ _ _ => False) e s' from h)
      exact z.elim
    | ok fl =>
      cases fl with
      | ret u =>
        obtain ⟨v, H', os, bare, un, hok, rv, e⟩ := h
        have e : v = V.bl true := e
        subst e
        obtain rfl : u = Value.bool true := rv
        refine ⟨rfl, OldK.of_keep fun b o e => ?_, os, bare⟩
        rcases hO b with z | ⟨ob, xs, z⟩
        · exact un.keep b o e z (by intro q; exact absurd (show b ∈ ([] : List Addr) from q) (by simp)) (by simp)
        · obtain ⟨e1, _⟩ := e0.hok b _ z
          obtain ⟨e2, _⟩ := hok b _ (un.frzs b ob _ z)
          rw [e] at e1; cases e1
          exact e2
      | next => exact False.elim h
      | brk => exact False.elim h
      | cont => exact False.elim h
  -- the frame is made, the script bound
  refine PySem.codeAny_call_function hr.depth (KS _ _ lk) rfl Sc.co Sc.gen rfl (PySem.W.codeRec_of KS hcd) (hb _ _ _ _ ?_)
  refine PySem.wpAny_newFunctionEnv_cells Sc.kind (fun y hy => ?_) fun env he s2 made => ?_
  · obtain ⟨n, v⟩ := y
    rcases Sc.par n (List.of_mem_zip (l₁ := [p]) (l₂ := [Value.ref a]) hy).1 with q | q
    · exact .inl q
    · exact .inr ⟨q, PySem.W.cellsFrom_some _ _ _ (.inl q)⟩
  subst he
  refine ⟨NL.keeps made.toInCall.keep, PySem.codeAny_func ?_⟩
  obtain ⟨t, d⟩ := body cdv s₁ H (fun _ _ _ => False) (hr.deeper _)
  have I := inv_start (CX := L2.CX P w) (E := fun _ _ _ => False) Sc hr.hd e0 (vs := [.ref a]) rfl (.cons rfl .nil) made
  have q : t { nx := fun _ H' => (fun v (_ : Hp) => v = V.bl true) .non H', rt := fun v _ => v = V.bl true } (L2.start N [.ref a]) H := by
    have w0 : Wf K H H [] [] := ⟨Same.refl _, rfl, List.nodup_nil, (by simp), fun n a o h => by simp at h⟩
    unfold runA at good
    cases z : m ⟨slotsOf N.length ([D.scr (ns.map .int)].map .p), []⟩ with
    | none => rw [z] at good; cases good
    | some fs =>
      rw [z] at good
      obtain ⟨fl, s1⟩ := fs
      refine d.so.ok (L2.start N [.ref a]) H _ H [] _ _ w0 (start_rep (.cons (show RepV K H [] (.ref a) (.p (.scr (ns.map .int))) from Rep.scr hS (intsRep ns)) .nil)) z ?_
      cases fl with
      | nx => cases good
      | rt d =>
        cases d with
        | p d => cases good; exact fun v Z' H' I' w' x' r' => by cases r'; rfl
        | o n => cases good
      | ex c fs => cases good
      | bk => cases good
      | ct => cases good
  refine wpAny_mono (d.ps.run [] s2 (L2.start N [.ref a]) H _ I q) (fun fl s' h => ?_) fun e s' h => ?_
  · cases fl with
    | ret u =>
      obtain ⟨v, σ', H', J, rv, e⟩ := h
      exact ⟨v, H', J.os, J.bare, J.base, J.hok, rv, e⟩
    | next =>
      obtain ⟨σ', H', J, e⟩ := h
      cases e
    | brk =>
      obtain ⟨_, _, _, e⟩ := h
      exact False.elim e
    | cont =>
      obtain ⟨_, _, _, e⟩ := h
      exact False.elim e
  · exact h
/-- the entry: what is tracked is the script at most -/
theorem entry {H : Hp} {s₁ : Shared} {mb : Str → Option Value} {vs : List Value} (KX : K.In s₁.heap) (hns : s₁.heap.Ns mainGlobals mg) (hb : s₁.heap.Ns builtinsNs mb) (hbb : ∀ x : Str, x ≠ "__name__" → mb x = bootBuiltins x) (hlim : s₁.heap.NoLimit) (hg : s₁.gens = #[])
    (ha : s₁.heap.get? a = some { cls := .type "list", data := .seq vs.toArray }) (hok : HOk P w H s₁.heap) (one : ∀ b, H b ≠ none → b = a) (out : H a ≠ none → K.lookup a = none) :
    Env0 P w K mg (hidT s₁.heap H) callerA [] s₁ H ∧ K.In (hidT s₁.heap H) ∧ (hidT s₁.heap H).Ns mainGlobals mg := by
  have free : ∀ {b : Addr}, b ≠ a → H b = none := fun {b} n => by
    cases q : H b with
    | none => rfl
    | some u => exact absurd (one b (by rw [q]; simp)) n
  have kin : K.In (hidT s₁.heap H) := fun b o e => by
    refine hidT_get (KX b o e) ?_
    by_cases n : b = a
    · subst n
      cases q : H b with
      | none => rfl
      | some u => rw [out (by rw [q]; simp)] at e; cases e
    · exact free n
  have ns : ∀ {b : Addr} {m : Str → Option Value}, s₁.heap.Ns b m → (hidT s₁.heap H).Ns b m := fun {b m} h => by
    obtain ⟨o, es, ep, e, d, r⟩ := h
    refine ⟨o, es, ep, hidT_get e ?_, d, r⟩
    by_cases n : b = a
    · subst n
      rw [ha] at e; cases e
      have d' : Data.seq vs.toArray _ = Data.dict es ep := d
      cases d'
    · exact free n
  refine ⟨⟨rfl, ⟨kin, ns hns, ⟨mb, ns hb, hbb⟩, ?_⟩, fun b o e => of_hidT e, Nat.le_of_eq (hidT_size _ _), trivial, fun b q => absurd (show b ∈ ([] : List Addr) from q) (by simp), hok, .of_eq hg⟩, kin, ns hns⟩
  obtain ⟨mc, h1, h2⟩ := hlim
  exact ⟨mc, ns h1, h2⟩
theorem law_top {m : SM} {s₁ : Shared} {mb : Str → Option Value} {vs : List Value} {ns : List Int} {p : Str} (KX : K.In s₁.heap) (hns : s₁.heap.Ns mainGlobals mg) (hb : s₁.heap.Ns builtinsNs mb) (hbb : ∀ x : Str, x ≠ "__name__" → mb x = bootBuiltins x) (hlim : s₁.heap.NoLimit) (hg : s₁.gens = #[])
    (ha : s₁.heap.get? a = some { cls := .type "list", data := .seq vs.toArray }) (hi : IntsAre vs ns) (hl : ns.length ≤ sizeLine) (hr : Room (k + 1) callerA) (F : Fun K x qual st f fd) (Sc : FnScope N [p] (defScope st)) (hbind : ∀ (s : Shared) (u : Value), BindsTo s fd ⟨[u], []⟩ [(p, u)])
    (body : ∀ base : Heap, K.In base → base.Ns mainGlobals mg → TopB P w K mg base N qual st f k m) (good : runA N.length m [.scr (ns.map .int)] = some (.ok (.bl true))) :
    codeAny (model P w) callerA (.call (.ref f) ⟨[.ref a], []⟩) (Told s₁) s₁ := by
  have rv := vals_ints hi
  cases hk : K.lookup a with
  | some o =>
    have e := KX a o hk
    rw [ha] at e
    cases e
    obtain ⟨e0, k0, n0⟩ := entry (P := P) (w := w) (H := fun _ => none) KX hns hb hbb hlim hg ha (fun b u z => by have z' : (none : Option HO) = some u := z; cases z') (fun b z => absurd rfl z) (fun z => absurd rfl z)
    exact run_top F Sc hr (body _ k0 n0) e0 (hbind _ _) (.inr ⟨_, vs.toArray, _, hk, rfl, rfl, rfl, by rw [List.size_toArray, hi.length]; exact hl, by simpa using rv⟩) (fun _ => .inl rfl) good
  | none =>
    obtain ⟨e0, k0, n0⟩ := entry (P := P) (w := w) (H := fun b => if b = a then some (.frz { cls := .type "list", data := .seq vs.toArray } (.lst (ns.map V.int))) else none) KX hns hb hbb hlim hg ha (fun b u z => by
      by_cases n : b = a
      · have z' := (if_pos n).symm.trans z
        cases z'
        subst n
        exact ⟨ha, by rw [List.length_map]; exact hl, vs, _, rv, ha⟩
      · have z' := (if_neg n).symm.trans z
        cases z') (fun b z => by
      by_cases n : b = a
      · exact n
      · exact absurd (if_neg n) z) (fun _ => hk)
    refine run_top F Sc hr (body _ k0 n0) e0 (hbind _ _) (.inl (.inr ⟨{ cls := .type "list", data := .seq vs.toArray }, if_pos rfl⟩)) (fun b => ?_) good
    by_cases n : b = a
    · exact .inr ⟨_, _, if_pos n⟩
    · exact .inl (if_neg n)
end
theorem walk_dlG {l : PySem.W.OpenLaw} {k : Nat} {q : Program} {loose : List Str} {XP : (Str → Option Value) → Heap → Prop} {YP : World → Heap → Prop} {d : DefRec} {K : Params → PySem.W.Frag} {x qual : Str} {st : Stmt} {N : List Str} {m : SM} (hn : l.most = some 63) (hdf : d.params.defaults = []) (hr : Room (k + 1) callerA)
    (hY : ∀ (w : World) (h : Heap), YP w h → (K w.params).In h) (Sc : FnScope N ["script"] (defScope st))
    (F : ∀ (w : World) (mg : Str → Option Value) (fa : Addr) (h : Heap), (K w.params).In h → h.Ns mainGlobals mg → mg d.name = some (.ref fa) →
      ∃ fd : FuncData, Fun (K w.params) x qual st fa fd ∧ (∀ (s : Shared) (u : Value), BindsTo s fd ⟨[u], []⟩ [("script", u)]) ∧ ∀ base : Heap, (K w.params).In base → base.Ns mainGlobals mg → TopB l.prog w (K w.params) mg base N qual st fa k m)
    (good : ∀ ns : List Int, ns.length ≤ 63 → (∀ z ∈ ns, Builtin.Int.intBits z ≤ 1048576) → runA N.length m [.scr (ns.map .int)] = some (.ok (.bl true))) :
    PySem.W.WalkO q loose XP YP l.row.toRowW d [] (fun f vs => PySem.call f vs) := by
  refine Att.attach_callB hn hdf fun w s₀ s₁ mg mb fa o pm cd doc a vs ns G Y ho hd hcd hmg hobj hints hlen hbits hg => ?_
  have KX := hY w _ Y
  obtain ⟨fd, hF, hbind, body⟩ := F w mg fa _ KX G.T.g hmg
  exact law_top KX G.T.g G.T.b G.T.builtins G.T.nolimit hg hobj hints (Nat.le_trans hlen (by decide)) hr hF Sc hbind body (good ns hlen hbits)
end DL
namespace DL
open PySem L2
/-! ### repr of data -/
section
variable {K : PySem.W.Frag} {X : Cx} {W : WX} {e a b c : Expr} {es : List Expr} {pos : Pos}
def rReprT (K : PySem.W.Frag) : List V → Hp → VK → Prop := fun xs H Q => ∃ x d, xs = [x] ∧ Dp K H x d ∧ PyData.canLay0 d = true ∧ d.depth ≤ 64 ∧ d.showable = true ∧ d.shown.length ≤ sizeLine ∧ Q (.str d.shown) H
theorem call_reprT (hg : X.A.guards = some []) (hu : X.A.units + 66 < cLine) : CallR X (.builtin "repr") (rReprT X.K) := by
  intro pins s σ H xs us Q I rs h
  obtain ⟨x, d, rfl, hd, hc, hdep, hs, hz, q⟩ := h
  cases rs with
  | cons rx r =>
  cases r
  rename_i v
  have ref : ∀ (p : Addr), x = .ref p → wpAny (model X.prog X.w) X.A (call (.builtin "repr") [v]) (EP X pins σ Q) X.xe s := fun p e => by
    subst e
    obtain ⟨as, r1⟩ := Dp.reads I d _ v hd rx
    obtain rfl : v = Value.ref p := rx
    exact PySem.repr_of_reads' r1 hs (PyData.noDict_hsm (PyData.hasDict_of_canLay d hc)) hg (by omega) (fun _ _ q => q) (fun h' u tk hk => ⟨.str _, H, I.kept hk, ⟨_, rfl⟩, q⟩) hz
  cases hd with
  | non => obtain rfl : v = Value.none := rx; exact PySem.P.repr_of_none ⟨.str _, H, I.tok _, ⟨_, rfl⟩, q⟩
  | bl b => obtain rfl : v = Value.bool b := rx; exact PySem.P.repr_of_bool ⟨.str _, H, I.tok _, ⟨_, rfl⟩, by cases b <;> exact q⟩
  | int i =>
    obtain ⟨t, rfl⟩ := rx
    have hs' : decide (i.natAbs.log2 < 1920) = true := hs
    exact PySem.P.repr_of_int (of_decide_eq_true hs') ⟨.str _, H, I.tok _, ⟨_, rfl⟩, q⟩
  | str y => obtain ⟨t, rfl⟩ := rx; exact PySem.P.repr_of_str ⟨.str _, H, I.tok _, ⟨_, rfl⟩, q⟩ hz
  | lst h1 h2 => exact ref _ rfl
  | tup h1 h2 => exact ref _ rfl
mutual
def showD : D → Bool
  | .int i => logOk i
  | .lst xs => showDs xs
  | .tup xs => showDs xs
  | .ktup xs => showDs xs
  | .klst xs => showDs xs
  | .non => true
  | .bl _ => true
  | .str _ => true
  | _ => false
def showDs : List D → Bool
  | [] => true
  | x :: xs => showD x && showDs xs
end
/-! what a text of it has at most -/
mutual
def rb : D → Nat
  | .int i => (intS i).length
  | .str x => (reprText x).length
  | .lst xs => rbs xs + 3
  | .tup xs => rbs xs + 3
  | .ktup xs => rbs xs + 3
  | .klst xs => rbs xs + 3
  | _ => 5
def rbs : List D → Nat
  | [] => 0
  | x :: xs => rb x + 2 + rbs xs
end
mutual
theorem showD_ok : ∀ d : D, showD d = true → (toP d).showable = true
  | .non, _ => by simp [toP, PyData.showable]
  | .bl _, _ => by simp [toP, PyData.showable]
  | .int i, h => h
  | .str x, _ => by simp [toP, PyData.showable]
  | .lst xs, h => by
    show PyData.showable (.list (toPs xs)) = true
    simp only [PyData.showable]
    exact showDs_ok xs h
  | .tup xs, h => by
    show PyData.showable (.tuple (toPs xs)) = true
    simp only [PyData.showable]
    exact showDs_ok xs h
  | .klst xs, h => by
    show PyData.showable (.list (toPs xs)) = true
    simp only [PyData.showable]
    exact showDs_ok xs h
  | .ktup xs, h => by
    show PyData.showable (.tuple (toPs xs)) = true
    simp only [PyData.showable]
    exact showDs_ok xs h
  | .dK _, h => by cases h
  | .dT _, h => by cases h
  | .fn _, h => by cases h
  | .scr _, h => by cases h
  | .ty _, h => by cases h
  | .rng _ _, h => by cases h
theorem showDs_ok : ∀ d : List D, showDs d = true → PyData.showableAll (toPs d) = true
  | [], _ => by simp [toPs, PyData.showableAll]
  | x :: xs, h => by
    have h : (showD x && showDs xs) = true := h
    rw [Bool.and_eq_true] at h
    show PyData.showableAll (toP x :: toPs xs) = true
    simp only [PyData.showableAll]
    rw [showD_ok x h.1, showDs_ok xs h.2]; rfl
end
theorem none_len : (PyData.shown .none).length ≤ 5 := by decide +kernel
theorem bool_len (b : Bool) : (PyData.shown (.bool b)).length ≤ 5 := by cases b <;> decide +kernel
mutual
theorem rb_ok : ∀ d : D, okD d = true → (toP d).shown.length ≤ rb d
  | .non, _ => none_len
  | .bl b, _ => bool_len b
  | .int i, _ => by
    show (PyData.shown (.int i)).length ≤ (intS i).length
    simp only [PyData.shown]
    exact Nat.le_refl _
  | .str x, _ => by
    show (PyData.shown (.str x)).length ≤ (reprText x).length
    simp only [PyData.shown]
    exact Nat.le_refl _
  | .lst xs, h => by
    show (PyData.shown (.list (toPs xs))).length ≤ rbs xs + 3
    simp only [PyData.shown]
    have a := listText_len_le (PyData.shownAll (toPs xs))
    have b := rbs_ok xs h
    omega
  | .tup xs, h => by
    show (PyData.shown (.tuple (toPs xs))).length ≤ rbs xs + 3
    simp only [PyData.shown]
    have a := tupleText_len_le (PyData.shownAll (toPs xs))
    have b := rbs_ok xs h
    omega
  | .klst xs, h => by
    show (PyData.shown (.list (toPs xs))).length ≤ rbs xs + 3
    simp only [PyData.shown]
    have a := listText_len_le (PyData.shownAll (toPs xs))
    have b := rbs_ok xs h
    omega
  | .ktup xs, h => by
    show (PyData.shown (.tuple (toPs xs))).length ≤ rbs xs + 3
    simp only [PyData.shown]
    have a := tupleText_len_le (PyData.shownAll (toPs xs))
    have b := rbs_ok xs h
    omega
  | .dK _, h => by cases h
  | .dT _, h => by cases h
  | .fn _, h => by cases h
  | .scr _, h => by cases h
  | .ty _, h => by cases h
  | .rng _ _, h => by cases h
theorem rbs_ok : ∀ d : List D, okDs d = true → ((PyData.shownAll (toPs d)).map (·.length)).sum + 2 * (PyData.shownAll (toPs d)).length ≤ rbs d
  | [], _ => by
    have e : PyData.shownAll (toPs []) = [] := by show PyData.shownAll [] = []; simp only [PyData.shownAll]
    rw [e]; simp [rbs]
  | x :: xs, h => by
    have h : (okD x && okDs xs) = true := h
    rw [Bool.and_eq_true] at h
    have e : PyData.shownAll (toPs (x :: xs)) = (toP x).shown :: PyData.shownAll (toPs xs) := by show PyData.shownAll (toP x :: toPs xs) = _; simp only [PyData.shownAll]
    have a := rb_ok x h.1
    have b := rbs_ok xs h.2
    rw [e, List.map_cons, List.sum_cons, List.length_cons]
    show _ ≤ rb x + 2 + rbs xs
    omega
end
def reprD (d : D) : Str := (toP d).shown
def dRepr (d : D) : Option D := if (shp d && showD d) = true then if rb d ≤ 1000000 then some (.str (reprD d)) else none else none
theorem cd_repr (hg : X.A.guards = some []) (hu : X.A.units + 66 < cLine) : CallD K X (.builtin "repr") (rReprT K) (g1 dRepr) := ⟨fun k => by rw [← k]; exact call_reprT hg hu, g1_ok fun x d c Z H Q s hx hg p => by
  unfold dRepr at hg
  split at hg
  · rename_i h1
    split at hg
    · rename_i h2
      cases hg
      rw [Bool.and_eq_true] at h1
      have h0 := h1.1
      unfold shp at h0
      rw [Bool.and_eq_true, decide_eq_true_eq] at h0
      exact ⟨x, toP d, rfl, hx.dp s (shaped_can h1.1), shaped_can h1.1, by rw [depD_dep d h0.1]; exact h0.2, showD_ok d h1.2, Nat.le_trans (rb_ok d h0.1) (size_le h2), p _ Z H (ExtP.refl s) (.str _)⟩
    · cases hg
  · cases hg⟩
theorem units66 {k : Nat} {A : Around} (r : Room k A) : A.units + 66 < cLine := by have := r.un; omega
end
end DL
namespace DL
open PySem L2
section
variable {K : PySem.W.Frag} {X : Cx} {W : WX} {e a b c : Expr} {es : List Expr} {pos : Pos}
/-! ### order of ints, texts, truths -/
def lexS (x y : Str) : Bool := decide (x.cps.toList < y.cps.toList)
def b2n (b : Bool) : Int := if b then 1 else 0
def dLt2 : D → D → Option D
  | .int i, .int j => some (.bl (decide (i < j)))
  | .str x, .str y => some (.bl (lexS x y))
  | .bl p, .bl q => some (.bl (decide (b2n p < b2n q)))
  | _, _ => none
def dLe2 : D → D → Option D
  | .int i, .int j => some (.bl (decide (i ≤ j)))
  | .str x, .str y => some (.bl (!lexS y x))
  | .bl p, .bl q => some (.bl (decide (b2n p ≤ b2n q)))
  | _, _ => none
theorem bool_dLt2 : boolD dLt2 := fun d e c h => by
  unfold dLt2 at h
  split at h <;> first | (cases h; exact ⟨_, rfl⟩) | cases h
theorem bool_dLe2 : boolD dLe2 := fun d e c h => by
  unfold dLe2 at h
  split at h <;> first | (cases h; exact ⟨_, rfl⟩) | cases h
theorem op_lt_bl : OpR X (compareOp .Lt) (fun x y H Q => ∃ p q, x = .bl p ∧ y = .bl q ∧ Q (.bl (decide (b2n p < b2n q))) H) := by
  intro pins s σ H x y v u Q I rx ry h
  obtain ⟨p, r, rfl, rfl, q⟩ := h
  cases (show v = Value.bool p from rx)
  cases (show u = Value.bool r from ry)
  exact PyProof.Rows.lt_bool ⟨.bl _, H, I, rfl, by cases p <;> cases r <;> exact q⟩
theorem op_le_bl : OpR X (compareOp .LtE) (fun x y H Q => ∃ p q, x = .bl p ∧ y = .bl q ∧ Q (.bl (decide (b2n p ≤ b2n q))) H) := by
  intro pins s σ H x y v u Q I rx ry h
  obtain ⟨p, r, rfl, rfl, q⟩ := h
  cases (show v = Value.bool p from rx)
  cases (show u = Value.bool r from ry)
  exact PyProof.Rows.le_bool ⟨.bl _, H, I, rfl, by cases p <;> cases r <;> exact q⟩
theorem od_lt2 : OpD K X (compareOp .Lt) (fun x y H Q => rI0 (fun i j => .bl (decide (i < j))) x y H Q ∨ (∃ i j, x = .str i ∧ y = .str j ∧ Q (.bl (decide (i.cps.toList < j.cps.toList))) H) ∨ ∃ p q, x = .bl p ∧ y = .bl q ∧ Q (.bl (decide (b2n p < b2n q))) H) dLt2 where
  op := fun _ pins s σ H x y v u Q I rx ry h => by
    rcases h with h | h | h
    · exact op_lt pins s σ H x y v u Q I rx ry h
    · exact op_lt_str pins s σ H x y v u Q I rx ry h
    · exact op_lt_bl pins s σ H x y v u Q I rx ry h
  ok := by
    intro x y d e c Z H Q s hx hy hg p
    unfold dLt2 at hg
    split at hg
    · cases hx; cases hy; cases hg; exact .inl ⟨_, _, rfl, rfl, p _ Z H (ExtP.refl s) (.bl _)⟩
    · cases hx; cases hy; cases hg; exact .inr (.inl ⟨_, _, rfl, rfl, p _ Z H (ExtP.refl s) (.bl _)⟩)
    · cases hx; cases hy; cases hg; exact .inr (.inr ⟨_, _, rfl, rfl, p _ Z H (ExtP.refl s) (.bl _)⟩)
    · cases hg
theorem od_le2 : OpD K X (compareOp .LtE) (fun x y H Q => rI0 (fun i j => .bl (decide (i ≤ j))) x y H Q ∨ (∃ i j, x = .str i ∧ y = .str j ∧ Q (.bl (!decide (j.cps.toList < i.cps.toList))) H) ∨ ∃ p q, x = .bl p ∧ y = .bl q ∧ Q (.bl (decide (b2n p ≤ b2n q))) H) dLe2 where
  op := fun _ pins s σ H x y v u Q I rx ry h => by
    rcases h with h | h | h
    · exact op_le pins s σ H x y v u Q I rx ry h
    · exact op_le_str pins s σ H x y v u Q I rx ry h
    · exact op_le_bl pins s σ H x y v u Q I rx ry h
  ok := by
    intro x y d e c Z H Q s hx hy hg p
    unfold dLe2 at hg
    split at hg
    · cases hx; cases hy; cases hg; exact .inl ⟨_, _, rfl, rfl, p _ Z H (ExtP.refl s) (.bl _)⟩
    · cases hx; cases hy; cases hg; exact .inr (.inl ⟨_, _, rfl, rfl, p _ Z H (ExtP.refl s) (.bl _)⟩)
    · cases hx; cases hy; cases hg; exact .inr (.inr ⟨_, _, rfl, rfl, p _ Z H (ExtP.refl s) (.bl _)⟩)
    · cases hg
/-! ### is True, is False -/
def dIs : D → D → Option D
  | .bl p, .bl q => some (.bl (decide (p = q)))
  | _, _ => none
def dIsN : D → D → Option D
  | .bl p, .bl q => some (.bl (!decide (p = q)))
  | _, _ => none
theorem bool_dIs : boolD dIs := fun d e c h => by
  unfold dIs at h
  split at h <;> first | (cases h; exact ⟨_, rfl⟩) | cases h
theorem bool_dIsN : boolD dIsN := fun d e c h => by
  unfold dIsN at h
  split at h <;> first | (cases h; exact ⟨_, rfl⟩) | cases h
theorem od_is : OpD K X (compareOp .Is) rIsB dIs := ⟨fun _ => op_isBl, by
    intro x y d e c Z H Q s hx hy hg p
    unfold dIs at hg
    split at hg
    · cases hx; cases hy; cases hg; exact ⟨_, _, rfl, rfl, p _ Z H (ExtP.refl s) (.bl _)⟩
    · cases hg⟩
theorem od_isn : OpD K X (compareOp .IsNot) rNotB dIsN := ⟨fun _ => op_notBl, by
    intro x y d e c Z H Q s hx hy hg p
    unfold dIsN at hg
    split at hg
    · cases hx; cases hy; cases hg; exact ⟨_, _, rfl, rfl, p _ Z H (ExtP.refl s) (.bl _)⟩
    · cases hg⟩
/-! ### lists one behind the other -/
def rCatL (K : PySem.W.Frag) : R2 := fun x y H Q => ∃ l b xs zs, x = .ref l ∧ y = .ref b ∧ SqL K H l xs ∧ SqL K H b zs ∧ xs.length + zs.length ≤ sizeLine ∧ ∀ p, H p = none → Q (.ref p) (upd H p (.lst (xs ++ zs)))
theorem op_catL : OpR X (binaryOp .Add) (rCatL X.K) := by
  intro pins s σ H x y v u Q I rx ry h
  obtain ⟨l, b, xs, zs, rfl, rfl, hx, hy, hz, q⟩ := h
  obtain rfl : v = Value.ref l := rx
  obtain rfl : u = Value.ref b := ry
  obtain ⟨its, r, ⟨⟨cls, dd, data, sl⟩, n, ho, hc, hdn, hd⟩, _⟩ := I.list hx
  obtain ⟨its2, r2, ⟨⟨cls2, dd2, data2, sl2⟩, n2, ho2, hc2, hdn2, hd2⟩, _⟩ := I.list hy
  simp only at hc hd hdn hc2 hd2 hdn2
  subst hc hd hdn hc2 hd2 hdn2
  have hl := r.length
  have hl2 := r2.length
  refine concat_meets ⟨_, ho, rfl⟩ ⟨_, ho2, rfl⟩ noFill_list_add seq_list_add PySem.F.slot_list_add PySem.F.entry_list_add (PySem.F.args_list_add_2 _ _) (PyProof.Rows.list_addW l b its.toArray its2.toArray n n2 none none sl sl2 (by simp; omega)) ⟨ho, ho2, ?_⟩
  have e : its.toArray ++ its2.toArray = (its ++ its2).toArray := by simp
  rw [e]
  exact ⟨.ref _, _, I.lnew (t' := s.toks) (r.append r2) (by rw [List.length_append]; omega), rfl, q _ I.fresh⟩
def dAdd2 : D → D → Option D
  | .int i, .int j => some (.int (i + j))
  | .str x, .str y => if x.length + y.length ≤ 1000000 then some (.str (x ++ y)) else none
  | .lst x, .lst y => if x.length + y.length ≤ 1000000 then some (.lst (x ++ y)) else none
  | _, _ => none
theorem od_add2 : OpD K X (binaryOp .Add) (fun x y H Q => rI0 (fun i j => .int (i + j)) x y H Q ∨ (∃ i j, x = .str i ∧ y = .str j ∧ i.length + j.length ≤ sizeLine ∧ Q (.str (i ++ j)) H) ∨ rCatL K x y H Q) dAdd2 where
  op := fun k pins s σ H x y v u Q I rx ry h => by
    subst k
    rcases h with h | h | h
    · exact op_add pins s σ H x y v u Q I rx ry h
    · exact op_add_str pins s σ H x y v u Q I rx ry h
    · exact op_catL pins s σ H x y v u Q I rx ry h
  ok := by
    intro x y d e c Z H Q s hx hy hg p
    unfold dAdd2 at hg
    split at hg
    · cases hx; cases hy; cases hg
      exact .inl ⟨_, _, rfl, rfl, p _ Z H (ExtP.refl s) (.int _)⟩
    · split at hg
      · rename_i hl
        cases hx; cases hy; cases hg
        exact .inr (.inl ⟨_, _, rfl, rfl, size_le hl, p _ Z H (ExtP.refl s) (.str _)⟩)
      · cases hg
    · split at hg
      · rename_i hl
        cases hg
        cases hx with
        | lst h1 h2 =>
        cases hy with
        | lst h3 h4 =>
        exact .inr (.inr ⟨_, _, _, _, rfl, rfl, .inl (same_rd s h1), .inl (same_rd s h3), by rw [h2.length, h4.length]; exact size_le hl, fun l hl => p _ _ _ (ExtP.new s hl) (.lst (.inl upd_same) ((h2.append h4).mono (same_upd (none_of s hl))))⟩)
      · cases hg
    · cases hg
end
end DL
namespace DL
open PySem L2
section
variable {K : PySem.W.Frag} {X : Cx} {W : WX} {e a b c tg iter tg1 iter1 elt : Expr} {es : List Expr} {pos : Pos}
/-! ### a comprehension with two fors -/
theorem RepV.mono2 {Z Z' : Hp} {I I' : List Addr} (z : Same Z Z') (i : ∃ t, I' = I ++ t) {v : V} : ∀ {d : DV}, RepV K Z I v d → RepV K Z' I' v d
  | .p _, h => Rep.mono z h
  | .o n, ⟨a, h, q⟩ => by
    obtain ⟨t, rfl⟩ := i
    exact ⟨a, by rw [List.getElem?_append_left (List.getElem?_eq_some_iff.mp h).1]; exact h, q⟩
theorem RepS.mono2 {Z Z' : Hp} {I I' : List Addr} {σ : St} {l : List (Option DV)} (r : RepS K Z I σ l) (z : Same Z Z') (i : ∃ t, I' = I ++ t) : RepS K Z' I' σ l := ⟨r.len, fun n dv h => by
  obtain ⟨v, h1, h2⟩ := r.at_ n dv h
  exact ⟨v, h1, h2.mono2 z i⟩⟩
theorem ex_app {I1 I2 I3 : List Addr} (a : ∃ t, I2 = I1 ++ t) (b : ∃ t, I3 = I2 ++ t) : ∃ t, I3 = I1 ++ t := by
  obtain ⟨t, rfl⟩ := a
  obtain ⟨u, rfl⟩ := b
  exact ⟨t ++ u, by rw [List.append_assoc]⟩
abbrev HG (K : PySem.W.Frag) (g : TG) (gm : GM) (ix : List Nat) : Prop := ∀ (v : V) (dv : DV) (σ : St) (H : Hp) (s s' : S) (Z : Hp) (I : List Addr) (Q : St → Hp → Prop), Wf K Z H I s.m → RepS K Z I σ s.l → RepV K Z I v dv → gm dv s = some s' →
      (∀ σ' Z' H' I', Wf K Z' H' I' s'.m → RepS K Z' I' σ' s'.l → Ext Z H I Z' H' I' → (∀ vs, (∀ i ∈ ix, i ∈ vs) → L2.wipe σ' vs = L2.wipe σ vs) → Q σ' H') → g v σ H Q
/-- the loop within -/
theorem inner_ok {g1 : TG} {tt1 : TT} {te : TE} {vs1 : List Nat} {gm1 : GM} {ix1 : List Nat} {t1 em : EM} (hg : HG K g1 gm1 ix1) (hix : ∀ i ∈ ix1, i ∈ vs1) (ht : Sound K WF RepB tt1 t1) (he : Sound K WF (RepV K) te em)
    {Z1 H1 : Hp} {I1 : List Addr} {D : Addr} (hD : H1 D = none) {σ2 : St} {l2 : List (Option DV)} {Z4 H4 : Hp} {I4 : List Addr} {M4 : List O} {J1 : It} {ds1 : List DV} (q : ItOk K Z4 I4 J1 ds1) (rs : RepS K Z4 I4 σ2 l2)
    {acc : List V} {bd : List DL.D} (f : Fill K Z1 H1 I1 D Z4 H4 I4 M4 acc bd) {ad : List DL.D} {Mf : List O} (e : compL (wipeL l2 vs1) gm1 t1 em ds1 bd M4 = some (ad, Mf)) {Nx : Hp → Prop} (k : ∀ Z' H' I' acc', Fill K Z1 H1 I1 D Z' H' I' Mf acc' ad → Nx H') :
    ∃ W1 : Nat → Nat → Hp → Prop, (∃ m, W1 0 m H4) ∧ ∀ j k H, W1 j k H → (J1.stop j H ∧ Nx H) ∨ (J1.go j H ∧ ∃ Nx1 : Hp → Prop, (∀ H', Nx1 H' → ∃ k', k' < k ∧ W1 (j + 1) k' H') ∧ ∀ x H', J1.yld j H x H' → g1 x (L2.wipe σ2 vs1) H' fun σ3 H5 => L2.wipe σ3 vs1 = L2.wipe σ2 vs1 ∧ tt1 σ3 H5 fun b H6 =>
        if b = true then te σ3 H6 fun y H7 => ∃ acc, H7 D = some (.lst acc) ∧ acc.length < sizeLine ∧ Nx1 (upd H7 D (.lst (acc ++ [y]))) else Nx1 H6) := by
  refine ⟨fun i m H' => m = ds1.length - i ∧ i ≤ ds1.length ∧ ∃ Z' I' M acc bd, Fill K Z1 H1 I1 D Z' H' I' M acc bd ∧ Same Z4 Z' ∧ (∃ t, I' = I4 ++ t) ∧ compL (wipeL l2 vs1) gm1 t1 em (ds1.drop i) bd M = some (ad, Mf), ⟨ds1.length, by simp, Nat.zero_le _, Z4, I4, M4, acc, bd, f, Same.refl _, ⟨[], by simp⟩, e⟩, ?_⟩
  rintro i m H' ⟨rfl, hil, Z', I', M, acc, bd, f, sz, si, e'⟩
  have Jo := q Z' H' I' sz si f.w.sub i
  by_cases hlt : i < ds1.length
  · right
    have hd : ds1[i]? = some ds1[i] := by simp [hlt]
    obtain ⟨go, yl⟩ := Jo.1 _ hd
    rw [List.drop_eq_getElem_cons hlt] at e'
    refine ⟨go, fun H2 => ∃ Z2 I2 M2 acc2 bd2, Fill K Z1 H1 I1 D Z2 H2 I2 M2 acc2 bd2 ∧ Same Z4 Z2 ∧ (∃ t, I2 = I4 ++ t) ∧ compL (wipeL l2 vs1) gm1 t1 em (ds1.drop (i + 1)) bd2 M2 = some (ad, Mf),
      fun H2 h2 => ⟨ds1.length - (i + 1), by omega, rfl, hlt, h2⟩, fun x H2 hx => ?_⟩
    obtain ⟨Z2, x2, rx⟩ := yl x H2 hx
    have f2 := f.step (f.w.extP x2) (x2.ext f.w)
    have sz2 := sz.trans x2.z
    have rs2 : RepS K Z2 I' (L2.wipe σ2 vs1) (wipeL l2 vs1) := (rs.mono2 sz2 si).wipe vs1
    unfold compL at e'
    cases zg : gm1 ds1[i] ⟨wipeL l2 vs1, M⟩ with
    | none => rw [zg] at e'; cases e'
    | some s1 =>
      rw [zg] at e'
      refine hg x ds1[i] (L2.wipe σ2 vs1) H2 ⟨wipeL l2 vs1, M⟩ s1 Z2 I' _ f2.w rs2 rx zg fun σ3 Z3 H3 I3 w3 rs3 x3 k3 => ?_
      have f3 := f2.step w3 x3
      have sz3 := sz2.trans x3.z
      have si3 := ex_app si x3.i
      refine ⟨(k3 vs1 hix).trans (wipe_wipe vs1 vs1 fun _ h => h), ?_⟩
      have e' : (match t1 s1 with
        | some (.ok (.p (.bl true)) M1) => match em ⟨s1.l, M1⟩ with
          | some (.ok (.p y) M2) => if bd.length < 1000000 then compL (wipeL l2 vs1) gm1 t1 em (ds1.drop (i + 1)) (bd ++ [y]) M2 else none
          | _ => none
        | some (.ok (.p (.bl false)) M1) => compL (wipeL l2 vs1) gm1 t1 em (ds1.drop (i + 1)) bd M1
        | _ => none) = some (ad, Mf) := e'
      cases zt : t1 s1 with
      | none => rw [zt] at e'; cases e'
      | some rt =>
        rw [zt] at e'
        refine ht.ok σ3 H3 s1 Z3 I3 rt _ w3 rs3 zt ?_
        cases rt with
        | ex c fs M4 => cases e'
        | ok d4 M4 =>
          intro b Z5 H5 I5 w4 x4 r4
          cases (show d4 = .p (.bl b) from r4)
          have f4 := f3.step w4 x4
          have sz4 := sz3.trans x4.z
          have si4 := ex_app si3 x4.i
          cases b with
          | false =>
            rw [if_neg Bool.false_ne_true]
            exact ⟨Z5, I5, M4, acc, bd, f4, sz4, si4, e'⟩
          | true =>
            rw [if_pos rfl]
            have e' : (match em ⟨s1.l, M4⟩ with
              | some (.ok (.p y) M2) => if bd.length < 1000000 then compL (wipeL l2 vs1) gm1 t1 em (ds1.drop (i + 1)) (bd ++ [y]) M2 else none
              | _ => none) = some (ad, Mf) := e'
            cases ze : em ⟨s1.l, M4⟩ with
            | none => rw [ze] at e'; cases e'
            | some re =>
              rw [ze] at e'
              refine he.ok σ3 H5 ⟨s1.l, M4⟩ Z5 I5 re _ w4 (rs3.mono x4) ze ?_
              cases re with
              | ex c fs M5 => cases e'
              | ok d5 M5 =>
                intro y Z6 H6 I6 w5 x5 r5
                have f5 := f4.step w5 x5
                cases d5 with
                | o n => cases e'
                | p d5 =>
                  have e' : (if bd.length < 1000000 then compL (wipeL l2 vs1) gm1 t1 em (ds1.drop (i + 1)) (bd ++ [d5]) M5 else none) = some (ad, Mf) := e'
                  split at e'
                  · rename_i hlen
                    refine ⟨acc, f5.at_, by rw [f5.r.length]; exact size_lt (Nat.le_of_lt hlen), ?_⟩
                    exact ⟨Z6, I6, M5, _, _, f5.put hD r5, sz4.trans x5.z, ex_app si4 x5.i, e'⟩
                  · cases e'
  · left
    have e0 : ds1.drop i = [] := List.drop_eq_nil_of_le (by omega)
    rw [e0] at e'
    cases e'
    exact ⟨Jo.2 (by omega), k Z' H' I' acc f⟩
def compL2 (l : List (Option DV)) (g : GM) (t : EM) (it1 : IM) (g1 : GM) (t1 e : EM) (vs1 : List Nat) : List DV → List D → List O → Option (List D × List O)
  | [], acc, M => some (acc, M)
  | d :: ds, acc, M => match g d ⟨l, M⟩ with
    | none => none
    | some s1 => match t s1 with
      | some (.ok (.p (.bl true)) M1) => match it1 ⟨s1.l, M1⟩ with
        | some (.ok ds1 M2) => match compL (wipeL s1.l vs1) g1 t1 e ds1 acc M2 with
          | some (acc', M3) => compL2 l g t it1 g1 t1 e vs1 ds acc' M3
          | none => none
        | _ => none
      | some (.ok (.p (.bl false)) M1) => compL2 l g t it1 g1 t1 e vs1 ds acc M1
      | _ => none
def mLc2 (it : IM) (vs : List Nat) (g : GM) (t : EM) (it1 : IM) (vs1 : List Nat) (g1 : GM) (t1 e : EM) : EM := bnd it fun ds s => match compL2 (wipeL s.l vs) g t it1 g1 t1 e vs1 ds [] s.m with
  | some (acc, M) => some (.ok (.p (.lst acc)) M)
  | none => none
theorem tLc2_ok {wi wi1 : TI} {g g1 : TG} {tt tt1 : TT} {te : TE} {vs vs1 : List Nat} {it it1 : IM} {gm gm1 : GM} {ix ix1 : List Nat} {t t1 em : EM} (hi : Sound K W (ItOk K) wi it) (hg : HG K g gm ix) (hix : ∀ i ∈ ix, i ∈ vs) (ht : Sound K WF RepB tt t)
    (hi1 : Sound K WF (ItOk K) wi1 it1) (hg1 : HG K g1 gm1 ix1) (hix1 : ∀ i ∈ ix1, i ∈ vs1) (ht1 : Sound K WF RepB tt1 t1) (he : Sound K WF (RepV K) te em) {σ : St} {H : Hp} {s : S} {Z : Hp} {I : List Addr} {r : Rs DV} {Q : VK} {k : List D → List O → Rs DV} (w : Wf K Z H I s.m) (rs : RepS K Z I σ s.l)
    (e : bnd it (fun ds s => match compL2 (wipeL s.l vs) gm t it1 gm1 t1 em vs1 ds [] s.m with | some (acc, M) => some (k acc M) | none => none) s = some r) (px : ∀ c fs M, r = .ex c fs M → PostX K W Z H I σ M c fs)
    (hk : ∀ Z1 H1 I1 D Z' H' I' M acc ad, r = k ad M → H1 D = none → Ext Z H I Z1 H1 I1 → Fill K Z1 H1 I1 D Z' H' I' M acc ad → Q (.ref D) H') : tLc2 wi g tt wi1 g1 tt1 te vs vs1 σ H Q := by
  refine hi.bnd w rs e px fun ds J M1 Z1 H1 I1 w1 rs1 x1 q1 e1 => ?_
  have e1 : (match compL2 (wipeL s.l vs) gm t it1 gm1 t1 em vs1 ds [] M1 with | some (acc, M) => some (k acc M) | none => none) = some r := e1
  cases zc : compL2 (wipeL s.l vs) gm t it1 gm1 t1 em vs1 ds [] M1 with
  | none => rw [zc] at e1; cases e1
  | some am =>
    rw [zc] at e1
    obtain ⟨ad, Mf⟩ := am
    have e1 : some (k ad Mf) = some r := e1
    intro D hD
    have f0 : Fill K Z1 H1 I1 D Z1 (upd H1 D (.lst [])) I1 M1 [] [] := by
      refine ⟨⟨fun a u q => by rw [upd_ne (ne_of_none (w1.sub a u q) hD)]; exact w1.sub a u q, w1.len, w1.nd, fun a m => by rw [upd_ne (fun q => w1.tr a m (by rw [q]; exact hD))]; exact w1.tr a m, fun n a o h1 h2 h3 => ?_⟩, ⟨Same.refl _, ⟨[], by simp⟩, fun a o q _ => by rw [upd_ne (ne_of_none q hD)]; exact q, fun _ m => .inl m, fun _ m => .inl m, fun a q => by rw [upd_ne (fun y => q (by rw [y]; exact hD))]; exact q⟩, upd_same, none_of w1.sub hD, fun m => w1.tr D m hD, .nil⟩
      obtain ⟨q1, q2⟩ := w1.ob n a o h1 h2 h3
      exact ⟨q1, q2.mono (Same.refl _) (upd_ne fun q => w1.tr a (List.mem_of_getElem? h1) (by rw [q]; exact hD))⟩
    refine ⟨fun i m H' => m = ds.length - i ∧ i ≤ ds.length ∧ ∃ Z' I' M acc bd, Fill K Z1 H1 I1 D Z' H' I' M acc bd ∧ compL2 (wipeL s.l vs) gm t it1 gm1 t1 em vs1 (ds.drop i) bd M = some (ad, Mf), ⟨ds.length, by simp, Nat.zero_le _, Z1, I1, M1, [], [], f0, zc⟩, ?_⟩
    rintro i m H' ⟨rfl, hil, Z', I', M, acc, bd, f, e'⟩
    have Jo := q1 Z' H' I' f.x.z f.x.i f.w.sub i
    by_cases hlt : i < ds.length
    · right
      have hd : ds[i]? = some ds[i] := by simp [hlt]
      obtain ⟨go, yl⟩ := Jo.1 _ hd
      rw [List.drop_eq_getElem_cons hlt] at e'
      refine ⟨go, fun H2 => ∃ Z2 I2 M2 acc2 bd2, Fill K Z1 H1 I1 D Z2 H2 I2 M2 acc2 bd2 ∧ compL2 (wipeL s.l vs) gm t it1 gm1 t1 em vs1 (ds.drop (i + 1)) bd2 M2 = some (ad, Mf),
        fun H2 h2 => ⟨ds.length - (i + 1), by omega, rfl, hlt, h2⟩, fun x H2 hx => ?_⟩
      obtain ⟨Z2, x2, rx⟩ := yl x H2 hx
      have f2 := f.step (f.w.extP x2) (x2.ext f.w)
      have rs2 : RepS K Z2 I' (L2.wipe σ vs) (wipeL s.l vs) := ((rs1.mono f2.x)).wipe vs
      unfold compL2 at e'
      cases zg : gm ds[i] ⟨wipeL s.l vs, M⟩ with
      | none => rw [zg] at e'; cases e'
      | some s1 =>
        rw [zg] at e'
        refine hg x ds[i] (L2.wipe σ vs) H2 ⟨wipeL s.l vs, M⟩ s1 Z2 I' _ f2.w rs2 rx zg fun σ3 Z3 H3 I3 w3 rs3 x3 k3 => ?_
        have f3 := f2.step w3 x3
        refine ⟨(k3 vs hix).trans (wipe_wipe vs vs fun _ h => h), ?_⟩
        have e' : (match t s1 with
          | some (.ok (.p (.bl true)) M1) => match it1 ⟨s1.l, M1⟩ with
            | some (.ok ds1 M2) => match compL (wipeL s1.l vs1) gm1 t1 em ds1 bd M2 with
              | some (acc', M3) => compL2 (wipeL s.l vs) gm t it1 gm1 t1 em vs1 (ds.drop (i + 1)) acc' M3
              | none => none
            | _ => none
          | some (.ok (.p (.bl false)) M1) => compL2 (wipeL s.l vs) gm t it1 gm1 t1 em vs1 (ds.drop (i + 1)) bd M1
          | _ => none) = some (ad, Mf) := e'
        cases zt : t s1 with
        | none => rw [zt] at e'; cases e'
        | some rt =>
          rw [zt] at e'
          refine ht.ok σ3 H3 s1 Z3 I3 rt _ w3 rs3 zt ?_
          cases rt with
          | ex c fs M4 => cases e'
          | ok d4 M4 =>
            intro b Z4 H4 I4 w4 x4 r4
            cases (show d4 = .p (.bl b) from r4)
            have f4 := f3.step w4 x4
            cases b with
            | false =>
              rw [if_neg Bool.false_ne_true]
              exact ⟨Z4, I4, M4, acc, bd, f4, e'⟩
            | true =>
              rw [if_pos rfl]
              have e' : (match it1 ⟨s1.l, M4⟩ with
                | some (.ok ds1 M2) => match compL (wipeL s1.l vs1) gm1 t1 em ds1 bd M2 with
                  | some (acc', M3) => compL2 (wipeL s.l vs) gm t it1 gm1 t1 em vs1 (ds.drop (i + 1)) acc' M3
                  | none => none
                | _ => none) = some (ad, Mf) := e'
              cases zi : it1 ⟨s1.l, M4⟩ with
              | none => rw [zi] at e'; cases e'
              | some ri =>
                rw [zi] at e'
                refine hi1.ok σ3 H4 ⟨s1.l, M4⟩ Z4 I4 ri _ w4 (rs3.mono x4) zi ?_
                cases ri with
                | ex c fs M5 => cases e'
                | ok ds1 M5 =>
                  intro J1 Z5 H5 I5 w5 x5 q5
                  have f5 := f4.step w5 x5
                  have e' : (match compL (wipeL s1.l vs1) gm1 t1 em ds1 bd M5 with
                    | some (acc', M3) => compL2 (wipeL s.l vs) gm t it1 gm1 t1 em vs1 (ds.drop (i + 1)) acc' M3
                    | none => none) = some (ad, Mf) := e'
                  cases zl : compL (wipeL s1.l vs1) gm1 t1 em ds1 bd M5 with
                  | none => rw [zl] at e'; cases e'
                  | some am =>
                    rw [zl] at e'
                    obtain ⟨ad1, M6⟩ := am
                    have e' : compL2 (wipeL s.l vs) gm t it1 gm1 t1 em vs1 (ds.drop (i + 1)) ad1 M6 = some (ad, Mf) := e'
                    exact inner_ok hg1 hix1 ht1 he hD q5 ((rs3.mono x4).mono x5) f5 zl fun Z7 H7 I7 acc7 f7 => ⟨Z7, I7, M6, acc7, ad1, f7, e'⟩
    · left
      have e0 : ds.drop i = [] := List.drop_eq_nil_of_le (by omega)
      rw [e0] at e'
      cases e'
      exact ⟨Jo.2 (by omega), hk Z1 H1 I1 D Z' H' I' _ acc _ (Option.some.inj e1).symm hD x1 f⟩
section
variable {ifs ifs1 : List Expr} {scope : Scope} {own : List (Str × Nat)} {wi wi1 : TI} {g g1 : TG} {tt tt1 : TT} {te : TE} {it it1 : IM} {gm gm1 : GM} {ix ix1 : List Nat} {t t1 em : EM}
theorem so_lc2 {vs vs1 : List Nat} (hi : Sound K W (ItOk K) wi it) (hg : HG K g gm ix) (hix : ∀ i ∈ ix, i ∈ vs) (ht : Sound K WF RepB tt t) (hi1 : Sound K WF (ItOk K) wi1 it1) (hg1 : HG K g1 gm1 ix1) (hix1 : ∀ i ∈ ix1, i ∈ vs1) (ht1 : Sound K WF RepB tt1 t1) (he : Sound K WF (RepV K) te em) :
    Sound K W (RepV K) (tLc2 wi g tt wi1 g1 tt1 te vs vs1) (mLc2 it vs gm t it1 vs1 gm1 t1 em) := ⟨fun σ H s Z I r Q w rs e p => by
  refine tLc2_ok hi hg hix ht hi1 hg1 hix1 ht1 he (k := fun acc M => .ok (.p (.lst acc)) M) w rs e p.x fun Z1 H1 I1 D Z' H' I' M acc ad er h0 x1 f => ?_
  subst er
  obtain ⟨w', x'⟩ := f.frz h0
  exact p _ _ H' I' w' (x1.trans x') (.lst (.inl upd_same) (f.r.mono (same_upd f.nz)))⟩
theorem de_lc2 {vs vs1 : List Nat} (hN : X.N.Nodup) (hc : X.calm = true) (hi : DI K X W tg iter wi it) (ok : BlkOk X.N X.env.scope scope own)
    (hg : ∀ (s : Shared) (H : Hp) (C : Addr) (cl : List (Str × Addr)) (fp : List Addr), DG K (X.blk s H scope (compEnvC scope cl C X.env) fp) tg g gm ix) (ht : ∀ (s : Shared) (H : Hp) (C : Addr) (cl : List (Str × Addr)) (fp : List Addr), DPT K (X.blk s H scope (compEnvC scope cl C X.env) fp) ifs tt t)
    (hi1 : ∀ (s : Shared) (H : Hp) (C : Addr) (cl : List (Str × Addr)) (fp : List Addr), DI K (X.blk s H scope (compEnvC scope cl C X.env) fp) WF tg1 iter1 wi1 it1)
    (hg1 : ∀ (s : Shared) (H : Hp) (C : Addr) (cl : List (Str × Addr)) (fp : List Addr), DG K (X.blk s H scope (compEnvC scope cl C X.env) fp) tg1 g1 gm1 ix1) (ht1 : ∀ (s : Shared) (H : Hp) (C : Addr) (cl : List (Str × Addr)) (fp : List Addr), DPT K (X.blk s H scope (compEnvC scope cl C X.env) fp) ifs1 tt1 t1)
    (he : ∀ (s : Shared) (H : Hp) (C : Addr) (cl : List (Str × Addr)) (fp : List Addr), DE K (X.blk s H scope (compEnvC scope cl C X.env) fp) WF elt te em) (hix : ∀ i ∈ ix, i ∈ own.map (·.2) := by decide) (hix1 : ∀ i ∈ ix1, i ∈ vs1 := by decide) (hv1 : ∀ i ∈ vs1, i ∈ own.map (·.2) := by decide)
    (hs : ∀ x, foldedSetIterable iter X.env x = pure x := by intro _; rfl) (hs1 : ∀ env x, foldedSetIterable iter1 env x = pure x := by intro _ _; rfl) (hv : own.map (·.2) = vs := by rfl) :
    DE K X W (.ListComp elt [⟨tg, iter, ifs, 0⟩, ⟨tg1, iter1, ifs1, 0⟩] scope pos) (tLc2 wi g tt wi1 g1 tt1 te vs vs1) (mLc2 it vs gm t it1 vs1 gm1 t1 em) := by
  subst hv
  exact ⟨hi.k, pe_lc2 hc hN hi.pi ok hv1 (fun s H C cl fp => (hg s H C cl fp).pg) (fun s H C cl fp => (ht s H C cl fp).pt) (fun s H C cl fp => (hi1 s H C cl fp).pi) (fun s H C cl fp => (hg1 s H C cl fp).pg) (fun s H C cl fp => (ht1 s H C cl fp).pt) (fun s H C cl fp => (he s H C cl fp).pe) hs hs1,
    so_lc2 hi.so (hg {} (fun _ => none) 0 [] []).ok hix (ht {} (fun _ => none) 0 [] []).so (hi1 {} (fun _ => none) 0 [] []).so (hg1 {} (fun _ => none) 0 [] []).ok hix1 (ht1 {} (fun _ => none) 0 [] []).so (he {} (fun _ => none) 0 [] []).so⟩
theorem ds_setLc2 {i : Nat} {vs vs1 : List Nat} {y : Str} {py spos : Pos} (hN : X.N.Nodup) (hc : X.calm = true) (hi : DI K X W tg iter wi it) (ok : BlkOk X.N X.env.scope scope own)
    (hg : ∀ (s : Shared) (H : Hp) (C : Addr) (cl : List (Str × Addr)) (fp : List Addr), DG K (X.blk s H scope (compEnvC scope cl C X.env) fp) tg g gm ix) (ht : ∀ (s : Shared) (H : Hp) (C : Addr) (cl : List (Str × Addr)) (fp : List Addr), DPT K (X.blk s H scope (compEnvC scope cl C X.env) fp) ifs tt t)
    (hi1 : ∀ (s : Shared) (H : Hp) (C : Addr) (cl : List (Str × Addr)) (fp : List Addr), DI K (X.blk s H scope (compEnvC scope cl C X.env) fp) WF tg1 iter1 wi1 it1)
    (hg1 : ∀ (s : Shared) (H : Hp) (C : Addr) (cl : List (Str × Addr)) (fp : List Addr), DG K (X.blk s H scope (compEnvC scope cl C X.env) fp) tg1 g1 gm1 ix1) (ht1 : ∀ (s : Shared) (H : Hp) (C : Addr) (cl : List (Str × Addr)) (fp : List Addr), DPT K (X.blk s H scope (compEnvC scope cl C X.env) fp) ifs1 tt1 t1)
    (he : ∀ (s : Shared) (H : Hp) (C : Addr) (cl : List (Str × Addr)) (fp : List Addr), DE K (X.blk s H scope (compEnvC scope cl C X.env) fp) WF elt te em) (hy : X.N[i]? = some y := by rfl) (hyl : X.env.scope.names.lookup y = some .local := by rfl)
    (hsw : swapsWith (.ListComp elt [⟨tg, iter, ifs, 0⟩, ⟨tg1, iter1, ifs1, 0⟩] scope pos) (some (.Name y py)) spos.line X.env = pure true := by exact sw_true rfl rfl rfl (by decide +kernel)) (hix : ∀ i ∈ ix, i ∈ own.map (·.2) := by decide) (hix1 : ∀ i ∈ ix1, i ∈ vs1 := by decide) (hv1 : ∀ i ∈ vs1, i ∈ own.map (·.2) := by decide)
    (hs : ∀ x, foldedSetIterable iter X.env x = pure x := by intro _; rfl) (hs1 : ∀ env x, foldedSetIterable iter1 env x = pure x := by intro _ _; rfl) (hv : own.map (·.2) = vs := by rfl) :
    DS K X W (.Assign [.Name y py] (.ListComp elt [⟨tg, iter, ifs, 0⟩, ⟨tg1, iter1, ifs1, 0⟩] scope pos) spos) (tAsg (tLc2 wi g tt wi1 g1 tt1 te vs vs1) (gName i)) (sAsg (mLc2 it vs gm t it1 vs1 gm1 t1 em) (gN i)) := by
  subst hv
  exact ⟨hi.k, ps_setLc2 hc hN hy hyl hsw hi.pi ok hv1 (fun s H C cl fp => (hg s H C cl fp).pg) (fun s H C cl fp => (ht s H C cl fp).pt) (fun s H C cl fp => (hi1 s H C cl fp).pi) (fun s H C cl fp => (hg1 s H C cl fp).pg) (fun s H C cl fp => (ht1 s H C cl fp).pt) (fun s H C cl fp => (he s H C cl fp).pe) hs hs1,
    so_asg (so_lc2 hi.so (hg {} (fun _ => none) 0 [] []).ok hix (ht {} (fun _ => none) 0 [] []).so (hi1 {} (fun _ => none) 0 [] []).so (hg1 {} (fun _ => none) 0 [] []).ok hix1 (ht1 {} (fun _ => none) 0 [] []).so (he {} (fun _ => none) 0 [] []).so) (dg_name hN hi.k hy (.inl hyl) (.inr hyl) : DG K X (.Name y py) _ _ _)⟩
end
end
end DL
namespace DL
open PySem L2
/-- a tuple of the module -/
theorem rep_ktup {K : PySem.W.Frag} {a : Addr} {d : Option Addr} {its : Array Value} {z : Nat} {w : Array (Option Value)} {Z : Hp} {xs : List V} {ds : List D} (l : K.lookup a = some ⟨.type "tuple", d, .seq its z, w⟩) (hz : its.size ≤ sizeLine) (v : Vals xs its.toList) (r : RepA K Z xs ds) : Rep K Z (.ref a) (.ktup ds) :=
  .ktup (.inr ⟨_, its, z, l, rfl, rfl, hz, v⟩) r
end DL
namespace DL
open PySem L2
section
variable {K : PySem.W.Frag} {X : Cx} {W : WX} {e a b c : Expr} {es : List Expr} {pos : Pos}
/-! ### a dict of the module, keys texts -/
structure GD (K : PySem.W.Frag) (w : World) (mg : Str → Option Value) (x : Str) (kvs : List (Str × D)) where
  a : Addr
  m : mg x = some (.ref a)
  at_ : ∀ z d, kvs.lookup z = some d → ∃ v, KDct K w a z v ∧ ∀ Z, Rep K Z v d
def kdK (kvs : List (Str × D)) : D → EM
  | .str z => ret (kvs.lookup z)
  | _ => fun _ => none
def mKd (kvs : List (Str × D)) (m : EM) : EM := bnd m (pur (kdK kvs))
theorem de_kdix {mg : Str → Option Value} {w : World} {x : Str} {p : Pos} {kvs : List (Str × D)} {te : TE} {m : EM} (g : GD K w mg x kvs) (h : DE K X W e te m) (hm : X.mg = mg := by rfl) (hw : X.w = w := by rfl) (hg : Gl X x := by rfl) (hd : (x == ("__debug__" : Str)) = false := by decide) (hs : PlainIx e := by exact fun _ _ => rfl) :
    DE K X W (.Subscript (.Name x p) e pos) (tOp (rIxD K w) (tC (.ref g.a)) te) (mKd kvs m) := by
  subst hm hw
  refine ⟨h.k, ?_, ⟨fun σ H s Z I r0 Q w rs e1 p1 => ?_⟩⟩
  · have q := pe_ix (X := X) (pos := pos) ix_kdict (pe_glob (v := .ref g.a) (pos := p) hg g.m rfl hd) h.pe hs
    rw [h.k] at q
    exact q
  · show te σ H _
    refine h.so.bnd w rs e1 p1.x fun d v M1 Z1 H1 I1 w1 rs1 x1 q1 e2 => ?_
    obtain ⟨d, rfl, e2⟩ := pur_ok e2
    cases d with
    | str z =>
      cases q1
      obtain ⟨c, hc, rfl⟩ := ret_ok (show ret (kvs.lookup z) ⟨s.l, M1⟩ = some r0 from e2)
      obtain ⟨v, hv, hr⟩ := g.at_ z c hc
      exact ⟨g.a, z, v, rfl, rfl, hv, p1 v Z1 H1 I1 w1 x1 (hr Z1)⟩
    | _ => cases e2
/-! ### dicts with keys ints and texts -/
def keyD : D → Option Key
  | .int i => some (.inl i)
  | .str x => some (.inr x)
  | _ => none
def valD (kvs : List (Key × D)) (k : Key) : Option D := (kvs.find? fun kv => decide (kv.1 = k)).map (·.2)
theorem val_rep {Z : Hp} : ∀ {ks : List (Key × V)} {ds : List (Key × D)} (k : Key), RepK K Z ks ds → (valV ks k = none ∧ valD ds k = none) ∨ ∃ v d, valV ks k = some v ∧ valD ds k = some d ∧ Rep K Z v d
  | _, _, k, .nil => .inl ⟨rfl, rfl⟩
  | _, _, k, .cons (k := k0) (v := v) (vs := vs) (d := d) (ds := ds) h r => by
    by_cases q : k0 = k
    · exact .inr ⟨v, d, by simp [valV, q], by simp [valD, q], h⟩
    · have e1 : valV ((k0, v) :: vs) k = valV vs k := by simp [valV, q]
      have e2 : valD ((k0, d) :: ds) k = valD ds k := by simp [valD, q]
      rw [e1, e2]
      exact val_rep k r
theorem key_rep {Z : Hp} {v : V} {d : D} {k : Key} (h : Rep K Z v d) (e : keyD d = some k) : v = kV k := by
  unfold keyD at e
  split at e
  · cases h; cases e; rfl
  · cases h; cases e; rfl
  · cases e
def getD (d k : D) : Option (Option D) := match d with
  | .dK kvs => (keyD k).map (valD kvs)
  | _ => none
theorem get_ok {Z H : Hp} {x y : V} {d k : D} {o : Option D} (s : Same Z H) (hx : Rep K Z x d) (hy : Rep K Z y k) (e : getD d k = some o) : ∃ a r, x = .ref a ∧ DGet H a y r ∧ ((r = none ∧ o = none) ∨ ∃ v c, r = some v ∧ o = some c ∧ Rep K Z v c) := by
  unfold getD at e
  split at e
  · rename_i kvs
    cases q : keyD k with
    | none => rw [q] at e; cases e
    | some kk =>
      rw [q] at e; cases e
      cases hx with
      | dK h1 h2 =>
        refine ⟨_, _, rfl, .inl ⟨_, kk, .inl (s _ _ h1), key_rep hy q, rfl⟩, ?_⟩
        rcases val_rep kk h2 with ⟨a, b⟩ | ⟨v, c, a, b, r⟩
        · exact .inl ⟨a, b⟩
        · exact .inr ⟨v, c, a, b, r⟩
  · cases e
def dGetI (d k : D) : Option D := match getD d k with
  | some (some c) => some c
  | _ => none
theorem de_dget (hu : X.A.units + 1 < cLine) {td ty : TE} {m n : EM} (ha : DE K X W a td m) (hb : DE K X W b ty n) (hs : NoSl b := by exact fun _ _ => rfl) : DE K X W (.Subscript a b pos) (tDGet td ty) (mBin dGetI m n) := by
  refine ⟨ha.k, pe_dget hu ha.pe hb.pe hs, ⟨fun σ H s Z I r0 Q w rs e p => ?_⟩⟩
  refine ha.so.bnd w rs e p.x fun d v M1 Z1 H1 I1 w1 rs1 x1 q1 e1 => ?_
  obtain ⟨d, rfl, e1⟩ := pur_ok e1
  have p1 := p.mono x1
  refine hb.so.bnd (s := ⟨s.l, M1⟩) w1 rs1 e1 p1.x fun d2 v2 M2 Z2 H2 I2 w2 rs2 x2 q2 e2 => ?_
  obtain ⟨d2, rfl, e2⟩ := pur_ok e2
  obtain ⟨c, hc, rfl⟩ := ret_ok e2
  unfold dGetI at hc
  cases z : getD d d2 with
  | none => rw [z] at hc; cases hc
  | some o =>
    rw [z] at hc
    obtain ⟨ad, r, ex, g, k⟩ := get_ok w2.sub (Rep.mono x2.z q1) q2 z
    rcases k with ⟨_, rfl⟩ | ⟨u, c', rfl, rfl, hr⟩
    · cases hc
    · cases hc
      exact ⟨ad, u, ex, g, (p1.mono x2) u Z2 H2 I2 w2 Ext.refl hr⟩
end
end DL
namespace DL
open PySem L2
section
variable {K : PySem.W.Frag} {X : Cx} {W : WX} {pos : Pos}
theorem units1 {k : Nat} {A : Around} (r : Room k A) : A.units + 1 < cLine := by have := r.un; omega
theorem lk_nil {P : Str → D → Prop} : ∀ z e, List.lookup z ([] : List (Str × D)) = some e → P z e := fun z e h => by cases h
theorem lk_cons {P : Str → D → Prop} {k : Str} {d : D} {r : List (Str × D)} (h : P k d) (hr : ∀ z e, List.lookup z r = some e → P z e) : ∀ z e, List.lookup z ((k, d) :: r) = some e → P z e := fun z e q => by
  rw [List.lookup_cons] at q
  cases b : z == k with
  | true =>
    rw [b] at q
    cases q
    have e1 : z = k := by simpa using b
    rw [e1]; exact h
  | false => rw [b] at q; exact hr z e q
/-- {k: v, ..} of constants -/
theorem de_dictC {keys : List (Option Expr)} {values : List Expr} {trs : List (TE × TE)} {kvs : List (Key × V)} {ds : List (Key × D)} (h : PPs X pos keys values trs) (ht : ∀ (σ : St) (H : Hp) (Q : List (V × V) → Hp → Prop), Q (kvs.map fun kv => (kV kv.1, kv.2)) H → tPairs trs σ H Q) (hr : ∀ Z, RepK K Z kvs ds)
    (hm : mergeK [] kvs = kvs) (h15' : kvs.length ≤ 15) (hall : keys.all (·.isSome) = true := by rfl) (hl : keys.length = values.length := by rfl) (h0 : keys ≠ [] := by exact List.cons_ne_nil _ _) (h15 : keys.length ≤ 15 := by decide) (k : X.K = K := by rfl) : DE K X W (.Dict keys values pos) (tDisp trs) (mC (.dK ds)) :=
  ⟨k, pe_disp h hall hl h0 h15, ⟨fun σ H s Z I r Q w rs e p => by
    obtain rfl := Option.some.inj e
    intro l hp
    refine ht σ _ _ ⟨upd_same, kvs, rfl, h15', ?_⟩
    rw [hm]
    have e2 : upd (upd H l (.dK [])) l (.dK kvs) = upd H l (.dK kvs) := by
      funext b
      by_cases q : b = l
      · subst q; rw [upd_same, upd_same]
      · rw [upd_ne q, upd_ne q, upd_ne q]
    rw [e2]
    have y := ExtP.new (o := .dK kvs) w.sub hp
    exact p _ _ _ I (w.extP y) (y.ext w) (show Rep K (upd Z l (.dK kvs)) (.ref l) (.dK ds) from .dK upd_same (hr _))⟩⟩
end
end DL
namespace DL
open PySem L2 PySem.W
/-! ### sorted: the data -/
def tupNE : PyData → Bool
  | .tuple (_ :: _) => true
  | _ => false
def plainK : PyData → Bool
  | .none => false
  | .tuple _ => false
  | _ => true
def sortOk (ks : List PyData) : Bool := (ks.all tupNE || ks.all plainK) && ks.all fun d => ks.all fun e => alike d e
theorem sortOk_like {ks : List PyData} (h : sortOk ks = true) : AllAlike ks := by
  intro d hd e he
  unfold sortOk at h
  rw [Bool.and_eq_true] at h
  exact List.all_eq_true.mp (List.all_eq_true.mp h.2 d hd) e he
theorem sortOk_sortable {ks : List PyData} (h : sortOk ks = true) : Sortable ks := by
  unfold sortOk at h
  rw [Bool.and_eq_true, Bool.or_eq_true] at h
  rcases h.1 with q | q
  · refine .inl fun d hd => ?_
    have z := List.all_eq_true.mp q d hd
    unfold tupNE at z
    split at z
    · exact ⟨_, _, rfl⟩
    · cases z
  · refine .inr fun d hd => ?_
    have z := List.all_eq_true.mp q d hd
    refine ⟨fun e => ?_, fun xs e => ?_⟩ <;> subst e <;> cases z
noncomputable def sortBy (ds ks : List D) : List D := ((ds.zip ks).mergeSort (dataLe false fun p => toP p.2)).map (·.1)
def keysM (f : MA) : List D → Option (List D)
  | [] => some []
  | d :: r => match f [d] with
    | some (.ok k) => match keysM f r with
      | some ks => some (k :: ks)
      | none => none
    | _ => none
theorem keysM_len {f : MA} : ∀ {ds ks : List D}, keysM f ds = some ks → ks.length = ds.length
  | [], _, e => by cases e; rfl
  | d :: r, ks, e => by
    unfold keysM at e
    split at e
    · split at e
      · rename_i q
        cases e
        rw [List.length_cons, List.length_cons, keysM_len q]
      · cases e
    · cases e
theorem keysM_at {f : MA} : ∀ {ds ks : List D} {i : Nat} {d : D}, keysM f ds = some ks → ds[i]? = some d → ∃ k, ks[i]? = some k ∧ f [d] = some (.ok k)
  | [], _, i, d, _, h => by simp at h
  | d0 :: r, ks, i, d, e, h => by
    unfold keysM at e
    split at e
    · rename_i q0
      split at e
      · rename_i q
        cases e
        cases i with
        | zero => simp at h; subst h; exact ⟨_, rfl, q0⟩
        | succ i =>
          obtain ⟨k', h1, h2⟩ := keysM_at (i := i) q (by simpa using h)
          exact ⟨k', by simpa using h1, h2⟩
      · cases e
    · cases e
theorem toPs_map : ∀ ds : List D, toPs ds = ds.map toP
  | [] => rfl
  | d :: r => by show toP d :: toPs r = _; rw [toPs_map r]; rfl
section
variable {X : Cx} {pins : List (Addr × Obj)} {σ : St} {H : Hp} {s : Shared}
/-- an object of one's own, newer than the entry's heap, may be forgotten -/
theorem forget {a : Addr} {φ : Heap → Prop} (I : Inv X pins σ H s) (ha : H a = some (.ext φ)) (hn : X.s_0.heap.objs.size ≤ a) (hx : X.ex = []) :
    ∃ G : Heap, (∀ b o, G.get? b = some o → s.heap.get? b = some o) ∧ G.get? a = none ∧ Inv X pins σ (delH H a) { s with heap := G } := by
  have n0 : X.s_0.heap.get? a = none := Heap.get?_none_of_le hn
  have nb : X.base.get? a = none := Heap.get?_none_of_le (Nat.le_trans I.ok.bsz hn)
  let Y : Cx := { X with H_0 := delH X.H_0 a }
  have ok : Y.Ok := ⟨I.ok.mod, I.ok.kind, I.ok.glob, I.ok.blt, I.ok.above, I.ok.inj, I.ok.has, I.ok.cab, I.ok.hd, I.ok.frames, I.ok.stk, I.ok.exf, fun b o e => ⟨(I.ok.bs b o e).1, by
      show delH X.H_0 a b = none
      unfold delH
      split
      · rfl
      · exact (I.ok.bs b o e).2⟩, I.ok.bsz, I.ok.noex, I.ok.exfs, I.ok.funs, fun b hb => by
      show delH X.H_0 a b = none
      unfold delH
      split
      · rfl
      · exact I.ok.frf b hb⟩
  have ne : ∀ {b : Addr} {o : Obj}, X.s_0.heap.get? b = some o → b ≠ a := fun e z => by rw [z, n0] at e; cases e
  have J : Inv Y pins σ H s := ⟨ok, I.os, I.bare, ⟨fun b o e n h1 h2 => I.base.keep b o e ((delH_ne (H := X.H_0) (ne e)).symm.trans n) h1 h2, fun b o e n h1 h2 => I.base.slot b o e ((delH_ne (H := X.H_0) (ne e)).symm.trans n) h1 h2,
      fun b o e n h2 => I.base.free b o e ((delH_ne (H := X.H_0) (ne e)).symm.trans n) h2, fun b o e h2 => I.base.there b o e h2,
      fun b xs e => I.base.tups b xs (by
        by_cases z : b = a
        · rw [z] at e; rw [show Y.H_0 a = delH X.H_0 a a from rfl, delH_same] at e; cases e
        · exact (delH_ne (H := X.H_0) z).symm.trans e),
      fun b o u e => I.base.frzs b o u (by
        by_cases z : b = a
        · rw [z] at e; rw [show Y.H_0 a = delH X.H_0 a a from rfl, delH_same] at e; cases e
        · exact (delH_ne (H := X.H_0) z).symm.trans e),
      fun b ps e => I.base.tbls b ps (by
        by_cases z : b = a
        · rw [z] at e; rw [show Y.H_0 a = delH X.H_0 a a from rfl, delH_same] at e; cases e
        · exact (delH_ne (H := X.H_0) z).symm.trans e)⟩, I.loc, I.cell, I.free, I.freeC, I.pin, I.hok, I.len⟩
  obtain ⟨G, g1, g2, J2⟩ := J.untrack ha (fr0_none (show delH X.H_0 a a = none from delH_same)) hx
  refine ⟨G, g1, g2, ⟨I.ok, J2.os, J2.bare, ⟨fun b o e n h1 h2 => J2.base.keep b o e (by show delH X.H_0 a b = none; rw [delH_ne (ne e)]; exact n) h1 h2, fun b o e n h1 h2 => J2.base.slot b o e (by show delH X.H_0 a b = none; rw [delH_ne (ne e)]; exact n) h1 h2,
      fun b o e n h2 => J2.base.free b o e (by show delH X.H_0 a b = none; rw [delH_ne (ne e)]; exact n) h2, fun b o e h2 => J2.base.there b o e h2,
      fun b xs e => ?_, fun b o u e => ?_, fun b ps e => ?_⟩, J2.loc, J2.cell, J2.free, J2.freeC, J2.pin, J2.hok, J2.len⟩⟩
  · have z : b ≠ a := fun z => by
      have := I.base.tups b xs e
      rw [z, ha] at this; cases this
    exact J2.base.tups b xs (by show delH X.H_0 a b = _; rw [delH_ne z]; exact e)
  · have z : b ≠ a := fun z => by
      have := I.base.frzs b o u e
      rw [z, ha] at this; cases this
    exact J2.base.frzs b o u (by show delH X.H_0 a b = _; rw [delH_ne z]; exact e)
  · have z : b ≠ a := fun z => by
      obtain ⟨m, this⟩ := I.base.tbls b ps e
      rw [z, ha] at this; cases this
    exact J2.base.tbls b ps (by show delH X.H_0 a b = _; rw [delH_ne z]; exact e)
/-- one call of the key -/
theorem key_turn {k : Nat} {f : MA} {fa : Addr} {fd : FuncData} {ps : List Str} {A : Around} (F : FnOk X.prog X.w X.K X.mg X.base (L2.CX X.prog X.w) k fa fd ps (spA X.K 1 f)) (hb : Binds X.K fd ps []) (hr : Room k A) (I : Inv X pins σ H s)
    (he : Env0 X.prog X.w X.K X.mg X.base A X.stack s H) {v : V} {u : Value} {d c : D} {Z : Hp} (rv : RelV v u) (sz : Same Z H) (hv : Rep X.K Z v d) (hf : f [d] = some (.ok c)) :
    wpAny (model X.prog X.w) A (call (.ref fa) [u]) (EP X pins σ fun v' H' => ∃ Z', ExtP Z H Z' H' ∧ Rep X.K Z' v' c) (fun _ _ => False) s := by
  have hsp : spA X.K 1 f [v] H (fun v' H' => ∃ Z', ExtP Z H Z' H' ∧ Rep X.K Z' v' c) (fun _ _ _ => False) := ⟨rfl, Z, [d], .ok c, sz, .cons hv .nil, hf, fun v' Z' H' x r => ⟨Z', x, r⟩⟩
  have hl : ([u] ++ []).length = ps.length := F.len _ _ _ _ hsp
  refine wpAny_call (codeAny_mono (F.run A X.stack s H ⟨[u], []⟩ [u] [v] _ (fun _ _ _ => False) hr he (hb s [u] I.kIn hl) (.cons rv .nil) hsp) fun r s' hq => ?_)
  cases r with
  | error e =>
    obtain ⟨_, _, _, _, _, _, _, _, _, _, _, _, z⟩ := hq
    exact z
  | ok fl =>
    cases fl with
    | ret u => exact I.after hq
    | next => exact False.elim hq
    | brk => exact False.elim hq
    | cont => exact False.elim hq
end
end DL
namespace DL
open PySem L2 PySem.W
open PyProof.Rows (seqObj get?_update_seq listUpdate_at listItems_at seqEpoch_at size_push' ksk_rest ksk_fold ksk_tree ksk_t1)
def atS (a : Addr) (xs : Array Value) (n : Nat) : HO := .ext fun h => h.get? a = some (seqObj "list" xs n)
theorem atS_ok {P : Program} {w : World} {H : Hp} {h : Heap} {a : Addr} {xs : Array Value} {n : Nat} (e : h.get? a = some (seqObj "list" xs n)) : ObjOk P w H h a (atS a xs n) := ⟨e, ⟨_, e⟩, fun _ _ q k => k _ q⟩
theorem atS_at {P : Program} {w : World} {H : Hp} {h : Heap} {a : Addr} {xs : Array Value} {n : Nat} (ok : HOk P w H h) (e : H a = some (atS a xs n)) : h.get? a = some (seqObj "list" xs n) := (ok a _ e).1
theorem each_vals {R : Value → D × D → Prop} {K : PySem.W.Frag} {Z : Hp} (hR : ∀ u p, R u p → ∃ v, RelV v u ∧ Rep K Z v p.1) : ∀ {us : List Value} {ps : List (D × D)}, EachIs R us ps → ∃ vs, Vals vs us ∧ RepA K Z vs (ps.map (·.1))
  | _, _, .nil => ⟨[], .nil, .nil⟩
  | _, _, .cons h t => by
    obtain ⟨v, r1, r2⟩ := hR _ _ h
    obtain ⟨vs, q1, q2⟩ := each_vals hR t
    exact ⟨v :: vs, .cons r1 q1, .cons r2 q2⟩
theorem each_mk {K : PySem.W.Frag} {Z : Hp} : ∀ {us : List Value} {vs : List V} {ds ks : List D}, Vals vs us → RepA K Z vs ds → ks.length = ds.length → EachIs (fun u (p : D × D) => ∃ v, RelV v u ∧ Rep K Z v p.1) us (ds.zip ks)
  | _, _, _, [], .nil, .nil, _ => .nil
  | _, _, _, _ :: _, .nil, .nil, e => by simp at e
  | _, _, _, [], .cons _ _, .cons _ _, e => by simp at e
  | _, _, _, k :: ks, .cons r1 t1, .cons r2 t2, e => .cons ⟨_, r1, r2⟩ (each_mk t1 t2 (by simpa using e))
theorem each_reads {X : Cx} {pins : List (Addr × Obj)} {σ : St} {H Z : Hp} {s : Shared} (I : Inv X pins σ H s) (sz : Same Z H) : ∀ {us : List Value} {vs : List V} {ks : List D}, Vals vs us → RepA X.K Z vs ks → (∀ k ∈ ks, shp k = true) → EachIs (fun u d => ∃ as, Reads s.heap u d as) us (ks.map toP)
  | _, _, _, .nil, .nil, _ => .nil
  | _, _, _, .cons r1 t1, .cons (d := d) r2 t2, h => .cons (Dp.reads I (toP d) _ _ (r2.dp sz (shaped_can (h d List.mem_cons_self))) r1) (each_reads I sz t1 t2 fun k hk => h k (List.mem_cons_of_mem _ hk))
section
variable {X : Cx} {pins : List (Addr × Obj)} {σ : St} {H Z : Hp} {s : Shared}
structure Turn (X : Cx) (pins : List (Addr × Obj)) (σ : St) (Z H : Hp) (a kS : Addr) (e1 : Nat) (ks : List D) (j : Nat) (s' : Shared) : Prop where
  ex : ∃ (Hj Zj : Hp) (kA : Array Value) (e : Nat) (kvs : List V), Inv X pins σ Hj s' ∧ ExtP Z H Zj Hj ∧ Hj kS = some (atS kS kA e) ∧ Hj a = some (atS a #[] e1) ∧ Zj kS = none ∧ Zj a = none ∧ Vals kvs kA.toList ∧ RepA X.K Zj kvs (ks.take j)
theorem Same.outer {Z1 H1 : Hp} {a : Addr} {o : HO} (h : Same Z1 H1) (e : Z1 a = none) : Same Z1 (upd H1 a o) := fun b u q => by
  rw [upd_ne (ne_of_none q e)]; exact h b u q
/-- all turns, and what is behind them -/
theorem turns_ok {k : Nat} {f : MA} {fa : Addr} {fd : FuncData} {ps : List Str} {A : Around} {E : Value → Shared → Prop} (F : FnOk X.prog X.w X.K X.mg X.base (L2.CX X.prog X.w) k fa fd ps (spA X.K 1 f)) (hb : Binds X.K fd ps []) (hr : Room k A) (he : ∀ {H' : Hp} {s' : Shared}, Inv X pins σ H' s' → Env0 X.prog X.w X.K X.mg X.base A X.stack s' H')
    {a kS : Addr} {e1 : Nat} {us : List Value} {xs : List V} {ds ks : List D} (hka : kS ≠ a) (nS : H kS = none) (nA : H a = none) (rv : Vals xs us) (hx : RepA X.K Z xs ds) (hk : keysM f ds = some ks) (hZ : us.length ≤ sizeLine) (hst : X.s_0.heap.objs.size ≤ kS) (hex : X.ex = [])
    (hsp : ∀ k ∈ ks, shp k = true) (ok : sortOk (toPs ks) = true) (hu : ∀ k ∈ ks, A.units + (toP k).depth < cLine) {Q : VK} (p : PostP X.K Z H (.lst (sortBy ds ks)) Q) {P : PySem.Fin → Shared → Prop} (hP : ∀ s', EP X pins σ Q (.ref a) s' → P (.done (.ret .none)) s')
    (T : Turn X pins σ Z H a kS e1 ks 0 s) : wpAny (model X.prog X.w) A (ksk_rest a (.ref fa) false us.toArray e1 (.ref kS)) P E s := by
  have hkl := keysM_len hk
  have hxl := hx.length
  have hul : us.length = xs.length := rv.length.symm
  unfold ksk_rest
  refine wpAny_bind (wpAny_rule ?_)
  rw [List.forIn_toArray]
  refine wpAny_bind (ksk_fold (fun i s' => Turn X pins σ Z H a kS e1 ks i s') us 0 s T (fun j x s' hxj t => ?_) fun s' t => ?_)
  · rw [Nat.zero_add] at t ⊢
    obtain ⟨Hj, Zj, kA, e, kvs, I, xt, hS, hA, zS, zA, rk, rr⟩ := t.ex
    have hj : j < us.length := (List.getElem?_eq_some_iff.mp hxj).1
    obtain ⟨v, hv⟩ : ∃ v, xs[j]? = some v := ⟨_, List.getElem?_eq_getElem (by omega)⟩
    obtain ⟨d, hd, rd⟩ := hx.get' hv
    obtain ⟨u, hu1, ru⟩ := rv.get hv
    rw [hxj] at hu1
    cases hu1
    obtain ⟨c, hc, hf⟩ := keysM_at hk hd
    have hz : kA.size ≤ sizeLine := by
      have h1 : kA.size = kvs.length := by rw [L2.Vals.length rk]; simp
      have h2 := rr.length
      rw [List.length_take] at h2
      omega
    refine wpAny_bind (wpAny_attempt (wpAny_mono (key_turn F hb hr I (he I) ru xt.sub (rd.mono xt.z) hf) (fun w s2 hw => ?_) fun _ _ z => z.elim))
    obtain ⟨wv, Hn, I2, rw2, Zn, xn, rn⟩ := hw
    have hS2 := xn.h _ _ hS
    have hA2 := xn.h _ _ hA
    have zS2 : Zn kS = none := by
      cases q : Zn kS with
      | none => rfl
      | some o =>
        rcases xn.zn kS (by rw [q]; simp) with z | z
        · exact absurd zS z
        · rw [hS] at z; cases z
    have zA2 : Zn a = none := by
      cases q : Zn a with
      | none => rfl
      | some o =>
        rcases xn.zn a (by rw [q]; simp) with z | z
        · exact absurd zA z
        · rw [hA] at z; cases z
    have nk := atS_at I2.hok hS2
    have sb := Heap.SameBut.update s2.heap kS (Obj.mapSeq (·.push w))
    obtain ⟨c2, hc2⟩ : ∃ c2, (s2.heap.update kS (Obj.mapSeq (·.push w))).get? kS = some (seqObj "list" (kA.push w) c2) := ⟨_, get?_update_seq nk (·.push w)⟩
    try dsimp only
    refine wpAny_bind (listUpdate_at nk rfl ?_ hz (Nat.le_trans (Nat.le_of_eq (Array.size_push ..)) (Nat.succ_le_succ hz)))
    have I3 := I2.write (x := kS) (e := kS) (o := atS kS (kA.push w) c2) (t' := s2.toks) (by rw [hS2]; trivial) (.inl rfl) (fun b u' hne q => (sb.2 b hne).trans q) ⟨_, hc2⟩ (atS_ok hc2)
    refine wpAny_pure ⟨rfl, ⟨upd Hn kS (atS kS (kA.push w) c2), Zn, kA.push w, c2, kvs ++ [wv], I3, ?_, upd_same, by rw [upd_ne hka.symm]; exact hA2, zS2, zA2, ?_, ?_⟩⟩
    · have x2 := xt.trans xn
      exact ⟨x2.z, fun b u' q => by rw [upd_ne (ne_of_none q nS)]; exact x2.h b u' q, Same.outer x2.sub zS2, x2.zn⟩
    · have ea : (kA.push w).toList = kA.toList ++ [w] := by simp
      rw [ea]
      exact paired_app rk (.cons rw2 .nil)
    · have ek : ks.take (j + 1) = ks.take j ++ [c] := by rw [List.take_add_one, hc]; rfl
      rw [ek]
      exact (rr.mono xn.z).append (.cons rn .nil)
  · rw [Nat.zero_add] at t
    obtain ⟨Hj, Zj, kA, e, kvs, I, xt, hS, hA, zS, zA, rk, rr⟩ := t.ex
    rw [List.take_of_length_le (by omega)] at rr
    have nk := atS_at I.hok hS
    have na := atS_at I.hok hA
    obtain ⟨G, gk, gn, J⟩ := forget I hS hst hex
    try dsimp only
    refine wpAny_bind (listItems_at nk rfl ?_)
    have er := each_reads I xt.sub rk rr hsp
    have hal : AllAlike (ks.map toP) := by rw [← toPs_map]; exact sortOk_like ok
    have hso : Sortable (ks.map toP) := by rw [← toPs_map]; exact sortOk_sortable ok
    have hsz : kA.size = us.length := by
      have h1 : kA.size = kvs.length := by rw [L2.Vals.length rk]; simp
      have h2 := rr.length
      omega
    refine keyH_end (κ := dataKind s'.heap (ks.map toP)) (h₁ := G) (fun b o _ q => gk b o q) gn nk na hka (SortsAt.data er hal hso fun d hd => ?_) hsz hZ fun h' tk c kp n => ?_
    · obtain ⟨k0, hk0, rfl⟩ := List.mem_map.mp hd
      exact hu k0 hk0
    · have ko : KeyedOut false ((ds.zip ks).map fun p => toP p.2) us (PySem.W.sortVals (dataKind s'.heap (ks.map toP)) false kA.toList us) := by
        have e1 : (ds.zip ks).map (fun p => toP p.2) = ks.map toP := by
          rw [show (fun p : D × D => toP p.2) = toP ∘ Prod.snd from rfl, ← List.map_map, List.map_snd_zip (by omega)]
        rw [e1]
        exact ⟨s'.heap, kA.toList, hal, rfl, er⟩
      have eo := keyedOut_each (R := fun u (p : D × D) => ∃ v, RelV v u ∧ Rep X.K Zj v p.1) (fun p : D × D => toP p.2) ko (each_mk rv (hx.mono xt.z) hkl)
      obtain ⟨ov, o1, o2⟩ := each_vals (fun _ _ q => q) eo
      have hol : ov.length ≤ sizeLine := by
        have h1 := o2.length
        rw [List.length_map, List.length_mergeSort, List.length_zip] at h1
        omega
      have hAd : delH Hj kS a = some (atS a #[] e1) := by rw [delH_ne hka.symm]; exact hA
      have J2 := J.write (h' := h') (x := a) (e := a) (o := .lst ov) (t' := tk) (by rw [hAd]; trivial) (.inl rfl) (fun b u' hne q => kp b u' hne q) ⟨_, n⟩ ⟨hol, _, c, o1, n⟩
      refine hP _ ⟨.ref a, _, J2, rfl, p _ (upd Zj a (.lst ov)) _ ⟨?_, ?_, ?_, ?_⟩ (.lst (.inl upd_same) (o2.mono ?_))⟩
      · exact fun b u' q => by rw [upd_ne (ne_of_none (xt.z b u' q) zA)]; exact xt.z b u' q
      · exact fun b u' q => by rw [upd_ne (ne_of_none q nA), delH_ne (ne_of_none q nS)]; exact xt.h b u' q
      · intro b u' q
        by_cases z : b = a
        · rw [z, upd_same] at q ⊢; exact q
        · rw [upd_ne z] at q ⊢
          rw [delH_ne (ne_of_none q zS)]
          exact xt.sub b u' q
      · intro b q
        by_cases z : b = a
        · rw [z]; exact .inr nA
        · rw [upd_ne z] at q; exact xt.zn b q
      · exact fun b u' q => by rw [upd_ne (ne_of_none q zA)]; exact q
end
end DL
namespace DL
open PySem L2 PySem.W
open PyProof.Rows (seqObj get?_update_seq listUpdate_at listItems_at seqEpoch_at size_push' ksk_rest ksk_fold ksk_tree ksk_t1 ksk_s1 ksk_l1)
section
variable {X : Cx} {pins : List (Addr × Obj)} {σ : St} {H Z : Hp} {s : Shared}
/-- sorted(xs, key=f), f a def -/
theorem sortF_run {k : Nat} {f : MA} {fa : Addr} {fd : FuncData} {ps : List Str} (F : FnOk X.prog X.w X.K X.mg X.base (L2.CX X.prog X.w) k fa fd ps (spA X.K 1 f)) (hb : Binds X.K fd ps []) (hr : Room (k + 2) X.A) (hex : X.ex = []) (I : Inv X pins σ H s)
    {l : Addr} {xs : List V} {ds ks : List D} (sz : Same Z H) (hl : SqL X.K H l xs) (hx : RepA X.K Z xs ds) (hk : keysM f ds = some ks) (hsp : ∀ k ∈ ks, shp k = true) (ok : sortOk (toPs ks) = true) {Q : VK} (p : PostP X.K Z H (.lst (sortBy ds ks)) Q) :
    wpAny (model X.prog X.w) X.A (call (.builtin "sorted") [.ref l] [(Str.ofString "key", .ref fa)]) (EP X pins σ Q) X.xe s := by
  obtain ⟨us, rv, hL, hz⟩ := I.list hl
  have hz2 : us.length ≤ sizeLine := by rw [← rv.length]; exact hz
  refine sorted_of_sort hL.isList hz2 (ksk_s1 _ _) (fun _ => ksk_l1 _ _) fun E' => ?_
  rw [ksk_t1]
  let a : Addr := s.heap.objs.size + 1
  let h0 := copyHeap s.heap us
  have oa : h0.get? a = some (seqObj "list" us.toArray 0) := copyHeap_at s.heap us
  have la : a < h0.objs.size := Heap.lt_size oa
  obtain ⟨e1, oa1⟩ : ∃ e1, (h0.update a (Obj.mapSeq fun _ => (#[] : Array Value))).get? a = some (seqObj "list" #[] e1) := ⟨_, get?_update_seq oa fun _ => #[]⟩
  let h1 := (h0.update a (Obj.mapSeq fun _ => (#[] : Array Value))).push (seqObj "tuple" us.toArray 0)
  have s1 : h1.objs.size = h0.objs.size + 1 := by show ((h0.update a _).push _).objs.size = _; rw [size_push', Heap.size_update]
  have keep1 : ∀ b u, s.heap.get? b = some u → h1.get? b = some u := fun b u q => by
    have q0 : h0.get? b = some u := copyHeap_old q
    have nb : b ≠ a := Nat.ne_of_lt (Nat.lt_succ_of_lt (Heap.lt_size q))
    exact Heap.get?_push_of_some _ (by rw [Heap.get?_update_ne _ _ _ _ nb]; exact q0)
  have oa2 : h1.get? a = some (seqObj "list" #[] e1) := Heap.get?_push_of_some _ oa1
  have nA : H a = none := I.hok.fresh (Nat.le_succ _)
  have J1 := I.laid (h' := h1) (a := a) (o := atS a #[] e1) (t' := s.toks) keep1 (Nat.le_succ _) (atS_ok oa2)
  have nS1 : upd H a (atS a #[] e1) h1.objs.size = none := J1.hok.fresh (Nat.le_refl _)
  have hka : h1.objs.size ≠ a := by rw [s1]; exact Nat.ne_of_gt (Nat.lt_succ_of_lt la)
  have nS : H h1.objs.size = none := by rw [upd_ne hka] at nS1; exact nS1
  have oS : (h1.push (seqObj "list" #[] 0)).get? h1.objs.size = some (seqObj "list" #[] 0) := Heap.get?_push_size _ rfl
  have J2 := J1.laid (h' := h1.push (seqObj "list" #[] 0)) (a := h1.objs.size) (o := atS h1.objs.size #[] 0) (t' := s.toks) (fun b u q => Heap.get?_push_of_some _ q) (Nat.le_refl _) (atS_ok oS)
  have hst : X.s_0.heap.objs.size ≤ h1.objs.size := by
    have := I.sz
    have : s.heap.objs.size + 1 < h0.objs.size := la
    omega
  unfold ksk_tree
  refine wpAny_bind (listItems_at (s := { s with heap := h0 }) oa rfl ?_)
  refine wpAny_bind (listUpdate_at (s := { s with heap := h0 }) oa rfl ?_ (by rw [List.size_toArray]; exact hz2) (Nat.zero_le _))
  refine wpAny_bind (seqEpoch_at oa1 rfl ?_)
  refine wpAny_bind (wpAny_newTuple ?_ hz2)
  refine wpAny_bind (wpAny_newList ?_ (Nat.zero_le _))
  refine wpAny_holding ?_
  exact turns_ok (s := { s with heap := h1.push (seqObj "list" #[] 0) }) F hb (Room.in1 (Room.in1 hr)) (fun I' => I'.env0.in1.in1) hka nS nA rv hx hk hz2 hst hex hsp ok (fun k0 h0 => by
      have z := hsp k0 h0
      unfold shp at z
      rw [Bool.and_eq_true] at z
      have y := of_decide_eq_true z.2
      have := hr.un
      show X.A.units + 1 + 1 + (toP k0).depth < cLine
      have dd : (toP k0).depth = depD k0 := depD_dep k0 z.1
      rw [dd]
      omega) p (fun s' q => ⟨rfl, q⟩)
    ⟨_, Z, #[], 0, [], J2, ⟨Same.refl _, fun b u q => by rw [upd_ne (ne_of_none q nS), upd_ne (ne_of_none q nA)]; exact q, Same.outer (Same.outer sz (none_of sz nA)) (none_of sz nS), fun b q => .inl q⟩, upd_same, by rw [upd_ne hka.symm]; exact upd_same, none_of sz nS, none_of sz nA, .nil, by rw [List.take_zero]; exact .nil⟩
/-- the mirror -/
noncomputable def sortKD (f : MA) : D → Option D
  | .lst ds => match keysM f ds with
    | some ks => if (ks.all shp && sortOk (toPs ks)) = true then some (.lst (sortBy ds ks)) else none
    | none => none
  | _ => none
noncomputable def mSortK (f : MA) (m : EM) : EM := bnd m (pur fun d => ret (sortKD f d))
def rSortF (K : PySem.W.Frag) (fa : Addr) (f : MA) : List V → List V → Hp → VK → Prop := fun vs zs H Q => zs = [.ref fa] ∧ ∃ (x : V) (Z : Hp) (d c : D), vs = [x] ∧ Same Z H ∧ Rep K Z x d ∧ sortKD f d = some c ∧ PostP K Z H c Q
theorem cr_sortF {k : Nat} {f : MA} {fa : Addr} {fd : FuncData} {ps : List Str} (F : FnOk X.prog X.w X.K X.mg X.base (L2.CX X.prog X.w) k fa fd ps (spA X.K 1 f)) (hb : Binds X.K fd ps []) (hr : Room (k + 2) X.A) (hex : X.ex = []) :
    CallRK X (.builtin "sorted") [Str.ofString "key"] (rSortF X.K fa f) := by
  intro pins s σ H vs zs us ws Q I r rz h
  obtain ⟨rfl, x, Z, d, c, rfl, sz, hx, hd, p⟩ := h
  cases r with
  | cons r1 r2 =>
  cases r2
  cases rz with
  | cons z1 z2 =>
  cases z2
  cases z1
  unfold sortKD at hd
  split at hd
  · split at hd
    · rename_i ks hk
      split at hd
      · rename_i hc
        cases hd
        rw [Bool.and_eq_true] at hc
        cases hx with
        | lst h1 h2 =>
          cases r1
          exact sortF_run F hb hr hex I sz (.inl (same_rd sz h1)) h2 hk (fun k0 h0 => List.all_eq_true.mp hc.1 k0 h0) hc.2 p
      · cases hd
    · cases hd
  · cases hd
end
@[simp] theorem e_add2I (i j : Int) : dAdd2 (.int i) (.int j) = some (.int (i + j)) := rfl
@[simp] theorem e_add2S (x y : Str) : dAdd2 (.str x) (.str y) = if x.length + y.length ≤ 1000000 then some (.str (x ++ y)) else none := rfl
@[simp] theorem e_add2L (x y : List D) : dAdd2 (.lst x) (.lst y) = if x.length + y.length ≤ 1000000 then some (.lst (x ++ y)) else none := rfl
@[simp] theorem e_inDL (xs ys : List D) : inD (.tup xs) (.lst ys) = if (shp (.tup xs) && shp (.lst ys)) = true then some (ys.any fun z => deq z (.tup xs)) else none := rfl
@[simp] theorem e_sortK (f : MA) (m : EM) (s : S) : mSortK f m s = (bnd m (pur fun d => ret (sortKD f d))) s := rfl
theorem sortKD_eq {f : MA} {ds ks : List D} (h : keysM f ds = some ks) (h1 : ks.all shp = true) (h2 : sortOk (toPs ks) = true) : sortKD f (.lst ds) = some (.lst (sortBy ds ks)) := by
  unfold sortKD
  simp only [h]
  rw [h1, h2]; rfl
theorem keysM_map {f : MA} {g : D → D} : ∀ {ds : List D}, (∀ d ∈ ds, f [d] = some (.ok (g d))) → keysM f ds = some (ds.map g)
  | [], _ => rfl
  | d :: r, h => by
    unfold keysM
    rw [h d List.mem_cons_self]
    simp only
    rw [keysM_map fun x hx => h x (List.mem_cons_of_mem _ hx)]
    rfl
/-- pairs of ints as keys -/
theorem sortOk_ii {α : Type} (l : List α) (a b : α → Int) : sortOk (toPs (l.map fun x => D.tup [.int (a x), .int (b x)])) = true := by
  rw [toPs_map, List.map_map]
  unfold sortOk
  rw [Bool.and_eq_true, Bool.or_eq_true]
  refine ⟨.inl (List.all_eq_true.mpr fun d hd => ?_), List.all_eq_true.mpr fun d hd => List.all_eq_true.mpr fun e he => ?_⟩
  · obtain ⟨x, _, rfl⟩ := List.mem_map.mp hd; rfl
  · obtain ⟨x, _, rfl⟩ := List.mem_map.mp hd
    obtain ⟨y, _, rfl⟩ := List.mem_map.mp he
    simp [toP, toPs, alike, alikeAll]
theorem sortBy_same (ds ks : List D) (hl : ks.length = ds.length) (h : (ds.zip ks).Pairwise fun p q => dataLe false (fun p : D × D => toP p.2) p q = true) : sortBy ds ks = ds := by
  unfold sortBy
  rw [List.mergeSort_of_pairwise h, List.map_fst_zip (by omega)]
section
variable {K : PySem.W.Frag} {X : Cx} {W : WX} {e : Expr} {pos p p2 kp : Pos}
theorem de_sortK {k kk : Nat} {f : MA} {fa : Addr} {fd : FuncData} {ps : List Str} {x : Str} {te : TE} {m : EM} (F : FnOk X.prog X.w K X.mg X.base (L2.CX X.prog X.w) k fa fd ps (spA K 1 f)) (hr : Room kk X.A) (hkk : k + 2 ≤ kk) (hs : X.mg "sorted" = none) (hm : X.mg x = some (.ref fa)) (hb : Binds K fd ps []) (h : DE K X W e te m)
    (hgs : Gl X "sorted" := by rfl) (hg : Gl X x := by rfl) (hex : X.ex = [] := by rfl) (hdb : (x == ("__debug__" : Str)) = false := by decide)
    (hs1 : starEach [e] X.env = (false, eval e X.env) :: starEach [] X.env := by rfl) (he : backTo pos (starEach [e] X.env) = (false, eval e X.env) :: backTo pos (starEach [] X.env) := by rfl) (hpl : (backTo pos (starEach [e] X.env)).any (·.1) = false := by rfl)
    (hall : (backToKw pos (keywordEach [⟨some "key", .Name x p2, kp⟩] X.env)).all (·.1.isSome) = true := by rfl) (hnone : (backToKw pos (keywordEach [⟨some "key", .Name x p2, kp⟩] X.env)).any (·.1.isNone) = false := by rfl) (hks : (backToKw pos (keywordEach [⟨some "key", .Name x p2, kp⟩] X.env)).filterMap (·.1) = [Str.ofString "key"] := by rfl) :
    DE K X W (.Call (.Name "sorted" p) [e] [⟨some "key", .Name x p2, kp⟩] pos) (tCKw (rSortF K fa f) (tCons te tNil) (tCons (tC (.ref fa)) tNil)) (mSortK f m) := by
  have k0 := h.k
  subst k0
  refine ⟨rfl, pe_callBK (cr_sortF F hb (hr.mono hkk) hex) hgs hs rfl (pa_cons h.pe pa_nil hs1) (pk_cons (pe_glob (v := .ref fa) hg hm rfl hdb) pk_nil) (by decide) (by decide) he hpl hall hnone hks, ⟨fun σ H s Z I r0 Q w rs e1 p1 => ?_⟩⟩
  refine h.so.bnd w rs e1 p1.x fun d v M1 Z1 H1 I1 w1 rs1 x1 q1 e2 => ?_
  obtain ⟨d, rfl, e2⟩ := pur_ok e2
  obtain ⟨c, hc, rfl⟩ := ret_ok e2
  exact ⟨rfl, v, Z1, d, c, rfl, w1.sub, q1, hc, PostP.of w1 (p1.mono x1)⟩
end
end DL
namespace DL
open PySem L2
/-! ### dicts: one's own, and data; keys ints and texts, or tuples of them -/
section
variable {α κ : Type} [DecidableEq κ]
def valO (kvs : List (κ × α)) (k : κ) : Option α := (kvs.find? fun kv => decide (kv.1 = k)).map (·.2)
def putO (kvs : List (κ × α)) (k : κ) (v : α) : List (κ × α) :=
  if (kvs.any fun kv => decide (kv.1 = k)) = true then kvs.map (fun kv => if kv.1 = k then (kv.1, v) else kv) else kvs ++ [(k, v)]
def dropO (kvs : List (κ × α)) (k : κ) : List (κ × α) := kvs.filter fun kv => decide (kv.1 ≠ k)
end
def keysD : List D → Option (List Key)
  | [] => some []
  | d :: r => match keyD d, keysD r with
    | some k, some ks => some (k :: ks)
    | _, _ => none
def keyT : D → Option (List Key)
  | .tup xs => keysD xs
  | _ => none
section
variable {K : PySem.W.Frag} {X : Cx} {W : WX} {e a b c : Expr} {es : List Expr} {pos : Pos} {Z H : Hp} {I : List Addr} {M : List O}
theorem keys_rep : ∀ {vs : List V} {xs : List D} {ks : List Key}, RepA K Z vs xs → keysD xs = some ks → vs = ks.map kV
  | _, [], _, .nil, e => by cases e; rfl
  | _, d :: r, _, .cons h t, e => by
    have e : (match keyD d, keysD r with | some k, some ks => some (k :: ks) | _, _ => none) = some _ := e
    cases q : keyD d with
    | none => rw [q] at e; cases e
    | some k =>
      cases q2 : keysD r with
      | none => rw [q, q2] at e; cases e
      | some ks =>
        rw [q, q2] at e; cases e
        rw [key_rep h q, keys_rep t q2]; rfl
theorem keyT_rep {v : V} {d : D} {ks : List Key} (h : Rep K Z v d) (e : keyT d = some ks) : ∃ b, v = .ref b ∧ Z b = some (.tup (ks.map kV)) := by
  cases h with
  | tup h1 h2 => exact ⟨_, rfl, by rw [← keys_rep h2 (show keysD _ = some ks from e)]; exact h1⟩
  | _ => cases e
section
variable {κ : Type} [DecidableEq κ]
theorem valP_rep {ks : List (κ × V)} {ds : List (κ × DV)} (r : Paired (FRel K Z I) ks ds) (k : κ) : (valV ks k = none ∧ valO ds k = none) ∨ ∃ v d, valV ks k = some v ∧ valO ds k = some d ∧ RepV K Z I v d := by
  induction r with
  | nil => exact .inl ⟨rfl, rfl⟩
  | @cons p q ps qs h t ih =>
    obtain ⟨h1, h2⟩ := h
    by_cases z : p.1 = k
    · exact .inr ⟨p.2, q.2, by simp [valV, z], by simp [valO, ← h1, z], h2⟩
    · have e1 : valV (p :: ps) k = valV ps k := by simp [valV, z]
      have e2 : valO (q :: qs) k = valO qs k := by simp [valO, ← h1, z]
      rw [e1, e2]; exact ih
theorem anyP_rep {ks : List (κ × V)} {ds : List (κ × DV)} (r : Paired (FRel K Z I) ks ds) (k : κ) : (ks.any fun kv => decide (kv.1 = k)) = ds.any fun kv => decide (kv.1 = k) := by
  induction r with
  | nil => rfl
  | @cons p q ps qs h t ih => rw [List.any_cons, List.any_cons, ih, h.1]
theorem mapP_rep {ks : List (κ × V)} {ds : List (κ × DV)} (k : κ) {v : V} {d : DV} (h : RepV K Z I v d) (r : Paired (FRel K Z I) ks ds) : Paired (FRel K Z I) (ks.map (fun kv => if kv.1 = k then (kv.1, v) else kv)) (ds.map (fun kv => if kv.1 = k then (kv.1, d) else kv)) := by
  induction r with
  | nil => exact .nil
  | @cons p q ps qs g t ih =>
    refine .cons ?_ ih
    show FRel K Z I (if p.1 = k then (p.1, v) else p) (if q.1 = k then (q.1, d) else q)
    by_cases z : p.1 = k
    · rw [if_pos z, if_pos (g.1.symm.trans z)]; exact ⟨g.1, h⟩
    · rw [if_neg z, if_neg (fun y => z (g.1.trans y))]; exact g
theorem putP_rep {ks : List (κ × V)} {ds : List (κ × DV)} (r : Paired (FRel K Z I) ks ds) (k : κ) {v : V} {d : DV} (h : RepV K Z I v d) : Paired (FRel K Z I) (putK ks k v) (putO ds k d) := by
  unfold putK putO
  rw [anyP_rep r k]
  split
  · exact mapP_rep k h r
  · exact paired_app r (.cons ⟨rfl, h⟩ .nil)
theorem dropP_rep {ks : List (κ × V)} {ds : List (κ × DV)} (r : Paired (FRel K Z I) ks ds) (k : κ) : Paired (FRel K Z I) (dropK ks k) (dropO ds k) := by
  unfold dropK dropO
  induction r with
  | nil => exact .nil
  | @cons p q ps qs g t ih =>
    rw [List.filter_cons, List.filter_cons, g.1]
    split
    · exact .cons g ih
    · exact ih
end
theorem repK_paired {ks : List (Key × V)} : ∀ {ds : List (Key × D)}, RepK K Z ks ds → Paired (FRel K Z I) ks (ds.map fun p => (p.1, DV.p p.2))
  | _, .nil => .nil
  | _, .cons h r => .cons ⟨rfl, h⟩ (repK_paired r)
theorem repT_paired {ks : List (List Key × V)} : ∀ {ds : List (List Key × D)}, RepT K Z ks ds → Paired (FRel K Z I) ks (ds.map fun p => (p.1, DV.p p.2))
  | _, .nil => .nil
  | _, .cons h r => .cons ⟨rfl, h⟩ (repT_paired r)
/-- the dict that a value is -/
inductive Dc where
  | k (kvs : List (Key × DV)) | t (kvs : List (List Key × DV))
def dcM (M : List O) : DV → Option Dc
  | .p (.dK kvs) => some (.k (kvs.map fun p => (p.1, .p p.2)))
  | .p (.dT kvs) => some (.t (kvs.map fun p => (p.1, .p p.2)))
  | .o n => match M[n]? with
    | some (.dK kvs) => some (.k kvs)
    | some (.dT kvs) => some (.t kvs)
    | _ => none
  | _ => none
def RepDc (K : PySem.W.Frag) (Z H : Hp) (I : List Addr) (a : Addr) : Dc → Prop
  | .k ds => ∃ ks, H a = some (.dK ks) ∧ Paired (FRel K Z I) ks ds
  | .t ds => ∃ ks, H a = some (.dT ks) ∧ Paired (FRel K Z I) ks ds
theorem dc_rep {x : V} {d : DV} {c : Dc} (w : Wf K Z H I M) (h : RepV K Z I x d) (e : dcM M d = some c) : ∃ a, x = .ref a ∧ RepDc K Z H I a c := by
  cases d with
  | o n =>
    obtain ⟨a, ha, rfl⟩ := h
    unfold dcM at e
    cases z : M[n]? with
    | none => simp only [z] at e; cases e
    | some o =>
      simp only [z] at e
      cases o with
      | dK ds => cases e; obtain ⟨_, r⟩ := w.ob n a _ ha z (by intro z; cases z); exact ⟨a, rfl, r⟩
      | dT ds => cases e; obtain ⟨_, r⟩ := w.ob n a _ ha z (by intro z; cases z); exact ⟨a, rfl, r⟩
      | _ => cases e
  | p d =>
    have h : Rep K Z x d := h
    cases h with
    | dK h1 h2 => cases e; exact ⟨_, rfl, _, w.sub _ _ h1, repK_paired h2⟩
    | dT h1 h2 => cases e; exact ⟨_, rfl, _, w.sub _ _ h1, repT_paired h2⟩
    | _ => cases e
def getC : Dc → D → Option (Option DV)
  | .k kvs, k => (keyD k).map (valO kvs)
  | .t kvs, k => (keyT k).map (valO kvs)
theorem getC_rep {x : Addr} {y : V} {c : Dc} {k : D} {o : Option DV} (s : Same Z H) (h : RepDc K Z H I x c) (hy : Rep K Z y k) (e : getC c k = some o) : ∃ r, DGet H x y r ∧ ((r = none ∧ o = none) ∨ ∃ v d, r = some v ∧ o = some d ∧ RepV K Z I v d) := by
  cases c with
  | k ds =>
    obtain ⟨ks, h1, h2⟩ := h
    have e : (keyD k).map (valO ds) = some o := e
    cases q : keyD k with
    | none => rw [q] at e; cases e
    | some kk =>
      rw [q] at e; cases e
      refine ⟨_, .inl ⟨ks, kk, .inl h1, key_rep hy q, rfl⟩, ?_⟩
      exact valP_rep h2 kk
  | t ds =>
    obtain ⟨ks, h1, h2⟩ := h
    have e : (keyT k).map (valO ds) = some o := e
    cases q : keyT k with
    | none => rw [q] at e; cases e
    | some kk =>
      rw [q] at e; cases e
      obtain ⟨b, rfl, hb⟩ := keyT_rep hy q
      refine ⟨_, .inr ⟨ks, kk, b, .inl h1, rfl, s _ _ hb, rfl⟩, ?_⟩
      exact valP_rep h2 kk
def getM (M : List O) (d : DV) (k : D) : Option (Option DV) := match dcM M d with
  | some c => getC c k
  | none => none
theorem getM_rep {x y : V} {d : DV} {k : D} {o : Option DV} (w : Wf K Z H I M) (hx : RepV K Z I x d) (hy : Rep K Z y k) (e : getM M d k = some o) :
    ∃ a r, x = .ref a ∧ DGet H a y r ∧ ((r = none ∧ o = none) ∨ ∃ v d, r = some v ∧ o = some d ∧ RepV K Z I v d) := by
  unfold getM at e
  cases z : dcM M d with
  | none => simp only [z] at e; cases e
  | some c =>
    simp only [z] at e
    obtain ⟨ad, rfl, rc⟩ := dc_rep w hx z
    obtain ⟨r, g, k⟩ := getC_rep w.sub rc hy e
    exact ⟨ad, r, rfl, g, k⟩
/-- d[k] -/
def dgK (d : DV) (k : D) : EM := fun s => match getM s.m d k with
  | some (some v) => some (.ok v s.m)
  | _ => none
def mDget (m n : EM) : EM := bnd m fun d => bnd n (pur (dgK d))
theorem de_dgetG (hu : X.A.units + 1 < cLine) {td ty : TE} {m n : EM} (ha : DE K X W a td m) (hb : DE K X W b ty n) (hs : NoSl b := by exact fun _ _ => rfl) : DE K X W (.Subscript a b pos) (tDGet td ty) (mDget m n) := by
  refine ⟨ha.k, pe_dget hu ha.pe hb.pe hs, ⟨fun σ H s Z I r0 Q w rs e p => ?_⟩⟩
  refine ha.so.bnd w rs e p.x fun d v M1 Z1 H1 I1 w1 rs1 x1 q1 e1 => ?_
  have p1 := p.mono x1
  refine hb.so.bnd (s := ⟨s.l, M1⟩) w1 rs1 e1 p1.x fun d2 v2 M2 Z2 H2 I2 w2 rs2 x2 q2 e2 => ?_
  obtain ⟨d2, rfl, e2⟩ := pur_ok e2
  have e2 : (match getM M2 d d2 with | some (some v) => some (Rs.ok v M2) | _ => none) = some r0 := e2
  cases z : getM M2 d d2 with
  | none => rw [z] at e2; cases e2
  | some o =>
    rw [z] at e2
    obtain ⟨ad, r, rfl, g, k⟩ := getM_rep w2 (q1.mono x2) q2 z
    rcases k with ⟨_, rfl⟩ | ⟨u, c', rfl, rfl, hr⟩
    · cases e2
    · cases e2
      exact ⟨ad, u, rfl, g, (p1.mono x2) u Z2 H2 I2 w2 Ext.refl hr⟩
/-- k in d, k not in d -/
def dinK (neg : Bool) (k : D) (d : DV) : EM := fun s => match getM s.m d k with
  | some o => some (.ok (.p (.bl (if neg then !o.isSome else o.isSome))) s.m)
  | _ => none
def mDin (neg : Bool) (m n : EM) : EM := bnd m (pur fun k => bnd n (dinK neg k))
theorem so_din (neg : Bool) {ty td : TE} {m n : EM} (ha : Sound K W (RepV K) ty m) (hb : Sound K W (RepV K) td n) :
    Sound K W (RepV K) (fun σ H Q => ty σ H fun y H1 => td σ H1 fun x H2 => ∃ a o, x = .ref a ∧ DGet H2 a y o ∧ Q (.bl (if neg then !o.isSome else o.isSome)) H2) (mDin neg m n) := ⟨fun σ H s Z I r0 Q w rs e p => by
  refine ha.bnd w rs e p.x fun d v M1 Z1 H1 I1 w1 rs1 x1 q1 e1 => ?_
  obtain ⟨d, rfl, e1⟩ := pur_ok e1
  have p1 := p.mono x1
  refine hb.bnd (s := ⟨s.l, M1⟩) w1 rs1 e1 p1.x fun d2 v2 M2 Z2 H2 I2 w2 rs2 x2 q2 e2 => ?_
  have e2 : (match getM M2 d2 d with | some o => some (Rs.ok (DV.p (.bl (if neg then !o.isSome else o.isSome))) M2) | _ => none) = some r0 := e2
  cases z : getM M2 d2 d with
  | none => rw [z] at e2; cases e2
  | some o =>
    rw [z] at e2; cases e2
    obtain ⟨ad, r, rfl, g, k⟩ := getM_rep w2 q2 (Rep.mono x2.z q1) z
    refine ⟨ad, r, rfl, g, ?_⟩
    have er : r.isSome = o.isSome := by
      rcases k with ⟨rfl, rfl⟩ | ⟨u, c', rfl, rfl, hr⟩ <;> rfl
    rw [er]
    exact (p1.mono x2) _ Z2 H2 I2 w2 Ext.refl (.bl _)⟩
theorem mDin_bool {neg : Bool} {m n : EM} (s : S) (r : Rs DV) (e : mDin neg m n s = some r) (v : DV) (M : List O) (hr : r = .ok v M) : ∃ b, v = .p (.bl b) := by
  subst hr
  obtain ⟨a, M1, _, e⟩ := bnd_ok e
  obtain ⟨d, _, e⟩ := pur_ok e
  obtain ⟨a2, M2, _, e⟩ := bnd_ok e
  unfold dinK at e
  cases z : getM M2 a2 d with
  | none => simp only [z] at e; cases e
  | some o => simp only [z] at e; cases e; exact ⟨_, rfl⟩
theorem de_din (hu : X.A.units + 1 < cLine) {ty td : TE} {m n : EM} (ha : DE K X W a ty m) (hb : DE K X W b td n) (hm : behindInMarks .In b = false := by rfl) : DE K X W (.Compare a [.In] [b] pos) (tDIn ty td) (mDin false m n) := ⟨ha.k, pe_cmp (pc_din hu ha.pe hb.pe) hm, so_din false ha.so hb.so⟩
theorem de_dnin (hu : X.A.units + 1 < cLine) {ty td : TE} {m n : EM} (ha : DE K X W a ty m) (hb : DE K X W b td n) (hm : behindInMarks .NotIn b = false := by rfl) : DE K X W (.Compare a [.NotIn] [b] pos) (tDNotIn ty td) (mDin true m n) := ⟨ha.k, pe_cmp (pc_dnotin hu ha.pe hb.pe) hm, so_din true ha.so hb.so⟩
theorem dt_din (hu : X.A.units + 1 < cLine) {ty td : TE} {m n : EM} (ha : DE K X W a ty m) (hb : DE K X W b td n) (hm : behindInMarks .In b = false := by rfl) : DT K X W (.Compare a [.In] [b] pos) (tB (tDIn ty td)) (mDin false m n) := ⟨ha.k, pt_cmp (pc_din hu ha.pe hb.pe) hm, so_B (so_din false ha.so hb.so) mDin_bool⟩
theorem dt_dnin (hu : X.A.units + 1 < cLine) {ty td : TE} {m n : EM} (ha : DE K X W a ty m) (hb : DE K X W b td n) (hm : behindInMarks .NotIn b = false := by rfl) : DT K X W (.Compare a [.NotIn] [b] pos) (tB (tDNotIn ty td)) (mDin true m n) := ⟨ha.k, pt_cmp (pc_dnotin hu ha.pe hb.pe) hm, so_B (so_din true ha.so hb.so) mDin_bool⟩
/-- d[k] = v at a dict of one's own -/
def putM (M : List O) (n : Nat) (k : D) (v : DV) : Option (List O) := match M[n]? with
  | some (.dK ds) => match keyD k with
    | some kk => if ds.length < 1000000 then some (M.set n (.dK (putO ds kk v))) else none
    | none => none
  | some (.dT ds) => match keyT k with
    | some kk => if ds.length < 1000000 then some (M.set n (.dT (putO ds kk v))) else none
    | none => none
  | _ => none
def sPutK (v d : DV) (k : D) : SM := fun s => match d with
  | .o n => match putM s.m n k v with
    | some M => some (.nx, ⟨s.l, M⟩)
    | none => none
  | _ => none
def purS (k : D → SM) : DV → SM
  | .p d, s => k d s
  | .o _, _ => none
theorem purS_ok {k : D → SM} {v : DV} {s : S} {r : Fl × S} (e : purS k v s = some r) : ∃ d, v = .p d ∧ k d s = some r := by
  cases v with
  | p d => exact ⟨d, rfl, e⟩
  | o n => cases e
def sPut (mv md mk : EM) : SM := liftS mv fun v => liftS md fun d => liftS mk (purS fun k => sPutK v d k)
theorem put_rep {n : Nat} {a : Addr} {k : D} {y v : V} {dv : DV} {M' : List O} (w : Wf K Z H I M) (ha : I[n]? = some a) (hy : Rep K Z y k) (hv : RepV K Z I v dv) (e : putM M n k dv = some M') :
    ∃ H', DPut H a y v H' ∧ Wf K Z H' I M' ∧ Ext Z H I Z H' I := by
  unfold putM at e
  split at e
  · rename_i ds hm
    split at e
    · rename_i kk hk
      split at e
      · rename_i hl
        cases e
        obtain ⟨_, ks, h1, h2⟩ := w.ob n a _ ha hm (by intro z; cases z)
        refine ⟨_, .inl ⟨ks, kk, h1, key_rep hy hk, by rw [paired_len h2]; exact size_lt (Nat.le_of_lt hl), rfl⟩, w.setO ha hm (by intro z; cases z) ⟨_, upd_same, putP_rep h2 kk hv⟩, ext_set (List.mem_of_getElem? ha)⟩
      · cases e
    · cases e
  · rename_i ds hm
    split at e
    · rename_i kk hk
      split at e
      · rename_i hl
        cases e
        obtain ⟨_, ks, h1, h2⟩ := w.ob n a _ ha hm (by intro z; cases z)
        obtain ⟨b, rfl, hb⟩ := keyT_rep hy hk
        refine ⟨_, .inr ⟨ks, kk, b, h1, rfl, w.sub _ _ hb, by rw [paired_len h2]; exact size_lt (Nat.le_of_lt hl), rfl⟩, w.setO ha hm (by intro z; cases z) ⟨_, upd_same, putP_rep h2 kk hv⟩, ext_set (List.mem_of_getElem? ha)⟩
      · cases e
    · cases e
  · cases e
theorem ds_put (hu : X.A.units + 1 < cLine) {pos' : Pos} {o i v : Expr} {td ty tv : TE} {md mk mv : EM} (hv : DE K X W v tv mv) (ho : DE K X W o td md) (hi : DE K X W i ty mk) (hs : swapsWith v (some (.Subscript o i pos')) pos.line X.env = pure false := by rfl) :
    DS K X W (.Assign [.Subscript o i pos'] v pos) (sDPut td ty tv) (sPut mv md mk) := ⟨hv.k, ps_dput hu ho.pe hi.pe hv.pe hs, ⟨fun σ H s Z I r D w rs e p => by
  refine hv.so.lift w rs e p fun d v M1 Z1 H1 I1 w1 rs1 x1 q1 e1 p1 => ?_
  refine ho.so.lift (s := ⟨s.l, M1⟩) w1 rs1 e1 p1 fun d2 v2 M2 Z2 H2 I2 w2 rs2 x2 q2 e2 p2 => ?_
  refine hi.so.lift (s := ⟨s.l, M2⟩) w2 rs2 e2 p2 fun d3 v3 M3 Z3 H3 I3 w3 rs3 x3 q3 e3 p3 => ?_
  obtain ⟨d3, rfl, e3⟩ := purS_ok e3
  cases d2 with
  | p d => cases e3
  | o n =>
    have e3 : (match putM M3 n d3 d with | some M => some (Fl.nx, (⟨s.l, M⟩ : S)) | none => none) = some r := e3
    obtain ⟨a, ha, rfl⟩ := q2.mono x3
    cases z : putM M3 n d3 d with
    | none => rw [z] at e3; cases e3
    | some M4 =>
      rw [z] at e3; cases e3
      obtain ⟨H4, hp, w4, x4⟩ := put_rep w3 ha q3 (q1.mono (x2.trans x3)) z
      exact ⟨a, H4, rfl, hp, p3 σ Z3 H4 I3 w4 (rs3.mono x4) x4⟩⟩⟩
/-- {} of one's own -/
def mDnew (o : O) : EM := fun s => some (.ok (.o s.m.length) (s.m ++ [o]))
theorem de_dnewK (k : X.K = K := by rfl) : DE K X W (.Dict [] [] pos) tDNewK (mDnew (.dK [])) := ⟨k, pe_dnewK, ⟨fun σ H s Z I r Q w rs e p => by
  cases e
  intro l hp
  refine p _ Z _ (I ++ [l]) (w.newO hp ⟨[], upd_same, .nil⟩) (ext_new w.sub hp) ⟨l, ?_, rfl⟩
  rw [← w.len, List.getElem?_append_right (Nat.le_refl _), Nat.sub_self]; rfl⟩⟩
theorem de_dnewT (k : X.K = K := by rfl) : DE K X W (.Dict [] [] pos) tDNewT (mDnew (.dT [])) := ⟨k, pe_dnewT, ⟨fun σ H s Z I r Q w rs e p => by
  cases e
  intro l hp
  refine p _ Z _ (I ++ [l]) (w.newO hp ⟨[], upd_same, .nil⟩) (ext_new w.sub hp) ⟨l, ?_, rfl⟩
  rw [← w.len, List.getElem?_append_right (Nat.le_refl _), Nat.sub_self]; rfl⟩⟩
/-- d.get(k), d.get(k, x) -/
def rGet (x : V) (xs : List V) (H : Hp) (Q : VK) : Prop := (∃ a y o, x = .ref a ∧ xs = [y] ∧ DGet H a y o ∧ Q (o.getD .non) H) ∨ ∃ a y z o, x = .ref a ∧ xs = [y, z] ∧ DGet H a y o ∧ Q (o.getD z) H
theorem mt_get (hu : X.A.units + 1 < cLine) : MtR X "dict.get" rGet := by
  intro pins s σ H x xs v us Q I rx rxs h
  rcases h with ⟨a, y, o, rfl, rfl, g, q⟩ | ⟨a, y, z, o, rfl, rfl, g, q⟩
  · cases rx
    obtain ⟨u, rfl, ru⟩ := rxs.one
    exact d_get1 hu I g ru fun w' s' I' r => ⟨_, H, I', r, q⟩
  · cases rx
    cases rxs with
    | cons r1 r2 =>
      obtain ⟨u, rfl, ru⟩ := Vals.one r2
      exact d_get2 hu I g r1 ru fun w' s' I' r => ⟨_, H, I', r, q⟩
def gGet : MtG := fun d ds s => match ds with
  | [.p k] => match getM s.m d k with
    | some (some v) => some (.ok v s.m)
    | some none => some (.ok (.p .non) s.m)
    | none => none
  | [.p k, z] => match getM s.m d k with
    | some (some v) => some (.ok v s.m)
    | some none => some (.ok z s.m)
    | none => none
  | _ => none
theorem md_get (hu : X.A.units + 1 < cLine) : MthD K X "dict.get" rGet gGet := ⟨fun _ => mt_get hu, fun W σ x d vs ds Z H I s r0 Q w hx hv e p => by
  unfold gGet at e
  split at e
  · rename_i k
    cases hv with
    | cons h1 h2 =>
    cases h2
    cases z : getM s.m d k with
    | none => simp only [z] at e; cases e
    | some o =>
      simp only [z] at e
      obtain ⟨ad, r, rfl, g, kk⟩ := getM_rep w hx h1 z
      refine .inl ⟨ad, _, r, rfl, rfl, g, ?_⟩
      rcases kk with ⟨rfl, rfl⟩ | ⟨u, c', rfl, rfl, hr⟩
      · cases e; exact p _ Z H I w Ext.refl .non
      · cases e; exact p _ Z H I w Ext.refl hr
  · rename_i k y
    cases hv with
    | cons h1 h2 =>
    cases h2 with
    | cons h2 h3 =>
    cases h3
    cases z : getM s.m d k with
    | none => simp only [z] at e; cases e
    | some o =>
      simp only [z] at e
      obtain ⟨ad, r, rfl, g, kk⟩ := getM_rep w hx h1 z
      refine .inr ⟨ad, _, _, r, rfl, rfl, g, ?_⟩
      rcases kk with ⟨rfl, rfl⟩ | ⟨u, c', rfl, rfl, hr⟩
      · cases e; exact p _ Z H I w Ext.refl h2
      · cases e; exact p _ Z H I w Ext.refl hr
  · cases e⟩
/-! ### l.pop(i) of one's own -/
def gPopAt : MtG := fun d ds s => match d, ds with
  | .o n, [.p (.int 0)] => match s.m[n]? with
    | some (.lst (x :: xs)) => some (.ok x (s.m.set n (.lst xs)))
    | _ => none
  | _, _ => none
theorem md_popAt : MthD K X "list.pop" rPopAt gPopAt := ⟨fun _ => mt_popAt, fun W σ x d vs ds Z H I s r0 Q w hx hv e p => by
  unfold gPopAt at e
  split at e
  · rename_i n
    obtain ⟨a, ha, rfl⟩ := hx
    cases hv with
    | cons h1 h2 =>
    cases h2
    have h1 : Rep K Z _ (.int 0) := h1
    cases h1
    split at e
    · rename_i y xs hm
      cases e
      obtain ⟨_, ys, g1, g2⟩ := w.ob n a _ ha hm (by intro z; cases z)
      cases g2 with
      | cons g3 g4 =>
        rename_i u us
        refine ⟨a, u :: us, 0, 0, u, rfl, rfl, g1, by decide, by decide, by simp [seqIndex?], rfl, ?_⟩
        exact p u Z _ I (w.setO ha hm (by intro z; cases z) ⟨_, upd_same, g4⟩) (ext_set (List.mem_of_getElem? ha)) (RepV.mono (ext_set (Z := Z) (H := H) (ho := .lst us) (I := I) (List.mem_of_getElem? ha)) g3)
    · cases e
  · cases e⟩
/-! ### ranges as data -/
theorem cr_range1 : CallR X (.type "range") (fun vs H Q => ∃ j, vs = [V.int j] ∧ ∀ p, H p = none → Q (.ref p) (upd H p (.rng 0 j))) := by
  intro pins s σ H vs us Q I r h
  obtain ⟨j, rfl, q⟩ := h
  obtain ⟨u1, rfl, rj⟩ := r.one
  obtain ⟨t, rfl⟩ := rj
  refine call_range_1 ⟨.ref s.heap.objs.size, upd H s.heap.objs.size (.rng 0 j), I.laid (t' := s.toks + 1 + 1) (fun b o e => Heap.get?_push_of_some _ e) (Nat.le_refl _) ?_, rfl, q _ (I.hok.fresh (Nat.le_refl _))⟩
  exact ⟨s.toks, t, s.toks + 1, Heap.get?_push_size _ rfl⟩
def dRng1 : D → Option D
  | .int j => some (.rng 0 j)
  | _ => none
theorem cd_rng1 : CallD K X (.type "range") (fun vs H Q => ∃ j, vs = [V.int j] ∧ ∀ p, H p = none → Q (.ref p) (upd H p (.rng 0 j))) (g1 dRng1) := ⟨fun _ => cr_range1, g1_ok fun x d c Z H Q s hx hg p => by
  unfold dRng1 at hg
  split at hg
  · cases hx; cases hg
    exact ⟨_, rfl, fun q hq => p _ _ _ (ExtP.new s hq) (.rng upd_same)⟩
  · cases hg⟩
def dInR (neg : Bool) : D → D → Option D
  | .int i, .rng lo hi => some (.bl (if neg then !decide (lo ≤ i ∧ i < hi) else decide (lo ≤ i ∧ i < hi)))
  | _, _ => none
theorem bool_dInR {neg : Bool} : boolD (dInR neg) := fun d e c h => by
  unfold dInR at h
  split at h
  · exact ⟨_, (Option.some.inj h).symm⟩
  · cases h
theorem op_nin_rng : OpR X (compareOp .NotIn) (fun x y H Q => ∃ i a lo hi, x = V.int i ∧ y = V.ref a ∧ H a = some (.rng lo hi) ∧ Q (.bl (!decide (lo ≤ i ∧ i < hi))) H) := by
  intro pins s σ H x y v u Q I rx ry h
  obtain ⟨i, a, lo, hi, rfl, rfl, ha, q⟩ := h
  obtain ⟨k, rfl⟩ := rx
  obtain rfl : u = Value.ref a := ry
  obtain ⟨t1, t2, t3, ho⟩ := I.hok a _ ha
  show wpAny _ _ (do return Value.bool (!(← contains (Value.ref a) (Value.int i k)))) _ _ s
  refine wpAny_bind (wpAny_contains_slot (T := "range") ⟨_, ho, rfl⟩ F.slot_range_contains (call_meets F.slot_range_contains ⟨_, ho, rfl⟩ F.entry_range_contains (F.args_range_contains_2 _ _) (q_contains a lo hi i t1 t2 t3 k)
    ⟨ho, wpAny_truthy_bool (wpAny_pure ⟨.bl _, H, I, rfl, ?_⟩)⟩))
  rw [place1]
  exact q
theorem od_inR : OpD K X (compareOp .In) (fun x y H Q => ∃ i a lo hi, x = V.int i ∧ y = V.ref a ∧ H a = some (.rng lo hi) ∧ Q (.bl (decide (lo ≤ i ∧ i < hi))) H) (dInR false) := ⟨fun _ => op_in_rng, by
  intro x y d e c Z H Q s hx hy hg p
  unfold dInR at hg
  split at hg
  · cases hx
    cases hy with
    | rng h => cases hg; exact ⟨_, _, _, _, rfl, rfl, s _ _ h, p _ Z H (ExtP.refl s) (.bl _)⟩
  · cases hg⟩
theorem od_ninR : OpD K X (compareOp .NotIn) (fun x y H Q => ∃ i a lo hi, x = V.int i ∧ y = V.ref a ∧ H a = some (.rng lo hi) ∧ Q (.bl (!decide (lo ≤ i ∧ i < hi))) H) (dInR true) := ⟨fun _ => op_nin_rng, by
  intro x y d e c Z H Q s hx hy hg p
  unfold dInR at hg
  split at hg
  · cases hx
    cases hy with
    | rng h => cases hg; exact ⟨_, _, _, _, rfl, rfl, s _ _ h, p _ Z H (ExtP.refl s) (.bl _)⟩
  · cases hg⟩
/-! ### l.index(x), flat items -/
def flatD : D → Bool
  | .non => true
  | .bl _ => true
  | .int _ => true
  | .str _ => true
  | _ => false
def findJ (x : D) : List D → Nat → Option Nat
  | [], _ => none
  | y :: ys, j => if deq y x = true then some j else findJ x ys (j + 1)
def dLindex : D → List D → Option D
  | .lst ys, [x] => if flatD x = true ∧ ys.all flatD = true then (findJ x ys 0).map fun (j : Nat) => .int (j : Int) else none
  | .klst ys, [x] => if flatD x = true ∧ ys.all flatD = true then (findJ x ys 0).map fun (j : Nat) => .int (j : Int) else none
  | _, _ => none
theorem flat_rep {v : V} {d : D} (h : Rep K Z v d) (f : flatD d = true) : flatV v = true := by
  cases h <;> first | rfl | cases f
theorem flats_rep : ∀ {vs : List V} {ds : List D}, RepA K Z vs ds → ds.all flatD = true → vs.all flatV = true
  | _, _, .nil, _ => rfl
  | _, _, .cons h r, f => by
    rw [List.all_cons, Bool.and_eq_true] at f
    rw [List.all_cons, Bool.and_eq_true]
    exact ⟨flat_rep h f.1, flats_rep r f.2⟩
theorem eq_rep {v w : V} {d f : D} (h : Rep K Z v d) (g : Rep K Z w f) (fd : flatD d = true) (ff : flatD f = true) : eqV v w = deq d f := by
  cases h <;> first | cases fd | skip
  all_goals (cases g <;> first | cases ff | skip)
  all_goals first | rfl | (rename_i a b; cases a <;> cases b <;> rfl) | skip
theorem find_rep {x : V} {dx : D} (hx : Rep K Z x dx) (fx : flatD dx = true) : ∀ {vs : List V} {ds : List D} {j k : Nat}, RepA K Z vs ds → ds.all flatD = true → findJ dx ds j = some k →
    ∃ i z, k = j + i ∧ vs[i]? = some z ∧ eqV z x = true ∧ ∀ m z', m < i → vs[m]? = some z' → eqV z' x = false
  | _, _, _, _, .nil, _, e => by cases e
  | _, _, j, k, .cons (v := v) (vs := vs) (d := d) (ds := ds) h r, f, e => by
    rw [List.all_cons, Bool.and_eq_true] at f
    have e : (if deq d dx = true then some j else findJ dx ds (j + 1)) = some k := e
    by_cases q : deq d dx = true
    · rw [if_pos q] at e
      cases e
      exact ⟨0, v, rfl, rfl, by rw [eq_rep h hx f.1 fx]; exact q, fun m z' hm => absurd hm (Nat.not_lt_zero m)⟩
    · rw [if_neg q] at e
      obtain ⟨i, z, h1, h2, h3, h4⟩ := find_rep hx fx r f.2 e
      refine ⟨i + 1, z, by omega, by simpa using h2, h3, fun m z' hm hz => ?_⟩
      cases m with
      | zero =>
        cases hz
        rw [eq_rep h hx f.1 fx]; simpa using q
      | succ m => exact h4 m z' (by omega) (by simpa using hz)
theorem md_lindex : MthD K X "list.index" (rIndex K) (gP dLindex) := ⟨fun k => by rw [← k]; exact mt_index, gP_ok fun x d vs ds c Z H Q s hx hv e p => by
  unfold dLindex at e
  have main : ∀ {a : Addr} {xs : List V} {ys : List D} {y : D}, x = .ref a → SqL K H a xs → RepA K Z xs ys → RepA K Z vs [y] → (if flatD y = true ∧ ys.all flatD = true then (findJ y ys 0).map fun (j : Nat) => D.int (j : Int) else none) = some c → rIndex K x vs H Q := by
    intro a xs ys y ex hs ra rv e
    split at e
    · rename_i hf
      obtain ⟨j, hj, rfl⟩ := Option.map_eq_some_iff.mp e
      cases rv with
      | cons h1 h2 =>
      cases h2
      obtain ⟨i, z, e1, e2, e3, e4⟩ := find_rep h1 hf.1 ra hf.2 hj
      obtain rfl : j = i := by omega
      exact ⟨a, xs, _, j, z, ex, rfl, hs, flat_rep h1 hf.1, flats_rep ra hf.2, e2, e3, e4, p _ Z H (ExtP.refl s) (.int _)⟩
    · cases e
  split at e
  · cases hx with
    | lst h1 h2 => exact main rfl (.inl (same_rd s h1)) h2 hv e
  · cases hx with
    | klst h1 h2 => exact main rfl (same_l s h1) h2 hv e
  · cases e⟩
/-! ### from here on it stays: a name's own object is given up -/
def allKP {κ : Type} : List (κ × DV) → Option (List (κ × D))
  | [] => some []
  | (k, .p d) :: r => (allKP r).map ((k, d) :: ·)
  | (_, .o _) :: _ => none
theorem allKP_k : ∀ {ks : List (Key × V)} {ds : List (Key × DV)} {xs : List (Key × D)}, Paired (FRel K Z I) ks ds → allKP ds = some xs → RepK K Z ks xs
  | _, [], _, .nil, e => by cases e; exact .nil
  | (k', v) :: ks, (k, .p d) :: r, _, .cons h t, e => by
    have e : (allKP r).map ((k, d) :: ·) = some _ := e
    cases q : allKP r with
    | none => rw [q] at e; cases e
    | some ys =>
      rw [q] at e; cases e
      obtain ⟨h1, h2⟩ := h
      cases (show k' = k from h1)
      exact .cons h2 (allKP_k t q)
  | _, (_, .o _) :: _, _, .cons h t, e => by cases e
theorem allKP_t : ∀ {ks : List (List Key × V)} {ds : List (List Key × DV)} {xs : List (List Key × D)}, Paired (FRel K Z I) ks ds → allKP ds = some xs → RepT K Z ks xs
  | _, [], _, .nil, e => by cases e; exact .nil
  | (k', v) :: ks, (k, .p d) :: r, _, .cons h t, e => by
    have e : (allKP r).map ((k, d) :: ·) = some _ := e
    cases q : allKP r with
    | none => rw [q] at e; cases e
    | some ys =>
      rw [q] at e; cases e
      obtain ⟨h1, h2⟩ := h
      cases (show k' = k from h1)
      exact .cons h2 (allKP_t t q)
  | _, (_, .o _) :: _, _, .cons h t, e => by cases e
def frzO : O → Option D
  | .lst ds => (allP ds).map .lst
  | .dK ds => (allKP ds).map .dK
  | .dT ds => (allKP ds).map .dT
  | _ => none
def sFrz (i : Nat) : SM := fun s => match gv s.l i with
  | some (.o n) => match s.m[n]? with
    | some o => match frzO o with
      | some d => some (.nx, ⟨s.l.set i (some (.p d)), s.m.set n .gone⟩)
      | none => none
    | none => none
  | _ => none
theorem frz_rep {n : Nat} {a : Addr} {o : O} {d : D} (w : Wf K Z H I M) (ha : I[n]? = some a) (hm : M[n]? = some o) (e : frzO o = some d) : ∃ Z', Wf K Z' H I (M.set n .gone) ∧ Ext Z H I Z' H I ∧ Rep K Z' (.ref a) d := by
  cases o with
  | lst ds =>
    obtain ⟨xs, hx, rfl⟩ := Option.map_eq_some_iff.mp (show (allP ds).map D.lst = some d from e)
    obtain ⟨hz, ys, h1, h2⟩ := w.ob n a _ ha hm (by intro z; cases z)
    have x2 := ext_frz w ha hz h1
    exact ⟨_, w.frz ha hm (by intro z; cases z) h1, x2, .lst (.inl upd_same) ((allP_rep h2 hx).mono x2.z)⟩
  | dK ds =>
    obtain ⟨xs, hx, rfl⟩ := Option.map_eq_some_iff.mp (show (allKP ds).map D.dK = some d from e)
    obtain ⟨hz, ys, h1, h2⟩ := w.ob n a _ ha hm (by intro z; cases z)
    have x2 := ext_frz w ha hz h1
    exact ⟨_, w.frz ha hm (by intro z; cases z) h1, x2, .dK upd_same ((allKP_k h2 hx).mono x2.z)⟩
  | dT ds =>
    obtain ⟨xs, hx, rfl⟩ := Option.map_eq_some_iff.mp (show (allKP ds).map D.dT = some d from e)
    obtain ⟨hz, ys, h1, h2⟩ := w.ob n a _ ha hm (by intro z; cases z)
    have x2 := ext_frz w ha hz h1
    exact ⟨_, w.frz ha hm (by intro z; cases z) h1, x2, .dT upd_same ((allKP_t h2 hx).mono x2.z)⟩
  | _ => cases e
theorem so_sfrz (i : Nat) {t : TS} {m : SM} (h : SoundS K W t m) : SoundS K W t (sSeq (sFrz i) m) := ⟨fun σ H s Z I r D w rs e p => by
  unfold sSeq sFrz at e
  cases q : gv s.l i with
  | none => simp only [q] at e; cases e
  | some d =>
    cases d with
    | p d => simp only [q] at e; cases e
    | o n =>
      simp only [q] at e
      cases q2 : s.m[n]? with
      | none => simp only [q2] at e; cases e
      | some o =>
        simp only [q2] at e
        cases q3 : frzO o with
        | none => simp only [q3] at e; cases e
        | some d =>
          simp only [q3] at e
          obtain ⟨v, h1, a, ha, rfl⟩ := rs.at_ i _ (gv_some q)
          obtain ⟨Z', w', x', rp⟩ := frz_rep w ha q2 q3
          refine h.ok σ H _ Z' I r D w' ?_ e (p.mono x')
          have r1 := (rs.mono x').set (v := .ref a) (dv := .p d) rp i
          have e2 : σ.set i (some (V.ref a)) = σ := by
            obtain ⟨hl, he⟩ := List.getElem?_eq_some_iff.mp h1
            rw [← he, List.set_getElem_self]
          rw [e2] at r1
          exact r1⟩
theorem dss_frz (i : Nat) {sts : List Stmt} {t : TS} {m : SM} (h : DSs K X W sts t m) : DSs K X W sts t (sSeq (sFrz i) m) := ⟨h.k, h.ps, so_sfrz i h.so⟩
end
end DL
namespace DL
open PySem L2
/-! equations of DL31, and data that stand for values of a type -/
@[simp] theorem e_dget (m n : EM) (s : S) : mDget m n s = (bnd m fun d => bnd n (pur (dgK d))) s := rfl
@[simp] theorem e_dgK (d : DV) (k : D) (s : S) : dgK d k s = (match getM s.m d k with | some (some v) => some (.ok v s.m) | _ => none) := rfl
@[simp] theorem e_din (neg : Bool) (m n : EM) (s : S) : mDin neg m n s = (bnd m (pur fun k => bnd n (dinK neg k))) s := rfl
@[simp] theorem e_dinK (neg : Bool) (k : D) (d : DV) (s : S) : dinK neg k d s = (match getM s.m d k with | some o => some (.ok (.p (.bl (if neg then !o.isSome else o.isSome))) s.m) | _ => none) := rfl
@[simp] theorem e_put (mv md mk : EM) (s : S) : sPut mv md mk s = (liftS mv fun v => liftS md fun d => liftS mk (purS fun k => sPutK v d k)) s := rfl
@[simp] theorem e_purS (k : D → SM) (d : D) (s : S) : purS k (.p d) s = k d s := rfl
@[simp] theorem e_putK (v : DV) (n : Nat) (k : D) (s : S) : sPutK v (.o n) k s = (match putM s.m n k v with | some M => some (.nx, ⟨s.l, M⟩) | none => none) := rfl
@[simp] theorem e_dnew (o : O) (s : S) : mDnew o s = some (.ok (.o s.m.length) (s.m ++ [o])) := rfl
@[simp] theorem e_get1 (d : DV) (k : D) (s : S) : gGet d [.p k] s = (match getM s.m d k with | some (some v) => some (.ok v s.m) | some none => some (.ok (.p .non) s.m) | none => none) := rfl
@[simp] theorem e_get2 (d : DV) (k : D) (z : DV) (s : S) : gGet d [.p k, z] s = (match getM s.m d k with | some (some v) => some (.ok v s.m) | some none => some (.ok z s.m) | none => none) := rfl
@[simp] theorem e_popAt (n : Nat) (s : S) : gPopAt (.o n) [.p (.int 0)] s = (match s.m[n]? with | some (.lst (x :: xs)) => some (.ok x (s.m.set n (.lst xs))) | _ => none) := rfl
@[simp] theorem e_rngD (j : Int) : dRng1 (.int j) = some (.rng 0 j) := rfl
@[simp] theorem e_inR0 (i lo hi : Int) : dInR false (.int i) (.rng lo hi) = some (.bl (decide (lo ≤ i ∧ i < hi))) := rfl
@[simp] theorem e_inR1 (i lo hi : Int) : dInR true (.int i) (.rng lo hi) = some (.bl (!decide (lo ≤ i ∧ i < hi))) := rfl
@[simp] theorem e_sfrz (i : Nat) (s : S) : sFrz i s = (match gv s.l i with
  | some (.o n) => match s.m[n]? with
    | some o => match frzO o with
      | some d => some (.nx, ⟨s.l.set i (some (.p d)), s.m.set n .gone⟩)
      | none => none
    | none => none
  | _ => none) := rfl
@[simp] theorem e_frzL (xs : List DV) : frzO (.lst xs) = (allP xs).map .lst := rfl
@[simp] theorem e_lindex (ys : List D) (x : D) : dLindex (.lst ys) [x] = if flatD x = true ∧ ys.all flatD = true then (findJ x ys 0).map fun (j : Nat) => .int (j : Int) else none := rfl
@[simp] theorem e_flatI (i : Int) : flatD (.int i) = true := rfl
@[simp] theorem e_flatS (i : Str) : flatD (.str i) = true := rfl
@[simp] theorem e_tyOkP (M : List O) (xs : List D) : tyOk "list" M (.p (.lst xs)) = true := rfl
/-! equality -/
theorem scal_deq {d e : D} {b : Bool} (h : scalD d e = some b) : b = deq d e := by
  unfold scalD at h
  split at h <;> first | (cases h; rfl) | cases h
theorem eqD_deq {d e : D} {b : Bool} (h : eqD d e = some b) : b = deq d e := by
  unfold eqD at h
  split at h
  · rename_i h1; cases h; exact scal_deq h1
  · split at h
    · cases h; rfl
    · cases h
theorem eqD_shp {d e : D} (h1 : shp d = true) (h2 : shp e = true) : eqD d e = some (deq d e) := by
  unfold eqD
  split
  · rename_i h; rw [scal_deq h]
  · rw [h1, h2]; rfl
theorem inD_shp {d : D} {ds : List D} (h1 : shp d = true) (h2 : shp (.lst ds) = true) : inD d (.lst ds) = some (ds.any fun z => deq z d) := by
  have e : inD d (.lst ds) = if (shp d && shp (.lst ds)) = true then some (ds.any fun z => deq z d) else none := by cases d <;> rfl
  rw [e, h1, h2]; rfl
/-- values of a type, as data -/
class En (α : Type) [DecidableEq α] where
  en : α → D
  dq : ∀ a b, deq (en a) (en b) = decide (a = b)
  ok : ∀ a, okD (en a) = true
  dp : Nat
  dpl : ∀ a, depD (en a) ≤ dp
section
variable {α β : Type} [DecidableEq α] [DecidableEq β] [En α] [En β]
instance : En Int := ⟨.int, fun a b => by simp, fun _ => rfl, 0, fun _ => Nat.le_refl _⟩
instance : En Bool := ⟨.bl, fun a b => by simp, fun _ => rfl, 0, fun _ => Nat.le_refl _⟩
theorem deqs_en : ∀ l m : List α, deqs (l.map En.en) (m.map En.en) = decide (l = m)
  | [], [] => rfl
  | [], y :: ys => by simp
  | x :: xs, [] => by simp
  | x :: xs, y :: ys => by
    rw [List.map_cons, List.map_cons, e_deqs1, En.dq, deqs_en xs ys]
    by_cases h1 : x = y <;> by_cases h2 : xs = ys <;> simp [h1, h2]
theorem okDs_en : ∀ l : List α, okDs (l.map En.en) = true
  | [] => rfl
  | x :: xs => by rw [List.map_cons, e_ok1, En.ok, okDs_en xs]; rfl
theorem depDs_en : ∀ l : List α, depDs (l.map En.en) ≤ En.dp α
  | [] => Nat.zero_le _
  | x :: xs => by rw [List.map_cons, e_dp1]; exact Nat.max_le.mpr ⟨En.dpl x, depDs_en xs⟩
instance : En (α × β) := ⟨fun p => .tup [En.en p.1, En.en p.2], fun a b => by
    obtain ⟨a1, a2⟩ := a; obtain ⟨b1, b2⟩ := b
    by_cases h1 : a1 = b1 <;> by_cases h2 : a2 = b2 <;> simp [En.dq, h1, h2], fun a => by simp [En.ok], max (En.dp α) (En.dp β) + 1, fun a => by
    have h1 := En.dpl a.1; have h2 := En.dpl a.2
    simp; omega⟩
instance : En (List α) := ⟨fun l => .lst (l.map En.en), deqs_en, okDs_en, En.dp α + 1, fun l => Nat.succ_le_succ (depDs_en l)⟩
theorem shp_en (a : α) (h : En.dp α ≤ 64) : shp (En.en a) = true := by
  have := En.dpl a
  rw [e_shp, En.ok]; simp; omega
theorem eqD_en (a b : α) (h : En.dp α ≤ 64) : eqD (En.en a) (En.en b) = some (decide (a = b)) := by
  rw [eqD_shp (shp_en a h) (shp_en b h), En.dq]
theorem any_en (a : α) : ∀ l : List α, ((l.map En.en).any fun z => deq z (En.en a)) = decide (a ∈ l)
  | [] => rfl
  | x :: xs => by
    rw [List.map_cons, List.any_cons, En.dq, any_en a xs]
    by_cases h1 : x = a <;> by_cases h2 : a ∈ xs <;> simp [h1, h2, eq_comm]
    all_goals (intro h; exact absurd h.symm h1)
theorem inD_en (a : α) (l : List α) (h : En.dp α + 1 ≤ 64) : inD (En.en a) (.lst (l.map En.en)) = some (decide (a ∈ l)) := by
  rw [inD_shp (shp_en a (by omega)) (shp_en (α := List α) l h), any_en]
end
end DL
namespace DL
open PySem L2
/-! data whose text is short -/
theorem int_rb (i : Int) (h : i.natAbs ≤ 1000000000000000000) : rb (.int i) ≤ 100 := by
  have hl : i.natAbs.log2 < 64 := by
    by_cases h0 : i.natAbs = 0
    · rw [h0]; decide
    · exact (Nat.log2_lt h0).mpr (by omega)
  show (intS i).length ≤ 100
  have := int_text_length_le (k := 64) (by decide) hl
  unfold intS
  rw [ofString_length]
  omega
/-- data of depth n at most, whose text has w signs at most -/
structure Sm (n w : Nat) (d : D) : Prop where
  ok : okD d = true
  dp : depD d ≤ n
  sh : showD d = true
  rb : rb d ≤ w
theorem Sm.int {n w : Nat} {i : Int} (h : i.natAbs ≤ 1000000000000000000) (hw : 100 ≤ w) : Sm n w (.int i) := ⟨rfl, Nat.zero_le _, logOk_of h, Nat.le_trans (int_rb i h) hw⟩
theorem Sm.bl {n w : Nat} {i : Bool} (hw : 5 ≤ w) : Sm n w (.bl i) := ⟨rfl, Nat.zero_le _, rfl, hw⟩
theorem Sm.non {n w : Nat} (hw : 5 ≤ w) : Sm n w .non := ⟨rfl, Nat.zero_le _, rfl, hw⟩
theorem Sm.mono {n w n' w' : Nat} {d : D} (h : Sm n w d) (hn : n ≤ n') (hw : w ≤ w') : Sm n' w' d := ⟨h.ok, Nat.le_trans h.dp hn, h.sh, Nat.le_trans h.rb hw⟩
theorem sm_all {n w : Nat} : ∀ {ds : List D}, (∀ d ∈ ds, Sm n w d) → okDs ds = true ∧ depDs ds ≤ n ∧ showDs ds = true ∧ rbs ds ≤ (w + 2) * ds.length
  | [], _ => ⟨rfl, Nat.zero_le _, rfl, Nat.zero_le _⟩
  | d :: ds, h => by
    have h1 := h d (by simp)
    obtain ⟨a, b, c, e⟩ := sm_all (n := n) (w := w) (ds := ds) fun x hx => h x (List.mem_cons_of_mem _ hx)
    refine ⟨by rw [e_ok1, h1.ok, a]; rfl, by rw [e_dp1]; exact Nat.max_le.mpr ⟨h1.dp, b⟩, ?_, ?_⟩
    · show (showD d && showDs ds) = true
      rw [h1.sh, c]; rfl
    · show DL.rb d + 2 + rbs ds ≤ (w + 2) * (ds.length + 1)
      have := h1.rb
      rw [Nat.mul_succ]
      omega
theorem Sm.lst {n w v : Nat} {ds : List D} (h : ∀ d ∈ ds, Sm n w d) (hv : (w + 2) * ds.length + 3 ≤ v) : Sm (n + 1) v (.lst ds) := by
  obtain ⟨a, b, c, e⟩ := sm_all h
  exact ⟨a, Nat.succ_le_succ b, c, by show rbs ds + 3 ≤ v; omega⟩
theorem Sm.tup {n w v : Nat} {ds : List D} (h : ∀ d ∈ ds, Sm n w d) (hv : (w + 2) * ds.length + 3 ≤ v) : Sm (n + 1) v (.tup ds) := by
  obtain ⟨a, b, c, e⟩ := sm_all h
  exact ⟨a, Nat.succ_le_succ b, c, by show rbs ds + 3 ≤ v; omega⟩
theorem Sm.repr {n w : Nat} {d : D} (h : Sm n w d) (hn : n ≤ 64) (hw : w ≤ 1000000) : dRepr d = some (.str (reprD d)) := by
  unfold dRepr
  have hs : shp d = true := by
    rw [e_shp, h.ok]
    have := h.dp
    simp; omega
  have := h.rb
  rw [hs, h.sh, if_pos (by decide), if_pos (by omega)]
theorem Sm.str {n w : Nat} {s : Str} (h : PyData.strOk s = true) (hw : 10 * s.length + 2 ≤ w) : Sm n w (.str s) := by
  refine ⟨h, Nat.zero_le _, rfl, Nat.le_trans ?_ hw⟩
  refine StrLaws.reprText_len s fun c hc => ?_
  unfold PyData.strOk at h
  rw [← Array.all_toList, List.all_eq_true] at h
  have := of_decide_eq_true (h c hc)
  have e : (1114112 : Nat) ≤ 16 ^ 8 := by decide
  omega
theorem ks_len (k : String) : (Str.ofString k).length = k.toList.length := by rw [tx_ofString, tx_len, List.length_map]
mutual
theorem deq_refl : ∀ d : D, okD d = true → deq d d = true
  | .non, _ => rfl
  | .bl b, _ => by simp
  | .int i, _ => by simp
  | .str s, _ => by simp
  | .lst xs, h => deqs_refl xs h
  | .tup xs, h => deqs_refl xs h
  | .klst xs, h => deqs_refl xs h
  | .ktup xs, h => deqs_refl xs h
  | .dK _, h => by cases h
  | .dT _, h => by cases h
  | .fn _, h => by cases h
  | .scr _, h => by cases h
  | .ty _, h => by cases h
  | .rng _ _, h => by cases h
theorem deqs_refl : ∀ d : List D, okDs d = true → deqs d d = true
  | [], _ => rfl
  | x :: xs, h => by
    have h : (okD x && okDs xs) = true := h
    rw [Bool.and_eq_true] at h
    show (deq x x && deqs xs xs) = true
    rw [deq_refl x h.1, deqs_refl xs h.2]; rfl
end
theorem eqD_refl {d : D} (h : okD d = true) (h2 : depD d ≤ 64) : eqD d d = some true := by
  have hs : shp d = true := by rw [e_shp, h, decide_eq_true h2]; rfl
  rw [eqD_shp hs hs, deq_refl d h]
end DL
namespace DL
open PySem L2
section
variable {α κ : Type} [DecidableEq κ]
theorem valO_cons (p : κ × α) (r : List (κ × α)) (k : κ) : valO (p :: r) k = if p.1 = k then some p.2 else valO r k := by
  by_cases h : p.1 = k <;> simp [valO, h]
theorem valO_map (k j : κ) (v : α) : ∀ kvs : List (κ × α), valO (kvs.map fun kv => if kv.1 = k then (kv.1, v) else kv) j = (valO kvs j).map fun x => if j = k then v else x
  | [] => rfl
  | p :: r => by
    rw [List.map_cons, valO_cons, valO_cons, valO_map k j v r]
    by_cases h : p.1 = k
    · rw [if_pos h]
      by_cases e : p.1 = j
      · rw [if_pos e, if_pos e, Option.map_some, if_pos (e.symm.trans h)]
      · rw [if_neg e, if_neg e]
    · rw [if_neg h]
      by_cases e : p.1 = j
      · rw [if_pos e, if_pos e, Option.map_some, if_neg fun z => h (e.trans z)]
      · rw [if_neg e, if_neg e]
theorem valO_any (k : κ) : ∀ kvs : List (κ × α), (kvs.any fun kv => decide (kv.1 = k)) = (valO kvs k).isSome
  | [] => rfl
  | p :: r => by
    rw [List.any_cons, valO_cons, valO_any k r]
    by_cases h : p.1 = k <;> simp [h]
theorem valO_snoc (k j : κ) (v : α) : ∀ kvs : List (κ × α), valO kvs k = none → valO (kvs ++ [(k, v)]) j = if j = k then some v else valO kvs j
  | [], _ => by
    rw [List.nil_append, valO_cons]
    by_cases e : k = j
    · rw [if_pos e, if_pos e.symm]
    · rw [if_neg e, if_neg fun z => e z.symm]
  | p :: r, h => by
    rw [valO_cons] at h
    by_cases e : p.1 = k
    · rw [if_pos e] at h; cases h
    · rw [if_neg e] at h
      rw [List.cons_append, valO_cons, valO_cons, valO_snoc k j v r h]
      by_cases e2 : p.1 = j
      · rw [if_pos e2, if_pos e2, if_neg fun z => e (e2.trans z)]
      · rw [if_neg e2, if_neg e2]
theorem valO_put (kvs : List (κ × α)) (k j : κ) (v : α) : valO (putO kvs k v) j = if j = k then some v else valO kvs j := by
  unfold putO
  rw [valO_any]
  split
  · rename_i h
    rw [valO_map]
    by_cases e : j = k
    · subst e
      rw [if_pos rfl]
      obtain ⟨x, hx⟩ := Option.isSome_iff_exists.mp h
      rw [hx]; simp
    · rw [if_neg e]
      cases valO kvs j with
      | none => rfl
      | some x => simp [e]
  · rename_i h
    exact valO_snoc k j v kvs (by simpa using h)
theorem putO_len (kvs : List (κ × α)) (k : κ) (v : α) : (putO kvs k v).length ≤ kvs.length + 1 := by
  unfold putO; split <;> simp
end
theorem gv_set (l : List (Option DV)) (i j : Nat) (x : Option DV) : gv (l.set i x) j = if i = j then (if i < l.length then x else none) else gv l j := by
  unfold gv
  by_cases h : i = j
  · subst h
    rw [if_pos rfl]
    by_cases hl : i < l.length
    · rw [List.getElem?_set_self hl, if_pos hl]; cases x <;> rfl
    · rw [List.getElem?_eq_none (by simpa using hl), if_neg hl]
  · rw [List.getElem?_set_ne h, if_neg h]
end DL
namespace DL
open PySem L2
@[simp] theorem at2 {α : Type} (x y z : α) (xs : List α) : atI (x :: y :: z :: xs) 2 = some z := atI_nat' (by decide) rfl
@[simp] theorem at3 {α : Type} (x y z u : α) (xs : List α) : atI (x :: y :: z :: u :: xs) 3 = some u := atI_nat' (by decide) rfl
@[simp] theorem at4 {α : Type} (x y z u v : α) (xs : List α) : atI (x :: y :: z :: u :: v :: xs) 4 = some v := atI_nat' (by decide) rfl
@[simp] theorem at5 {α : Type} (x y z u v t : α) (xs : List α) : atI (x :: y :: z :: u :: v :: t :: xs) 5 = some t := atI_nat' (by decide) rfl
end DL
namespace DL
open PySem L2
theorem getM_T {M : List O} {n : Nat} {kvs : List (List Key × DV)} (h : M[n]? = some (.dT kvs)) (k : D) : getM M (.o n) k = (keyT k).map (valO kvs) := by
  unfold getM dcM; simp only [h]; rfl
theorem getM_K {M : List O} {n : Nat} {kvs : List (Key × DV)} (h : M[n]? = some (.dK kvs)) (k : D) : getM M (.o n) k = (keyD k).map (valO kvs) := by
  unfold getM dcM; simp only [h]; rfl
theorem putM_T {M : List O} {n : Nat} {kvs : List (List Key × DV)} (h : M[n]? = some (.dT kvs)) {k : D} {kk : List Key} (hk : keyT k = some kk) (hl : kvs.length < 1000000) (v : DV) : putM M n k v = some (M.set n (.dT (putO kvs kk v))) := by
  unfold putM; simp only [h, hk, if_pos hl]
theorem putM_K {M : List O} {n : Nat} {kvs : List (Key × DV)} (h : M[n]? = some (.dK kvs)) {k : D} {kk : Key} (hk : keyD k = some kk) (hl : kvs.length < 1000000) (v : DV) : putM M n k v = some (M.set n (.dK (putO kvs kk v))) := by
  unfold putM; simp only [h, hk, if_pos hl]
@[simp] theorem tyOk_dT {M : List O} {n : Nat} {kvs : List (List Key × DV)} (h : M[n]? = some (.dT kvs)) : tyOk "dict" M (.o n) = true := by
  unfold tyOk; simp only [h]; rfl
end DL
namespace DL
open PySem L2
/-- a loop, its turns counted -/
theorem w_loopN {g : GM} {b : SM} {Inv : Nat → S → Prop} {R : DV → S → Prop} : ∀ (ds : List DV) (n : Nat) (s : S), Inv n s →
    (∀ d ∈ ds, ∀ m, n ≤ m → m < n + ds.length → ∀ s, Inv m s → ∃ s1, g d s = some s1 ∧ wpS (b s1) (fun f s2 => (f = .nx ∧ Inv (m + 1) s2) ∨ (∃ v, f = .rt v ∧ R v s2))) →
    wpS (loopS g b ds s) (fun f s2 => (f = .nx ∧ Inv (n + ds.length) s2) ∨ (∃ v, f = .rt v ∧ R v s2))
  | [], n, s, h, _ => by simp; exact h
  | d :: ds, n, s, h, k => by
    obtain ⟨s1, h1, f, s2, e, nn, p⟩ := k d (by simp) n (Nat.le_refl _) (by simp) s h
    rw [loopS_cons, h1]
    dsimp only
    rw [e]
    rcases p with ⟨rfl, p⟩ | ⟨v, rfl, p⟩
    · have := w_loopN (R := R) ds (n + 1) s2 p fun x hx m h1 h2 => k x (List.mem_cons_of_mem _ hx) m (by omega) (by simp; omega)
      rw [show n + 1 + ds.length = n + (d :: ds).length by simp; omega] at this
      exact this
    · exact ⟨_, _, rfl, rfl, .inr ⟨v, rfl, p⟩⟩
/-- a comprehension whose test draws, too -/
theorem compL_drawT {l : List (Option DV)} {g : GM} {t e : EM} {Inv : List O → Prop} {R : D → Prop} : ∀ (ds : List DV) (acc : List D) (M : List O), Inv M → (∀ y ∈ acc, R y) → acc.length + ds.length ≤ 1000000 →
    (∀ d ∈ ds, ∀ M, Inv M → ∃ s1, g d ⟨l, M⟩ = some s1 ∧ wpB (t s1) (fun v M2 => ∃ b, v = .p (.bl b) ∧ Inv M2 ∧ (b = true → wpB (e ⟨s1.l, M2⟩) (fun v M3 => ∃ y, v = .p y ∧ R y ∧ Inv M3)))) →
    ∃ ys M', compL l g t e ds acc M = some (ys, M') ∧ Inv M' ∧ (∀ y ∈ ys, R y) ∧ ys.length ≤ acc.length + ds.length
  | [], acc, M, h, ha, _, _ => ⟨acc, M, rfl, h, ha, Nat.le_refl _⟩
  | d :: ds, acc, M, h, ha, hl, k => by
    obtain ⟨s1, h1, v, M2, e1, b, rfl, h2, h3⟩ := k d (by simp) M h
    have hl' : acc.length + (ds.length + 1) ≤ 1000000 := hl
    unfold compL
    rw [h1]
    dsimp only
    rw [e1]
    cases b with
    | false =>
      dsimp only
      obtain ⟨ys, M', e2, i2, r2, l2⟩ := compL_drawT (t := t) (e := e) ds acc M2 h2 ha (by omega) fun x hx => k x (List.mem_cons_of_mem _ hx)
      exact ⟨ys, M', e2, i2, r2, by simp; omega⟩
    | true =>
      dsimp only
      obtain ⟨w, M3, e3, y, rfl, hy, h4⟩ := h3 rfl
      rw [e3]
      dsimp only
      rw [if_pos (by omega)]
      obtain ⟨ys, M', e2, i2, r2, l2⟩ := compL_drawT (t := t) (e := e) ds (acc ++ [y]) M3 h4 (fun z hz => by
        rw [List.mem_append] at hz
        rcases hz with hz | hz
        · exact ha z hz
        · simp at hz; rw [hz]; exact hy) (by simp; omega) fun x hx => k x (List.mem_cons_of_mem _ hx)
      exact ⟨ys, M', e2, i2, r2, by simp at l2 ⊢; omega⟩
theorem list_of {α : Type} {f : α → D} {p : α → Prop} : ∀ {ys : List D}, (∀ y ∈ ys, ∃ a, y = f a ∧ p a) → ∃ l : List α, ys = l.map f ∧ ∀ a ∈ l, p a
  | [], _ => ⟨[], rfl, by simp⟩
  | y :: ys, h => by
    obtain ⟨a, rfl, ha⟩ := h y (by simp)
    obtain ⟨l, rfl, hl⟩ := list_of fun z hz => h z (List.mem_cons_of_mem _ hz)
    exact ⟨a :: l, rfl, fun b hb => by
      rcases List.mem_cons.mp hb with rfl | hb
      · exact ha
      · exact hl b hb⟩
theorem mem_intsFrom {d : DV} {lo : Int} {n : Nat} (h : d ∈ DL.intsFrom lo n) : ∃ i : Nat, i < n ∧ d = .p (.int (lo + i)) := by
  unfold DL.intsFrom at h
  obtain ⟨i, hi, rfl⟩ := List.mem_map.mp h
  exact ⟨i, List.mem_range.mp hi, rfl⟩
@[simp] theorem intsFrom_len (lo : Int) (n : Nat) : (DL.intsFrom lo n).length = n := by unfold DL.intsFrom; simp
end DL
namespace DL
open PySem L2
theorem list_of' {α : Type} {f : α → D} {ys : List D} (h : ∀ y ∈ ys, ∃ a, y = f a) : ∃ l : List α, ys = l.map f := by
  obtain ⟨l, e, _⟩ := list_of (f := f) (p := fun _ => True) (ys := ys) fun y hy => by
    obtain ⟨a, e⟩ := h y hy; exact ⟨a, e, trivial⟩
  exact ⟨l, e⟩
theorem wpB_some {α : Type} {o : Option (Rs α)} {v : α} {M : List O} {P : α → List O → Prop} (e : o = some (.ok v M)) (h : P v M) : wpB o P := ⟨v, M, e, h⟩
theorem wpS_some {o : Option (Fl × S)} {f : Fl} {s : S} {P : Fl → S → Prop} (e : o = some (f, s)) (hf : noX f = true) (h : P f s) : wpS o P := ⟨f, s, e, hf, h⟩
end DL
namespace Law
open PySem L2 DL
def topS (i : Nat) : Stmt := PySem.Challenge.pw_labelgrid_k67_ledgers_are_judged.main.body.getD i (.Pass ⟨0, 0, 0, 0⟩)
noncomputable def b_l_draw : SM := (sSeq (sIf (mBin dLt (mVar 1) (mC (.int 1))) (sRet (mC (.int 0))) sNil)
  (sSeq (sAsg (mIx (mVar 0) (mC (.int 0))) (gN 2))
  (sSeq (sWhile 65 (mAnd (mBin dGt (mCB dLen (aCons (mVar 2) aNil)) (mC (.int 0))) (mBin dEq (mIx (mVar 2) (mC (.int 0))) (mC (.int 0)))) (sExpr (mMth "list" gPopAt (mVar 2) (aCons (mC (.int 0)) aNil))))
  (sSeq (sIf (mBin dGt (mCB dLen (aCons (mVar 2) aNil)) (mC (.int 0))) (sSeq (sAsg (mIx (mVar 2) (mC (.int 0))) (gN 3))
  (sSeq (sAsg (mBin dDiv (mVar 3) (mVar 1)) (gSet (mVar 2) (mC (.int 0))))
  (sRet (mBin dMod (mCB (g1 dInt) (aCons (mVar 3) aNil)) (mVar 1))))) sNil)
  (sSeq (sAsg (mBin dMod (mCB (g1 dInt) (aCons (mBin dAdd (mBin dMul (mIx (mVar 0) (mC (.int 1))) (mC (.int 48271))) (mC (.int 12345))) aNil)) (mC (.int 2147483647))) (gN 4))
  (sSeq (sAsg (mVar 4) (gSet (mVar 0) (mC (.int 1))))
  (sRet (mBin dMod (mCB (g1 dInt) (aCons (mBin dDiv (mVar 4) (mC (.int 64))) aNil)) (mVar 1)))))))))
noncomputable def m_l_draw : List DV → List O → Option (Rs DV) := runB 5 b_l_draw
noncomputable def b_l_pick : SM := (sRet (mIx (mVar 1) (mCallB 2 m_l_draw (aCons (mVar 0) (aCons (mCB dLen (aCons (mVar 1) aNil)) aNil)))))
noncomputable def m_l_pick : List DV → List O → Option (Rs DV) := runB 2 b_l_pick
noncomputable def b_l_state : SM := (sSeq (sAsg (mC (.int 7)) (gN 1))
  (sSeq (sFor (mItD itL (mVar 0)) (gN 2) (sAsg (mBin dMod (mCB (g1 dInt) (aCons (mBin dAdd (mBin dMul (mVar 1) (mC (.int 31))) (mVar 2)) aNil)) (mC (.int 1000003))) (gN 1)))
  (sRet (dispO (aCons (mLcO (mItD itL (mVar 0)) [2] (gN 2) tYesM (mCB (g1 dAbs) (aCons (mVar 2) aNil))) (aCons (mBin dAdd (mVar 1) (mC (.int 1))) aNil))))))
noncomputable def m_l_state : List DV → List O → Option (Rs DV) := runB 3 b_l_state
noncomputable def b_count_of : SM := (sRet (mIx (mIx (mVar 0) (mC (.int 4))) (mMth "list" (gP dLindex) (mIx (mVar 0) (mC (.int 2))) (aCons (mVar 1) aNil))))
noncomputable def m_count_of : MA := runA 2 b_count_of
noncomputable def b_fits : SM := (sRet (mAnd (mBin dEq (mIx (mVar 0) (mC (.int 0))) (mVar 3)) (mAnd (mBin dIn (mVar 2) (mIx (mVar 0) (mC (.int 1)))) (mBin dIn (mVar 1) (mIx (mVar 0) (mC (.int 2)))))))
noncomputable def m_fits : MA := runA 4 b_fits
noncomputable def b_ledger_right : SM := (sSeq (sAsg (mDnew (.dT [])) (gN 2))
  (sSeq (sFor (mItD itL (mVar 1)) (gT 4 (gsCons (gN 3) (gsCons (gN 4) (gsCons (gN 5) (gsCons (gN 6) gsNil))))) (sSeq (sIf (mOr (mNot (mChain dLe dLt (mC (.int 0)) (mVar 6) (mCB dLen (aCons (mVar 0) aNil)))) (mNot (mTru (mCallA 4 m_fits (aCons (mIx (mVar 0) (mVar 6)) (aCons (mVar 3) (aCons (mVar 4) (aCons (mVar 5) aNil)))))))) (sRet (mC (.bl false))) sNil)
  (sSeq (sPut (mBin dAdd (mMth "dict" gGet (mVar 2) (aCons (disp .tup (aCons (mVar 3) (aCons (mVar 6) aNil))) (aCons (mC (.int 0)) aNil))) (mC (.int 1))) (mVar 2) (disp .tup (aCons (mVar 3) (aCons (mVar 6) aNil))))
  (sIf (mBin dGt (mDget (mVar 2) (disp .tup (aCons (mVar 3) (aCons (mVar 6) aNil)))) (mCallA 2 m_count_of (aCons (mIx (mVar 0) (mVar 6)) (aCons (mVar 3) aNil)))) (sRet (mC (.bl false))) sNil))))
  (sRet (mC (.bl true)))))
noncomputable def m_ledger_right : MA := runA 7 b_ledger_right
noncomputable def b_law_6 : SM := (sRet (mC (.bl true)))
noncomputable def b_law_5 : SM := (sSeq (sFrz 4) (sSeq (sFor (mRng rng1D (aCons (mC (.int 5)) aNil)) (gN 9) (sSeq (sAsg (dispO aNil) (gN 10))
  (sSeq (sFor (mRng rng1D (aCons (mCallB 2 m_l_draw (aCons (mVar 1) (aCons (mC (.int 9)) aNil))) aNil)) (gN 5) (sSeq (sAsg (mIf (mBin dGt (mCallB 2 m_l_draw (aCons (mVar 1) (aCons (mC (.int 9)) aNil))) (mC (.int 0))) (mCallB 2 m_l_draw (aCons (mVar 1) (aCons (mCB dLen (aCons (mVar 4) aNil)) aNil))) (mCallB 2 m_l_pick (aCons (mVar 1) (aCons (disp .lst (aCons (mUn dNeg (mC (.int 1))) (aCons (mCB dLen (aCons (mVar 4) aNil)) aNil))) aNil)))) (gN 11))
  (sSeq (sAsg (disp .tup (aCons (mCallB 2 m_l_draw (aCons (mVar 1) (aCons (mC (.int 3)) aNil))) (aCons (mCallB 2 m_l_pick (aCons (mVar 1) (aCons (mVar 3) aNil))) (aCons (mCallB 2 m_l_pick (aCons (mVar 1) (aCons (mVar 2) aNil))) (aCons (mVar 11) aNil))))) (gN 12))
  (sSeq (sIf (mAnd (mBin dGt (mCB dLen (aCons (mVar 4) aNil)) (mC (.int 0))) (mAnd (mBin (dInR false) (mVar 11) (mCB (g1 dRng1) (aCons (mCB dLen (aCons (mVar 4) aNil)) aNil))) (mBin dGt (mCallB 2 m_l_draw (aCons (mVar 1) (aCons (mC (.int 6)) aNil))) (mC (.int 0))))) (sSeq (sAsg (mIx (mVar 4) (mVar 11)) (gT 5 (gsCons (gN 13) (gsCons (gN 6) (gsCons (gN 7) (gsCons (gN 14) (gsCons (gN 8) gsNil)))))))
  (sIf (mAnd (mBin dGt (mCB dLen (aCons (mVar 6) aNil)) (mC (.int 0))) (mBin dGt (mCB dLen (aCons (mVar 7) aNil)) (mC (.int 0)))) (sAsg (disp .tup (aCons (mCallB 2 m_l_pick (aCons (mVar 1) (aCons (mVar 7) aNil))) (aCons (mCallB 2 m_l_pick (aCons (mVar 1) (aCons (mVar 6) aNil))) (aCons (mVar 13) (aCons (mVar 11) aNil))))) (gN 12)) sNil)) sNil)
  (sExpr (mMth "list" gApp (mVar 10) (aCons (mVar 12) aNil)))))))
  (sSeq (sFrz 10) (sSeq (sAsg (mC (.bl true)) (gN 15))
  (sSeq (sFor (mItD itL (mFrz (mVar 10))) (gT 4 (gsCons (gN 16) (gsCons (gN 17) (gsCons (gN 18) (gsCons (gN 11) gsNil))))) (sIf (mBin (dInR true) (mVar 11) (mCB (g1 dRng1) (aCons (mCB dLen (aCons (mVar 4) aNil)) aNil))) (sAsg (mC (.bl false)) (gN 15)) (sIf (mOr (mBin dNe (mIx (mIx (mVar 4) (mVar 11)) (mC (.int 0))) (mVar 18)) (mOr (mBin dNin (mVar 17) (mIx (mIx (mVar 4) (mVar 11)) (mC (.int 1)))) (mBin dNin (mVar 16) (mIx (mIx (mVar 4) (mVar 11)) (mC (.int 2)))))) (sAsg (mC (.bl false)) (gN 15)) (sSeq (sAsg (mIx (mIx (mIx (mVar 4) (mVar 11)) (mC (.int 4))) (mMth "list" (gP dLindex) (mIx (mIx (mVar 4) (mVar 11)) (mC (.int 2))) (aCons (mVar 16) aNil))) (gN 19))
  (sAsg (mAnd (mVar 15) (mBin dLe (mCB dLen (aCons (mLc (mItD itL (mFrz (mVar 10))) [12] (gN 12) (mAnd (mBin dEq (mIx (mVar 12) (mC (.int 3))) (mVar 11)) (mBin dEq (mIx (mVar 12) (mC (.int 0))) (mVar 16))) (mVar 12)) aNil)) (mVar 19))) (gN 15))))))
  (sSeq (sAsg (mCB (g1 dRepr) (aCons (disp .lst (aCons (mFrz (mVar 4)) (aCons (mFrz (mVar 10)) aNil))) aNil)) (gN 20))
  (sSeq (sAsg (mCallA 2 m_ledger_right (aCons (mFrz (mVar 4)) (aCons (mFrz (mVar 10)) aNil))) (gN 21))
  (sIf (mOr (mNot (mTru (mCB dIsi (aCons (mVar 21) (aCons (mC (.ty "bool")) aNil))))) (mOr (mBin dNe (mVar 21) (mVar 15)) (mBin dNe (mCB (g1 dRepr) (aCons (disp .lst (aCons (mFrz (mVar 4)) (aCons (mFrz (mVar 10)) aNil))) aNil)) (mVar 20)))) (sRet (mC (.bl false))) sNil))))))))) b_law_6))
noncomputable def b_law_4 : SM := (sSeq (sFor (mRng rng1D (aCons (mCallB 2 m_l_draw (aCons (mVar 1) (aCons (mC (.int 5)) aNil))) aNil)) (gN 5) (sSeq (sAsg (mLc (mItD itL (mVar 3)) [22] (gN 22) (mBin dGt (mCallB 2 m_l_draw (aCons (mVar 1) (aCons (mC (.int 3)) aNil))) (mC (.int 0))) (mVar 22)) (gN 6))
  (sSeq (sAsg (mLc (mRng rng1D (aCons (mC (.int 3)) aNil)) [16] (gN 16) (mBin dGt (mCallB 2 m_l_draw (aCons (mVar 1) (aCons (mC (.int 3)) aNil))) (mC (.int 0))) (mVar 16)) (gN 7))
  (sSeq (sAsg (mLc (mItD itL (mVar 7)) [16] (gN 16) tYesM (mCallB 2 m_l_draw (aCons (mVar 1) (aCons (mC (.int 4)) aNil)))) (gN 8))
  (sExpr (mMth "list" gApp (mVar 4) (aCons (disp .tup (aCons (mCallB 2 m_l_pick (aCons (mVar 1) (aCons (mVar 2) aNil))) (aCons (mVar 6) (aCons (mVar 7) (aCons (mCallB 2 m_l_draw (aCons (mVar 1) (aCons (mC (.int 3)) aNil))) (aCons (mVar 8) aNil)))))) aNil))))))) b_law_5)
noncomputable def b_law_3 : SM := (sSeq (sAsg (dispO aNil) (gN 4)) b_law_4)
noncomputable def b_law_2 : SM := (sSeq (sAsg (disp .lst (aCons (mC (.str (PySem.Str.ofString "RSUM"))) (aCons (mC (.str (PySem.Str.ofString "RMAX"))) (aCons (mC (.str (PySem.Str.ofString "RAVG"))) aNil)))) (gN 3)) b_law_3)
noncomputable def b_law_1 : SM := (sSeq (sAsg (disp .lst (aCons (disp .tup (aCons (disp .tup (aCons (mC (.int 0)) (aCons (mC (.int 0)) aNil))) (aCons (disp .tup (aCons (mC (.int 0)) (aCons (mC (.int 2)) aNil))) aNil))) (aCons (disp .tup (aCons (disp .tup (aCons (mC (.int 1)) (aCons (mC (.int 0)) aNil))) (aCons (disp .tup (aCons (mC (.int 1)) (aCons (mC (.int 2)) aNil))) aNil))) (aCons (disp .tup (aCons (disp .tup (aCons (mC (.int 1)) (aCons (mC (.int 0)) aNil))) (aCons (disp .tup (aCons (mC (.int 1)) (aCons (mC (.int 3)) aNil))) aNil))) aNil)))) (gN 2)) b_law_2)
noncomputable def b_law : SM := (sSeq (sAsg (mCallB 1 m_l_state (aCons (mVar 0) aNil)) (gN 1)) b_law_1)
noncomputable def m_law : MA := runA 23 b_law
end Law
namespace Law
open PySem L2 DL
abbrev s_l_draw : Stmt := topS 6
abbrev n_l_draw : List Str := ["state", "many", "cells", "value", "mixed"]
theorem sc_l_draw : FnScope n_l_draw ["state", "many"] (defScope s_l_draw) := ⟨rfl, rfl, rfl, by decide +kernel, rfl, by decide +kernel, by decide +kernel⟩
abbrev s_l_pick : Stmt := topS 7
abbrev n_l_pick : List Str := ["state", "row"]
theorem sc_l_pick : FnScope n_l_pick ["state", "row"] (defScope s_l_pick) := ⟨rfl, rfl, rfl, by decide +kernel, rfl, by decide +kernel, by decide +kernel⟩
abbrev s_l_state : Stmt := topS 5
abbrev n_l_state : List Str := ["script", "seed", "cell"]
theorem sc_l_state : FnScope n_l_state ["script"] (defScope s_l_state) := ⟨rfl, rfl, rfl, by decide +kernel, rfl, by decide +kernel, by decide +kernel⟩
abbrev s_count_of : Stmt := topS 2
abbrev n_count_of : List Str := ["budget", "user"]
theorem sc_count_of : FnScope n_count_of ["budget", "user"] (defScope s_count_of) := ⟨rfl, rfl, rfl, by decide +kernel, rfl, by decide +kernel, by decide +kernel⟩
abbrev s_fits : Stmt := topS 1
abbrev n_fits : List Str := ["budget", "user", "function", "area"]
theorem sc_fits : FnScope n_fits ["budget", "user", "function", "area"] (defScope s_fits) := ⟨rfl, rfl, rfl, by decide +kernel, rfl, by decide +kernel, by decide +kernel⟩
abbrev s_ledger_right : Stmt := topS 3
abbrev n_ledger_right : List Str := ["budgets", "ledger", "spent", "user", "function", "area", "index"]
theorem sc_ledger_right : FnScope n_ledger_right ["budgets", "ledger"] (defScope s_ledger_right) := ⟨rfl, rfl, rfl, by decide +kernel, rfl, by decide +kernel, by decide +kernel⟩
abbrev s_law : Stmt := topS 8
abbrev n_law : List Str := ["script", "state", "areas", "names", "budgets", "k", "functions", "to", "counts", "turn", "ledger", "index", "row", "place", "by", "due", "user", "function", "area", "most", "kept", "told", "name"]
theorem sc_law : FnScope n_law ["script"] (defScope s_law) := ⟨rfl, rfl, rfl, by decide +kernel, rfl, by decide +kernel, by decide +kernel⟩
structure Tx (K : PySem.W.Frag) (w : World) (mg : Str → Option Value) where
  f__law_draw : Df K mg "_law_draw" s_l_draw ["state", "many"]
  f__law_pick : Df K mg "_law_pick" s_l_pick ["state", "row"]
  f__law_state : Df K mg "_law_state" s_l_state ["script"]
  f__count_of : Df K mg "_count_of" s_count_of ["budget", "user"]
  f__fits : Df K mg "_fits" s_fits ["budget", "user", "function", "area"]
  f_ledger_right : Df K mg "ledger_right" s_ledger_right ["budgets", "ledger"]
  f_law : Df K mg "law" s_law ["script"]
  n_abs : mg "abs" = none
  n_bool : mg "bool" = none
  n_int : mg "int" = none
  n_isinstance : mg "isinstance" = none
  n_len : mg "len" = none
  n_range : mg "range" = none
  n_repr : mg "repr" = none
section
variable {P : Program} {w : World} {K : PySem.W.Frag} {mg : Str → Option Value} {base : Heap}
theorem ok_l_draw (T : Tx K w mg) : FnOk P w K mg base (L2.CX P w) 1 T.f__law_draw.a T.f__law_draw.fd ["state", "many"] (spB K 2 m_l_draw) := by
  refine fnB (N := n_l_draw) T.f__law_draw.F sc_l_draw fun cdv A outer s H E hr => ?_
  have nd := sc_l_draw.nd
  have tk := takes_of (X := cxOf (L2.CX P w) P w K mg base n_l_draw "_law_draw" (defScope s_l_draw) T.f__law_draw.a cdv A outer s H E) (E := E) rfl rfl rfl rfl
  exact ⟨_, (dss_cons (ds_if (dt_cmp od_lt bool_dIb (de_var 1) de_int) (dss_one (ds_ret de_int)) dss_nil)
  (dss_cons (ds_set (i := 2) nd (de_ix (de_var 0) de_int))
  (dss_cons (ds_while 65 (passes_of rfl) (dt_w (dw_and (dt_cmp od_gt bool_dIb (de_callB cd_len T.n_len (da_cons (de_var 2) da_nil)) de_int) (dw_and1 (dt_cmp (od_eq hr.units) bool_dEq (de_ix (de_var 2) de_int) de_int)))) (dss_one (ds_expr (de_mth md_popAt (de_var 2) (da_cons de_int da_nil) PySem.F.plainAttrs_list PySem.F.slot_list_pop PySem.F.type_list_pop))))
  (dss_cons (ds_if (dt_cmp od_gt bool_dIb (de_callB cd_len T.n_len (da_cons (de_var 2) da_nil)) de_int) (dss_cons (ds_set (i := 3) nd (de_ix (de_var 2) de_int))
  (dss_cons (ds_asg (de_bin od_fdiv (de_var 3) (de_var 1)) (dg_set (de_var 2) de_int))
  (dss_one (ds_ret (de_bin od_mod (de_callTy cd_int T.n_int (da_cons (de_var 3) da_nil)) (de_var 1)))))) dss_nil)
  (dss_cons (ds_set (i := 4) nd (de_bin od_mod (de_callTy cd_int T.n_int (da_cons (de_bin od_add (de_bin od_mul (de_ix (de_var 0) de_int) de_int) de_int) da_nil)) de_int))
  (dss_cons (ds_asg (de_var 4) (dg_set (de_var 0) de_int))
  (dss_one (ds_ret (de_bin od_mod (de_callTy cd_int T.n_int (da_cons (de_bin od_fdiv (de_var 4) de_int) da_nil)) (de_var 1))))))))))⟩
theorem ok_l_pick (T : Tx K w mg) : FnOk P w K mg base (L2.CX P w) 2 T.f__law_pick.a T.f__law_pick.fd ["state", "row"] (spB K 2 m_l_pick) := by
  refine fnB (N := n_l_pick) T.f__law_pick.F sc_l_pick fun cdv A outer s H E hr => ?_
  have nd := sc_l_pick.nd
  have tk := takes_of (X := cxOf (L2.CX P w) P w K mg base n_l_pick "_law_pick" (defScope s_l_pick) T.f__law_pick.a cdv A outer s H E) (E := E) rfl rfl rfl rfl
  exact ⟨_, (dss_one (ds_ret (de_ix (de_var 1) (de_callB' ((ok_l_draw T).mono (by decide)) hr tk T.f__law_draw.m T.f__law_draw.F.kp T.f__law_draw.b (da_cons (de_var 0) (da_cons (de_callB cd_len T.n_len (da_cons (de_var 1) da_nil)) da_nil))))))⟩
theorem ok_l_state (T : Tx K w mg) : FnOk P w K mg base (L2.CX P w) 1 T.f__law_state.a T.f__law_state.fd ["script"] (spB K 1 m_l_state) := by
  refine fnB (N := n_l_state) T.f__law_state.F sc_l_state fun cdv A outer s H E hr => ?_
  have nd := sc_l_state.nd
  have tk := takes_of (X := cxOf (L2.CX P w) P w K mg base n_l_state "_law_state" (defScope s_l_state) T.f__law_state.a cdv A outer s H E) (E := E) rfl rfl rfl rfl
  exact ⟨_, (dss_cons (ds_set (i := 1) nd de_int)
  (dss_cons (ds_for (passes_of rfl) rfl (di_list (de_var 0)) (dg_name (i := 2) nd) (dss_one (ds_set (i := 1) nd (de_bin od_mod (de_callTy cd_int T.n_int (da_cons (de_bin od_add (de_bin od_mul (de_var 1) de_int) (de_var 2)) da_nil)) de_int))))
  (dss_one (ds_ret (de_lstO (da_cons (de_lcO nd rfl (di_list (de_var 0)) (blkOk_by (own := [((PySem.Str.ofString "cell"), 2)]) (N := n_l_state) (sc := defScope s_l_state) (by decide +kernel)) (fun _ _ _ _ _ => (dg_name (i := 2) nd)) (fun _ _ _ _ _ => dpt_nil) (fun _ _ _ _ _ => (de_callB cd_abs T.n_abs (da_cons (de_var 2) da_nil)))) (da_cons (de_bin od_add (de_var 1) de_int) da_nil)))))))⟩
theorem ok_count_of (T : Tx K w mg) : FnOk P w K mg base (L2.CX P w) 1 T.f__count_of.a T.f__count_of.fd ["budget", "user"] (spA K 2 m_count_of) := by
  refine fnA (N := n_count_of) T.f__count_of.F sc_count_of fun cdv A outer s H E hr => ?_
  have nd := sc_count_of.nd
  have tk := takes_of (X := cxOf (L2.CX P w) P w K mg base n_count_of "_count_of" (defScope s_count_of) T.f__count_of.a cdv A outer s H E) (E := E) rfl rfl rfl rfl
  exact ⟨_, (dss_one (ds_ret (de_ix (de_ix (de_var 0) de_int) (de_mth md_lindex (de_ix (de_var 0) de_int) (da_cons (de_var 1) da_nil) PySem.F.plainAttrs_list PySem.F.slot_list_index PySem.F.type_list_index))))⟩
theorem ok_fits (T : Tx K w mg) : FnOk P w K mg base (L2.CX P w) 1 T.f__fits.a T.f__fits.fd ["budget", "user", "function", "area"] (spA K 4 m_fits) := by
  refine fnA (N := n_fits) T.f__fits.F sc_fits fun cdv A outer s H E hr => ?_
  have nd := sc_fits.nd
  have tk := takes_of (X := cxOf (L2.CX P w) P w K mg base n_fits "_fits" (defScope s_fits) T.f__fits.a cdv A outer s H E) (E := E) rfl rfl rfl rfl
  exact ⟨_, (dss_one (ds_ret (de_and (de_cmp (od_eq hr.units) (de_ix (de_var 0) de_int) (de_var 3)) (de_and (de_cmp (od_in (units65 hr)) (de_var 2) (de_ix (de_var 0) de_int)) (de_one (de_cmp (od_in (units65 hr)) (de_var 1) (de_ix (de_var 0) de_int)))))))⟩
theorem ok_ledger_right (T : Tx K w mg) : FnOk P w K mg base (L2.CX P w) 2 T.f_ledger_right.a T.f_ledger_right.fd ["budgets", "ledger"] (spA K 2 m_ledger_right) := by
  refine fnA (N := n_ledger_right) T.f_ledger_right.F sc_ledger_right fun cdv A outer s H E hr => ?_
  have nd := sc_ledger_right.nd
  have tk := takes_of (X := cxOf (L2.CX P w) P w K mg base n_ledger_right "ledger_right" (defScope s_ledger_right) T.f_ledger_right.a cdv A outer s H E) (E := E) rfl rfl rfl rfl
  exact ⟨_, (dss_cons (ds_set (i := 2) nd de_dnewT)
  (dss_cons (ds_for (passes_of rfl) rfl (di_list (de_var 1)) (dg_tup rfl (dgs_cons (dg_name (i := 3) nd) (dgs_cons (dg_name (i := 4) nd) (dgs_cons (dg_name (i := 5) nd) (dgs_cons (dg_name (i := 6) nd) dgs_nil))))) (dss_cons (ds_if (dt_w (dw_or (dt_not (dt_chain od_le od_lt bool_dIb de_int (de_var 6) (de_callB cd_len T.n_len (da_cons (de_var 0) da_nil)))) (dw_or1 (dt_not (dt_tru (de_callA ((ok_fits T).mono (by decide)) hr tk T.f__fits.m T.f__fits.F.kp T.f__fits.b (da_cons (de_ix (de_var 0) (de_var 6)) (da_cons (de_var 3) (da_cons (de_var 4) (da_cons (de_var 5) da_nil)))))))))) (dss_one (ds_ret de_bl)) dss_nil)
  (dss_cons (ds_put (units1 hr) (de_bin od_add (de_mth (md_get (units1 hr)) (de_var 2) (da_cons (de_tup (da_cons (de_var 3) (da_cons (de_var 6) da_nil))) (da_cons de_int da_nil)) PySem.F.plainAttrs_dict PySem.F.slot_dict_get PySem.F.type_dict_get) de_int) (de_var 2) (de_tup (da_cons (de_var 3) (da_cons (de_var 6) da_nil))))
  (dss_one (ds_if (dt_cmp od_gt bool_dIb (de_dgetG (units1 hr) (de_var 2) (de_tup (da_cons (de_var 3) (da_cons (de_var 6) da_nil)))) (de_callA ((ok_count_of T).mono (by decide)) hr tk T.f__count_of.m T.f__count_of.F.kp T.f__count_of.b (da_cons (de_ix (de_var 0) (de_var 6)) (da_cons (de_var 3) da_nil)))) (dss_one (ds_ret de_bl)) dss_nil)))))
  (dss_one (ds_ret de_bl))))⟩
theorem top_law (T : Tx K w mg) : TopB P w K mg base n_law "law" s_law T.f_law.a 2 b_law := by
  intro cdv s H E hr
  have nd := sc_law.nd
  have tk := takes_of (X := cxOf (L2.CX P w) P w K mg base n_law "law" (defScope s_law) T.f_law.a cdv callerA [] s H E) (E := E) rfl rfl rfl rfl
  exact ⟨_, (dss_cons (ds_set (i := 1) nd (de_callB' ((ok_l_state T).mono (by decide)) hr tk T.f__law_state.m T.f__law_state.F.kp T.f__law_state.b (da_cons (de_var 0) da_nil)))
  (dss_cons (ds_set (i := 2) nd (de_lst (da_cons (de_tup (da_cons (de_tup (da_cons de_int (da_cons de_int da_nil))) (da_cons (de_tup (da_cons de_int (da_cons de_int da_nil))) da_nil))) (da_cons (de_tup (da_cons (de_tup (da_cons de_int (da_cons de_int da_nil))) (da_cons (de_tup (da_cons de_int (da_cons de_int da_nil))) da_nil))) (da_cons (de_tup (da_cons (de_tup (da_cons de_int (da_cons de_int da_nil))) (da_cons (de_tup (da_cons de_int (da_cons de_int da_nil))) da_nil))) da_nil)))))
  (dss_cons (ds_set (i := 3) nd (de_lst (da_cons de_str (da_cons de_str (da_cons de_str da_nil)))))
  (dss_cons (ds_set (i := 4) nd (de_lstO da_nil))
  (dss_cons (ds_for (passes_of rfl) rfl (di_range1 T.n_range (da_cons (de_callB' ((ok_l_draw T).mono (by decide)) hr tk T.f__law_draw.m T.f__law_draw.F.kp T.f__law_draw.b (da_cons (de_var 1) (da_cons de_int da_nil))) da_nil)) (dg_name (i := 5) nd) (dss_cons (ds_setLc (i := 6) nd rfl (di_list (de_var 3)) (blkOk_by (own := [((PySem.Str.ofString "name"), 22)]) (N := n_law) (sc := defScope s_law) (by decide +kernel)) (fun _ _ _ _ _ => (dg_name (i := 22) nd)) (fun _ _ _ _ _ => (dpt_one (dt_cmp od_gt bool_dIb (de_callB' ((ok_l_draw T).mono (by decide)) hr takes0 T.f__law_draw.m T.f__law_draw.F.kp T.f__law_draw.b (da_cons (de_var 1) (da_cons de_int da_nil))) de_int))) (fun _ _ _ _ _ => (de_var 22)))
  (dss_cons (ds_setLc (i := 7) nd rfl (di_range1 T.n_range (da_cons de_int da_nil)) (blkOk_by (own := [((PySem.Str.ofString "user"), 16)]) (N := n_law) (sc := defScope s_law) (by decide +kernel)) (fun _ _ _ _ _ => (dg_name (i := 16) nd)) (fun _ _ _ _ _ => (dpt_one (dt_cmp od_gt bool_dIb (de_callB' ((ok_l_draw T).mono (by decide)) hr takes0 T.f__law_draw.m T.f__law_draw.F.kp T.f__law_draw.b (da_cons (de_var 1) (da_cons de_int da_nil))) de_int))) (fun _ _ _ _ _ => (de_var 16)))
  (dss_cons (ds_setLc (i := 8) nd rfl (di_list (de_var 7)) (blkOk_by (own := [((PySem.Str.ofString "user"), 16)]) (N := n_law) (sc := defScope s_law) (by decide +kernel)) (fun _ _ _ _ _ => (dg_name (i := 16) nd)) (fun _ _ _ _ _ => dpt_nil) (fun _ _ _ _ _ => (de_callB' ((ok_l_draw T).mono (by decide)) hr takes0 T.f__law_draw.m T.f__law_draw.F.kp T.f__law_draw.b (da_cons (de_var 1) (da_cons de_int da_nil)))))
  (dss_one (ds_expr (de_mth md_app (de_var 4) (da_cons (de_tup (da_cons (de_callB' ((ok_l_pick T).mono (by decide)) hr tk T.f__law_pick.m T.f__law_pick.F.kp T.f__law_pick.b (da_cons (de_var 1) (da_cons (de_var 2) da_nil))) (da_cons (de_var 6) (da_cons (de_var 7) (da_cons (de_callB' ((ok_l_draw T).mono (by decide)) hr tk T.f__law_draw.m T.f__law_draw.F.kp T.f__law_draw.b (da_cons (de_var 1) (da_cons de_int da_nil))) (da_cons (de_var 8) da_nil)))))) da_nil) PySem.F.plainAttrs_list PySem.F.slot_list_append PySem.F.type_list_append)))))))
  (dss_frz 4 (dss_cons (ds_for (passes_of rfl) rfl (di_range1 T.n_range (da_cons de_int da_nil)) (dg_name (i := 9) nd) (dss_cons (ds_set (i := 10) nd (de_lstO da_nil))
  (dss_cons (ds_for (passes_of rfl) rfl (di_range1 T.n_range (da_cons (de_callB' ((ok_l_draw T).mono (by decide)) hr tk T.f__law_draw.m T.f__law_draw.F.kp T.f__law_draw.b (da_cons (de_var 1) (da_cons de_int da_nil))) da_nil)) (dg_name (i := 5) nd) (dss_cons (ds_set (i := 11) nd (de_ifE (dt_cmp od_gt bool_dIb (de_callB' ((ok_l_draw T).mono (by decide)) hr tk T.f__law_draw.m T.f__law_draw.F.kp T.f__law_draw.b (da_cons (de_var 1) (da_cons de_int da_nil))) de_int) (de_callB' ((ok_l_draw T).mono (by decide)) hr tk T.f__law_draw.m T.f__law_draw.F.kp T.f__law_draw.b (da_cons (de_var 1) (da_cons (de_callB cd_len T.n_len (da_cons (de_var 4) da_nil)) da_nil))) (de_callB' ((ok_l_pick T).mono (by decide)) hr tk T.f__law_pick.m T.f__law_pick.F.kp T.f__law_pick.b (da_cons (de_var 1) (da_cons (de_lst (da_cons (de_usub de_int) (da_cons (de_callB cd_len T.n_len (da_cons (de_var 4) da_nil)) da_nil))) da_nil)))))
  (dss_cons (ds_set (i := 12) nd (de_tup (da_cons (de_callB' ((ok_l_draw T).mono (by decide)) hr tk T.f__law_draw.m T.f__law_draw.F.kp T.f__law_draw.b (da_cons (de_var 1) (da_cons de_int da_nil))) (da_cons (de_callB' ((ok_l_pick T).mono (by decide)) hr tk T.f__law_pick.m T.f__law_pick.F.kp T.f__law_pick.b (da_cons (de_var 1) (da_cons (de_var 3) da_nil))) (da_cons (de_callB' ((ok_l_pick T).mono (by decide)) hr tk T.f__law_pick.m T.f__law_pick.F.kp T.f__law_pick.b (da_cons (de_var 1) (da_cons (de_var 2) da_nil))) (da_cons (de_var 11) da_nil))))))
  (dss_cons (ds_if (dt_w (dw_and (dt_cmp od_gt bool_dIb (de_callB cd_len T.n_len (da_cons (de_var 4) da_nil)) de_int) (dw_and (dt_cmp od_inR bool_dInR (de_var 11) (de_callTy cd_rng1 T.n_range (da_cons (de_callB cd_len T.n_len (da_cons (de_var 4) da_nil)) da_nil))) (dw_and1 (dt_cmp od_gt bool_dIb (de_callB' ((ok_l_draw T).mono (by decide)) hr tk T.f__law_draw.m T.f__law_draw.F.kp T.f__law_draw.b (da_cons (de_var 1) (da_cons de_int da_nil))) de_int))))) (dss_cons (ds_asg (de_ix (de_var 4) (de_var 11)) (dg_tup rfl (dgs_cons (dg_name (i := 13) nd) (dgs_cons (dg_name (i := 6) nd) (dgs_cons (dg_name (i := 7) nd) (dgs_cons (dg_name (i := 14) nd) (dgs_cons (dg_name (i := 8) nd) dgs_nil)))))))
  (dss_one (ds_if (dt_w (dw_and (dt_cmp od_gt bool_dIb (de_callB cd_len T.n_len (da_cons (de_var 6) da_nil)) de_int) (dw_and1 (dt_cmp od_gt bool_dIb (de_callB cd_len T.n_len (da_cons (de_var 7) da_nil)) de_int)))) (dss_one (ds_set (i := 12) nd (de_tup (da_cons (de_callB' ((ok_l_pick T).mono (by decide)) hr tk T.f__law_pick.m T.f__law_pick.F.kp T.f__law_pick.b (da_cons (de_var 1) (da_cons (de_var 7) da_nil))) (da_cons (de_callB' ((ok_l_pick T).mono (by decide)) hr tk T.f__law_pick.m T.f__law_pick.F.kp T.f__law_pick.b (da_cons (de_var 1) (da_cons (de_var 6) da_nil))) (da_cons (de_var 13) (da_cons (de_var 11) da_nil))))))) dss_nil))) dss_nil)
  (dss_one (ds_expr (de_mth md_app (de_var 10) (da_cons (de_var 12) da_nil) PySem.F.plainAttrs_list PySem.F.slot_list_append PySem.F.type_list_append)))))))
  (dss_frz 10 (dss_cons (ds_set (i := 15) nd de_bl)
  (dss_cons (ds_for (passes_of rfl) rfl (di_list (de_frz (de_var 10))) (dg_tup rfl (dgs_cons (dg_name (i := 16) nd) (dgs_cons (dg_name (i := 17) nd) (dgs_cons (dg_name (i := 18) nd) (dgs_cons (dg_name (i := 11) nd) dgs_nil))))) (dss_one (ds_if (dt_cmp od_ninR bool_dInR (de_var 11) (de_callTy cd_rng1 T.n_range (da_cons (de_callB cd_len T.n_len (da_cons (de_var 4) da_nil)) da_nil))) (dss_one (ds_set (i := 15) nd de_bl)) (dss_one (ds_if (dt_w (dw_or (dt_cmp (od_ne hr.units) bool_dNe (de_ix (de_ix (de_var 4) (de_var 11)) de_int) (de_var 18)) (dw_or (dt_cmp (od_nin (units65 hr)) bool_dNin (de_var 17) (de_ix (de_ix (de_var 4) (de_var 11)) de_int)) (dw_or1 (dt_cmp (od_nin (units65 hr)) bool_dNin (de_var 16) (de_ix (de_ix (de_var 4) (de_var 11)) de_int)))))) (dss_one (ds_set (i := 15) nd de_bl)) (dss_cons (ds_set (i := 19) nd (de_ix (de_ix (de_ix (de_var 4) (de_var 11)) de_int) (de_mth md_lindex (de_ix (de_ix (de_var 4) (de_var 11)) de_int) (da_cons (de_var 16) da_nil) PySem.F.plainAttrs_list PySem.F.slot_list_index PySem.F.type_list_index)))
  (dss_one (ds_set (i := 15) nd (de_and (de_var 15) (de_one (de_cmp od_le (de_callB cd_len T.n_len (da_cons (de_lc nd rfl (di_list (de_frz (de_var 10))) (blkOk_by (own := [((PySem.Str.ofString "row"), 12)]) (N := n_law) (sc := defScope s_law) (by decide +kernel)) (fun _ _ _ _ _ => (dg_name (i := 12) nd)) (fun _ _ _ _ _ => (dpt_one (dt_w (dw_and (dt_cmp (od_eq hr.units) bool_dEq (de_ix (de_var 12) de_int) (de_var 11)) (dw_and1 (dt_cmp (od_eq hr.units) bool_dEq (de_ix (de_var 12) de_int) (de_var 16))))))) (fun _ _ _ _ _ => (de_var 12))) da_nil)) (de_var 19))))))))))))
  (dss_cons (ds_set (i := 20) nd (de_callB (cd_repr rfl (units66 hr)) T.n_repr (da_cons (de_lst (da_cons (de_frz (de_var 4)) (da_cons (de_frz (de_var 10)) da_nil))) da_nil)))
  (dss_cons (ds_set (i := 21) nd (de_callA ((ok_ledger_right T).mono (by decide)) hr tk T.f_ledger_right.m T.f_ledger_right.F.kp T.f_ledger_right.b (da_cons (de_frz (de_var 4)) (da_cons (de_frz (de_var 10)) da_nil))))
  (dss_one (ds_if (dt_w (dw_or (dt_not (dt_tru (de_callB cd_isi T.n_isinstance (da_cons (de_var 21) (da_cons (de_bty T.n_bool (by decide +kernel)) da_nil))))) (dw_or (dt_cmp (od_ne hr.units) bool_dNe (de_var 21) (de_var 15)) (dw_or1 (dt_cmp (od_ne hr.units) bool_dNe (de_callB (cd_repr rfl (units66 hr)) T.n_repr (da_cons (de_lst (da_cons (de_frz (de_var 4)) (da_cons (de_frz (de_var 10)) da_nil))) da_nil)) (de_var 20)))))) (dss_one (ds_ret de_bl)) dss_nil))))))))))
  (dss_one (ds_ret de_bl)))))))))⟩
end
theorem all_mk {l : PySem.W.OpenLaw} {w : World} {K : PySem.W.Frag} {h : Heap} {mg : Str → Option Value} {fa f0 f1 f2 f3 f4 f5 f6 : Addr} (X : K.In h) (G : h.Ns mainGlobals mg) (hfa : mg "law" = some (.ref fa))
    {od0 an0 od1 an1 od2 an2 od3 an3 od4 an4 od5 an5 od6 an6 : Option Addr} {sl0 sl1 sl2 sl3 sl4 sl5 sl6 : Array (Option Value)} {oc0 kV0 dc0 pm0 cd0 ct0 oc1 kV1 dc1 pm1 cd1 ct1 oc2 kV2 dc2 pm2 cd2 ct2 oc3 kV3 dc3 pm3 cd3 ct3 oc4 kV4 dc4 pm4 cd4 ct4 oc5 kV5 dc5 pm5 cd5 ct5 oc6 kV6 dc6 pm6 cd6 ct6 : Value}
        (a0 : PySem.W.nsIn K mainGlobals "_law_draw" = some (some (.ref f0))) (l0 : K.lookup f0 = some ⟨oc0, od0, .func (PySem.W.fnOf "_law_draw" "_law_draw" (defArgs s_l_draw) (defBody s_l_draw) (defScope s_l_draw) .none kV0 dc0 pm0 an0 cd0 ct0), sl0⟩) (c0 : PySem.W.codeIn K cd0 "_law_draw" = true) (k0 : PySem.W.keepIn K (.ref f0) = true)
    (a1 : PySem.W.nsIn K mainGlobals "_law_pick" = some (some (.ref f1))) (l1 : K.lookup f1 = some ⟨oc1, od1, .func (PySem.W.fnOf "_law_pick" "_law_pick" (defArgs s_l_pick) (defBody s_l_pick) (defScope s_l_pick) .none kV1 dc1 pm1 an1 cd1 ct1), sl1⟩) (c1 : PySem.W.codeIn K cd1 "_law_pick" = true) (k1 : PySem.W.keepIn K (.ref f1) = true)
    (a2 : PySem.W.nsIn K mainGlobals "_law_state" = some (some (.ref f2))) (l2 : K.lookup f2 = some ⟨oc2, od2, .func (PySem.W.fnOf "_law_state" "_law_state" (defArgs s_l_state) (defBody s_l_state) (defScope s_l_state) .none kV2 dc2 pm2 an2 cd2 ct2), sl2⟩) (c2 : PySem.W.codeIn K cd2 "_law_state" = true) (k2 : PySem.W.keepIn K (.ref f2) = true)
    (a3 : PySem.W.nsIn K mainGlobals "_count_of" = some (some (.ref f3))) (l3 : K.lookup f3 = some ⟨oc3, od3, .func (PySem.W.fnOf "_count_of" "_count_of" (defArgs s_count_of) (defBody s_count_of) (defScope s_count_of) .none kV3 dc3 pm3 an3 cd3 ct3), sl3⟩) (c3 : PySem.W.codeIn K cd3 "_count_of" = true) (k3 : PySem.W.keepIn K (.ref f3) = true)
    (a4 : PySem.W.nsIn K mainGlobals "_fits" = some (some (.ref f4))) (l4 : K.lookup f4 = some ⟨oc4, od4, .func (PySem.W.fnOf "_fits" "_fits" (defArgs s_fits) (defBody s_fits) (defScope s_fits) .none kV4 dc4 pm4 an4 cd4 ct4), sl4⟩) (c4 : PySem.W.codeIn K cd4 "_fits" = true) (k4 : PySem.W.keepIn K (.ref f4) = true)
    (a5 : PySem.W.nsIn K mainGlobals "ledger_right" = some (some (.ref f5))) (l5 : K.lookup f5 = some ⟨oc5, od5, .func (PySem.W.fnOf "ledger_right" "ledger_right" (defArgs s_ledger_right) (defBody s_ledger_right) (defScope s_ledger_right) .none kV5 dc5 pm5 an5 cd5 ct5), sl5⟩) (c5 : PySem.W.codeIn K cd5 "ledger_right" = true) (k5 : PySem.W.keepIn K (.ref f5) = true)
    (a6 : PySem.W.nsIn K mainGlobals "law" = some (some (.ref f6))) (l6 : K.lookup f6 = some ⟨oc6, od6, .func (PySem.W.fnOf "law" "law" (defArgs s_law) (defBody s_law) (defScope s_law) .none kV6 dc6 pm6 an6 cd6 ct6), sl6⟩) (c6 : PySem.W.codeIn K cd6 "law" = true) (k6 : PySem.W.keepIn K (.ref f6) = true)
    (z_abs : PySem.W.nsIn K mainGlobals "abs" = some none)
    (z_bool : PySem.W.nsIn K mainGlobals "bool" = some none)
    (z_int : PySem.W.nsIn K mainGlobals "int" = some none)
    (z_isinstance : PySem.W.nsIn K mainGlobals "isinstance" = some none)
    (z_len : PySem.W.nsIn K mainGlobals "len" = some none)
    (z_range : PySem.W.nsIn K mainGlobals "range" = some none)
    (z_repr : PySem.W.nsIn K mainGlobals "repr" = some none) :
    ∃ fd : FuncData, Fun K "law" "law" s_law fa fd ∧ (∀ (s : Shared) (v : Value), BindsTo s fd ⟨[v], []⟩ [("script", v)]) ∧ ∀ base : Heap, K.In base → base.Ns mainGlobals mg → TopB l.prog w K mg base n_law "law" s_law fa 2 b_law := by
  have e := hfa.symm.trans (PySem.W.mg_of X G a6)
  cases e
  let T : Tx K w mg := {
    f__law_draw := ⟨_, _, fun_mk (st := s_l_draw) l0 c0 k0, PySem.W.mg_of X G a0, (fun_mk (st := s_l_draw) l0 c0 k0).binds (ps := ["state", "many"]) fun _ _ _ _ _ _ us hl => match us, hl with | [_, _], _ => rfl⟩
    f__law_pick := ⟨_, _, fun_mk (st := s_l_pick) l1 c1 k1, PySem.W.mg_of X G a1, (fun_mk (st := s_l_pick) l1 c1 k1).binds (ps := ["state", "row"]) fun _ _ _ _ _ _ us hl => match us, hl with | [_, _], _ => rfl⟩
    f__law_state := ⟨_, _, fun_mk (st := s_l_state) l2 c2 k2, PySem.W.mg_of X G a2, (fun_mk (st := s_l_state) l2 c2 k2).binds (ps := ["script"]) fun _ _ _ _ _ _ us hl => match us, hl with | [_], _ => rfl⟩
    f__count_of := ⟨_, _, fun_mk (st := s_count_of) l3 c3 k3, PySem.W.mg_of X G a3, (fun_mk (st := s_count_of) l3 c3 k3).binds (ps := ["budget", "user"]) fun _ _ _ _ _ _ us hl => match us, hl with | [_, _], _ => rfl⟩
    f__fits := ⟨_, _, fun_mk (st := s_fits) l4 c4 k4, PySem.W.mg_of X G a4, (fun_mk (st := s_fits) l4 c4 k4).binds (ps := ["budget", "user", "function", "area"]) fun _ _ _ _ _ _ us hl => match us, hl with | [_, _, _, _], _ => rfl⟩
    f_ledger_right := ⟨_, _, fun_mk (st := s_ledger_right) l5 c5 k5, PySem.W.mg_of X G a5, (fun_mk (st := s_ledger_right) l5 c5 k5).binds (ps := ["budgets", "ledger"]) fun _ _ _ _ _ _ us hl => match us, hl with | [_, _], _ => rfl⟩
    f_law := ⟨_, _, fun_mk (st := s_law) l6 c6 k6, PySem.W.mg_of X G a6, (fun_mk (st := s_law) l6 c6 k6).binds (ps := ["script"]) fun _ _ _ _ _ _ us hl => match us, hl with | [_], _ => rfl⟩
    n_abs := PySem.W.mg_none_of X G z_abs
    n_bool := PySem.W.mg_none_of X G z_bool
    n_int := PySem.W.mg_none_of X G z_int
    n_isinstance := PySem.W.mg_none_of X G z_isinstance
    n_len := PySem.W.mg_none_of X G z_len
    n_range := PySem.W.mg_none_of X G z_range
    n_repr := PySem.W.mg_none_of X G z_repr }
  exact ⟨PySem.W.fnOf "law" "law" (defArgs s_law) (defBody s_law) (defScope s_law) .none kV6 dc6 pm6 an6 cd6 ct6, T.f_law.F, fun s v => .of_eq rfl, fun base _ _ => top_law T⟩
end Law
namespace Law
open PySem L2 DL
/-! the drawn numbers -/
def St (cells : List Int) (seed : Int) : List O := [.lst (cells.map fun z => .p (.int z)), .lst [.o 0, .p (.int seed)]]
def Dw (M R : List O) : Prop := ∃ cells seed, M = St cells seed ++ R ∧ cells.length ≤ 63
theorem Dw.len {M R : List O} (h : Dw M R) : M.length = 2 + R.length := by
  obtain ⟨c, s, rfl, _⟩ := h; simp [St]; omega
theorem Dw.get {M R : List O} (h : Dw M R) (i : Nat) : M[2 + i]? = R[i]? := by
  obtain ⟨c, s, rfl, _⟩ := h
  rw [List.getElem?_append_right (by simp [St])]
  simp [St]
theorem Dw.set {M R : List O} (h : Dw M R) (i : Nat) (o : O) : Dw (M.set (2 + i) o) (R.set i o) := by
  obtain ⟨c, s, rfl, hl⟩ := h
  refine ⟨c, s, ?_, hl⟩
  rw [List.set_append_right _ _ (by simp [St])]
  simp [St]
theorem Dw.app {M R : List O} (h : Dw M R) (o : O) : Dw (M ++ [o]) (R ++ [o]) := by
  obtain ⟨c, s, rfl, hl⟩ := h
  exact ⟨c, s, by rw [List.append_assoc], hl⟩
theorem dropM_len {k : Nat} {d : DV} {M : List O} (h : M.length = k) : dropM k d M = M := by
  unfold dropM
  rw [List.take_of_length_le (by omega)]
  split <;> rfl
theorem zeros {R : List O} {seed : Int} {a1 : DV} : ∀ (n : Nat) (cells : List Int), cells.length ≤ n → ∃ c', c'.length ≤ cells.length ∧ c'.head? ≠ some 0 ∧ sWhile (n + 1) (mAnd (mBin dGt (mCB dLen (aCons (mVar 2) aNil)) (mC (.int 0))) (mBin dEq (mIx (mVar 2) (mC (.int 0))) (mC (.int 0)))) (sExpr (mMth "list" gPopAt (mVar 2) (aCons (mC (.int 0)) aNil)))
      ⟨[some (.o 1), some a1, some (.o 0), none, none], St cells seed ++ R⟩ = some (.nx, ⟨[some (.o 1), some a1, some (.o 0), none, none], St c' seed ++ R⟩) := by
  intro n
  induction n with
  | zero =>
    intro cells h
    obtain rfl : cells = [] := List.length_eq_zero_iff.mp (by omega)
    exact ⟨[], by simp, by simp, by simp [sWhile, e_lift, e_bnd, St]⟩
  | succ n ih =>
    intro cells h
    cases cells with
    | nil => exact ⟨[], by simp, by simp, by simp [sWhile, e_lift, e_bnd, St]⟩
    | cons z zs =>
      by_cases hz : z = 0
      · subst hz
        obtain ⟨c', h1, h2, h3⟩ := ih zs (by simpa using h)
        refine ⟨c', by simp; omega, h2, ?_⟩
        rw [← h3]
        rw [sWhile]
        simp [e_lift, e_bnd, St, tyOk, sExpr]
      · exact ⟨z :: zs, by simp, by simpa using hz, by simp [sWhile, e_lift, e_bnd, St, hz]⟩
theorem wp_draw {M R : List O} {many : Int} {P : DV → List O → Prop} (h : Dw M R) (hm : many < 1000000) (k : ∀ r M', Dw M' R → (many < 1 → r = 0) → (1 ≤ many → 0 ≤ r ∧ r < many) → P (.p (.int r)) M') : wpB (m_l_draw [.o 1, .p (.int many)] M) P := by
  obtain ⟨cells, seed, rfl, hl⟩ := h
  have hlen : ∀ (c : List Int) (s : Int), (St c s ++ R).length = (St cells seed ++ R).length := by intro c s; simp [St]
  simp [m_l_draw, b_l_draw]
  refine ⟨fun h1 => ?_, fun h1 => ?_⟩
  · rw [dropM_len (by simp)]
    exact k 0 _ ⟨cells, seed, rfl, hl⟩ (fun _ => rfl) (fun h2 => by omega)
  · have m0 : 0 < many := by omega
    have r0 : ∀ x : Int, 0 ≤ x % many ∧ x % many < many := fun x => ⟨Int.emod_nonneg _ (by omega), Int.emod_lt_of_pos _ m0⟩
    have g1 : (St cells seed ++ R)[1]? = some (.lst [.o 0, .p (.int seed)]) := by simp [St]
    simp [g1]
    obtain ⟨c', l1, l2, e⟩ := zeros (R := R) (seed := seed) (a1 := .p (.int many)) 64 cells (by omega)
    rw [e]
    simp
    have g0 : (St c' seed ++ R)[0]? = some (.lst (c'.map fun z => .p (.int z))) := by simp [St]
    have g2 : (St c' seed ++ R)[1]? = some (.lst [.o 0, .p (.int seed)]) := by simp [St]
    simp [g0, g2]
    cases c' with
    | nil =>
      have q := setL_ok (M := St [] seed ++ R) (n := 1) (j := 1) (d := .p (.int ((seed * 48271 + 12345) % 2147483647))) g2 (by decide) (by simp)
      simp [e_set, e_setK, e_bnd, q, g2, m0, mulOkR]
      rw [dropM_len (by simp [St]; omega)]
      exact k _ _ ⟨[], (seed * 48271 + 12345) % 2147483647, by simp [St], by simp⟩ (fun h => by omega) fun _ => r0 _
    | cons z zs =>
      have q := setL_ok (M := St (z :: zs) seed ++ R) (n := 0) (j := 0) (d := .p (.int (z / many))) g0 (by decide) (by simp)
      simp at q
      simp [e_set, e_setK, e_bnd, q, g2, m0, mulOkR, show many < 18446744073709551616 by omega]
      rw [dropM_len (by simp [St]; omega)]
      exact k _ _ ⟨z / many :: zs, seed, by simp [St], by simp at l1 ⊢; omega⟩ (fun h => by omega) fun _ => r0 _
theorem at_mem' {α : Type} {xs : List α} {j : Int} (h0 : 0 ≤ j) (h : j < xs.length) : ∃ x, atI xs j = some x ∧ x ∈ xs := at_mem h0 h
theorem wp_pick {M R : List O} {xs : List D} {P : DV → List O → Prop} (h : Dw M R) (h0 : xs ≠ []) (h1 : xs.length < 1000000) (k : ∀ x M', Dw M' R → x ∈ xs → P (.p x) M') : wpB (m_l_pick [.o 1, .p (.lst xs)] M) P := by
  simp [m_l_pick, b_l_pick]
  have hl : 0 < xs.length := List.length_pos_iff.mpr h0
  refine wp_draw h (by omega) fun r M' d _ b => ?_
  have b := b (by omega)
  obtain ⟨x, hx, mx⟩ := at_mem b.1 b.2
  simp [hx]
  rw [dropM_len (by rw [d.len, h.len])]
  exact k x M' d mx
theorem state_spec (ns : List Int) (hl : ns.length ≤ 63) : ∃ M, m_l_state [.p (.scr (ns.map .int))] [] = some (.ok (.o 1) M) ∧ Dw M [] := by
  have lp : ∀ (l : List Int) (x : Int) (d2 : Option DV), 0 ≤ x → ∃ x' d2', 0 ≤ x' ∧ loopS (gN 2) (sAsg (mBin dMod (mCB (g1 dInt) (aCons (mBin dAdd (mBin dMul (mVar 1) (mC (.int 31))) (mVar 2)) aNil)) (mC (.int 1000003))) (gN 1)) ((l.map D.int).map DV.p)
      ⟨[some (.p (.scr (ns.map .int))), some (.p (.int x)), d2], []⟩ = some (.nx, ⟨[some (.p (.scr (ns.map .int))), some (.p (.int x')), d2'], []⟩) := by
    intro l
    induction l with
    | nil => intro x d2 h; exact ⟨x, d2, h, rfl⟩
    | cons z zs ih =>
      intro x d2 h
      obtain ⟨x', d2', h1, h2⟩ := ih ((x * 31 + z) % 1000003) (some (.p (.int z))) (Int.emod_nonneg _ (by decide))
      refine ⟨x', d2', h1, ?_⟩
      rw [← h2]
      simp [loopS_cons, e_lift, e_bnd, mulOkR]
  obtain ⟨x', d2', hx, e⟩ := lp ns 7 none (by decide)
  have hm : ∀ l, compL l (gN 2) tYesM (mCB (g1 dAbs) (aCons (mVar 2) aNil)) ((ns.map D.int).map DV.p) [] [] = compL l (gN 2) tYesM (mCB (g1 dAbs) (aCons (mVar 2) aNil)) ((ns.map D.int).map DV.p) [] [] := fun _ => rfl
  have hm : compL [some (.p (.scr (ns.map .int))), some (.p (.int x')), none] (gN 2) tYesM (mCB (g1 dAbs) (aCons (mVar 2) aNil)) ((ns.map D.int).map DV.p) [] [] = some ((ns.map iabs).map D.int, []) := by
    rw [compL_map (f := fun d => match d with | .p (.int i) => .int (iabs i) | _ => .non) ((ns.map D.int).map DV.p) (fun d hd => by
      rw [List.map_map] at hd
      obtain ⟨i, _, rfl⟩ := List.mem_map.mp hd
      exact ⟨_, rfl, rfl, by simp [e_bnd, iabs]⟩) (by simp; omega)]
    simp
  refine ⟨St (ns.map iabs) (x' + 1), ?_, ns.map iabs, x' + 1, by simp, by simpa using hl⟩
  generalize hA : ns.map iabs = A at hm
  generalize hB : ns.map D.int = B at hm e
  simp [e_bnd, e_seq, e_lift, e_runB, m_l_state, b_l_state, itL, e, hm, dropM_own, St]
end Law
namespace Law
open PySem L2 DL
/-! names, areas, budgets, rows -/
structure Nm where
  i : Fin 3
deriving DecidableEq
structure Ar where
  i : Fin 3
deriving DecidableEq
def nmS : Fin 3 → Str
  | 0 => Str.ofString "RSUM"
  | 1 => Str.ofString "RMAX"
  | 2 => Str.ofString "RAVG"
def arD : Fin 3 → D
  | 0 => .tup [.tup [.int 0, .int 0], .tup [.int 0, .int 2]]
  | 1 => .tup [.tup [.int 1, .int 0], .tup [.int 1, .int 2]]
  | 2 => .tup [.tup [.int 1, .int 0], .tup [.int 1, .int 3]]
theorem nm_dq : ∀ a b : Fin 3, deq (.str (nmS a)) (.str (nmS b)) = decide (a = b) := by decide +kernel
theorem ar_dq : ∀ a b : Fin 3, deq (arD a) (arD b) = decide (a = b) := by decide +kernel
theorem nm_ok : ∀ a : Fin 3, okD (.str (nmS a)) = true := by decide +kernel
theorem ar_ok : ∀ a : Fin 3, okD (arD a) = true := by decide +kernel
instance : En Nm := ⟨fun a => .str (nmS a.i), fun a b => by
  rw [nm_dq]; obtain ⟨a⟩ := a; obtain ⟨b⟩ := b; simp, fun a => nm_ok a.i, 0, fun _ => Nat.le_refl _⟩
theorem ar_dp : ∀ a : Fin 3, depD (arD a) ≤ 2 := by decide +kernel
instance : En Ar := ⟨fun a => arD a.i, fun a b => by
  rw [ar_dq]; obtain ⟨a⟩ := a; obtain ⟨b⟩ := b; simp, fun a => ar_ok a.i, 2, fun a => ar_dp a.i⟩
structure Bud where
  a : Ar
  fs : List Nm
  to : List Int
  y : Int
  cs : List Int
structure Row where
  u : Int
  f : Nm
  a : Ar
  i : Int
def bD (b : Bud) : D := .tup [En.en b.a, .lst (b.fs.map En.en), .lst (b.to.map D.int), .int b.y, .lst (b.cs.map D.int)]
def rD (r : Row) : D := .tup [.int r.u, En.en r.f, En.en r.a, .int r.i]
/-- the place of a user among those of a budget -/
def pl (u : Int) : List Int → Nat
  | [] => 0
  | v :: r => if v = u then 0 else pl u r + 1
theorem pl_find (u : Int) : ∀ (l : List Int) (j : Nat), u ∈ l → findJ (.int u) (l.map D.int) j = some (j + pl u l)
  | [], _, h => by cases h
  | v :: r, j, h => by
    rw [List.map_cons, pl]
    show (if deq (.int v) (.int u) = true then some j else findJ (.int u) (r.map D.int) (j + 1)) = _
    by_cases q : v = u
    · simp [q]
    · have : u ∈ r := by
        rcases List.mem_cons.mp h with h | h
        · exact absurd h.symm q
        · exact h
      rw [pl_find u r (j + 1) this]
      simp [q]; omega
theorem pl_lt (u : Int) : ∀ (l : List Int), u ∈ l → pl u l < l.length
  | [], h => by cases h
  | v :: r, h => by
    rw [pl]
    by_cases q : v = u
    · simp [q]
    · have : u ∈ r := by
        rcases List.mem_cons.mp h with h | h
        · exact absurd h.symm q
        · exact h
      have := pl_lt u r this
      simp [q]; omega
theorem flat_ints (l : List Int) : (l.map D.int).all flatD = true := by
  rw [List.all_map]; exact List.all_eq_true.mpr fun _ _ => rfl
def most (b : Bud) (u : Int) : Int := (b.cs[pl u b.to]?).getD 0
def fitsB (b : Bud) (u : Int) (f : Nm) (a : Ar) : Bool := decide (b.a = a) && (decide (f ∈ b.fs) && decide (u ∈ b.to))
theorem fits_spec (b : Bud) (u : Int) (f : Nm) (a : Ar) : m_fits [bD b, .int u, En.en f, En.en a] = some (.ok (.bl (fitsB b u f a))) := by
  have e1 := eqD_en b.a a (by decide)
  have e2 := inD_en f b.fs (by decide)
  have e3 : inD (.int u) (.lst (b.to.map D.int)) = some (decide (u ∈ b.to)) := inD_en (α := Int) u b.to (by decide)
  unfold fitsB
  apply wpA.eq
  simp [m_fits, b_fits, bD, e1]
  refine ⟨fun h1 => ?_, fun h1 => by simp [h1]⟩
  simp [e2, h1]
  refine ⟨fun h2 => ?_, fun h2 => by simp [h2]⟩
  simp [e3, h2]
theorem count_spec (b : Bud) (u : Int) (h : u ∈ b.to) (hl : b.cs.length = b.to.length) : m_count_of [bD b, .int u] = some (.ok (.int (most b u))) := by
  have hp := pl_lt u b.to h
  have hc : b.cs[pl u b.to]? = some (b.cs[pl u b.to]'(by omega)) := List.getElem?_eq_getElem (by omega)
  have e1 : atI (b.cs.map D.int) ((pl u b.to : Nat) : Int) = some (.int (most b u)) := by
    refine atI_nat' (Int.natCast_nonneg _) ?_
    rw [Int.toNat_natCast, List.getElem?_map, hc]
    unfold most
    rw [hc]; rfl
  have e2 := pl_find u b.to 0 h
  rw [Nat.zero_add] at e2
  have hf := flat_ints b.to
  apply wpA.eq
  simp [m_count_of, b_count_of, bD, hf, e2, e1]
/-! what is due -/
def fits (bs : List Bud) (r : Row) : Bool := decide (0 ≤ r.i ∧ r.i < bs.length) && (match bs[r.i.toNat]? with
  | some b => fitsB b r.u r.f r.a
  | none => false)
def mst (bs : List Bud) (r : Row) : Int := match bs[r.i.toNat]? with
  | some b => most b r.u
  | none => 0
def same (r x : Row) : Bool := decide (x.i = r.i) && decide (x.u = r.u)
def cnt (l : List Row) (r : Row) : Nat := (l.filter (same r)).length
def lr (bs : List Bud) : List Row → List Row → Bool
  | _, [] => true
  | pre, r :: rs => fits bs r && decide ((cnt (pre ++ [r]) r : Int) ≤ mst bs r) && lr bs (pre ++ [r]) rs
theorem same_cnt {r x : Row} (h : same r x = true) (l : List Row) : cnt l x = cnt l r := by
  unfold same at h
  rw [Bool.and_eq_true, decide_eq_true_eq, decide_eq_true_eq] at h
  unfold cnt same
  rw [h.1, h.2]
theorem same_mst {r x : Row} (h : same r x = true) (bs : List Bud) : mst bs x = mst bs r := by
  unfold same at h
  rw [Bool.and_eq_true, decide_eq_true_eq, decide_eq_true_eq] at h
  unfold mst
  rw [h.1, h.2]
theorem cnt_app (l m : List Row) (r : Row) : cnt (l ++ m) r = cnt l r + cnt m r := by
  unfold cnt; rw [List.filter_append, List.length_append]
theorem lr_iff (bs : List Bud) : ∀ (rs pre : List Row), lr bs pre rs = true ↔ (∀ r ∈ rs, fits bs r = true) ∧ ∀ r ∈ rs, (cnt (pre ++ rs) r : Int) ≤ mst bs r
  | [], pre => by simp [lr]
  | r :: rs, pre => by
    have ih := lr_iff bs rs (pre ++ [r])
    have ea : pre ++ [r] ++ rs = pre ++ r :: rs := by simp
    rw [ea] at ih
    rw [lr, Bool.and_eq_true, Bool.and_eq_true, ih, decide_eq_true_eq]
    constructor
    · rintro ⟨⟨h1, h2⟩, h3, h4⟩
      refine ⟨fun x hx => ?_, fun x hx => ?_⟩
      · rcases List.mem_cons.mp hx with rfl | hx
        · exact h1
        · exact h3 x hx
      · rcases List.mem_cons.mp hx with rfl | hx
        · by_cases q : ∃ y ∈ rs, same x y = true
          · obtain ⟨y, hy, hs⟩ := q
            have := h4 y hy
            rw [same_cnt hs, same_mst hs] at this
            exact this
          · have z : cnt rs x = 0 := by
              unfold cnt
              rw [List.length_eq_zero_iff, List.filter_eq_nil_iff]
              exact fun y hy hs => q ⟨y, hy, hs⟩
            rw [← ea, cnt_app, z]
            simpa using h2
        · exact h4 x hx
    · rintro ⟨h1, h2⟩
      refine ⟨⟨h1 r (by simp), ?_⟩, fun x hx => h1 x (List.mem_cons_of_mem _ hx), fun x hx => h2 x (List.mem_cons_of_mem _ hx)⟩
      have := h2 r (by simp)
      rw [← ea, cnt_app] at this
      omega
def due (bs : List Bud) (rows : List Row) (r : Row) : Bool := fits bs r && decide ((cnt rows r : Int) ≤ mst bs r)
theorem lr_all (bs : List Bud) (rows : List Row) : lr bs [] rows = rows.all (due bs rows) := by
  rw [Bool.eq_iff_iff, lr_iff, List.all_eq_true]
  simp only [due, Bool.and_eq_true, decide_eq_true_eq, List.nil_append]
  exact ⟨fun h r hr => ⟨h.1 r hr, h.2 r hr⟩, fun h => ⟨fun r hr => (h r hr).1, fun r hr => (h r hr).2⟩⟩
end Law
namespace Law
open PySem L2 DL
def okB (b : Bud) : Prop := b.cs.length = b.to.length
theorem get_bud {bs : List Bud} {i : Int} (h0 : 0 ≤ i) (h1 : i < bs.length) : ∃ b, bs[i.toNat]? = some b ∧ b ∈ bs ∧ atI (bs.map bD) i = some (bD b) := by
  have hj : i.toNat < bs.length := by omega
  refine ⟨bs[i.toNat], List.getElem?_eq_getElem hj, List.getElem_mem hj, atI_nat' h0 ?_⟩
  rw [List.getElem?_map, List.getElem?_eq_getElem hj]; rfl
/-- the dict holds the rows counted so far -/
def Cnts (pre : List Row) (kvs : List (List Key × DV)) : Prop := kvs.length ≤ pre.length ∧ ∀ r : Row, valO kvs [.inl r.u, .inl r.i] = if cnt pre r = 0 then none else some (.p (.int (cnt pre r : Nat)))
theorem keyT2 (a b : Int) : keyT (.tup [.int a, .int b]) = some [.inl a, .inl b] := rfl
theorem Cnts.snoc {pre : List Row} {kvs : List (List Key × DV)} (h : Cnts pre kvs) (r : Row) : Cnts (pre ++ [r]) (putO kvs [.inl r.u, .inl r.i] (.p (.int ((cnt pre r : Nat) + 1)))) := by
  refine ⟨?_, fun x => ?_⟩
  · have := putO_len kvs [.inl r.u, .inl r.i] (.p (.int ((cnt pre r : Nat) + 1)))
    have := h.1
    simp; omega
  · rw [valO_put, cnt_app]
    by_cases q : same x r = true
    · have c1 : cnt [r] x = 1 := by unfold cnt; simp [q]
      have e := same_cnt q pre
      unfold same at q
      rw [Bool.and_eq_true, decide_eq_true_eq, decide_eq_true_eq] at q
      rw [if_pos (by rw [q.1, q.2]), if_neg (by omega), c1, e]
      rfl
    · have c1 : cnt [r] x = 0 := by unfold cnt; simp [q]
      rw [c1, Nat.add_zero, if_neg ?_, h.2 x]
      intro hk
      refine q ?_
      unfold same
      injection hk with h1 h2
      injection h2 with h2 _
      injection h1 with h1
      injection h2 with h2
      rw [h1, h2]; simp
noncomputable def bodyR : SM := (sSeq (sIf (mOr (mNot (mChain dLe dLt (mC (.int 0)) (mVar 6) (mCB dLen (aCons (mVar 0) aNil)))) (mNot (mTru (mCallA 4 m_fits (aCons (mIx (mVar 0) (mVar 6)) (aCons (mVar 3) (aCons (mVar 4) (aCons (mVar 5) aNil)))))))) (sRet (mC (.bl false))) sNil)
  (sSeq (sPut (mBin dAdd (mMth "dict" gGet (mVar 2) (aCons (disp .tup (aCons (mVar 3) (aCons (mVar 6) aNil))) (aCons (mC (.int 0)) aNil))) (mC (.int 1))) (mVar 2) (disp .tup (aCons (mVar 3) (aCons (mVar 6) aNil))))
  (sIf (mBin dGt (mDget (mVar 2) (disp .tup (aCons (mVar 3) (aCons (mVar 6) aNil)))) (mCallA 2 m_count_of (aCons (mIx (mVar 0) (mVar 6)) (aCons (mVar 3) aNil)))) (sRet (mC (.bl false))) sNil)))
theorem right_loop (bs : List Bud) (hb : ∀ b ∈ bs, okB b) (lD : D) : ∀ (rs pre : List Row) (kvs : List (List Key × DV)) (x3 x4 x5 x6 : Option DV), Cnts pre kvs → pre.length + rs.length ≤ 1000 → 
    ∃ x3' x4' x5' x6' M', loopS (gT 4 (gsCons (gN 3) (gsCons (gN 4) (gsCons (gN 5) (gsCons (gN 6) gsNil))))) bodyR
    ((rs.map rD).map .p) ⟨[some (.p (.lst (bs.map bD))), some (.p lD), some (.o 0), x3, x4, x5, x6], [.dT kvs]⟩ =
      some (if lr bs pre rs = true then (.nx, ⟨[some (.p (.lst (bs.map bD))), some (.p lD), some (.o 0), x3', x4', x5', x6'], M'⟩) else (.rt (.p (.bl false)), ⟨[some (.p (.lst (bs.map bD))), some (.p lD), some (.o 0), x3', x4', x5', x6'], M'⟩)) := by
  intro rs
  induction rs with
  | nil => intro pre kvs x3 x4 x5 x6 _ _; exact ⟨x3, x4, x5, x6, _, rfl⟩
  | cons r rs ih =>
    intro pre kvs x3 x4 x5 x6 hc hl
    rw [List.map_cons, List.map_cons, loopS_cons]
    have eg : gT 4 (gsCons (gN 3) (gsCons (gN 4) (gsCons (gN 5) (gsCons (gN 6) gsNil)))) (.p (rD r)) ⟨[some (.p (.lst (bs.map bD))), some (.p lD), some (.o 0), x3, x4, x5, x6], [.dT kvs]⟩ = some ⟨[some (.p (.lst (bs.map bD))), some (.p lD), some (.o 0), some (.p (.int r.u)), some (.p (En.en r.f)), some (.p (En.en r.a)), some (.p (.int r.i))], [.dT kvs]⟩ := rfl
    rw [eg]
    by_cases hi : 0 ≤ r.i ∧ r.i < bs.length
    · obtain ⟨b, e1, mb, e2⟩ := get_bud hi.1 hi.2
      have ef : fits bs r = fitsB b r.u r.f r.a := by unfold fits; rw [e1, decide_eq_true hi]; rfl
      have fs := fits_spec b r.u r.f r.a
      by_cases hf : fitsB b r.u r.f r.a = true
      · have hu : r.u ∈ b.to := by
          unfold fitsB at hf
          rw [Bool.and_eq_true, Bool.and_eq_true, decide_eq_true_eq, decide_eq_true_eq, decide_eq_true_eq] at hf
          exact hf.2.2
        have cs := count_spec b r.u hu (hb b mb)
        have em : mst bs r = most b r.u := by unfold mst; rw [e1]
        have hv := hc.2 r
        have hk := hc.snoc r
        have hv2 := hk.2 r
        have cr : cnt (pre ++ [r]) r = cnt pre r + 1 := by rw [cnt_app]; unfold cnt same; simp
        rw [cr, if_neg (by omega)] at hv2
        have gm : getM [O.dT kvs] (.o 0) (.tup [.int r.u, .int r.i]) = some (valO kvs [Sum.inl r.u, Sum.inl r.i]) := by rw [getM_T (kvs := kvs) rfl, keyT2]; rfl
        have pm : putM [O.dT kvs] 0 (.tup [.int r.u, .int r.i]) (.p (.int ((cnt pre r : Nat) + 1))) = some [O.dT (putO kvs [.inl r.u, .inl r.i] (.p (.int ((cnt pre r : Nat) + 1))))] := by
          have h1 := hc.1
          exact putM_T (kvs := kvs) rfl (keyT2 _ _) (by simp at hl; omega) _
        generalize hkv : putO kvs [.inl r.u, .inl r.i] (.p (.int ((cnt pre r : Nat) + 1))) = kvs' at pm hk hv2
        have gm2 : getM [O.dT kvs'] (.o 0) (.tup [.int r.u, .int r.i]) = some (some (.p (.int ((cnt pre r + 1 : Nat))))) := by rw [getM_T (kvs := kvs') rfl, keyT2, Option.map_some, hv2]
        have tk : tyOk "dict" [O.dT kvs] (.o 0) = true := tyOk_dT rfl
        have hg : ∀ l, gGet (.o 0) [.p (.tup [.int r.u, .int r.i]), .p (.int 0)] ⟨l, [.dT kvs]⟩ = some (.ok (.p (.int (cnt pre r : Nat))) [.dT kvs]) := by
          intro l
          rw [e_get2]
          dsimp only
          rw [gm, hv]
          by_cases z : cnt pre r = 0
          · rw [if_pos z, z]; rfl
          · rw [if_neg z]
        have step : bodyR ⟨[some (.p (.lst (bs.map bD))), some (.p lD), some (.o 0), some (.p (.int r.u)), some (.p (En.en r.f)), some (.p (En.en r.a)), some (.p (.int r.i))], [.dT kvs]⟩ =
            some (if (cnt (pre ++ [r]) r : Int) ≤ mst bs r then (.nx, ⟨[some (.p (.lst (bs.map bD))), some (.p lD), some (.o 0), some (.p (.int r.u)), some (.p (En.en r.f)), some (.p (En.en r.a)), some (.p (.int r.i))], [.dT kvs']⟩)
              else (.rt (.p (.bl false)), ⟨[some (.p (.lst (bs.map bD))), some (.p lD), some (.o 0), some (.p (.int r.u)), some (.p (En.en r.f)), some (.p (En.en r.a)), some (.p (.int r.i))], [.dT kvs']⟩)) := by
          rw [cr, em]
          simp [bodyR, e_bnd, e_seq, e_lift, hi.1, hi.2, e2, fs, hf, tk, hg, pm, gm2, cs, -e_get2]
          by_cases hq : most b r.u < (cnt pre r : Int) + 1
          · rw [decide_eq_true hq, if_neg (by omega)]; rfl
          · rw [decide_eq_false hq, if_pos (by omega)]; rfl
        rw [lr, ef, hf, Bool.true_and]
        simp only [Bool.and_eq_true, decide_eq_true_eq]
        rw [step]
        by_cases hq : (cnt (pre ++ [r]) r : Int) ≤ mst bs r
        · obtain ⟨x3', x4', x5', x6', M', h⟩ := ih (pre ++ [r]) kvs' (some (.p (.int r.u))) (some (.p (En.en r.f))) (some (.p (En.en r.a))) (some (.p (.int r.i))) hk (by simp at hl ⊢; omega)
          refine ⟨x3', x4', x5', x6', M', ?_⟩
          rw [if_pos hq]
          dsimp only
          rw [h]
          by_cases hh : lr bs (pre ++ [r]) rs = true
          · rw [if_pos hh, if_pos ⟨hq, hh⟩]
          · rw [if_neg hh, if_neg fun z => hh z.2]
        · refine ⟨some (.p (.int r.u)), some (.p (En.en r.f)), some (.p (En.en r.a)), some (.p (.int r.i)), [.dT kvs'], ?_⟩
          rw [if_neg hq, if_neg fun z => hq z.1]
      · have hf' : fitsB b r.u r.f r.a = false := by simpa using hf
        refine ⟨some (.p (.int r.u)), some (.p (En.en r.f)), some (.p (En.en r.a)), some (.p (.int r.i)), [.dT kvs], ?_⟩
        rw [lr, ef, hf']
        simp [bodyR, e_bnd, e_seq, e_lift, hi.1, hi.2, e2, fs, hf']
    · have hn : fits bs r = false := by unfold fits; rw [decide_eq_false hi]; rfl
      refine ⟨some (.p (.int r.u)), some (.p (En.en r.f)), some (.p (En.en r.a)), some (.p (.int r.i)), [.dT kvs], ?_⟩
      rw [lr, hn]
      by_cases h0 : 0 ≤ r.i
      · have h1 : ¬ r.i < bs.length := fun z => hi ⟨h0, z⟩
        simp [bodyR, e_bnd, e_seq, e_lift, h0, h1]
      · simp [bodyR, e_bnd, e_seq, e_lift, h0]
theorem right_spec (bs : List Bud) (hb : ∀ b ∈ bs, okB b) (rs : List Row) (hl : rs.length ≤ 1000) : m_ledger_right [.lst (bs.map bD), .lst (rs.map rD)] = some (.ok (.bl (rs.all (due bs rs)))) := by
  obtain ⟨x3, x4, x5, x6, M', h⟩ := right_loop bs hb (.lst (rs.map rD)) rs [] [] none none none none ⟨by simp, fun r => rfl⟩ (by simpa using hl)
  have e : b_ledger_right = sSeq (sAsg (mDnew (.dT [])) (gN 2)) (sSeq (sFor (mItD itL (mVar 1)) (gT 4 (gsCons (gN 3) (gsCons (gN 4) (gsCons (gN 5) (gsCons (gN 6) gsNil))))) bodyR) (sRet (mC (.bl true)))) := rfl
  rw [← lr_all]
  by_cases hh : lr bs [] rs = true
  · rw [if_pos hh] at h
    rw [hh]
    generalize hA : rs.map rD = A at h
    generalize hB : bs.map bD = B at h
    simp [m_ledger_right, e, e_bnd, e_seq, e_lift, e_runA, h]
  · rw [if_neg hh] at h
    have hh' : lr bs [] rs = false := by simpa using hh
    rw [hh']
    generalize hA : rs.map rD = A at h
    generalize hB : bs.map bD = B at h
    simp [m_ledger_right, e, e_bnd, e_seq, e_lift, e_runA, h]
end Law
namespace Law
open PySem L2 DL
noncomputable def bodyB : SM := (sSeq (sAsg (mLc (mItD itL (mVar 3)) [22] (gN 22) (mBin dGt (mCallB 2 m_l_draw (aCons (mVar 1) (aCons (mC (.int 3)) aNil))) (mC (.int 0))) (mVar 22)) (gN 6))
  (sSeq (sAsg (mLc (mRng rng1D (aCons (mC (.int 3)) aNil)) [16] (gN 16) (mBin dGt (mCallB 2 m_l_draw (aCons (mVar 1) (aCons (mC (.int 3)) aNil))) (mC (.int 0))) (mVar 16)) (gN 7))
  (sSeq (sAsg (mLc (mItD itL (mVar 7)) [16] (gN 16) tYesM (mCallB 2 m_l_draw (aCons (mVar 1) (aCons (mC (.int 4)) aNil)))) (gN 8))
  (sExpr (mMth "list" gApp (mVar 4) (aCons (disp .tup (aCons (mCallB 2 m_l_pick (aCons (mVar 1) (aCons (mVar 2) aNil))) (aCons (mVar 6) (aCons (mVar 7) (aCons (mCallB 2 m_l_draw (aCons (mVar 1) (aCons (mC (.int 3)) aNil))) (aCons (mVar 8) aNil)))))) aNil))))))
noncomputable def bodyL : SM := (sSeq (sAsg (mIf (mBin dGt (mCallB 2 m_l_draw (aCons (mVar 1) (aCons (mC (.int 9)) aNil))) (mC (.int 0))) (mCallB 2 m_l_draw (aCons (mVar 1) (aCons (mCB dLen (aCons (mVar 4) aNil)) aNil))) (mCallB 2 m_l_pick (aCons (mVar 1) (aCons (disp .lst (aCons (mUn dNeg (mC (.int 1))) (aCons (mCB dLen (aCons (mVar 4) aNil)) aNil))) aNil)))) (gN 11))
  (sSeq (sAsg (disp .tup (aCons (mCallB 2 m_l_draw (aCons (mVar 1) (aCons (mC (.int 3)) aNil))) (aCons (mCallB 2 m_l_pick (aCons (mVar 1) (aCons (mVar 3) aNil))) (aCons (mCallB 2 m_l_pick (aCons (mVar 1) (aCons (mVar 2) aNil))) (aCons (mVar 11) aNil))))) (gN 12))
  (sSeq (sIf (mAnd (mBin dGt (mCB dLen (aCons (mVar 4) aNil)) (mC (.int 0))) (mAnd (mBin (dInR false) (mVar 11) (mCB (g1 dRng1) (aCons (mCB dLen (aCons (mVar 4) aNil)) aNil))) (mBin dGt (mCallB 2 m_l_draw (aCons (mVar 1) (aCons (mC (.int 6)) aNil))) (mC (.int 0))))) (sSeq (sAsg (mIx (mVar 4) (mVar 11)) (gT 5 (gsCons (gN 13) (gsCons (gN 6) (gsCons (gN 7) (gsCons (gN 14) (gsCons (gN 8) gsNil)))))))
  (sIf (mAnd (mBin dGt (mCB dLen (aCons (mVar 6) aNil)) (mC (.int 0))) (mBin dGt (mCB dLen (aCons (mVar 7) aNil)) (mC (.int 0)))) (sAsg (disp .tup (aCons (mCallB 2 m_l_pick (aCons (mVar 1) (aCons (mVar 7) aNil))) (aCons (mCallB 2 m_l_pick (aCons (mVar 1) (aCons (mVar 6) aNil))) (aCons (mVar 13) (aCons (mVar 11) aNil))))) (gN 12)) sNil)) sNil)
  (sExpr (mMth "list" gApp (mVar 10) (aCons (mVar 12) aNil))))))
noncomputable def bodyD : SM := (sIf (mBin (dInR true) (mVar 11) (mCB (g1 dRng1) (aCons (mCB dLen (aCons (mVar 4) aNil)) aNil))) (sAsg (mC (.bl false)) (gN 15)) (sIf (mOr (mBin dNe (mIx (mIx (mVar 4) (mVar 11)) (mC (.int 0))) (mVar 18)) (mOr (mBin dNin (mVar 17) (mIx (mIx (mVar 4) (mVar 11)) (mC (.int 1)))) (mBin dNin (mVar 16) (mIx (mIx (mVar 4) (mVar 11)) (mC (.int 2)))))) (sAsg (mC (.bl false)) (gN 15)) (sSeq (sAsg (mIx (mIx (mIx (mVar 4) (mVar 11)) (mC (.int 4))) (mMth "list" (gP dLindex) (mIx (mIx (mVar 4) (mVar 11)) (mC (.int 2))) (aCons (mVar 16) aNil))) (gN 19))
  (sAsg (mAnd (mVar 15) (mBin dLe (mCB dLen (aCons (mLc (mItD itL (mFrz (mVar 10))) [12] (gN 12) (mAnd (mBin dEq (mIx (mVar 12) (mC (.int 3))) (mVar 11)) (mBin dEq (mIx (mVar 12) (mC (.int 0))) (mVar 16))) (mVar 12)) aNil)) (mVar 19))) (gN 15)))))
noncomputable def bodyT : SM := (sSeq (sAsg (dispO aNil) (gN 10))
  (sSeq (sFor (mRng rng1D (aCons (mCallB 2 m_l_draw (aCons (mVar 1) (aCons (mC (.int 9)) aNil))) aNil)) (gN 5) bodyL)
  (sSeq (sFrz 10) (sSeq (sAsg (mC (.bl true)) (gN 15))
  (sSeq (sFor (mItD itL (mFrz (mVar 10))) (gT 4 (gsCons (gN 16) (gsCons (gN 17) (gsCons (gN 18) (gsCons (gN 11) gsNil))))) bodyD)
  (sSeq (sAsg (mCB (g1 dRepr) (aCons (disp .lst (aCons (mFrz (mVar 4)) (aCons (mFrz (mVar 10)) aNil))) aNil)) (gN 20))
  (sSeq (sAsg (mCallA 2 m_ledger_right (aCons (mFrz (mVar 4)) (aCons (mFrz (mVar 10)) aNil))) (gN 21))
  (sIf (mOr (mNot (mTru (mCB dIsi (aCons (mVar 21) (aCons (mC (.ty "bool")) aNil))))) (mOr (mBin dNe (mVar 21) (mVar 15)) (mBin dNe (mCB (g1 dRepr) (aCons (disp .lst (aCons (mFrz (mVar 4)) (aCons (mFrz (mVar 10)) aNil))) aNil)) (mVar 20)))) (sRet (mC (.bl false))) sNil))))))))
theorem law4_eq : b_law_4 = sSeq (sFor (mRng rng1D (aCons (mCallB 2 m_l_draw (aCons (mVar 1) (aCons (mC (.int 5)) aNil))) aNil)) (gN 5) bodyB) b_law_5 := rfl
theorem law5_eq : b_law_5 = sSeq (sFrz 4) (sSeq (sFor (mRng rng1D (aCons (mC (.int 5)) aNil)) (gN 9) bodyT) b_law_6) := rfl
def nmsD : List D := [En.en (Nm.mk 0), En.en (Nm.mk 1), En.en (Nm.mk 2)]
def arsD : List D := [En.en (Ar.mk 0), En.en (Ar.mk 1), En.en (Ar.mk 2)]
structure SL (l : List (Option DV)) (bv : DV) : Prop where
  len : l.length = 23
  v1 : gv l 1 = some (.o 1)
  v2 : gv l 2 = some (.p (.lst arsD))
  v3 : gv l 3 = some (.p (.lst nmsD))
  v4 : gv l 4 = some bv
theorem SL.set {l : List (Option DV)} {bv : DV} (h : SL l bv) (i : Nat) (x : Option DV) (hi : 4 < i) : SL (l.set i x) bv :=
  ⟨by simpa using h.len, by rw [gv_set, if_neg (by omega)]; exact h.v1, by rw [gv_set, if_neg (by omega)]; exact h.v2, by rw [gv_set, if_neg (by omega)]; exact h.v3, by rw [gv_set, if_neg (by omega)]; exact h.v4⟩
theorem gv_same {l : List (Option DV)} {bv : DV} (h : SL l bv) (i : Nat) (x : Option DV) (hi : i < 23) : gv (l.set i x) i = x := by rw [gv_set, if_pos rfl, if_pos (by rw [h.len]; exact hi)]
theorem gv_other (l : List (Option DV)) (i j : Nat) (x : Option DV) (hi : i ≠ j) : gv (l.set i x) j = gv l j := by rw [gv_set, if_neg hi]
structure SmB (b : Bud) : Prop where
  ok : okB b
  f : b.fs.length ≤ 3
  t : b.to.length ≤ 3
  ts : ∀ u ∈ b.to, u.natAbs ≤ 1000
  cs : ∀ u ∈ b.cs, u.natAbs ≤ 1000
  y : b.y.natAbs ≤ 1000
theorem nm_of {x : D} (h : x ∈ nmsD) : ∃ n : Nm, x = En.en n ∧ True := by
  simp only [nmsD, List.mem_cons, List.not_mem_nil, or_false] at h
  rcases h with rfl | rfl | rfl <;> exact ⟨_, rfl, trivial⟩
theorem ar_of {x : D} (h : x ∈ arsD) : ∃ n : Ar, x = En.en n := by
  simp only [arsD, List.mem_cons, List.not_mem_nil, or_false] at h
  rcases h with rfl | rfl | rfl <;> exact ⟨_, rfl⟩
theorem wp_dr {s : S} {R : List O} {k : Int} {P : DV → List O → Prop} (h1 : gv s.l 1 = some (.o 1)) (hd : Dw s.m R) (hk : k < 1000000) (hP : ∀ r M', Dw M' R → (k < 1 → r = 0) → (1 ≤ k → 0 ≤ r ∧ r < k) → P (.p (.int r)) M') : wpB (mCallB 2 m_l_draw (aCons (mVar 1) (aCons (mC (.int k)) aNil)) s) P := by
  simp [h1]
  exact wp_draw hd hk hP
theorem wp_dg {s : S} {R : List O} {k : Int} {P : DV → List O → Prop} (h1 : gv s.l 1 = some (.o 1)) (hd : Dw s.m R) (hk : k < 1000000) (hP : ∀ (r : Int) M', Dw M' R → P (.p (.bl (decide (0 < r)))) M') : wpB (mBin dGt (mCallB 2 m_l_draw (aCons (mVar 1) (aCons (mC (.int k)) aNil))) (mC (.int 0)) s) P := by
  rw [e_bin, w_bnd]
  refine wp_dr h1 hd hk fun r M' d _ _ => ?_
  simp
  exact hP r M' d
theorem wp_pk {s : S} {R : List O} {j : Nat} {xs : List D} {P : DV → List O → Prop} (h1 : gv s.l 1 = some (.o 1)) (hj : gv s.l j = some (.p (.lst xs))) (hd : Dw s.m R) (h0 : xs ≠ []) (h2 : xs.length < 1000000) (hP : ∀ x M', Dw M' R → x ∈ xs → P (.p x) M') : wpB (mCallB 2 m_l_pick (aCons (mVar 1) (aCons (mVar j) aNil)) s) P := by
  simp [h1, hj]
  exact wp_pick hd h0 h2 hP
theorem bud_step {l : List (Option DV)} {M : List O} {bs : List Bud} (hs : SL l (.o 2)) (hd : Dw M [.lst ((bs.map bD).map .p)]) (hb : bs.length < 100) {Q : Fl → S → Prop}
    (hq : ∀ b l' M', SmB b → SL l' (.o 2) → Dw M' [.lst (((bs ++ [b]).map bD).map .p)] → Q .nx ⟨l', M'⟩) : wpS (bodyB ⟨l, M⟩) Q := by
  obtain ⟨ys, M1, e1, d1, r1, n1⟩ := compL_drawT (l := l.set 22 none) (g := gN 22) (t := mBin dGt (mCallB 2 m_l_draw (aCons (mVar 1) (aCons (mC (.int 3)) aNil))) (mC (.int 0))) (e := mVar 22) (Inv := fun M => Dw M [.lst ((bs.map bD).map .p)]) (R := fun y => ∃ n : Nm, y = En.en n) (nmsD.map .p) [] M hd (by simp) (by decide) (fun d hd M h => by
    obtain ⟨x, hx, rfl⟩ := List.mem_map.mp hd
    refine ⟨_, rfl, ?_⟩
    simp only [List.set_set]
    refine wp_dg (R := [.lst ((bs.map bD).map .p)]) (by dsimp only; rw [gv_other _ _ _ _ (by decide)]; exact hs.v1) h (by decide) fun r M' d' => ⟨_, rfl, d', fun _ => ?_⟩
    obtain ⟨n, hn, _⟩ := nm_of hx
    exact wpB_some (by rw [e_var]; dsimp only; rw [gv_same hs _ _ (by decide)]) ⟨x, rfl, ⟨n, hn⟩, d'⟩)
  obtain ⟨fs, rfl⟩ := list_of' r1
  have n1 : fs.length ≤ 3 := by simpa [nmsD] using n1
  have s1 := hs.set 6 (some (.p (.lst (fs.map En.en)))) (by decide)
  generalize hl1 : l.set 6 (some (.p (.lst (fs.map En.en)))) = l1 at s1
  have g6 : gv l1 6 = some (.p (.lst (fs.map En.en))) := by rw [← hl1]; exact gv_same hs _ _ (by decide)
  obtain ⟨ys, M2, e2, d2, r2, n2⟩ := compL_drawT (l := l1.set 16 none) (g := gN 16) (t := mBin dGt (mCallB 2 m_l_draw (aCons (mVar 1) (aCons (mC (.int 3)) aNil))) (mC (.int 0))) (e := mVar 16) (Inv := fun M => Dw M [.lst ((bs.map bD).map .p)]) (R := fun y => ∃ n : Int, y = .int n ∧ 0 ≤ n ∧ n < 3) (DL.intsFrom 0 3) [] M1 d1 (by simp) (by decide) (fun d hd M h => by
    obtain ⟨i, hi, rfl⟩ := mem_intsFrom hd
    refine ⟨_, rfl, ?_⟩
    simp only [List.set_set]
    refine wp_dg (R := [.lst ((bs.map bD).map .p)]) (by dsimp only; rw [gv_other _ _ _ _ (by decide)]; exact s1.v1) h (by decide) fun r M' d' => ⟨_, rfl, d', fun _ => ?_⟩
    exact wpB_some (by rw [e_var]; dsimp only; rw [gv_same s1 _ _ (by decide)]) ⟨_, rfl, ⟨_, rfl, by omega, by omega⟩, d'⟩)
  obtain ⟨to, rfl, ht⟩ := list_of (f := D.int) (p := fun n => 0 ≤ n ∧ n < 3) r2
  have n2 : to.length ≤ 3 := by simpa using n2
  have s2 := s1.set 7 (some (.p (.lst (to.map D.int)))) (by decide)
  generalize hl2 : l1.set 7 (some (.p (.lst (to.map D.int)))) = l2 at s2
  have g7 : gv l2 7 = some (.p (.lst (to.map D.int))) := by rw [← hl2]; exact gv_same s1 _ _ (by decide)
  have g6' : gv l2 6 = some (.p (.lst (fs.map En.en))) := by rw [← hl2, gv_other _ _ _ _ (by decide)]; exact g6
  obtain ⟨ys, M3, e3, d3, r3, n3⟩ := compL_draw (l := l2.set 16 none) (g := gN 16) (e := mCallB 2 m_l_draw (aCons (mVar 1) (aCons (mC (.int 4)) aNil))) (Inv := fun M => Dw M [.lst ((bs.map bD).map .p)]) (R := fun y => ∃ n : Int, y = .int n ∧ 0 ≤ n ∧ n < 4) ((to.map D.int).map .p) [] M2 d2 (by simp) (by simp; omega) (fun d hd M h => by
    refine ⟨_, rfl, ?_⟩
    refine wp_dr (R := [.lst ((bs.map bD).map .p)]) (by dsimp only; rw [gv_other _ _ _ _ (by decide), gv_other _ _ _ _ (by decide)]; exact s2.v1) h (by decide) fun r M' d' _ b => ⟨_, rfl, ⟨r, rfl, b (by decide)⟩, d'⟩)
  obtain ⟨cs, rfl, hc⟩ := list_of (f := D.int) (p := fun n => 0 ≤ n ∧ n < 4) r3
  have n3 : cs.length = to.length := by simpa using n3
  have s3 := s2.set 8 (some (.p (.lst (cs.map D.int)))) (by decide)
  generalize hl3 : l2.set 8 (some (.p (.lst (cs.map D.int)))) = l3 at s3
  have g8 : gv l3 8 = some (.p (.lst (cs.map D.int))) := by rw [← hl3]; exact gv_same s2 _ _ (by decide)
  have g7' : gv l3 7 = some (.p (.lst (to.map D.int))) := by rw [← hl3, gv_other _ _ _ _ (by decide)]; exact g7
  have g6'' : gv l3 6 = some (.p (.lst (fs.map En.en))) := by rw [← hl3, gv_other _ _ _ _ (by decide)]; exact g6'
  generalize hA : nmsD.map DV.p = A at e1
  have hA' : nmsD.map DV.p = A := hA
  generalize hB : (to.map D.int).map DV.p = B at e3
  simp only [bodyB, w_seq]
  rw [show sAsg (mLc (mItD itL (mVar 3)) [22] (gN 22) (mBin dGt (mCallB 2 m_l_draw (aCons (mVar 1) (aCons (mC (.int 3)) aNil))) (mC (.int 0))) (mVar 22)) (gN 6) ⟨l, M⟩ = some (.nx, ⟨l1, M1⟩) by
    rw [← hl1]; simp [sAsg, e_lift, e_bnd, hs.v3, hA', e1]]
  simp only [w_sok, w_andN, noX1, true_and, w_seq]
  rw [show sAsg (mLc (mRng rng1D (aCons (mC (.int 3)) aNil)) [16] (gN 16) (mBin dGt (mCallB 2 m_l_draw (aCons (mVar 1) (aCons (mC (.int 3)) aNil))) (mC (.int 0))) (mVar 16)) (gN 7) ⟨l1, M1⟩ = some (.nx, ⟨l2, M2⟩) by
    rw [← hl2]; simp [sAsg, e_lift, e_bnd, rngOk, e2]]
  simp only [w_sok, w_andN, noX1, true_and, w_seq]
  rw [show sAsg (mLc (mItD itL (mVar 7)) [16] (gN 16) tYesM (mCallB 2 m_l_draw (aCons (mVar 1) (aCons (mC (.int 4)) aNil)))) (gN 8) ⟨l2, M2⟩ = some (.nx, ⟨l3, M3⟩) by
    rw [← hl3]; simp only [sAsg, e_lift, e_bnd, e_lc, e_itD, e_var, g7, e_pur, e_itL, hB, e_wipe1, e_wipe0, e3]; rfl]
  simp only [w_sok, w_andN, noX1, true_and, w_seq]
  have hg2 := hd
  simp only [sExpr, w_lift, e_mth, w_bnd, e_var, s3.v4, w_ok]
  have m2 : M3[2]? = some (.lst ((bs.map bD).map .p)) := d3.get 0
  have tk : tyOk "list" M3 (.o 2) = true := by unfold tyOk; simp only [m2]; rfl
  rw [if_pos tk]
  simp only [w_bnd, e_aCons, e_disp]
  refine wp_pk (R := [.lst ((bs.map bD).map .p)]) s3.v1 s3.v2 d3 (by decide) (by decide) fun x M4 d4 hx => ?_
  obtain ⟨a, rfl⟩ := ar_of hx
  simp only [e_var, g6'', g7', g8, w_ok]
  refine wp_dr (R := [.lst ((bs.map bD).map .p)]) s3.v1 d4 (by decide) fun y M5 d5 _ hy => ?_
  have hy := hy (by decide)
  have m5 : M5[2]? = some (.lst ((bs.map bD).map .p)) := d5.get 0
  have hlen : ((bs.map bD).map DV.p).length < 1000000 := by simp; omega
  simp only [e_aNil, w_ok, e_allP1, e_allP0, Option.map_some]
  simp [gApp, m5, show bs.length < 1000000 by omega]
  have d6 := d5.set 0 (.lst ((bs.map bD).map DV.p ++ [.p (bD ⟨a, fs, to, y, cs⟩)]))
  refine hq ⟨a, fs, to, y, cs⟩ l3 _ ⟨n3, n1, n2, fun u hu => by have := ht u hu; omega, fun u hu => by have := hc u hu; omega, by show y.natAbs ≤ 1000; omega⟩ s3 ?_
  simpa [bD] using d6
end Law
namespace Law
open PySem L2 DL
def bsD (bs : List Bud) : DV := .p (.lst (bs.map bD))
structure SmR (r : Row) : Prop where
  u : r.u.natAbs ≤ 1000
  i : r.i.natAbs ≤ 1000
noncomputable def idxE : EM := (mIf (mBin dGt (mCallB 2 m_l_draw (aCons (mVar 1) (aCons (mC (.int 9)) aNil))) (mC (.int 0))) (mCallB 2 m_l_draw (aCons (mVar 1) (aCons (mCB dLen (aCons (mVar 4) aNil)) aNil))) (mCallB 2 m_l_pick (aCons (mVar 1) (aCons (disp .lst (aCons (mUn dNeg (mC (.int 1))) (aCons (mCB dLen (aCons (mVar 4) aNil)) aNil))) aNil))))
noncomputable def rowE : EM := (disp .tup (aCons (mCallB 2 m_l_draw (aCons (mVar 1) (aCons (mC (.int 3)) aNil))) (aCons (mCallB 2 m_l_pick (aCons (mVar 1) (aCons (mVar 3) aNil))) (aCons (mCallB 2 m_l_pick (aCons (mVar 1) (aCons (mVar 2) aNil))) (aCons (mVar 11) aNil)))))
noncomputable def tstE : EM := (mAnd (mBin dGt (mCB dLen (aCons (mVar 4) aNil)) (mC (.int 0))) (mAnd (mBin (dInR false) (mVar 11) (mCB (g1 dRng1) (aCons (mCB dLen (aCons (mVar 4) aNil)) aNil))) (mBin dGt (mCallB 2 m_l_draw (aCons (mVar 1) (aCons (mC (.int 6)) aNil))) (mC (.int 0)))))
theorem wp_idx {s : S} {R : List O} {bs : List Bud} {P : DV → List O → Prop} (hs : SL s.l (bsD bs)) (hd : Dw s.m R) (hb : bs.length < 100) (hP : ∀ (i : Int) M', Dw M' R → i.natAbs ≤ 1000 → P (.p (.int i)) M') : wpB (idxE s) P := by
  rw [idxE, e_ifE, w_bnd]
  refine wp_dg hs.v1 hd (by decide) fun r M1 d1 => ?_
  rw [w_ifM]
  have hv4 : gv s.l 4 = some (.p (.lst (bs.map bD))) := hs.v4
  refine ⟨fun _ => ?_, fun _ => ?_⟩
  · simp [hs.v1, hv4]
    refine wp_draw d1 (by omega) fun i M2 d2 h0 h1 => ?_
    refine hP i M2 d2 ?_
    by_cases h : (bs.length : Int) < 1
    · have := h0 h; omega
    · have := h1 (by omega); omega
  · simp [hs.v1, hv4]
    refine wp_pick d1 (by simp) (by simp) fun x M2 d2 hx => ?_
    simp only [List.mem_cons, List.not_mem_nil, or_false] at hx
    rcases hx with rfl | rfl
    · exact hP _ M2 d2 (by decide)
    · exact hP _ M2 d2 (by omega)
theorem wp_row {s : S} {R : List O} {bs : List Bud} {i : Int} {P : DV → List O → Prop} (hs : SL s.l (bsD bs)) (hd : Dw s.m R) (h11 : gv s.l 11 = some (.p (.int i))) (hi : i.natAbs ≤ 1000) (hP : ∀ (r : Row) M', Dw M' R → r.i = i → SmR r → P (.p (rD r)) M') : wpB (rowE s) P := by
  simp only [rowE, e_disp, w_bnd, e_aCons]
  refine wp_dr hs.v1 hd (by decide) fun u M1 d1 _ hu => ?_
  have hu := hu (by decide)
  refine wp_pk hs.v1 hs.v3 d1 (by decide) (by decide) fun x M2 d2 hx => ?_
  obtain ⟨f, rfl, _⟩ := nm_of hx
  refine wp_pk hs.v1 hs.v2 d2 (by decide) (by decide) fun x M3 d3 hx => ?_
  obtain ⟨a, rfl⟩ := ar_of hx
  simp [h11]
  exact hP ⟨u, f, a, i⟩ M3 d3 rfl ⟨by show u.natAbs ≤ 1000; omega, hi⟩
theorem wp_tst {s : S} {R : List O} {bs : List Bud} {i : Int} {P : DV → List O → Prop} (hs : SL s.l (bsD bs)) (hd : Dw s.m R) (h11 : gv s.l 11 = some (.p (.int i))) (hP : ∀ (b : Bool) M', Dw M' R → (b = true → 0 ≤ i ∧ i < bs.length) → P (.p (.bl b)) M') : wpB (tstE s) P := by
  have hv4 : gv s.l 4 = some (.p (.lst (bs.map bD))) := hs.v4
  simp only [tstE, e_and, w_bnd]
  simp [hv4, h11]
  refine ⟨fun h0 => ⟨fun h1 h2 => ?_, fun h1 => hP false _ hd (by simp)⟩, fun h0 => hP false _ hd (by simp)⟩
  simp [hs.v1]
  refine wp_draw hd (by decide) fun r M1 d1 _ _ => ?_
  simp
  exact hP _ M1 d1 fun _ => ⟨h1, h2⟩
theorem w_asgN {m : EM} {i : Nat} {s : S} {P : Fl → S → Prop} : wpS (sAsg m (gN i) s) P ↔ wpB (m s) fun v M => P .nx ⟨s.l.set i (some v), M⟩ := by simp [sAsg]
noncomputable def tg5 : GM := (gT 5 (gsCons (gN 13) (gsCons (gN 6) (gsCons (gN 7) (gsCons (gN 14) (gsCons (gN 8) gsNil))))))
noncomputable def lenE : EM := (mAnd (mBin dGt (mCB dLen (aCons (mVar 6) aNil)) (mC (.int 0))) (mBin dGt (mCB dLen (aCons (mVar 7) aNil)) (mC (.int 0))))
noncomputable def row2E : EM := (disp .tup (aCons (mCallB 2 m_l_pick (aCons (mVar 1) (aCons (mVar 7) aNil))) (aCons (mCallB 2 m_l_pick (aCons (mVar 1) (aCons (mVar 6) aNil))) (aCons (mVar 13) (aCons (mVar 11) aNil)))))
noncomputable def appS : SM := (sExpr (mMth "list" gApp (mVar 10) (aCons (mVar 12) aNil)))
theorem bodyL_eq : bodyL = sSeq (sAsg idxE (gN 11)) (sSeq (sAsg rowE (gN 12)) (sSeq (sIf tstE (sSeq (sAsg (mIx (mVar 4) (mVar 11)) tg5) (sIf lenE (sAsg row2E (gN 12)) sNil)) sNil) appS)) := rfl
theorem app_step {l : List (Option DV)} {M R : List O} {bs : List Bud} {rows : List Row} {r : Row} (hs : SL l (bsD bs)) (h10 : gv l 10 = some (.o (2 + R.length))) (h12 : gv l 12 = some (.p (rD r))) (hd : Dw M (R ++ [.lst ((rows.map rD).map .p)])) (hr : rows.length < 1000) {Q : Fl → S → Prop}
    (hq : ∀ M', Dw M' (R ++ [.lst (((rows ++ [r]).map rD).map .p)]) → Q .nx ⟨l, M'⟩) : wpS (appS ⟨l, M⟩) Q := by
  have m := hd.get R.length
  rw [List.getElem?_append_right (Nat.le_refl _), Nat.sub_self] at m
  have m : M[2 + R.length]? = some (.lst ((rows.map rD).map .p)) := m
  have tk : tyOk "list" M (.o (2 + R.length)) = true := by unfold tyOk; simp only [m]; rfl
  have d2 := hd.set R.length (.lst ((rows.map rD).map DV.p ++ [.p (rD r)]))
  rw [List.set_append_right _ _ (Nat.le_refl _), Nat.sub_self] at d2
  simp only [appS, sExpr, w_lift, e_mth, w_bnd, e_var, h10, w_ok]
  rw [if_pos tk]
  simp only [w_bnd, e_aCons, e_var, h12, w_ok, e_aNil]
  have e : gApp (.o (2 + R.length)) [.p (rD r)] ⟨l, M⟩ = some (.ok (.p .non) (M.set (2 + R.length) (.lst ((rows.map rD).map DV.p ++ [.p (rD r)])))) := by
    unfold gApp
    simp only [m]
    rw [if_pos (by simp; omega)]
  rw [e, w_ok, w_sok]
  refine ⟨rfl, hq _ ?_⟩
  simpa using d2
theorem led_step {l : List (Option DV)} {M R : List O} {bs : List Bud} {rows : List Row} (hs : SL l (bsD bs)) (h10 : gv l 10 = some (.o (2 + R.length))) (hd : Dw M (R ++ [.lst ((rows.map rD).map .p)])) (hb : bs.length < 100) (hm : ∀ b ∈ bs, SmB b) (hr : rows.length < 1000) {Q : Fl → S → Prop}
    (hq : ∀ r l' M', SmR r → SL l' (bsD bs) → gv l' 10 = some (.o (2 + R.length)) → Dw M' (R ++ [.lst (((rows ++ [r]).map rD).map .p)]) → Q .nx ⟨l', M'⟩) : wpS (bodyL ⟨l, M⟩) Q := by
  rw [bodyL_eq, w_seq, w_asgN]
  refine wp_idx hs hd hb fun i M1 d1 hi => ?_
  have s1 := hs.set 11 (some (.p (.int i))) (by decide)
  rw [w_andN, w_seq, w_asgN]
  refine wp_row s1 d1 (gv_same hs 11 _ (by decide)) hi fun r M2 d2 ri sr => ?_
  have s2 := s1.set 12 (some (.p (rD r))) (by decide)
  have a10 : gv ((l.set 11 (some (.p (.int i)))).set 12 (some (.p (rD r)))) 10 = some (.o (2 + R.length)) := by rw [gv_other _ _ _ _ (by decide), gv_other _ _ _ _ (by decide)]; exact h10
  have a11 : gv ((l.set 11 (some (.p (.int i)))).set 12 (some (.p (rD r)))) 11 = some (.p (.int i)) := by rw [gv_other _ _ _ _ (by decide)]; exact gv_same hs _ _ (by decide)
  have a12 : gv ((l.set 11 (some (.p (.int i)))).set 12 (some (.p (rD r)))) 12 = some (.p (rD r)) := gv_same s1 _ _ (by decide)
  generalize (l.set 11 (some (.p (.int i)))).set 12 (some (.p (rD r))) = l2 at s2 a10 a11 a12
  rw [w_andN, w_seq, sIf, w_lift]
  refine wp_tst s2 d2 a11 fun b M3 d3 hbt => ?_
  rw [w_ifS]
  refine ⟨fun hb1 => ?_, fun _ => ?_⟩
  · obtain ⟨i0, i1⟩ := hbt hb1
    obtain ⟨bb, _, mb, eb⟩ := get_bud i0 i1
    have smb := hm bb mb
    have hv4 : gv l2 4 = some (.p (.lst (bs.map bD))) := s2.v4
    rw [w_seq]
    have ea : sAsg (mIx (mVar 4) (mVar 11)) tg5 ⟨l2, M3⟩ = some (.nx, ⟨((((l2.set 13 (some (.p (En.en bb.a)))).set 6 (some (.p (.lst (bb.fs.map En.en))))).set 7 (some (.p (.lst (bb.to.map D.int))))).set 14 (some (.p (.int bb.y)))).set 8 (some (.p (.lst (bb.cs.map D.int)))), M3⟩) := by
      have e1 : ixM M3 (.p (.lst (bs.map bD))) i = some (.p (bD bb)) := by rw [e_ixp, e_ixl, eb]; rfl
      simp only [sAsg, e_lift, e_ix, e_bnd, e_var, hv4, a11, e_pur, e_ixK, e1]
      rfl
    rw [ea, w_sok]
    have s3 := ((((s2.set 13 (some (.p (En.en bb.a))) (by decide)).set 6 (some (.p (.lst (bb.fs.map En.en)))) (by decide)).set 7 (some (.p (.lst (bb.to.map D.int)))) (by decide)).set 14 (some (.p (.int bb.y))) (by decide)).set 8 (some (.p (.lst (bb.cs.map D.int)))) (by decide)
    have b10 : gv (((((l2.set 13 (some (.p (En.en bb.a)))).set 6 (some (.p (.lst (bb.fs.map En.en))))).set 7 (some (.p (.lst (bb.to.map D.int))))).set 14 (some (.p (.int bb.y)))).set 8 (some (.p (.lst (bb.cs.map D.int))))) 10 = some (.o (2 + R.length)) := by simp [gv_set, a10]
    have b11 : gv (((((l2.set 13 (some (.p (En.en bb.a)))).set 6 (some (.p (.lst (bb.fs.map En.en))))).set 7 (some (.p (.lst (bb.to.map D.int))))).set 14 (some (.p (.int bb.y)))).set 8 (some (.p (.lst (bb.cs.map D.int))))) 11 = some (.p (.int i)) := by simp [gv_set, a11]
    have b12 : gv (((((l2.set 13 (some (.p (En.en bb.a)))).set 6 (some (.p (.lst (bb.fs.map En.en))))).set 7 (some (.p (.lst (bb.to.map D.int))))).set 14 (some (.p (.int bb.y)))).set 8 (some (.p (.lst (bb.cs.map D.int))))) 12 = some (.p (rD r)) := by simp [gv_set, a12]
    have b6 : gv (((((l2.set 13 (some (.p (En.en bb.a)))).set 6 (some (.p (.lst (bb.fs.map En.en))))).set 7 (some (.p (.lst (bb.to.map D.int))))).set 14 (some (.p (.int bb.y)))).set 8 (some (.p (.lst (bb.cs.map D.int))))) 6 = some (.p (.lst (bb.fs.map En.en))) := by simp [gv_set, s2.len]
    have b7 : gv (((((l2.set 13 (some (.p (En.en bb.a)))).set 6 (some (.p (.lst (bb.fs.map En.en))))).set 7 (some (.p (.lst (bb.to.map D.int))))).set 14 (some (.p (.int bb.y)))).set 8 (some (.p (.lst (bb.cs.map D.int))))) 7 = some (.p (.lst (bb.to.map D.int))) := by simp [gv_set, s2.len]
    have b13 : gv (((((l2.set 13 (some (.p (En.en bb.a)))).set 6 (some (.p (.lst (bb.fs.map En.en))))).set 7 (some (.p (.lst (bb.to.map D.int))))).set 14 (some (.p (.int bb.y)))).set 8 (some (.p (.lst (bb.cs.map D.int))))) 13 = some (.p (En.en bb.a)) := by simp [gv_set, s2.len]
    generalize ((((l2.set 13 (some (.p (En.en bb.a)))).set 6 (some (.p (.lst (bb.fs.map En.en))))).set 7 (some (.p (.lst (bb.to.map D.int))))).set 14 (some (.p (.int bb.y)))).set 8 (some (.p (.lst (bb.cs.map D.int)))) = l3 at s3 b10 b11 b12 b6 b7 b13
    refine ⟨rfl, ?_⟩
    rw [w_andN, sIf, w_lift]
    have el : ∃ c, lenE ⟨l3, M3⟩ = some (.ok (.p (.bl c)) M3) ∧ (c = true → bb.fs ≠ [] ∧ bb.to ≠ []) := by
      by_cases h1 : 0 < bb.fs.length
      · by_cases h2 : 0 < bb.to.length
        · exact ⟨true, by simp [lenE, e_bnd, b6, b7, h1, h2], fun _ => ⟨List.length_pos_iff.mp h1, List.length_pos_iff.mp h2⟩⟩
        · exact ⟨false, by simp [lenE, e_bnd, b6, b7, h1, h2], by simp⟩
      · exact ⟨false, by simp [lenE, e_bnd, b6, b7, h1], by simp⟩
    obtain ⟨c, el, hc⟩ := el
    rw [el, w_ok, w_ifS]
    refine ⟨fun hc1 => ?_, fun _ => ?_⟩
    · obtain ⟨nf, nt⟩ := hc hc1
      rw [w_asgN]
      simp only [row2E, e_disp, w_bnd, e_aCons]
      refine wp_pk s3.v1 b7 d3 (by simpa using nt) (by have := smb.t; simp; omega) fun x M4 d4 hx => ?_
      obtain ⟨u, hu, rfl⟩ := List.mem_map.mp hx
      refine wp_pk s3.v1 b6 d4 (by simpa using nf) (by have := smb.f; simp; omega) fun x M5 d5 hx => ?_
      obtain ⟨f, hf, rfl⟩ := List.mem_map.mp hx
      simp only [e_var, b13, b11, w_ok, e_aNil, e_allP1, e_allP0, Option.map_some]
      rw [if_pos (by simp), w_ok, w_andN]
      have s4 := s3.set 12 (some (.p (rD ⟨u, f, bb.a, i⟩))) (by decide)
      exact app_step s4 (by rw [gv_other _ _ _ _ (by decide)]; exact b10) (gv_same s3 _ _ (by decide)) d5 hr fun M6 d6 => hq _ _ M6 ⟨smb.ts u hu, hi⟩ s4 (by rw [gv_other _ _ _ _ (by decide)]; exact b10) d6
    · rw [show sNil ⟨l3, M3⟩ = some (.nx, ⟨l3, M3⟩) from rfl, w_sok, w_andN]
      exact ⟨rfl, app_step s3 b10 b12 d3 hr fun M6 d6 => hq _ _ M6 sr s3 b10 d6⟩
  · rw [show sNil ⟨l2, M3⟩ = some (.nx, ⟨l2, M3⟩) from rfl, w_sok, w_andN]
    exact ⟨rfl, app_step s2 a10 a12 d3 hr fun M6 d6 => hq _ _ M6 sr s2 a10 d6⟩
end Law
namespace Law
open PySem L2 DL
theorem ar_rb : ∀ a : Fin 3, rb (arD a) ≤ 500 := by decide +kernel
theorem ar_sh : ∀ a : Fin 3, showD (arD a) = true := by decide +kernel
theorem nm_rb : ∀ a : Fin 3, rb (.str (nmS a)) ≤ 100 := by decide +kernel
theorem sm_ar (a : Ar) : Sm 2 500 (En.en a) := ⟨ar_ok a.i, ar_dp a.i, ar_sh a.i, ar_rb a.i⟩
theorem sm_nm (a : Nm) : Sm 0 100 (En.en a) := ⟨nm_ok a.i, Nat.le_refl _, rfl, nm_rb a.i⟩
theorem sm_int {i : Int} (h : i.natAbs ≤ 1000) : Sm 0 100 (.int i) := Sm.int (by omega) (Nat.le_refl _)
theorem sm_l3 {l : List D} (h : ∀ d ∈ l, Sm 0 100 d) (hl : l.length ≤ 3) : Sm 2 500 (.lst l) := (Sm.lst h (v := 500) (by omega)).mono (by decide) (Nat.le_refl _)
theorem sm_b {b : Bud} (h : SmB b) : Sm 3 2600 (bD b) := by
  refine Sm.tup (n := 2) (w := 500) (fun d hd => ?_) (by simp)
  simp only [List.mem_cons, List.not_mem_nil, or_false] at hd
  rcases hd with rfl | rfl | rfl | rfl | rfl
  · exact sm_ar b.a
  · refine sm_l3 (fun d hd => ?_) (by simpa using h.f)
    obtain ⟨n, _, rfl⟩ := List.mem_map.mp hd
    exact sm_nm n
  · refine sm_l3 (fun d hd => ?_) (by simpa using h.t)
    obtain ⟨n, hn, rfl⟩ := List.mem_map.mp hd
    exact sm_int (h.ts n hn)
  · exact (sm_int h.y).mono (by decide) (by decide)
  · refine sm_l3 (fun d hd => ?_) (by have := h.t; have := h.ok; unfold okB at this; simp; omega)
    obtain ⟨n, hn, rfl⟩ := List.mem_map.mp hd
    exact sm_int (h.cs n hn)
theorem sm_r {r : Row} (h : SmR r) : Sm 3 2600 (rD r) := by
  refine Sm.tup (n := 2) (w := 500) (fun d hd => ?_) (by simp)
  simp only [List.mem_cons, List.not_mem_nil, or_false] at hd
  rcases hd with rfl | rfl | rfl | rfl
  · exact (sm_int h.u).mono (by decide) (by decide)
  · exact (sm_nm _).mono (by decide) (by decide)
  · exact sm_ar r.a
  · exact (sm_int h.i).mono (by decide) (by decide)
theorem sm_both {bs : List Bud} {rows : List Row} (h1 : ∀ b ∈ bs, SmB b) (h2 : ∀ r ∈ rows, SmR r) (l1 : bs.length ≤ 10) (l2 : rows.length ≤ 10) : Sm 5 60000 (.lst [.lst (bs.map bD), .lst (rows.map rD)]) := by
  refine Sm.lst (n := 4) (w := 27000) (fun d hd => ?_) (by simp)
  simp only [List.mem_cons, List.not_mem_nil, or_false] at hd
  rcases hd with rfl | rfl
  · refine Sm.lst (n := 3) (w := 2600) (fun d hd => ?_) (by simp; omega)
    obtain ⟨b, hb, rfl⟩ := List.mem_map.mp hd
    exact sm_b (h1 b hb)
  · refine Sm.lst (n := 3) (w := 2600) (fun d hd => ?_) (by simp; omega)
    obtain ⟨b, hb, rfl⟩ := List.mem_map.mp hd
    exact sm_r (h2 b hb)
/-! what is due, in the law -/
noncomputable def tg4 : GM := gT 4 (gsCons (gN 16) (gsCons (gN 17) (gsCons (gN 18) (gsCons (gN 11) gsNil))))
def rowP (r : Row) : DV → Bool
  | .p (.tup [.int u, _, _, .int i]) => decide (i = r.i) && decide (u = r.u)
  | _ => false
def unP : DV → D
  | .p d => d
  | _ => .non
theorem filter_len (r : Row) : ∀ rows : List Row, ((((rows.map rD).map DV.p).filter (rowP r)).map unP).length = cnt rows r
  | [] => rfl
  | x :: xs => by
    have ih := filter_len r xs
    unfold cnt at ih ⊢
    rw [List.map_cons, List.map_cons, List.filter_cons, List.filter_cons]
    have e : rowP r (.p (rD x)) = same r x := rfl
    rw [e]
    split
    · rw [List.map_cons, List.length_cons, List.length_cons, ih]
    · exact ih
structure DL5 (l : List (Option DV)) (bs : List Bud) (rows : List Row) (d : Bool) : Prop where
  s : SL l (bsD bs)
  led : gv l 10 = some (.p (.lst (rows.map rD)))
  due : gv l 15 = some (.p (.bl d))
theorem due_step {l : List (Option DV)} {M : List O} {bs : List Bud} {rows : List Row} {d : Bool} (h : DL5 l bs rows d) (hm : ∀ b ∈ bs, SmB b) (hr : rows.length ≤ 1000) (r : Row) :
    ∃ l1 l', tg4 (.p (rD r)) ⟨l, M⟩ = some ⟨l1, M⟩ ∧ bodyD ⟨l1, M⟩ = some (.nx, ⟨l', M⟩) ∧ DL5 l' bs rows (d && due bs rows r) := by
  refine ⟨((((l.set 16 (some (.p (.int r.u)))).set 17 (some (.p (En.en r.f)))).set 18 (some (.p (En.en r.a)))).set 11 (some (.p (.int r.i)))), ?_⟩
  have s1 := (((h.s.set 16 (some (.p (.int r.u))) (by decide)).set 17 (some (.p (En.en r.f))) (by decide)).set 18 (some (.p (En.en r.a))) (by decide)).set 11 (some (.p (.int r.i))) (by decide)
  have b10 : gv ((((l.set 16 (some (.p (.int r.u)))).set 17 (some (.p (En.en r.f)))).set 18 (some (.p (En.en r.a)))).set 11 (some (.p (.int r.i)))) 10 = some (.p (.lst (rows.map rD))) := by simp [gv_set, h.led]
  have b15 : gv ((((l.set 16 (some (.p (.int r.u)))).set 17 (some (.p (En.en r.f)))).set 18 (some (.p (En.en r.a)))).set 11 (some (.p (.int r.i)))) 15 = some (.p (.bl d)) := by simp [gv_set, h.due]
  have b11 : gv ((((l.set 16 (some (.p (.int r.u)))).set 17 (some (.p (En.en r.f)))).set 18 (some (.p (En.en r.a)))).set 11 (some (.p (.int r.i)))) 11 = some (.p (.int r.i)) := by simp [gv_set, h.s.len]
  have b16 : gv ((((l.set 16 (some (.p (.int r.u)))).set 17 (some (.p (En.en r.f)))).set 18 (some (.p (En.en r.a)))).set 11 (some (.p (.int r.i)))) 16 = some (.p (.int r.u)) := by simp [gv_set, h.s.len]
  have b17 : gv ((((l.set 16 (some (.p (.int r.u)))).set 17 (some (.p (En.en r.f)))).set 18 (some (.p (En.en r.a)))).set 11 (some (.p (.int r.i)))) 17 = some (.p (En.en r.f)) := by simp [gv_set, h.s.len]
  have b18 : gv ((((l.set 16 (some (.p (.int r.u)))).set 17 (some (.p (En.en r.f)))).set 18 (some (.p (En.en r.a)))).set 11 (some (.p (.int r.i)))) 18 = some (.p (En.en r.a)) := by simp [gv_set, h.s.len]
  have et : tg4 (.p (rD r)) ⟨l, M⟩ = some ⟨((((l.set 16 (some (.p (.int r.u)))).set 17 (some (.p (En.en r.f)))).set 18 (some (.p (En.en r.a)))).set 11 (some (.p (.int r.i)))), M⟩ := rfl
  rw [et]
  generalize ((((l.set 16 (some (.p (.int r.u)))).set 17 (some (.p (En.en r.f)))).set 18 (some (.p (En.en r.a)))).set 11 (some (.p (.int r.i)))) = l1 at s1 b10 b15 b11 b16 b17 b18
  have hv4 : gv l1 4 = some (.p (.lst (bs.map bD))) := s1.v4
  have fin : ∀ c : Bool, c = (d && due bs rows r) → DL5 (l1.set 15 (some (.p (.bl c)))) bs rows (d && due bs rows r) := fun c hc => ⟨s1.set 15 _ (by decide), by rw [gv_other _ _ _ _ (by decide)]; exact b10, by rw [gv_same s1 _ _ (by decide), hc]⟩
  by_cases hi : 0 ≤ r.i ∧ r.i < bs.length
  · obtain ⟨b, e1, mb, e2⟩ := get_bud hi.1 hi.2
    have sb := hm b mb
    have ef : fits bs r = fitsB b r.u r.f r.a := by unfold fits; rw [e1, decide_eq_true hi]; rfl
    have q1 := eqD_en b.a r.a (by decide)
    have q2 := inD_en r.f b.fs (by decide)
    have q3 : inD (.int r.u) (.lst (b.to.map D.int)) = some (decide (r.u ∈ b.to)) := inD_en (α := Int) r.u b.to (by decide)
    by_cases hf : fitsB b r.u r.f r.a = true
    · have hf2 := hf
      unfold fitsB at hf2
      rw [Bool.and_eq_true, Bool.and_eq_true, decide_eq_true_eq, decide_eq_true_eq, decide_eq_true_eq] at hf2
      obtain ⟨ha, hfn, hu⟩ := hf2
      have em : mst bs r = most b r.u := by unfold mst; rw [e1]
      have hp := pl_lt r.u b.to hu
      have hl := sb.ok
      unfold okB at hl
      have hc : b.cs[pl r.u b.to]? = some (b.cs[pl r.u b.to]'(by omega)) := List.getElem?_eq_getElem (by omega)
      have c1 : atI (b.cs.map D.int) ((pl r.u b.to : Nat) : Int) = some (.int (most b r.u)) := by
        refine atI_nat' (Int.natCast_nonneg _) ?_
        rw [Int.toNat_natCast, List.getElem?_map, hc]
        unfold most
        rw [hc]; rfl
      have c2 := pl_find r.u b.to 0 hu
      rw [Nat.zero_add] at c2
      have hfl := flat_ints b.to
      have s2 := s1.set 19 (some (.p (.int (most b r.u)))) (by decide)
      have lc : ∀ l2 : List (Option DV), l2.length = 23 → gv l2 11 = some (.p (.int r.i)) → gv l2 16 = some (.p (.int r.u)) → compL (l2.set 12 none) (gN 12) (mAnd (mBin dEq (mIx (mVar 12) (mC (.int 3))) (mVar 11)) (mBin dEq (mIx (mVar 12) (mC (.int 0))) (mVar 16))) (mVar 12) ((rows.map rD).map .p) [] M = some ((((rows.map rD).map DV.p).filter (rowP r)).map unP, M) := by
        intro l2 hl2 h11 h16
        have := compL_fm (l := l2.set 12 none) (g := gN 12) (t := mAnd (mBin dEq (mIx (mVar 12) (mC (.int 3))) (mVar 11)) (mBin dEq (mIx (mVar 12) (mC (.int 0))) (mVar 16))) (e := mVar 12) (p := rowP r) (f := unP) (M := M) ((rows.map rD).map .p) [] (fun x hx => by
          rw [List.map_map] at hx
          obtain ⟨y, _, rfl⟩ := List.mem_map.mp hx
          refine ⟨_, rfl, ?_, fun _ => ?_⟩
          · have z12 : gv ((l2.set 12 none).set 12 (some (.p (rD y)))) 12 = some (.p (rD y)) := by simp [gv_set, hl2]
            have z11 : gv ((l2.set 12 none).set 12 (some (.p (rD y)))) 11 = some (.p (.int r.i)) := by simp [gv_set, h11]
            have z16 : gv ((l2.set 12 none).set 12 (some (.p (rD y)))) 16 = some (.p (.int r.u)) := by simp [gv_set, h16]
            show mAnd _ _ ⟨(l2.set 12 none).set 12 (some (.p (rD y))), M⟩ = some (.ok (.p (.bl (decide (y.i = r.i) && decide (y.u = r.u)))) M)
            generalize (l2.set 12 none).set 12 (some (.p (rD y))) = l3 at z12 z11 z16
            by_cases c : y.i = r.i <;> simp [e_bnd, z12, z11, z16, rD, c]
          · simp [gv_set, hl2, unP]) (by simp; omega)
        simpa using this
      have lc := lc (l1.set 19 (some (.p (.int (most b r.u))))) (by simpa using s1.len) (by simp [gv_set, b11]) (by simp [gv_set, b16])
      have fl := filter_len r rows
      generalize hF : (((rows.map rD).map DV.p).filter (rowP r)).map unP = F at lc fl
      have z10 : gv (l1.set 19 (some (.p (.int (most b r.u))))) 10 = some (.p (.lst (rows.map rD))) := by simp [gv_set, b10]
      have z15 : gv (l1.set 19 (some (.p (.int (most b r.u))))) 15 = some (.p (.bl d)) := by simp [gv_set, b15]
      have z19 : gv (l1.set 19 (some (.p (.int (most b r.u))))) 19 = some (.p (.int (most b r.u))) := by simp [gv_set, s1.len]
      have s2 := s1.set 19 (some (.p (.int (most b r.u)))) (by decide)
      refine ⟨(l1.set 19 (some (.p (.int (most b r.u))))).set 15 (some (.p (.bl (d && decide ((cnt rows r : Int) ≤ most b r.u))))), rfl, ?_, ?_⟩
      · have ebd : bD b = .tup [En.en b.a, .lst (b.fs.map En.en), .lst (b.to.map D.int), .int b.y, .lst (b.cs.map D.int)] := rfl
        generalize hG : (rows.map rD).map DV.p = G at lc
        rw [decide_eq_true ha] at q1
        rw [decide_eq_true hfn] at q2
        rw [decide_eq_true hu] at q3
        cases d with
        | true => simp [bodyD, e_bnd, e_seq, e_lift, sIf, sAsg, hv4, b11, b16, b17, b18, hi.1, hi.2, e2, ebd, q1, q2, q3, hfl, c2, c1, z10, z15, z19, mFrz, hG, lc, fl]
        | false => simp [bodyD, e_bnd, e_seq, e_lift, sIf, sAsg, hv4, b11, b16, b17, b18, hi.1, hi.2, e2, ebd, q1, q2, q3, hfl, c2, c1, z10, z15, z19, mFrz]
      · have ed : due bs rows r = decide ((cnt rows r : Int) ≤ most b r.u) := by unfold due; rw [ef, hf, em]; rfl
        rw [ed]
        exact ⟨s2.set 15 _ (by decide), by rw [gv_other _ _ _ _ (by decide)]; exact z10, by rw [gv_same s2 _ _ (by decide)]⟩
    · have hf' : fitsB b r.u r.f r.a = false := by simpa using hf
      have ed : due bs rows r = false := by unfold due; rw [ef, hf']; rfl
      refine ⟨l1.set 15 (some (.p (.bl false))), rfl, ?_, fin _ (by rw [ed]; simp)⟩
      have ebd : bD b = .tup [En.en b.a, .lst (b.fs.map En.en), .lst (b.to.map D.int), .int b.y, .lst (b.cs.map D.int)] := rfl
      unfold fitsB at hf'
      by_cases h1 : b.a = r.a
      · by_cases h2 : r.f ∈ b.fs
        · have h3 : r.u ∉ b.to := by simpa [h1, h2] using hf'
          rw [decide_eq_true h1] at q1
          rw [decide_eq_true h2] at q2
          rw [decide_eq_false h3] at q3
          simp [bodyD, e_bnd, e_seq, e_lift, sIf, sAsg, hv4, b11, b16, b17, b18, hi.1, hi.2, e2, ebd, q1, q2, q3]
        · rw [decide_eq_true h1] at q1
          rw [decide_eq_false h2] at q2
          simp [bodyD, e_bnd, e_seq, e_lift, sIf, sAsg, hv4, b11, b16, b17, b18, hi.1, hi.2, e2, ebd, q1, q2, q3]
      · rw [decide_eq_false h1] at q1
        simp [bodyD, e_bnd, e_seq, e_lift, sIf, sAsg, hv4, b11, b16, b17, b18, hi.1, hi.2, e2, ebd, q1, q2, q3]
  · have ed : due bs rows r = false := by unfold due fits; rw [decide_eq_false hi]; rfl
    refine ⟨l1.set 15 (some (.p (.bl false))), rfl, ?_, fin _ (by rw [ed]; simp)⟩
    by_cases h0 : 0 ≤ r.i
    · have h1 : ¬ r.i < bs.length := fun z => hi ⟨h0, z⟩
      simp [bodyD, e_bnd, e_seq, e_lift, sIf, sAsg, hv4, b11, h0, h1]
    · simp [bodyD, e_bnd, e_seq, e_lift, sIf, sAsg, hv4, b11, h0]
end Law
namespace Law
open PySem L2 DL
theorem due_loop {bs : List Bud} {rows : List Row} (hm : ∀ b ∈ bs, SmB b) (hr : rows.length ≤ 1000) (M : List O) : ∀ (rs : List Row) (l : List (Option DV)) (d : Bool), DL5 l bs rows d →
    ∃ l', loopS tg4 bodyD ((rs.map rD).map .p) ⟨l, M⟩ = some (.nx, ⟨l', M⟩) ∧ DL5 l' bs rows (d && rs.all (due bs rows))
  | [], l, d, h => ⟨l, rfl, by simpa using h⟩
  | r :: rs, l, d, h => by
    obtain ⟨l1, l2, e1, e2, h2⟩ := due_step (M := M) h hm hr r
    obtain ⟨l', e3, h3⟩ := due_loop hm hr M rs l2 _ h2
    refine ⟨l', ?_, by rw [List.all_cons, ← Bool.and_assoc]; exact h3⟩
    rw [List.map_cons, List.map_cons, loopS_cons, e1]
    dsimp only
    rw [e2]
    exact e3
noncomputable def keptE : EM := (mCB (g1 dRepr) (aCons (disp .lst (aCons (mFrz (mVar 4)) (aCons (mFrz (mVar 10)) aNil))) aNil))
noncomputable def endS : SM := (sSeq (sAsg keptE (gN 20)) (sSeq (sAsg (mCallA 2 m_ledger_right (aCons (mFrz (mVar 4)) (aCons (mFrz (mVar 10)) aNil))) (gN 21))
  (sIf (mOr (mNot (mTru (mCB dIsi (aCons (mVar 21) (aCons (mC (.ty "bool")) aNil))))) (mOr (mBin dNe (mVar 21) (mVar 15)) (mBin dNe keptE (mVar 20)))) (sRet (mC (.bl false))) sNil)))
theorem bodyT_eq : bodyT = sSeq (sAsg (dispO aNil) (gN 10)) (sSeq (sFor (mRng rng1D (aCons (mCallB 2 m_l_draw (aCons (mVar 1) (aCons (mC (.int 9)) aNil))) aNil)) (gN 5) bodyL)
  (sSeq (sFrz 10) (sSeq (sAsg (mC (.bl true)) (gN 15)) (sSeq (sFor (mItD itL (mFrz (mVar 10))) tg4 bodyD) endS)))) := rfl
theorem kit_bb : kitB "bool" "bool" = some true := by decide +kernel
theorem end_ok {l : List (Option DV)} {M : List O} {bs : List Bud} {rows : List Row} (h : DL5 l bs rows (rows.all (due bs rows))) (h1 : ∀ b ∈ bs, SmB b) (h2 : ∀ r ∈ rows, SmR r) (l1 : bs.length ≤ 10) (l2 : rows.length ≤ 10) :
    ∃ l', endS ⟨l, M⟩ = some (.nx, ⟨l', M⟩) ∧ SL l' (bsD bs) := by
  have hv4 : gv l 4 = some (.p (.lst (bs.map bD))) := h.s.v4
  have rp := (sm_both h1 h2 l1 l2).repr (by decide) (by decide)
  have rs := right_spec bs (fun b hb => (h1 b hb).ok) rows (by omega)
  generalize rows.all (due bs rows) = t at h rs
  have kp : ∀ l, gv l 4 = some (.p (.lst (bs.map bD))) → gv l 10 = some (.p (.lst (rows.map rD))) → keptE ⟨l, M⟩ = some (.ok (.p (.str (reprD (.lst [.lst (bs.map bD), .lst (rows.map rD)])))) M) := by
    intro l a b
    simp [keptE, e_bnd, mFrz, a, b, rp]
  generalize hz : reprD (.lst [.lst (bs.map bD), .lst (rows.map rD)]) = z at kp
  have s1 := (h.s.set 20 (some (.p (.str z))) (by decide)).set 21 (some (.p (.bl t))) (by decide)
  refine ⟨_, ?_, s1⟩
  have k0 := kp l hv4 h.led
  have c4 : gv (l.set 20 (some (.p (.str z)))) 4 = some (.p (.lst (bs.map bD))) := by simp [gv_set, hv4]
  have c10 : gv (l.set 20 (some (.p (.str z)))) 10 = some (.p (.lst (rows.map rD))) := by simp [gv_set, h.led]
  have k2 := kp ((l.set 20 (some (.p (.str z)))).set 21 (some (.p (.bl t)))) (by simp [gv_set, hv4]) (by simp [gv_set, h.led])
  have c21 : gv ((l.set 20 (some (.p (.str z)))).set 21 (some (.p (.bl t)))) 21 = some (.p (.bl t)) := by simp [gv_set, h.s.len]
  have c15 : gv ((l.set 20 (some (.p (.str z)))).set 21 (some (.p (.bl t)))) 15 = some (.p (.bl t)) := by simp [gv_set, h.due]
  have c20 : gv ((l.set 20 (some (.p (.str z)))).set 21 (some (.p (.bl t)))) 20 = some (.p (.str z)) := by simp [gv_set, h.s.len]
  have ty : tyName (.bl t) = some "bool" := rfl
  simp [endS, e_seq, e_lift, e_bnd, sAsg, k0, c4, c10, mFrz, rs, sIf, c21, c15, c20, k2, ty, kit_bb]
theorem turn_step {l : List (Option DV)} {M R : List O} {bs : List Bud} (hs : SL l (bsD bs)) (hd : Dw M R) (hb : bs.length ≤ 10) (hm : ∀ b ∈ bs, SmB b) {Q : Fl → S → Prop}
    (hq : ∀ l' M' R', SL l' (bsD bs) → Dw M' R' → Q .nx ⟨l', M'⟩) : wpS (bodyT ⟨l, M⟩) Q := by
  rw [bodyT_eq, w_seq, w_asgN]
  have hl := hd.len
  have e0 : dispO aNil ⟨l, M⟩ = some (.ok (.o (2 + R.length)) (M ++ [.lst []])) := by rw [← hl]; rfl
  rw [e0, w_ok, w_andN, w_seq]
  have s1 := hs.set 10 (some (.o (2 + R.length))) (by decide)
  have g10 : gv (l.set 10 (some (.o (2 + R.length)))) 10 = some (.o (2 + R.length)) := gv_same hs _ _ (by decide)
  generalize l.set 10 (some (.o (2 + R.length))) = l1 at s1 g10
  have d1 : Dw (M ++ [.lst []]) (R ++ [.lst (([].map rD).map .p)]) := hd.app _
  generalize M ++ [.lst []] = M1 at d1
  rw [sFor, w_lift, e_rng, w_bnd, e_aCons, w_bnd]
  refine wp_dr s1.v1 d1 (by decide) fun n M2 d2 _ hn => ?_
  have hn := hn (by decide)
  have rk : rngOk n = true := by unfold rngOk; simp; omega
  simp only [w_bnd, e_aNil, w_ok, e_rng1, rk, if_pos]
  have lp := w_loopN (g := gN 5) (b := bodyL) (R := fun _ _ => False) (Inv := fun m s => ∃ rows : List Row, rows.length = m ∧ (∀ r ∈ rows, SmR r) ∧ SL s.l (bsD bs) ∧ gv s.l 10 = some (.o (2 + R.length)) ∧ Dw s.m (R ++ [.lst ((rows.map rD).map .p)])) (DL.intsFrom 0 n.toNat) 0 ⟨l1, M2⟩ ⟨[], rfl, by simp, s1, g10, d2⟩ (by
    rintro d hdm m _ hm2 ⟨l3, M3⟩ ⟨rows, hr, sm, s3, h10, d3⟩
    refine ⟨_, rfl, ?_⟩
    have s4 := s3.set 5 (some d) (by decide)
    have hm2 : m < 10 := by simp at hm2; omega
    refine led_step s4 (by dsimp only; rw [gv_other _ _ _ _ (by decide)]; exact h10) d3 (by omega) hm (by omega) fun r l' M' sr sl g d' => .inl ⟨rfl, rows ++ [r], by simp [hr], fun x hx => ?_, sl, g, d'⟩
    rcases List.mem_append.mp hx with hx | hx
    · exact sm x hx
    · simp at hx; rw [hx]; exact sr)
  refine wpS.imp lp fun f s h => ?_
  rcases h with ⟨rfl, rows, hr, sm, s3, h10, d3⟩ | ⟨_, _, h⟩
  · obtain ⟨l3, M3⟩ := s
    have hr : rows.length ≤ 10 := by simp at hr; omega
    rw [w_andN, w_seq]
    have m := d3.get R.length
    rw [List.getElem?_append_right (Nat.le_refl _), Nat.sub_self] at m
    have m : M3[2 + R.length]? = some (.lst ((rows.map rD).map .p)) := m
    have ef : sFrz 10 ⟨l3, M3⟩ = some (.nx, ⟨l3.set 10 (some (.p (.lst (rows.map rD)))), M3.set (2 + R.length) .gone⟩) := by
      simp only [e_sfrz, h10, m, e_frzL, e_allPm, Option.map_some]
    rw [ef, w_sok]
    refine ⟨rfl, ?_⟩
    have d4 := d3.set R.length .gone
    have s4 := s3.set 10 (some (.p (.lst (rows.map rD)))) (by decide)
    have h4 : gv (l3.set 10 (some (.p (.lst (rows.map rD))))) 10 = some (.p (.lst (rows.map rD))) := gv_same s3 _ _ (by decide)
    generalize l3.set 10 (some (.p (.lst (rows.map rD)))) = l4 at s4 h4
    generalize M3.set (2 + R.length) .gone = M4 at d4
    rw [w_andN, w_seq, w_asgN, e_c, w_ok, w_andN, w_seq]
    have h5 : DL5 (l4.set 15 (some (.p (.bl true)))) bs rows true := ⟨s4.set 15 _ (by decide), by rw [gv_other _ _ _ _ (by decide)]; exact h4, gv_same s4 _ _ (by decide)⟩
    generalize l4.set 15 (some (.p (.bl true))) = l5 at h5
    obtain ⟨l6, e6, h6⟩ := due_loop hm (by omega) M4 rows l5 true h5
    have e7 : sFor (mItD itL (mFrz (mVar 10))) tg4 bodyD ⟨l5, M4⟩ = some (.nx, ⟨l6, M4⟩) := by
      rw [← e6]
      simp [sFor, e_lift, e_bnd, mFrz, h5.led]
    rw [e7, w_sok]
    refine ⟨rfl, ?_⟩
    rw [w_andN]
    rw [Bool.true_and] at h6
    obtain ⟨l8, e8, s8⟩ := end_ok (M := M4) h6 hm sm hb hr
    rw [e8, w_sok]
    exact ⟨rfl, hq l8 M4 _ s8 d4⟩
  · exact False.elim h
theorem law_ok (ns : List Int) (hl : ns.length ≤ 63) (hb : ∀ z ∈ ns, Builtin.Int.intBits z ≤ 1048576) : m_law [.scr (ns.map .int)] = some (.ok (.bl true)) := by
  obtain ⟨M0, e0, d0⟩ := state_spec ns hl
  apply wpA.eq
  rw [m_law, w_runA, b_law, w_seq]
  have z0 : sAsg (mCallB 1 m_l_state (aCons (mVar 0) aNil)) (gN 1) ⟨slotsOf 23 ([D.scr (ns.map .int)].map .p), []⟩ = some (.nx, ⟨(some (.p (.scr (ns.map .int))) :: some (.o 1) :: List.replicate 21 none), M0⟩) := by
    simp [sAsg, e_lift, e_bnd, e0]
  rw [z0, w_sok]
  refine ⟨rfl, ?_⟩
  rw [w_andN, b_law_1, w_seq]
  have z1 : sAsg (disp .lst (aCons (disp .tup (aCons (disp .tup (aCons (mC (.int 0)) (aCons (mC (.int 0)) aNil))) (aCons (disp .tup (aCons (mC (.int 0)) (aCons (mC (.int 2)) aNil))) aNil))) (aCons (disp .tup (aCons (disp .tup (aCons (mC (.int 1)) (aCons (mC (.int 0)) aNil))) (aCons (disp .tup (aCons (mC (.int 1)) (aCons (mC (.int 2)) aNil))) aNil))) (aCons (disp .tup (aCons (disp .tup (aCons (mC (.int 1)) (aCons (mC (.int 0)) aNil))) (aCons (disp .tup (aCons (mC (.int 1)) (aCons (mC (.int 3)) aNil))) aNil))) aNil)))) (gN 2)
      ⟨some (.p (.scr (ns.map .int))) :: some (.o 1) :: List.replicate 21 none, M0⟩ = some (.nx, ⟨some (.p (.scr (ns.map .int))) :: some (.o 1) :: some (.p (.lst arsD)) :: List.replicate 20 none, M0⟩) := rfl
  rw [z1, w_sok]
  refine ⟨rfl, ?_⟩
  rw [w_andN, b_law_2, w_seq]
  have z2 : sAsg (disp .lst (aCons (mC (.str (PySem.Str.ofString "RSUM"))) (aCons (mC (.str (PySem.Str.ofString "RMAX"))) (aCons (mC (.str (PySem.Str.ofString "RAVG"))) aNil)))) (gN 3) ⟨some (.p (.scr (ns.map .int))) :: some (.o 1) :: some (.p (.lst arsD)) :: List.replicate 20 none, M0⟩
      = some (.nx, ⟨some (.p (.scr (ns.map .int))) :: some (.o 1) :: some (.p (.lst arsD)) :: some (.p (.lst nmsD)) :: List.replicate 19 none, M0⟩) := rfl
  rw [z2, w_sok]
  refine ⟨rfl, ?_⟩
  rw [w_andN, b_law_3, w_seq, w_asgN]
  have z3 : ∀ l, dispO aNil ⟨l, M0⟩ = some (.ok (.o 2) (M0 ++ [.lst []])) := by intro l; have := d0.len; simp at this; rw [← this]; rfl
  rw [z3, w_ok, w_andN, law4_eq, w_seq]
  have s1 : SL ((some (.p (.scr (ns.map .int))) :: some (.o 1) :: some (.p (.lst arsD)) :: some (.p (.lst nmsD)) :: List.replicate 19 none).set 4 (some (.o 2))) (.o 2) := ⟨rfl, rfl, rfl, rfl, rfl⟩
  generalize (some (DV.p (.scr (ns.map .int))) :: some (DV.o 1) :: some (DV.p (.lst arsD)) :: some (DV.p (.lst nmsD)) :: List.replicate 19 none).set 4 (some (DV.o 2)) = l1 at s1 ⊢
  have d1 : Dw (M0 ++ [.lst []]) [.lst (([].map bD).map .p)] := d0.app _
  generalize M0 ++ [.lst []] = M1 at d1
  rw [sFor, w_lift, e_rng, w_bnd, e_aCons, w_bnd]
  refine wp_dr s1.v1 d1 (by decide) fun n M2 d2 _ hn => ?_
  have hn := hn (by decide)
  have rk : rngOk n = true := by unfold rngOk; simp; omega
  simp only [w_bnd, e_aNil, w_ok, e_rng1, rk, if_pos]
  have lp := w_loopN (g := gN 5) (b := bodyB) (R := fun _ _ => False) (Inv := fun m s => ∃ bs : List Bud, bs.length = m ∧ (∀ b ∈ bs, SmB b) ∧ SL s.l (.o 2) ∧ Dw s.m [.lst ((bs.map bD).map .p)]) (DL.intsFrom 0 n.toNat) 0 ⟨l1, M2⟩ ⟨[], rfl, by simp, s1, d2⟩ (by
    rintro d hdm m _ hm2 ⟨l3, M3⟩ ⟨bs, hr, sm, s3, d3⟩
    refine ⟨_, rfl, ?_⟩
    have s4 := s3.set 5 (some d) (by decide)
    have hm2 : m < 10 := by simp at hm2; omega
    refine bud_step s4 d3 (by omega) fun b l' M' sb sl d' => .inl ⟨rfl, bs ++ [b], by simp [hr], fun x hx => ?_, sl, d'⟩
    rcases List.mem_append.mp hx with hx | hx
    · exact sm x hx
    · simp at hx; rw [hx]; exact sb)
  refine wpS.imp lp fun f s h => ?_
  rcases h with ⟨rfl, bs, hr, sm, s3, d3⟩ | ⟨_, _, h⟩
  · obtain ⟨l3, M3⟩ := s
    have hr : bs.length ≤ 10 := by simp at hr; omega
    rw [w_andN, law5_eq, w_seq]
    have m : M3[2]? = some (.lst ((bs.map bD).map .p)) := d3.get 0
    have ef : sFrz 4 ⟨l3, M3⟩ = some (.nx, ⟨l3.set 4 (some (bsD bs)), M3.set 2 .gone⟩) := by
      have h4 := s3.v4
      simp only [e_sfrz, h4, m, e_frzL, e_allPm, Option.map_some]; rfl
    rw [ef, w_sok]
    refine ⟨rfl, ?_⟩
    have d4 := d3.set 0 .gone
    have s4 : SL (l3.set 4 (some (bsD bs))) (bsD bs) := ⟨by simpa using s3.len, by rw [gv_other _ _ _ _ (by decide)]; exact s3.v1, by rw [gv_other _ _ _ _ (by decide)]; exact s3.v2, by rw [gv_other _ _ _ _ (by decide)]; exact s3.v3, gv_same s3 _ _ (by decide)⟩
    generalize l3.set 4 (some (bsD bs)) = l4 at s4
    rw [w_andN, w_seq, sFor, w_lift]
    have er : mRng rng1D (aCons (mC (.int 5)) aNil) ⟨l4, M3.set 2 .gone⟩ = some (.ok (DL.intsFrom 0 5) (M3.set 2 .gone)) := rfl
    rw [er, w_ok]
    have lp2 := w_loopN (g := gN 9) (b := bodyT) (R := fun _ _ => False) (Inv := fun m s => ∃ R, SL s.l (bsD bs) ∧ Dw s.m R) (DL.intsFrom 0 5) 0 ⟨l4, M3.set 2 .gone⟩ ⟨_, s4, d4⟩ (by
      rintro d hdm m _ hm2 ⟨l5, M5⟩ ⟨R, s5, d5⟩
      refine ⟨_, rfl, ?_⟩
      exact turn_step (s5.set 9 (some d) (by decide)) d5 hr sm fun l' M' R' sl d' => .inl ⟨rfl, R', sl, d'⟩)
    refine wpS.imp lp2 fun f s h => ?_
    rcases h with ⟨rfl, _⟩ | ⟨_, _, h⟩
    · rw [w_andN, b_law_6]; simp
    · exact False.elim h
  · exact False.elim h
end Law

open PySem PySem.W PyProof.Rows in
set_option maxRecDepth 100000 in
set_option maxHeartbeats 0 in
theorem PySem.Challenge.cw_labelgrid_k67_ledgers_are_judged_holds : PySem.Challenge.rw_labelgrid_k67_ledgers_are_judged.Holds := by
  w_on; o_law; k_head; (case hw => w_witness2)
  k_fill
  refine DL.walk_dlG (l := PySem.Challenge.rw_labelgrid_k67_ledgers_are_judged) (k := 2) (x := "law") (qual := "law") (st := Law.s_law) (N := Law.n_law) (m := Law.b_law) rfl rfl ⟨rfl, by decide, by decide⟩ (fun w h Y => PySem.W.kIn_of Y) Law.sc_law ?F Law.law_ok
  case F =>
    intro w mg fa h KX G hmg
    refine' Law.all_mk KX G hmg ?a0 ?l0 ?c0 ?k0 ?a1 ?l1 ?c1 ?k1 ?a2 ?l2 ?c2 ?k2 ?a3 ?l3 ?c3 ?k3 ?a4 ?l4 ?c4 ?k4 ?a5 ?l5 ?c5 ?k5 ?a6 ?l6 ?c6 ?k6 ?z_abs ?z_bool ?z_int ?z_isinstance ?z_len ?z_range ?z_repr
    (case a0 => k_is)
    (case l0 => k_is)
    (case c0 => k_is)
    (case k0 => k_is)
    (case a1 => k_is)
    (case l1 => k_is)
    (case c1 => k_is)
    (case k1 => k_is)
    (case a2 => k_is)
    (case l2 => k_is)
    (case c2 => k_is)
    (case k2 => k_is)
    (case a3 => k_is)
    (case l3 => k_is)
    (case c3 => k_is)
    (case k3 => k_is)
    (case a4 => k_is)
    (case l4 => k_is)
    (case c4 => k_is)
    (case k4 => k_is)
    (case a5 => k_is)
    (case l5 => k_is)
    (case c5 => k_is)
    (case k5 => k_is)
    (case a6 => k_is)
    (case l6 => k_is)
    (case c6 => k_is)
    (case k6 => k_is)
    (case z_abs => k_is)
    (case z_bool => k_is)
    (case z_int => k_is)
    (case z_isinstance => k_is)
    (case z_len => k_is)
    (case z_range => k_is)
    (case z_repr => k_is)

