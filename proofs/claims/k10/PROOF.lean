import PyProof.Rows.All
import Wide.All
import OpenK.AllK
import Wide.FinOn
import HandS.ForMost
import HandS.ForExc
import HandS.Lambda
import HandS.Nested
import HandS.Wide
import HandS.Comp
import HandS.IsInst
import HandS.EndBits
import HandS.Text
import HandS.StrMore
import HandS.FStr
import HandS.Replace
import HandS.Deep
import HandS.RaiseMore
import PyProof.StrOps2
import PyProof.Rows.StrPadFill
import PyProof.StrLawsTight
import PyProof.StrLawsChain
import PyProof.Rows.StrItems
import PyProof.Rows.StrCut
import PyProof.Rows.StrPadWhole
import KE.IntTextLaws
import PyProof.ReprRoads
import PyProof.ReprLen
import PyProof.Rows.StrReprFit
import HandS.Style
import PyProof.Rows.RuleB_bool
import PyProof.Rows.SeqMore
import HandS.Dict
import HandS.More
import KE.SortKeyHeap
import HandS.ExcValue
import HandS.SortKw
import HandS.Sort
import HandS.EndTab
import HandS.HeadWalk
import HandS.WideBits
import HandS.RevRange
import HandS.Iter
import HandS.Conv
import KE.SortData
import KE.IntBitsLaws
import KE.DataMinMax
import ObjForm.LawKit
import HandS.CallLocal
import HandS.CallSlots
import HandS.WrittenGet
import PySem.Challenge.RW_labelgrid_k10_functions_on_values
set_option Elab.async false
set_option linter.all false
set_option autoImplicit false
set_option maxRecDepth 100000
set_option maxHeartbeats 4000000
namespace DL
open PySem L2
/-! data, values with objects of one's own, objects -/
inductive D where
  | non | bl (b : Bool) | int (i : Int) | str (s : Str)
  | tup (xs : List D) | ktup (xs : List D) | lst (xs : List D) | klst (xs : List D) | dK (kvs : List (Key × D)) | dT (kvs : List (List Key × D)) | fn (a : Addr) | scr (xs : List D) | ty (n : String) | rng (lo hi : Int)
inductive DV where
  | p (d : D) | o (n : Nat)
inductive O where
  | lst (xs : List DV) | dK (kvs : List (Key × DV)) | dT (kvs : List (List Key × DV)) | ins (C : Addr) (fs : List (Str × DV)) | tbl (P : Addr) (q : Str) | gone
inductive Rs (α : Type) where
  | ok (v : α) (M : List O) | ex (c : Addr) (fs : List (Str × D)) (M : List O)
structure S where
  l : List (Option DV)
  m : List O
mutual
inductive Rep (K : PySem.W.Frag) (Z : Hp) : V → D → Prop
  | non : Rep K Z .non .non
  | bl (b : Bool) : Rep K Z (.bl b) (.bl b)
  | int (i : Int) : Rep K Z (.int i) (.int i)
  | str (x : Str) : Rep K Z (.str x) (.str x)
  | lst {a : Addr} {xs : List V} {ds : List D} : Rd Z a (.lst xs) → RepA K Z xs ds → Rep K Z (.ref a) (.lst ds)
  | tup {a : Addr} {xs : List V} {ds : List D} : Z a = some (.tup xs) → RepA K Z xs ds → Rep K Z (.ref a) (.tup ds)
  | ktup {a : Addr} {xs : List V} {ds : List D} : SqT K Z a xs → RepA K Z xs ds → Rep K Z (.ref a) (.ktup ds)
  | klst {a : Addr} {xs : List V} {ds : List D} : SqL K Z a xs → RepA K Z xs ds → Rep K Z (.ref a) (.klst ds)
  | dK {a : Addr} {ks : List (Key × V)} {ds : List (Key × D)} : Z a = some (.dK ks) → RepK K Z ks ds → Rep K Z (.ref a) (.dK ds)
  | dT {a : Addr} {ks : List (List Key × V)} {ds : List (List Key × D)} : Z a = some (.dT ks) → RepT K Z ks ds → Rep K Z (.ref a) (.dT ds)
  | fn (a : Addr) : Rep K Z (.ref a) (.fn a)
  | ty (n : String) : Rep K Z (.ty n) (.ty n)
  | rng {a : Addr} {lo hi : Int} : Z a = some (.rng lo hi) → Rep K Z (.ref a) (.rng lo hi)
  | scr {a : Addr} {xs : List V} {ds : List D} : SqL K Z a xs → RepA K Z xs ds → Rep K Z (.ref a) (.scr ds)
inductive RepA (K : PySem.W.Frag) (Z : Hp) : List V → List D → Prop
  | nil : RepA K Z [] []
  | cons {v : V} {vs : List V} {d : D} {ds : List D} : Rep K Z v d → RepA K Z vs ds → RepA K Z (v :: vs) (d :: ds)
inductive RepK (K : PySem.W.Frag) (Z : Hp) : List (Key × V) → List (Key × D) → Prop
  | nil : RepK K Z [] []
  | cons {k : Key} {v : V} {vs : List (Key × V)} {d : D} {ds : List (Key × D)} : Rep K Z v d → RepK K Z vs ds → RepK K Z ((k, v) :: vs) ((k, d) :: ds)
inductive RepT (K : PySem.W.Frag) (Z : Hp) : List (List Key × V) → List (List Key × D) → Prop
  | nil : RepT K Z [] []
  | cons {k : List Key} {v : V} {vs : List (List Key × V)} {d : D} {ds : List (List Key × D)} : Rep K Z v d → RepT K Z vs ds → RepT K Z ((k, v) :: vs) ((k, d) :: ds)
end
theorem same_l {K : PySem.W.Frag} {H H' : Hp} {a : Addr} {xs : List V} (e : Same H H') (h : SqL K H a xs) : SqL K H' a xs := e.seq h
theorem same_rd {H H' : Hp} {a : Addr} {u : HO} (e : Same H H') (h : Rd H a u) : Rd H' a u := by
  rcases h with h | ⟨o, h⟩
  · exact .inl (e a _ h)
  · exact .inr ⟨o, e a _ h⟩
theorem sqt {K : PySem.W.Frag} {H H' : Hp} {a : Addr} {xs : List V} (e : Same H H') (h : H a = some (.tup xs)) : SqT K H' a xs := .inl (.inl (e a _ h))
theorem same_t {K : PySem.W.Frag} {H H' : Hp} {a : Addr} {xs : List V} (e : Same H H') (h : SqT K H a xs) : SqT K H' a xs := by
  rcases h with (h | ⟨o, h⟩) | h
  · exact .inl (.inl (e a _ h))
  · exact .inl (.inr ⟨o, e a _ h⟩)
  · exact .inr h
section
variable {K : PySem.W.Frag} {Z Z' H H' : Hp}
mutual
theorem Rep.mono (e : Same Z Z') : ∀ {v : V} {d : D}, Rep K Z v d → Rep K Z' v d
  | _, _, .non => .non
  | _, _, .bl b => .bl b
  | _, _, .int i => .int i
  | _, _, .str x => .str x
  | _, _, .lst h r => .lst (same_rd e h) (RepA.mono e r)
  | _, _, .tup h r => .tup (e _ _ h) (RepA.mono e r)
  | _, _, .ktup h r => .ktup (same_t e h) (RepA.mono e r)
  | _, _, .klst h r => .klst (same_l e h) (RepA.mono e r)
  | _, _, .dK h r => .dK (e _ _ h) (RepK.mono e r)
  | _, _, .dT h r => .dT (e _ _ h) (RepT.mono e r)
  | _, _, .fn a => .fn a
  | _, _, .ty n => .ty n
  | _, _, .rng h => .rng (e _ _ h)
  | _, _, .scr h r => .scr (same_l e h) (RepA.mono e r)
theorem RepA.mono (e : Same Z Z') : ∀ {v : List V} {d : List D}, RepA K Z v d → RepA K Z' v d
  | _, _, .nil => .nil
  | _, _, .cons h r => .cons (Rep.mono e h) (RepA.mono e r)
theorem RepK.mono (e : Same Z Z') : ∀ {v : List (Key × V)} {d : List (Key × D)}, RepK K Z v d → RepK K Z' v d
  | _, _, .nil => .nil
  | _, _, .cons h r => .cons (Rep.mono e h) (RepK.mono e r)
theorem RepT.mono (e : Same Z Z') : ∀ {v : List (List Key × V)} {d : List (List Key × D)}, RepT K Z v d → RepT K Z' v d
  | _, _, .nil => .nil
  | _, _, .cons h r => .cons (Rep.mono e h) (RepT.mono e r)
end
theorem RepA.length : ∀ {v : List V} {d : List D}, RepA K Z v d → v.length = d.length
  | _, _, .nil => rfl
  | _, _, .cons _ r => by rw [List.length_cons, List.length_cons, RepA.length r]
theorem RepA.get : ∀ {v : List V} {d : List D} {i : Nat} {x : D}, RepA K Z v d → d[i]? = some x → ∃ u, v[i]? = some u ∧ Rep K Z u x
  | _, _, _, _, .nil, e => by simp at e
  | _, _, 0, _, .cons h _, e => by simp at e; subst e; exact ⟨_, rfl, h⟩
  | _, _, i + 1, x, .cons _ r, e => by
    obtain ⟨u, h1, h2⟩ := RepA.get (i := i) (x := x) r (by simpa using e)
    exact ⟨u, by simpa using h1, h2⟩
theorem RepA.get' : ∀ {v : List V} {d : List D} {i : Nat} {u : V}, RepA K Z v d → v[i]? = some u → ∃ x, d[i]? = some x ∧ Rep K Z u x
  | _, _, _, _, .nil, e => by simp at e
  | _, _, 0, _, .cons h _, e => by simp at e; subst e; exact ⟨_, rfl, h⟩
  | _, _, i + 1, x, .cons _ r, e => by
    obtain ⟨u, h1, h2⟩ := RepA.get' (i := i) (u := x) r (by simpa using e)
    exact ⟨u, by simpa using h1, h2⟩
theorem RepA.append : ∀ {v w : List V} {d f : List D}, RepA K Z v d → RepA K Z w f → RepA K Z (v ++ w) (d ++ f)
  | _, _, _, _, .nil, s => s
  | _, _, _, _, .cons h r, s => .cons h (RepA.append r s)
theorem RepA.take : ∀ {v : List V} {d : List D} (n : Nat), RepA K Z v d → RepA K Z (v.take n) (d.take n)
  | _, _, 0, _ => .nil
  | _, _, _ + 1, .nil => .nil
  | _, _, n + 1, .cons h r => .cons h (RepA.take n r)
theorem RepA.drop : ∀ {v : List V} {d : List D} (n : Nat), RepA K Z v d → RepA K Z (v.drop n) (d.drop n)
  | _, _, 0, h => h
  | _, _, _ + 1, .nil => .nil
  | _, _, n + 1, .cons _ r => RepA.drop n r
/-! values with objects of one's own -/
def RepV (K : PySem.W.Frag) (Z : Hp) (I : List Addr) (v : V) : DV → Prop
  | .p d => Rep K Z v d
  | .o n => ∃ a, I[n]? = some a ∧ v = .ref a
abbrev RepVs (K : PySem.W.Frag) (Z : Hp) (I : List Addr) : List V → List DV → Prop := Paired (RepV K Z I)
theorem paired_len {α β : Type} {F : α → β → Prop} : ∀ {xs : List α} {ys : List β}, Paired F xs ys → xs.length = ys.length
  | _, _, .nil => rfl
  | _, _, .cons _ r => by rw [List.length_cons, List.length_cons, paired_len r]
theorem paired_get {α β : Type} {F : α → β → Prop} : ∀ {xs : List α} {ys : List β} {i : Nat} {y : β}, Paired F xs ys → ys[i]? = some y → ∃ x, xs[i]? = some x ∧ F x y
  | _, _, _, _, .nil, e => by simp at e
  | _, _, 0, _, .cons h _, e => by simp at e; subst e; exact ⟨_, rfl, h⟩
  | _, _, i + 1, x, .cons _ r, e => by
    obtain ⟨u, h1, h2⟩ := paired_get (i := i) (y := x) r (by simpa using e)
    exact ⟨u, by simpa using h1, h2⟩
theorem paired_set {α β : Type} {F : α → β → Prop} {x : α} {y : β} (h : F x y) : ∀ {xs : List α} {ys : List β} (i : Nat), Paired F xs ys → Paired F (xs.set i x) (ys.set i y)
  | _, _, _, .nil => .nil
  | _, _, 0, .cons _ r => .cons h r
  | _, _, i + 1, .cons q r => .cons q (paired_set h i r)
theorem paired_app {α β : Type} {F : α → β → Prop} : ∀ {xs zs : List α} {ys ws : List β}, Paired F xs ys → Paired F zs ws → Paired F (xs ++ zs) (ys ++ ws)
  | _, _, _, _, .nil, s => s
  | _, _, _, _, .cons h r, s => .cons h (paired_app r s)
theorem paired_imp {α β : Type} {F G : α → β → Prop} (k : ∀ a b, F a b → G a b) : ∀ {xs : List α} {ys : List β}, Paired F xs ys → Paired G xs ys
  | _, _, .nil => .nil
  | _, _, .cons h r => .cons (k _ _ h) (paired_imp k r)
def FRel (K : PySem.W.Frag) (Z : Hp) (I : List Addr) {κ : Type} (p : κ × V) (q : κ × DV) : Prop := p.1 = q.1 ∧ RepV K Z I p.2 q.2
def RepO (K : PySem.W.Frag) (Z : Hp) (I : List Addr) (H : Hp) (a : Addr) : O → Prop
  | .lst ds => ∃ xs, H a = some (.lst xs) ∧ RepVs K Z I xs ds
  | .dK ds => ∃ ks, H a = some (.dK ks) ∧ Paired (FRel K Z I) ks ds
  | .dT ds => ∃ ks, H a = some (.dT ks) ∧ Paired (FRel K Z I) ks ds
  | .ins C fs => ∃ dx vs, H a = some (.ins C dx vs) ∧ Paired (FRel K Z I) vs fs
  | .tbl P q => a = P ∧ ∃ ps : Array Value, H a = some (.tbl ps) ∧ TriplesOk ps.toList ∧ ∀ (pos : Pos) (cv : Value), codeAmong pos ps.toList = some cv → ∃ c, cv = .ref c ∧ Z c = some (LamX.CodeO c q)
  | .gone => True
structure Wf (K : PySem.W.Frag) (Z H : Hp) (I : List Addr) (M : List O) : Prop where
  sub : Same Z H
  len : I.length = M.length
  nd : I.Nodup
  tr : ∀ a ∈ I, H a ≠ none
  ob : ∀ (n : Nat) (a : Addr) (o : O), I[n]? = some a → M[n]? = some o → o ≠ .gone → Z a = none ∧ RepO K Z I H a o
structure Ext (Z H : Hp) (I : List Addr) (Z' H' : Hp) (I' : List Addr) : Prop where
  z : Same Z Z'
  i : ∃ t, I' = I ++ t
  fr : ∀ a o, H a = some o → a ∉ I → H' a = some o
  nw : ∀ a ∈ I', a ∈ I ∨ H a = none
  zn : ∀ a, Z' a ≠ none → Z a ≠ none ∨ H a = none ∨ a ∈ I
  tr : ∀ a, H a ≠ none → H' a ≠ none
end
theorem Ext.refl {Z H : Hp} {I : List Addr} : Ext Z H I Z H I := ⟨Same.refl Z, ⟨[], by simp⟩, fun _ _ h _ => h, fun _ h => .inl h, fun _ h => .inl h, fun _ h => h⟩
theorem Ext.mem {Z H Z1 H1 : Hp} {I I1 : List Addr} (a : Ext Z H I Z1 H1 I1) {b : Addr} (h : b ∈ I) : b ∈ I1 := by
  obtain ⟨t, rfl⟩ := a.i
  exact List.mem_append_left _ h
theorem Ext.trans {Z H Z1 H1 Z2 H2 : Hp} {I I1 I2 : List Addr} (a : Ext Z H I Z1 H1 I1) (b : Ext Z1 H1 I1 Z2 H2 I2) : Ext Z H I Z2 H2 I2 where
  z := a.z.trans b.z
  i := by
    obtain ⟨t, e⟩ := a.i
    obtain ⟨u, f⟩ := b.i
    exact ⟨t ++ u, by rw [f, e, List.append_assoc]⟩
  fr := fun c o h n => b.fr c o (a.fr c o h n) fun m => by
    rcases a.nw c m with k | k
    · exact n k
    · rw [h] at k; cases k
  nw := fun c m => by
    rcases b.nw c m with k | k
    · exact a.nw c k
    · right
      cases e : H c with
      | none => rfl
      | some o => exact absurd k (a.tr c (by rw [e]; simp))
  zn := fun c h => by
    rcases b.zn c h with k | k | k
    · exact a.zn c k
    · right; left
      cases e : H c with
      | none => rfl
      | some o => exact absurd k (a.tr c (by rw [e]; simp))
    · rcases a.nw c k with q | q
      · exact .inr (.inr q)
      · exact .inr (.inl q)
  tr := fun c h => b.tr c (a.tr c h)
section
variable {K : PySem.W.Frag} {Z H Z' H' : Hp} {I I' : List Addr}
theorem RepV.mono (e : Ext Z H I Z' H' I') {v : V} : ∀ {d : DV}, RepV K Z I v d → RepV K Z' I' v d
  | .p _, h => Rep.mono e.z h
  | .o n, ⟨a, h, q⟩ => by
    obtain ⟨t, rfl⟩ := e.i
    exact ⟨a, by rw [List.getElem?_append_left (List.getElem?_eq_some_iff.mp h).1]; exact h, q⟩
theorem RepV.mono' (z : Same Z Z') {v : V} : ∀ {d : DV}, RepV K Z I v d → RepV K Z' I v d
  | .p _, h => Rep.mono z h
  | .o _, h => h
/-- a pure step: nothing of one's own is touched -/
structure ExtP (Z H Z' H' : Hp) : Prop where
  z : Same Z Z'
  h : Same H H'
  sub : Same Z' H'
  zn : ∀ a, Z' a ≠ none → Z a ≠ none ∨ H a = none
theorem ExtP.refl (h : Same Z H) : ExtP Z H Z H := ⟨Same.refl _, Same.refl _, h, fun _ h => .inl h⟩
theorem ExtP.trans {Z2 H2 : Hp} (a : ExtP Z H Z' H') (b : ExtP Z' H' Z2 H2) : ExtP Z H Z2 H2 := ⟨a.z.trans b.z, a.h.trans b.h, b.sub, fun c h => by
  rcases b.zn c h with k | k
  · exact a.zn c k
  · exact .inr (a.h.free k)⟩
theorem none_of {Z H : Hp} (s : Same Z H) {p : Addr} (h : H p = none) : Z p = none := s.free h
theorem same_upd {H : Hp} {p : Addr} {o : HO} (h : H p = none) : Same H (upd H p o) := fun a u e => by
  rw [upd_ne (ne_of_none e h)]; exact e
theorem ExtP.new {p : Addr} {o : HO} (s : Same Z H) (h : H p = none) : ExtP Z H (upd Z p o) (upd H p o) := by
  refine ⟨same_upd (none_of s h), same_upd h, fun a u e => ?_, fun a e => ?_⟩
  · by_cases q : a = p
    · subst q; rw [upd_same] at e ⊢; exact e
    · rw [upd_ne q] at e ⊢; exact s a u e
  · by_cases q : a = p
    · subst q; exact .inr h
    · rw [upd_ne q] at e; exact .inl e
theorem RepO.mono {a : Addr} (z : Same Z Z') (ha : H' a = H a) : ∀ {o : O}, RepO K Z I H a o → RepO K Z' I H' a o
  | .lst _, ⟨xs, h, r⟩ => ⟨xs, ha.trans h, paired_imp (fun _ _ q => RepV.mono' z q) r⟩
  | .dK _, ⟨xs, h, r⟩ => ⟨xs, ha.trans h, paired_imp (fun _ _ q => ⟨q.1, RepV.mono' z q.2⟩) r⟩
  | .dT _, ⟨xs, h, r⟩ => ⟨xs, ha.trans h, paired_imp (fun _ _ q => ⟨q.1, RepV.mono' z q.2⟩) r⟩
  | .ins _ _, ⟨dx, xs, h, r⟩ => ⟨dx, xs, ha.trans h, paired_imp (fun _ _ q => ⟨q.1, RepV.mono' z q.2⟩) r⟩
  | .tbl _ _, ⟨e, ps, h, t, r⟩ => ⟨e, ps, ha.trans h, t, fun pos cv hc => by
      obtain ⟨c, h1, h2⟩ := r pos cv hc
      exact ⟨c, h1, z _ _ h2⟩⟩
  | .gone, _ => trivial
theorem same_eq {H H' : Hp} (e : Same H H') {a : Addr} (h : H a ≠ none) : H' a = H a := by
  cases q : H a with
  | none => exact absurd q h
  | some o => exact e a o q
theorem Wf.extP {M : List O} (w : Wf K Z H I M) (e : ExtP Z H Z' H') : Wf K Z' H' I M where
  sub := e.sub
  len := w.len
  nd := w.nd
  tr := fun a h => by rw [same_eq e.h (w.tr a h)]; exact w.tr a h
  ob := fun n a o h1 h2 h3 => by
    obtain ⟨q1, q2⟩ := w.ob n a o h1 h2 h3
    have ha := w.tr a (List.mem_of_getElem? h1)
    refine ⟨?_, q2.mono e.z (same_eq e.h ha)⟩
    cases q : Z' a with
    | none => rfl
    | some u =>
      rcases e.zn a (by rw [q]; simp) with k | k
      · exact absurd q1 k
      · exact absurd k ha
theorem ExtP.ext {M : List O} (w : Wf K Z H I M) (e : ExtP Z H Z' H') : Ext Z H I Z' H' I := ⟨e.z, ⟨[], by simp⟩, fun a o h _ => e.h a o h, fun _ h => .inl h, fun a h => (e.zn a h).imp_right .inl, fun a h => by rw [same_eq e.h h]; exact h⟩
/-! ### slots -/
structure RepS (K : PySem.W.Frag) (Z : Hp) (I : List Addr) (σ : St) (l : List (Option DV)) : Prop where
  len : σ.length = l.length
  at_ : ∀ (i : Nat) (dv : DV), l[i]? = some (some dv) → ∃ v, σ[i]? = some (some v) ∧ RepV K Z I v dv
theorem RepS.mono {σ : St} {l : List (Option DV)} (r : RepS K Z I σ l) (e : Ext Z H I Z' H' I') : RepS K Z' I' σ l := ⟨r.len, fun i dv h => by
  obtain ⟨v, h1, h2⟩ := r.at_ i dv h
  exact ⟨v, h1, h2.mono e⟩⟩
theorem RepS.set {σ : St} {l : List (Option DV)} (r : RepS K Z I σ l) {v : V} {dv : DV} (h : RepV K Z I v dv) (i : Nat) : RepS K Z I (σ.set i (some v)) (l.set i (some dv)) := by
  refine ⟨by simpa using r.len, fun j dw e => ?_⟩
  by_cases q : i = j
  · subst q
    by_cases b : i < l.length
    · rw [List.getElem?_set_self b] at e
      cases e
      exact ⟨v, by rw [List.getElem?_set_self (by rw [r.len]; exact b)], h⟩
    · rw [List.getElem?_eq_none (by simpa using b)] at e; cases e
  · rw [List.getElem?_set_ne q] at e ⊢
    exact r.at_ j dw e
/-! ### what is wanted -/
def ExcAt (K : PySem.W.Frag) (Z H : Hp) (d : Option Addr) (fs : List (Str × D)) : Prop :=
  (d = none ∧ fs = []) ∨ ∃ a vs, d = some a ∧ H a = some (.xd vs) ∧ Paired (fun (p : Str × V) (q : Str × D) => p.1 = q.1 ∧ Rep K Z p.2 q.2) vs fs
def PostX (K : PySem.W.Frag) (W : WX) (Z H : Hp) (I : List Addr) (σ : St) (M' : List O) (c : Addr) (fs : List (Str × D)) : Prop :=
  ∀ d Z' H' I', Wf K Z' H' I' M' → Ext Z H I Z' H' I' → ExcAt K Z' H' d fs → (∀ a, d = some a → H a = none ∧ a ∉ I') → W (.ref c) d σ H'
theorem PostX.mono {W : WX} {σ : St} {M' : List O} {c : Addr} {fs : List (Str × D)} {Z1 H1 : Hp} {I1 : List Addr} (e : Ext Z H I Z1 H1 I1) (h : PostX K W Z H I σ M' c fs) : PostX K W Z1 H1 I1 σ M' c fs :=
  fun d Z' H' I' w x a n => h d Z' H' I' w (e.trans x) a fun b q => ⟨by
    cases z : H b with
    | none => rfl
    | some o => exact absurd (n b q).1 (e.tr b (by rw [z]; simp)), (n b q).2⟩
def PostR {α β : Type} (K : PySem.W.Frag) (W : WX) (R : Hp → List Addr → β → α → Prop) (Z H : Hp) (I : List Addr) (σ : St) (Q : β → Hp → Prop) : Rs α → Prop
  | .ok a M' => ∀ b Z' H' I', Wf K Z' H' I' M' → Ext Z H I Z' H' I' → R Z' I' b a → Q b H'
  | .ex c fs M' => PostX K W Z H I σ M' c fs
theorem PostR.mono {α β : Type} {W : WX} {R : Hp → List Addr → β → α → Prop} {σ : St} {Q : β → Hp → Prop} {Z1 H1 : Hp} {I1 : List Addr} (e : Ext Z H I Z1 H1 I1) : ∀ {r : Rs α}, PostR K W R Z H I σ Q r → PostR K W R Z1 H1 I1 σ Q r
  | .ok _ _, h => fun b Z' H' I' w x q => h b Z' H' I' w (e.trans x) q
  | .ex _ _ _, h => PostX.mono e h
theorem PostR.x {α β : Type} {W : WX} {R : Hp → List Addr → β → α → Prop} {σ : St} {Q : β → Hp → Prop} {r : Rs α} (h : PostR K W R Z H I σ Q r) (c : Addr) (fs : List (Str × D)) (M : List O) (e : r = .ex c fs M) : PostX K W Z H I σ M c fs := by
  subst e; exact h
abbrev Mi (α : Type) := S → Option (Rs α)
structure Sound {α β : Type} (K : PySem.W.Frag) (W : WX) (R : Hp → List Addr → β → α → Prop) (t : St → Hp → (β → Hp → Prop) → Prop) (m : Mi α) : Prop where
  ok : ∀ (σ : St) (H : Hp) (s : S) (Z : Hp) (I : List Addr) (r : Rs α) (Q : β → Hp → Prop), Wf K Z H I s.m → RepS K Z I σ s.l → m s = some r → PostR K W R Z H I σ Q r → t σ H Q
def bnd {α γ : Type} (m : Mi α) (k : α → Mi γ) : Mi γ := fun s => match m s with
  | some (.ok v M) => k v ⟨s.l, M⟩
  | some (.ex c f M) => some (.ex c f M)
  | none => none
theorem Sound.bnd {α β γ : Type} {W : WX} {R : Hp → List Addr → β → α → Prop} {t : St → Hp → (β → Hp → Prop) → Prop} {m : Mi α} (h : Sound K W R t m) {σ : St} {s : S} {k : α → Mi γ} {r : Rs γ} {Q : β → Hp → Prop}
    (w : Wf K Z H I s.m) (rs : RepS K Z I σ s.l) (e : DL.bnd m k s = some r) (hx : ∀ c fs M, r = .ex c fs M → PostX K W Z H I σ M c fs)
    (hk : ∀ a b M' Z' H' I', Wf K Z' H' I' M' → RepS K Z' I' σ s.l → Ext Z H I Z' H' I' → R Z' I' b a → k a ⟨s.l, M'⟩ = some r → Q b H') : t σ H Q := by
  unfold DL.bnd at e
  cases q : m s with
  | none => rw [q] at e; cases e
  | some r0 =>
    rw [q] at e
    cases r0 with
    | ok v M => exact h.ok σ H s Z I _ Q w rs q fun b Z' H' I' w' x' r' => hk v b M Z' H' I' w' (rs.mono x') x' r' e
    | ex c f M =>
      obtain rfl := Option.some.inj e
      exact h.ok σ H s Z I _ Q w rs q (hx c f M rfl)
abbrev EM := Mi DV
abbrev AM := Mi (List DV)
structure DE (K : PySem.W.Frag) (X : Cx) (W : WX) (e : Expr) (t : TE) (m : EM) : Prop where
  k : X.K = K
  pe : PE X e t
  so : Sound K W (RepV K) t m
def RepB (_ : Hp) (_ : List Addr) (b : Bool) (d : DV) : Prop := d = .p (.bl b)
structure DT (K : PySem.W.Frag) (X : Cx) (W : WX) (e : Expr) (t : TT) (m : EM) : Prop where
  k : X.K = K
  pt : PT X e t
  so : Sound K W RepB t m
structure DW (K : PySem.W.Frag) (X : Cx) (W : WX) (e : Expr) (t : TT) (m : EM) : Prop where
  k : X.K = K
  pw : PW X e t
  so : Sound K W RepB t m
structure DA (K : PySem.W.Frag) (X : Cx) (W : WX) (es : List Expr) (t : TA) (m : AM) : Prop where
  k : X.K = K
  pa : PA X es t
  so : Sound K W (RepVs K) t m
/-- statements -/
inductive Fl where
  | nx | rt (v : DV) | bk | ct | ex (c : Addr) (fs : List (Str × D))
abbrev SM := S → Option (Fl × S)
def PostS (K : PySem.W.Frag) (W : WX) (Z H : Hp) (I : List Addr) (D : Ends) : Fl × S → Prop
  | (.nx, s') => ∀ σ' Z' H' I', Wf K Z' H' I' s'.m → RepS K Z' I' σ' s'.l → Ext Z H I Z' H' I' → D.nx σ' H'
  | (.rt dv, s') => ∀ v Z' H' I', Wf K Z' H' I' s'.m → Ext Z H I Z' H' I' → RepV K Z' I' v dv → D.rt v H'
  | (.bk, s') => ∀ σ' Z' H' I', Wf K Z' H' I' s'.m → RepS K Z' I' σ' s'.l → Ext Z H I Z' H' I' → D.bk σ' H'
  | (.ct, s') => ∀ σ' Z' H' I', Wf K Z' H' I' s'.m → RepS K Z' I' σ' s'.l → Ext Z H I Z' H' I' → D.ct σ' H'
  | (.ex c fs, s') => ∀ σ' d Z' H' I', Wf K Z' H' I' s'.m → RepS K Z' I' σ' s'.l → Ext Z H I Z' H' I' → ExcAt K Z' H' d fs → (∀ a, d = some a → H a = none ∧ a ∉ I') → W (.ref c) d σ' H'
structure SoundS (K : PySem.W.Frag) (W : WX) (t : TS) (m : SM) : Prop where
  ok : ∀ (σ : St) (H : Hp) (s : S) (Z : Hp) (I : List Addr) (r : Fl × S) (D : Ends), Wf K Z H I s.m → RepS K Z I σ s.l → m s = some r → PostS K W Z H I D r → t D σ H
structure DS (K : PySem.W.Frag) (X : Cx) (W : WX) (st : Stmt) (t : TS) (m : SM) : Prop where
  k : X.K = K
  ps : PS X st t
  so : SoundS K W t m
structure DSs (K : PySem.W.Frag) (X : Cx) (W : WX) (st : List Stmt) (t : TS) (m : SM) : Prop where
  k : X.K = K
  ps : PSs X st t
  so : SoundS K W t m
end
end DL
namespace DL
open PySem L2
section
variable {K : PySem.W.Frag} {X : Cx} {W : WX} {e a b c : Expr} {pos : Pos}
/-! ### names, constants -/
def gv (l : List (Option DV)) (i : Nat) : Option DV := match l[i]? with
  | some (some d) => some d
  | _ => none
def mVar (i : Nat) : EM := fun s => match gv s.l i with
  | some d => some (.ok d s.m)
  | none => none
theorem gv_some {l : List (Option DV)} {i : Nat} {d : DV} (h : gv l i = some d) : l[i]? = some (some d) := by
  unfold gv at h
  split at h
  · cases h; assumption
  · cases h
theorem so_var {i : Nat} : Sound K W (RepV K) (tVar i) (mVar i) := ⟨fun σ H s Z I r Q w rs e p => by
  unfold mVar at e
  split at e
  · rename_i d hd
    obtain rfl := Option.some.inj e
    obtain ⟨v, h1, h2⟩ := rs.at_ i d (gv_some hd)
    exact ⟨v, h1, p v Z H I w Ext.refl h2⟩
  · cases e⟩
def mC (d : D) : EM := fun s => some (.ok (.p d) s.m)
theorem so_c {v : V} {d : D} (h : ∀ Z, Rep K Z v d) : Sound K W (RepV K) (tC v) (mC d) := ⟨fun σ H s Z I r Q w rs e p => by
  obtain rfl := Option.some.inj e
  exact p v Z H I w Ext.refl (h Z)⟩
theorem de_var (i : Nat) {x : Str} (k : X.K = K := by rfl) (hN : X.N[i]? = some x := by rfl) (hv : Vis X.env.scope x := by first | exact Or.inl rfl | exact Or.inr (Or.inl rfl) | exact Or.inr (Or.inr rfl)) (hd : (x == ("__debug__" : Str)) = false := by decide)
    (hcd : (x == ("__classdict__" : Str)) = false := by decide) : DE K X W (.Name x pos) (tVar i) (mVar i) := ⟨k, pe_var hN hv hd hcd, so_var⟩
theorem de_int {i : Int} {j} (k : X.K = K := by rfl) : DE K X W (.Constant (.int i) j pos) (tC (.int i)) (mC (.int i)) := ⟨k, pe_int, so_c fun _ => .int i⟩
theorem de_bl {i : Bool} {j} (k : X.K = K := by rfl) : DE K X W (.Constant (.bool i) j pos) (tC (.bl i)) (mC (.bl i)) := ⟨k, pe_bl, so_c fun _ => .bl i⟩
theorem de_non {j} (k : X.K = K := by rfl) : DE K X W (.Constant .none j pos) (tC .non) (mC .non) := ⟨k, pe_non, so_c fun _ => .non⟩
theorem de_str {x : Str} {j} (k : X.K = K := by rfl) : DE K X W (.Constant (.str x) j pos) (tC (.str x)) (mC (.str x)) := ⟨k, pe_str, so_c fun _ => .str x⟩
/-- a constant of the top: its value u, what it is -/
theorem de_glob {x : Str} {v : V} {u : Value} {d : D} (hm : X.mg x = some u) (r : RelV v u) (h : ∀ Z, Rep K Z v d) (k : X.K = K := by rfl) (hg : Gl X x := by rfl) (hd : (x == ("__debug__" : Str)) = false := by decide) :
    DE K X W (.Name x pos) (tC v) (mC d) := ⟨k, pe_glob hg hm r hd, so_c h⟩
/-! ### operations on data -/
def pur {γ : Type} (k : D → Mi γ) : DV → Mi γ
  | .p d, s => k d s
  | .o _, _ => none
/-- the value of an operation: at the heap as it is, or with new objects -/
def PostP (K : PySem.W.Frag) (Z H : Hp) (d : D) (Q : VK) : Prop := ∀ v Z' H', ExtP Z H Z' H' → Rep K Z' v d → Q v H'
def ret (o : Option D) : EM := fun s => match o with
  | some d => some (.ok (.p d) s.m)
  | none => none
theorem PostP.of {Z H : Hp} {I : List Addr} {σ : St} {Q : VK} {d : D} {M : List O} (w : Wf K Z H I M) (p : PostR K W (RepV K) Z H I σ Q (.ok (.p d) M)) : PostP K Z H d Q :=
  fun v Z' H' x r => p v Z' H' I (w.extP x) (x.ext w) r
structure OpD (K : PySem.W.Frag) (X : Cx) (f : Value → Value → Sem Value) (r : R2) (g : D → D → Option D) : Prop where
  op : X.K = K → OpR X f r
  ok : ∀ (x y : V) (d e c : D) (Z H : Hp) (Q : VK), Same Z H → Rep K Z x d → Rep K Z y e → g d e = some c → PostP K Z H c Q → r x y H Q
def mBin (g : D → D → Option D) (m n : EM) : EM := bnd m (pur fun d => bnd n (pur fun e => ret (g d e)))
theorem so_bin {r : R2} {g : D → D → Option D} {ta tb : TE} {m n : EM} (h : ∀ (x y : V) (d e c : D) (Z H : Hp) (Q : VK), Same Z H → Rep K Z x d → Rep K Z y e → g d e = some c → PostP K Z H c Q → r x y H Q)
    (ha : Sound K W (RepV K) ta m) (hb : Sound K W (RepV K) tb n) : Sound K W (RepV K) (tOp r ta tb) (mBin g m n) := ⟨fun σ H s Z I r0 Q w rs e p => by
  refine ha.bnd w rs e (p.x) fun d v M1 Z1 H1 I1 w1 rs1 x1 q1 e1 => ?_
  cases d with
  | o n => cases e1
  | p d =>
  have p1 := p.mono x1
  refine hb.bnd (s := ⟨s.l, M1⟩) w1 rs1 e1 (p1.x) fun d2 v2 M2 Z2 H2 I2 w2 rs2 x2 q2 e2 => ?_
  cases d2 with
  | o n => cases e2
  | p d2 =>
  have p2 := p1.mono x2
  have e3 : ret (g d d2) ⟨s.l, M2⟩ = some r0 := e2
  unfold ret at e3
  cases q : g d d2 with
  | none => rw [q] at e3; cases e3
  | some c =>
    rw [q] at e3
    obtain rfl := Option.some.inj e3
    exact h v v2 d d2 c Z2 H2 Q w2.sub (Rep.mono x2.z q1) q2 q (PostP.of w2 p2)⟩
theorem de_bin {op : Operator} {r : R2} {g : D → D → Option D} {ta tb : TE} {m n : EM} (h : OpD K X (binaryOp op) r g) (ha : DE K X W a ta m) (hb : DE K X W b tb n) : DE K X W (.BinOp a op b pos) (tOp r ta tb) (mBin g m n) :=
  ⟨ha.k, pe_op (h.op ha.k) ha.pe hb.pe, so_bin h.ok ha.so hb.so⟩
theorem de_cmp {op : CmpOp} {r : R2} {g : D → D → Option D} {ta tb : TE} {m n : EM} (h : OpD K X (compareOp op) r g) (ha : DE K X W a ta m) (hb : DE K X W b tb n) (hm : behindInMarks op b = false := by first | exact nomark _ | rfl) : DE K X W (.Compare a [op] [b] pos) (tOp r ta tb) (mBin g m n) :=
  ⟨ha.k, pe_cmpR (h.op ha.k) ha.pe hb.pe hm, so_bin h.ok ha.so hb.so⟩
theorem so_test {t : TE} {m : EM} (h : Sound K W (RepV K) t m) (hb : ∀ s r, m s = some r → ∀ v M, r = .ok v M → ∃ b, v = .p (.bl b)) : Sound K W RepB (tTest t) m := ⟨fun σ H s Z I r Q w rs e p => by
  refine h.ok σ H s Z I r _ w rs e ?_
  cases r with
  | ex c fs M => exact p
  | ok v M =>
    obtain ⟨b, rfl⟩ := hb s _ e v M rfl
    intro v Z' H' I' w' x' r'
    cases r'
    exact ⟨b, rfl, p b Z' H' I' w' x' rfl⟩⟩
/-- a result that is a truth -/
def boolD (g : D → D → Option D) : Prop := ∀ d e c, g d e = some c → ∃ b, c = .bl b
theorem bnd_ok {α γ : Type} {m : Mi α} {k : α → Mi γ} {s : S} {v : γ} {M : List O} (e : bnd m k s = some (.ok v M)) : ∃ a M1, m s = some (.ok a M1) ∧ k a ⟨s.l, M1⟩ = some (.ok v M) := by
  unfold bnd at e
  cases q : m s with
  | none => rw [q] at e; cases e
  | some r0 =>
    rw [q] at e
    cases r0 with
    | ok a M1 => exact ⟨a, M1, rfl, e⟩
    | ex c f M1 => cases e
theorem pur_ok {γ : Type} {k : D → Mi γ} {v : DV} {s : S} {r : Rs γ} (e : pur k v s = some r) : ∃ d, v = .p d ∧ k d s = some r := by
  cases v with
  | p d => exact ⟨d, rfl, e⟩
  | o n => cases e
theorem ret_ok {o : Option D} {s : S} {r : Rs DV} (e : ret o s = some r) : ∃ d, o = some d ∧ r = .ok (.p d) s.m := by
  cases o with
  | none => cases e
  | some d => exact ⟨d, rfl, (Option.some.inj e).symm⟩
theorem mBin_bool {g : D → D → Option D} {m n : EM} (hg : boolD g) (s : S) (r : Rs DV) (e : mBin g m n s = some r) (v : DV) (M : List O) (hr : r = .ok v M) : ∃ b, v = .p (.bl b) := by
  subst hr
  obtain ⟨a, M1, _, e⟩ := bnd_ok e
  obtain ⟨d, _, e⟩ := pur_ok e
  obtain ⟨a2, M2, _, e⟩ := bnd_ok e
  obtain ⟨d2, _, e⟩ := pur_ok e
  obtain ⟨c, q, e⟩ := ret_ok e
  cases e
  obtain ⟨b, rfl⟩ := hg _ _ _ q
  exact ⟨b, rfl⟩
theorem dt_cmp {op : CmpOp} {r : R2} {g : D → D → Option D} {ta tb : TE} {m n : EM} (h : OpD K X (compareOp op) r g) (hg : boolD g) (ha : DE K X W a ta m) (hb : DE K X W b tb n) (hm : behindInMarks op b = false := by first | exact nomark _ | rfl) : DT K X W (.Compare a [op] [b] pos) (tTest (tOp r ta tb)) (mBin g m n) :=
  ⟨ha.k, pt_cmpR (h.op ha.k) ha.pe hb.pe hm, so_test (so_bin h.ok ha.so hb.so) (mBin_bool hg)⟩
/-! the ints -/
def dI (g : Int → Int → Option D) : D → D → Option D
  | .int i, .int j => g i j
  | _, _ => none
theorem ok_rI {C : Int → Int → Prop} {h : Int → Int → V} {g : Int → Int → Option D} (hc : ∀ i j c, g i j = some c → C i j ∧ ∀ Z, Rep K Z (h i j) c) : ∀ (x y : V) (d e c : D) (Z H : Hp) (Q : VK), Same Z H → Rep K Z x d → Rep K Z y e → dI g d e = some c → PostP K Z H c Q → rI C h x y H Q := by
  intro x y d e c Z H Q s hx hy hg p
  unfold dI at hg
  split at hg
  · cases hx; cases hy
    obtain ⟨h1, h2⟩ := hc _ _ _ hg
    exact ⟨_, _, rfl, rfl, h1, p _ Z H (ExtP.refl s) (h2 Z)⟩
  · cases hg
theorem ok_rI0 {h : Int → Int → V} {g : Int → Int → Option D} (hc : ∀ i j c, g i j = some c → ∀ Z, Rep K Z (h i j) c) : ∀ (x y : V) (d e c : D) (Z H : Hp) (Q : VK), Same Z H → Rep K Z x d → Rep K Z y e → dI g d e = some c → PostP K Z H c Q → rI0 h x y H Q := by
  intro x y d e c Z H Q s hx hy hg p
  unfold dI at hg
  split at hg
  · cases hx; cases hy
    exact ⟨_, _, rfl, rfl, p _ Z H (ExtP.refl s) (hc _ _ _ hg Z)⟩
  · cases hg
abbrev dIi (g : Int → Int → Int) : D → D → Option D := dI fun i j => some (.int (g i j))
abbrev dIb (g : Int → Int → Bool) : D → D → Option D := dI fun i j => some (.bl (g i j))
def dAdd : D → D → Option D
  | .int i, .int j => some (.int (i + j))
  | .str x, .str y => if x.length + y.length ≤ 1000000 then some (.str (x ++ y)) else none
  | _, _ => none
theorem size_le {n : Nat} (h : n ≤ 1000000) : n ≤ sizeLine := Nat.le_trans h (by decide)
theorem size_lt {n : Nat} (h : n ≤ 1000000) : n < sizeLine := Nat.lt_of_le_of_lt h (by decide)
theorem od_add : OpD K X (binaryOp .Add) (fun x y H Q => rI0 (fun i j => .int (i + j)) x y H Q ∨ ∃ i j, x = .str i ∧ y = .str j ∧ i.length + j.length ≤ sizeLine ∧ Q (.str (i ++ j)) H) dAdd where
  op := fun _ pins s σ H x y v u Q I rx ry h => by
    rcases h with h | h
    · exact op_add pins s σ H x y v u Q I rx ry h
    · exact op_add_str pins s σ H x y v u Q I rx ry h
  ok := by
    intro x y d e c Z H Q s hx hy hg p
    unfold dAdd at hg
    split at hg
    · cases hx; cases hy; cases hg
      exact .inl ⟨_, _, rfl, rfl, p _ Z H (ExtP.refl s) (.int _)⟩
    · split at hg
      · rename_i hl
        cases hx; cases hy; cases hg
        exact .inr ⟨_, _, rfl, rfl, size_le hl, p _ Z H (ExtP.refl s) (.str _)⟩
      · cases hg
    · cases hg
theorem od_sub : OpD K X (binaryOp .Sub) (rI0 fun i j => .int (i - j)) (dIi fun i j => i - j) := ⟨fun _ => op_sub, ok_rI0 fun i j c h Z => by cases h; exact .int _⟩
def mulOk (i j : Int) : Bool := decide (-(2 ^ 64) < i ∧ i < 2 ^ 64) || decide (-(2 ^ 64) < j ∧ j < 2 ^ 64)
theorem od_mul : OpD K X (binaryOp .Mult) (rI CMul fun i j => .int (i * j)) (dI fun i j => if mulOk i j = true then some (.int (i * j)) else none) := ⟨fun _ => op_mul, ok_rI fun i j c h => by
  split at h
  · rename_i hc
    cases h
    refine ⟨?_, fun _ => .int _⟩
    unfold mulOk at hc
    simp only [Bool.or_eq_true, decide_eq_true_eq] at hc
    exact hc
  · cases h⟩
end
end DL
namespace DL
open PySem L2
section
variable {K : PySem.W.Frag} {X : Cx} {W : WX} {e a b c : Expr} {pos : Pos}
/-! ### more ints -/
theorem od_fdiv : OpD K X (binaryOp .FloorDiv) (rI CDivW fun i j => .int (i / j)) (dI fun i j => if 0 < j ∧ j < 18446744073709551616 then some (.int (i / j)) else none) := ⟨fun _ => op_fdivW, ok_rI fun i j c h => by
  split at h
  · rename_i hc
    cases h
    exact ⟨wide_div hc.1 (b := 64) (by have : (2 : Nat) ^ 64 = 18446744073709551616 := by decide
                                       omega) (by decide) (by decide), fun _ => .int _⟩
  · cases h⟩
theorem od_mod : OpD K X (binaryOp .Mod) (rI (fun _ j => 0 < j) fun i j => .int (i % j)) (dI fun i j => if 0 < j then some (.int (i % j)) else none) := ⟨fun _ => op_mod, ok_rI fun i j c h => by
  split at h
  · rename_i hc; cases h; exact ⟨hc, fun _ => .int _⟩
  · cases h⟩
theorem od_lt : OpD K X (compareOp .Lt) (rI0 fun i j => .bl (decide (i < j))) (dIb fun i j => decide (i < j)) := ⟨fun _ => op_lt, ok_rI0 fun i j c h Z => by cases h; exact .bl _⟩
theorem od_le : OpD K X (compareOp .LtE) (rI0 fun i j => .bl (decide (i ≤ j))) (dIb fun i j => decide (i ≤ j)) := ⟨fun _ => op_le, ok_rI0 fun i j c h Z => by cases h; exact .bl _⟩
theorem od_gt : OpD K X (compareOp .Gt) (rI0 fun i j => .bl (decide (j < i))) (dIb fun i j => decide (j < i)) := ⟨fun _ => op_gt, ok_rI0 fun i j c h Z => by cases h; exact .bl _⟩
theorem od_ge : OpD K X (compareOp .GtE) (rI0 fun i j => .bl (decide (j ≤ i))) (dIb fun i j => decide (j ≤ i)) := ⟨fun _ => op_ge, ok_rI0 fun i j c h Z => by cases h; exact .bl _⟩
theorem bool_dIb {g : Int → Int → Bool} : boolD (dIb g) := fun d e c h => by
  unfold dIb dI at h
  split at h
  · exact ⟨_, (Option.some.inj h).symm⟩
  · cases h
/-! ### one value in -/
def mUn (g : D → Option D) (m : EM) : EM := bnd m (pur fun d => ret (g d))
theorem so_un {r : V → Hp → VK → Prop} {g : D → Option D} {ta : TE} {m : EM} (h : ∀ (x : V) (d c : D) (Z H : Hp) (Q : VK), Same Z H → Rep K Z x d → g d = some c → PostP K Z H c Q → r x H Q)
    (ha : Sound K W (RepV K) ta m) : Sound K W (RepV K) (tUn r ta) (mUn g m) := ⟨fun σ H s Z I r0 Q w rs e p => by
  refine ha.bnd w rs e (p.x) fun d v M1 Z1 H1 I1 w1 rs1 x1 q1 e1 => ?_
  obtain ⟨d, rfl, e1⟩ := pur_ok e1
  obtain ⟨c, q, rfl⟩ := ret_ok e1
  exact h v d c Z1 H1 Q w1.sub q1 q (PostP.of w1 (p.mono x1))⟩
theorem de_neg {ta : TE} {m : EM} (ha : DE K X W a ta m) : DE K X W (.UnaryOp .USub a pos) (tUn (rU fun i => .int (-i)) ta) (mUn (fun d => match d with | .int i => some (.int (-i)) | _ => none) m) :=
  ⟨ha.k, pe_un un_neg ha.pe, so_un (fun x d c Z H Q s hx hg p => by
    split at hg
    · cases hx; cases hg; exact ⟨_, rfl, p _ Z H (ExtP.refl s) (.int _)⟩
    · cases hg) ha.so⟩
/-! ### is None -/
def isN : D → Bool
  | .non => true
  | _ => false
theorem rep_isN {Z : Hp} {x : V} {d : D} (h : Rep K Z x d) : decide (x = .non) = isN d := by
  cases h <;> rfl
def isNV : DV → Bool
  | .p d => isN d
  | .o _ => false
theorem repV_isN {Z : Hp} {I : List Addr} {x : V} {d : DV} (h : RepV K Z I x d) : decide (x = .non) = isNV d := by
  cases d with
  | p d => exact rep_isN h
  | o n => obtain ⟨a, _, rfl⟩ := h; rfl
def mIsN (m : EM) : EM := bnd m fun d s => some (.ok (.p (.bl (isNV d))) s.m)
def mNotN (m : EM) : EM := bnd m fun d s => some (.ok (.p (.bl (!isNV d))) s.m)
theorem so_isN {ta : TE} {m : EM} (ha : Sound K W (RepV K) ta m) : Sound K W (RepV K) (tIsN ta) (mIsN m) := ⟨fun σ H s Z I r0 Q w rs e p => by
  refine ha.bnd w rs e (p.x) fun d v M1 Z1 H1 I1 w1 rs1 x1 q1 e1 => ?_
  obtain rfl := Option.some.inj e1
  rw [repV_isN q1]
  exact p _ Z1 H1 I1 w1 x1 (.bl _)⟩
theorem so_notN {ta : TE} {m : EM} (ha : Sound K W (RepV K) ta m) : Sound K W (RepV K) (tNotN ta) (mNotN m) := ⟨fun σ H s Z I r0 Q w rs e p => by
  refine ha.bnd w rs e (p.x) fun d v M1 Z1 H1 I1 w1 rs1 x1 q1 e1 => ?_
  obtain rfl := Option.some.inj e1
  rw [repV_isN q1]
  exact p _ Z1 H1 I1 w1 x1 (.bl _)⟩
theorem so_B {t : TE} {m : EM} (h : Sound K W (RepV K) t m) (hb : ∀ s r, m s = some r → ∀ v M, r = .ok v M → ∃ b, v = .p (.bl b)) : Sound K W RepB (tB t) m := so_test h hb
theorem mIsN_bool {m : EM} (s : S) (r : Rs DV) (e : mIsN m s = some r) (v : DV) (M : List O) (hr : r = .ok v M) : ∃ b, v = .p (.bl b) := by
  subst hr
  obtain ⟨a, M1, _, e⟩ := bnd_ok e
  cases e; exact ⟨_, rfl⟩
theorem mNotN_bool {m : EM} (s : S) (r : Rs DV) (e : mNotN m s = some r) (v : DV) (M : List O) (hr : r = .ok v M) : ∃ b, v = .p (.bl b) := by
  subst hr
  obtain ⟨a, M1, _, e⟩ := bnd_ok e
  cases e; exact ⟨_, rfl⟩
theorem de_isN {ta : TE} {m : EM} {j} {pos' : Pos} (ha : DE K X W a ta m) : DE K X W (.Compare a [.Is] [.Constant .none j pos'] pos) (tIsN ta) (mIsN m) := ⟨ha.k, pe_cmp (pc_isN ha.pe), so_isN ha.so⟩
theorem de_notN {ta : TE} {m : EM} {j} {pos' : Pos} (ha : DE K X W a ta m) : DE K X W (.Compare a [.IsNot] [.Constant .none j pos'] pos) (tNotN ta) (mNotN m) := ⟨ha.k, pe_cmp (pc_notN ha.pe), so_notN ha.so⟩
theorem dt_isN {ta : TE} {m : EM} {j} {pos' : Pos} (ha : DE K X W a ta m) : DT K X W (.Compare a [.Is] [.Constant .none j pos'] pos) (tB (tIsN ta)) (mIsN m) := ⟨ha.k, pt_cmp (pc_isN ha.pe), so_B (so_isN ha.so) mIsN_bool⟩
theorem dt_notN {ta : TE} {m : EM} {j} {pos' : Pos} (ha : DE K X W a ta m) : DT K X W (.Compare a [.IsNot] [.Constant .none j pos'] pos) (tB (tNotN ta)) (mNotN m) := ⟨ha.k, pt_cmp (pc_notN ha.pe), so_B (so_notN ha.so) mNotN_bool⟩
/-! ### truth -/
def truD : D → Option Bool
  | .non => some false
  | .bl b => some b
  | .int i => some (i != 0)
  | .str y => if y.length ≤ 1000000 then some (!(y.length == 0)) else none
  | .lst xs => some (!xs.isEmpty)
  | .tup xs => some (!xs.isEmpty)
  | .ktup xs => some (!xs.isEmpty)
  | .klst xs => some (!xs.isEmpty)
  | _ => none
def truO : Option O → Option Bool
  | some (.lst xs) => some (!xs.isEmpty)
  | some (.dK xs) => some (!xs.isEmpty)
  | _ => none
def truM (M : List O) : DV → Option Bool
  | .p d => truD d
  | .o n => truO M[n]?
def mTru (m : EM) : EM := bnd m fun d s => match truM s.m d with
  | some b => some (.ok (.p (.bl b)) s.m)
  | none => none
theorem isEmpty_len {α β : Type} {xs : List α} {ys : List β} (h : xs.length = ys.length) : xs.isEmpty = ys.isEmpty := by
  cases xs <;> cases ys <;> first | rfl | cases h
theorem truV_of {Z H : Hp} {I : List Addr} {M : List O} {x : V} {d : DV} {b : Bool} (w : Wf K Z H I M) (h : RepV K Z I x d) (e : truM M d = some b) : TruV K x H b := by
  cases d with
  | o n =>
    obtain ⟨a, ha, rfl⟩ := h
    have e : truO M[n]? = some b := e
    cases q : M[n]? with
    | none => rw [q] at e; cases e
    | some o =>
      rw [q] at e
      cases o with
      | lst xs =>
        obtain ⟨_, ys, h1, h2⟩ := w.ob n a _ ha q (by intro z; cases z)
        cases e
        exact .inl ⟨ys, SqL.of h1, by rw [isEmpty_len (paired_len h2)]⟩
      | dK xs =>
        obtain ⟨_, ys, h1, h2⟩ := w.ob n a _ ha q (by intro z; cases z)
        cases e
        exact .inr (.inr ⟨ys, h1, by rw [isEmpty_len (paired_len h2)]⟩)
      | _ => cases e
  | p d =>
    have h : Rep K Z x d := h
    have e : truD d = some b := e
    cases h with
    | non => cases e; rfl
    | bl k => cases e; rfl
    | int i => cases e; rfl
    | str y =>
      have e : (if y.length ≤ 1000000 then some (!(y.length == 0)) else none) = some b := e
      split at e
      · rename_i hl
        cases e
        refine ⟨size_le hl, ?_⟩
        cases hz : y.length with
        | zero => rfl
        | succ n =>
          have : ¬ ((n : Int) + 1 = 0) := by omega
          simp [this]
      · cases e
    | lst h1 h2 => cases e; exact .inl ⟨_, .inl (same_rd w.sub h1), by rw [isEmpty_len h2.length]⟩
    | tup h1 h2 => cases e; exact .inr (.inl ⟨_, sqt w.sub h1, by rw [isEmpty_len h2.length]⟩)
    | ktup h1 h2 => cases e; exact .inr (.inl ⟨_, same_t w.sub h1, by rw [isEmpty_len h2.length]⟩)
    | klst h1 h2 => cases e; exact .inl ⟨_, same_l w.sub h1, by rw [isEmpty_len h2.length]⟩
    | dK _ _ => cases e
    | dT _ _ => cases e
    | fn _ => cases e
    | scr _ _ => cases e
    | ty _ => cases e
    | rng _ => cases e
theorem dt_tru {ta : TE} {m : EM} (ha : DE K X W a ta m) (he : ∀ whole, isTrue a X.env whole = (do let v ← whole; standAt a.pos; holding [v] (truthy v)) := by intro _; rfl) : DT K X W a (fun σ H Q => ta σ H fun x H' => ∃ k, TruV K x H' k ∧ Q k H') (mTru m) := by
  refine ⟨ha.k, ?_, ⟨fun σ H s Z I r0 Q w rs e p => ?_⟩⟩
  · rw [← ha.k]; exact pt_truth ha.pe he
  refine ha.so.bnd w rs e (p.x) fun d v M1 Z1 H1 I1 w1 rs1 x1 q1 e1 => ?_
  have e1 : (match truM M1 d with | some b => some (Rs.ok (DV.p (.bl b)) M1) | none => none) = some r0 := e1
  cases q : truM M1 d with
  | none => rw [q] at e1; cases e1
  | some k =>
    rw [q] at e1
    obtain rfl := Option.some.inj e1
    exact ⟨k, truV_of w1 q1 q, p k Z1 H1 I1 w1 x1 rfl⟩
/-! ### and, or, not, if-else -/
def ifM {γ : Type} (n k : Mi γ) : DV → Mi γ
  | .p (.bl true), s => n s
  | .p (.bl false), s => k s
  | _, _ => none
def fls : EM := fun s => some (.ok (.p (.bl false)) s.m)
def tru : EM := fun s => some (.ok (.p (.bl true)) s.m)
def mAnd (m n : EM) : EM := bnd m (ifM n fls)
def mOr (m n : EM) : EM := bnd m (ifM tru n)
def mNot (m : EM) : EM := bnd m (ifM fls tru)
def mIf (c m n : EM) : EM := bnd c (ifM m n)
theorem so_and {t u : TT} {m n : EM} (ha : Sound K W RepB t m) (hb : Sound K W RepB u n) : Sound K W RepB (tAnd t u) (mAnd m n) := ⟨fun σ H s Z I r0 Q w rs e p => by
  refine ha.bnd w rs e (p.x) fun d v M1 Z1 H1 I1 w1 rs1 x1 q1 e1 => ?_
  cases (show d = .p (.bl v) from q1)
  cases v with
  | true => exact hb.ok σ H1 ⟨s.l, M1⟩ Z1 I1 r0 Q w1 rs1 e1 (p.mono x1)
  | false => cases e1; exact p false Z1 H1 I1 w1 x1 rfl⟩
theorem so_or {t u : TT} {m n : EM} (ha : Sound K W RepB t m) (hb : Sound K W RepB u n) : Sound K W RepB (tOr t u) (mOr m n) := ⟨fun σ H s Z I r0 Q w rs e p => by
  refine ha.bnd w rs e (p.x) fun d v M1 Z1 H1 I1 w1 rs1 x1 q1 e1 => ?_
  cases (show d = .p (.bl v) from q1)
  cases v with
  | false => exact hb.ok σ H1 ⟨s.l, M1⟩ Z1 I1 r0 Q w1 rs1 e1 (p.mono x1)
  | true => cases e1; exact p true Z1 H1 I1 w1 x1 rfl⟩
theorem so_not {t : TT} {m : EM} (ha : Sound K W RepB t m) : Sound K W RepB (tNot t) (mNot m) := ⟨fun σ H s Z I r0 Q w rs e p => by
  refine ha.bnd w rs e (p.x) fun d v M1 Z1 H1 I1 w1 rs1 x1 q1 e1 => ?_
  cases (show d = .p (.bl v) from q1)
  cases v with
  | false => cases e1; exact p true Z1 H1 I1 w1 x1 rfl
  | true => cases e1; exact p false Z1 H1 I1 w1 x1 rfl⟩
theorem dw_and1 {t : TT} {m : EM} (ha : DT K X W a t m) : DW K X W (.BoolOp .And [a] pos) t m := ⟨ha.k, pw_and1 ha.pt, ha.so⟩
theorem dw_or1 {t : TT} {m : EM} (ha : DT K X W a t m) : DW K X W (.BoolOp .Or [a] pos) t m := ⟨ha.k, pw_or1 ha.pt, ha.so⟩
theorem dw_and {t u : TT} {m n : EM} {rest : List Expr} (ha : DT K X W a t m) (hb : DW K X W (.BoolOp .And (b :: rest) pos) u n) : DW K X W (.BoolOp .And (a :: b :: rest) pos) (tAnd t u) (mAnd m n) := ⟨ha.k, pw_and ha.pt hb.pw, so_and ha.so hb.so⟩
theorem dw_or {t u : TT} {m n : EM} {rest : List Expr} (ha : DT K X W a t m) (hb : DW K X W (.BoolOp .Or (b :: rest) pos) u n) : DW K X W (.BoolOp .Or (a :: b :: rest) pos) (tOr t u) (mOr m n) := ⟨ha.k, pw_or ha.pt hb.pw, so_or ha.so hb.so⟩
theorem dt_w {t : TT} {m : EM} (h : DW K X W a t m) : DT K X W a t m := ⟨h.k, h.pw.pt, h.so⟩
theorem dt_not {t : TT} {m : EM} (h : DT K X W a t m) : DT K X W (.UnaryOp .Not a pos) (tNot t) (mNot m) := ⟨h.k, pt_not h.pt, so_not h.so⟩
/-- as values -/
theorem so_andV {t u : TE} {m n : EM} (ha : Sound K W (RepV K) t m) (hb : Sound K W (RepV K) u n) : Sound K W (RepV K) (tAndV t u) (mAnd m n) := ⟨fun σ H s Z I r0 Q w rs e p => by
  refine ha.bnd w rs e (p.x) fun d v M1 Z1 H1 I1 w1 rs1 x1 q1 e1 => ?_
  unfold ifM at e1
  split at e1
  · cases q1; exact ⟨true, rfl, by rw [if_pos rfl]; exact hb.ok σ H1 ⟨s.l, M1⟩ Z1 I1 r0 Q w1 rs1 e1 (p.mono x1)⟩
  · cases q1; cases e1; exact ⟨false, rfl, by rw [if_neg Bool.false_ne_true]; exact p _ Z1 H1 I1 w1 x1 (.bl _)⟩
  · cases e1⟩
theorem so_orV {t u : TE} {m n : EM} (ha : Sound K W (RepV K) t m) (hb : Sound K W (RepV K) u n) : Sound K W (RepV K) (tOrV t u) (mOr m n) := ⟨fun σ H s Z I r0 Q w rs e p => by
  refine ha.bnd w rs e (p.x) fun d v M1 Z1 H1 I1 w1 rs1 x1 q1 e1 => ?_
  unfold ifM at e1
  split at e1
  · cases q1; cases e1; exact ⟨true, rfl, by rw [if_pos rfl]; exact p _ Z1 H1 I1 w1 x1 (.bl _)⟩
  · cases q1; exact ⟨false, rfl, by rw [if_neg Bool.false_ne_true]; exact hb.ok σ H1 ⟨s.l, M1⟩ Z1 I1 r0 Q w1 rs1 e1 (p.mono x1)⟩
  · cases e1⟩
theorem so_notV {t : TE} {m : EM} (ha : Sound K W (RepV K) t m) : Sound K W (RepV K) (tNotV t) (mNot m) := ⟨fun σ H s Z I r0 Q w rs e p => by
  refine ha.bnd w rs e (p.x) fun d v M1 Z1 H1 I1 w1 rs1 x1 q1 e1 => ?_
  unfold ifM at e1
  split at e1
  · cases q1; cases e1; exact ⟨true, rfl, p _ Z1 H1 I1 w1 x1 (.bl _)⟩
  · cases q1; cases e1; exact ⟨false, rfl, p _ Z1 H1 I1 w1 x1 (.bl _)⟩
  · cases e1⟩
theorem de_one {op} {t : TE} {m : EM} (ha : DE K X W a t m) : DE K X W (.BoolOp op [a] pos) t m := ⟨ha.k, pe_one ha.pe, ha.so⟩
theorem de_and {t u : TE} {m n : EM} {rest : List Expr} (ha : DE K X W a t m) (hb : DE K X W (.BoolOp .And (b :: rest) pos) u n) : DE K X W (.BoolOp .And (a :: b :: rest) pos) (tAndV t u) (mAnd m n) := ⟨ha.k, pe_and ha.pe hb.pe, so_andV ha.so hb.so⟩
theorem de_or {t u : TE} {m n : EM} {rest : List Expr} (ha : DE K X W a t m) (hb : DE K X W (.BoolOp .Or (b :: rest) pos) u n) : DE K X W (.BoolOp .Or (a :: b :: rest) pos) (tOrV t u) (mOr m n) := ⟨ha.k, pe_or ha.pe hb.pe, so_orV ha.so hb.so⟩
theorem de_not {t : TE} {m : EM} (h : DE K X W a t m) : DE K X W (.UnaryOp .Not a pos) (tNotV t) (mNot m) := ⟨h.k, pe_not h.pe, so_notV h.so⟩
theorem so_ifE {t : TT} {ta tb : TE} {m n k : EM} (hc : Sound K W RepB t m) (ha : Sound K W (RepV K) ta n) (hb : Sound K W (RepV K) tb k) : Sound K W (RepV K) (tIf t ta tb) (mIf m n k) := ⟨fun σ H s Z I r0 Q w rs e p => by
  refine hc.bnd w rs e (p.x) fun d v M1 Z1 H1 I1 w1 rs1 x1 q1 e1 => ?_
  cases (show d = .p (.bl v) from q1)
  cases v with
  | true => exact ha.ok σ H1 ⟨s.l, M1⟩ Z1 I1 r0 Q w1 rs1 e1 (p.mono x1)
  | false => exact hb.ok σ H1 ⟨s.l, M1⟩ Z1 I1 r0 Q w1 rs1 e1 (p.mono x1)⟩
theorem de_ifE {t : TT} {ta tb : TE} {m n k : EM} (hc : DT K X W c t m) (ha : DE K X W a ta n) (hb : DE K X W b tb k) : DE K X W (.IfExp c a b pos) (tIf t ta tb) (mIf m n k) := ⟨hc.k, pe_ifExp hc.pt ha.pe hb.pe, so_ifE hc.so ha.so hb.so⟩
/-- a value that is a truth, as a test -/
def asB (m : EM) : EM := bnd m (ifM tru fls)
theorem dt_val {t : TE} {m : EM} (h : DE K X W a t m) (he : ∀ whole, isTrue a X.env whole = (do let v ← whole; standAt a.pos; holding [v] (truthy v)) := by intro _; rfl) : DT K X W a (tB t) (asB m) := ⟨h.k, pt_val h.pe he, ⟨fun σ H s Z I r0 Q w rs e p => by
  refine h.so.bnd w rs e (p.x) fun d v M1 Z1 H1 I1 w1 rs1 x1 q1 e1 => ?_
  unfold ifM at e1
  split at e1
  · cases q1; cases e1; exact ⟨true, rfl, p true Z1 H1 I1 w1 x1 rfl⟩
  · cases q1; cases e1; exact ⟨false, rfl, p false Z1 H1 I1 w1 x1 rfl⟩
  · cases e1⟩⟩
/-! ### a chain of two comparisons -/
def mChain (g h : D → D → Option D) (m n k : EM) : EM := bnd m (pur fun d => bnd n (pur fun e => bnd (ret (g d e)) (ifM (bnd k (pur fun f => ret (h e f))) fls)))
theorem so_chain {r r' : R2} {g h : D → D → Option D} {ta tb tc : TE} {m n k : EM} (hg : ∀ (x y : V) (d e c : D) (Z H : Hp) (Q : VK), Same Z H → Rep K Z x d → Rep K Z y e → g d e = some c → PostP K Z H c Q → r x y H Q)
    (hh : ∀ (x y : V) (d e c : D) (Z H : Hp) (Q : VK), Same Z H → Rep K Z x d → Rep K Z y e → h d e = some c → PostP K Z H c Q → r' x y H Q)
    (ha : Sound K W (RepV K) ta m) (hb : Sound K W (RepV K) tb n) (hc : Sound K W (RepV K) tc k) : Sound K W (RepV K) (tChain r r' ta tb tc) (mChain g h m n k) := ⟨fun σ H s Z I r0 Q w rs e p => by
  refine ha.bnd w rs e (p.x) fun d v M1 Z1 H1 I1 w1 rs1 x1 q1 e1 => ?_
  obtain ⟨d, rfl, e1⟩ := pur_ok e1
  have p1 := p.mono x1
  refine hb.bnd (s := ⟨s.l, M1⟩) w1 rs1 e1 (p1.x) fun d2 v2 M2 Z2 H2 I2 w2 rs2 x2 q2 e2 => ?_
  obtain ⟨d2, rfl, e2⟩ := pur_ok e2
  have p2 := p1.mono x2
  cases hq : g d d2 with
  | none =>
    have e2 : bnd (ret (g d d2)) (ifM (bnd k (pur fun f => ret (h d2 f))) fls) ⟨s.l, M2⟩ = some r0 := e2
    rw [hq] at e2; cases e2
  | some c =>
    have e2 : bnd (ret (g d d2)) (ifM (bnd k (pur fun f => ret (h d2 f))) fls) ⟨s.l, M2⟩ = some r0 := e2
    rw [hq] at e2
    have e2 : ifM (bnd k (pur fun f => ret (h d2 f))) fls (.p c) ⟨s.l, M2⟩ = some r0 := e2
    refine hg v v2 d d2 c Z2 H2 _ w2.sub (Rep.mono x2.z q1) q2 hq fun v3 Z3 H3 x3 q3 => ?_
    have w3 := w2.extP x3
    have y3 := x3.ext w2
    have p3 := p2.mono y3
    have rs3 := rs2.mono y3
    unfold ifM at e2
    split at e2
    · rename_i hz
      cases hz
      cases q3
      refine ⟨true, rfl, ?_⟩
      rw [if_pos rfl]
      refine hc.bnd (s := ⟨s.l, M2⟩) w3 rs3 e2 (p3.x) fun d4 v4 M4 Z4 H4 I4 w4 rs4 x4 q4 e4 => ?_
      obtain ⟨d4, rfl, e4⟩ := pur_ok e4
      obtain ⟨c, q, rfl⟩ := ret_ok e4
      exact hh v2 v4 d2 d4 c Z4 H4 Q w4.sub (Rep.mono x4.z (Rep.mono x3.z q2)) q4 q (PostP.of w4 (p3.mono x4))
    · rename_i hz
      cases hz
      cases q3
      cases e2
      refine ⟨false, rfl, ?_⟩
      rw [if_neg Bool.false_ne_true]
      exact p3 _ Z3 H3 I2 w3 Ext.refl (.bl _)
    · cases e2⟩
theorem de_chain {op op' : CmpOp} {r r' : R2} {g h : D → D → Option D} {ta tb tc : TE} {m n k : EM} (hg : OpD K X (compareOp op) r g) (hh : OpD K X (compareOp op') r' h) (ha : DE K X W a ta m) (hb : DE K X W b tb n) (hc : DE K X W c tc k)
    (hm : lastMarks [op, op'] [b, c] = false := by with_unfolding_all rfl) : DE K X W (.Compare a [op, op'] [b, c] pos) (tChain r r' ta tb tc) (mChain g h m n k) :=
  ⟨ha.k, pe_chain (hg.op ha.k) (hh.op ha.k) ha.pe hb.pe hc.pe hm, so_chain hg.ok hh.ok ha.so hb.so hc.so⟩
theorem mChain_bool {g h : D → D → Option D} {m n k : EM} (hb : boolD h) (s : S) (r : Rs DV) (e : mChain g h m n k s = some r) (v : DV) (M : List O) (hr : r = .ok v M) : ∃ b, v = .p (.bl b) := by
  subst hr
  obtain ⟨a, M1, _, e⟩ := bnd_ok e
  obtain ⟨d, _, e⟩ := pur_ok e
  obtain ⟨a2, M2, _, e⟩ := bnd_ok e
  obtain ⟨d2, _, e⟩ := pur_ok e
  obtain ⟨a3, M3, _, e⟩ := bnd_ok e
  unfold ifM at e
  split at e
  · obtain ⟨a4, M4, _, e⟩ := bnd_ok e
    obtain ⟨d4, _, e⟩ := pur_ok e
    obtain ⟨c, q, e⟩ := ret_ok e
    cases e
    obtain ⟨b, rfl⟩ := hb _ _ _ q
    exact ⟨b, rfl⟩
  · cases e; exact ⟨_, rfl⟩
  · cases e
theorem dt_chain {op op' : CmpOp} {r r' : R2} {g h : D → D → Option D} {ta tb tc : TE} {m n k : EM} (hg : OpD K X (compareOp op) r g) (hh : OpD K X (compareOp op') r' h) (hbo : boolD h) (ha : DE K X W a ta m) (hb : DE K X W b tb n) (hc : DE K X W c tc k)
    (hm : lastMarks [op, op'] [b, c] = false := by with_unfolding_all rfl) : DT K X W (.Compare a [op, op'] [b, c] pos) (tTest (tChain r r' ta tb tc)) (mChain g h m n k) :=
  ⟨ha.k, pt_chain (hg.op ha.k) (hh.op ha.k) ha.pe hb.pe hc.pe hm, so_test (so_chain hg.ok hh.ok ha.so hb.so hc.so) (mChain_bool hbo)⟩
end
end DL
namespace DL
open PySem L2
section
variable {K : PySem.W.Frag} {Z H Z' H' : Hp} {I I' : List Addr} {M : List O}
/-! ### the store's steps -/
theorem RepO.ext {a : Addr} (x : Ext Z H I Z' H' I') (ha : H' a = H a) : ∀ {o : O}, RepO K Z I H a o → RepO K Z' I' H' a o
  | .lst _, ⟨xs, h, r⟩ => ⟨xs, ha.trans h, paired_imp (fun _ _ q => RepV.mono x q) r⟩
  | .dK _, ⟨xs, h, r⟩ => ⟨xs, ha.trans h, paired_imp (fun _ _ q => ⟨q.1, RepV.mono x q.2⟩) r⟩
  | .dT _, ⟨xs, h, r⟩ => ⟨xs, ha.trans h, paired_imp (fun _ _ q => ⟨q.1, RepV.mono x q.2⟩) r⟩
  | .ins _ _, ⟨dx, xs, h, r⟩ => ⟨dx, xs, ha.trans h, paired_imp (fun _ _ q => ⟨q.1, RepV.mono x q.2⟩) r⟩
  | .tbl _ _, ⟨e, ps, h, t, r⟩ => ⟨e, ps, ha.trans h, t, fun pos cv hc => by
      obtain ⟨c, h1, h2⟩ := r pos cv hc
      exact ⟨c, h1, x.z _ _ h2⟩⟩
  | .gone, _ => trivial
theorem ext_new {p : Addr} {o : HO} (s : Same Z H) (h : H p = none) : Ext Z H I Z (upd H p o) (I ++ [p]) where
  z := Same.refl _
  i := ⟨[p], rfl⟩
  fr := fun a u e _ => by rw [upd_ne (ne_of_none e h)]; exact e
  nw := fun a m => by
    rcases List.mem_append.mp m with k | k
    · exact .inl k
    · rw [List.mem_singleton.mp k]; exact .inr h
  zn := fun a e => .inl e
  tr := fun a e => by
    rw [upd_ne (fun q => e (by rw [q]; exact h))]; exact e
theorem Wf.newO (w : Wf K Z H I M) {p : Addr} {ho : HO} {o : O} (hp : H p = none) (r : RepO K Z (I ++ [p]) (upd H p ho) p o) : Wf K Z (upd H p ho) (I ++ [p]) (M ++ [o]) where
  sub := fun a u e => by rw [upd_ne (ne_of_none (w.sub a u e) hp)]; exact w.sub a u e
  len := by rw [List.length_append, List.length_append, w.len]; rfl
  nd := by
    refine List.nodup_append.mpr ⟨w.nd, by simp, fun a ha b hb => ?_⟩
    rw [List.mem_singleton.mp hb]
    intro q
    exact w.tr a ha (by rw [q]; exact hp)
  tr := fun a m => by
    rcases List.mem_append.mp m with k | k
    · rw [upd_ne (fun q => w.tr a k (by rw [q]; exact hp))]; exact w.tr a k
    · rw [List.mem_singleton.mp k, upd_same]; simp
  ob := fun n a o' h1 h2 h3 => by
    by_cases hn : n < I.length
    · rw [List.getElem?_append_left hn] at h1
      rw [List.getElem?_append_left (by rw [← w.len]; exact hn)] at h2
      obtain ⟨q1, q2⟩ := w.ob n a o' h1 h2 h3
      exact ⟨q1, q2.ext (ext_new w.sub hp) (upd_ne fun q => w.tr a (List.mem_of_getElem? h1) (by rw [q]; exact hp))⟩
    · have e1 : n = I.length := by
        have := (List.getElem?_eq_some_iff.mp h1).1
        rw [List.length_append, List.length_singleton] at this
        omega
      subst e1
      rw [List.getElem?_append_right (Nat.le_refl _), Nat.sub_self] at h1
      rw [List.getElem?_append_right (by rw [w.len]; exact Nat.le_refl _), w.len, Nat.sub_self] at h2
      cases h1
      cases h2
      exact ⟨none_of w.sub hp, r⟩
theorem ext_set {a : Addr} {ho : HO} (ha : a ∈ I) : Ext Z H I Z (upd H a ho) I where
  z := Same.refl _
  i := ⟨[], by simp⟩
  fr := fun b u e n => by rw [upd_ne (fun q => n (by rw [q]; exact ha))]; exact e
  nw := fun _ m => .inl m
  zn := fun _ e => .inl e
  tr := fun b e => by
    by_cases q : b = a
    · rw [q, upd_same]; simp
    · rw [upd_ne q]; exact e
theorem Wf.setO (w : Wf K Z H I M) {n : Nat} {a : Addr} {ho : HO} {o o' : O} (ha : I[n]? = some a) (hm : M[n]? = some o) (hg : o ≠ .gone) (r : RepO K Z I (upd H a ho) a o') : Wf K Z (upd H a ho) I (M.set n o') where
  sub := fun b u e => by
    have q := (w.ob n a o ha hm hg).1
    rw [upd_ne (fun z => by rw [z, q] at e; cases e)]; exact w.sub b u e
  len := by rw [List.length_set]; exact w.len
  nd := w.nd
  tr := fun b m => (ext_set (Z := Z) (I := I) (List.mem_of_getElem? ha)).tr b (w.tr b m)
  ob := fun j b u h1 h2 h3 => by
    by_cases q : n = j
    · subst q
      rw [ha] at h1; cases h1
      rw [List.getElem?_set_self (List.getElem?_eq_some_iff.mp hm).1] at h2
      cases h2
      exact ⟨(w.ob n a o ha hm hg).1, r⟩
    · rw [List.getElem?_set_ne q] at h2
      obtain ⟨q1, q2⟩ := w.ob j b u h1 h2 h3
      refine ⟨q1, q2.ext (ext_set (List.mem_of_getElem? ha)) (upd_ne fun z => ?_)⟩
      obtain ⟨l1, e1⟩ := List.getElem?_eq_some_iff.mp ha
      obtain ⟨l2, e2⟩ := List.getElem?_eq_some_iff.mp h1
      exact q ((List.getElem_inj w.nd).mp (e1.trans (z.symm.trans e2.symm)))
def allP : List DV → Option (List D)
  | [] => some []
  | .p d :: r => (allP r).map (d :: ·)
  | .o _ :: _ => none
theorem allP_rep : ∀ {vs : List V} {ds : List DV} {xs : List D}, RepVs K Z I vs ds → allP ds = some xs → RepA K Z vs xs
  | _, [], _, .nil, e => by cases e; exact .nil
  | _, .p d :: r, _, .cons h t, e => by
    have e : (allP r).map (d :: ·) = some _ := e
    cases q : allP r with
    | none => rw [q] at e; cases e
    | some ys =>
      rw [q] at e; cases e
      exact .cons h (allP_rep t q)
  | _, .o n :: r, _, .cons h t, e => by cases e
theorem allP_map : ∀ {vs : List V} {xs : List D}, RepA K Z vs xs → RepVs K Z I vs (xs.map .p)
  | _, _, .nil => .nil
  | _, _, .cons h t => .cons h (allP_map t)
/-- one's own list is given up: from now on it stays -/
theorem ext_frz {n : Nat} {a : Addr} {ho : HO} (w : Wf K Z H I M) (ha : I[n]? = some a) (hz : Z a = none) (hh : H a = some ho) : Ext Z H I (upd Z a ho) H I where
  z := same_upd hz
  i := ⟨[], by simp⟩
  fr := fun _ _ e _ => e
  nw := fun _ m => .inl m
  zn := fun b e => by
    by_cases q : b = a
    · rw [q]; exact .inr (.inr (List.mem_of_getElem? ha))
    · rw [upd_ne q] at e; exact .inl e
  tr := fun _ e => e
theorem Wf.frz (w : Wf K Z H I M) {n : Nat} {a : Addr} {ho : HO} {o : O} (ha : I[n]? = some a) (hm : M[n]? = some o) (hg : o ≠ .gone) (hh : H a = some ho) : Wf K (upd Z a ho) H I (M.set n .gone) where
  sub := fun b u e => by
    by_cases q : b = a
    · rw [q, upd_same] at e; rw [q, hh]; exact e
    · rw [upd_ne q] at e; exact w.sub b u e
  len := by rw [List.length_set]; exact w.len
  nd := w.nd
  tr := w.tr
  ob := fun j b u h1 h2 h3 => by
    by_cases q : n = j
    · subst q
      rw [List.getElem?_set_self (List.getElem?_eq_some_iff.mp hm).1] at h2
      cases h2
      exact absurd rfl h3
    · rw [List.getElem?_set_ne q] at h2
      obtain ⟨q1, q2⟩ := w.ob j b u h1 h2 h3
      have hz := (w.ob n a o ha hm hg).1
      refine ⟨?_, q2.ext (ext_frz w ha hz hh) rfl⟩
      rw [upd_ne fun z => ?_]
      · exact q1
      obtain ⟨l1, e1⟩ := List.getElem?_eq_some_iff.mp ha
      obtain ⟨l2, e2⟩ := List.getElem?_eq_some_iff.mp h1
      exact q ((List.getElem_inj w.nd).mp (e1.trans (z.symm.trans e2.symm)))
end
section
variable {K : PySem.W.Frag} {X : Cx} {W : WX} {e a b c : Expr} {es : List Expr} {pos : Pos}
/-! ### argument lists, displays -/
def aNil : AM := fun s => some (.ok [] s.m)
def aCons (m : EM) (ms : AM) : AM := bnd m fun d => bnd ms fun ds s => some (.ok (d :: ds) s.m)
theorem so_aNil : Sound K W (RepVs K) tNil aNil := ⟨fun σ H s Z I r Q w rs e p => by
  obtain rfl := Option.some.inj e
  exact p [] Z H I w Ext.refl .nil⟩
theorem so_aCons {ta : TE} {tr : TA} {m : EM} {ms : AM} (ha : Sound K W (RepV K) ta m) (hr : Sound K W (RepVs K) tr ms) : Sound K W (RepVs K) (tCons ta tr) (aCons m ms) := ⟨fun σ H s Z I r0 Q w rs e p => by
  refine ha.bnd w rs e (p.x) fun d v M1 Z1 H1 I1 w1 rs1 x1 q1 e1 => ?_
  have p1 := p.mono x1
  refine hr.bnd (s := ⟨s.l, M1⟩) w1 rs1 e1 (p1.x) fun ds vs M2 Z2 H2 I2 w2 rs2 x2 q2 e2 => ?_
  obtain rfl := Option.some.inj e2
  exact p1 _ Z2 H2 I2 w2 x2 (.cons (q1.mono x2) q2)⟩
theorem da_nil (k : X.K = K := by rfl) : DA K X W [] tNil aNil := ⟨k, pa_nil, so_aNil⟩
theorem da_cons {ta : TE} {tr : TA} {m : EM} {ms : AM} (ha : DE K X W e ta m) (hr : DA K X W es tr ms) (hs : starEach (e :: es) X.env = (false, eval e X.env) :: starEach es X.env := by rfl) : DA K X W (e :: es) (tCons ta tr) (aCons m ms) :=
  ⟨ha.k, pa_cons ha.pe hr.pa hs, so_aCons ha.so hr.so⟩
def disp (g : List D → D) (ms : AM) : EM := bnd ms fun ds s => match allP ds with
  | some xs => if xs.length ≤ 1000000 then some (.ok (.p (g xs)) s.m) else none
  | none => none
theorem so_tup {t : TA} {ms : AM} (h : Sound K W (RepVs K) t ms) : Sound K W (RepV K) (tTup t) (disp .tup ms) := ⟨fun σ H s Z I r0 Q w rs e p => by
  refine h.bnd w rs e (p.x) fun ds vs M1 Z1 H1 I1 w1 rs1 x1 q1 e1 => ?_
  have e1 : (match allP ds with | some xs => if xs.length ≤ 1000000 then some (Rs.ok (DV.p (D.tup xs)) M1) else none | none => none) = some r0 := e1
  cases q : allP ds with
  | none => rw [q] at e1; cases e1
  | some xs =>
    rw [q] at e1
    have e1 : (if xs.length ≤ 1000000 then some (Rs.ok (DV.p (D.tup xs)) M1) else none) = some r0 := e1
    split at e1
    · rename_i hl
      obtain rfl := Option.some.inj e1
      have ra := allP_rep q1 q
      refine ⟨by rw [ra.length]; exact size_le hl, fun l hl => ?_⟩
      have y := ExtP.new (o := .tup vs) w1.sub hl
      exact (p.mono x1) _ _ _ I1 (w1.extP y) (y.ext w1) (.tup upd_same (ra.mono y.z))
    · cases e1⟩
theorem so_lst {t : TA} {ms : AM} (h : Sound K W (RepVs K) t ms) : Sound K W (RepV K) (tLst t) (disp .lst ms) := ⟨fun σ H s Z I r0 Q w rs e p => by
  refine h.bnd w rs e (p.x) fun ds vs M1 Z1 H1 I1 w1 rs1 x1 q1 e1 => ?_
  have e1 : (match allP ds with | some xs => if xs.length ≤ 1000000 then some (Rs.ok (DV.p (D.lst xs)) M1) else none | none => none) = some r0 := e1
  cases q : allP ds with
  | none => rw [q] at e1; cases e1
  | some xs =>
    rw [q] at e1
    have e1 : (if xs.length ≤ 1000000 then some (Rs.ok (DV.p (D.lst xs)) M1) else none) = some r0 := e1
    split at e1
    · rename_i hl
      obtain rfl := Option.some.inj e1
      have ra := allP_rep q1 q
      refine ⟨by rw [ra.length]; exact size_le hl, fun l hl => ?_⟩
      have y := ExtP.new (o := .lst vs) w1.sub hl
      exact (p.mono x1) _ _ _ I1 (w1.extP y) (y.ext w1) (.lst (.inl upd_same) (ra.mono y.z))
    · cases e1⟩
def dispO (ms : AM) : EM := bnd ms fun ds s => if ds.length ≤ 1000000 then some (.ok (.o s.m.length) (s.m ++ [.lst ds])) else none
theorem so_lstO {t : TA} {ms : AM} (h : Sound K W (RepVs K) t ms) : Sound K W (RepV K) (tLst t) (dispO ms) := ⟨fun σ H s Z I r0 Q w rs e p => by
  refine h.bnd w rs e (p.x) fun ds vs M1 Z1 H1 I1 w1 rs1 x1 q1 e1 => ?_
  have e1 : (if ds.length ≤ 1000000 then some (Rs.ok (DV.o M1.length) (M1 ++ [.lst ds])) else none) = some r0 := e1
  split at e1
  · rename_i hl
    obtain rfl := Option.some.inj e1
    refine ⟨by rw [paired_len q1]; exact size_le hl, fun l hp => ?_⟩
    have y := ext_new (I := I1) (o := .lst vs) w1.sub hp
    refine (p.mono x1) _ Z1 _ (I1 ++ [l]) (w1.newO hp ⟨vs, upd_same, paired_imp (fun _ _ q => RepV.mono y q) q1⟩) y ⟨l, ?_, rfl⟩
    rw [← w1.len, List.getElem?_append_right (Nat.le_refl _), Nat.sub_self]
    rfl
  · cases e1⟩
theorem de_tup {t : TA} {ms : AM} {x1} (h : DA K X W es t ms) : DE K X W (.Tuple es x1 pos) (tTup t) (disp .tup ms) := ⟨h.k, pe_tup h.pa, so_tup h.so⟩
theorem de_lst {t : TA} {ms : AM} (h : DA K X W es t ms) : DE K X W (.List es pos) (tLst t) (disp .lst ms) := ⟨h.k, pe_lst h.pa, so_lst h.so⟩
theorem de_lstO {t : TA} {ms : AM} (h : DA K X W es t ms) : DE K X W (.List es pos) (tLst t) (dispO ms) := ⟨h.k, pe_lst h.pa, so_lstO h.so⟩
/-! ### an item -/
def ixD : D → Int → Option D
  | .lst xs, i => atI xs i
  | .tup xs, i => atI xs i
  | .ktup xs, i => atI xs i
  | .klst xs, i => atI xs i
  | .str z, i => if z.length ≤ 1000000 then (atI z.cps.toList i).map fun c => .str ⟨#[c]⟩ else none
  | _, _ => none
def ixO : Option O → Int → Option DV
  | some (.lst xs), i => atI xs i
  | _, _ => none
def ixM (M : List O) : DV → Int → Option DV
  | .p d, i => (ixD d i).map .p
  | .o n, i => ixO M[n]? i
def mIx (m n : EM) : EM := bnd m fun d => bnd n (pur fun i s => match i with
  | .int i => match ixM s.m d i with
    | some c => some (.ok c s.m)
    | none => none
  | _ => none)
theorem atI_get {α : Type} {xs : List α} {i : Int} {x : α} (h : atI xs i = some x) : ∃ j, ixN xs.length i = some j ∧ xs[j]? = some x := by
  unfold atI at h
  cases q : ixN xs.length i with
  | none => rw [q] at h; cases h
  | some j => rw [q] at h; exact ⟨j, rfl, h⟩
theorem atI_rep {Z : Hp} {xs : List V} {ds : List D} {i : Int} {d : D} (r : RepA K Z xs ds) (h : atI ds i = some d) : ∃ v, atI xs i = some v ∧ Rep K Z v d := by
  obtain ⟨j, h1, h2⟩ := atI_get h
  obtain ⟨v, h3, h4⟩ := r.get h2
  exact ⟨v, by unfold atI; rw [r.length, h1]; exact h3, h4⟩
theorem atI_repV {Z : Hp} {I : List Addr} {xs : List V} {ds : List DV} {i : Int} {d : DV} (r : RepVs K Z I xs ds) (h : atI ds i = some d) : ∃ v, atI xs i = some v ∧ RepV K Z I v d := by
  obtain ⟨j, h1, h2⟩ := atI_get h
  obtain ⟨v, h3, h4⟩ := paired_get r h2
  exact ⟨v, by unfold atI; rw [paired_len r, h1]; exact h3, h4⟩
theorem ix_ok {Z H : Hp} {I : List Addr} {M : List O} {x : V} {d c : DV} {i : Int} {Q : VK} (w : Wf K Z H I M) (h : RepV K Z I x d) (e : ixM M d i = some c) (q : ∀ v, RepV K Z I v c → Q v H) : rIx K x (.int i) H Q := by
  cases d with
  | o n =>
    obtain ⟨a, ha, rfl⟩ := h
    have e : ixO M[n]? i = some c := e
    cases z : M[n]? with
    | none => rw [z] at e; cases e
    | some o =>
      rw [z] at e
      cases o with
      | lst xs =>
        obtain ⟨_, ys, h1, h2⟩ := w.ob n a _ ha z (by intro z; cases z)
        obtain ⟨v, h3, h4⟩ := atI_repV h2 e
        exact .inl ⟨_, ys, i, v, rfl, rfl, SqL.of h1, h3, q v h4⟩
      | _ => cases e
  | p d =>
    have h : Rep K Z x d := h
    have e : (ixD d i).map .p = some c := e
    cases z : ixD d i with
    | none => rw [z] at e; cases e
    | some c' =>
    rw [z] at e; cases e
    cases h with
    | lst h1 h2 =>
      obtain ⟨v, h3, h4⟩ := atI_rep h2 (show atI _ i = some c' from z)
      exact .inl ⟨_, _, i, v, rfl, rfl, .inl (same_rd w.sub h1), h3, q v h4⟩
    | tup h1 h2 =>
      obtain ⟨v, h3, h4⟩ := atI_rep h2 (show atI _ i = some c' from z)
      exact .inr (.inl ⟨_, _, i, v, rfl, rfl, sqt w.sub h1, h3, q v h4⟩)
    | ktup h1 h2 =>
      obtain ⟨v, h3, h4⟩ := atI_rep h2 (show atI _ i = some c' from z)
      exact .inr (.inl ⟨_, _, i, v, rfl, rfl, same_t w.sub h1, h3, q v h4⟩)
    | klst h1 h2 =>
      obtain ⟨v, h3, h4⟩ := atI_rep h2 (show atI _ i = some c' from z)
      exact .inl ⟨_, _, i, v, rfl, rfl, same_l w.sub h1, h3, q v h4⟩
    | str y =>
      have z : (if y.length ≤ 1000000 then (atI y.cps.toList i).map fun c => D.str ⟨#[c]⟩ else none) = some c' := z
      split at z
      · rename_i hl
        cases z2 : atI y.cps.toList i with
        | none => rw [z2] at z; cases z
        | some k =>
          rw [z2] at z; cases z
          exact .inr (.inr ⟨y, i, k, rfl, rfl, size_le hl, z2, q _ (.str _)⟩)
      · cases z
    | _ => cases z
theorem so_ix {ta tb : TE} {m n : EM} (ha : Sound K W (RepV K) ta m) (hb : Sound K W (RepV K) tb n) : Sound K W (RepV K) (tOp (rIx K) ta tb) (mIx m n) := ⟨fun σ H s Z I r0 Q w rs e p => by
  refine ha.bnd w rs e (p.x) fun d v M1 Z1 H1 I1 w1 rs1 x1 q1 e1 => ?_
  have p1 := p.mono x1
  refine hb.bnd (s := ⟨s.l, M1⟩) w1 rs1 e1 (p1.x) fun d2 v2 M2 Z2 H2 I2 w2 rs2 x2 q2 e2 => ?_
  obtain ⟨d2, rfl, e2⟩ := pur_ok e2
  have p2 := p1.mono x2
  cases d2 with
  | int i =>
    have e2 : (match ixM M2 d i with | some c => some (Rs.ok c M2) | none => none) = some r0 := e2
    cases q2
    cases z : ixM M2 d i with
    | none => rw [z] at e2; cases e2
    | some c =>
      rw [z] at e2; cases e2
      exact ix_ok w2 (q1.mono x2) z fun v r => p2 v Z2 H2 I2 w2 Ext.refl r
  | _ => cases e2⟩
theorem de_ix {ta tb : TE} {m n : EM} (ha : DE K X W a ta m) (hb : DE K X W b tb n) (hs : PlainIx b := by exact fun _ _ => rfl) : DE K X W (.Subscript a b pos) (tOp (rIx K) ta tb) (mIx m n) := by
  refine ⟨ha.k, ?_, so_ix ha.so hb.so⟩
  have h := pe_ix (X := X) (pos := pos) ix_seq ha.pe hb.pe hs
  rw [ha.k] at h
  exact h
/-! ### built-in calls -/
structure CallD (K : PySem.W.Frag) (X : Cx) (f : Value) (r : List V → Hp → VK → Prop) (g : List O → List DV → Option D) : Prop where
  op : X.K = K → CallR X f r
  ok : ∀ (vs : List V) (ds : List DV) (c : D) (Z H : Hp) (I : List Addr) (M : List O) (Q : VK), Wf K Z H I M → RepVs K Z I vs ds → g M ds = some c → PostP K Z H c Q → r vs H Q
def mCB (g : List O → List DV → Option D) (ms : AM) : EM := bnd ms fun ds s => ret (g s.m ds) s
theorem so_cb {r : List V → Hp → VK → Prop} {g : List O → List DV → Option D} {t : TA} {ms : AM} (h : ∀ (vs : List V) (ds : List DV) (c : D) (Z H : Hp) (I : List Addr) (M : List O) (Q : VK), Wf K Z H I M → RepVs K Z I vs ds → g M ds = some c → PostP K Z H c Q → r vs H Q)
    (ha : Sound K W (RepVs K) t ms) : Sound K W (RepV K) (tCB r t) (mCB g ms) := ⟨fun σ H s Z I r0 Q w rs e p => by
  refine ha.bnd w rs e (p.x) fun ds vs M1 Z1 H1 I1 w1 rs1 x1 q1 e1 => ?_
  obtain ⟨c, q, rfl⟩ := ret_ok e1
  exact h vs ds c Z1 H1 I1 M1 Q w1 q1 q (PostP.of w1 (p.mono x1))⟩
theorem de_callB {id : String} {r : List V → Hp → VK → Prop} {g : List O → List DV → Option D} {t : TA} {ms : AM} {x : Str} {p : Pos} (h : CallD K X (.builtin id) r g) (hm : X.mg x = none) (ha : DA K X W (e :: es) t ms) (hv : bootBuiltins x = some (.builtin id) := by decide +kernel) (hg : Gl X x := by rfl) (hn : x ≠ "__name__" := by decide) (hdb : (x == ("__debug__" : Str)) = false := by decide)
    (he : starEach (e :: es) X.env = (false, eval e X.env) :: starEach es X.env := by rfl) (hpl : (backTo pos (starEach es X.env)).any (·.1) = false := by rfl) : DE K X W (.Call (.Name x p) (e :: es) [] pos) (tCB r t) (mCB g ms) :=
  ⟨ha.k, pe_callB (h.op ha.k) hg hm hv ha.pa hn hdb he hpl, so_cb h.ok ha.so⟩
theorem de_callTy {T : String} {r : List V → Hp → VK → Prop} {g : List O → List DV → Option D} {t : TA} {ms : AM} {x : Str} {p : Pos} (h : CallD K X (.type T) r g) (hm : X.mg x = none) (ha : DA K X W (e :: es) t ms) (hv : bootBuiltins x = some (.type T) := by decide +kernel) (hg : Gl X x := by rfl) (hn : x ≠ "__name__" := by decide) (hdb : (x == ("__debug__" : Str)) = false := by decide)
    (he : starEach (e :: es) X.env = (false, eval e X.env) :: starEach es X.env := by rfl) (hpl : (backTo pos (starEach es X.env)).any (·.1) = false := by rfl) : DE K X W (.Call (.Name x p) (e :: es) [] pos) (tCB r t) (mCB g ms) :=
  ⟨ha.k, pe_callTy (h.op ha.k) hg hm hv ha.pa hn hdb he hpl, so_cb h.ok ha.so⟩
def g1 (g : D → Option D) : List O → List DV → Option D
  | _, [.p d] => g d
  | _, _ => none
theorem g1_ok {r : List V → Hp → VK → Prop} {g : D → Option D} (h : ∀ (x : V) (d c : D) (Z H : Hp) (Q : VK), Same Z H → Rep K Z x d → g d = some c → PostP K Z H c Q → r [x] H Q) :
    ∀ (vs : List V) (ds : List DV) (c : D) (Z H : Hp) (I : List Addr) (M : List O) (Q : VK), Wf K Z H I M → RepVs K Z I vs ds → g1 g M ds = some c → PostP K Z H c Q → r vs H Q := by
  intro vs ds c Z H I M Q w rv hg p
  unfold g1 at hg
  split at hg
  · cases rv with
    | cons h1 h2 =>
      cases h2
      exact h _ _ c Z H Q w.sub h1 hg p
  · cases hg
def dAbs : D → Option D
  | .int i => some (.int (if i < 0 then -i else i))
  | _ => none
theorem cd_abs : CallD K X (.builtin "abs") (fun xs H Q => ∃ i, xs = [.int i] ∧ Q (.int (if i < 0 then -i else i)) H) (g1 dAbs) := ⟨fun _ => call_abs, g1_ok fun x d c Z H Q s hx hg p => by
  unfold dAbs at hg
  split at hg
  · cases hx; cases hg; exact ⟨_, rfl, p _ Z H (ExtP.refl s) (.int _)⟩
  · cases hg⟩
def dInt : D → Option D
  | .int i => some (.int i)
  | .bl b => some (.int (if b then 1 else 0))
  | _ => none
theorem cd_int : CallD K X (.type "int") (fun xs H Q => (∃ i, xs = [.int i] ∧ Q (.int i) H) ∨ ∃ k, xs = [.bl k] ∧ Q (.int (if k then 1 else 0)) H) (g1 dInt) := ⟨fun _ => call_int1, g1_ok fun x d c Z H Q s hx hg p => by
  unfold dInt at hg
  split at hg
  · cases hx; cases hg; exact .inl ⟨_, rfl, p _ Z H (ExtP.refl s) (.int _)⟩
  · cases hx; cases hg; exact .inr ⟨_, rfl, p _ Z H (ExtP.refl s) (.int _)⟩
  · cases hg⟩
def lenD : D → Option Nat
  | .lst xs => some xs.length
  | .tup xs => some xs.length
  | .ktup xs => some xs.length
  | .klst xs => some xs.length
  | .str y => if y.length ≤ 1000000 then some y.length else none
  | _ => none
def lenO : Option O → Option Nat
  | some (.lst xs) => some xs.length
  | _ => none
def lenM (M : List O) : DV → Option Nat
  | .p d => lenD d
  | .o n => lenO M[n]?
def dLen : List O → List DV → Option D
  | M, [d] => Option.map (fun (n : Nat) => D.int (n : Int)) (lenM M d)
  | _, _ => none
theorem cd_len : CallD K X (.builtin "len") (fun xs H Q => ∃ x n, xs = [x] ∧ LenV K x H n ∧ Q (.int n) H) dLen := ⟨fun k => by rw [← k]; exact call_len, fun vs ds c Z H I M Q w rv hg p => by
  unfold dLen at hg
  split at hg
  · rename_i d
    cases rv with
    | cons h1 h2 =>
    cases h2
    cases z : lenM M d with
    | none => rw [z] at hg; cases hg
    | some n =>
      rw [z] at hg; cases hg
      refine ⟨_, n, rfl, ?_, p _ Z H (ExtP.refl w.sub) (.int _)⟩
      cases d with
      | o j =>
        obtain ⟨a, ha, rfl⟩ := h1
        have z : lenO M[j]? = some n := z
        cases y : M[j]? with
        | none => rw [y] at z; cases z
        | some o =>
          rw [y] at z
          cases o with
          | lst xs =>
            obtain ⟨_, ys, g1, g2⟩ := w.ob j a _ ha y (by intro z; cases z)
            cases z
            exact .inl ⟨ys, SqL.of g1, (paired_len g2).symm⟩
          | _ => cases z
      | p d =>
        have h1 : Rep K Z _ d := h1
        have z : lenD d = some n := z
        cases h1 with
        | lst g1 g2 => cases z; exact .inl ⟨_, .inl (same_rd w.sub g1), g2.length.symm⟩
        | tup g1 g2 => cases z; exact .inr ⟨_, sqt w.sub g1, g2.length.symm⟩
        | ktup g1 g2 => cases z; exact .inr ⟨_, same_t w.sub g1, g2.length.symm⟩
        | klst g1 g2 => cases z; exact .inl ⟨_, same_l w.sub g1, g2.length.symm⟩
        | str y =>
          have z : (if y.length ≤ 1000000 then some y.length else none) = some n := z
          split at z
          · rename_i hl
            cases z
            exact ⟨size_le hl, rfl⟩
          · cases z
        | _ => cases z
  · cases hg⟩
end
end DL
namespace DL
open PySem L2
/-! ### defs: by data alone (A), with objects of one's own (B) -/
inductive RD where
  | ok (d : D) | ex (c : Addr) (fs : List (Str × D))
abbrev MA := List D → Option RD
abbrev MB := List DV → Mi DV
def spA (K : PySem.W.Frag) (n : Nat) (f : MA) : Sp := fun vs H Q E => vs.length = n ∧ ∃ Z ds r, Same Z H ∧ RepA K Z vs ds ∧ f ds = some r ∧ (match r with
  | .ok d => PostP K Z H d Q
  | .ex c fs => ∀ d Z' H', ExtP Z H Z' H' → ExcAt K Z' H' d fs → (∀ a, d = some a → H a = none) → E (.ref c) d H')
def spB (K : PySem.W.Frag) (n : Nat) (f : List DV → List O → Option (Rs DV)) : Sp := fun vs H Q E => vs.length = n ∧ ∃ Z I M ds r, Wf K Z H I M ∧ RepVs K Z I vs ds ∧ f ds M = some r ∧ (match r with
  | .ok dv M' => ∀ v Z' H' I', Wf K Z' H' I' M' → Ext Z H I Z' H' I' → RepV K Z' I' v dv → Q v H'
  | .ex c fs M' => ∀ d Z' H' I', Wf K Z' H' I' M' → Ext Z H I Z' H' I' → ExcAt K Z' H' d fs → (∀ a, d = some a → H a = none ∧ a ∉ I') → E (.ref c) d H')
theorem spA_len {K : PySem.W.Frag} {n : Nat} {f : MA} : ∀ vs H Q E, spA K n f vs H Q E → vs.length = n := fun _ _ _ _ h => h.1
theorem spB_len {K : PySem.W.Frag} {n : Nat} {f : List DV → List O → Option (Rs DV)} : ∀ vs H Q E, spB K n f vs H Q E → vs.length = n := fun _ _ _ _ h => h.1
section
variable {K : PySem.W.Frag} {X : Cx} {W : WX} {e a b c : Expr} {es : List Expr} {pos : Pos}
/-! ### calls of defs -/
def mCallA (n : Nat) (f : MA) (ms : AM) : EM := bnd ms fun ds s => if ds.length = n then match allP ds with
  | some xs => match f xs with
    | some (.ok d) => some (.ok (.p d) s.m)
    | some (.ex c fs) => some (.ex c fs s.m)
    | none => none
  | none => none else none
def mCallB (n : Nat) (f : List DV → List O → Option (Rs DV)) (ms : AM) : EM := bnd ms fun ds s => if ds.length = n then f ds s.m else none
theorem so_callA {n : Nat} {f : MA} {t : TA} {ms : AM} (ha : Sound K W (RepVs K) t ms) : Sound K W (RepV K) (tCallS (spA K n f) (fun σ => WE W σ) t) (mCallA n f ms) := ⟨fun σ H s Z I r0 Q w rs e p => by
  refine ha.bnd w rs e (p.x) fun ds vs M1 Z1 H1 I1 w1 rs1 x1 q1 e1 => ?_
  have p1 := p.mono x1
  have e1 : (if ds.length = n then match allP ds with
    | some xs => match f xs with
      | some (.ok d) => some (Rs.ok (DV.p d) M1)
      | some (.ex c fs) => some (Rs.ex c fs M1)
      | none => none
    | none => none else none) = some r0 := e1
  split at e1
  · rename_i hl
    cases z : allP ds with
    | none => rw [z] at e1; cases e1
    | some xs =>
      rw [z] at e1
      have e1 : (match f xs with
        | some (.ok d) => some (Rs.ok (DV.p d) M1)
        | some (.ex c fs) => some (Rs.ex c fs M1)
        | none => none) = some r0 := e1
      have ra := allP_rep q1 z
      cases y : f xs with
      | none => rw [y] at e1; cases e1
      | some r =>
        rw [y] at e1
        refine ⟨by rw [paired_len q1]; exact hl, Z1, xs, r, w1.sub, ra, y, ?_⟩
        cases r with
        | ok d => cases e1; exact PostP.of w1 p1
        | ex c fs =>
          cases e1
          intro d Z2 H2 x2 ea na
          exact p1 d Z2 H2 I1 (w1.extP x2) (x2.ext w1) ea fun b q => ⟨na b q, fun m => w1.tr b m (na b q)⟩
  · cases e1⟩
theorem so_callB {n : Nat} {f : List DV → List O → Option (Rs DV)} {t : TA} {ms : AM} (ha : Sound K W (RepVs K) t ms) : Sound K W (RepV K) (tCallS (spB K n f) (fun σ => WE W σ) t) (mCallB n f ms) := ⟨fun σ H s Z I r0 Q w rs e p => by
  refine ha.bnd w rs e (p.x) fun ds vs M1 Z1 H1 I1 w1 rs1 x1 q1 e1 => ?_
  have p1 := p.mono x1
  have e1 : (if ds.length = n then f ds M1 else none) = some r0 := e1
  split at e1
  · rename_i hl
    refine ⟨by rw [paired_len q1]; exact hl, Z1, I1, M1, ds, r0, w1, q1, e1, ?_⟩
    cases r0 with
    | ok d M' => exact p1
    | ex c fs M' => exact p1
  · cases e1⟩
theorem de_callA {n k : Nat} {f : MA} {fa : Addr} {fd : FuncData} {ps : List Str} {t : TA} {ms : AM} {x : Str} {p : Pos} (F : FnOk X.prog X.w K X.mg X.base (L2.CX X.prog X.w) k fa fd ps (spA K n f)) (hr : Room k X.A) (tk : Takes X W) (hm : X.mg x = some (.ref fa)) (hk : PySem.W.keepIn K (.ref fa) = true) (hb : Binds K fd ps [])
    (ha : DA K X W (e :: es) t ms) (hg : Gl X x := by rfl) (hdb : (x == ("__debug__" : Str)) = false := by decide) (he : starEach (e :: es) X.env = (false, eval e X.env) :: starEach es X.env := by rfl) (hpl : (backTo pos (starEach es X.env)).any (·.1) = false := by rfl) :
    DE K X W (.Call (.Name x p) (e :: es) [] pos) (tCallS (spA K n f) (fun σ => WE W σ) t) (mCallA n f ms) := by
  have k := ha.k
  subst k
  exact ⟨rfl, pe_callS F hr hg hm hk hb (fun σ => passAt tk σ) ha.pa hdb he hpl, so_callA ha.so⟩
theorem de_callB' {n k : Nat} {f : List DV → List O → Option (Rs DV)} {fa : Addr} {fd : FuncData} {ps : List Str} {t : TA} {ms : AM} {x : Str} {p : Pos} (F : FnOk X.prog X.w K X.mg X.base (L2.CX X.prog X.w) k fa fd ps (spB K n f)) (hr : Room k X.A) (tk : Takes X W) (hm : X.mg x = some (.ref fa)) (hk : PySem.W.keepIn K (.ref fa) = true) (hb : Binds K fd ps [])
    (ha : DA K X W (e :: es) t ms) (hg : Gl X x := by rfl) (hdb : (x == ("__debug__" : Str)) = false := by decide) (he : starEach (e :: es) X.env = (false, eval e X.env) :: starEach es X.env := by rfl) (hpl : (backTo pos (starEach es X.env)).any (·.1) = false := by rfl) :
    DE K X W (.Call (.Name x p) (e :: es) [] pos) (tCallS (spB K n f) (fun σ => WE W σ) t) (mCallB n f ms) := by
  have k := ha.k
  subst k
  exact ⟨rfl, pe_callS F hr hg hm hk hb (fun σ => passAt tk σ) ha.pa hdb he hpl, so_callB ha.so⟩
/-! ### one's own list, given up -/
def mFrz (m : EM) : EM := bnd m fun d s => match d with
  | .p d => some (.ok (.p d) s.m)
  | .o n => match s.m[n]? with
    | some (.lst ds) => match allP ds with
      | some xs => some (.ok (.p (.lst xs)) (s.m.set n .gone))
      | none => none
    | _ => none
theorem so_frz {t : TE} {m : EM} (h : Sound K W (RepV K) t m) : Sound K W (RepV K) t (mFrz m) := ⟨fun σ H s Z I r0 Q w rs e p => by
  unfold mFrz bnd at e
  cases z : m s with
  | none => rw [z] at e; cases e
  | some r =>
    rw [z] at e
    refine h.ok σ H s Z I r Q w rs z ?_
    cases r with
    | ex c fs M => cases e; exact p
    | ok d M =>
      cases d with
      | p d => cases e; exact p
      | o n =>
        have e : (match M[n]? with
          | some (.lst ds) => match allP ds with
            | some xs => some (Rs.ok (DV.p (D.lst xs)) (M.set n .gone))
            | none => none
          | _ => none) = some r0 := e
        intro v Z' H' I' w' x' q'
        obtain ⟨a, ha, rfl⟩ := q'
        cases y : M[n]? with
        | none => rw [y] at e; cases e
        | some o =>
          rw [y] at e
          cases o with
          | lst ds =>
            have e : (match allP ds with
              | some xs => some (Rs.ok (DV.p (D.lst xs)) (M.set n .gone))
              | none => none) = some r0 := e
            cases u : allP ds with
            | none => rw [u] at e; cases e
            | some xs =>
              rw [u] at e; cases e
              obtain ⟨hz, ys, h1, h2⟩ := w'.ob n a _ ha y (by intro z; cases z)
              have x2 := ext_frz w' ha hz h1
              exact p _ _ _ I' (w'.frz ha y (by intro z; cases z) h1) (x'.trans x2) (.lst (.inl upd_same) ((allP_rep h2 u).mono x2.z))
          | _ => cases e⟩
theorem de_frz {t : TE} {m : EM} (h : DE K X W e t m) : DE K X W e t (mFrz m) := ⟨h.k, h.pe, so_frz h.so⟩
/-! ### statements -/
def liftS {α : Type} (m : Mi α) (k : α → SM) : SM := fun s => match m s with
  | some (.ok v M) => k v ⟨s.l, M⟩
  | some (.ex c f M) => some (.ex c f, ⟨s.l, M⟩)
  | none => none
theorem PostS.mono {Z H Z1 H1 : Hp} {I I1 : List Addr} {D : Ends} (x : Ext Z H I Z1 H1 I1) : ∀ {r : Fl × S}, PostS K W Z H I D r → PostS K W Z1 H1 I1 D r
  | (.nx, _), p => fun σ' Z' H' I' w r x' => p σ' Z' H' I' w r (x.trans x')
  | (.rt _, _), p => fun v Z' H' I' w x' r => p v Z' H' I' w (x.trans x') r
  | (.bk, _), p => fun σ' Z' H' I' w r x' => p σ' Z' H' I' w r (x.trans x')
  | (.ct, _), p => fun σ' Z' H' I' w r x' => p σ' Z' H' I' w r (x.trans x')
  | (.ex _ _, _), p => fun σ' d Z' H' I' w r x' ea na => p σ' d Z' H' I' w r (x.trans x') ea fun b q => ⟨by
      cases z : H b with
      | none => rfl
      | some o => exact absurd (na b q).1 (x.tr b (by rw [z]; simp)), (na b q).2⟩
theorem Sound.lift {α β : Type} {R : Hp → List Addr → β → α → Prop} {t : St → Hp → (β → Hp → Prop) → Prop} {m : Mi α} (h : Sound K W R t m) {σ : St} {H Z : Hp} {I : List Addr} {s : S} {k : α → SM} {r : Fl × S} {D : Ends} {Q : β → Hp → Prop}
    (w : Wf K Z H I s.m) (rs : RepS K Z I σ s.l) (e : liftS m k s = some r) (p : PostS K W Z H I D r)
    (hk : ∀ a b M' Z' H' I', Wf K Z' H' I' M' → RepS K Z' I' σ s.l → Ext Z H I Z' H' I' → R Z' I' b a → k a ⟨s.l, M'⟩ = some r → PostS K W Z' H' I' D r → Q b H') : t σ H Q := by
  unfold liftS at e
  cases q : m s with
  | none => rw [q] at e; cases e
  | some r0 =>
    rw [q] at e
    cases r0 with
    | ok v M => exact h.ok σ H s Z I _ Q w rs q fun b Z' H' I' w' x' r' => hk v b M Z' H' I' w' (rs.mono x') x' r' e (p.mono x')
    | ex c f M =>
      obtain rfl := Option.some.inj e
      exact h.ok σ H s Z I _ Q w rs q fun d Z' H' I' w' x' ea na => p σ d Z' H' I' w' (rs.mono x') x' ea na
def sNil : SM := fun s => some (.nx, s)
def sSeq (a b : SM) : SM := fun s => match a s with
  | some (.nx, s1) => b s1
  | r => r
theorem so_nil : SoundS K W tNext sNil := ⟨fun σ H s Z I r D w rs e p => by
  cases e; exact p σ Z H I w rs Ext.refl⟩
theorem so_seq {t u : TS} {m n : SM} (ha : SoundS K W t m) (hb : SoundS K W u n) : SoundS K W (tSeq t u) (sSeq m n) := ⟨fun σ H s Z I r D w rs e p => by
  unfold sSeq at e
  show t { D with nx := u D } σ H
  cases q : m s with
  | none => rw [q] at e; cases e
  | some r1 =>
    rw [q] at e
    obtain ⟨f, s1⟩ := r1
    cases f with
    | nx => exact ha.ok σ H s Z I _ _ w rs q fun σ' Z' H' I' w' rs' x' => hb.ok σ' H' s1 Z' I' r D w' rs' e (p.mono x')
    | rt v => cases e; exact ha.ok σ H s Z I _ _ w rs q p
    | bk => cases e; exact ha.ok σ H s Z I _ _ w rs q p
    | ct => cases e; exact ha.ok σ H s Z I _ _ w rs q p
    | ex c fs => cases e; exact ha.ok σ H s Z I _ _ w rs q p⟩
theorem dss_nil (k : X.K = K := by rfl) : DSs K X W [] tNext sNil := ⟨k, pss_nil, so_nil⟩
theorem dss_cons {st : Stmt} {rest : List Stmt} {t u : TS} {m n : SM} (ha : DS K X W st t m) (hb : DSs K X W rest u n) : DSs K X W (st :: rest) (tSeq t u) (sSeq m n) := ⟨ha.k, pss_cons ha.ps hb.ps, so_seq ha.so hb.so⟩
theorem dss_one {st : Stmt} {t : TS} {m : SM} (ha : DS K X W st t m) : DSs K X W [st] t m := ⟨ha.k, pss_one ha.ps, ha.so⟩
theorem ds_pass (k : X.K = K := by rfl) : DS K X W (.Pass pos) tNext sNil := ⟨k, ps_pass, so_nil⟩
def sBrk : SM := fun s => some (.bk, s)
def sCnt : SM := fun s => some (.ct, s)
theorem ds_break (k : X.K = K := by rfl) : DS K X W (.Break pos) tBreak sBrk := ⟨k, ps_break, ⟨fun σ H s Z I r D w rs e p => by
  cases e; exact p σ Z H I w rs Ext.refl⟩⟩
theorem ds_continue (k : X.K = K := by rfl) : DS K X W (.Continue pos) tCont sCnt := ⟨k, ps_continue, ⟨fun σ H s Z I r D w rs e p => by
  cases e; exact p σ Z H I w rs Ext.refl⟩⟩
theorem ds_doc {x : Str} {j} {pos' : Pos} (k : X.K = K := by rfl) : DS K X W (.Expr (.Constant (.str x) j pos) pos') tNext sNil := ⟨k, ps_doc, so_nil⟩
def sExpr (m : EM) : SM := liftS m fun _ s => some (.nx, s)
theorem ds_expr {te : TE} {m : EM} (h : DE K X W e te m) (hs : swapsWith e none pos.line X.env = pure false := by rfl) : DS K X W (.Expr e pos) (tDrop te) (sExpr m) := ⟨h.k, ps_expr h.pe hs, ⟨fun σ H s Z I r D w rs e p => by
  refine h.so.lift w rs e p fun d v M1 Z1 H1 I1 w1 rs1 x1 q1 e1 p1 => ?_
  cases e1; exact p1 σ Z1 H1 I1 w1 rs1 Ext.refl⟩⟩
def sRet (m : EM) : SM := liftS m fun d s => some (.rt d, s)
theorem ds_ret {te : TE} {m : EM} (h : DE K X W e te m) : DS K X W (.Return (some e) pos) (tRet te) (sRet m) := ⟨h.k, ps_ret h.pe, ⟨fun σ H s Z I r D w rs e p => by
  refine h.so.lift w rs e p fun d v M1 Z1 H1 I1 w1 rs1 x1 q1 e1 p1 => ?_
  cases e1; exact p1 v Z1 H1 I1 w1 Ext.refl q1⟩⟩
def sRetN : SM := fun s => some (.rt (.p .non), s)
theorem ds_retN (k : X.K = K := by rfl) : DS K X W (.Return none pos) tRetN sRetN := ⟨k, ps_retN, ⟨fun σ H s Z I r D w rs e p => by
  cases e; exact p .non Z H I w Ext.refl .non⟩⟩
def ifS (n k : SM) : DV → SM
  | .p (.bl true), s => n s
  | .p (.bl false), s => k s
  | _, _ => none
def sIf (c : EM) (m n : SM) : SM := liftS c (ifS m n)
theorem ds_if {x y : List Stmt} {tc : TT} {t u : TS} {k : EM} {m n : SM} (hc : DT K X W c tc k) (ha : DSs K X W x t m) (hb : DSs K X W y u n) : DS K X W (.If c x y pos) (tIfS tc t u) (sIf k m n) := ⟨hc.k, ps_if hc.pt ha.ps hb.ps, ⟨fun σ H s Z I r D w rs e p => by
  refine hc.so.lift w rs e p fun d v M1 Z1 H1 I1 w1 rs1 x1 q1 e1 p1 => ?_
  cases (show d = .p (.bl v) from q1)
  cases v with
  | true => exact ha.so.ok σ H1 ⟨s.l, M1⟩ Z1 I1 r D w1 rs1 e1 p1
  | false => exact hb.so.ok σ H1 ⟨s.l, M1⟩ Z1 I1 r D w1 rs1 e1 p1⟩⟩
/-! ### targets -/
theorem wipe_set {σ : St} {i : Nat} {x : Option V} : ∀ {vs : List Nat}, i ∈ vs → wipe (σ.set i x) vs = wipe σ vs
  | v :: vs, h => by
    show (wipe (σ.set i x) vs).set v none = (wipe σ vs).set v none
    by_cases q : i ∈ vs
    · rw [wipe_set q]
    · have e : v = i := by
        rcases List.mem_cons.mp h with k | k
        · exact k.symm
        · exact absurd k q
      subst e
      have c : ∀ ws : List Nat, v ∉ ws → wipe (σ.set v x) ws = (wipe σ ws).set v x := by
        intro ws
        induction ws with
        | nil => intro _; rfl
        | cons w ws ih =>
          intro hw
          rw [List.mem_cons, not_or] at hw
          show (wipe (σ.set v x) ws).set w none = ((wipe σ ws).set w none).set v x
          rw [ih hw.2, List.set_comm _ _ hw.1]
      rw [c vs q, List.set_set]
abbrev GM := DV → S → Option S
structure DG (K : PySem.W.Frag) (X : Cx) (tg : Expr) (g : TG) (m : GM) (ix : List Nat) : Prop where
  k : X.K = K
  pg : PG X tg g
  ok : ∀ (v : V) (dv : DV) (σ : St) (H : Hp) (s s' : S) (Z : Hp) (I : List Addr) (Q : St → Hp → Prop), Wf K Z H I s.m → RepS K Z I σ s.l → RepV K Z I v dv → m dv s = some s' →
    (∀ σ' Z' H' I', Wf K Z' H' I' s'.m → RepS K Z' I' σ' s'.l → Ext Z H I Z' H' I' → (∀ vs, (∀ i ∈ ix, i ∈ vs) → wipe σ' vs = wipe σ vs) → Q σ' H') → g v σ H Q
def gN (i : Nat) : GM := fun d s => some ⟨s.l.set i (some d), s.m⟩
theorem dg_name {i : Nat} {x : Str} (hN : X.N.Nodup) (k : X.K = K := by rfl) (hi : X.N[i]? = some x := by rfl) (hx : Loc X.env.scope x := by first | exact Or.inl rfl | exact Or.inr rfl) (hf : X.fn x = true ∨ X.env.scope.names.lookup x = some .local := by first | exact .inl rfl | exact .inr rfl) : DG K X (.Name x pos) (gName i) (gN i) [i] :=
  ⟨k, pg_name hN hi hx hf, fun v dv σ H s s' Z I Q w rs rv e q => by
    cases e; exact q _ Z H I w (rs.set rv i) Ext.refl fun vs hv => wipe_set (hv i (by simp))⟩
structure DGs (K : PySem.W.Frag) (X : Cx) (tg : List Expr) (g : TGs) (m : List DV → S → Option S) (ix : List Nat) : Prop where
  k : X.K = K
  pg : PGs X tg g
  ok : ∀ (v : List V) (dv : List DV) (σ : St) (H : Hp) (s s' : S) (Z : Hp) (I : List Addr) (Q : St → Hp → Prop), Wf K Z H I s.m → RepS K Z I σ s.l → RepVs K Z I v dv → m dv s = some s' →
    (∀ σ' Z' H' I', Wf K Z' H' I' s'.m → RepS K Z' I' σ' s'.l → Ext Z H I Z' H' I' → (∀ vs, (∀ i ∈ ix, i ∈ vs) → wipe σ' vs = wipe σ vs) → Q σ' H') → g v σ H Q
def gsNil : List DV → S → Option S
  | [], s => some s
  | _, _ => none
def gsCons (m : GM) (n : List DV → S → Option S) : List DV → S → Option S
  | d :: r, s => match m d s with
    | some s1 => n r s1
    | none => none
  | [], _ => none
theorem dgs_nil (k : X.K = K := by rfl) : DGs K X [] gNil gsNil [] := ⟨k, pgs_nil, fun v dv σ H s s' Z I Q w rs rv e q => by
  cases rv with
  | nil => cases e; exact ⟨rfl, q σ Z H I w rs Ext.refl fun _ _ => rfl⟩
  | cons _ _ => cases e⟩
theorem dgs_cons {tg : Expr} {tgs : List Expr} {t : TG} {u : TGs} {m : GM} {n : List DV → S → Option S} {i1 i2 : List Nat} (h1 : DG K X tg t m i1) (h2 : DGs K X tgs u n i2)
    (hs : (assignEach (tg :: tgs) X.env).map (·.2) = assign tg X.env :: (assignEach tgs X.env).map (·.2) := by rfl) : DGs K X (tg :: tgs) (gCons t u) (gsCons m n) (i1 ++ i2) := ⟨h1.k, pgs_cons h1.pg h2.pg hs, fun v dv σ H s s' Z I Q w rs rv e q => by
  cases rv with
  | nil => cases e
  | @cons _ d _ _ r1 r2 =>
    have e : (match m d s with | some s1 => n _ s1 | none => none) = some s' := e
    refine ⟨_, _, rfl, ?_⟩
    cases z : m d s with
    | none => rw [z] at e; cases e
    | some s1 =>
      rw [z] at e
      refine h1.ok _ d σ H s s1 Z I _ w rs r1 z fun σ' Z' H' I' w' rs' x' k' => ?_
      exact h2.ok _ _ σ' H' s1 s' Z' I' Q w' rs' (paired_imp (fun _ _ q => RepV.mono x' q) r2) e fun σ2 Z2 H2 I2 w2 rs2 x2 k2 => q σ2 Z2 H2 I2 w2 rs2 (x'.trans x2) fun vs hv =>
        (k2 vs fun i hi => hv i (List.mem_append_right _ hi)).trans (k' vs fun i hi => hv i (List.mem_append_left _ hi))⟩
def gT (n : Nat) (m : List DV → S → Option S) : GM := fun d s => match d with
  | .p (.tup xs) => if xs.length = n then m (xs.map .p) s else none
  | .p (.ktup xs) => if xs.length = n then m (xs.map .p) s else none
  | _ => none
theorem dg_tup {tgs : List Expr} {k : Nat} {t : TGs} {m : List DV → S → Option S} {n : Nat} {ix : List Nat} (hc : X.calm = true) (h : DGs K X tgs t m ix) (hn : (assignEach tgs X.env).length = n := by rfl) (hst : (assignEach tgs X.env).findIdx? (·.1) = none := by rfl) :
    DG K X (.Tuple tgs k pos) (gTup K n t) (gT n m) ix := by
  have kk := h.k
  subst kk
  refine ⟨rfl, pg_tup hc h.pg hn hst, fun v dv σ H s s' Z I Q w rs rv e q => ?_⟩
  cases dv with
  | o j => cases e
  | p d =>
    have rv : Rep X.K Z v d := rv
    cases rv with
    | tup h1 h2 =>
      rename_i a xs ds
      have e : (if ds.length = n then m (ds.map .p) s else none) = some s' := e
      split at e
      · rename_i hl
        exact ⟨a, xs, rfl, sqt w.sub h1, by rw [h2.length]; exact hl, h.ok _ _ σ H s s' Z I Q w rs (allP_map h2) e q⟩
      · cases e
    | ktup h1 h2 =>
      rename_i a xs ds
      have e : (if ds.length = n then m (ds.map .p) s else none) = some s' := e
      split at e
      · rename_i hl
        exact ⟨a, xs, rfl, same_t w.sub h1, by rw [h2.length]; exact hl, h.ok _ _ σ H s s' Z I Q w rs (allP_map h2) e q⟩
      · cases e
    | _ => cases e
def sAsg (m : EM) (g : GM) : SM := liftS m fun d s => match g d s with
  | some s1 => some (.nx, s1)
  | none => none
theorem ds_asg {tg : Expr} {te : TE} {g : TG} {m : EM} {gm : GM} {ix : List Nat} (he : DE K X W e te m) (hg : DG K X tg g gm ix) (hs : swapsWithSole [tg] e pos.line X.env = pure false := by rfl) (hw : swappedStores [tg] e X.env = pure none := by rfl)
    (h1 : (assignEach [tg] X.env).map (·.2) = [assign tg X.env] := by rfl) : DS K X W (.Assign [tg] e pos) (tAsg te g) (sAsg m gm) := ⟨he.k, ps_asg he.pe hg.pg hs hw h1, ⟨fun σ H s Z I r D w rs e p => by
  refine he.so.lift w rs e p fun d v M1 Z1 H1 I1 w1 rs1 x1 q1 e1 p1 => ?_
  have e1 : (match gm d ⟨s.l, M1⟩ with | some s1 => some (Fl.nx, s1) | none => none) = some r := e1
  cases z : gm d ⟨s.l, M1⟩ with
  | none => rw [z] at e1; cases e1
  | some s1 =>
    rw [z] at e1; cases e1
    exact hg.ok v d σ H1 ⟨s.l, M1⟩ s1 Z1 I1 _ w1 rs1 q1 z fun σ' Z' H' I' w' rs' x' _ => p1 σ' Z' H' I' w' rs' x'⟩⟩
theorem ds_set {i : Nat} {x : Str} {te : TE} {m : EM} {px : Pos} (hN : X.N.Nodup) (he : DE K X W e te m) (hi : X.N[i]? = some x := by rfl) (hx : Loc X.env.scope x := by first | exact Or.inl rfl | exact Or.inr rfl) (hf : X.fn x = true ∨ X.env.scope.names.lookup x = some .local := by first | exact .inl rfl | exact .inr rfl)
    (hs : swapsWithSole [.Name x px] e pos.line X.env = pure false := by rfl) (hw : swappedStores [.Name x px] e X.env = pure none := by rfl) (h1 : (assignEach [.Name x px] X.env).map (·.2) = [assign (.Name x px) X.env] := by rfl) : DS K X W (.Assign [.Name x px] e pos) (tAsg te (gName i)) (sAsg m (gN i)) :=
  ds_asg he (dg_name hN he.k hi hx hf) hs hw h1
/-- a, b = x, y -/
def sPar (i j : Nat) (ms : AM) : SM := liftS ms fun ds s => match ds with
  | [d, f] => some (.nx, ⟨(s.l.set i (some d)).set j (some f), s.m⟩)
  | _ => none
theorem ds_par {i j : Nat} {x y : Str} {ta : TA} {ms : AM} {px py pt : Pos} {kt k2} {pt2 : Pos} (hc : X.calm = true) (hN : X.N.Nodup) (ha : DA K X W [a, b] ta ms) (hi : X.N[i]? = some x := by rfl) (hj : X.N[j]? = some y := by rfl) (hij : i ≠ j := by decide)
    (hx : X.env.scope.names.lookup x = some .local := by rfl) (hy : X.env.scope.names.lookup y = some .local := by rfl)
    (hw : swappedStores [.Tuple [.Name x px, .Name y py] kt pt] (.Tuple [a, b] k2 pt2) X.env = pure (some [x, y]) := by rfl) (hs : swapsWithSole [.Tuple [.Name x px, .Name y py] kt pt] (.Tuple [a, b] k2 pt2) pos.line X.env = pure false := by rfl) :
    DS K X W (.Assign [.Tuple [.Name x px, .Name y py] kt pt] (.Tuple [a, b] k2 pt2) pos) (tPar i j ta) (sPar i j ms) := ⟨ha.k, ps_par hc hN hi hj hij hx hy ha.pa hw hs, ⟨fun σ H s Z I r D w rs e p => by
  refine ha.so.lift w rs e p fun ds vs M1 Z1 H1 I1 w1 rs1 x1 q1 e1 p1 => ?_
  cases q1 with
  | nil => cases e1
  | cons r1 q1 =>
  cases q1 with
  | nil => cases e1
  | cons r2 q1 =>
  cases q1 with
  | nil =>
    cases e1
    exact ⟨_, _, rfl, p1 _ Z1 H1 I1 w1 ((rs1.set r1 i).set r2 j) Ext.refl⟩
  | cons _ _ => cases e1⟩⟩
end
end DL
namespace DL
open PySem L2
section
variable {K : PySem.W.Frag} {X : Cx} {W : WX} {e a b c tg iter : Expr} {es : List Expr} {pos : Pos}
/-! ### what is walked -/
def ItOk (K : PySem.W.Frag) (Z0 : Hp) (I0 : List Addr) (J : It) (items : List DV) : Prop :=
  ∀ Z H I, Same Z0 Z → (∃ t, I = I0 ++ t) → Same Z H → ∀ i : Nat, (∀ d, items[i]? = some d → J.go i H ∧ ∀ x H', J.yld i H x H' → ∃ Z', ExtP Z H Z' H' ∧ RepV K Z' I x d) ∧ (items.length ≤ i → J.stop i H)
abbrev IM := Mi (List DV)
structure DI (K : PySem.W.Frag) (X : Cx) (W : WX) (tg iter : Expr) (wi : TI) (m : IM) : Prop where
  k : X.K = K
  pi : PI X tg iter wi
  so : Sound K W (ItOk K) wi m
def itD : D → Option (List DV)
  | .lst xs => some (xs.map .p)
  | .tup xs => some (xs.map .p)
  | .ktup xs => some (xs.map .p)
  | _ => none
def mItD (g : D → Option (List DV)) (m : EM) : IM := bnd m (pur fun d s => match g d with
  | some ds => some (.ok ds s.m)
  | none => none)
theorem so_itD {g : D → Option (List DV)} {te : TE} {m : EM} {r : V → Hp → (It → Hp → Prop) → Prop} (h : Sound K W (RepV K) te m) (hr : ∀ v d ds Z H I (R : It → Hp → Prop), Same Z H → Rep K Z v d → g d = some ds → (∀ J, ItOk K Z I J ds → R J H) → r v H R) :
    Sound K W (ItOk K) (fun σ H R => te σ H fun x H1 => r x H1 R) (mItD g m) := ⟨fun σ H s Z I r0 Q w rs e p => by
  refine h.bnd w rs e (p.x) fun d v M1 Z1 H1 I1 w1 rs1 x1 q1 e1 => ?_
  obtain ⟨d, rfl, e1⟩ := pur_ok e1
  have e1 : (match g d with | some ds => some (Rs.ok ds M1) | none => none) = some r0 := e1
  cases z : g d with
  | none => rw [z] at e1; cases e1
  | some ds =>
    rw [z] at e1; cases e1
    exact hr v d ds Z1 H1 I1 Q w1.sub q1 z fun J hJ => p J Z1 H1 I1 w1 x1 hJ⟩
def itL : D → Option (List DV)
  | .lst xs => some (xs.map .p)
  | .klst xs => some (xs.map .p)
  | .scr xs => some (xs.map .p)
  | _ => none
def itT : D → Option (List DV)
  | .tup xs => some (xs.map .p)
  | .ktup xs => some (xs.map .p)
  | _ => none
theorem getP {α : Type} {xs : List D} {i : Nat} {d : DV} (h : (xs.map DV.p)[i]? = some d) : ∃ y, xs[i]? = some y ∧ d = .p y := by
  rw [List.getElem?_map] at h
  cases q : xs[i]? with
  | none => rw [q] at h; cases h
  | some y => rw [q] at h; cases h; exact ⟨y, rfl, rfl⟩
theorem rd_inj_len {K : PySem.W.Frag} {Z : Hp} {vs : List V} {xs : List D} (r : RepA K Z vs xs) {i : Nat} {y : D} (h : xs[i]? = some y) : ∃ v, vs[i]? = some v ∧ Rep K Z v y := r.get h
theorem di_list {te : TE} {m : EM} (h : DE K X W iter te m) : DI K X W tg iter (iList K te) (mItD itL m) := by
  refine ⟨h.k, ?_, ?_⟩
  · rw [← h.k]; exact pi_list h.pe
  · refine so_itD (r := fun x H1 R => ∃ a, x = .ref a ∧ (∃ xs, SqL K H1 a xs) ∧ R (Itl K a) H1) h.so fun v d ds Z H I R s hd hg q => ?_
    cases hd with
    | lst h1 h2 =>
      rename_i a vs xs
      cases hg
      refine ⟨a, rfl, ⟨vs, .inl (same_rd s h1)⟩, q _ fun Z' H' I' z _ s' i => ⟨fun d hd => ?_, fun hl => ⟨vs, .inl (same_rd s' (same_rd z h1)), by rw [h2.length]; simpa using hl⟩⟩⟩
      obtain ⟨y, hy, rfl⟩ := getP (α := Unit) hd
      obtain ⟨v, hv, rv⟩ := h2.get hy
      refine ⟨⟨vs, v, .inl (same_rd s' (same_rd z h1)), hv⟩, fun x H2 hx => ?_⟩
      obtain ⟨rfl, hx⟩ := hx
      have := hx vs (.inl (same_rd s' (same_rd z h1)))
      rw [hv] at this
      cases this
      exact ⟨Z', ExtP.refl s', rv.mono z⟩
    | klst h1 h2 =>
      rename_i a vs xs
      cases hg
      refine ⟨a, rfl, ⟨vs, same_l s h1⟩, q _ fun Z' H' I' z _ s' i => ⟨fun d hd => ?_, fun hl => ⟨vs, same_l s' (same_l z h1), by rw [h2.length]; simpa using hl⟩⟩⟩
      obtain ⟨y, hy, rfl⟩ := getP (α := Unit) hd
      obtain ⟨v, hv, rv⟩ := h2.get hy
      refine ⟨⟨vs, v, same_l s' (same_l z h1), hv⟩, fun x H2 hx => ?_⟩
      obtain ⟨rfl, hx⟩ := hx
      have := hx vs (same_l s' (same_l z h1))
      rw [hv] at this
      cases this
      exact ⟨Z', ExtP.refl s', rv.mono z⟩
    | scr h1 h2 =>
      rename_i a vs xs
      cases hg
      refine ⟨a, rfl, ⟨vs, same_l s h1⟩, q _ fun Z' H' I' z _ s' i => ⟨fun d hd => ?_, fun hl => ⟨vs, same_l s' (same_l z h1), by rw [h2.length]; simpa using hl⟩⟩⟩
      obtain ⟨y, hy, rfl⟩ := getP (α := Unit) hd
      obtain ⟨v, hv, rv⟩ := h2.get hy
      refine ⟨⟨vs, v, same_l s' (same_l z h1), hv⟩, fun x H2 hx => ?_⟩
      obtain ⟨rfl, hx⟩ := hx
      have := hx vs (same_l s' (same_l z h1))
      rw [hv] at this
      cases this
      exact ⟨Z', ExtP.refl s', rv.mono z⟩
    | _ => cases hg
theorem di_tup {te : TE} {m : EM} (h : DE K X W iter te m) : DI K X W tg iter (iTup K te) (mItD itT m) := by
  refine ⟨h.k, ?_, ?_⟩
  · rw [← h.k]; exact pi_tup h.pe
  · refine so_itD (r := fun x H1 R => ∃ a, x = .ref a ∧ (∃ xs, SqT K H1 a xs) ∧ R (Itt K a) H1) h.so fun v d ds Z H I R s hd hg q => ?_
    cases hd with
    | tup h1 h2 =>
      rename_i a vs xs
      cases hg
      refine ⟨a, rfl, ⟨vs, sqt s h1⟩, q _ fun Z' H' I' z _ s' i => ⟨fun d hd => ?_, fun hl => ⟨vs, sqt s' (z _ _ h1), by rw [h2.length]; simpa using hl⟩⟩⟩
      obtain ⟨y, hy, rfl⟩ := getP (α := Unit) hd
      obtain ⟨v, hv, rv⟩ := h2.get hy
      refine ⟨⟨vs, v, sqt s' (z _ _ h1), hv⟩, fun x H2 hx => ?_⟩
      obtain ⟨rfl, hx⟩ := hx
      have := hx vs (sqt s' (z _ _ h1))
      rw [hv] at this
      cases this
      exact ⟨Z', ExtP.refl s', rv.mono z⟩
    | ktup h1 h2 =>
      rename_i a vs xs
      cases hg
      refine ⟨a, rfl, ⟨vs, same_t s h1⟩, q _ fun Z' H' I' z _ s' i => ⟨fun d hd => ?_, fun hl => ⟨vs, same_t s' (same_t z h1), by rw [h2.length]; simpa using hl⟩⟩⟩
      obtain ⟨y, hy, rfl⟩ := getP (α := Unit) hd
      obtain ⟨v, hv, rv⟩ := h2.get hy
      refine ⟨⟨vs, v, same_t s' (same_t z h1), hv⟩, fun x H2 hx => ?_⟩
      obtain ⟨rfl, hx⟩ := hx
      have := hx vs (same_t s' (same_t z h1))
      rw [hv] at this
      cases this
      exact ⟨Z', ExtP.refl s', rv.mono z⟩
    | _ => cases hg
def itS : D → Option (List DV)
  | .str x => some (x.cps.toList.map fun c => .p (.str ⟨#[c]⟩))
  | _ => none
theorem di_str {te : TE} {m : EM} (h : DE K X W iter te m) : DI K X W tg iter (iStr te) (mItD itS m) := by
  refine ⟨h.k, pi_str h.pe, ?_⟩
  refine so_itD (r := fun v H1 R => ∃ x, v = .str x ∧ R (Its x) H1) h.so fun v d ds Z H I R s hd hg q => ?_
  cases hd with
  | str x =>
    cases hg
    refine ⟨x, rfl, q _ fun Z' H' I' z _ s' i => ⟨fun d hd => ?_, fun hl => ?_⟩⟩
    · rw [List.getElem?_map] at hd
      cases hc : x.cps.toList[i]? with
      | none => rw [hc] at hd; cases hd
      | some c =>
        rw [hc] at hd; cases hd
        have hi : i < x.cps.size := by
          have := (List.getElem?_eq_some_iff.mp hc).1
          simpa using this
        refine ⟨hi, fun y H2 hy => ?_⟩
        obtain ⟨rfl, c', hc', rfl⟩ := hy
        have : c' = c := by
          have e1 : x.cps.toList[i]? = some c' := by simpa using hc'
          rw [hc] at e1
          exact (Option.some.inj e1).symm
        subst this
        exact ⟨Z', ExtP.refl s', .str _⟩
    · show x.cps.size ≤ i
      simpa using hl
  | _ => cases hg
def intsFrom (lo : Int) (n : Nat) : List DV := (List.range n).map fun (i : Nat) => .p (.int (lo + (i : Int)))
theorem itr_ok {Z : Hp} {I : List Addr} {lo : Int} {n : Nat} : ItOk K Z I (Itr lo n) (intsFrom lo n) := fun Z' H' I' z _ s' i => by
  refine ⟨fun d hd => ?_, fun hl => ?_⟩
  · unfold intsFrom at hd
    rw [List.getElem?_map] at hd
    cases q : (List.range n)[i]? with
    | none => rw [q] at hd; cases hd
    | some j =>
      rw [q] at hd
      have hi : i < n := by simpa using (List.getElem?_eq_some_iff.mp q).1
      have ej : j = i := by
        rw [List.getElem?_range hi] at q
        exact (Option.some.inj q).symm
      subst ej
      cases hd
      refine ⟨hi, fun x H2 hx => ?_⟩
      obtain ⟨rfl, rfl⟩ := hx
      exact ⟨Z', ExtP.refl s', .int _⟩
  · show n ≤ i
    simpa [intsFrom] using hl
def rngOk (i : Int) : Bool := decide (-4611686018427387904 ≤ i ∧ i < 4611686018427387904)
def rng1D : List DV → Option (List DV)
  | [.p (.int j)] => if rngOk j = true then some (intsFrom 0 j.toNat) else none
  | _ => none
def rng2D : List DV → Option (List DV)
  | [.p (.int i), .p (.int j)] => if rngOk i = true then if rngOk j = true then some (intsFrom i (j - i).toNat) else none else none
  | _ => none
def mRng (g : List DV → Option (List DV)) (ms : AM) : IM := bnd ms fun ds s => match g ds with
  | some xs => some (.ok xs s.m)
  | none => none
theorem rng_bound {i : Int} (h : rngOk i = true) : -(2 ^ 62) ≤ i ∧ i < 2 ^ 62 := by
  unfold rngOk at h
  simp only [decide_eq_true_eq] at h
  have : (2 : Int) ^ 62 = 4611686018427387904 := by decide
  omega
theorem so_rng {g : List DV → Option (List DV)} {ta : TA} {ms : AM} {r : List V → Hp → (It → Hp → Prop) → Prop} (h : Sound K W (RepVs K) ta ms) (hr : ∀ vs ds xs Z H I (R : It → Hp → Prop), RepVs K Z I vs ds → g ds = some xs → (∀ J, ItOk K Z I J xs → R J H) → r vs H R) :
    Sound K W (ItOk K) (fun σ H R => ta σ H fun vs H1 => r vs H1 R) (mRng g ms) := ⟨fun σ H s Z I r0 Q w rs e p => by
  refine h.bnd w rs e (p.x) fun ds vs M1 Z1 H1 I1 w1 rs1 x1 q1 e1 => ?_
  have e1 : (match g ds with | some xs => some (Rs.ok xs M1) | none => none) = some r0 := e1
  cases z : g ds with
  | none => rw [z] at e1; cases e1
  | some xs =>
    rw [z] at e1; cases e1
    exact hr vs ds xs Z1 H1 I1 Q q1 z fun J hJ => p J Z1 H1 I1 w1 x1 hJ⟩
theorem di_range1 {ta : TA} {ms : AM} {p : Pos} (hm : X.mg "range" = none) (h : DA K X W [a] ta ms) (hg : Gl X "range" := by rfl) (hs : starEach [a] X.env = [(false, eval a X.env)] := by rfl) : DI K X W tg (.Call (.Name "range" p) [a] [] pos) (iRng1 ta) (mRng rng1D ms) :=
  ⟨h.k, pi_range1 hg hm h.pa hs, so_rng (r := fun vs H1 R => ∃ j : Int, vs = [.int j] ∧ -(2 ^ 62) ≤ j ∧ j < 2 ^ 62 ∧ R (Itr 0 j.toNat) H1) h.so fun vs ds xs Z H I R rv z q => by
    unfold rng1D at z
    split at z
    · split at z
      · rename_i hb
        cases z
        cases rv with
        | cons g1 g2 =>
        cases g2
        cases g1
        obtain ⟨b1, b2⟩ := rng_bound hb
        exact ⟨_, rfl, b1, b2, q _ itr_ok⟩
      · cases z
    · cases z⟩
theorem di_range2 {ta : TA} {ms : AM} {p : Pos} (hm : X.mg "range" = none) (h : DA K X W [a, b] ta ms) (hg : Gl X "range" := by rfl) (hs : starEach [a, b] X.env = [(false, eval a X.env), (false, eval b X.env)] := by rfl) (hs2 : starEach [b] X.env = [(false, eval b X.env)] := by rfl) : DI K X W tg (.Call (.Name "range" p) [a, b] [] pos) (iRng2 ta) (mRng rng2D ms) :=
  ⟨h.k, pi_range2 hg hm h.pa hs hs2, so_rng (r := fun vs H1 R => ∃ i j : Int, vs = [.int i, .int j] ∧ (-(2 ^ 62) ≤ i ∧ i < 2 ^ 62 ∧ -(2 ^ 62) ≤ j ∧ j < 2 ^ 62) ∧ R (Itr i (j - i).toNat) H1) h.so fun vs ds xs Z H I R rv z q => by
    unfold rng2D at z
    split at z
    · split at z
      · rename_i hb
        split at z
        · rename_i hb2
          cases z
          cases rv with
          | cons g1 g2 =>
          cases g2 with
          | cons g2 g3 =>
          cases g3
          cases g1
          cases g2
          obtain ⟨b1, b2⟩ := rng_bound hb
          obtain ⟨b3, b4⟩ := rng_bound hb2
          exact ⟨_, _, rfl, ⟨b1, b2, b3, b4⟩, q _ itr_ok⟩
        · cases z
      · cases z
    · cases z⟩
/-! ### for -/
def loopS (g : GM) (body : SM) : List DV → SM
  | [], s => some (.nx, s)
  | d :: ds, s => match g d s with
    | none => none
    | some s1 => match body s1 with
      | none => none
      | some (.nx, s2) => loopS g body ds s2
      | some (.ct, s2) => loopS g body ds s2
      | some (.bk, s2) => some (.nx, s2)
      | some (.rt v, s2) => some (.rt v, s2)
      | some (.ex c f, s2) => some (.ex c f, s2)
def sFor (it : IM) (g : GM) (body : SM) : SM := liftS it fun ds => loopS g body ds
theorem ExtP.ext' {Z H Z' H' : Hp} {I : List Addr} {M : List O} (w : Wf K Z H I M) (e : ExtP Z H Z' H') : Ext Z H I Z' H' I := e.ext w
theorem ds_for {body : List Stmt} {wi : TI} {g : TG} {tb : TS} {it : IM} {gm : GM} {ix : List Nat} {mb : SM} (hp : PassesOwn (model X.prog X.w) X.A X.env X.xe) (hc : X.calm = true) (hi : DI K X W tg iter wi it) (hg : DG K X tg g gm ix) (hb : DSs K X W body tb mb)
    (hs : ∀ x, foldedSetIterable iter X.env x = pure x := by intro _; rfl) : DS K X W (.For tg iter body [] pos) (tFor wi g tb) (sFor it gm mb) := ⟨hi.k, ps_for hp hc hi.pi hg.pg hb.ps hs, ⟨fun σ H s Z I r D w rs e p => by
  refine hi.so.lift w rs e p fun ds J M1 Z1 H1 I1 w1 rs1 x1 q1 e1 p1 => ?_
  refine ⟨fun i m σ' H' => m = ds.length - i ∧ i ≤ ds.length ∧ ∃ Z' I' s', Wf K Z' H' I' s'.m ∧ RepS K Z' I' σ' s'.l ∧ Ext Z1 H1 I1 Z' H' I' ∧ loopS gm mb (ds.drop i) s' = some r, ⟨ds.length, by simp, Nat.zero_le _, Z1, I1, ⟨s.l, M1⟩, w1, rs1, Ext.refl, e1⟩, ?_⟩
  rintro i m σ' H' ⟨rfl, hi', Z', I', s', w', rs', x', e'⟩
  have Jo := q1 Z' H' I' x'.z x'.i w'.sub i
  by_cases hlt : i < ds.length
  · right
    have hd : ds[i]? = some ds[i] := by simp [hlt]
    obtain ⟨go, yl⟩ := Jo.1 _ hd
    rw [List.drop_eq_getElem_cons hlt] at e'
    refine ⟨go, fun σ2 H2 => ∃ Z2 I2 s2, Wf K Z2 H2 I2 s2.m ∧ RepS K Z2 I2 σ2 s2.l ∧ Ext Z1 H1 I1 Z2 H2 I2 ∧ loopS gm mb (ds.drop (i + 1)) s2 = some r,
      fun σ2 H2 h2 => ⟨ds.length - (i + 1), by omega, rfl, hlt, h2⟩, fun x H2 hx => ?_⟩
    obtain ⟨Z2, x2, rx⟩ := yl x H2 hx
    have w2 := w'.extP x2
    have y2 := x2.ext w'
    have e' : (match gm ds[i] s' with
      | none => none
      | some s1 => match mb s1 with
        | none => none
        | some (.nx, s2) => loopS gm mb (ds.drop (i + 1)) s2
        | some (.ct, s2) => loopS gm mb (ds.drop (i + 1)) s2
        | some (.bk, s2) => some (.nx, s2)
        | some (.rt v, s2) => some (.rt v, s2)
        | some (.ex c f, s2) => some (.ex c f, s2)) = some r := e'
    cases z : gm ds[i] s' with
    | none => rw [z] at e'; cases e'
    | some s1 =>
      rw [z] at e'
      refine hg.ok x ds[i] σ' H2 s' s1 Z2 I' _ w2 (rs'.mono y2) rx z fun σ3 Z3 H3 I3 w3 rs3 x3 _ => ?_
      have xx := (x'.trans y2).trans x3
      cases z2 : mb s1 with
      | none =>
        have e' : (match mb s1 with
          | none => none
          | some (.nx, s2) => loopS gm mb (ds.drop (i + 1)) s2
          | some (.ct, s2) => loopS gm mb (ds.drop (i + 1)) s2
          | some (.bk, s2) => some (.nx, s2)
          | some (.rt v, s2) => some (.rt v, s2)
          | some (.ex c f, s2) => some (.ex c f, s2)) = some r := e'
        rw [z2] at e'; cases e'
      | some fr =>
        have e' : (match mb s1 with
          | none => none
          | some (.nx, s2) => loopS gm mb (ds.drop (i + 1)) s2
          | some (.ct, s2) => loopS gm mb (ds.drop (i + 1)) s2
          | some (.bk, s2) => some (.nx, s2)
          | some (.rt v, s2) => some (.rt v, s2)
          | some (.ex c f, s2) => some (.ex c f, s2)) = some r := e'
        rw [z2] at e'
        obtain ⟨f, s2⟩ := fr
        have p3 := p1.mono xx
        refine hb.so.ok σ3 H3 s1 Z3 I3 _ _ w3 rs3 z2 ?_
        cases f with
        | nx => exact fun σ4 Z4 H4 I4 w4 rs4 x4 => ⟨Z4, I4, s2, w4, rs4, xx.trans x4, e'⟩
        | ct => exact fun σ4 Z4 H4 I4 w4 rs4 x4 => ⟨Z4, I4, s2, w4, rs4, xx.trans x4, e'⟩
        | bk => cases e'; exact p3
        | rt v => cases e'; exact p3
        | ex c fs => cases e'; exact p3
  · left
    have e0 : ds.drop i = [] := List.drop_eq_nil_of_le (by omega)
    rw [e0] at e'
    cases e'
    exact ⟨Jo.2 (by omega), (p1.mono x') σ' Z' H' I' w' rs' Ext.refl⟩⟩⟩
/-! ### while -/
def sWhile : Nat → EM → SM → SM
  | 0, _, _ => fun _ => none
  | n + 1, c, body => liftS c fun d s => match d with
    | .p (.bl true) => match body s with
      | none => none
      | some (.nx, s2) => sWhile n c body s2
      | some (.ct, s2) => sWhile n c body s2
      | some (.bk, s2) => some (.nx, s2)
      | some (.rt v, s2) => some (.rt v, s2)
      | some (.ex c f, s2) => some (.ex c f, s2)
    | .p (.bl false) => some (.nx, s)
    | _ => none
theorem ds_while {body : List Stmt} {tc : TT} {tb : TS} {c : Expr} {mc : EM} {mb : SM} (n : Nat) (hp : PassesOwn (model X.prog X.w) X.A X.env X.xe) (hc : DT K X W c tc mc) (hb : DSs K X W body tb mb) : DS K X W (.While c body [] pos) (tWhile tc tb) (sWhile n mc mb) := ⟨hc.k, ps_while hp hc.pt hb.ps, ⟨fun σ H s Z I r D w rs e p => by
  refine ⟨fun m σ' H' => ∃ Z' I' s', Wf K Z' H' I' s'.m ∧ RepS K Z' I' σ' s'.l ∧ Ext Z H I Z' H' I' ∧ sWhile m mc mb s' = some r, ⟨n, Z, I, s, w, rs, Ext.refl, e⟩, ?_⟩
  rintro m σ' H' ⟨Z', I', s', w', rs', x', e'⟩
  cases m with
  | zero => cases e'
  | succ m =>
    refine hc.so.lift w' rs' e' (p.mono x') fun d v M1 Z1 H1 I1 w1 rs1 x1 q1 e1 p1 => ?_
    cases (show d = .p (.bl v) from q1)
    cases v with
    | false =>
      rw [if_neg Bool.false_ne_true]
      cases e1
      exact p1 σ' Z1 H1 I1 w1 rs1 Ext.refl
    | true =>
      rw [if_pos rfl]
      have e1 : (match mb ⟨s'.l, M1⟩ with
        | none => none
        | some (.nx, s2) => sWhile m mc mb s2
        | some (.ct, s2) => sWhile m mc mb s2
        | some (.bk, s2) => some (.nx, s2)
        | some (.rt v, s2) => some (.rt v, s2)
        | some (.ex c f, s2) => some (.ex c f, s2)) = some r := e1
      refine ⟨fun σ2 H2 => ∃ Z2 I2 s2, Wf K Z2 H2 I2 s2.m ∧ RepS K Z2 I2 σ2 s2.l ∧ Ext Z H I Z2 H2 I2 ∧ sWhile m mc mb s2 = some r, fun σ2 H2 h2 => ⟨m, Nat.lt_succ_self m, h2⟩, ?_⟩
      cases z2 : mb ⟨s'.l, M1⟩ with
      | none => rw [z2] at e1; cases e1
      | some fr =>
        rw [z2] at e1
        obtain ⟨f, s2⟩ := fr
        refine hb.so.ok σ' H1 ⟨s'.l, M1⟩ Z1 I1 _ _ w1 rs1 z2 ?_
        cases f with
        | nx => exact fun σ4 Z4 H4 I4 w4 rs4 x4 => ⟨Z4, I4, s2, w4, rs4, (x'.trans x1).trans x4, e1⟩
        | ct => exact fun σ4 Z4 H4 I4 w4 rs4 x4 => ⟨Z4, I4, s2, w4, rs4, (x'.trans x1).trans x4, e1⟩
        | bk => cases e1; exact p1
        | rt v => cases e1; exact p1
        | ex c fs => cases e1; exact p1⟩⟩
end
end DL
namespace DL
open PySem L2
abbrev WF : WX := fun _ _ _ _ => False
section
variable {K : PySem.W.Frag} {X : Cx} {W : WX} {e a b c tg iter : Expr} {es : List Expr} {pos : Pos}
def wipeL (l : List (Option DV)) : List Nat → List (Option DV)
  | [] => l
  | v :: vs => (wipeL l vs).set v none
theorem RepS.wipe {Z : Hp} {I : List Addr} {σ : St} {l : List (Option DV)} (r : RepS K Z I σ l) : ∀ vs : List Nat, RepS K Z I (L2.wipe σ vs) (wipeL l vs)
  | [] => r
  | v :: vs => by
    have h := RepS.wipe r vs
    refine ⟨by show ((L2.wipe σ vs).set v none).length = ((wipeL l vs).set v none).length; simpa using h.len, fun i dv e => ?_⟩
    have e : ((wipeL l vs).set v none)[i]? = some (some dv) := e
    by_cases q : v = i
    · subst q
      by_cases b : v < (wipeL l vs).length
      · rw [List.getElem?_set_self b] at e; cases e
      · rw [List.getElem?_eq_none (by simpa using b)] at e; cases e
    · rw [List.getElem?_set_ne q] at e
      obtain ⟨u, h1, h2⟩ := h.at_ i dv e
      refine ⟨u, ?_, h2⟩
      show ((L2.wipe σ vs).set v none)[i]? = _
      rw [List.getElem?_set_ne q]; exact h1
theorem wipe_wipe {σ : St} : ∀ vs ws : List Nat, (∀ i ∈ vs, i ∈ ws) → L2.wipe (L2.wipe σ vs) ws = L2.wipe σ ws
  | [], _, _ => rfl
  | v :: vs, ws, h => by
    show L2.wipe ((L2.wipe σ vs).set v none) ws = _
    rw [wipe_set (h v (by simp))]
    exact wipe_wipe vs ws fun i hi => h i (by simp [hi])
/-- the block of a list comprehension: results that are data -/
def compL (l : List (Option DV)) (g : GM) (t e : EM) : List DV → List D → List O → Option (List D × List O)
  | [], acc, M => some (acc, M)
  | d :: ds, acc, M => match g d ⟨l, M⟩ with
    | none => none
    | some s1 => match t s1 with
      | some (.ok (.p (.bl true)) M1) => match e ⟨s1.l, M1⟩ with
        | some (.ok (.p y) M2) => if acc.length < 1000000 then compL l g t e ds (acc ++ [y]) M2 else none
        | _ => none
      | some (.ok (.p (.bl false)) M1) => compL l g t e ds acc M1
      | _ => none
def mLc (it : IM) (vs : List Nat) (g : GM) (t e : EM) : EM := bnd it fun ds s => match compL (wipeL s.l vs) g t e ds [] s.m with
  | some (acc, M) => some (.ok (.p (.lst acc)) M)
  | none => none
def mLcO (it : IM) (vs : List Nat) (g : GM) (t e : EM) : EM := bnd it fun ds s => match compL (wipeL s.l vs) g t e ds [] s.m with
  | some (acc, M) => some (.ok (.o M.length) (M ++ [.lst (acc.map .p)]))
  | none => none
/-- what is known of the new list at D while it is filled -/
structure Fill (K : PySem.W.Frag) (Z1 H1 : Hp) (I1 : List Addr) (D : Addr) (Z H : Hp) (I : List Addr) (M : List O) (acc : List V) (ad : List DL.D) : Prop where
  w : Wf K Z H I M
  x : Ext Z1 H1 I1 Z H I
  at_ : H D = some (.lst acc)
  nz : Z D = none
  ni : D ∉ I
  r : RepA K Z acc ad
theorem Fill.step {Z1 H1 Z H Z' H' : Hp} {I1 I I' : List Addr} {D : Addr} {M M' : List O} {acc : List V} {ad : List DL.D} (f : Fill K Z1 H1 I1 D Z H I M acc ad) (w : Wf K Z' H' I' M') (x : Ext Z H I Z' H' I') : Fill K Z1 H1 I1 D Z' H' I' M' acc ad where
  w := w
  x := f.x.trans x
  at_ := x.fr D _ f.at_ f.ni
  nz := by
    cases q : Z' D with
    | none => rfl
    | some o =>
      rcases x.zn D (by rw [q]; simp) with k | k | k
      · exact absurd f.nz k
      · rw [f.at_] at k; cases k
      · exact absurd k f.ni
  ni := fun m => by
    rcases x.nw D m with k | k
    · exact f.ni k
    · rw [f.at_] at k; cases k
  r := f.r.mono x.z
theorem Fill.put {Z1 H1 Z H : Hp} {I1 I : List Addr} {D : Addr} {M : List O} {acc : List V} {ad : List DL.D} (f : Fill K Z1 H1 I1 D Z H I M acc ad) (h0 : H1 D = none) {v : V} {d : DL.D} (r : Rep K Z v d) : Fill K Z1 H1 I1 D Z (upd H D (.lst (acc ++ [v]))) I M (acc ++ [v]) (ad ++ [d]) where
  w := ⟨fun a u e => by rw [upd_ne (fun q => by rw [q, f.nz] at e; cases e)]; exact f.w.sub a u e, f.w.len, f.w.nd, fun a m => by rw [upd_ne (fun q => f.ni (by rw [← q]; exact m))]; exact f.w.tr a m, fun n a o h1 h2 h3 => by
    obtain ⟨q1, q2⟩ := f.w.ob n a o h1 h2 h3
    exact ⟨q1, q2.mono (Same.refl _) (upd_ne fun q => f.ni (by rw [← q]; exact List.mem_of_getElem? h1))⟩⟩
  x := ⟨f.x.z, f.x.i, fun a o e n => by rw [upd_ne (ne_of_none e h0)]; exact f.x.fr a o e n, f.x.nw, f.x.zn, fun a e => by
    by_cases q : a = D
    · rw [q, upd_same]; simp
    · rw [upd_ne q]; exact f.x.tr a e⟩
  at_ := upd_same
  nz := f.nz
  ni := f.ni
  r := f.r.append (.cons r .nil)
theorem tLc_ok {wi : TI} {g : TG} {tt : TT} {te : TE} {vs : List Nat} {it : IM} {gm : GM} {ix : List Nat} {t em : EM} (hi : Sound K W (ItOk K) wi it)
    (hg : ∀ (v : V) (dv : DV) (σ : St) (H : Hp) (s s' : S) (Z : Hp) (I : List Addr) (Q : St → Hp → Prop), Wf K Z H I s.m → RepS K Z I σ s.l → RepV K Z I v dv → gm dv s = some s' →
      (∀ σ' Z' H' I', Wf K Z' H' I' s'.m → RepS K Z' I' σ' s'.l → Ext Z H I Z' H' I' → (∀ vs, (∀ i ∈ ix, i ∈ vs) → L2.wipe σ' vs = L2.wipe σ vs) → Q σ' H') → g v σ H Q) (hix : ∀ i ∈ ix, i ∈ vs)
    (ht : Sound K WF RepB tt t) (he : Sound K WF (RepV K) te em) {σ : St} {H : Hp} {s : S} {Z : Hp} {I : List Addr} {r : Rs DV} {Q : VK} {k : List D → List O → Rs DV} (w : Wf K Z H I s.m) (rs : RepS K Z I σ s.l)
    (e : bnd it (fun ds s => match compL (wipeL s.l vs) gm t em ds [] s.m with | some (acc, M) => some (k acc M) | none => none) s = some r) (px : ∀ c fs M, r = .ex c fs M → PostX K W Z H I σ M c fs)
    (hk : ∀ Z1 H1 I1 D Z' H' I' M acc ad, r = k ad M → H1 D = none → Ext Z H I Z1 H1 I1 → Fill K Z1 H1 I1 D Z' H' I' M acc ad → Q (.ref D) H') : tLc wi g tt te vs σ H Q := by
  refine hi.bnd w rs e px fun ds J M1 Z1 H1 I1 w1 rs1 x1 q1 e1 => ?_
  have e1 : (match compL (wipeL s.l vs) gm t em ds [] M1 with | some (acc, M) => some (k acc M) | none => none) = some r := e1
  cases zc : compL (wipeL s.l vs) gm t em ds [] M1 with
  | none => rw [zc] at e1; cases e1
  | some am =>
    rw [zc] at e1
    obtain ⟨ad, Mf⟩ := am
    have e1 : some (k ad Mf) = some r := e1
    intro D hD
    have f0 : Fill K Z1 H1 I1 D Z1 (upd H1 D (.lst [])) I1 M1 [] [] := by
      refine ⟨⟨fun a u q => by rw [upd_ne (ne_of_none (w1.sub a u q) hD)]; exact w1.sub a u q, w1.len, w1.nd, fun a m => by rw [upd_ne (fun q => w1.tr a m (by rw [q]; exact hD))]; exact w1.tr a m, fun n a o h1 h2 h3 => ?_⟩, ⟨Same.refl _, ⟨[], by simp⟩, fun a o q _ => by rw [upd_ne (ne_of_none q hD)]; exact q, fun _ m => .inl m, fun _ m => .inl m, fun a q => by rw [upd_ne (fun y => q (by rw [y]; exact hD))]; exact q⟩, upd_same, none_of w1.sub hD, fun m => w1.tr D m hD, .nil⟩
      obtain ⟨q1, q2⟩ := w1.ob n a o h1 h2 h3
      exact ⟨q1, q2.mono (Same.refl _) (upd_ne fun q => w1.tr a (List.mem_of_getElem? h1) (by rw [q]; exact hD))⟩
    refine ⟨fun i m H' => m = ds.length - i ∧ i ≤ ds.length ∧ ∃ Z' I' M acc bd, Fill K Z1 H1 I1 D Z' H' I' M acc bd ∧ compL (wipeL s.l vs) gm t em (ds.drop i) bd M = some (ad, Mf), ⟨ds.length, by simp, Nat.zero_le _, Z1, I1, M1, [], [], f0, zc⟩, ?_⟩
    rintro i m H' ⟨rfl, hil, Z', I', M, acc, bd, f, e'⟩
    have Jo := q1 Z' H' I' f.x.z f.x.i f.w.sub i
    by_cases hlt : i < ds.length
    · right
      have hd : ds[i]? = some ds[i] := by simp [hlt]
      obtain ⟨go, yl⟩ := Jo.1 _ hd
      rw [List.drop_eq_getElem_cons hlt] at e'
      refine ⟨go, fun H2 => ∃ Z2 I2 M2 acc2 bd2, Fill K Z1 H1 I1 D Z2 H2 I2 M2 acc2 bd2 ∧ compL (wipeL s.l vs) gm t em (ds.drop (i + 1)) bd2 M2 = some (ad, Mf),
        fun H2 h2 => ⟨ds.length - (i + 1), by omega, rfl, hlt, h2⟩, fun x H2 hx => ?_⟩
      obtain ⟨Z2, x2, rx⟩ := yl x H2 hx
      have f2 := f.step (f.w.extP x2) (x2.ext f.w)
      have rs2 : RepS K Z2 I' (L2.wipe σ vs) (wipeL s.l vs) := ((rs1.mono f2.x)).wipe vs
      unfold compL at e'
      cases zg : gm ds[i] ⟨wipeL s.l vs, M⟩ with
      | none => rw [zg] at e'; cases e'
      | some s1 =>
        rw [zg] at e'
        refine hg x ds[i] (L2.wipe σ vs) H2 ⟨wipeL s.l vs, M⟩ s1 Z2 I' _ f2.w rs2 rx zg fun σ3 Z3 H3 I3 w3 rs3 x3 k3 => ?_
        have f3 := f2.step w3 x3
        refine ⟨(k3 vs hix).trans (wipe_wipe vs vs fun _ h => h) , ?_⟩
        have e' : (match t s1 with
          | some (.ok (.p (.bl true)) M1) => match em ⟨s1.l, M1⟩ with
            | some (.ok (.p y) M2) => if bd.length < 1000000 then compL (wipeL s.l vs) gm t em (ds.drop (i + 1)) (bd ++ [y]) M2 else none
            | _ => none
          | some (.ok (.p (.bl false)) M1) => compL (wipeL s.l vs) gm t em (ds.drop (i + 1)) bd M1
          | _ => none) = some (ad, Mf) := e'
        cases zt : t s1 with
        | none => rw [zt] at e'; cases e'
        | some rt =>
          rw [zt] at e'
          refine ht.ok σ3 H3 s1 Z3 I3 rt _ w3 rs3 zt ?_
          cases rt with
          | ex c fs M4 => cases e'
          | ok d4 M4 =>
            intro b Z4 H4 I4 w4 x4 r4
            cases (show d4 = .p (.bl b) from r4)
            have f4 := f3.step w4 x4
            cases b with
            | false =>
              rw [if_neg Bool.false_ne_true]
              exact ⟨Z4, I4, M4, acc, bd, f4, e'⟩
            | true =>
              rw [if_pos rfl]
              have e' : (match em ⟨s1.l, M4⟩ with
                | some (.ok (.p y) M2) => if bd.length < 1000000 then compL (wipeL s.l vs) gm t em (ds.drop (i + 1)) (bd ++ [y]) M2 else none
                | _ => none) = some (ad, Mf) := e'
              cases ze : em ⟨s1.l, M4⟩ with
              | none => rw [ze] at e'; cases e'
              | some re =>
                rw [ze] at e'
                refine he.ok σ3 H4 ⟨s1.l, M4⟩ Z4 I4 re _ w4 (rs3.mono x4) ze ?_
                cases re with
                | ex c fs M5 => cases e'
                | ok d5 M5 =>
                  intro y Z5 H5 I5 w5 x5 r5
                  have f5 := f4.step w5 x5
                  cases d5 with
                  | o n => cases e'
                  | p d5 =>
                    have e' : (if bd.length < 1000000 then compL (wipeL s.l vs) gm t em (ds.drop (i + 1)) (bd ++ [d5]) M5 else none) = some (ad, Mf) := e'
                    split at e'
                    · rename_i hlen
                      refine ⟨acc, f5.at_, by rw [f5.r.length]; exact size_lt (Nat.le_of_lt hlen), ?_⟩
                      exact ⟨Z5, I5, M5, _, _, f5.put hD r5, e'⟩
                    · cases e'
    · left
      have e0 : ds.drop i = [] := List.drop_eq_nil_of_le (by omega)
      rw [e0] at e'
      cases e'
      exact ⟨Jo.2 (by omega), hk Z1 H1 I1 D Z' H' I' _ acc _ (Option.some.inj e1).symm hD x1 f⟩
theorem Fill.frz {Z1 H1 Z H : Hp} {I1 I : List Addr} {D : Addr} {M : List O} {acc : List V} {ad : List DL.D} (f : Fill K Z1 H1 I1 D Z H I M acc ad) (h0 : H1 D = none) : Wf K (upd Z D (.lst acc)) H I M ∧ Ext Z1 H1 I1 (upd Z D (.lst acc)) H I := by
  refine ⟨⟨fun a u e => ?_, f.w.len, f.w.nd, f.w.tr, fun n a o h1 h2 h3 => ?_⟩, ⟨f.x.z.trans (same_upd f.nz), f.x.i, f.x.fr, f.x.nw, fun a e => ?_, f.x.tr⟩⟩
  · by_cases q : a = D
    · rw [q, upd_same] at e; rw [q, f.at_]; exact e
    · rw [upd_ne q] at e; exact f.w.sub a u e
  · obtain ⟨q1, q2⟩ := f.w.ob n a o h1 h2 h3
    exact ⟨by rw [upd_ne fun q => f.ni (by rw [← q]; exact List.mem_of_getElem? h1)]; exact q1, q2.mono (same_upd f.nz) rfl⟩
  · by_cases q : a = D
    · rw [q]; exact .inr (.inl h0)
    · rw [upd_ne q] at e; exact f.x.zn a e
theorem Fill.own {Z1 H1 Z H : Hp} {I1 I : List Addr} {D : Addr} {M : List O} {acc : List V} {ad : List DL.D} (f : Fill K Z1 H1 I1 D Z H I M acc ad) (h0 : H1 D = none) : Wf K Z H (I ++ [D]) (M ++ [.lst (ad.map .p)]) ∧ Ext Z1 H1 I1 Z H (I ++ [D]) := by
  have x : Ext Z1 H1 I1 Z H (I ++ [D]) := by
    refine ⟨f.x.z, ?_, f.x.fr, fun a m => ?_, f.x.zn, f.x.tr⟩
    · obtain ⟨t, e⟩ := f.x.i
      exact ⟨t ++ [D], by rw [e, List.append_assoc]⟩
    · rcases List.mem_append.mp m with k | k
      · exact f.x.nw a k
      · rw [List.mem_singleton.mp k]; exact .inr h0
  have x2 : Ext Z H I Z H (I ++ [D]) ∨ True := .inr trivial
  refine ⟨⟨f.w.sub, by rw [List.length_append, List.length_append, f.w.len]; rfl, ?_, fun a m => ?_, fun n a o h1 h2 h3 => ?_⟩, x⟩
  · refine List.nodup_append.mpr ⟨f.w.nd, by simp, fun a ha b hb => ?_⟩
    rw [List.mem_singleton.mp hb]
    intro q
    exact f.ni (by rw [← q]; exact ha)
  · rcases List.mem_append.mp m with k | k
    · exact f.w.tr a k
    · rw [List.mem_singleton.mp k, f.at_]; simp
  · have up : ∀ {v : V} {d : DV}, RepV K Z I v d → RepV K Z (I ++ [D]) v d := fun {v d} h => by
      cases d with
      | p d => exact h
      | o j =>
        obtain ⟨b, hb, q⟩ := h
        exact ⟨b, by rw [List.getElem?_append_left (List.getElem?_eq_some_iff.mp hb).1]; exact hb, q⟩
    by_cases hn : n < I.length
    · rw [List.getElem?_append_left hn] at h1
      rw [List.getElem?_append_left (by rw [← f.w.len]; exact hn)] at h2
      obtain ⟨q1, q2⟩ := f.w.ob n a o h1 h2 h3
      refine ⟨q1, ?_⟩
      cases o with
      | lst _ => obtain ⟨xs, h, r⟩ := q2; exact ⟨xs, h, paired_imp (fun _ _ q => up q) r⟩
      | dK _ => obtain ⟨xs, h, r⟩ := q2; exact ⟨xs, h, paired_imp (fun _ _ q => ⟨q.1, up q.2⟩) r⟩
      | dT _ => obtain ⟨xs, h, r⟩ := q2; exact ⟨xs, h, paired_imp (fun _ _ q => ⟨q.1, up q.2⟩) r⟩
      | ins _ _ => obtain ⟨dx, xs, h, r⟩ := q2; exact ⟨dx, xs, h, paired_imp (fun _ _ q => ⟨q.1, up q.2⟩) r⟩
      | tbl _ _ => exact q2
      | gone => trivial
    · have e1 : n = I.length := by
        have := (List.getElem?_eq_some_iff.mp h1).1
        rw [List.length_append, List.length_singleton] at this
        omega
      subst e1
      rw [List.getElem?_append_right (Nat.le_refl _), Nat.sub_self] at h1
      rw [List.getElem?_append_right (by rw [f.w.len]; exact Nat.le_refl _), f.w.len, Nat.sub_self] at h2
      cases h1
      cases h2
      exact ⟨f.nz, acc, f.at_, allP_map f.r⟩
def tYesM : EM := tru
theorem so_yes : Sound K WF RepB tYes tYesM := ⟨fun σ H s Z I r Q w rs e p => by
  cases e; exact p true Z H I w Ext.refl rfl⟩
structure DPT (K : PySem.W.Frag) (X : Cx) (es : List Expr) (t : TT) (m : EM) : Prop where
  k : X.K = K
  pt : PTs X es t
  so : Sound K WF RepB t m
theorem dpt_nil (k : X.K = K := by rfl) : DPT K X [] tYes tYesM := ⟨k, pts_nil, so_yes⟩
theorem dpt_one {t : TT} {m : EM} (h : DT K X WF c t m) : DPT K X [c] t m := ⟨h.k, pts_one h.pt, h.so⟩
section
variable {elt : Expr} {ifs : List Expr} {scope : Scope} {own : List (Str × Nat)} {wi : TI} {g : TG} {tt : TT} {te : TE} {it : IM} {gm : GM} {ix : List Nat} {t em : EM}
theorem so_lc (hi : Sound K W (ItOk K) wi it) (hg : ∃ X' tg', DG K X' tg' g gm ix) (hix : ∀ i ∈ ix, i ∈ own.map (·.2)) (ht : Sound K WF RepB tt t) (he : Sound K WF (RepV K) te em) : Sound K W (RepV K) (tLc wi g tt te (own.map (·.2))) (mLc it (own.map (·.2)) gm t em) := ⟨fun σ H s Z I r Q w rs e p => by
  obtain ⟨X', tg', hg⟩ := hg
  refine tLc_ok hi hg.ok hix ht he (k := fun acc M => .ok (.p (.lst acc)) M) w rs e p.x fun Z1 H1 I1 D Z' H' I' M acc ad er h0 x1 f => ?_
  subst er
  obtain ⟨w', x'⟩ := f.frz h0
  exact p _ _ H' I' w' (x1.trans x') (.lst (.inl upd_same) (f.r.mono (same_upd f.nz)))⟩
theorem so_lcO (hi : Sound K W (ItOk K) wi it) (hg : ∃ X' tg', DG K X' tg' g gm ix) (hix : ∀ i ∈ ix, i ∈ own.map (·.2)) (ht : Sound K WF RepB tt t) (he : Sound K WF (RepV K) te em) : Sound K W (RepV K) (tLc wi g tt te (own.map (·.2))) (mLcO it (own.map (·.2)) gm t em) := ⟨fun σ H s Z I r Q w rs e p => by
  obtain ⟨X', tg', hg⟩ := hg
  refine tLc_ok hi hg.ok hix ht he (k := fun (acc : List D) M => Rs.ok (DV.o M.length) (M ++ [O.lst (acc.map DV.p)])) w rs e p.x fun Z1 H1 I1 D Z' H' I' M acc ad er h0 x1 f => ?_
  subst er
  obtain ⟨w', x'⟩ := f.own h0
  exact p _ _ H' _ w' (x1.trans x') ⟨D, by rw [← f.w.len, List.getElem?_append_right (Nat.le_refl _), Nat.sub_self]; rfl, rfl⟩⟩
theorem de_lc {vs : List Nat} (hN : X.N.Nodup) (hc : X.calm = true) (hi : DI K X W tg iter wi it) (ok : BlkOk X.N X.env.scope scope own)
    (hg : ∀ (s : Shared) (H : Hp) (C : Addr) (cl : List (Str × Addr)) (fp : List Addr), DG K (X.blk s H scope (compEnvC scope cl C X.env) fp) tg g gm ix) (ht : ∀ (s : Shared) (H : Hp) (C : Addr) (cl : List (Str × Addr)) (fp : List Addr), DPT K (X.blk s H scope (compEnvC scope cl C X.env) fp) ifs tt t)
    (he : ∀ (s : Shared) (H : Hp) (C : Addr) (cl : List (Str × Addr)) (fp : List Addr), DE K (X.blk s H scope (compEnvC scope cl C X.env) fp) WF elt te em) (hix : ∀ i ∈ ix, i ∈ own.map (·.2) := by decide) (hs : ∀ x, foldedSetIterable iter X.env x = pure x := by intro _; rfl) (hv : own.map (·.2) = vs := by rfl) :
    DE K X W (.ListComp elt [⟨tg, iter, ifs, 0⟩] scope pos) (tLc wi g tt te vs) (mLc it vs gm t em) := by
  subst hv
  exact ⟨hi.k, pe_lc hc hN hi.pi ok (fun s H C cl fp => (hg s H C cl fp).pg) (fun s H C cl fp => (ht s H C cl fp).pt) (fun s H C cl fp => (he s H C cl fp).pe) hs,
    so_lc hi.so ⟨_, _, hg {} (fun _ => none) 0 [] []⟩ hix (ht {} (fun _ => none) 0 [] []).so (he {} (fun _ => none) 0 [] []).so⟩
theorem de_lcO {vs : List Nat} (hN : X.N.Nodup) (hc : X.calm = true) (hi : DI K X W tg iter wi it) (ok : BlkOk X.N X.env.scope scope own)
    (hg : ∀ (s : Shared) (H : Hp) (C : Addr) (cl : List (Str × Addr)) (fp : List Addr), DG K (X.blk s H scope (compEnvC scope cl C X.env) fp) tg g gm ix) (ht : ∀ (s : Shared) (H : Hp) (C : Addr) (cl : List (Str × Addr)) (fp : List Addr), DPT K (X.blk s H scope (compEnvC scope cl C X.env) fp) ifs tt t)
    (he : ∀ (s : Shared) (H : Hp) (C : Addr) (cl : List (Str × Addr)) (fp : List Addr), DE K (X.blk s H scope (compEnvC scope cl C X.env) fp) WF elt te em) (hix : ∀ i ∈ ix, i ∈ own.map (·.2) := by decide) (hs : ∀ x, foldedSetIterable iter X.env x = pure x := by intro _; rfl) (hv : own.map (·.2) = vs := by rfl) :
    DE K X W (.ListComp elt [⟨tg, iter, ifs, 0⟩] scope pos) (tLc wi g tt te vs) (mLcO it vs gm t em) := by
  subst hv
  exact ⟨hi.k, pe_lc hc hN hi.pi ok (fun s H C cl fp => (hg s H C cl fp).pg) (fun s H C cl fp => (ht s H C cl fp).pt) (fun s H C cl fp => (he s H C cl fp).pe) hs,
    so_lcO hi.so ⟨_, _, hg {} (fun _ => none) 0 [] []⟩ hix (ht {} (fun _ => none) 0 [] []).so (he {} (fun _ => none) 0 [] []).so⟩
end
end
end DL
namespace DL
open PySem L2
section
variable {K : PySem.W.Frag} {X : Cx} {W : WX} {e a b c tg iter : Expr} {es : List Expr} {pos : Pos}
section
variable {elt : Expr} {ifs : List Expr} {scope : Scope} {own : List (Str × Nat)} {wi : TI} {g : TG} {tt : TT} {te : TE} {it : IM} {gm : GM} {ix : List Nat} {t em : EM}
theorem so_asg {te : TE} {g : TG} {m : EM} {gm : GM} {ix : List Nat} {X' : Cx} {tg' : Expr} (he : Sound K W (RepV K) te m) (hg : DG K X' tg' g gm ix) : SoundS K W (tAsg te g) (sAsg m gm) := ⟨fun σ H s Z I r D w rs e p => by
  refine he.lift w rs e p fun d v M1 Z1 H1 I1 w1 rs1 x1 q1 e1 p1 => ?_
  have e1 : (match gm d ⟨s.l, M1⟩ with | some s1 => some (Fl.nx, s1) | none => none) = some r := e1
  cases z : gm d ⟨s.l, M1⟩ with
  | none => rw [z] at e1; cases e1
  | some s1 =>
    rw [z] at e1; cases e1
    exact hg.ok v d σ H1 ⟨s.l, M1⟩ s1 Z1 I1 _ w1 rs1 q1 z fun σ' Z' H' I' w' rs' x' _ => p1 σ' Z' H' I' w' rs' x'⟩
theorem ds_setLc {i : Nat} {vs : List Nat} {y : Str} {py spos : Pos} (hN : X.N.Nodup) (hc : X.calm = true) (hi : DI K X W tg iter wi it) (ok : BlkOk X.N X.env.scope scope own)
    (hg : ∀ (s : Shared) (H : Hp) (C : Addr) (cl : List (Str × Addr)) (fp : List Addr), DG K (X.blk s H scope (compEnvC scope cl C X.env) fp) tg g gm ix) (ht : ∀ (s : Shared) (H : Hp) (C : Addr) (cl : List (Str × Addr)) (fp : List Addr), DPT K (X.blk s H scope (compEnvC scope cl C X.env) fp) ifs tt t)
    (he : ∀ (s : Shared) (H : Hp) (C : Addr) (cl : List (Str × Addr)) (fp : List Addr), DE K (X.blk s H scope (compEnvC scope cl C X.env) fp) WF elt te em) (hy : X.N[i]? = some y := by rfl) (hyl : X.env.scope.names.lookup y = some .local := by rfl)
    (hsw : swapsWith (.ListComp elt [⟨tg, iter, ifs, 0⟩] scope pos) (some (.Name y py)) spos.line X.env = pure true := by exact sw_true rfl rfl rfl (by decide +kernel)) (hix : ∀ i ∈ ix, i ∈ own.map (·.2) := by decide) (hs : ∀ x, foldedSetIterable iter X.env x = pure x := by intro _; rfl) (hv : own.map (·.2) = vs := by rfl) :
    DS K X W (.Assign [.Name y py] (.ListComp elt [⟨tg, iter, ifs, 0⟩] scope pos) spos) (tAsg (tLc wi g tt te vs) (gName i)) (sAsg (mLc it vs gm t em) (gN i)) := by
  subst hv
  exact ⟨hi.k, ps_setLc hc hN hy hyl hsw hi.pi ok (fun s H C cl fp => (hg s H C cl fp).pg) (fun s H C cl fp => (ht s H C cl fp).pt) (fun s H C cl fp => (he s H C cl fp).pe) hs,
    so_asg (so_lc hi.so ⟨_, _, hg {} (fun _ => none) 0 [] []⟩ hix (ht {} (fun _ => none) 0 [] []).so (he {} (fun _ => none) 0 [] []).so) (dg_name hN hi.k hy (.inl hyl) (.inr hyl) : DG K X (.Name y py) _ _ _)⟩
theorem ds_setLcO {i : Nat} {vs : List Nat} {y : Str} {py spos : Pos} (hN : X.N.Nodup) (hc : X.calm = true) (hi : DI K X W tg iter wi it) (ok : BlkOk X.N X.env.scope scope own)
    (hg : ∀ (s : Shared) (H : Hp) (C : Addr) (cl : List (Str × Addr)) (fp : List Addr), DG K (X.blk s H scope (compEnvC scope cl C X.env) fp) tg g gm ix) (ht : ∀ (s : Shared) (H : Hp) (C : Addr) (cl : List (Str × Addr)) (fp : List Addr), DPT K (X.blk s H scope (compEnvC scope cl C X.env) fp) ifs tt t)
    (he : ∀ (s : Shared) (H : Hp) (C : Addr) (cl : List (Str × Addr)) (fp : List Addr), DE K (X.blk s H scope (compEnvC scope cl C X.env) fp) WF elt te em) (hy : X.N[i]? = some y := by rfl) (hyl : X.env.scope.names.lookup y = some .local := by rfl)
    (hsw : swapsWith (.ListComp elt [⟨tg, iter, ifs, 0⟩] scope pos) (some (.Name y py)) spos.line X.env = pure true := by exact sw_true rfl rfl rfl (by decide +kernel)) (hix : ∀ i ∈ ix, i ∈ own.map (·.2) := by decide) (hs : ∀ x, foldedSetIterable iter X.env x = pure x := by intro _; rfl) (hv : own.map (·.2) = vs := by rfl) :
    DS K X W (.Assign [.Name y py] (.ListComp elt [⟨tg, iter, ifs, 0⟩] scope pos) spos) (tAsg (tLc wi g tt te vs) (gName i)) (sAsg (mLcO it vs gm t em) (gN i)) := by
  subst hv
  exact ⟨hi.k, ps_setLc hc hN hy hyl hsw hi.pi ok (fun s H C cl fp => (hg s H C cl fp).pg) (fun s H C cl fp => (ht s H C cl fp).pt) (fun s H C cl fp => (he s H C cl fp).pe) hs,
    so_asg (so_lcO hi.so ⟨_, _, hg {} (fun _ => none) 0 [] []⟩ hix (ht {} (fun _ => none) 0 [] []).so (he {} (fun _ => none) 0 [] []).so) (dg_name hN hi.k hy (.inl hyl) (.inr hyl) : DG K X (.Name y py) _ _ _)⟩
end
/-! ### o[i] = v at a list of one's own -/
def setL (m : List O) (n : Nat) (i : Int) (d : DV) : Option (List O) := match m[n]? with
  | some (.lst ds) => match ixN ds.length i with
    | some j => some (m.set n (.lst (ds.set j d)))
    | none => none
  | _ => none
def gSetK (d x : DV) (y : D) : EM := fun s => match x, y with
  | .o n, .int j => match setL s.m n j d with
    | some M => some (.ok (.p .non) M)
    | none => none
  | _, _ => none
def gSet (o i : EM) : GM := fun d s => match bnd o (fun x => bnd i (pur (gSetK d x))) s with
  | some (.ok _ M) => some ⟨s.l, M⟩
  | _ => none
theorem dg_set {o i : Expr} {to ti : TE} {mo mi : EM} (ho : DE K X WF o to mo) (hi : DE K X WF i ti mi) (ha : ∀ v, assign (.Subscript o i pos) X.env v = (do
      let ov ← holding [v] (eval o X.env)
      let iv ← holding [v, ov] (eval i X.env)
      standAt pos
      holding [v, ov, iv] (setItem ov iv v)
      release [v, ov, iv] []) := by intro _; rfl) : DG K X (.Subscript o i pos) (gSub to ti rSetL) (gSet mo mi) [] :=
  ⟨ho.k, pg_sub ho.pe hi.pe set_list ha, fun v dv σ H s s' Z I Q w rs rv e q => by
    unfold gSet at e
    cases z : bnd mo (fun x => bnd mi (pur (gSetK dv x))) s with
    | none => rw [z] at e; cases e
    | some r0 =>
      rw [z] at e
      cases r0 with
      | ex c fs M => cases e
      | ok d0 M0 =>
        cases e
        refine ho.so.bnd w rs z (fun c fs M h => by cases h) fun x ov M1 Z1 H1 I1 w1 rs1 x1 q1 e1 => ?_
        refine hi.so.bnd (s := ⟨s.l, M1⟩) w1 rs1 e1 (fun c fs M h => by cases h) fun y iv M2 Z2 H2 I2 w2 rs2 x2 q2 e2 => ?_
        obtain ⟨y, rfl, e2⟩ := pur_ok e2
        cases x with
        | p d => cases e2
        | o n =>
          cases y with
          | int j =>
            have e2 : (match setL M2 n j dv with | some M => some (Rs.ok (DV.p .non) M) | none => none) = some (Rs.ok d0 M0) := e2
            obtain ⟨a, ha', rfl⟩ := q1.mono x2
            cases q2
            cases y : setL M2 n j dv with
            | none => rw [y] at e2; cases e2
            | some M3 =>
              rw [y] at e2
              obtain rfl : M3 = M0 := by cases e2; rfl
              unfold setL at y
              cases y1 : M2[n]? with
              | none => rw [y1] at y; cases y
              | some ob =>
                rw [y1] at y
                cases ob with
                | lst ds =>
                  have y : (match ixN ds.length j with | some j => some (M2.set n (.lst (ds.set j dv))) | none => none) = some M3 := y
                  cases y2 : ixN ds.length j with
                  | none => rw [y2] at y; cases y
                  | some k =>
                    rw [y2] at y; cases y
                    obtain ⟨_, xs, h1, h2⟩ := w2.ob n a _ ha' y1 (by intro z; cases z)
                    have y3 := ext_set (Z := Z2) (H := H2) (ho := .lst (xs.set k v)) (List.mem_of_getElem? ha')
                    have rv2 : RepV K Z2 I2 v dv := RepV.mono (x1.trans x2) rv
                    refine ⟨a, xs, j, k, rfl, rfl, h1, by rw [paired_len h2]; exact y2, ?_⟩
                    exact q σ Z2 _ I2 (w2.setO (o' := .lst (ds.set k dv)) ha' y1 (by intro z; cases z) ⟨_, upd_same, paired_set rv2 k h2⟩) (rs2.mono y3) ((x1.trans x2).trans y3) fun _ _ => rfl
                | _ => cases y
          | _ => cases e2⟩
/-! ### methods of built-in types -/
def tyOk (T : String) (M : List O) : DV → Bool
  | .p (.str _) => T == "str"
  | .p (.lst _) => T == "list"
  | .p (.klst _) => T == "list"
  | .p (.dK _) => T == "dict"
  | .p (.dT _) => T == "dict"
  | .o n => match M[n]? with
    | some (.lst _) => T == "list"
    | some (.dK _) => T == "dict"
    | some (.dT _) => T == "dict"
    | _ => false
  | _ => false
theorem ty_of {T : String} {Z H : Hp} {I : List Addr} {M : List O} {x : V} {d : DV} (w : Wf K Z H I M) (h : RepV K Z I x d) (e : tyOk T M d = true) : tyV K T x H := by
  cases d with
  | o n =>
    obtain ⟨a, ha, rfl⟩ := h
    unfold tyOk at e
    simp only at e
    cases z : M[n]? with
    | none => rw [z] at e; cases e
    | some o =>
      rw [z] at e
      cases o with
      | lst ds =>
        obtain ⟨_, xs, h1, _⟩ := w.ob n a _ ha z (by intro z; cases z)
        exact .inl ⟨by simpa using e, xs, SqL.of h1⟩
      | dK ds =>
        obtain ⟨_, xs, h1, _⟩ := w.ob n a _ ha z (by intro z; cases z)
        exact .inr (.inr (.inl ⟨by simpa using e, .inl ⟨xs, h1⟩⟩))
      | dT ds =>
        obtain ⟨_, xs, h1, _⟩ := w.ob n a _ ha z (by intro z; cases z)
        exact .inr (.inr (.inl ⟨by simpa using e, .inr ⟨xs, h1⟩⟩))
      | _ => cases e
  | p d =>
    have h : Rep K Z x d := h
    cases h with
    | str y => exact (by simpa [tyOk] using e : T = "str")
    | lst h1 h2 => exact .inl ⟨by simpa [tyOk] using e, _, .inl (same_rd w.sub h1)⟩
    | klst h1 h2 => exact .inl ⟨by simpa [tyOk] using e, _, same_l w.sub h1⟩
    | dK h1 h2 => exact .inr (.inr (.inl ⟨by simpa [tyOk] using e, .inl ⟨_, w.sub _ _ h1⟩⟩))
    | dT h1 h2 => exact .inr (.inr (.inl ⟨by simpa [tyOk] using e, .inr ⟨_, w.sub _ _ h1⟩⟩))
    | _ => cases e
abbrev MtG := DV → List DV → EM
structure MthD (K : PySem.W.Frag) (X : Cx) (id : String) (r : V → List V → Hp → VK → Prop) (g : MtG) : Prop where
  op : X.K = K → MtR X id r
  ok : ∀ (W : WX) (σ : St) (x : V) (d : DV) (vs : List V) (ds : List DV) (Z H : Hp) (I : List Addr) (s : S) (r0 : Rs DV) (Q : VK), Wf K Z H I s.m → RepV K Z I x d → RepVs K Z I vs ds → g d ds s = some r0 → PostR K W (RepV K) Z H I σ Q r0 → r x vs H Q
def mMth (T : String) (g : MtG) (o : EM) (ms : AM) : EM := bnd o fun d s => if tyOk T s.m d = true then bnd ms (fun ds => g d ds) s else none
theorem so_mth {T : String} {r : V → List V → Hp → VK → Prop} {g : MtG} {to : TE} {t : TA} {mo : EM} {ms : AM}
    (h : ∀ (W : WX) (σ : St) (x : V) (d : DV) (vs : List V) (ds : List DV) (Z H : Hp) (I : List Addr) (s : S) (r0 : Rs DV) (Q : VK), Wf K Z H I s.m → RepV K Z I x d → RepVs K Z I vs ds → g d ds s = some r0 → PostR K W (RepV K) Z H I σ Q r0 → r x vs H Q)
    (ho : Sound K W (RepV K) to mo) (ha : Sound K W (RepVs K) t ms) : Sound K W (RepV K) (tBM K T r to t) (mMth T g mo ms) := ⟨fun σ H s Z I r0 Q w rs e p => by
  refine ho.bnd w rs e p.x fun d v M1 Z1 H1 I1 w1 rs1 x1 q1 e1 => ?_
  have e1 : (if tyOk T M1 d = true then bnd ms (fun ds => g d ds) ⟨s.l, M1⟩ else none) = some r0 := e1
  split at e1
  · rename_i hty
    have p1 := p.mono x1
    refine ⟨ty_of w1 q1 hty, ha.bnd (s := ⟨s.l, M1⟩) w1 rs1 e1 p1.x fun ds vs M2 Z2 H2 I2 w2 rs2 x2 q2 e2 => ?_⟩
    exact h W σ v d vs ds Z2 H2 I2 ⟨s.l, M2⟩ r0 Q w2 (q1.mono x2) q2 e2 (p1.mono x2)
  · cases e1⟩
theorem de_mth {T id : String} {r : V → List V → Hp → VK → Prop} {g : MtG} {o : Expr} {name : Str} {apos cpos : Pos} {to : TE} {t : TA} {mo : EM} {ms : AM} (h : MthD K X id r g) (ho : DE K X W o to mo) (ha : DA K X W (e :: es) t ms) (pa : PlainAttrs T) (slot : Slot T name id) (hty : typeOf (.builtin id) = pure (.type "method_descriptor"))
    (hs : starEach (e :: es) X.env = (false, eval e X.env) :: starEach es X.env := by rfl) (hpl : (backTo cpos (starEach es X.env)).any (·.1) = false := by rfl)
    (hbase : attributeBase o name X.env (eval o X.env) = eval o X.env := by rfl) (hfew : ((((backTo cpos (starEach (e :: es) X.env)).all fun x => !x.1) && (backToKw cpos (keywordEach [] X.env)).all fun x => x.1.isSome) && decide (((e :: es).length + ([] : List Keyword).length + if ([] : List Keyword).isEmpty = true then 0 else 1) < 30)) = true := by rfl)
    (hline : (apos.endLine == cpos.line) = true := by rfl) : DE K X W (.Call (.Attribute o name apos) (e :: es) [] cpos) (tBM K T r to t) (mMth T g mo ms) := by
  refine ⟨ho.k, ?_, so_mth h.ok ho.so ha.so⟩
  have q := pe_bm (X := X) (cpos := cpos) (apos := apos) pa slot hty (h.op ho.k) ho.pe ha.pa (hbase := hbase) (hfew := hfew) (hline := hline) (hs := hs) (hplain := hpl)
  rw [ho.k] at q
  exact q
/-- data in, data out -/
def gP (g : D → List D → Option D) : MtG := fun d ds s => match d with
  | .p d => match allP ds with
    | some xs => ret (g d xs) s
    | none => none
  | .o _ => none
theorem gP_ok {r : V → List V → Hp → VK → Prop} {g : D → List D → Option D} (h : ∀ (x : V) (d : D) (vs : List V) (ds : List D) (c : D) (Z H : Hp) (Q : VK), Same Z H → Rep K Z x d → RepA K Z vs ds → g d ds = some c → PostP K Z H c Q → r x vs H Q) :
    ∀ (W : WX) (σ : St) (x : V) (d : DV) (vs : List V) (ds : List DV) (Z H : Hp) (I : List Addr) (s : S) (r0 : Rs DV) (Q : VK), Wf K Z H I s.m → RepV K Z I x d → RepVs K Z I vs ds → gP g d ds s = some r0 → PostR K W (RepV K) Z H I σ Q r0 → r x vs H Q := by
  intro W σ x d vs ds Z H I s r0 Q w hx hv e p
  cases d with
  | o n => cases e
  | p d =>
    have e : (match allP ds with | some xs => ret (g d xs) s | none => none) = some r0 := e
    cases q : allP ds with
    | none => rw [q] at e; cases e
    | some xs =>
      rw [q] at e
      obtain ⟨c, hc, rfl⟩ := ret_ok e
      exact h x d vs xs c Z H Q w.sub hx (allP_rep hv q) hc (PostP.of w p)
def gApp : MtG := fun d ds s => match d, ds with
  | .o n, [y] => match s.m[n]? with
    | some (.lst xs) => if xs.length < 1000000 then some (.ok (.p .non) (s.m.set n (.lst (xs ++ [y])))) else none
    | _ => none
  | _, _ => none
theorem md_app : MthD K X "list.append" rAppend gApp := ⟨fun _ => mt_append, fun W σ x d vs ds Z H I s r0 Q w hx hv e p => by
  unfold gApp at e
  split at e
  · rename_i n y
    obtain ⟨a, ha, rfl⟩ := hx
    cases hv with
    | cons h1 h2 =>
    cases h2
    split at e
    · rename_i xs hm
      split at e
      · rename_i hl
        cases e
        obtain ⟨_, ys, g1, g2⟩ := w.ob n a _ ha hm (by intro z; cases z)
        refine ⟨a, ys, _, rfl, rfl, g1, by rw [paired_len g2]; exact size_lt (Nat.le_of_lt hl), ?_⟩
        exact p _ Z _ I (w.setO ha hm (by intro z; cases z) ⟨_, upd_same, paired_app g2 (.cons h1 .nil)⟩) (ext_set (List.mem_of_getElem? ha)) .non
      · cases e
    · cases e
  · cases e⟩
/-! ### defs -/
def slotsOf (n : Nat) (ds : List DV) : List (Option DV) := ds.map some ++ List.replicate (n - ds.length) none
theorem start_rep {Z : Hp} {I : List Addr} {N : List Str} {vs : List V} {ds : List DV} (r : RepVs K Z I vs ds) : RepS K Z I (L2.start N vs) (slotsOf N.length ds) := by
  have hl := paired_len r
  refine ⟨by unfold L2.start slotsOf; simp [hl], fun i dv e => ?_⟩
  unfold slotsOf at e
  unfold L2.start
  by_cases hi : i < ds.length
  · rw [List.getElem?_append_left (by simpa using hi), List.getElem?_map] at e
    cases q : ds[i]? with
    | none => rw [q] at e; cases e
    | some d =>
      rw [q] at e
      cases e
      obtain ⟨v, h1, h2⟩ := paired_get r q
      exact ⟨v, by rw [List.getElem?_append_left (by simpa [hl] using hi), List.getElem?_map, h1]; rfl, h2⟩
  · rw [List.getElem?_append_right (by simpa using hi), List.getElem?_replicate] at e
    split at e <;> cases e
def runA (n : Nat) (m : SM) : MA := fun ds => match m ⟨slotsOf n (ds.map .p), []⟩ with
  | some (.nx, _) => some (.ok .non)
  | some (.rt (.p d), _) => some (.ok d)
  | some (.ex c fs, _) => some (.ex c fs)
  | _ => none
def ltO (k : Nat) : DV → Bool
  | .p _ => true
  | .o n => decide (n < k)
def closed (k : Nat) : O → Bool
  | .lst xs => xs.all (ltO k)
  | .dK xs => xs.all fun p => ltO k p.2
  | .dT xs => xs.all fun p => ltO k p.2
  | .ins _ xs => xs.all fun p => ltO k p.2
  | .tbl _ _ => true
  | .gone => true
def dropM (k : Nat) (d : DV) (M : List O) : List O := if (ltO k d && (M.take k).all (closed k)) = true then M.take k else M
def runB (n : Nat) (m : SM) : List DV → List O → Option (Rs DV) := fun ds M => match m ⟨slotsOf n ds, M⟩ with
  | some (.nx, s) => some (.ok (.p .non) (dropM M.length (.p .non) s.m))
  | some (.rt d, s) => some (.ok d (dropM M.length d s.m))
  | some (.ex c fs, s) => some (.ex c fs (dropM M.length (.p .non) s.m))
  | _ => none
theorem repV_take {Z : Hp} {I t : List Addr} {v : V} {d : DV} (h : RepV K Z (I ++ t) v d) (l : ltO I.length d = true) : RepV K Z I v d := by
  cases d with
  | p d => exact h
  | o n =>
    obtain ⟨a, ha, e⟩ := h
    have l : n < I.length := by simpa [ltO] using l
    exact ⟨a, by rw [List.getElem?_append_left l] at ha; exact ha, e⟩
theorem paired_all {α β : Type} {F G : α → β → Prop} {p : β → Bool} (k : ∀ a b, F a b → p b = true → G a b) : ∀ {xs : List α} {ys : List β}, Paired F xs ys → ys.all p = true → Paired G xs ys
  | _, _, .nil, _ => .nil
  | _, _, .cons h r, e => by
    rw [List.all_cons, Bool.and_eq_true] at e
    exact .cons (k _ _ h e.1) (paired_all k r e.2)
theorem wf_take {Z H : Hp} {I t : List Addr} {M : List O} (w : Wf K Z H (I ++ t) M) (l : (M.take I.length).all (closed I.length) = true) : Wf K Z H I (M.take I.length) where
  sub := w.sub
  len := by
    have := w.len
    rw [List.length_append] at this
    rw [List.length_take]; omega
  nd := (List.nodup_append.mp w.nd).1
  tr := fun a m => w.tr a (List.mem_append_left _ m)
  ob := fun n a o h1 h2 h3 => by
    have hn := (List.getElem?_eq_some_iff.mp h1).1
    have cl : closed I.length o = true := List.all_eq_true.mp l o (List.mem_of_getElem? h2)
    rw [List.getElem?_take_of_lt hn] at h2
    obtain ⟨q1, q2⟩ := w.ob n a o (by rw [List.getElem?_append_left hn]; exact h1) h2 h3
    refine ⟨q1, ?_⟩
    cases o with
    | lst ds => obtain ⟨xs, h, r⟩ := q2; exact ⟨xs, h, paired_all (p := ltO I.length) (fun _ _ q l => repV_take q l) r cl⟩
    | dK _ => obtain ⟨xs, h, r⟩ := q2; exact ⟨xs, h, paired_all (G := FRel K Z I) (p := fun p => ltO I.length p.2) (fun a b q l => (⟨q.1, repV_take q.2 l⟩ : FRel K Z I a b)) r cl⟩
    | dT _ => obtain ⟨xs, h, r⟩ := q2; exact ⟨xs, h, paired_all (G := FRel K Z I) (p := fun p => ltO I.length p.2) (fun a b q l => (⟨q.1, repV_take q.2 l⟩ : FRel K Z I a b)) r cl⟩
    | ins _ _ => obtain ⟨dx, xs, h, r⟩ := q2; exact ⟨dx, xs, h, paired_all (G := FRel K Z I) (p := fun p => ltO I.length p.2) (fun a b q l => (⟨q.1, repV_take q.2 l⟩ : FRel K Z I a b)) r cl⟩
    | tbl _ _ => exact q2
    | gone => trivial
theorem drop_ok {Z H Z' H' : Hp} {I I' : List Addr} {M M' : List O} {v : V} {d : DV} (w0 : Wf K Z H I M) (w : Wf K Z' H' I' M') (x : Ext Z H I Z' H' I') (r : RepV K Z' I' v d) : ∃ I2, Wf K Z' H' I2 (dropM M.length d M') ∧ Ext Z H I Z' H' I2 ∧ RepV K Z' I2 v d ∧ ∀ a ∈ I2, a ∈ I' := by
  unfold dropM
  split
  · rename_i h
    rw [Bool.and_eq_true] at h
    obtain ⟨t, rfl⟩ := x.i
    rw [← w0.len] at h ⊢
    exact ⟨I, wf_take w h.2, ⟨x.z, ⟨[], by simp⟩, x.fr, fun a m => .inl m, x.zn, x.tr⟩, repV_take r h.1, fun a m => List.mem_append_left _ m⟩
  · exact ⟨I', w, x, r, fun _ m => m⟩
section
variable {P : Program} {w : World} {mg : Str → Option Value} {base : Heap} {x qual : Str} {st : Stmt} {f : Addr} {fd : FuncData} {N ps : List Str} {k : Nat}
abbrev WE0 (E : XK) : WX := fun cls d _ H => E cls d H
theorem fnA {m : SM} (F : Fun K x qual st f fd) (Sc : FnScope N ps (defScope st))
    (body : ∀ (cdv : Value) (A : Around) (outer : List Env) (s : Shared) (H : Hp) (E : XK), Room k (A.deeper (PyProof.Rows.envOfC qual (defScope st) s.heap.objs.size f cdv)) →
      ∃ t, DSs K (cxOf (L2.CX P w) P w K mg base N qual (defScope st) f cdv A outer s H E) (WE0 E) (defBody st) t m) : FnOk P w K mg base (L2.CX P w) (k + 1) f fd ps (spA K ps.length (runA N.length m)) := by
  refine F.okX Sc spA_len fun cdv A outer s H vs Q E hr h => ?_
  obtain ⟨hl, Z, ds, r, sub, rp, e, p⟩ := h
  obtain ⟨t, b⟩ := body cdv A outer s H E hr
  refine ⟨t, b.ps, ?_⟩
  have w0 : Wf K Z H [] [] := ⟨sub, rfl, List.nodup_nil, (by simp), fun n a o h => by simp at h⟩
  unfold runA at e
  cases z : m ⟨slotsOf N.length (ds.map .p), []⟩ with
  | none => rw [z] at e; cases e
  | some fs =>
    rw [z] at e
    obtain ⟨fl, s1⟩ := fs
    have xp : ∀ {Z' H' I'}, Wf K Z' H' I' s1.m → Ext Z H [] Z' H' I' → ExtP Z H Z' H' := fun {Z' H' I'} w' x' => ⟨x'.z, fun a o q => x'.fr a o q (by simp), w'.sub, fun a q => by
      rcases x'.zn a q with k | k | k
      · exact .inl k
      · exact .inr k
      · cases k⟩
    refine b.so.ok (L2.start N vs) H _ Z [] _ _ w0 (start_rep (allP_map rp)) z ?_
    cases fl with
    | nx => cases e; exact fun σ' Z' H' I' w' rs' x' => p _ Z' H' (xp w' x') .non
    | rt d =>
      cases d with
      | p d => cases e; exact fun v Z' H' I' w' x' r' => p v Z' H' (xp w' x') r'
      | o n => cases e
    | ex c fs => cases e; exact fun σ' d Z' H' I' w' rs' x' ea na => p d Z' H' (xp w' x') ea fun a q => (na a q).1
    | bk => cases e
    | ct => cases e
theorem fnB {m : SM} (F : Fun K x qual st f fd) (Sc : FnScope N ps (defScope st))
    (body : ∀ (cdv : Value) (A : Around) (outer : List Env) (s : Shared) (H : Hp) (E : XK), Room k (A.deeper (PyProof.Rows.envOfC qual (defScope st) s.heap.objs.size f cdv)) →
      ∃ t, DSs K (cxOf (L2.CX P w) P w K mg base N qual (defScope st) f cdv A outer s H E) (WE0 E) (defBody st) t m) : FnOk P w K mg base (L2.CX P w) (k + 1) f fd ps (spB K ps.length (runB N.length m)) := by
  refine F.okX Sc spB_len fun cdv A outer s H vs Q E hr h => ?_
  obtain ⟨hl, Z, I, M, ds, r, w0, rp, e, p⟩ := h
  obtain ⟨t, b⟩ := body cdv A outer s H E hr
  refine ⟨t, b.ps, ?_⟩
  unfold runB at e
  cases z : m ⟨slotsOf N.length ds, M⟩ with
  | none => rw [z] at e; cases e
  | some fs =>
    rw [z] at e
    obtain ⟨fl, s1⟩ := fs
    refine b.so.ok (L2.start N vs) H ⟨slotsOf N.length ds, M⟩ Z I _ _ w0 (start_rep rp) z ?_
    cases fl with
    | nx =>
      cases e
      intro σ' Z' H' I' w' rs' x'
      obtain ⟨I2, w2, x2, r2, _⟩ := drop_ok (d := .p .non) (v := .non) w0 w' x' (show Rep K Z' .non .non from .non)
      exact p _ Z' H' I2 w2 x2 r2
    | rt d =>
      cases e
      intro v Z' H' I' w' x' r'
      obtain ⟨I2, w2, x2, r2, _⟩ := drop_ok w0 w' x' r'
      exact p v Z' H' I2 w2 x2 r2
    | ex c fs =>
      cases e
      intro σ' d Z' H' I' w' rs' x' ea na
      obtain ⟨I2, w2, x2, _, h2⟩ := drop_ok (d := .p .non) (v := .non) w0 w' x' (show Rep K Z' .non .non from .non)
      exact p d Z' H' I2 w2 x2 ea fun a q => ⟨(na a q).1, fun m => (na a q).2 (h2 a m)⟩
    | bk => cases e
    | ct => cases e
end
end
end DL
namespace DL
open PySem L2
/-! ### equality of data -/
mutual
def toP : D → PyData
  | .non => .none
  | .bl b => .bool b
  | .int i => .int i
  | .str s => .str s
  | .lst xs => .list (toPs xs)
  | .klst xs => .list (toPs xs)
  | .tup xs => .tuple (toPs xs)
  | .ktup xs => .tuple (toPs xs)
  | .dK _ => .dict []
  | .dT _ => .dict []
  | .fn _ => .dict []
  | .scr _ => .dict []
  | .ty _ => .dict []
  | .rng _ _ => .dict []
def toPs : List D → List PyData
  | [] => []
  | d :: r => toP d :: toPs r
end
mutual
/-- the same, as == tells -/
def deq : D → D → Bool
  | .non, .non => true
  | .bl a, .bl b => a == b
  | .bl a, .int j => (if a then 1 else 0) == j
  | .int i, .bl b => i == (if b then 1 else 0)
  | .int i, .int j => i == j
  | .str x, .str y => x == y
  | .lst xs, .lst ys => deqs xs ys
  | .lst xs, .klst ys => deqs xs ys
  | .klst xs, .lst ys => deqs xs ys
  | .klst xs, .klst ys => deqs xs ys
  | .tup xs, .tup ys => deqs xs ys
  | .tup xs, .ktup ys => deqs xs ys
  | .ktup xs, .tup ys => deqs xs ys
  | .ktup xs, .ktup ys => deqs xs ys
  | _, _ => false
def deqs : List D → List D → Bool
  | [], [] => true
  | x :: xs, y :: ys => deq x y && deqs xs ys
  | _, _ => false
end
mutual
theorem deq_eqv : ∀ a b : D, PyData.eqv (toP a) (toP b) = deq a b
  | .lst xs, b => by
    cases b with
    | lst ys => exact deqs_eqv xs ys
    | klst ys => exact deqs_eqv xs ys
    | _ => rfl
  | .klst xs, b => by
    cases b with
    | lst ys => exact deqs_eqv xs ys
    | klst ys => exact deqs_eqv xs ys
    | _ => rfl
  | .tup xs, b => by
    cases b with
    | tup ys => exact deqs_eqv xs ys
    | ktup ys => exact deqs_eqv xs ys
    | _ => rfl
  | .ktup xs, b => by
    cases b with
    | tup ys => exact deqs_eqv xs ys
    | ktup ys => exact deqs_eqv xs ys
    | _ => rfl
  | .non, b => by cases b <;> rfl
  | .bl _, b => by cases b <;> rfl
  | .int _, b => by cases b <;> rfl
  | .str _, b => by cases b <;> rfl
  | .dK _, b => by cases b <;> rfl
  | .dT _, b => by cases b <;> rfl
  | .fn _, b => by cases b <;> rfl
  | .scr _, b => by cases b <;> rfl
  | .ty _, b => by cases b <;> rfl
  | .rng _ _, b => by cases b <;> rfl
theorem deqs_eqv : ∀ a b : List D, PyData.eqvAll (toPs a) (toPs b) = deqs a b
  | [], [] => rfl
  | x :: xs, y :: ys => by
    show (PyData.eqv (toP x) (toP y) && PyData.eqvAll (toPs xs) (toPs ys)) = (deq x y && deqs xs ys)
    rw [deq_eqv x y, deqs_eqv xs ys]
  | [], _ :: _ => rfl
  | _ :: _, [] => rfl
end
section
variable {K : PySem.W.Frag} {Z H : Hp}
mutual
theorem Rep.dp (s : Same Z H) : ∀ {v : V} {d : D}, Rep K Z v d → PyData.canLay0 (toP d) = true → Dp K H v (toP d)
  | _, _, .non, _ => .non
  | _, _, .bl b, _ => .bl b
  | _, _, .int i, _ => .int i
  | _, _, .str x, _ => .str x
  | _, _, .lst h r, e => .lst (.inl (same_rd s h)) (RepA.dp s r e)
  | _, _, .tup h r, e => .tup (sqt s h) (RepA.dp s r e)
  | _, _, .ktup h r, e => .tup (same_t s h) (RepA.dp s r e)
  | _, _, .klst h r, e => .lst (same_l s h) (RepA.dp s r e)
  | _, _, .dK _ _, e => by cases e
  | _, _, .dT _ _, e => by cases e
  | _, _, .fn _, e => by cases e
  | _, _, .scr _ _, e => by cases e
  | _, _, .ty _, e => by cases e
  | _, _, .rng _, e => by cases e
theorem RepA.dp (s : Same Z H) : ∀ {v : List V} {d : List D}, RepA K Z v d → PyData.canLayAll0 (toPs d) = true → DpAll K H v (toPs d)
  | _, _, .nil, _ => .nil
  | _, _, .cons h r, e => by
    have e : (PyData.canLay0 (toP _) && PyData.canLayAll0 (toPs _)) = true := e
    rw [Bool.and_eq_true] at e
    exact .cons (Rep.dp s h e.1) (RepA.dp s r e.2)
end
end
mutual
def okD : D → Bool
  | .non => true
  | .bl _ => true
  | .int _ => true
  | .str x => PyData.strOk x
  | .lst xs => okDs xs
  | .tup xs => okDs xs
  | .ktup xs => okDs xs
  | .klst xs => okDs xs
  | _ => false
def okDs : List D → Bool
  | [] => true
  | x :: xs => okD x && okDs xs
end
mutual
def depD : D → Nat
  | .lst xs => depDs xs + 1
  | .tup xs => depDs xs + 1
  | .ktup xs => depDs xs + 1
  | .klst xs => depDs xs + 1
  | _ => 0
def depDs : List D → Nat
  | [] => 0
  | x :: xs => max (depD x) (depDs xs)
end
mutual
theorem okD_can : ∀ d : D, okD d = true → PyData.canLay0 (toP d) = true
  | .non, _ => rfl
  | .bl _, _ => rfl
  | .int _, _ => rfl
  | .str x, h => h
  | .lst xs, h => okDs_can xs h
  | .tup xs, h => okDs_can xs h
  | .ktup xs, h => okDs_can xs h
  | .klst xs, h => okDs_can xs h
  | .dK _, h => by cases h
  | .dT _, h => by cases h
  | .fn _, h => by cases h
  | .scr _, h => by cases h
  | .ty _, h => by cases h
  | .rng _ _, h => by cases h
theorem okDs_can : ∀ d : List D, okDs d = true → PyData.canLayAll0 (toPs d) = true
  | [], _ => rfl
  | x :: xs, h => by
    have h : (okD x && okDs xs) = true := h
    rw [Bool.and_eq_true] at h
    show (PyData.canLay0 (toP x) && PyData.canLayAll0 (toPs xs)) = true
    rw [okD_can x h.1, okDs_can xs h.2]; rfl
end
mutual
theorem depD_dep : ∀ d : D, okD d = true → PyData.depth (toP d) = depD d
  | .non, _ => rfl
  | .bl _, _ => rfl
  | .int _, _ => rfl
  | .str x, _ => rfl
  | .lst xs, h => by show PyData.depthAll (toPs xs) + 1 = depDs xs + 1; rw [depDs_dep xs h]
  | .tup xs, h => by show PyData.depthAll (toPs xs) + 1 = depDs xs + 1; rw [depDs_dep xs h]
  | .ktup xs, h => by show PyData.depthAll (toPs xs) + 1 = depDs xs + 1; rw [depDs_dep xs h]
  | .klst xs, h => by show PyData.depthAll (toPs xs) + 1 = depDs xs + 1; rw [depDs_dep xs h]
  | .dK _, h => by cases h
  | .dT _, h => by cases h
  | .fn _, h => by cases h
  | .scr _, h => by cases h
  | .ty _, h => by cases h
  | .rng _ _, h => by cases h
theorem depDs_dep : ∀ d : List D, okDs d = true → PyData.depthAll (toPs d) = depDs d
  | [], _ => rfl
  | x :: xs, h => by
    have h : (okD x && okDs xs) = true := h
    rw [Bool.and_eq_true] at h
    show max (PyData.depth (toP x)) (PyData.depthAll (toPs xs)) = max (depD x) (depDs xs)
    rw [depD_dep x h.1, depDs_dep xs h.2]
end
def shp (d : D) : Bool := okD d && decide (depD d ≤ 64)
theorem shp_ok {d : D} (h : shp d = true) : SeqAt.shaped (toP d) = true := by
  unfold shp at h
  rw [Bool.and_eq_true] at h
  unfold SeqAt.shaped
  rw [okD_can d h.1, depD_dep d h.1, h.2]; rfl
/-- scalars are told apart at once; the rest has to be shaped -/
def scalD : D → D → Option Bool
  | .non, .non => some true
  | .non, .int _ => some false
  | .int _, .non => some false
  | .non, .bl _ => some false
  | .bl _, .non => some false
  | .non, .str _ => some false
  | .str _, .non => some false
  | .int i, .int j => some (i == j)
  | .bl i, .bl j => some (i == j)
  | .str x, .str y => some (x == y)
  | .int _, .str _ => some false
  | .str _, .int _ => some false
  | .bl _, .str _ => some false
  | .str _, .bl _ => some false
  | _, _ => none
def eqD (d e : D) : Option Bool := match scalD d e with
  | some b => some b
  | none => if (shp d && shp e) = true then some (deq d e) else none
def dEq (d e : D) : Option D := (eqD d e).map .bl
def dNe (d e : D) : Option D := (eqD d e).map fun b => .bl !b
theorem boolMap {α : Type} {o : Option α} {f : α → Bool} {c : D} (h : (o.map fun a => D.bl (f a)) = some c) : ∃ b, c = .bl b := by
  cases o with
  | none => cases h
  | some a => cases h; exact ⟨_, rfl⟩
theorem bool_dEq : boolD dEq := fun d e c h => boolMap (f := id) h
theorem bool_dNe : boolD dNe := fun d e c h => boolMap h
section
variable {K : PySem.W.Frag} {X : Cx}
theorem scal_ok {Z : Hp} {x y : V} {d e : D} {b : Bool} (hx : Rep K Z x d) (hy : Rep K Z y e) (h : scalD d e = some b) : scal x y = true ∧ decide (x = y) = b := by
  cases hx with
  | non => cases hy <;> cases h <;> exact ⟨rfl, rfl⟩
  | int i => cases hy with
    | int j => cases h; refine ⟨rfl, ?_⟩; by_cases q : i = j <;> simp [q]
    | non => cases h; exact ⟨rfl, rfl⟩
    | str _ => cases h; exact ⟨rfl, rfl⟩
    | _ => cases h
  | bl i => cases hy with
    | bl j => cases h; refine ⟨rfl, ?_⟩; by_cases q : i = j <;> simp [q]
    | non => cases h; exact ⟨rfl, rfl⟩
    | str _ => cases h; exact ⟨rfl, rfl⟩
    | _ => cases h
  | str i => cases hy with
    | str j => cases h; refine ⟨rfl, ?_⟩; by_cases q : i = j <;> simp [q]
    | non => cases h; exact ⟨rfl, rfl⟩
    | int _ => cases h; exact ⟨rfl, rfl⟩
    | bl _ => cases h; exact ⟨rfl, rfl⟩
    | _ => cases h
  | _ => cases hy <;> cases h
def rEqX (K : PySem.W.Frag) : R2 := fun x y H Q => rEq x y H Q ∨ rEqD K x y H Q
def rNeX (K : PySem.W.Frag) : R2 := fun x y H Q => rNe x y H Q ∨ rNeD K x y H Q
theorem shaped_can {d : D} (h : shp d = true) : PyData.canLay0 (toP d) = true := SeqAt.canLay_of_shaped (shp_ok h)
theorem od_eq (hu : X.A.units + 64 < cLine) : OpD K X (compareOp .Eq) (rEqX K) dEq where
  op := fun k pins s σ H x y v u Q I rx ry h => by
    subst k
    rcases h with h | h
    · exact op_eq pins s σ H x y v u Q I rx ry h
    · exact op_eqD hu pins s σ H x y v u Q I rx ry h
  ok := by
    intro x y d e c Z H Q s hx hy hg p
    unfold dEq eqD at hg
    cases z : scalD d e with
    | some b =>
      rw [z] at hg; cases hg
      obtain ⟨h1, h2⟩ := scal_ok hx hy z
      exact .inl ⟨h1, by rw [h2]; exact p _ Z H (ExtP.refl s) (.bl _)⟩
    | none =>
      rw [z] at hg
      have hg : (if (shp d && shp e) = true then some (deq d e) else none).map D.bl = some c := hg
      split at hg
      · rename_i hs
        cases hg
        rw [Bool.and_eq_true] at hs
        exact .inr ⟨_, _, hx.dp s (shaped_can hs.1), hy.dp s (shaped_can hs.2), shp_ok hs.1, shp_ok hs.2, by rw [deq_eqv]; exact p _ Z H (ExtP.refl s) (.bl _)⟩
      · cases hg
theorem od_ne (hu : X.A.units + 64 < cLine) : OpD K X (compareOp .NotEq) (rNeX K) dNe where
  op := fun k pins s σ H x y v u Q I rx ry h => by
    subst k
    rcases h with h | h
    · exact op_ne pins s σ H x y v u Q I rx ry h
    · exact op_neD hu pins s σ H x y v u Q I rx ry h
  ok := by
    intro x y d e c Z H Q s hx hy hg p
    unfold dNe eqD at hg
    cases z : scalD d e with
    | some b =>
      rw [z] at hg; cases hg
      obtain ⟨h1, h2⟩ := scal_ok hx hy z
      exact .inl ⟨h1, by rw [h2]; exact p _ Z H (ExtP.refl s) (.bl _)⟩
    | none =>
      rw [z] at hg
      have hg : (if (shp d && shp e) = true then some (deq d e) else none).map (fun b => D.bl !b) = some c := hg
      split at hg
      · rename_i hs
        cases hg
        rw [Bool.and_eq_true] at hs
        exact .inr ⟨_, _, hx.dp s (shaped_can hs.1), hy.dp s (shaped_can hs.2), shp_ok hs.1, shp_ok hs.2, by rw [deq_eqv]; exact p _ Z H (ExtP.refl s) (.bl _)⟩
      · cases hg
end
/-! ### slices -/
section
variable {K : PySem.W.Frag} {X : Cx} {W : WX} {e a b c : Expr} {es : List Expr} {pos : Pos}
def RepOI (_ : Hp) (_ : List Addr) (x y : Option Int) : Prop := x = y
abbrev PM := Mi (Option Int)
structure DP (K : PySem.W.Frag) (X : Cx) (W : WX) (e : Option Expr) (t : TO) (m : PM) : Prop where
  k : X.K = K
  po : PO X e t
  so : Sound K W RepOI t m
def pNone : PM := fun s => some (.ok none s.m)
def pSome (m : EM) : PM := bnd m (pur fun d s => match d with
  | .int i => some (.ok (some i) s.m)
  | _ => none)
theorem dp_none (k : X.K = K := by rfl) : DP K X W none tNoPart pNone := ⟨k, po_none, ⟨fun σ H s Z I r Q w rs e p => by
  cases e; exact p none Z H I w Ext.refl rfl⟩⟩
theorem dp_some {te : TE} {m : EM} (h : DE K X W e te m) : DP K X W (some e) (tPart te) (pSome m) := ⟨h.k, po_some h.pe, ⟨fun σ H s Z I r Q w rs e p => by
  refine h.so.bnd w rs e p.x fun d v M1 Z1 H1 I1 w1 rs1 x1 q1 e1 => ?_
  obtain ⟨d, rfl, e1⟩ := pur_ok e1
  cases d with
  | int i => cases q1; cases e1; exact ⟨i, rfl, p _ Z1 H1 I1 w1 x1 rfl⟩
  | _ => cases e1⟩⟩
def cutD {α : Type} (xs : List α) (lo hi : Option Int) : List α := (xs.drop (HT.sIx xs.length 0 lo)).take (HT.sIx xs.length xs.length hi - HT.sIx xs.length 0 lo)
def slD : D → Option Int → Option Int → Option D
  | .str z, l, u => if z.length ≤ 1000000 then some (.str (cutS z l u)) else none
  | .lst xs, l, u => some (.lst (cutD xs l u))
  | .scr xs, l, u => some (.lst (cutD xs l u))
  | .tup xs, l, u => if HT.sIx xs.length 0 l = 0 ∧ HT.sIx xs.length xs.length u = xs.length then some (.tup xs) else some (.tup (cutD xs l u))
  | _, _, _ => none
def mSl (m : EM) (l u : PM) : EM := bnd m (pur fun d => bnd l fun i => bnd u fun j => ret (slD d i j))
def rSl (K : PySem.W.Frag) : V → Option Int → Option Int → Hp → VK → Prop := fun x lo hi H Q => rSlS x lo hi H Q ∨ rSlL K x lo hi H Q ∨ (∃ a xs, x = .ref a ∧ SqT K H a xs ∧ ¬ (HT.sIx xs.length 0 lo = 0 ∧ HT.sIx xs.length xs.length hi = xs.length) ∧ ∀ p, H p = none → Q (.ref p) (upd H p (.tup (cutV xs lo hi))))
theorem RepA.cut {Z : Hp} {xs : List V} {ds : List D} (r : RepA K Z xs ds) (lo hi : Option Int) : RepA K Z (cutV xs lo hi) (cutD ds lo hi) := by
  unfold cutV cutD
  rw [r.length]
  exact (r.drop _).take _
theorem sl_any : SlR X (rSl X.K) := fun pins s σ H x v vl vu lo hi sl Q I rx hs pl pu h => by
  rcases h with h | h | h
  · exact sl_str pins s σ H x v vl vu lo hi sl Q I rx hs pl pu h
  · exact sl_list pins s σ H x v vl vu lo hi sl Q I rx hs pl pu h
  · exact sl_tup pins s σ H x v vl vu lo hi sl Q I rx hs pl pu h
theorem sl_ok {x : V} {d c : D} {lo hi : Option Int} {Z H : Hp} {Q : VK} (s : Same Z H) (hx : Rep K Z x d) (hg : slD d lo hi = some c) (p : PostP K Z H c Q) (nt : ∀ xs, d ≠ .tup xs) : rSl K x lo hi H Q := by
  cases hx with
  | str z =>
    have hg : (if z.length ≤ 1000000 then some (D.str (cutS z lo hi)) else none) = some c := hg
    split at hg
    · rename_i hl
      cases hg
      exact .inl ⟨z, rfl, size_le hl, p _ Z H (ExtP.refl s) (.str _)⟩
    · cases hg
  | lst h1 h2 =>
    cases hg
    exact .inr (.inl ⟨_, _, rfl, .inl (same_rd s h1), fun l hl => p _ _ _ (ExtP.new s hl) (.lst (.inl upd_same) ((h2.cut lo hi).mono (same_upd (none_of s hl))))⟩)
  | scr h1 h2 =>
    cases hg
    exact .inr (.inl ⟨_, _, rfl, same_l s h1, fun l hl => p _ _ _ (ExtP.new s hl) (.lst (.inl upd_same) ((h2.cut lo hi).mono (same_upd (none_of s hl))))⟩)
  | tup h1 h2 => exact absurd rfl (nt _)
  | _ => cases hg
/-- (tuples are not cut here) -/
def slE (d : D) (l u : Option Int) : Option D := match d with
  | .tup _ => none
  | d => slD d l u
theorem de_sl {te : TE} {tl th : TO} {m : EM} {ml mu : PM} {lo hi : Option Expr} {p2 : Pos} (h : DE K X W e te m) (hl : DP K X W lo tl ml) (hh : DP K X W hi th mu) : DE K X W (.Subscript e (.Slice lo hi none p2) pos) (tSl (rSl K) te tl th) (bnd m (pur fun d => bnd ml fun i => bnd mu fun j => ret (slE d i j))) := by
  refine ⟨h.k, ?_, ⟨fun σ H s Z I r0 Q w rs e p => ?_⟩⟩
  · have q := pe_slice (X := X) (pos := pos) (p2 := p2) sl_any h.pe hl.po hh.po
    rw [h.k] at q
    exact q
  · refine h.so.bnd w rs e p.x fun d v M1 Z1 H1 I1 w1 rs1 x1 q1 e1 => ?_
    obtain ⟨d, rfl, e1⟩ := pur_ok e1
    have p1 := p.mono x1
    refine hl.so.bnd (s := ⟨s.l, M1⟩) w1 rs1 e1 p1.x fun i i' M2 Z2 H2 I2 w2 rs2 x2 q2 e2 => ?_
    cases (show i' = i from q2)
    have p2 := p1.mono x2
    refine hh.so.bnd (s := ⟨s.l, M2⟩) w2 rs2 e2 p2.x fun j j' M3 Z3 H3 I3 w3 rs3 x3 q3 e3 => ?_
    cases (show j' = j from q3)
    obtain ⟨c, hc, rfl⟩ := ret_ok e3
    have hx : Rep K Z3 v d := Rep.mono x3.z (Rep.mono x2.z q1)
    unfold slE at hc
    split at hc
    · cases hc
    · rename_i hn
      exact sl_ok w3.sub hx hc (PostP.of w3 (p2.mono x3)) fun xs h => hn xs h
end
end DL
namespace DL
open PySem L2
section
variable {K : PySem.W.Frag} {X : Cx} {W : WX} {e a b c : Expr} {es : List Expr} {pos : Pos}
/-! ### isinstance -/
def tyName : D → Option String
  | .non => some "NoneType"
  | .bl _ => some "bool"
  | .int _ => some "int"
  | .str _ => some "str"
  | .lst _ => some "list"
  | .tup _ => some "tuple"
  | .ktup _ => some "tuple"
  | _ => none
theorem tyX_of {Z H : Hp} {x : V} {d : D} {n : String} (s : Same Z H) (h : Rep K Z x d) (e : tyName d = some n) : TyX K H x (.type n) := by
  cases h with
  | non => cases e; exact .base .non
  | bl b => cases e; exact .base (.bl b)
  | int b => cases e; exact .base (.int b)
  | str b => cases e; exact .base (.str b)
  | lst h1 h2 =>
    cases e
    rcases h1 with h1 | ⟨o, h1⟩
    · exact .base (.lst (s _ _ h1))
    · exact .base (.frz (s _ _ h1))
  | tup h1 h2 => cases e; exact .base (.tup (s _ _ h1))
  | ktup h1 h2 =>
    cases e
    rcases h1 with (h1 | ⟨o, h1⟩) | ⟨o, its, n, h1, h2, _⟩
    · exact .base (.tup (s _ _ h1))
    · exact .fTuple (s _ _ h1)
    · exact .kTuple h1 h2
  | _ => cases e
def dIsi : List O → List DV → Option D
  | _, [.p d, .p (.ty n)] => match tyName d with
    | some t => (kitB t n).map .bl
    | none => none
  | _, _ => none
theorem cd_isi : CallD K X (.builtin "isinstance") (rIsi K) dIsi := ⟨fun k => by rw [← k]; exact call_isi, fun vs ds c Z H I M Q w rv hg p => by
  unfold dIsi at hg
  split at hg
  · rename_i d n
    cases rv with
    | cons h1 h2 =>
    cases h2 with
    | cons h2 h3 =>
    cases h3
    split at hg
    · rename_i t ht
      cases z : kitB t n with
      | none => rw [z] at hg; cases hg
      | some r =>
        rw [z] at hg; cases hg
        cases h2
        exact ⟨_, _, .type t, .type n, r, rfl, .ty n, tyX_of w.sub h1 ht, kit_ty z, p _ Z H (ExtP.refl w.sub) (.bl _)⟩
    · cases hg
  · cases hg⟩
theorem de_bty {x : Str} {n : String} (hm : X.mg x = none) (hv : bootBuiltins x = some (.type n)) (k : X.K = K := by rfl) (hg : Gl X x := by rfl) (hn : x ≠ "__name__" := by decide) (hd : (x == ("__debug__" : Str)) = false := by decide) : DE K X W (.Name x pos) (tC (.ty n)) (mC (.ty n)) :=
  ⟨k, pe_bltn (v := .ty n) hg hm hv rfl hn hd, so_c fun _ => .ty n⟩
end
end DL
namespace DL
open PySem L2
abbrev dSub : D → D → Option D := dIi fun i j => i - j
abbrev dMul : D → D → Option D := dI fun i j => if mulOk i j = true then some (.int (i * j)) else none
abbrev dDiv : D → D → Option D := dI fun i j => if 0 < j ∧ j < 18446744073709551616 then some (.int (i / j)) else none
abbrev dMod : D → D → Option D := dI fun i j => if 0 < j then some (.int (i % j)) else none
abbrev dLt : D → D → Option D := dIb fun i j => decide (i < j)
abbrev dLe : D → D → Option D := dIb fun i j => decide (i ≤ j)
abbrev dGt : D → D → Option D := dIb fun i j => decide (j < i)
abbrev dGe : D → D → Option D := dIb fun i j => decide (j ≤ i)
def dNeg : D → Option D
  | .int i => some (.int (-i))
  | _ => none
theorem de_usub {K : PySem.W.Frag} {X : Cx} {W : WX} {a : Expr} {pos : Pos} {ta : TE} {m : EM} (ha : DE K X W a ta m) : DE K X W (.UnaryOp .USub a pos) (tUn (rU fun i => .int (-i)) ta) (mUn dNeg m) :=
  ⟨ha.k, pe_un un_neg ha.pe, so_un (fun x d c Z H Q s hx hg p => by
    unfold dNeg at hg
    split at hg
    · cases hx; cases hg; exact ⟨_, rfl, p _ Z H (ExtP.refl s) (.int _)⟩
    · cases hg) ha.so⟩
/-- a def of the top -/
structure Df (K : PySem.W.Frag) (mg : Str → Option Value) (nm : Str) (st : Stmt) (ps : List Str) where
  a : Addr
  fd : FuncData
  F : Fun K nm nm st a fd
  m : mg nm = some (.ref a)
  b : Binds K fd ps []
theorem intsRep {K : PySem.W.Frag} {Z : Hp} : ∀ ns : List Int, RepA K Z (ns.map V.int) (ns.map D.int)
  | [] => .nil
  | n :: r => .cons (.int n) (intsRep r)
theorem walk_dl {l : PySem.W.OpenLaw} {k : Nat} {q : Program} {loose : List Str} {XP : (Str → Option Value) → Heap → Prop} {YP : World → Heap → Prop} {d : DefRec} {K : Params → PySem.W.Frag} {f : MA} (hn : l.most = some 63) (hdf : d.params.defaults = []) (hr : Room k callerA)
    (hY : ∀ (w : World) (h : Heap), YP w h → (K w.params).In h)
    (F : ∀ (w : World) (mg : Str → Option Value) (fa : Addr) (h : Heap), (K w.params).In h → h.Ns mainGlobals mg → mg d.name = some (.ref fa) →
      ∃ fd : FuncData, (∀ (s : Shared) (u : Value), BindsTo s fd ⟨[u], []⟩ [("script", u)]) ∧ ∀ base : Heap, (K w.params).In base → base.Ns mainGlobals mg → FnOk l.prog w (K w.params) mg base (L2.CX l.prog w) k fa fd ["script"] (spA (K w.params) 1 f))
    (good : ∀ ns : List Int, ns.length ≤ 63 → (∀ z ∈ ns, Builtin.Int.intBits z ≤ 1048576) → f [.scr (ns.map .int)] = some (.ok (.bl true))) :
    PySem.W.WalkO q loose XP YP l.row.toRowW d [] (fun f vs => PySem.call f vs) :=
  walk_ofB (n := 63) (k := k) (x := "script") (CX := fun w => L2.CX l.prog w) (sp := fun w => spA (K w.params) 1 f) hn (by decide) hdf hr hY F
    (fun w H a ns hl hb ho hS => ⟨rfl, H, [.scr (ns.map .int)], .ok (.bl true), Same.refl _, .cons (.scr hS (intsRep ns)) .nil, good ns hl hb, fun v Z' H' x r => by cases r; rfl⟩)
    fun w H s e s' h => by
      obtain ⟨_, _, _, _, _, _, _, _, _, _, _, _, z⟩ := h
      exact z.elim
end DL
namespace DL
open PySem L2
/-- a constant of the top -/
structure GC (K : PySem.W.Frag) (mg : Str → Option Value) (x : Str) (d : D) where
  v : V
  u : Value
  m : mg x = some u
  r : RelV v u
  h : ∀ Z, Rep K Z v d
def gc_mk {K : PySem.W.Frag} {mg : Str → Option Value} {x : Str} {d : D} {v : V} {u : Value} (m : mg x = some u) (r : RelV v u) (h : ∀ Z, Rep K Z v d) : GC K mg x d := ⟨v, u, m, r, h⟩
theorem de_gc {K : PySem.W.Frag} {X : Cx} {W : WX} {x : Str} {d : D} {pos : Pos} {mg : Str → Option Value} (g : GC K mg x d) (hm : X.mg = mg := by rfl) (k : X.K = K := by rfl) (hg : Gl X x := by rfl) (hd : (x == ("__debug__" : Str)) = false := by decide) : DE K X W (.Name x pos) (tC g.v) (mC d) :=
  de_glob (by rw [hm]; exact g.m) g.r g.h k hg hd
def mSlE (m : EM) (l u : PM) : EM := bnd m (pur fun d => bnd l fun i => bnd u fun j => ret (slE d i j))
end DL
namespace DL
open PySem L2
/-! the mirror's equations -/
@[simp] theorem e_gv0 (x : Option DV) (r : List (Option DV)) : gv (x :: r) 0 = x := by unfold gv; cases x <;> rfl
@[simp] theorem e_gvS (x : Option DV) (r : List (Option DV)) (n : Nat) : gv (x :: r) (n + 1) = gv r n := by unfold gv; rfl
@[simp] theorem e_var (i : Nat) (s : S) : mVar i s = (match gv s.l i with | some d => some (.ok d s.m) | none => none) := rfl
@[simp] theorem e_c (d : D) (s : S) : mC d s = some (.ok (.p d) s.m) := rfl
theorem e_bnd {α γ : Type} (m : Mi α) (k : α → Mi γ) (s : S) : bnd m k s = (match m s with | some (.ok v M) => k v ⟨s.l, M⟩ | some (.ex c f M) => some (.ex c f M) | none => none) := rfl
@[simp] theorem e_pur {γ : Type} (k : D → Mi γ) (d : D) (s : S) : pur k (.p d) s = k d s := rfl
@[simp] theorem e_ret (d : D) (s : S) : ret (some d) s = some (.ok (.p d) s.m) := rfl
@[simp] theorem e_bin (g : D → D → Option D) (m n : EM) (s : S) : mBin g m n s = (bnd m (pur fun d => bnd n (pur fun e => ret (g d e)))) s := rfl
@[simp] theorem e_un (g : D → Option D) (m : EM) (s : S) : mUn g m s = (bnd m (pur fun d => ret (g d))) s := rfl
@[simp] theorem e_dI (g : Int → Int → Option D) (i j : Int) : dI g (.int i) (.int j) = g i j := rfl
@[simp] theorem e_addI (i j : Int) : dAdd (.int i) (.int j) = some (.int (i + j)) := rfl
@[simp] theorem e_addS (x y : Str) : dAdd (.str x) (.str y) = if x.length + y.length ≤ 1000000 then some (.str (x ++ y)) else none := rfl
@[simp] theorem e_neg (i : Int) : dNeg (.int i) = some (.int (-i)) := rfl
@[simp] theorem e_isN (m : EM) (s : S) : mIsN m s = (bnd m fun d s => some (.ok (.p (.bl (isNV d))) s.m)) s := rfl
@[simp] theorem e_notN (m : EM) (s : S) : mNotN m s = (bnd m fun d s => some (.ok (.p (.bl (!isNV d))) s.m)) s := rfl
@[simp] theorem e_isNVo (n : Nat) : isNV (.o n) = false := rfl
@[simp] theorem e_isNV0 : isNV (.p .non) = true := rfl
@[simp] theorem e_isNV1 (i : Int) : isNV (.p (.int i)) = false := rfl
@[simp] theorem e_isNV2 (i : Str) : isNV (.p (.str i)) = false := rfl
@[simp] theorem e_isNV3 (i : List D) : isNV (.p (.tup i)) = false := rfl
@[simp] theorem e_isNV4 (i : List D) : isNV (.p (.lst i)) = false := rfl
@[simp] theorem e_isNV5 (i : Bool) : isNV (.p (.bl i)) = false := rfl
@[simp] theorem e_tru (m : EM) (s : S) : mTru m s = (bnd m fun d s => match truM s.m d with | some b => some (.ok (.p (.bl b)) s.m) | none => none) s := rfl
@[simp] theorem e_truB (M : List O) (b : Bool) : truM M (.p (.bl b)) = some b := rfl
@[simp] theorem e_ifMt {γ : Type} (n k : Mi γ) (s : S) : ifM n k (.p (.bl true)) s = n s := rfl
@[simp] theorem e_ifMf {γ : Type} (n k : Mi γ) (s : S) : ifM n k (.p (.bl false)) s = k s := rfl
@[simp] theorem e_fls (s : S) : fls s = some (.ok (.p (.bl false)) s.m) := rfl
@[simp] theorem e_trus (s : S) : tru s = some (.ok (.p (.bl true)) s.m) := rfl
@[simp] theorem e_and (m n : EM) (s : S) : mAnd m n s = (bnd m (ifM n fls)) s := rfl
@[simp] theorem e_or (m n : EM) (s : S) : mOr m n s = (bnd m (ifM tru n)) s := rfl
@[simp] theorem e_not (m : EM) (s : S) : mNot m s = (bnd m (ifM fls tru)) s := rfl
@[simp] theorem e_ifE (c m n : EM) (s : S) : mIf c m n s = (bnd c (ifM m n)) s := rfl
@[simp] theorem e_chain (g h : D → D → Option D) (m n k : EM) (s : S) : mChain g h m n k s = (bnd m (pur fun d => bnd n (pur fun e => bnd (ret (g d e)) (ifM (bnd k (pur fun f => ret (h e f))) fls)))) s := rfl
@[simp] theorem e_aNil (s : S) : aNil s = some (.ok [] s.m) := rfl
@[simp] theorem e_aCons (m : EM) (ms : AM) (s : S) : aCons m ms s = (bnd m fun d => bnd ms fun ds s => some (.ok (d :: ds) s.m)) s := rfl
@[simp] theorem e_allP0 : allP [] = some [] := rfl
@[simp] theorem e_allP1 (d : D) (r : List DV) : allP (.p d :: r) = (allP r).map (d :: ·) := rfl
@[simp] theorem e_allPm (xs : List D) : allP (xs.map .p) = some xs := by
  induction xs with
  | nil => rfl
  | cons x r ih => show (allP (r.map .p)).map _ = _; rw [ih]; rfl
@[simp] theorem e_disp (g : List D → D) (ms : AM) (s : S) : disp g ms s = (bnd ms fun ds s => match allP ds with | some xs => if xs.length ≤ 1000000 then some (.ok (.p (g xs)) s.m) else none | none => none) s := rfl
@[simp] theorem e_dispO (ms : AM) (s : S) : dispO ms s = (bnd ms fun ds s => if ds.length ≤ 1000000 then some (.ok (.o s.m.length) (s.m ++ [.lst ds])) else none) s := rfl
def ixK (d : DV) (i : D) : EM := fun s => match i with
  | .int i => (match ixM s.m d i with
    | some c => some (.ok c s.m)
    | none => none)
  | _ => none
@[simp] theorem e_ix (m n : EM) (s : S) : mIx m n s = (bnd m fun d => bnd n (pur (ixK d))) s := rfl
@[simp] theorem e_ixK (d : DV) (i : Int) (s : S) : ixK d (.int i) s = (match ixM s.m d i with | some c => some (.ok c s.m) | none => none) := rfl
@[simp] theorem e_ixp (M : List O) (d : D) (i : Int) : ixM M (.p d) i = (ixD d i).map .p := rfl
@[simp] theorem e_ixo (M : List O) (n : Nat) (i : Int) : ixM M (.o n) i = ixO M[n]? i := rfl
@[simp] theorem e_ixl (xs : List D) (i : Int) : ixD (.lst xs) i = atI xs i := rfl
@[simp] theorem e_ixt (xs : List D) (i : Int) : ixD (.tup xs) i = atI xs i := rfl
@[simp] theorem e_ixO (xs : List DV) (i : Int) : ixO (some (.lst xs)) i = atI xs i := rfl
@[simp] theorem e_cb (g : List O → List DV → Option D) (ms : AM) (s : S) : mCB g ms s = (bnd ms fun ds s => ret (g s.m ds) s) s := rfl
@[simp] theorem e_g1 (g : D → Option D) (M : List O) (d : D) : g1 g M [.p d] = g d := rfl
@[simp] theorem e_abs (i : Int) : dAbs (.int i) = some (.int (if i < 0 then -i else i)) := rfl
@[simp] theorem e_int (i : Int) : dInt (.int i) = some (.int i) := rfl
@[simp] theorem e_intb (b : Bool) : dInt (.bl b) = some (.int (if b then 1 else 0)) := rfl
@[simp] theorem e_len (M : List O) (d : DV) : dLen M [d] = Option.map (fun (n : Nat) => D.int (n : Int)) (lenM M d) := rfl
@[simp] theorem e_lenp (M : List O) (d : D) : lenM M (.p d) = lenD d := rfl
@[simp] theorem e_leno (M : List O) (n : Nat) : lenM M (.o n) = lenO M[n]? := rfl
@[simp] theorem e_lenl (xs : List D) : lenD (.lst xs) = some xs.length := rfl
@[simp] theorem e_lent (xs : List D) : lenD (.tup xs) = some xs.length := rfl
@[simp] theorem e_lens (y : Str) : lenD (.str y) = if y.length ≤ 1000000 then some y.length else none := rfl
@[simp] theorem e_lenO (xs : List DV) : lenO (some (.lst xs)) = some xs.length := rfl
@[simp] theorem e_callA (n : Nat) (f : MA) (ms : AM) (s : S) : mCallA n f ms s = (bnd ms fun ds s => if ds.length = n then match allP ds with
  | some xs => match f xs with
    | some (.ok d) => some (.ok (.p d) s.m)
    | some (.ex c fs) => some (.ex c fs s.m)
    | none => none
  | none => none else none) s := rfl
@[simp] theorem e_callB (n : Nat) (f : List DV → List O → Option (Rs DV)) (ms : AM) (s : S) : mCallB n f ms s = (bnd ms fun ds s => if ds.length = n then f ds s.m else none) s := rfl
theorem e_lift {α : Type} (m : Mi α) (k : α → SM) (s : S) : liftS m k s = (match m s with | some (.ok v M) => k v ⟨s.l, M⟩ | some (.ex c f M) => some (.ex c f, ⟨s.l, M⟩) | none => none) := rfl
@[simp] theorem e_nil (s : S) : sNil s = some (.nx, s) := rfl
theorem e_seq (a b : SM) (s : S) : sSeq a b s = (match a s with | some (.nx, s1) => b s1 | r => r) := rfl
@[simp] theorem e_expr (m : EM) (s : S) : sExpr m s = (liftS m fun _ s => some (.nx, s)) s := rfl
@[simp] theorem e_sret (m : EM) (s : S) : sRet m s = (liftS m fun d s => some (.rt d, s)) s := rfl
@[simp] theorem e_ifSt (n k : SM) (s : S) : ifS n k (.p (.bl true)) s = n s := rfl
@[simp] theorem e_ifSf (n k : SM) (s : S) : ifS n k (.p (.bl false)) s = k s := rfl
@[simp] theorem e_sif (c : EM) (m n : SM) (s : S) : sIf c m n s = (liftS c (ifS m n)) s := rfl
@[simp] theorem e_gN (i : Nat) (d : DV) (s : S) : gN i d s = some ⟨s.l.set i (some d), s.m⟩ := rfl
@[simp] theorem e_asg (m : EM) (g : GM) (s : S) : sAsg m g s = (liftS m fun d s => match g d s with | some s1 => some (.nx, s1) | none => none) s := rfl
@[simp] theorem e_par (i j : Nat) (ms : AM) (s : S) : sPar i j ms s = (liftS ms fun ds s => match ds with | [d, f] => some (.nx, ⟨(s.l.set i (some d)).set j (some f), s.m⟩) | _ => none) s := rfl
@[simp] theorem e_loop0 (g : GM) (b : SM) (s : S) : loopS g b [] s = some (.nx, s) := rfl
@[simp] theorem e_for (it : IM) (g : GM) (b : SM) (s : S) : sFor it g b s = (liftS it fun ds => loopS g b ds) s := rfl
@[simp] theorem e_frz (m : EM) (s : S) : mFrz m s = (bnd m fun d s => match d with
  | .p d => some (.ok (.p d) s.m)
  | .o n => match s.m[n]? with
    | some (.lst ds) => match allP ds with
      | some xs => some (.ok (.p (.lst xs)) (s.m.set n .gone))
      | none => none
    | _ => none) s := rfl
theorem e_runA (n : Nat) (m : SM) (ds : List D) : runA n m ds = (match m ⟨slotsOf n (ds.map .p), []⟩ with
  | some (.nx, _) => some (.ok .non)
  | some (.rt (.p d), _) => some (.ok d)
  | some (.ex c fs, _) => some (.ex c fs)
  | _ => none) := rfl
theorem e_runB (n : Nat) (m : SM) (ds : List DV) (M : List O) : runB n m ds M = (match m ⟨slotsOf n ds, M⟩ with
  | some (.nx, s) => some (.ok (.p .non) (dropM M.length (.p .non) s.m))
  | some (.rt d, s) => some (.ok d (dropM M.length d s.m))
  | some (.ex c fs, s) => some (.ex c fs (dropM M.length (.p .non) s.m))
  | _ => none) := rfl
@[simp] theorem e_slots (n : Nat) (ds : List DV) : slotsOf n ds = ds.map some ++ List.replicate (n - ds.length) none := rfl
@[simp] theorem e_pNone (s : S) : pNone s = some (.ok none s.m) := rfl
@[simp] theorem e_pSome (m : EM) (s : S) : pSome m s = (bnd m (pur fun d s => match d with | .int i => some (.ok (some i) s.m) | _ => none)) s := rfl
@[simp] theorem e_slE (m : EM) (l u : PM) (s : S) : mSlE m l u s = (bnd m (pur fun d => bnd l fun i => bnd u fun j => ret (slE d i j))) s := rfl
@[simp] theorem e_itD (g : D → Option (List DV)) (m : EM) (s : S) : mItD g m s = (bnd m (pur fun d s => match g d with | some ds => some (.ok ds s.m) | none => none)) s := rfl
@[simp] theorem e_itL (xs : List D) : itL (.lst xs) = some (xs.map .p) := rfl
@[simp] theorem e_itT (xs : List D) : itT (.tup xs) = some (xs.map .p) := rfl
@[simp] theorem e_rng (g : List DV → Option (List DV)) (ms : AM) (s : S) : mRng g ms s = (bnd ms fun ds s => match g ds with | some xs => some (.ok xs s.m) | none => none) s := rfl
@[simp] theorem e_rng1 (j : Int) : rng1D [.p (.int j)] = if rngOk j = true then some (intsFrom 0 j.toNat) else none := rfl
@[simp] theorem e_rng2 (i j : Int) : rng2D [.p (.int i), .p (.int j)] = if rngOk i = true then if rngOk j = true then some (intsFrom i (j - i).toNat) else none else none := rfl
@[simp] theorem e_mth (T : String) (g : MtG) (o : EM) (ms : AM) (s : S) : mMth T g o ms s = (bnd o fun d s => if tyOk T s.m d = true then bnd ms (fun ds => g d ds) s else none) s := rfl
@[simp] theorem e_lc (it : IM) (vs : List Nat) (g : GM) (t e : EM) (s : S) : mLc it vs g t e s = (bnd it fun ds s => match compL (wipeL s.l vs) g t e ds [] s.m with | some (acc, M) => some (.ok (.p (.lst acc)) M) | none => none) s := rfl
@[simp] theorem e_lcO (it : IM) (vs : List Nat) (g : GM) (t e : EM) (s : S) : mLcO it vs g t e s = (bnd it fun ds s => match compL (wipeL s.l vs) g t e ds [] s.m with | some (acc, M) => some (.ok (.o M.length) (M ++ [.lst (acc.map .p)])) | none => none) s := rfl
@[simp] theorem e_wipe0 (l : List (Option DV)) : wipeL l [] = l := rfl
@[simp] theorem e_wipe1 (l : List (Option DV)) (v : Nat) (vs : List Nat) : wipeL l (v :: vs) = (wipeL l vs).set v none := rfl
@[simp] theorem e_yes (s : S) : tYesM s = some (.ok (.p (.bl true)) s.m) := rfl
@[simp] theorem e_eqD (d e : D) : dEq d e = (eqD d e).map .bl := rfl
@[simp] theorem e_neD (d e : D) : dNe d e = (eqD d e).map fun b => .bl !b := rfl
@[simp] theorem e_eqII (i j : Int) : eqD (.int i) (.int j) = some (decide (i = j)) := by show some (i == j) = _; rw [Bool.beq_eq_decide_eq]
@[simp] theorem e_eqSS (i j : Str) : eqD (.str i) (.str j) = some (decide (i = j)) := by
  show some (i == j) = _
  by_cases h : i = j <;> simp [h]
@[simp] theorem e_eqBB (i j : Bool) : eqD (.bl i) (.bl j) = some (decide (i = j)) := by show some (i == j) = _; rw [Bool.beq_eq_decide_eq]
@[simp] theorem e_eqNI (j : Int) : eqD .non (.int j) = some false := rfl
@[simp] theorem e_eqIN (j : Int) : eqD (.int j) .non = some false := rfl
@[simp] theorem e_eqNN : eqD .non .non = some true := rfl
@[simp] theorem mul2L (i : Int) : mulOk 2 i = true := by unfold mulOk; simp
end DL
namespace DL
open PySem L2
/-! the drawn numbers -/
def stateB : SM := (sSeq (sAsg (mLcO (mItD itL (mSlE (mVar 0) pNone (pSome (mC (.int 63))))) [2] (gN 2) tYesM (mCB (g1 dAbs) (aCons (mVar 2) aNil))) (gN 1))
  (sSeq (sIf (mBin dEq (mCB dLen (aCons (mVar 1) aNil)) (mC (.int 0))) (sAsg (dispO (aCons (mC (.int 0)) aNil)) (gN 1)) sNil)
  (sRet (dispO (aCons (mC (.int 0)) (aCons (mVar 1) aNil))))))
def stateM : List DV → List O → Option (Rs DV) := runB 3 stateB
def takeB : SM := (sSeq (sIf (mBin dLt (mVar 1) (mC (.int 1))) (sRet (mC (.int 0))) sNil)
  (sSeq (sAsg (mIx (mVar 0) (mC (.int 1))) (gN 2))
  (sSeq (sAsg (mBin dMod (mIx (mVar 0) (mC (.int 0))) (mCB dLen (aCons (mVar 2) aNil))) (gN 3))
  (sSeq (sAsg (mIx (mVar 2) (mVar 3)) (gN 4))
  (sSeq (sIf (mBin dGe (mVar 4) (mC (.int 1000000000000000000))) (sSeq (sAsg (mBin dDiv (mVar 4) (mVar 1)) (gSet (mVar 2) (mVar 3)))
  (sRet (mBin dMod (mVar 4) (mVar 1)))) sNil)
  (sSeq (sAsg (mBin dAdd (mIx (mVar 0) (mC (.int 0))) (mC (.int 1))) (gSet (mVar 0) (mC (.int 0))))
  (sSeq (sAsg (mBin dMod (mCB (g1 dInt) (aCons (mBin dAdd (mBin dMul (mVar 4) (mC (.int 48271))) (mBin dMul (mIx (mVar 0) (mC (.int 0))) (mC (.int 69621)))) aNil)) (mC (.int 2147483647))) (gN 5))
  (sSeq (sAsg (mBin dMod (mCB (g1 dInt) (aCons (mBin dAdd (mBin dMul (mVar 5) (mC (.int 16807))) (mBin dMul (mIx (mVar 0) (mC (.int 0))) (mC (.int 7919)))) aNil)) (mC (.int 1000000007))) (gN 5))
  (sRet (mBin dMod (mBin dDiv (mVar 5) (mC (.int 7))) (mVar 1)))))))))))
def takeM : List DV → List O → Option (Rs DV) := runB 6 takeB
structure Dr (n : Nat) (sv : DV) (M : List O) : Prop where
  len : M.length = n
  cl : M.all (closed n) = true
  ex : ∃ (k c : Nat) (i : Int) (cells : List Int), sv = .o k ∧ M[k]? = some (.lst [.p (.int i), .o c]) ∧ M[c]? = some (.lst (cells.map fun z => .p (.int z))) ∧ k ≠ c ∧ 0 ≤ i ∧ cells ≠ [] ∧ ∀ z ∈ cells, 0 ≤ z
theorem dropM_len {k : Nat} {d : DV} {M : List O} (h : M.length = k) : dropM k d M = M := by
  unfold dropM
  rw [List.take_of_length_le (by omega)]
  split <;> rfl
theorem dropM_app {k : Nat} {d : DL.D} {M g : List O} (h : M.length = k) (c : M.all (closed k) = true) : dropM k (.p d) (M ++ g) = M := by
  unfold dropM
  have e : (M ++ g).take k = M := by rw [← h, List.take_left]
  rw [e, c]
  rfl
theorem atI_nat' {α : Type} {xs : List α} {j : Int} {x : α} (h0 : 0 ≤ j) (h : xs[j.toNat]? = some x) : atI xs j = some x := by
  have hl := (List.getElem?_eq_some_iff.mp h).1
  unfold atI ixN
  rw [if_pos h0, if_pos (by omega)]
  exact h
theorem ixN_nat {n : Nat} {j : Int} (h0 : 0 ≤ j) (h : j < n) : ixN n j = some j.toNat := by
  unfold ixN
  rw [if_pos h0, if_pos h]
theorem atI0 {α : Type} (x : α) (xs : List α) : atI (x :: xs) 0 = some x := atI_nat' (by decide) rfl
theorem atI1 {α : Type} (x y : α) (xs : List α) : atI (x :: y :: xs) 1 = some y := atI_nat' (by decide) rfl
theorem all_set {p : O → Bool} {M : List O} {o : O} (h : M.all p = true) (ho : p o = true) (n : Nat) : (M.set n o).all p = true := by
  rw [List.all_eq_true] at h ⊢
  intro x hx
  rcases List.mem_or_eq_of_mem_set hx with h1 | h1
  · exact h x h1
  · rw [h1]; exact ho
theorem closed_ints (n : Nat) (cells : List Int) : closed n (.lst (cells.map fun z => .p (.int z))) = true := by
  show (cells.map fun z => DV.p (.int z)).all (ltO n) = true
  rw [List.all_map]
  exact List.all_eq_true.mpr fun _ _ => rfl
theorem set_map (cells : List Int) (j : Nat) (z : Int) : (cells.map fun z => DV.p (.int z)).set j (.p (.int z)) = (cells.set j z).map fun z => DV.p (.int z) := by
  rw [List.map_set]
theorem get_map {cells : List Int} {j : Nat} (h : j < cells.length) : (cells.map fun z => DV.p (.int z))[j]? = some (.p (.int cells[j])) := by
  rw [List.getElem?_map, List.getElem?_eq_getElem h]; rfl
theorem e_set (o i : EM) (d : DV) (s : S) : gSet o i d s = (match bnd o (fun x => bnd i (pur (gSetK d x))) s with | some (.ok _ M) => some ⟨s.l, M⟩ | _ => none) := rfl
theorem e_setK (d : DV) (n : Nat) (j : Int) (s : S) : gSetK d (.o n) (.int j) s = (match setL s.m n j d with | some M => some (.ok (.p .non) M) | none => none) := rfl
theorem setL_ok {M : List O} {n : Nat} {ds : List DV} {j : Int} {d : DV} (h : M[n]? = some (.lst ds)) (h0 : 0 ≤ j) (h1 : j < ds.length) : setL M n j d = some (M.set n (.lst (ds.set j.toNat d))) := by
  unfold setL
  rw [h]
  show (match ixN ds.length j with | some j => some (M.set n (.lst (ds.set j d))) | none => none) = _
  rw [ixN_nat h0 h1]
theorem mulOkR (i j : Int) (h : -18446744073709551616 < j) (h' : j < 18446744073709551616) : mulOk i j = true := by
  unfold mulOk
  have e : (2 : Int) ^ 64 = 18446744073709551616 := by decide
  simp only [e, Bool.or_eq_true, decide_eq_true_eq]
  exact .inr ⟨h, h'⟩
theorem take_spec {n : Nat} {sv : DV} {M : List O} (h : Dr n sv M) (most : Int) (hm : most < 18446744073709551616) : ∃ r M', takeM [sv, .p (.int most)] M = some (.ok (.p (.int r)) M') ∧ Dr n sv M' ∧ (most < 1 → r = 0) ∧ (1 ≤ most → 0 ≤ r ∧ r < most) := by
  obtain ⟨k, c, i, cells, rfl, hk, hc, kc, hi, ne, nn⟩ := h.ex
  by_cases h1 : most < 1
  · refine ⟨0, M, ?_, h, fun _ => rfl, fun h2 => by omega⟩
    simp [e_bnd, e_seq, e_lift, e_runA, e_runB, takeM, takeB, h1, dropM_len h.len, h.len]
  · have hl : 0 < cells.length := List.length_pos_iff.mpr ne
    have hl' : (0 : Int) < (cells.length : Int) := by omega
    have a0 : 0 ≤ i % (cells.length : Int) := Int.emod_nonneg _ (by omega)
    have a1 : i % (cells.length : Int) < (cells.length : Int) := Int.emod_lt_of_pos _ hl'
    have aN : (i % (cells.length : Int)).toNat < cells.length := by omega
    have hg := atI_nat' (xs := cells.map fun z => DV.p (.int z)) a0 (get_map aN)
    have cn : 0 ≤ cells[(i % (cells.length : Int)).toNat] := nn _ (List.getElem_mem aN)
    generalize hz : cells[(i % (cells.length : Int)).toNat] = z at hg cn
    have m0 : 0 < most := by omega
    by_cases h2 : 1000000000000000000 ≤ z
    · refine ⟨z % most, M.set c (.lst ((cells.set (i % (cells.length : Int)).toNat (z / most)).map fun z => .p (.int z))), ?_, ⟨by rw [List.length_set]; exact h.len, all_set h.cl (closed_ints n _) c, k, c, i, _, rfl, by rw [List.getElem?_set_ne kc.symm]; exact hk, by rw [List.getElem?_set_self (List.getElem?_eq_some_iff.mp hc).1], kc, hi, ?_, ?_⟩, fun h3 => absurd h3 h1, fun _ => ⟨Int.emod_nonneg _ (by omega), Int.emod_lt_of_pos _ m0⟩⟩
      · have hs := setL_ok (M := M) (n := c) (d := .p (.int (z / most))) hc a0 (by rw [List.length_map]; exact a1)
        simp [e_bnd, e_seq, e_lift, e_runA, e_runB, takeM, takeB, h1, hk, hc, atI0, atI1, hl, hl', hg, h2, e_set, e_setK, m0, hm, hs, h.len, dropM_len]
      · simpa using ne
      · intro y hy
        rcases List.mem_or_eq_of_mem_set hy with q | q
        · exact nn y q
        · rw [q]; exact Int.ediv_nonneg cn (by omega)
    · have hs := setL_ok (M := M) (n := k) (d := .p (.int (i + 1))) (j := 0) hk (by decide) (by simp)
      have hk' : (M.set k (.lst [DV.p (.int (i + 1)), .o c]))[k]? = some (.lst [.p (.int (i + 1)), .o c]) := by
        rw [List.getElem?_set_self (List.getElem?_eq_some_iff.mp hk).1]
      refine ⟨((((z * 48271 + (i + 1) * 69621) % 2147483647) * 16807 + (i + 1) * 7919) % 1000000007) / 7 % most, M.set k (.lst [.p (.int (i + 1)), .o c]), ?_, ⟨by rw [List.length_set]; exact h.len, all_set h.cl ?_ k, k, c, i + 1, cells, rfl, hk', by rw [List.getElem?_set_ne kc]; exact hc, kc, by omega, ne, nn⟩, fun h3 => absurd h3 h1, fun _ => ⟨Int.emod_nonneg _ (by omega), Int.emod_lt_of_pos _ m0⟩⟩
      · simp [e_bnd, e_seq, e_lift, e_runA, e_runB, takeM, takeB, h1, hk, hc, atI0, atI1, hl, hl', hg, h2, e_set, e_setK, m0, hm, hs, hk', h.len, dropM_len, mulOkR]
      · have := List.all_eq_true.mp h.cl _ (List.mem_of_getElem? hk)
        exact this
end DL
namespace DL
open PySem L2
theorem compL_fm {l : List (Option DV)} {g : GM} {t e : EM} {p : DV → Bool} {f : DV → D} {M : List O} : ∀ (ds : List DV) (acc : List D),
    (∀ d ∈ ds, ∃ s1 : S, g d ⟨l, M⟩ = some s1 ∧ t s1 = some (.ok (.p (.bl (p d))) M) ∧ (p d = true → e ⟨s1.l, M⟩ = some (.ok (.p (f d)) M))) → acc.length + ds.length ≤ 1000000 →
    compL l g t e ds acc M = some (acc ++ (ds.filter p).map f, M)
  | [], acc, _, _ => by simp [compL]
  | d :: ds, acc, h, hl => by
    obtain ⟨s1, h1, h2, h3⟩ := h d (by simp)
    have hl' : acc.length + (ds.length + 1) ≤ 1000000 := hl
    unfold compL
    rw [h1]
    dsimp only
    rw [h2]
    cases hp : p d with
    | true =>
      dsimp only
      rw [h3 hp]
      dsimp only
      rw [if_pos (by omega), compL_fm ds (acc ++ [f d]) (fun x hx => h x (by simp [hx])) (by simp; omega)]
      simp [hp]
    | false =>
      dsimp only
      rw [compL_fm ds acc (fun x hx => h x (by simp [hx])) (by omega)]
      simp [hp]
theorem compL_map {l : List (Option DV)} {g : GM} {t e : EM} {f : DV → D} {M : List O} (ds : List DV)
    (h : ∀ d ∈ ds, ∃ s1 : S, g d ⟨l, M⟩ = some s1 ∧ t s1 = some (.ok (.p (.bl true)) M) ∧ e ⟨s1.l, M⟩ = some (.ok (.p (f d)) M)) (hl : ds.length ≤ 1000000) : compL l g t e ds [] M = some (ds.map f, M) := by
  have q := compL_fm (p := fun _ => true) (f := f) ds [] (l := l) (g := g) (t := t) (e := e) (M := M) (fun d hd => by
    obtain ⟨s1, h1, h2, h3⟩ := h d hd
    exact ⟨s1, h1, h2, fun _ => h3⟩) (by simpa using hl)
  rw [q, List.filter_eq_self.mpr (fun _ _ => rfl)]
  rfl
theorem dropM_own {n : Nat} {M : List O} : dropM 0 (.o n) M = M := by simp [dropM, ltO]
theorem cut63 {α : Type} (xs : List α) (h : xs.length ≤ 63) : cutD xs none (some 63) = xs := by
  unfold cutD
  rw [HT.sIx_none, show (63 : Int) = ((63 : Nat) : Int) from rfl, HT.sIx_nat, List.drop_zero]
  exact List.take_of_length_le (by omega)
def iabs (i : Int) : Int := if i < 0 then -i else i
theorem state_spec (ns : List Int) (hl : ns.length ≤ 63) : ∃ n sv M, stateM [.p (.scr (ns.map .int))] [] = some (.ok sv M) ∧ Dr n sv M := by
  have hc : slE (.scr (ns.map D.int)) none (some 63) = some (.lst (ns.map D.int)) := by
    show some (D.lst (cutD (ns.map D.int) none (some 63))) = _
    rw [cut63 _ (by simpa using hl)]
  have hm : compL [some (.p (.scr (ns.map .int))), none, none] (gN 2) tYesM (mCB (g1 dAbs) (aCons (mVar 2) aNil)) ((ns.map D.int).map DV.p) [] [] = some ((ns.map iabs).map D.int, []) := by
    rw [compL_map (f := fun d => match d with | .p (.int i) => .int (iabs i) | _ => .non) ((ns.map D.int).map DV.p) (fun d hd => by
      rw [List.map_map] at hd
      obtain ⟨i, _, rfl⟩ := List.mem_map.mp hd
      exact ⟨_, rfl, rfl, by simp [e_bnd, iabs]⟩) (by simp; omega)]
    simp
  have e0 : (ns.map iabs).map D.int = [] → ns = [] := by simp
  by_cases he : ns = []
  · refine ⟨3, .o 2, [.lst [], .lst [.p (.int 0)], .lst [.p (.int 0), .o 1]], ?_, rfl, rfl, 2, 1, 0, [0], rfl, rfl, rfl, by decide, by decide, by simp, by simp⟩
    subst he
    simp [e_bnd, e_seq, e_lift, e_runA, e_runB, stateM, stateB, hc, hm, dropM_own]
    rfl
  · refine ⟨2, .o 1, [.lst ((ns.map iabs).map fun z => .p (.int z)), .lst [.p (.int 0), .o 0]], ?_, rfl, ?_, 1, 0, 0, ns.map iabs, rfl, rfl, rfl, by decide, by decide, by simpa using he, ?_⟩
    · generalize hA : (ns.map iabs) = A at hm
      have hA' : A ≠ [] := by rw [← hA]; simpa using he
      have hA2 : ¬ A.length = 0 := by
        intro h; exact hA' (List.length_eq_zero_iff.mp h)
      generalize hB : ns.map D.int = B at hm hc
      simp [e_bnd, e_seq, e_lift, e_runA, e_runB, stateM, stateB, hc, hm, dropM_own, hA', hA2]
    · show (closed 2 _ && _) = true
      rw [closed_ints]; rfl
    · intro z hz
      obtain ⟨i, _, rfl⟩ := List.mem_map.mp hz
      unfold iabs; split <;> omega
theorem at_mem {α : Type} {xs : List α} {j : Int} (h0 : 0 ≤ j) (h : j < xs.length) : ∃ x, atI xs j = some x ∧ x ∈ xs := by
  have hj : j.toNat < xs.length := by omega
  exact ⟨xs[j.toNat], atI_nat' h0 (List.getElem?_eq_getElem hj), List.getElem_mem hj⟩
theorem ints0 (lo : Int) : DL.intsFrom lo 0 = [] := rfl
theorem intsS (lo : Int) (n : Nat) : DL.intsFrom lo (n + 1) = .p (.int lo) :: DL.intsFrom (lo + 1) n := by
  unfold DL.intsFrom
  rw [List.range_succ_eq_map, List.map_cons, List.map_map]
  have e : lo + ((0 : Nat) : Int) = lo := by omega
  rw [e]
  congr 1
  refine List.map_congr_left fun i _ => ?_
  show DV.p (.int (lo + ((i + 1 : Nat) : Int))) = DV.p (.int (lo + 1 + (i : Int)))
  congr 2; omega
theorem loopS_cons {g : GM} {b : SM} {d : DV} {ds : List DV} {s : S} : loopS g b (d :: ds) s = (match g d s with
    | none => none
    | some s1 => match b s1 with
      | none => none
      | some (.nx, s2) => loopS g b ds s2
      | some (.ct, s2) => loopS g b ds s2
      | some (.bk, s2) => some (.nx, s2)
      | some (.rt v, s2) => some (.rt v, s2)
      | some (.ex c f, s2) => some (.ex c f, s2)) := rfl
end DL
namespace DL
open PySem L2
/-! going through a mirror step by step -/
def wpB {α : Type} (o : Option (Rs α)) (P : α → List O → Prop) : Prop := ∃ v M, o = some (.ok v M) ∧ P v M
def noX : Fl → Bool
  | .ex _ _ => false
  | _ => true
def wpS (o : Option (Fl × S)) (P : Fl → S → Prop) : Prop := ∃ f s, o = some (f, s) ∧ noX f = true ∧ P f s
def wpA (o : Option RD) (P : D → Prop) : Prop := ∃ d, o = some (.ok d) ∧ P d
@[simp] theorem w_ok {α : Type} (v : α) (M : List O) (P : α → List O → Prop) : wpB (some (.ok v M)) P ↔ P v M := ⟨fun ⟨_, _, e, h⟩ => by cases e; exact h, fun h => ⟨_, _, rfl, h⟩⟩
@[simp] theorem w_no {α : Type} (P : α → List O → Prop) : wpB none P ↔ False := ⟨fun ⟨_, _, e, h⟩ => (by cases e), fun h => False.elim h⟩
@[simp] theorem w_bnd {α γ : Type} (m : Mi α) (k : α → Mi γ) (s : S) (P : γ → List O → Prop) : wpB (bnd m k s) P ↔ wpB (m s) fun v M => wpB (k v ⟨s.l, M⟩) P := by
  constructor
  · rintro ⟨v, M, e, h⟩
    unfold bnd at e
    cases q : m s with
    | none => rw [q] at e; cases e
    | some r =>
      rw [q] at e
      cases r with
      | ok a M1 => exact ⟨a, M1, rfl, v, M, e, h⟩
      | ex c f M1 => cases e
  · rintro ⟨a, M1, e, v, M, e2, h⟩
    exact ⟨v, M, by unfold bnd; rw [e]; exact e2, h⟩
@[simp] theorem w_sok (f : Fl) (s : S) (P : Fl → S → Prop) : wpS (some (f, s)) P ↔ noX f = true ∧ P f s := ⟨fun ⟨_, _, e, h⟩ => by cases e; exact h, fun h => ⟨_, _, rfl, h⟩⟩
@[simp] theorem w_sno (P : Fl → S → Prop) : wpS none P ↔ False := ⟨fun ⟨_, _, e, h⟩ => (by cases e), fun h => False.elim h⟩
@[simp] theorem noX1 : noX .nx = true := rfl
@[simp] theorem noX2 (v : DV) : noX (.rt v) = true := rfl
@[simp] theorem noX3 : noX .bk = true := rfl
@[simp] theorem noX4 : noX .ct = true := rfl
/-- what follows a statement -/
def andS (b : SM) (P : Fl → S → Prop) : Fl → S → Prop
  | .nx, s => wpS (b s) P
  | f, s => P f s
@[simp] theorem w_andN (b : SM) (P : Fl → S → Prop) (s : S) : andS b P .nx s = wpS (b s) P := rfl
@[simp] theorem w_andR (b : SM) (P : Fl → S → Prop) (v : DV) (s : S) : andS b P (.rt v) s = P (.rt v) s := rfl
@[simp] theorem w_seq (a b : SM) (s : S) (P : Fl → S → Prop) : wpS (sSeq a b s) P ↔ wpS (a s) (andS b P) := by
  constructor
  · rintro ⟨f, s', e, n, h⟩
    unfold sSeq at e
    cases q : a s with
    | none => rw [q] at e; cases e
    | some r =>
      rw [q] at e
      obtain ⟨f1, s1⟩ := r
      refine ⟨f1, s1, rfl, ?_⟩
      cases f1 with
      | nx => exact ⟨rfl, f, s', e, n, h⟩
      | _ => cases e; exact ⟨n, h⟩
  · rintro ⟨f1, s1, e, n, h⟩
    cases f1 with
    | nx =>
      obtain ⟨f, s', e2, n, h⟩ := h
      exact ⟨f, s', by unfold sSeq; rw [e]; exact e2, n, h⟩
    | _ => exact ⟨_, s1, by unfold sSeq; rw [e], n, h⟩
@[simp] theorem w_lift {α : Type} (m : Mi α) (k : α → SM) (s : S) (P : Fl → S → Prop) : wpS (liftS m k s) P ↔ wpB (m s) fun v M => wpS (k v ⟨s.l, M⟩) P := by
  constructor
  · rintro ⟨f, s', e, n, h⟩
    unfold liftS at e
    cases q : m s with
    | none => rw [q] at e; cases e
    | some r =>
      rw [q] at e
      cases r with
      | ok a M1 => exact ⟨a, M1, rfl, f, s', e, n, h⟩
      | ex c f M1 => cases e; cases n
  · rintro ⟨a, M1, e, f, s', e2, n, h⟩
    exact ⟨f, s', by unfold liftS; rw [e]; exact e2, n, h⟩
def endB (k : Nat) (P : DV → List O → Prop) : Fl → S → Prop
  | .nx, s => P (.p .non) (dropM k (.p .non) s.m)
  | .rt d, s => P d (dropM k d s.m)
  | _, _ => False
@[simp] theorem w_endBn (k : Nat) (P : DV → List O → Prop) (s : S) : endB k P .nx s = P (.p .non) (dropM k (.p .non) s.m) := rfl
@[simp] theorem w_endBr (k : Nat) (P : DV → List O → Prop) (d : DV) (s : S) : endB k P (.rt d) s = P d (dropM k d s.m) := rfl
@[simp] theorem w_runB (n : Nat) (m : SM) (ds : List DV) (M : List O) (P : DV → List O → Prop) : wpB (runB n m ds M) P ↔ wpS (m ⟨slotsOf n ds, M⟩) (endB M.length P) := by
  constructor
  · rintro ⟨v, M1, e, h⟩
    rw [e_runB] at e
    cases q : m ⟨slotsOf n ds, M⟩ with
    | none => rw [q] at e; cases e
    | some r =>
      rw [q] at e
      obtain ⟨f1, s1⟩ := r
      cases f1 with
      | nx => cases e; exact ⟨_, _, rfl, rfl, h⟩
      | rt d => cases e; exact ⟨_, _, rfl, rfl, h⟩
      | _ => cases e
  · rintro ⟨f1, s1, e, n, h⟩
    cases f1 with
    | nx => exact ⟨_, _, by rw [e_runB, e], h⟩
    | rt d => exact ⟨_, _, by rw [e_runB, e], h⟩
    | _ => exact False.elim h
def endA (P : D → Prop) : Fl → S → Prop
  | .nx, s => P .non
  | .rt (.p d), s => P d
  | _, _ => False
@[simp] theorem w_endAn (P : D → Prop) (s : S) : endA P .nx s = P .non := rfl
@[simp] theorem w_endAr (P : D → Prop) (d : D) (s : S) : endA P (.rt (.p d)) s = P d := rfl
@[simp] theorem w_runA (n : Nat) (m : SM) (ds : List D) (P : D → Prop) : wpA (runA n m ds) P ↔ wpS (m ⟨slotsOf n (ds.map .p), []⟩) (endA P) := by
  constructor
  · rintro ⟨v, e, h⟩
    rw [e_runA] at e
    cases q : m ⟨slotsOf n (ds.map .p), []⟩ with
    | none => rw [q] at e; cases e
    | some r =>
      rw [q] at e
      obtain ⟨f1, s1⟩ := r
      cases f1 with
      | nx => cases e; exact ⟨_, _, rfl, rfl, h⟩
      | rt d =>
        cases d with
        | p d => cases e; exact ⟨_, _, rfl, rfl, h⟩
        | o n => cases e
      | _ => cases e
  · rintro ⟨f1, s1, e, n, h⟩
    cases f1 with
    | nx => exact ⟨_, by rw [e_runA, e], h⟩
    | rt d =>
      cases d with
      | p d => exact ⟨_, by rw [e_runA, e], h⟩
      | o n => exact False.elim h
    | _ => exact False.elim h
@[simp] theorem w_ifM {γ : Type} (n k : Mi γ) (b : Bool) (s : S) (P : γ → List O → Prop) : wpB (ifM n k (.p (.bl b)) s) P ↔ (b = true → wpB (n s) P) ∧ (b = false → wpB (k s) P) := by
  cases b
  · exact ⟨fun h => ⟨fun q => (by cases q), fun _ => h⟩, fun h => h.2 rfl⟩
  · exact ⟨fun h => ⟨fun _ => h, fun q => (by cases q)⟩, fun h => h.1 rfl⟩
@[simp] theorem w_ifS (n k : SM) (b : Bool) (s : S) (P : Fl → S → Prop) : wpS (ifS n k (.p (.bl b)) s) P ↔ (b = true → wpS (n s) P) ∧ (b = false → wpS (k s) P) := by
  cases b
  · exact ⟨fun h => ⟨fun q => (by cases q), fun _ => h⟩, fun h => h.2 rfl⟩
  · exact ⟨fun h => ⟨fun _ => h, fun q => (by cases q)⟩, fun h => h.1 rfl⟩
@[simp] theorem w_okA (d : D) (P : D → Prop) : wpA (some (.ok d)) P ↔ P d := ⟨fun ⟨_, e, h⟩ => by cases e; exact h, fun h => ⟨_, rfl, h⟩⟩
theorem wpB.imp {α : Type} {o : Option (Rs α)} {P Q : α → List O → Prop} (h : wpB o P) (k : ∀ v M, P v M → Q v M) : wpB o Q := by
  obtain ⟨v, M, e, p⟩ := h
  exact ⟨v, M, e, k v M p⟩
theorem wpA.imp {o : Option RD} {P Q : D → Prop} (h : wpA o P) (k : ∀ v, P v → Q v) : wpA o Q := by
  obtain ⟨v, e, p⟩ := h
  exact ⟨v, e, k v p⟩
theorem wpA.eq {o : Option RD} {d : D} (h : wpA o (· = d)) : o = some (.ok d) := by
  obtain ⟨v, e, p⟩ := h
  rw [e, p]
/-- a drawn number -/
theorem wp_take {n : Nat} {sv : DV} {M : List O} {most : Int} {P : DV → List O → Prop} (h : Dr n sv M) (hm : most < 18446744073709551616) (k : ∀ r M', Dr n sv M' → (most < 1 → r = 0) → (1 ≤ most → 0 ≤ r ∧ r < most) → P (.p (.int r)) M') : wpB (takeM [sv, .p (.int most)] M) P := by
  obtain ⟨r, M', e, d, b0, b⟩ := take_spec h most hm
  exact ⟨_, _, e, k r M' d b0 b⟩
end DL
namespace DL
open PySem L2
/-! texts that are written; comparing tuples -/
theorem char_inj {a b : Char} (h : a.toNat = b.toNat) : a = b := Char.toNat_inj.mp h
theorem map_toNat_inj : ∀ {a b : List Char}, a.map Char.toNat = b.map Char.toNat → a = b
  | [], [], _ => rfl
  | [], _ :: _, h => by cases h
  | _ :: _, [], h => by cases h
  | x :: a, y :: b, h => by
    injection h with h1 h2
    rw [char_inj h1, map_toNat_inj h2]
@[simp] theorem ofString_inj (a b : String) : (Str.ofString a = Str.ofString b) ↔ a = b := by
  constructor
  · intro h
    rw [Str.ofString_eq_toList, Str.ofString_eq_toList] at h
    injection h with h
    have h2 := congrArg Array.toList h
    exact String.toList_inj.mp (map_toNat_inj h2)
  · intro h; rw [h]
@[simp] theorem strOk_of (s : String) : PyData.strOk (Str.ofString s) = true := by
  rw [Str.ofString_eq_toList]
  unfold PyData.strOk
  rw [Array.all_eq_true]
  intro i hi
  simp
  have h := (s.toList[i]'(by simpa using hi)).valid
  rcases h with h | h
  · exact Nat.lt_of_lt_of_le h (by decide)
  · exact h.2
@[simp] theorem e_okN : okD .non = true := rfl
@[simp] theorem e_okI (i : Int) : okD (.int i) = true := rfl
@[simp] theorem e_okB (i : Bool) : okD (.bl i) = true := rfl
@[simp] theorem e_okS (i : Str) : okD (.str i) = PyData.strOk i := rfl
@[simp] theorem e_okL (i : List D) : okD (.lst i) = okDs i := rfl
@[simp] theorem e_okT (i : List D) : okD (.tup i) = okDs i := rfl
@[simp] theorem e_ok0 : okDs [] = true := rfl
@[simp] theorem e_ok1 (x : D) (r : List D) : okDs (x :: r) = (okD x && okDs r) := rfl
@[simp] theorem e_dpN : depD .non = 0 := rfl
@[simp] theorem e_dpI (i : Int) : depD (.int i) = 0 := rfl
@[simp] theorem e_dpB (i : Bool) : depD (.bl i) = 0 := rfl
@[simp] theorem e_dpS (i : Str) : depD (.str i) = 0 := rfl
@[simp] theorem e_dpL (i : List D) : depD (.lst i) = depDs i + 1 := rfl
@[simp] theorem e_dpT (i : List D) : depD (.tup i) = depDs i + 1 := rfl
@[simp] theorem e_dp0 : depDs [] = 0 := rfl
@[simp] theorem e_dp1 (x : D) (r : List D) : depDs (x :: r) = max (depD x) (depDs r) := rfl
@[simp] theorem e_shp (d : D) : shp d = (okD d && decide (depD d ≤ 64)) := rfl
@[simp] theorem e_eqTT (xs ys : List D) : eqD (.tup xs) (.tup ys) = if (shp (.tup xs) && shp (.tup ys)) = true then some (deqs xs ys) else none := rfl
@[simp] theorem e_eqLL (xs ys : List D) : eqD (.lst xs) (.lst ys) = if (shp (.lst xs) && shp (.lst ys)) = true then some (deqs xs ys) else none := rfl
@[simp] theorem e_eqTN (xs : List D) : eqD (.tup xs) .non = if (shp (.tup xs) && shp .non) = true then some false else none := rfl
@[simp] theorem e_eqNT (xs : List D) : eqD .non (.tup xs) = if (shp .non && shp (.tup xs)) = true then some false else none := rfl
@[simp] theorem e_deqII (i j : Int) : deq (.int i) (.int j) = decide (i = j) := by show (i == j) = _; rw [Bool.beq_eq_decide_eq]
@[simp] theorem e_deqSS (i j : Str) : deq (.str i) (.str j) = decide (i = j) := by
  show (i == j) = _
  by_cases h : i = j <;> simp [h]
@[simp] theorem e_deqBB (i j : Bool) : deq (.bl i) (.bl j) = decide (i = j) := by show (i == j) = _; rw [Bool.beq_eq_decide_eq]
@[simp] theorem e_deqNN : deq .non .non = true := rfl
@[simp] theorem e_deqTT (i j : List D) : deq (.tup i) (.tup j) = deqs i j := rfl
@[simp] theorem e_deqLL (i j : List D) : deq (.lst i) (.lst j) = deqs i j := rfl
@[simp] theorem e_deqIS (i : Int) (j : Str) : deq (.int i) (.str j) = false := rfl
@[simp] theorem e_deqSI (i : Int) (j : Str) : deq (.str j) (.int i) = false := rfl
@[simp] theorem e_deqNI (i : Int) : deq .non (.int i) = false := rfl
@[simp] theorem e_deqIN (i : Int) : deq (.int i) .non = false := rfl
@[simp] theorem e_deqNS (i : Str) : deq .non (.str i) = false := rfl
@[simp] theorem e_deqSN (i : Str) : deq (.str i) .non = false := rfl
@[simp] theorem e_deqNT (i : List D) : deq .non (.tup i) = false := rfl
@[simp] theorem e_deqTN (i : List D) : deq (.tup i) .non = false := rfl
@[simp] theorem e_deqs0 : deqs [] [] = true := rfl
@[simp] theorem e_deqs1 (x y : D) (xs ys : List D) : deqs (x :: xs) (y :: ys) = (deq x y && deqs xs ys) := rfl
@[simp] theorem e_deqs2 (x : D) (xs : List D) : deqs (x :: xs) [] = false := rfl
@[simp] theorem e_deqs3 (x : D) (xs : List D) : deqs [] (x :: xs) = false := rfl
@[simp] theorem e_isi (M : List O) (d : D) (n : String) : dIsi M [.p d, .p (.ty n)] = (match tyName d with | some t => (kitB t n).map .bl | none => none) := rfl
@[simp] theorem e_tyT (xs : List D) : tyName (.tup xs) = some "tuple" := rfl
@[simp] theorem kit_tt : kitB "tuple" "tuple" = some true := by decide +kernel
@[simp] theorem at0 {α : Type} (x : α) (xs : List α) : atI (x :: xs) 0 = some x := atI0 x xs
@[simp] theorem at1 {α : Type} (x y : α) (xs : List α) : atI (x :: y :: xs) 1 = some y := atI1 x y xs
end DL
namespace DL
open PySem L2
section
variable {K : PySem.W.Frag} {X : Cx} {W : WX} {e a b c : Expr} {es : List Expr} {pos : Pos}
/-! ### built-in calls on texts -/
def dStr : D → Option D
  | .int i => if i.natAbs.log2 < 1920 then some (.str (Str.ofString (toString i))) else none
  | .str x => some (.str x)
  | _ => none
theorem cd_str : CallD K X (.type "str") (fun xs H Q => (∃ i : Int, xs = [.int i] ∧ i.natAbs.log2 < 1920 ∧ Q (.str (toString i)) H) ∨ ∃ a, xs = [.str a] ∧ Q (.str a) H) (g1 dStr) := ⟨fun _ pins s σ H vs us Q I r h => by
    rcases h with h | h
    · exact call_str_int pins s σ H vs us Q I r h
    · exact SkE.call_str_str pins s σ H vs us Q I r h, g1_ok fun x d c Z H Q s hx hg p => by
  unfold dStr at hg
  split at hg
  · split at hg
    · rename_i hl
      cases hx; cases hg; exact .inl ⟨_, rfl, hl, p _ Z H (ExtP.refl s) (.str _)⟩
    · cases hg
  · cases hx; cases hg; exact .inr ⟨_, rfl, p _ Z H (ExtP.refl s) (.str _)⟩
  · cases hg⟩
def dIntS : D → Option D
  | .str x => if x.length ≤ 640 then (PySem.intText? x).map .int else none
  | _ => none
theorem cd_intS : CallD K X (.type "int") (fun xs H Q => ∃ a n, xs = [.str a] ∧ PySem.intText? a = some n ∧ a.length ≤ 640 ∧ Q (.int n) H) (g1 dIntS) := ⟨fun _ => call_int_str, g1_ok fun x d c Z H Q s hx hg p => by
  unfold dIntS at hg
  split at hg
  · rename_i y
    split at hg
    · rename_i hl
      cases q : PySem.intText? y with
      | none => rw [q] at hg; cases hg
      | some n => rw [q] at hg; cases hg; cases hx; exact ⟨_, _, rfl, q, hl, p _ Z H (ExtP.refl s) (.int _)⟩
    · cases hg
  · cases hg⟩
def allBl : List D → Option (List Bool)
  | [] => some []
  | .bl b :: r => (allBl r).map (b :: ·)
  | _ :: _ => none
theorem allBl_rep {Z : Hp} : ∀ {vs : List V} {ds : List D} {bs : List Bool}, RepA K Z vs ds → allBl ds = some bs → vs = bs.map V.bl
  | _, _, _, .nil, e => by cases e; rfl
  | _, _, _, .cons (d := d) (ds := ds) h r, e => by
    cases h with
    | bl b =>
      have e : (allBl ds).map (b :: ·) = some _ := e
      cases q : allBl ds with
      | none => rw [q] at e; cases e
      | some bs => rw [q] at e; cases e; rw [allBl_rep r q]; rfl
    | _ => cases e
def dAll : D → Option D
  | .lst ds => (allBl ds).map fun bs => .bl (bs.all id)
  | _ => none
def dAny : D → Option D
  | .lst ds => (allBl ds).map fun bs => .bl (bs.any id)
  | _ => none
theorem cd_all (hc : X.calm = true) : CallD K X (.builtin "all") (rAll K) (g1 dAll) := ⟨fun k => by rw [← k]; exact cr_all hc, g1_ok fun x d c Z H Q s hx hg p => by
  unfold dAll at hg
  split at hg
  · rename_i ds
    cases q : allBl ds with
    | none => rw [q] at hg; cases hg
    | some bs =>
      rw [q] at hg; cases hg
      cases hx with
      | lst h1 h2 => exact ⟨_, bs, rfl, by rw [← allBl_rep h2 q]; exact .inl (same_rd s h1), p _ Z H (ExtP.refl s) (.bl _)⟩
  · cases hg⟩
theorem cd_any (hc : X.calm = true) : CallD K X (.builtin "any") (rAny K) (g1 dAny) := ⟨fun k => by rw [← k]; exact cr_any hc, g1_ok fun x d c Z H Q s hx hg p => by
  unfold dAny at hg
  split at hg
  · rename_i ds
    cases q : allBl ds with
    | none => rw [q] at hg; cases hg
    | some bs =>
      rw [q] at hg; cases hg
      cases hx with
      | lst h1 h2 => exact ⟨_, bs, rfl, by rw [← allBl_rep h2 q]; exact .inl (same_rd s h1), p _ Z H (ExtP.refl s) (.bl _)⟩
  · cases hg⟩
def dMax2 : List O → List DV → Option D
  | _, [.p (.int i), .p (.int j)] => some (.int (if j > i then j else i))
  | _, _ => none
def dMin2 : List O → List DV → Option D
  | _, [.p (.int i), .p (.int j)] => some (.int (if j < i then j else i))
  | _, _ => none
theorem cd_max2 (hc : X.calm = true) : CallD K X (.builtin "max") (fun xs H Q => ∃ i j, xs = [.int i, .int j] ∧ Q (.int (if j > i then j else i)) H) dMax2 := ⟨fun _ => call_max2 hc, fun vs ds c Z H I M Q w rv hg p => by
  unfold dMax2 at hg
  split at hg
  · cases rv with
    | cons h1 h2 =>
    cases h2 with
    | cons h2 h3 =>
    cases h3; cases h1; cases h2; cases hg
    exact ⟨_, _, rfl, p _ Z H (ExtP.refl w.sub) (.int _)⟩
  · cases hg⟩
theorem cd_min2 (hc : X.calm = true) : CallD K X (.builtin "min") (fun xs H Q => ∃ i j, xs = [.int i, .int j] ∧ Q (.int (if j < i then j else i)) H) dMin2 := ⟨fun _ => call_min2 hc, fun vs ds c Z H I M Q w rv hg p => by
  unfold dMin2 at hg
  split at hg
  · cases rv with
    | cons h1 h2 =>
    cases h2 with
    | cons h2 h3 =>
    cases h3; cases h1; cases h2; cases hg
    exact ⟨_, _, rfl, p _ Z H (ExtP.refl w.sub) (.int _)⟩
  · cases hg⟩
/-! ### in, not in -/
theorem units65 {k : Nat} {A : Around} (r : Room k A) : A.units + 65 < cLine := by have := r.un; omega
def inS (i j : Str) : Bool := !(Builtin.Str.occurrences j i 0 j.length 1).isEmpty
def inD : D → D → Option Bool
  | .str i, .str j => some (inS i j)
  | d, .lst ds => if (shp d && shp (.lst ds)) = true then some (ds.any fun z => deq z d) else none
  | d, .klst ds => if (shp d && shp (.klst ds)) = true then some (ds.any fun z => deq z d) else none
  | d, .tup ds => if (shp d && shp (.tup ds)) = true then some (ds.any fun z => deq z d) else none
  | d, .ktup ds => if (shp d && shp (.ktup ds)) = true then some (ds.any fun z => deq z d) else none
  | _, _ => none
def dIn (d e : D) : Option D := (inD d e).map .bl
def dNin (d e : D) : Option D := (inD d e).map fun b => .bl !b
theorem bool_dIn : boolD dIn := fun d e c h => boolMap (f := id) h
theorem bool_dNin : boolD dNin := fun d e c h => boolMap h
theorem any_eqv (d : D) : ∀ ds : List D, ((toPs ds).any fun z => PyData.eqv z (toP d)) = ds.any fun z => deq z d
  | [] => rfl
  | x :: xs => by
    show (PyData.eqv (toP x) (toP d) || _) = (deq x d || _)
    rw [deq_eqv x d]
    exact congrArg _ (any_eqv d xs)
theorem in_cases {d e : D} {b : Bool} (h : inD d e = some b) : (∃ i j, d = .str i ∧ e = .str j ∧ b = inS i j) ∨ ∃ ds, (e = .lst ds ∨ e = .klst ds ∨ e = .tup ds ∨ e = .ktup ds) ∧ shp d = true ∧ shp e = true ∧ b = ds.any fun z => deq z d := by
  unfold inD at h
  split at h
  · cases h; exact .inl ⟨_, _, rfl, rfl, rfl⟩
  · split at h
    · rename_i hs
      cases h
      rw [Bool.and_eq_true] at hs
      exact .inr ⟨_, .inl rfl, hs.1, hs.2, rfl⟩
    · cases h
  · split at h
    · rename_i hs
      cases h
      rw [Bool.and_eq_true] at hs
      exact .inr ⟨_, .inr (.inl rfl), hs.1, hs.2, rfl⟩
    · cases h
  · split at h
    · rename_i hs
      cases h
      rw [Bool.and_eq_true] at hs
      exact .inr ⟨_, .inr (.inr (.inl rfl)), hs.1, hs.2, rfl⟩
    · cases h
  · split at h
    · rename_i hs
      cases h
      rw [Bool.and_eq_true] at hs
      exact .inr ⟨_, .inr (.inr (.inr rfl)), hs.1, hs.2, rfl⟩
    · cases h
  · cases h
/-- x in a list or a tuple of data -/
def rInD2 (K : PySem.W.Frag) (neg : Bool) : R2 := fun x y H Q => ∃ d e ds, Dp K H x d ∧ Dp K H y e ∧ SeqAt.shaped d = true ∧ SeqAt.shaped e = true ∧ (e = .list ds ∨ e = .tuple ds) ∧ Q (.bl (if neg then !(ds.any fun z => PyData.eqv z d) else ds.any fun z => PyData.eqv z d)) H
theorem op_inD2 (hu : X.A.units + 65 < cLine) : OpR X (compareOp .In) (rInD2 X.K false) := by
  intro pins s σ H x y v u Q I rx ry h
  obtain ⟨d, e, ds, hd, he, sd, se, hl, q⟩ := h
  obtain ⟨as, r1⟩ := Dp.reads I d x v hd rx
  obtain ⟨bs, r2⟩ := Dp.reads I e y u he ry
  rcases hl with rfl | rfl
  · exact SeqAt.in_list_reads r2 r1 (SeqAt.canLay_of_shaped se) (SeqAt.canLay_of_shaped sd) (PyProof.Rows.room_in_shaped sd hu) ⟨.bl _, H, I, rfl, q⟩
  · exact SeqAt.in_tuple_reads r2 r1 (SeqAt.canLay_of_shaped se) (SeqAt.canLay_of_shaped sd) (PyProof.Rows.room_in_shaped sd hu) ⟨.bl _, H, I, rfl, q⟩
theorem op_ninD2 (hu : X.A.units + 65 < cLine) : OpR X (compareOp .NotIn) (rInD2 X.K true) := by
  intro pins s σ H x y v u Q I rx ry h
  obtain ⟨d, e, ds, hd, he, sd, se, hl, q⟩ := h
  obtain ⟨as, r1⟩ := Dp.reads I d x v hd rx
  obtain ⟨bs, r2⟩ := Dp.reads I e y u he ry
  rcases hl with rfl | rfl
  · exact SeqAt.notIn_list_reads r2 r1 (SeqAt.canLay_of_shaped se) (SeqAt.canLay_of_shaped sd) (PyProof.Rows.room_in_shaped sd hu) ⟨.bl _, H, I, rfl, q⟩
  · exact SeqAt.notIn_tuple_reads r2 r1 (SeqAt.canLay_of_shaped se) (SeqAt.canLay_of_shaped sd) (PyProof.Rows.room_in_shaped sd hu) ⟨.bl _, H, I, rfl, q⟩
theorem in_dp {K : PySem.W.Frag} {Z H : Hp} {x y : V} {d e : D} {ds : List D} (s : Same Z H) (hx : Rep K Z x d) (hy : Rep K Z y e) (hl : e = .lst ds ∨ e = .klst ds ∨ e = .tup ds ∨ e = .ktup ds) (h1 : shp d = true) (h2 : shp e = true) : ∃ d' e' ds', Dp K H x d' ∧ Dp K H y e' ∧ SeqAt.shaped d' = true ∧ SeqAt.shaped e' = true ∧ (e' = .list ds' ∨ e' = .tuple ds') ∧ (ds'.any fun z => PyData.eqv z d') = ds.any fun z => deq z d := by
  refine ⟨toP d, toP e, toPs ds, hx.dp s (shaped_can h1), hy.dp s (shaped_can h2), shp_ok h1, shp_ok h2, ?_, any_eqv d ds⟩
  rcases hl with rfl | rfl | rfl | rfl
  · exact .inl rfl
  · exact .inl rfl
  · exact .inr rfl
  · exact .inr rfl
theorem od_in (hu : X.A.units + 65 < cLine) : OpD K X (compareOp .In) (fun x y H Q => (∃ i j, x = .str i ∧ y = .str j ∧ Q (.bl (!(Builtin.Str.occurrences j i 0 j.length 1).isEmpty)) H) ∨ rInD2 K false x y H Q) dIn where
  op := fun k pins s σ H x y v u Q I rx ry h => by
    subst k
    rcases h with h | h
    · exact op_in_str pins s σ H x y v u Q I rx ry h
    · exact op_inD2 hu pins s σ H x y v u Q I rx ry h
  ok := by
    intro x y d e c Z H Q s hx hy hg p
    unfold dIn at hg
    cases z : inD d e with
    | none => rw [z] at hg; cases hg
    | some b =>
      rw [z] at hg; cases hg
      rcases in_cases z with ⟨i, j, rfl, rfl, rfl⟩ | ⟨ds, hl, h1, h2, rfl⟩
      · cases hx; cases hy
        exact .inl ⟨_, _, rfl, rfl, p _ Z H (ExtP.refl s) (.bl _)⟩
      · obtain ⟨d', e', ds', a1, a2, a3, a4, a5, a6⟩ := in_dp s hx hy hl h1 h2
        exact .inr ⟨d', e', ds', a1, a2, a3, a4, a5, by rw [a6]; exact p _ Z H (ExtP.refl s) (.bl _)⟩
theorem od_nin (hu : X.A.units + 65 < cLine) : OpD K X (compareOp .NotIn) (fun x y H Q => (∃ i j, x = .str i ∧ y = .str j ∧ Q (.bl (!(!(Builtin.Str.occurrences j i 0 j.length 1).isEmpty))) H) ∨ rInD2 K true x y H Q) dNin where
  op := fun k pins s σ H x y v u Q I rx ry h => by
    subst k
    rcases h with h | h
    · exact op_notin_str pins s σ H x y v u Q I rx ry h
    · exact op_ninD2 hu pins s σ H x y v u Q I rx ry h
  ok := by
    intro x y d e c Z H Q s hx hy hg p
    unfold dNin at hg
    cases z : inD d e with
    | none => rw [z] at hg; cases hg
    | some b =>
      rw [z] at hg; cases hg
      rcases in_cases z with ⟨i, j, rfl, rfl, rfl⟩ | ⟨ds, hl, h1, h2, rfl⟩
      · cases hx; cases hy
        exact .inl ⟨_, _, rfl, rfl, p _ Z H (ExtP.refl s) (.bl _)⟩
      · obtain ⟨d', e', ds', a1, a2, a3, a4, a5, a6⟩ := in_dp s hx hy hl h1 h2
        exact .inr ⟨d', e', ds', a1, a2, a3, a4, a5, by rw [a6]; exact p _ Z H (ExtP.refl s) (.bl _)⟩
/-! ### a text times an int -/
def repS (x : Str) (n : Int) : Str := if n < 1 then Str.empty else if (n == 1 || x.length == 0) = true then x else ⟨(List.replicate n.toNat x.cps).foldl (· ++ ·) #[]⟩
def dMulS : D → D → Option D
  | .str x, .int n => if x.length = 1 ∧ -1000 ≤ n ∧ n ≤ 1000 then some (.str (repS x n)) else none
  | _, _ => none
theorem foldl_size (x : Array Nat) : ∀ (n : Nat) (acc : Array Nat), ((List.replicate n x).foldl (· ++ ·) acc).size = acc.size + n * x.size
  | 0, acc => by simp
  | n + 1, acc => by
    rw [List.replicate_succ, List.foldl_cons, foldl_size x n, Array.size_append, Nat.succ_mul]; omega
theorem od_mulS : OpD K X (binaryOp .Mult) (fun x y H Q => ∃ (z : Str) (n : Int), x = .str z ∧ y = .int n ∧ z.length = 1 ∧ -1000 ≤ n ∧ n ≤ 1000 ∧ Q (.str (repS z n)) H) dMulS where
  op := fun _ pins s σ H x y v u Q I rx ry h => by
    obtain ⟨z, n, rfl, rfl, hl, h1, h2, q⟩ := h
    obtain ⟨t, rfl⟩ := rx
    obtain ⟨t', rfl⟩ := ry
    refine PySem.P.mul_str ?_ ?_ ?_ ?_
    · have a1 : ¬ n < -(2 ^ 63 : Int) := by omega
      have a2 : ¬ n ≥ 2 ^ 63 := by omega
      rw [decide_eq_false a1, decide_eq_false a2]; rfl
    · intro a1 a2 a3
      rw [hl] at a3
      have b1 : (1 : Int) * n ≤ 2 ^ 63 - 1 := by omega
      have b2 := (Int.le_ediv_iff_mul_le (a := 1) (b := (2 ^ 63 - 1 : Int)) (by omega : 0 < n)).mpr b1
      exact absurd a3 (by show ¬ ((1 : Nat) : Int) > _; omega)
    · intro a1 a2
      rw [hl, Nat.one_mul]
      unfold PySem.Builtin.Str.tooLong
      exact decide_eq_false (by have : n.toNat ≤ 1000 := by omega
                                have : (1000 : Nat) ≤ sizeLine := by decide
                                omega)
    · unfold repS at q
      by_cases c1 : n < 1
      · rw [if_pos c1] at q ⊢
        exact ⟨by decide, .str _, H, I.tok _, ⟨_, rfl⟩, q⟩
      · rw [if_neg c1] at q ⊢
        split
        · rename_i c2; rw [if_pos c2] at q; exact ⟨.str _, H, I, ⟨_, rfl⟩, q⟩
        · rename_i c2; rw [if_neg c2] at q
          refine ⟨?_, .str _, H, I.tok _, ⟨_, rfl⟩, q⟩
          show Array.size _ ≤ _
          rw [foldl_size]
          have e1 : z.cps.size = 1 := hl
          have : (1000 : Nat) ≤ sizeLine := by decide
          rw [e1]; simp; omega
  ok := by
    intro x y d e c Z H Q s hx hy hg p
    unfold dMulS at hg
    split at hg
    · split at hg
      · rename_i hl
        cases hx; cases hy; cases hg
        exact ⟨_, _, rfl, rfl, hl.1, hl.2.1, hl.2.2, p _ Z H (ExtP.refl s) (.str _)⟩
      · cases hg
    · cases hg
/-! ### methods of texts -/
def dZfill : D → List D → Option D
  | .str x, [.int i] => if PadOk i = true then some (.str (Txt.zfill x i)) else none
  | _, _ => none
theorem repA1 {Z : Hp} {vs : List V} {d : D} (h : RepA K Z vs [d]) : ∃ v, vs = [v] ∧ Rep K Z v d := by
  cases h with
  | cons h1 h2 => cases h2; exact ⟨_, rfl, h1⟩
theorem repA2 {Z : Hp} {vs : List V} {d e : D} (h : RepA K Z vs [d, e]) : ∃ v u, vs = [v, u] ∧ Rep K Z v d ∧ Rep K Z u e := by
  cases h with
  | cons h1 h2 =>
    obtain ⟨u, rfl, h3⟩ := repA1 h2
    exact ⟨_, _, rfl, h1, h3⟩
theorem md_zfill : MthD K X "str.zfill" (fun x xs H Q => ∃ (a : Str) (i : Int), x = .str a ∧ xs = [.int i] ∧ PadOk i = true ∧ Q (.str (Txt.zfill a i)) H) (gP dZfill) := ⟨fun _ => mt_zfill, gP_ok fun x d vs ds c Z H Q s hx hv hg p => by
  unfold dZfill at hg
  split at hg
  · split at hg
    · rename_i hp
      obtain ⟨v, rfl, h1⟩ := repA1 hv
      cases hx; cases h1; cases hg
      exact ⟨_, _, rfl, rfl, hp, p _ Z H (ExtP.refl s) (.str _)⟩
    · cases hg
  · cases hg⟩
def dRstrip : D → List D → Option D
  | .str x, [.str y] => if x.length ≤ 1000000 then some (.str (Txt.rstripChars x y)) else none
  | _, _ => none
theorem md_rstrip : MthD K X "str.rstrip" (fun x xs H Q => ∃ a b, x = .str a ∧ xs = [.str b] ∧ a.length ≤ sizeLine ∧ Q (.str (Txt.rstripChars a b)) H) (gP dRstrip) := ⟨fun _ => mt_rstripChars, gP_ok fun x d vs ds c Z H Q s hx hv hg p => by
  unfold dRstrip at hg
  split at hg
  · split at hg
    · rename_i hp
      obtain ⟨v, rfl, h1⟩ := repA1 hv
      cases hx; cases h1; cases hg
      exact ⟨_, _, rfl, rfl, size_le hp, p _ Z H (ExtP.refl s) (.str _)⟩
    · cases hg
  · cases hg⟩
def dRmpre : D → List D → Option D
  | .str x, [.str y] => if x.length ≤ 1000000 then some (.str (Txt.removeprefix x y)) else none
  | _, _ => none
theorem md_rmpre : MthD K X "str.removeprefix" (fun x xs H Q => ∃ a b, x = .str a ∧ xs = [.str b] ∧ a.length ≤ sizeLine ∧ Q (.str (Txt.removeprefix a b)) H) (gP dRmpre) := ⟨fun _ => mt_removeprefix, gP_ok fun x d vs ds c Z H Q s hx hv hg p => by
  unfold dRmpre at hg
  split at hg
  · split at hg
    · rename_i hp
      obtain ⟨v, rfl, h1⟩ := repA1 hv
      cases hx; cases h1; cases hg
      exact ⟨_, _, rfl, rfl, size_le hp, p _ Z H (ExtP.refl s) (.str _)⟩
    · cases hg
  · cases hg⟩
def dPart : D → List D → Option D
  | .str x, [.str y] => if (y.length == 0) = false ∧ x.length ≤ 1000000 then some (.tup [.str (Txt.partition x y).1, .str (Txt.partition x y).2.1, .str (Txt.partition x y).2.2]) else none
  | _, _ => none
theorem md_part : MthD K X "str.partition" (fun x xs H Q => ∃ a b, x = .str a ∧ xs = [.str b] ∧ (b.length == 0) = false ∧ a.length ≤ sizeLine ∧
    ∀ p, H p = none → Q (.ref p) (upd H p (.tup [.str (Txt.partition a b).1, .str (Txt.partition a b).2.1, .str (Txt.partition a b).2.2]))) (gP dPart) := ⟨fun _ => mt_partition, gP_ok fun x d vs ds c Z H Q s hx hv hg p => by
  unfold dPart at hg
  split at hg
  · split at hg
    · rename_i hp
      obtain ⟨v, rfl, h1⟩ := repA1 hv
      cases hx; cases h1; cases hg
      exact ⟨_, _, rfl, rfl, hp.1, size_le hp.2, fun l hl => p _ _ _ (ExtP.new s hl) (.tup upd_same (.cons (.str _) (.cons (.str _) (.cons (.str _) .nil))))⟩
    · cases hg
  · cases hg⟩
theorem repA_strs {Z : Hp} : ∀ ys : List Str, RepA K Z (ys.map V.str) (ys.map D.str)
  | [] => .nil
  | y :: ys => .cons (.str y) (repA_strs ys)
def dSplit : D → List D → Option D
  | .str x, [.str y] => if (y.length == 0) = false ∧ x.length ≤ 1000000 then some (.lst ((Txt.split x y).map .str)) else none
  | _, _ => none
theorem md_split : MthD K X "str.split" (fun x xs H Q => ∃ a b, x = .str a ∧ xs = [.str b] ∧ (b.length == 0) = false ∧ a.length + 2 ≤ sizeLine ∧ rNewStrs (Txt.split a b) H Q) (gP dSplit) := ⟨fun _ => mt_split, gP_ok fun x d vs ds c Z H Q s hx hv hg p => by
  unfold dSplit at hg
  split at hg
  · split at hg
    · rename_i hp
      obtain ⟨v, rfl, h1⟩ := repA1 hv
      cases hx; cases h1; cases hg
      refine ⟨_, _, rfl, rfl, hp.1, ?_, fun l hl => p _ _ _ (ExtP.new s hl) (.lst (.inl upd_same) (repA_strs _))⟩
      have : (1000002 : Nat) ≤ sizeLine := by decide
      omega
    · cases hg
  · cases hg⟩
def allS : List D → Option (List Str)
  | [] => some []
  | .str x :: r => (allS r).map (x :: ·)
  | _ :: _ => none
theorem allS_rep {Z : Hp} : ∀ {vs : List V} {ds : List D} {bs : List Str}, RepA K Z vs ds → allS ds = some bs → vs = bs.map V.str
  | _, _, _, .nil, e => by cases e; rfl
  | _, _, _, .cons (d := d) (ds := ds) h r, e => by
    cases h with
    | str b =>
      have e : (allS ds).map (b :: ·) = some _ := e
      cases q : allS ds with
      | none => rw [q] at e; cases e
      | some bs => rw [q] at e; cases e; rw [allS_rep r q]; rfl
    | _ => cases e
def dJoin : D → List D → Option D
  | .str a, [.lst ds] => match allS ds with
    | some ys => if (ys.map (·.length)).sum + ys.length * a.length ≤ 16777216 then some (.str (Txt.join a ys)) else none
    | none => none
  | _, _ => none
theorem md_join : MthD K X "str.join" (fun x xs H Q => ∃ a p, ∃ ys : List Str, x = .str a ∧ xs = [.ref p] ∧ (SqL K H p (ys.map V.str) ∨ SqT K H p (ys.map V.str)) ∧
    (ys.map (·.length)).sum + ys.length * a.length ≤ 16777216 ∧ Q (.str (Txt.join a ys)) H) (gP dJoin) := ⟨fun k => by rw [← k]; exact mt_join, gP_ok fun x d vs ds c Z H Q s hx hv hg p => by
  unfold dJoin at hg
  split at hg
  · rename_i ds'
    cases q : allS ds' with
    | none => rw [q] at hg; cases hg
    | some ys =>
      rw [q] at hg
      simp only at hg
      split at hg
      · rename_i hp
        obtain ⟨v, rfl, h1⟩ := repA1 hv
        cases hx; cases hg
        cases h1 with
        | lst h1 h2 => exact ⟨_, _, ys, rfl, rfl, .inl (by rw [← allS_rep h2 q]; exact .inl (same_rd s h1)), hp, p _ Z H (ExtP.refl s) (.str _)⟩
      · cases hg
  · cases hg⟩
def dLjust : D → List D → Option D
  | .str x, [.int i, .str f] => if PadOk i = true ∧ f.length = 1 then some (.str (Txt.ljustF x i (f.cps.getD 0 0))) else none
  | _, _ => none
theorem md_ljust : MthD K X "str.ljust" (fun x xs H Q => ∃ (a : Str) (i : Int) (f : Str), x = .str a ∧ xs = [.int i, .str f] ∧ PadOk i = true ∧ f.length = 1 ∧ Q (.str (Txt.ljustF a i (f.cps.getD 0 0))) H) (gP dLjust) := ⟨fun _ pins s σ H x xs v us Q I rx rs h => by
    obtain ⟨a, i, f, rfl, rfl, hp, hf, q⟩ := h
    obtain ⟨t, rfl⟩ := rx
    cases rs with
    | cons r1 rs =>
    cases rs with
    | cons r2 rs =>
    cases rs
    obtain ⟨u, rfl⟩ := r1
    obtain ⟨z, rfl⟩ := r2
    exact PyProof.Rows.ljust_fill hp hf fun t' k => ⟨.str _, H, I.tok k, ⟨_, rfl⟩, q⟩, gP_ok fun x d vs ds c Z H Q s hx hv hg p => by
  unfold dLjust at hg
  split at hg
  · split at hg
    · rename_i hp
      obtain ⟨v, u, rfl, h1, h2⟩ := repA2 hv
      cases hx; cases h1; cases h2; cases hg
      exact ⟨_, _, _, rfl, rfl, hp.1, hp.2, p _ Z H (ExtP.refl s) (.str _)⟩
    · cases hg
  · cases hg⟩
def dIndex : D → List D → Option D
  | .str a, [.str b] => match Builtin.Str.occurrences a b 0 a.length 1 with
    | i :: _ => some (.int (i : Nat))
    | [] => none
  | _, _ => none
theorem md_index : MthD K X "str.index" (fun x xs H Q => ∃ a b i rest, x = .str a ∧ xs = [.str b] ∧ Builtin.Str.occurrences a b 0 a.length 1 = i :: rest ∧ Q (.int (i : Nat)) H) (gP dIndex) := ⟨fun _ => mt_sindex, gP_ok fun x d vs ds c Z H Q s hx hv hg p => by
  unfold dIndex at hg
  split at hg
  · rename_i a b
    cases q : Builtin.Str.occurrences a b 0 a.length 1 with
    | nil => rw [q] at hg; cases hg
    | cons i r =>
      rw [q] at hg; cases hg
      obtain ⟨v, rfl, h1⟩ := repA1 hv
      cases hx; cases h1
      exact ⟨_, _, i, r, rfl, rfl, q, p _ Z H (ExtP.refl s) (.int _)⟩
  · cases hg⟩
/-! ### f-strings -/
def dFmt : D → Option D
  | .int i => if i.natAbs.log2 < 1920 then some (.str (Str.ofString (toString i))) else none
  | .str y => if y.length ≤ 1000000 then some (.str y) else none
  | _ => none
def mFmt (m : EM) : EM := bnd m (pur fun d => ret (dFmt d))
theorem de_fmt {te : TE} {m : EM} (h : DE K X W e te m) : DE K X W (.FormattedValue e (-1) none pos) (tFmt te) (mFmt m) := ⟨h.k, pe_fmt h.pe, ⟨fun σ H s Z I r0 Q w rs e p => by
  refine h.so.bnd w rs e p.x fun d v M1 Z1 H1 I1 w1 rs1 x1 q1 e1 => ?_
  obtain ⟨d, rfl, e1⟩ := pur_ok e1
  obtain ⟨c, hc, rfl⟩ := ret_ok e1
  have p1 := PostP.of w1 (p.mono x1)
  unfold dFmt at hc
  split at hc
  · split at hc
    · rename_i hl
      cases q1; cases hc
      exact .inr ⟨_, rfl, hl, p1 _ Z1 H1 (ExtP.refl w1.sub) (.str _)⟩
    · cases hc
  · split at hc
    · rename_i hl
      cases q1; cases hc
      exact .inl ⟨_, rfl, size_le hl, p1 _ Z1 H1 (ExtP.refl w1.sub) (.str _)⟩
    · cases hc
  · cases hc⟩⟩
def RepStr (_ : Hp) (_ : List Addr) (x y : Str) : Prop := x = y
abbrev JM := Str → Mi Str
structure DJ (K : PySem.W.Frag) (X : Cx) (W : WX) (es : List Expr) (ts : List TE) (m : JM) : Prop where
  k : X.K = K
  pj : PJ X es ts
  so : ∀ acc, Sound K W RepStr (tJs ts acc) (m acc)
def jNil : JM := fun acc s => some (.ok acc s.m)
def jCons (m : EM) (r : JM) : JM := fun acc => bnd m (pur fun d => match d with
  | .str y => fun s => if acc.length + y.length ≤ 1000000 then r (acc ++ y) s else none
  | _ => fun _ => none)
theorem len_app (x y : Str) : (x ++ y).length = x.length + y.length := by
  show (x.cps ++ y.cps).size = _
  rw [Array.size_append]; rfl
theorem dj_nil (k : X.K = K := by rfl) : DJ K X W [] [] jNil := ⟨k, .nil, fun acc => ⟨fun σ H s Z I r Q w rs e p => by
  cases e; exact p acc Z H I w Ext.refl rfl⟩⟩
theorem dj_cons {te : TE} {m : EM} {ts : List TE} {r : JM} (h : DE K X W e te m) (hr : DJ K X W es ts r) : DJ K X W (e :: es) (te :: ts) (jCons m r) := ⟨h.k, .cons h.pe hr.pj, fun acc => ⟨fun σ H s Z I r0 Q w rs e p => by
  refine h.so.bnd w rs e p.x fun d v M1 Z1 H1 I1 w1 rs1 x1 q1 e1 => ?_
  obtain ⟨d, rfl, e1⟩ := pur_ok e1
  cases d with
  | str y =>
    cases q1
    have e1 : (if acc.length + y.length ≤ 1000000 then r (acc ++ y) ⟨s.l, M1⟩ else none) = some r0 := e1
    split at e1
    · rename_i hl
      refine ⟨y, rfl, by rw [len_app]; exact size_le hl, (hr.so (acc ++ y)).ok σ H1 ⟨s.l, M1⟩ Z1 I1 r0 _ w1 rs1 e1 (p.mono x1)⟩
    · cases e1
  | _ => cases e1⟩⟩
def mJoined (r : JM) : EM := bnd (r Str.empty) fun y s => some (.ok (.p (.str y)) s.m)
theorem de_joined1 {te : TE} {m : EM} (h : DE K X W e te m) : DE K X W (.JoinedStr [e] pos) te m := ⟨h.k, pe_joined1 h.pe, h.so⟩
theorem de_joined {v1 v2 : Expr} {rest : List Expr} {ts : List TE} {r : JM} (h : DJ K X W (v1 :: v2 :: rest) ts r) : DE K X W (.JoinedStr (v1 :: v2 :: rest) pos) (fun σ H Q => tJs ts Str.empty σ H fun out H1 => Q (.str out) H1) (mJoined r) := ⟨h.k, pe_joined h.pj, ⟨fun σ H s Z I r0 Q w rs e p => by
  refine (h.so Str.empty).bnd w rs e p.x fun d v M1 Z1 H1 I1 w1 rs1 x1 q1 e1 => ?_
  cases (show v = d from q1)
  cases e1
  exact p _ Z1 H1 I1 w1 x1 (.str _)⟩⟩
end
end DL
namespace DL
open PySem L2
/-! ### texts as lists of their signs -/
def tx (l : List Nat) : Str := ⟨l.toArray⟩
@[simp] theorem tx_list (l : List Nat) : (tx l).cps.toList = l := List.toList_toArray
@[simp] theorem tx_len (l : List Nat) : (tx l).length = l.length := List.size_toArray
theorem tx_of (x : Str) : x = tx x.cps.toList := by
  cases x with
  | mk a => show Str.mk a = Str.mk a.toList.toArray; rw [Array.toArray_toList]
theorem eq_tx {x : Str} {l : List Nat} (h : x.cps.toList = l) : x = tx l := by rw [← h]; exact tx_of x
@[simp] theorem tx_inj (a b : List Nat) : tx a = tx b ↔ a = b := ⟨fun h => by have := congrArg (fun x : Str => x.cps.toList) h; simpa using this, fun h => by rw [h]⟩
@[simp] theorem tx_app (a b : List Nat) : tx a ++ tx b = tx (a ++ b) := by
  apply eq_tx
  show ((tx a).cps ++ (tx b).cps).toList = _
  rw [Array.toList_append, tx_list, tx_list]
@[simp] theorem tx_empty : Str.empty = tx [] := rfl
theorem tx_ofString (s : String) : Str.ofString s = tx (s.toList.map Char.toNat) := by
  rw [Str.ofString_eq_toList]; apply eq_tx; simp
theorem sub_tx (l : List Nat) (i j : Nat) : Builtin.Str.strSub (tx l) i j = tx ((l.take j).drop i) := by
  apply eq_tx
  show ((tx l).cps.extract i j).toList = _
  rw [Array.toList_extract, tx_list]
  rw [List.extract_eq_take_drop, List.drop_take]
@[simp] theorem in_tx (c : Nat) (l : List Nat) : inS (tx [c]) (tx l) = decide (c ∈ l) := by
  have h := StrLaws.found_one (tx l) c
  rw [tx_list] at h
  exact h
@[simp] theorem e_inSS (i j : Str) : inD (.str i) (.str j) = some (inS i j) := rfl
@[simp] theorem e_dIn (d e : D) : dIn d e = (inD d e).map .bl := rfl
@[simp] theorem e_dNin (d e : D) : dNin d e = (inD d e).map fun b => .bl !b := rfl
theorem at_one (l : List Nat) (c i : Nat) : StrLaws.At (tx l) (tx [c]) (tx l).length i ↔ l[i]? = some c := by
  have h := StrLaws.subAt_one (tx l) c i
  rw [tx_list] at h
  exact h
/-- the place of the first c -/
def idx (c : Nat) (l : List Nat) : Nat := (l.takeWhile (· != c)).length
theorem idx_first : ∀ {c i : Nat} {l : List Nat}, l[i]? = some c → (∀ k, k < i → ¬ l[k]? = some c) → i = idx c l
  | c, i, [], h, _ => by simp at h
  | c, 0, x :: l, h, _ => by
    simp at h; subst h
    unfold idx; simp
  | c, i + 1, x :: l, h, n => by
    have hx : x ≠ c := fun e => n 0 (by omega) (by simp [e])
    have := idx_first (c := c) (i := i) (l := l) (by simpa using h) fun k hk => by have := n (k + 1) (by omega); simpa using this
    unfold idx at this ⊢
    rw [List.takeWhile_cons]
    simp [hx, this]
theorem occ_tx (c : Nat) (l : List Nat) : Builtin.Str.occurrences (tx l) (tx [c]) 0 (tx l).length 1 = [] ∧ c ∉ l ∨ ∃ r, Builtin.Str.occurrences (tx l) (tx [c]) 0 (tx l).length 1 = idx c l :: r ∧ c ∈ l := by
  rcases StrLaws.occ_head (tx l) (tx [c]) 1 (Nat.le_refl 1) with ⟨h1, h2⟩ | ⟨i, r, h1, h2, h3⟩
  · refine .inl ⟨h1, fun hm => ?_⟩
    obtain ⟨i, hi⟩ := List.mem_iff_getElem?.mp hm
    exact h2 i ((at_one l c i).mpr hi)
  · have a := (at_one l c i).mp h2
    have e := idx_first a fun k hk q => h3 k hk ((at_one l c k).mpr q)
    exact .inr ⟨r, by rw [h1, e], List.mem_of_getElem? a⟩
theorem takeWhile_take (c : Nat) : ∀ l : List Nat, l.take (idx c l) = l.takeWhile (· != c)
  | [] => rfl
  | x :: l => by
    unfold idx
    rw [List.takeWhile_cons]
    by_cases h : x = c
    · simp [h]
    · simp [h]; exact takeWhile_take c l
theorem dropWhile_drop (c : Nat) : ∀ l : List Nat, l.drop (idx c l) = l.dropWhile (· != c)
  | [] => rfl
  | x :: l => by
    unfold idx
    rw [List.takeWhile_cons, List.dropWhile_cons]
    by_cases h : x = c
    · simp [h]
    · simp [h]; exact dropWhile_drop c l
def befC (c : Nat) (l : List Nat) : List Nat := l.takeWhile (· != c)
def aftC (c : Nat) (l : List Nat) : List Nat := (l.dropWhile (· != c)).tail
theorem part_tx (c : Nat) (l : List Nat) : Txt.partition (tx l) (tx [c]) = if c ∈ l then (tx (befC c l), tx [c], tx (aftC c l)) else (tx l, tx [], tx []) := by
  unfold Txt.partition
  rcases occ_tx c l with ⟨h, hm⟩ | ⟨r, h, hm⟩
  · rw [h, if_neg hm]; rfl
  · rw [h, if_pos hm]
    show (Builtin.Str.strSub (tx l) 0 (idx c l), tx [c], Builtin.Str.strSub (tx l) (idx c l + 1) (tx l).length) = _
    rw [sub_tx, sub_tx, tx_len, List.take_length, List.drop_zero, takeWhile_take, ← List.tail_drop, dropWhile_drop]
    rfl
theorem rmpre_tx (c : Nat) (l : List Nat) : Txt.removeprefix (tx l) (tx [c]) = tx (if l.head? = some c then l.tail else l) := by
  rw [StrLaws.removeprefix_eq]
  have h := at_one l c 0
  unfold StrLaws.At at h
  have e : (decide (0 + (tx [c]).length ≤ (tx l).length) && Builtin.Str.subAt (tx l) (tx [c]) 0) = decide (l.head? = some c) := by
    rw [Bool.eq_iff_iff, Bool.and_eq_true, decide_eq_true_eq, decide_eq_true_eq, h, List.head?_eq_getElem?]
  rw [e]
  by_cases q : l.head? = some c
  · rw [if_pos (decide_eq_true q), if_pos q]
    apply eq_tx
    rw [List.toList_toArray, tx_list, tx_len, tx_len]
    cases l with
    | nil => rfl
    | cons x l => simp
  · rw [if_neg (by simpa using q), if_neg q]
def rstripL (c : Nat) (l : List Nat) : List Nat := (l.reverse.dropWhile (· == c)).reverse
theorem take_rev (c : Nat) (l : List Nat) : l.take (l.length - (l.reverse.takeWhile (· == c)).length) = rstripL c l := by
  unfold rstripL
  have e := List.takeWhile_append_dropWhile (p := (· == c)) (l := l.reverse)
  have e2 := congrArg List.reverse e
  rw [List.reverse_append, List.reverse_reverse] at e2
  have hl := congrArg List.length e2
  rw [List.length_append, List.length_reverse, List.length_reverse] at hl
  generalize l.reverse.dropWhile (· == c) = a at e2 hl ⊢
  generalize l.reverse.takeWhile (· == c) = b at e2 hl ⊢
  rw [← e2, List.take_append_of_le_length (by simp <;> omega)]
  rw [List.take_of_length_le (by simp)]
theorem rstrip_tx (c : Nat) (l : List Nat) : Txt.rstripChars (tx l) (tx [c]) = tx (rstripL c l) := by
  unfold Txt.rstripChars
  rw [PyProof.Rows.stripBy_eq]
  have e : stripLo (tx [c]).cps.contains false (tx l) = 0 := rfl
  rw [e, sub_tx, List.drop_zero]
  unfold stripHi
  rw [if_pos rfl, tx_list, List.drop_zero, tx_len]
  have g : (tx [c]).cps.contains = (· == c) := by
    funext x
    rw [← Array.contains_toList, tx_list, Bool.eq_iff_iff]
    simp
  rw [g, take_rev]
theorem zfill_tx (l : List Nat) (i : Int) (h : ∀ c, l.head? = some c → c ≠ 43 ∧ c ≠ 45) : Txt.zfill (tx l) i = tx (List.replicate (i.toNat - l.length) 48 ++ l) := by
  unfold Txt.zfill
  rw [tx_len]
  split
  · rename_i q
    have e : i.toNat - l.length = 0 := by omega
    rw [e]; rfl
  · have e : zfilled (tx l) (i.toNat - l.length) = Builtin.Str.padded (tx l) (i.toNat - l.length) 0 48 := by
      unfold zfilled
      have g : (tx l).cps[0]? = l.head? := by
        rw [← Array.getElem?_toList, tx_list, List.head?_eq_getElem?]
      rw [g]
      cases l with
      | nil => rfl
      | cons x r =>
        have := h x rfl
        show (match some x with | some 43 | some 45 => _ | _ => _) = _
        split
        · rename_i q; cases q; exact absurd rfl this.1
        · rename_i q; cases q; exact absurd rfl this.2
        · rfl
    rw [e]
    apply eq_tx
    show (Array.replicate _ _ ++ (tx l).cps ++ Array.replicate _ _).toList = _
    rw [Array.toList_append, Array.toList_append, tx_list]
    simp
theorem ljust_tx (l : List Nat) (i : Int) (c : Nat) : Txt.ljustF (tx l) i c = tx (l ++ List.replicate (i.toNat - l.length) c) := by
  apply eq_tx
  rw [PyProof.Rows.ljustF_list, tx_list, tx_len]
theorem join_txt : ∀ ls : List (List Nat), Txt.join (tx []) (ls.map tx) = tx ls.flatten := by
  intro ls
  have e : Txt.join (tx []) (ls.map tx) = Str.join (tx []) (ls.map tx) := StrLaws.glued_eq_join _ _
  rw [e]
  clear e
  have : ∀ ls : List (List Nat), Str.join (tx []) (ls.map tx) = tx ls.flatten := by
    intro ls
    induction ls with
    | nil => rfl
    | cons a r ih =>
      cases r with
      | nil => simp [Str.join]
      | cons b r =>
        show tx a ++ tx [] ++ Str.join (tx []) ((b :: r).map tx) = _
        rw [ih]; simp
  exact this ls
theorem foldl_app (x : Array Nat) : ∀ (n : Nat) (acc : Array Nat), ((List.replicate n x).foldl (· ++ ·) acc).toList = acc.toList ++ (List.replicate n x.toList).flatten
  | 0, acc => by simp
  | n + 1, acc => by
    rw [List.replicate_succ, List.foldl_cons, foldl_app x n, Array.toList_append, List.replicate_succ, List.flatten_cons, List.append_assoc]
theorem flat_one (c : Nat) : ∀ n : Nat, (List.replicate n [c]).flatten = List.replicate n c
  | 0 => rfl
  | n + 1 => by rw [List.replicate_succ, List.flatten_cons, flat_one c n]; rfl
theorem rep_tx (c : Nat) (n : Int) : repS (tx [c]) n = tx (List.replicate n.toNat c) := by
  unfold repS
  split
  · rename_i h
    have : n.toNat = 0 := by omega
    rw [this]; rfl
  · split
    · rename_i h1 h2
      have : n = 1 := by simpa using h2
      subst this; rfl
    · apply eq_tx
      show ((List.replicate n.toNat (tx [c]).cps).foldl (· ++ ·) #[]).toList = _
      rw [foldl_app, tx_list, flat_one]; simp
/-- split at one sign -/
def splitL (c : Nat) : List Nat → List (List Nat)
  | [] => [[]]
  | x :: l => if x = c then [] :: splitL c l else match splitL c l with
    | p :: r => (x :: p) :: r
    | [] => [[x]]
theorem splitL_ne (c : Nat) : ∀ l, splitL c l ≠ []
  | [] => by simp [splitL]
  | x :: l => by
    unfold splitL
    split
    · simp
    · split <;> simp
theorem splitL_app (c : Nat) : ∀ (p l : List Nat), c ∉ p → splitL c (p ++ c :: l) = p :: splitL c l
  | [], l, _ => by simp [splitL]
  | x :: p, l, h => by
    have hx : x ≠ c := fun e => h (by simp [e])
    have ih := splitL_app c p l fun m => h (List.mem_cons_of_mem _ m)
    rw [List.cons_append, splitL, if_neg hx, ih]
theorem splitL_free (c : Nat) : ∀ (p : List Nat), c ∉ p → splitL c p = [p]
  | [], _ => rfl
  | x :: p, h => by
    have hx : x ≠ c := fun e => h (by simp [e])
    rw [splitL, if_neg hx, splitL_free c p fun m => h (List.mem_cons_of_mem _ m)]
theorem split_join (c : Nat) : ∀ (ps : List Str), ps ≠ [] → (∀ p ∈ ps, c ∉ p.cps.toList) → (splitL c (Str.join (tx [c]) ps).cps.toList).map tx = ps
  | [], h, _ => absurd rfl h
  | [p], _, h => by
    show (splitL c p.cps.toList).map tx = _
    rw [splitL_free c _ (h p (by simp))]
    simp [← tx_of]
  | p :: q :: r, _, h => by
    have ih := split_join c (q :: r) (by simp) fun z hz => h z (List.mem_cons_of_mem _ hz)
    show (splitL c (p ++ tx [c] ++ Str.join (tx [c]) (q :: r)).cps.toList).map tx = _
    have e : (p ++ tx [c] ++ Str.join (tx [c]) (q :: r)).cps.toList = p.cps.toList ++ c :: (Str.join (tx [c]) (q :: r)).cps.toList := by
      conv => lhs; rw [tx_of p, tx_of (Str.join (tx [c]) (q :: r)), tx_app, tx_app, tx_list]
      simp
    rw [e, splitL_app c _ _ (h p (by simp)), List.map_cons, ih, ← tx_of]
theorem split_tx (c : Nat) (l : List Nat) : Txt.split (tx l) (tx [c]) = (splitL c l).map tx := by
  have h1 := StrLaws.join_split (tx l) (tx [c])
  have h2 := StrLaws.split_free (tx l) c
  have h3 := PyProof.Rows.split_pos (tx l) (tx [c])
  have h4 := split_join c (Txt.split (tx l) (tx [c])) (by intro e; rw [e] at h3; simp at h3) h2
  rw [h1, tx_list] at h4
  exact h4.symm
/-! slices -/
theorem cutS_to (l : List Nat) (k : Int) (h : 0 ≤ k) : cutS (tx l) none (some k) = tx (l.take k.toNat) := by
  apply eq_tx
  unfold cutS
  rw [List.toList_toArray, tx_list, tx_len, HT.sIx_none, List.drop_zero, Nat.sub_zero]
  obtain ⟨n, rfl⟩ := Int.eq_ofNat_of_zero_le h
  rw [HT.sIx_nat, Int.toNat_natCast]
  by_cases q : n ≤ l.length
  · rw [Nat.min_eq_left q]
  · rw [Nat.min_eq_right (by omega), List.take_length, List.take_of_length_le (by omega)]
theorem cutS_from (l : List Nat) (k : Int) (h : 0 ≤ k) : cutS (tx l) (some k) none = tx (l.drop k.toNat) := by
  apply eq_tx
  unfold cutS
  rw [List.toList_toArray, tx_list, tx_len, HT.sIx_none]
  obtain ⟨n, rfl⟩ := Int.eq_ofNat_of_zero_le h
  rw [HT.sIx_nat, Int.toNat_natCast]
  by_cases q : n ≤ l.length
  · rw [Nat.min_eq_left q, List.take_of_length_le (by simp)]
  · rw [Nat.min_eq_right (by omega), List.drop_length, List.drop_of_length_le (by omega)]; simp
@[simp] theorem e_slS (z : Str) (lo hi : Option Int) : slE (.str z) lo hi = if z.length ≤ 1000000 then some (.str (cutS z lo hi)) else none := rfl
@[simp] theorem e_ixS (l : List Nat) (i : Int) : ixD (.str (tx l)) i = if l.length ≤ 1000000 then (atI l i).map fun c => .str (tx [c]) else none := by
  show (if (tx l).length ≤ 1000000 then (atI (tx l).cps.toList i).map fun c => D.str ⟨#[c]⟩ else none) = _
  rw [tx_len, tx_list]; rfl
/-! the digits of a number -/
def decs (n : Nat) : List Nat := (Nat.toDigits 10 n).map Char.toNat
theorem decs_lt {n : Nat} (h : n < 10) : decs n = [48 + n] := by
  unfold decs
  rw [Nat.toDigits_of_lt_base h]
  have : ∀ m, m < 10 → (Nat.digitChar m).toNat = 48 + m := by decide
  simp [this n h]
theorem decs_ge {n : Nat} (h : 10 ≤ n) : decs n = decs (n / 10) ++ [48 + n % 10] := by
  unfold decs
  rw [Nat.toDigits_of_base_le (by decide) h]
  have : ∀ m, m < 10 → (Nat.digitChar m).toNat = 48 + m := by decide
  simp [this (n % 10) (Nat.mod_lt _ (by decide))]
theorem ofInt_tx (n : Nat) : Str.ofString (toString (n : Int)) = tx (decs n) := by
  rw [tx_ofString]
  have e : toString (n : Int) = Nat.repr n := rfl
  rw [e, Nat.repr_eq_ofList_toDigits, String.toList_ofList]
  rfl
open NumText in
theorem decs_spec (n : Nat) : AllDigits (decs n) ∧ decs n ≠ [] ∧ digitsVal (decs n) = n ∧ (0 < n → (decs n).head? ≠ some 48) := by
  induction n using Nat.strongRecOn with
  | ind n ih =>
    by_cases h : n < 10
    · rw [decs_lt h]
      refine ⟨fun c hc => ?_, by simp, ?_, fun hp => ?_⟩
      · simp at hc; omega
      · show 0 * 10 + (48 + n - 48) = n; omega
      · simp; omega
    · have h : 10 ≤ n := by omega
      obtain ⟨a, b, c, d⟩ := ih (n / 10) (by omega)
      rw [decs_ge h]
      refine ⟨fun x hx => ?_, by simp, ?_, fun _ => ?_⟩
      · rw [List.mem_append] at hx
        rcases hx with hx | hx
        · exact a x hx
        · simp at hx; omega
      · unfold digitsVal at c ⊢
        rw [List.foldl_append, c]
        show n / 10 * 10 + (48 + n % 10 - 48) = n
        omega
      · have d := d (by omega)
        cases q : decs (n / 10) with
        | nil => exact absurd q b
        | cons x r => rw [q] at d; simpa using d
theorem decs_len : ∀ (k n : Nat), n < 10 ^ (k + 1) → (decs n).length ≤ k + 1
  | 0, n, h => by rw [decs_lt (by simpa using h)]; simp
  | k + 1, n, h => by
    by_cases q : n < 10
    · rw [decs_lt q]; simp
    · rw [decs_ge (by omega), List.length_append]
      have := decs_len k (n / 10) (by rw [Nat.pow_succ] at h; omega)
      simp; omega
theorem decs_len_ge : ∀ (k n : Nat), 10 ^ k ≤ n → k + 1 ≤ (decs n).length
  | 0, n, h => by
    have := (decs_spec n).2.1
    cases q : decs n with
    | nil => exact absurd q this
    | cons x r => simp
  | k + 1, n, h => by
    have h10 : 10 ≤ n := by
      have : 10 ^ 1 ≤ 10 ^ (k + 1) := Nat.pow_le_pow_right (by decide) (by omega)
      omega
    rw [decs_ge h10, List.length_append]
    have := decs_len_ge k (n / 10) (by rw [Nat.pow_succ] at h; omega)
    simp; omega
open NumText in
theorem int_tx {l : List Nat} (h : AllDigits l) (h1 : l ≠ []) (h2 : l.length ≤ 640) : PySem.intText? (tx l) = some ((digitsVal l : Nat) : Int) := by
  have := intText_digits (x := tx l) (by rw [tx_list]; exact h) (by rw [tx_list]; exact h1) (by rw [tx_len]; omega)
  rw [tx_list] at this
  exact this
def logOk (i : Int) : Bool := decide (i.natAbs.log2 < 1920)
def intS (i : Int) : Str := Str.ofString (toString i)
theorem intS_tx (n : Nat) : intS (n : Int) = tx (decs n) := ofInt_tx n
@[simp] theorem e_str (i : Int) : dStr (.int i) = if logOk i = true then some (.str (intS i)) else none := by
  show (if i.natAbs.log2 < 1920 then some (D.str (intS i)) else none) = _
  unfold logOk
  by_cases h : i.natAbs.log2 < 1920
  · rw [if_pos h, if_pos (decide_eq_true h)]
  · rw [if_neg h, if_neg (by simpa using h)]
@[simp] theorem e_intS (x : Str) : dIntS (.str x) = if x.length ≤ 640 then (PySem.intText? x).map .int else none := rfl
@[simp] theorem e_allL (ds : List D) : dAll (.lst ds) = (allBl ds).map fun bs => .bl (bs.all id) := rfl
theorem allBl_map (bs : List Bool) : allBl (bs.map .bl) = some bs := by
  induction bs with
  | nil => rfl
  | cons b r ih => show (allBl (r.map .bl)).map _ = _; rw [ih]; rfl
@[simp] theorem e_mulS (x : Str) (n : Int) : dMulS (.str x) (.int n) = if x.length = 1 ∧ -1000 ≤ n ∧ n ≤ 1000 then some (.str (repS x n)) else none := rfl
@[simp] theorem e_gP (g : D → List D → Option D) (d : D) (ds : List DV) (s : S) : gP g (.p d) ds s = (match allP ds with | some xs => ret (g d xs) s | none => none) := rfl
@[simp] theorem e_zfill (x : Str) (i : Int) : dZfill (.str x) [.int i] = if PadOk i = true then some (.str (Txt.zfill x i)) else none := rfl
@[simp] theorem e_rstrip (x y : Str) : dRstrip (.str x) [.str y] = if x.length ≤ 1000000 then some (.str (Txt.rstripChars x y)) else none := rfl
@[simp] theorem e_rmpre (x y : Str) : dRmpre (.str x) [.str y] = if x.length ≤ 1000000 then some (.str (Txt.removeprefix x y)) else none := rfl
@[simp] theorem e_part (x y : Str) : dPart (.str x) [.str y] = if (y.length == 0) = false ∧ x.length ≤ 1000000 then some (.tup [.str (Txt.partition x y).1, .str (Txt.partition x y).2.1, .str (Txt.partition x y).2.2]) else none := rfl
@[simp] theorem e_split (x y : Str) : dSplit (.str x) [.str y] = if (y.length == 0) = false ∧ x.length ≤ 1000000 then some (.lst ((Txt.split x y).map .str)) else none := rfl
@[simp] theorem e_join (a : Str) (ds : List D) : dJoin (.str a) [.lst ds] = (match allS ds with | some ys => if (ys.map (·.length)).sum + ys.length * a.length ≤ 16777216 then some (.str (Txt.join a ys)) else none | none => none) := rfl
theorem allS_map (ys : List Str) : allS (ys.map .str) = some ys := by
  induction ys with
  | nil => rfl
  | cons b r ih => show (allS (r.map .str)).map _ = _; rw [ih]; rfl
def sign1 (f : Str) : Nat := f.cps.getD 0 0
@[simp] theorem e_sign1 (c : Nat) : sign1 (tx [c]) = c := rfl
@[simp] theorem e_ljust (x : Str) (i : Int) (f : Str) : dLjust (.str x) [.int i, .str f] = if PadOk i = true ∧ f.length = 1 then some (.str (Txt.ljustF x i (sign1 f))) else none := rfl
theorem index_tx {c : Nat} {l : List Nat} (h : c ∈ l) : dIndex (.str (tx l)) [.str (tx [c])] = some (.int (idx c l : Nat)) := by
  unfold dIndex
  rcases occ_tx c l with ⟨_, hm⟩ | ⟨r, e, _⟩
  · exact absurd h hm
  · simp only [e]
@[simp] theorem e_fmt (m : EM) (s : S) : mFmt m s = (bnd m (pur fun d => ret (dFmt d))) s := rfl
@[simp] theorem e_fmtI (i : Int) : dFmt (.int i) = if logOk i = true then some (.str (intS i)) else none := e_str i
@[simp] theorem e_fmtS (y : Str) : dFmt (.str y) = if y.length ≤ 1000000 then some (.str y) else none := rfl
@[simp] theorem e_jNil (acc : Str) (s : S) : jNil acc s = some (.ok acc s.m) := rfl
def jK (r : JM) (acc : Str) (d : D) : Mi Str := match d with
  | .str y => fun s => if acc.length + y.length ≤ 1000000 then r (acc ++ y) s else none
  | _ => fun _ => none
@[simp] theorem e_jCons (m : EM) (r : JM) (acc : Str) (s : S) : jCons m r acc s = (bnd m (pur (jK r acc))) s := rfl
@[simp] theorem e_jK (r : JM) (acc y : Str) (s : S) : jK r acc (.str y) s = if acc.length + y.length ≤ 1000000 then r (acc ++ y) s else none := rfl
@[simp] theorem e_joined (r : JM) (s : S) : mJoined r s = (bnd (r Str.empty) fun y s => some (.ok (.p (.str y)) s.m)) s := rfl
theorem log_ok {n : Nat} (h : n ≤ 1000000000000000000) : n.log2 < 1920 := by
  by_cases q : n = 0
  · subst q; decide
  · exact Nat.lt_of_lt_of_le ((Nat.log2_lt q).mpr (Nat.lt_of_le_of_lt h (by decide : 1000000000000000000 < 2 ^ 64))) (by decide)
theorem logOk_of {i : Int} (h : i.natAbs ≤ 1000000000000000000) : logOk i = true := decide_eq_true (log_ok h)
theorem pad4 : PadOk 4 = true := by decide
@[simp] theorem e_itS (l : List Nat) : itS (.str (tx l)) = some (l.map fun c => .p (.str (tx [c]))) := by
  show some ((tx l).cps.toList.map _) = _
  rw [tx_list]; rfl
@[simp] theorem e_tyS (M : List O) (x : Str) : tyOk "str" M (.p (.str x)) = true := rfl
@[simp] theorem e_tyL (M : List O) (x : List D) : tyOk "list" M (.p (.lst x)) = true := rfl
@[simp] theorem e_gs0 (s : S) : gsNil [] s = some s := rfl
@[simp] theorem e_gs1 (m : GM) (n : List DV → S → Option S) (d : DV) (r : List DV) (s : S) : gsCons m n (d :: r) s = (match m d s with | some s1 => n r s1 | none => none) := rfl
@[simp] theorem e_gT (n : Nat) (m : List DV → S → Option S) (xs : List D) (s : S) : gT n m (.p (.tup xs)) s = if xs.length = n then m (xs.map .p) s else none := rfl
theorem pad_digits {l : List Nat} (k : Nat) (h : NumText.AllDigits l) : NumText.AllDigits (l ++ List.replicate k 48) := fun c hc => by
  rw [List.mem_append] at hc
  rcases hc with hc | hc
  · exact h c hc
  · have := List.eq_of_mem_replicate hc; omega
end DL
namespace DL
open PySem L2
/-! loops and comprehensions with what stays true -/
theorem wpS.imp {o : Option (Fl × S)} {P Q : Fl → S → Prop} (h : wpS o P) (k : ∀ f s, P f s → Q f s) : wpS o Q := by
  obtain ⟨f, s, e, n, p⟩ := h
  exact ⟨f, s, e, n, k f s p⟩
/-- a loop whose body goes on, or returns -/
theorem w_loop {g : GM} {b : SM} {Inv : S → Prop} {R : DV → S → Prop} : ∀ (ds : List DV) (s : S), Inv s →
    (∀ d ∈ ds, ∀ s, Inv s → ∃ s1, g d s = some s1 ∧ wpS (b s1) (fun f s2 => (f = .nx ∧ Inv s2) ∨ (∃ v, f = .rt v ∧ R v s2))) →
    wpS (loopS g b ds s) (fun f s2 => (f = .nx ∧ Inv s2) ∨ (∃ v, f = .rt v ∧ R v s2))
  | [], s, h, _ => by simp [h]
  | d :: ds, s, h, k => by
    obtain ⟨s1, h1, f, s2, e, n, p⟩ := k d (by simp) s h
    rw [loopS_cons, h1]
    dsimp only
    rw [e]
    rcases p with ⟨rfl, p⟩ | ⟨v, rfl, p⟩
    · exact w_loop ds s2 p fun x hx => k x (List.mem_cons_of_mem _ hx)
    · exact ⟨_, _, rfl, rfl, .inr ⟨v, rfl, p⟩⟩
/-- a comprehension that draws -/
theorem compL_draw {l : List (Option DV)} {g : GM} {e : EM} {Inv : List O → Prop} {R : D → Prop} : ∀ (ds : List DV) (acc : List D) (M : List O), Inv M → (∀ y ∈ acc, R y) → acc.length + ds.length ≤ 1000000 →
    (∀ d ∈ ds, ∀ M, Inv M → ∃ s1, g d ⟨l, M⟩ = some s1 ∧ wpB (e s1) (fun v M2 => ∃ y, v = .p y ∧ R y ∧ Inv M2)) →
    ∃ ys M', compL l g tYesM e ds acc M = some (ys, M') ∧ Inv M' ∧ (∀ y ∈ ys, R y) ∧ ys.length = acc.length + ds.length
  | [], acc, M, h, ha, _, _ => ⟨acc, M, rfl, h, ha, rfl⟩
  | d :: ds, acc, M, h, ha, hl, k => by
    obtain ⟨s1, h1, v, M2, e1, y, rfl, hy, h2⟩ := k d (by simp) M h
    have hl' : acc.length + (ds.length + 1) ≤ 1000000 := hl
    obtain ⟨ys, M', e2, i2, r2, l2⟩ := compL_draw ds (acc ++ [y]) M2 h2 (fun z hz => by
      rw [List.mem_append] at hz
      rcases hz with hz | hz
      · exact ha z hz
      · simp at hz; rw [hz]; exact hy) (by simp; omega) fun x hx => k x (List.mem_cons_of_mem _ hx)
    refine ⟨ys, M', ?_, i2, r2, by rw [l2]; simp; omega⟩
    unfold compL
    rw [h1]
    dsimp only
    have q : tYesM s1 = some (.ok (.p (.bl true)) s1.m) := rfl
    rw [q]
    dsimp only
    have q2 : e ⟨s1.l, s1.m⟩ = some (.ok (.p y) M2) := e1
    rw [q2]
    dsimp only
    rw [if_pos (by omega)]
    exact e2
end DL
namespace DL
open PySem L2
open PyProof.Rows (AllBare IntsAre)
/-! ### the law's own def, run by the caller itself: no repr is under way -/
section
variable {P : Program} {w : World} {K : PySem.W.Frag} {mg : Str → Option Value} {base : Heap} {x qual : Str} {st : Stmt} {f a : Addr} {fd : FuncData} {N : List Str} {k : Nat}
def Told (s₁ : Shared) (r : Result) (s' : Shared) : Prop := r = .ok (.ret (.bool true)) ∧ OldK s₁.heap s'.heap ∧ s'.os = s₁.os ∧ AllBare s'.gens
abbrev TopB (P : Program) (w : World) (K : PySem.W.Frag) (mg : Str → Option Value) (base : Heap) (N : List Str) (qual : Str) (st : Stmt) (f : Addr) (k : Nat) (m : SM) : Prop :=
  ∀ (cdv : Value) (s : Shared) (H : Hp) (E : XK), Room k (callerA.deeper (PyProof.Rows.envOfC qual (defScope st) s.heap.objs.size f cdv)) →
    ∃ t, DSs K (cxOf (L2.CX P w) P w K mg base N qual (defScope st) f cdv callerA [] s H E) (WE0 E) (defBody st) t m
/-- from the entry on -/
theorem run_top {m : SM} {s₁ : Shared} {H : Hp} {ns : List Int} {p : Str} (F : Fun K x qual st f fd) (Sc : FnScope N [p] (defScope st)) (hr : Room (k + 1) callerA) (body : TopB P w K mg base N qual st f k m)
    (e0 : Env0 P w K mg base callerA [] s₁ H) (hb : BindsTo s₁ fd ⟨[.ref a], []⟩ [(p, .ref a)]) (hS : SqL K H a (ns.map V.int)) (hO : Only H) (good : runA N.length m [.scr (ns.map .int)] = some (.ok (.bl true))) :
    codeAny (model P w) callerA (.call (.ref f) ⟨[.ref a], []⟩) (Told s₁) s₁ := by
  obtain ⟨oc, od, kV, doc, pm, an, cdv, ct, osl, rfl, lk, hcd⟩ := F.ex
  have inS : ∀ b o, base.get? b = some o → s₁.heap.get? b = some o := fun b o q => (e0.bs b o q).1
  have KS : K.In s₁.heap := e0.mod.kin.keeps inS
  have NL : s₁.heap.NoLimit := e0.mod.nolimit.keeps inS
  refine codeAny_mono (R := CR (L2.CX P w) [] P w H s₁ (fun v _ => v = V.bl true) (fun _ _ _ => False)) ?_ fun r s' h => ?_
  rotate_left
  · cases r with
    | error e =>
      obtain ⟨_, _, _, _, _, _, _, _, _, _, _, _, z⟩ := (show L2.CX P w [] H s₁ (fun _ _ _ => False) e s' from h)
      exact z.elim
    | ok fl =>
      cases fl with
      | ret u =>
        obtain ⟨v, H', os, bare, un, hok, rv, e⟩ := h
        have e : v = V.bl true := e
        subst e
        obtain rfl : u = Value.bool true := rv
        refine ⟨rfl, OldK.of_keep fun b o e => ?_, os, bare⟩
        rcases hO b with z | ⟨ob, xs, z⟩
        · exact un.keep b o e z (by intro q; exact absurd (show b ∈ ([] : List Addr) from q) (by simp)) (by simp)
        · obtain ⟨e1, _⟩ := e0.hok b _ z
          obtain ⟨e2, _⟩ := hok b _ (un.frzs b ob _ z)
          rw [e] at e1; cases e1
          exact e2
      | next => exact False.elim h
      | brk => exact False.elim h
      | cont => exact False.elim h
  -- the frame is made, the script bound
  refine PySem.codeAny_call_function hr.depth (KS _ _ lk) rfl Sc.co Sc.gen rfl (PySem.W.codeRec_of KS hcd) (hb _ _ _ _ ?_)
  refine PySem.wpAny_newFunctionEnv_cells Sc.kind (fun y hy => ?_) fun env he s2 made => ?_
  · obtain ⟨n, v⟩ := y
    rcases Sc.par n (List.of_mem_zip (l₁ := [p]) (l₂ := [Value.ref a]) hy).1 with q | q
    · exact .inl q
    · exact .inr ⟨q, PySem.W.cellsFrom_some _ _ _ (.inl q)⟩
  subst he
  refine ⟨NL.keeps made.toInCall.keep, PySem.codeAny_func ?_⟩
  obtain ⟨t, d⟩ := body cdv s₁ H (fun _ _ _ => False) (hr.deeper _)
  have I := inv_start (CX := L2.CX P w) (E := fun _ _ _ => False) Sc hr.hd e0 (vs := [.ref a]) rfl (.cons rfl .nil) made
  have q : t { nx := fun _ H' => (fun v (_ : Hp) => v = V.bl true) .non H', rt := fun v _ => v = V.bl true } (L2.start N [.ref a]) H := by
    have w0 : Wf K H H [] [] := ⟨Same.refl _, rfl, List.nodup_nil, (by simp), fun n a o h => by simp at h⟩
    unfold runA at good
    cases z : m ⟨slotsOf N.length ([D.scr (ns.map .int)].map .p), []⟩ with
    | none => rw [z] at good; cases good
    | some fs =>
      rw [z] at good
      obtain ⟨fl, s1⟩ := fs
      refine d.so.ok (L2.start N [.ref a]) H _ H [] _ _ w0 (start_rep (.cons (show RepV K H [] (.ref a) (.p (.scr (ns.map .int))) from Rep.scr hS (intsRep ns)) .nil)) z ?_
      cases fl with
      | nx => cases good
      | rt d =>
        cases d with
        | p d => cases good; exact fun v Z' H' I' w' x' r' => by cases r'; rfl
        | o n => cases good
      | ex c fs => cases good
      | bk => cases good
      | ct => cases good
  refine wpAny_mono (d.ps.run [] s2 (L2.start N [.ref a]) H _ I q) (fun fl s' h => ?_) fun e s' h => ?_
  · cases fl with
    | ret u =>
      obtain ⟨v, σ', H', J, rv, e⟩ := h
      exact ⟨v, H', J.os, J.bare, J.base, J.hok, rv, e⟩
    | next =>
      obtain ⟨σ', H', J, e⟩ := h
      cases e
    | brk =>
      obtain ⟨_, _, _, e⟩ := h
      exact False.elim e
    | cont =>
      obtain ⟨_, _, _, e⟩ := h
      exact False.elim e
  · exact h
/-- the entry: what is tracked is the script at most -/
theorem entry {H : Hp} {s₁ : Shared} {mb : Str → Option Value} {vs : List Value} (KX : K.In s₁.heap) (hns : s₁.heap.Ns mainGlobals mg) (hb : s₁.heap.Ns builtinsNs mb) (hbb : ∀ x : Str, x ≠ "__name__" → mb x = bootBuiltins x) (hlim : s₁.heap.NoLimit) (hg : s₁.gens = #[])
    (ha : s₁.heap.get? a = some { cls := .type "list", data := .seq vs.toArray }) (hok : HOk P w H s₁.heap) (one : ∀ b, H b ≠ none → b = a) (out : H a ≠ none → K.lookup a = none) :
    Env0 P w K mg (hidT s₁.heap H) callerA [] s₁ H ∧ K.In (hidT s₁.heap H) ∧ (hidT s₁.heap H).Ns mainGlobals mg := by
  have free : ∀ {b : Addr}, b ≠ a → H b = none := fun {b} n => by
    cases q : H b with
    | none => rfl
    | some u => exact absurd (one b (by rw [q]; simp)) n
  have kin : K.In (hidT s₁.heap H) := fun b o e => by
    refine hidT_get (KX b o e) ?_
    by_cases n : b = a
    · subst n
      cases q : H b with
      | none => rfl
      | some u => rw [out (by rw [q]; simp)] at e; cases e
    · exact free n
  have ns : ∀ {b : Addr} {m : Str → Option Value}, s₁.heap.Ns b m → (hidT s₁.heap H).Ns b m := fun {b m} h => by
    obtain ⟨o, es, ep, e, d, r⟩ := h
    refine ⟨o, es, ep, hidT_get e ?_, d, r⟩
    by_cases n : b = a
    · subst n
      rw [ha] at e; cases e
      have d' : Data.seq vs.toArray _ = Data.dict es ep := d
      cases d'
    · exact free n
  refine ⟨⟨rfl, ⟨kin, ns hns, ⟨mb, ns hb, hbb⟩, ?_⟩, fun b o e => of_hidT e, Nat.le_of_eq (hidT_size _ _), trivial, fun b q => absurd (show b ∈ ([] : List Addr) from q) (by simp), hok, .of_eq hg⟩, kin, ns hns⟩
  obtain ⟨mc, h1, h2⟩ := hlim
  exact ⟨mc, ns h1, h2⟩
theorem law_top {m : SM} {s₁ : Shared} {mb : Str → Option Value} {vs : List Value} {ns : List Int} {p : Str} (KX : K.In s₁.heap) (hns : s₁.heap.Ns mainGlobals mg) (hb : s₁.heap.Ns builtinsNs mb) (hbb : ∀ x : Str, x ≠ "__name__" → mb x = bootBuiltins x) (hlim : s₁.heap.NoLimit) (hg : s₁.gens = #[])
    (ha : s₁.heap.get? a = some { cls := .type "list", data := .seq vs.toArray }) (hi : IntsAre vs ns) (hl : ns.length ≤ sizeLine) (hr : Room (k + 1) callerA) (F : Fun K x qual st f fd) (Sc : FnScope N [p] (defScope st)) (hbind : ∀ (s : Shared) (u : Value), BindsTo s fd ⟨[u], []⟩ [(p, u)])
    (body : ∀ base : Heap, K.In base → base.Ns mainGlobals mg → TopB P w K mg base N qual st f k m) (good : runA N.length m [.scr (ns.map .int)] = some (.ok (.bl true))) :
    codeAny (model P w) callerA (.call (.ref f) ⟨[.ref a], []⟩) (Told s₁) s₁ := by
  have rv := vals_ints hi
  cases hk : K.lookup a with
  | some o =>
    have e := KX a o hk
    rw [ha] at e
    cases e
    obtain ⟨e0, k0, n0⟩ := entry (P := P) (w := w) (H := fun _ => none) KX hns hb hbb hlim hg ha (fun b u z => by have z' : (none : Option HO) = some u := z; cases z') (fun b z => absurd rfl z) (fun z => absurd rfl z)
    exact run_top F Sc hr (body _ k0 n0) e0 (hbind _ _) (.inr ⟨_, vs.toArray, _, hk, rfl, rfl, rfl, by rw [List.size_toArray, hi.length]; exact hl, by simpa using rv⟩) (fun _ => .inl rfl) good
  | none =>
    obtain ⟨e0, k0, n0⟩ := entry (P := P) (w := w) (H := fun b => if b = a then some (.frz { cls := .type "list", data := .seq vs.toArray } (.lst (ns.map V.int))) else none) KX hns hb hbb hlim hg ha (fun b u z => by
      by_cases n : b = a
      · have z' := (if_pos n).symm.trans z
        cases z'
        subst n
        exact ⟨ha, by rw [List.length_map]; exact hl, vs, _, rv, ha⟩
      · have z' := (if_neg n).symm.trans z
        cases z') (fun b z => by
      by_cases n : b = a
      · exact n
      · exact absurd (if_neg n) z) (fun _ => hk)
    refine run_top F Sc hr (body _ k0 n0) e0 (hbind _ _) (.inl (.inr ⟨{ cls := .type "list", data := .seq vs.toArray }, if_pos rfl⟩)) (fun b => ?_) good
    by_cases n : b = a
    · exact .inr ⟨_, _, if_pos n⟩
    · exact .inl (if_neg n)
end
theorem walk_dlG {l : PySem.W.OpenLaw} {k : Nat} {q : Program} {loose : List Str} {XP : (Str → Option Value) → Heap → Prop} {YP : World → Heap → Prop} {d : DefRec} {K : Params → PySem.W.Frag} {x qual : Str} {st : Stmt} {N : List Str} {m : SM} (hn : l.most = some 63) (hdf : d.params.defaults = []) (hr : Room (k + 1) callerA)
    (hY : ∀ (w : World) (h : Heap), YP w h → (K w.params).In h) (Sc : FnScope N ["script"] (defScope st))
    (F : ∀ (w : World) (mg : Str → Option Value) (fa : Addr) (h : Heap), (K w.params).In h → h.Ns mainGlobals mg → mg d.name = some (.ref fa) →
      ∃ fd : FuncData, Fun (K w.params) x qual st fa fd ∧ (∀ (s : Shared) (u : Value), BindsTo s fd ⟨[u], []⟩ [("script", u)]) ∧ ∀ base : Heap, (K w.params).In base → base.Ns mainGlobals mg → TopB l.prog w (K w.params) mg base N qual st fa k m)
    (good : ∀ ns : List Int, ns.length ≤ 63 → (∀ z ∈ ns, Builtin.Int.intBits z ≤ 1048576) → runA N.length m [.scr (ns.map .int)] = some (.ok (.bl true))) :
    PySem.W.WalkO q loose XP YP l.row.toRowW d [] (fun f vs => PySem.call f vs) := by
  refine Att.attach_callB hn hdf fun w s₀ s₁ mg mb fa o pm cd doc a vs ns G Y ho hd hcd hmg hobj hints hlen hbits hg => ?_
  have KX := hY w _ Y
  obtain ⟨fd, hF, hbind, body⟩ := F w mg fa _ KX G.T.g hmg
  exact law_top KX G.T.g G.T.b G.T.builtins G.T.nolimit hg hobj hints (Nat.le_trans hlen (by decide)) hr hF Sc hbind body (good ns hlen hbits)
end DL
namespace DL
open PySem L2
/-! ### repr of data -/
section
variable {K : PySem.W.Frag} {X : Cx} {W : WX} {e a b c : Expr} {es : List Expr} {pos : Pos}
def rReprT (K : PySem.W.Frag) : List V → Hp → VK → Prop := fun xs H Q => ∃ x d, xs = [x] ∧ Dp K H x d ∧ PyData.canLay0 d = true ∧ d.depth ≤ 64 ∧ d.showable = true ∧ d.shown.length ≤ sizeLine ∧ Q (.str d.shown) H
theorem call_reprT (hg : X.A.guards = some []) (hu : X.A.units + 66 < cLine) : CallR X (.builtin "repr") (rReprT X.K) := by
  intro pins s σ H xs us Q I rs h
  obtain ⟨x, d, rfl, hd, hc, hdep, hs, hz, q⟩ := h
  cases rs with
  | cons rx r =>
  cases r
  rename_i v
  have ref : ∀ (p : Addr), x = .ref p → wpAny (model X.prog X.w) X.A (call (.builtin "repr") [v]) (EP X pins σ Q) X.xe s := fun p e => by
    subst e
    obtain ⟨as, r1⟩ := Dp.reads I d _ v hd rx
    obtain rfl : v = Value.ref p := rx
    exact PySem.repr_of_reads' r1 hs (PyData.noDict_hsm (PyData.hasDict_of_canLay d hc)) hg (by omega) (fun _ _ q => q) (fun h' u tk hk => ⟨.str _, H, I.kept hk, ⟨_, rfl⟩, q⟩) hz
  cases hd with
  | non => obtain rfl : v = Value.none := rx; exact PySem.P.repr_of_none ⟨.str _, H, I.tok _, ⟨_, rfl⟩, q⟩
  | bl b => obtain rfl : v = Value.bool b := rx; exact PySem.P.repr_of_bool ⟨.str _, H, I.tok _, ⟨_, rfl⟩, by cases b <;> exact q⟩
  | int i =>
    obtain ⟨t, rfl⟩ := rx
    have hs' : decide (i.natAbs.log2 < 1920) = true := hs
    exact PySem.P.repr_of_int (of_decide_eq_true hs') ⟨.str _, H, I.tok _, ⟨_, rfl⟩, q⟩
  | str y => obtain ⟨t, rfl⟩ := rx; exact PySem.P.repr_of_str ⟨.str _, H, I.tok _, ⟨_, rfl⟩, q⟩ hz
  | lst h1 h2 => exact ref _ rfl
  | tup h1 h2 => exact ref _ rfl
mutual
def showD : D → Bool
  | .int i => logOk i
  | .lst xs => showDs xs
  | .tup xs => showDs xs
  | .ktup xs => showDs xs
  | .klst xs => showDs xs
  | .non => true
  | .bl _ => true
  | .str _ => true
  | _ => false
def showDs : List D → Bool
  | [] => true
  | x :: xs => showD x && showDs xs
end
/-! what a text of it has at most -/
mutual
def rb : D → Nat
  | .int i => (intS i).length
  | .str x => (reprText x).length
  | .lst xs => rbs xs + 3
  | .tup xs => rbs xs + 3
  | .ktup xs => rbs xs + 3
  | .klst xs => rbs xs + 3
  | _ => 5
def rbs : List D → Nat
  | [] => 0
  | x :: xs => rb x + 2 + rbs xs
end
mutual
theorem showD_ok : ∀ d : D, showD d = true → (toP d).showable = true
  | .non, _ => by simp [toP, PyData.showable]
  | .bl _, _ => by simp [toP, PyData.showable]
  | .int i, h => h
  | .str x, _ => by simp [toP, PyData.showable]
  | .lst xs, h => by
    show PyData.showable (.list (toPs xs)) = true
    simp only [PyData.showable]
    exact showDs_ok xs h
  | .tup xs, h => by
    show PyData.showable (.tuple (toPs xs)) = true
    simp only [PyData.showable]
    exact showDs_ok xs h
  | .klst xs, h => by
    show PyData.showable (.list (toPs xs)) = true
    simp only [PyData.showable]
    exact showDs_ok xs h
  | .ktup xs, h => by
    show PyData.showable (.tuple (toPs xs)) = true
    simp only [PyData.showable]
    exact showDs_ok xs h
  | .dK _, h => by cases h
  | .dT _, h => by cases h
  | .fn _, h => by cases h
  | .scr _, h => by cases h
  | .ty _, h => by cases h
  | .rng _ _, h => by cases h
theorem showDs_ok : ∀ d : List D, showDs d = true → PyData.showableAll (toPs d) = true
  | [], _ => by simp [toPs, PyData.showableAll]
  | x :: xs, h => by
    have h : (showD x && showDs xs) = true := h
    rw [Bool.and_eq_true] at h
    show PyData.showableAll (toP x :: toPs xs) = true
    simp only [PyData.showableAll]
    rw [showD_ok x h.1, showDs_ok xs h.2]; rfl
end
theorem none_len : (PyData.shown .none).length ≤ 5 := by decide +kernel
theorem bool_len (b : Bool) : (PyData.shown (.bool b)).length ≤ 5 := by cases b <;> decide +kernel
mutual
theorem rb_ok : ∀ d : D, okD d = true → (toP d).shown.length ≤ rb d
  | .non, _ => none_len
  | .bl b, _ => bool_len b
  | .int i, _ => by
    show (PyData.shown (.int i)).length ≤ (intS i).length
    simp only [PyData.shown]
    exact Nat.le_refl _
  | .str x, _ => by
    show (PyData.shown (.str x)).length ≤ (reprText x).length
    simp only [PyData.shown]
    exact Nat.le_refl _
  | .lst xs, h => by
    show (PyData.shown (.list (toPs xs))).length ≤ rbs xs + 3
    simp only [PyData.shown]
    have a := listText_len_le (PyData.shownAll (toPs xs))
    have b := rbs_ok xs h
    omega
  | .tup xs, h => by
    show (PyData.shown (.tuple (toPs xs))).length ≤ rbs xs + 3
    simp only [PyData.shown]
    have a := tupleText_len_le (PyData.shownAll (toPs xs))
    have b := rbs_ok xs h
    omega
  | .klst xs, h => by
    show (PyData.shown (.list (toPs xs))).length ≤ rbs xs + 3
    simp only [PyData.shown]
    have a := listText_len_le (PyData.shownAll (toPs xs))
    have b := rbs_ok xs h
    omega
  | .ktup xs, h => by
    show (PyData.shown (.tuple (toPs xs))).length ≤ rbs xs + 3
    simp only [PyData.shown]
    have a := tupleText_len_le (PyData.shownAll (toPs xs))
    have b := rbs_ok xs h
    omega
  | .dK _, h => by cases h
  | .dT _, h => by cases h
  | .fn _, h => by cases h
  | .scr _, h => by cases h
  | .ty _, h => by cases h
  | .rng _ _, h => by cases h
theorem rbs_ok : ∀ d : List D, okDs d = true → ((PyData.shownAll (toPs d)).map (·.length)).sum + 2 * (PyData.shownAll (toPs d)).length ≤ rbs d
  | [], _ => by
    have e : PyData.shownAll (toPs []) = [] := by show PyData.shownAll [] = []; simp only [PyData.shownAll]
    rw [e]; simp [rbs]
  | x :: xs, h => by
    have h : (okD x && okDs xs) = true := h
    rw [Bool.and_eq_true] at h
    have e : PyData.shownAll (toPs (x :: xs)) = (toP x).shown :: PyData.shownAll (toPs xs) := by show PyData.shownAll (toP x :: toPs xs) = _; simp only [PyData.shownAll]
    have a := rb_ok x h.1
    have b := rbs_ok xs h.2
    rw [e, List.map_cons, List.sum_cons, List.length_cons]
    show _ ≤ rb x + 2 + rbs xs
    omega
end
def reprD (d : D) : Str := (toP d).shown
def dRepr (d : D) : Option D := if (shp d && showD d) = true then if rb d ≤ 1000000 then some (.str (reprD d)) else none else none
theorem cd_repr (hg : X.A.guards = some []) (hu : X.A.units + 66 < cLine) : CallD K X (.builtin "repr") (rReprT K) (g1 dRepr) := ⟨fun k => by rw [← k]; exact call_reprT hg hu, g1_ok fun x d c Z H Q s hx hg p => by
  unfold dRepr at hg
  split at hg
  · rename_i h1
    split at hg
    · rename_i h2
      cases hg
      rw [Bool.and_eq_true] at h1
      have h0 := h1.1
      unfold shp at h0
      rw [Bool.and_eq_true, decide_eq_true_eq] at h0
      exact ⟨x, toP d, rfl, hx.dp s (shaped_can h1.1), shaped_can h1.1, by rw [depD_dep d h0.1]; exact h0.2, showD_ok d h1.2, Nat.le_trans (rb_ok d h0.1) (size_le h2), p _ Z H (ExtP.refl s) (.str _)⟩
    · cases hg
  · cases hg⟩
theorem units66 {k : Nat} {A : Around} (r : Room k A) : A.units + 66 < cLine := by have := r.un; omega
end
end DL
namespace DL
open PySem L2
section
variable {K : PySem.W.Frag} {X : Cx} {W : WX} {e a b c : Expr} {es : List Expr} {pos : Pos}
/-! ### order of ints, texts, truths -/
def lexS (x y : Str) : Bool := decide (x.cps.toList < y.cps.toList)
def b2n (b : Bool) : Int := if b then 1 else 0
def dLt2 : D → D → Option D
  | .int i, .int j => some (.bl (decide (i < j)))
  | .str x, .str y => some (.bl (lexS x y))
  | .bl p, .bl q => some (.bl (decide (b2n p < b2n q)))
  | _, _ => none
def dLe2 : D → D → Option D
  | .int i, .int j => some (.bl (decide (i ≤ j)))
  | .str x, .str y => some (.bl (!lexS y x))
  | .bl p, .bl q => some (.bl (decide (b2n p ≤ b2n q)))
  | _, _ => none
theorem bool_dLt2 : boolD dLt2 := fun d e c h => by
  unfold dLt2 at h
  split at h <;> first | (cases h; exact ⟨_, rfl⟩) | cases h
theorem bool_dLe2 : boolD dLe2 := fun d e c h => by
  unfold dLe2 at h
  split at h <;> first | (cases h; exact ⟨_, rfl⟩) | cases h
theorem op_lt_bl : OpR X (compareOp .Lt) (fun x y H Q => ∃ p q, x = .bl p ∧ y = .bl q ∧ Q (.bl (decide (b2n p < b2n q))) H) := by
  intro pins s σ H x y v u Q I rx ry h
  obtain ⟨p, r, rfl, rfl, q⟩ := h
  cases (show v = Value.bool p from rx)
  cases (show u = Value.bool r from ry)
  exact PyProof.Rows.lt_bool ⟨.bl _, H, I, rfl, by cases p <;> cases r <;> exact q⟩
theorem op_le_bl : OpR X (compareOp .LtE) (fun x y H Q => ∃ p q, x = .bl p ∧ y = .bl q ∧ Q (.bl (decide (b2n p ≤ b2n q))) H) := by
  intro pins s σ H x y v u Q I rx ry h
  obtain ⟨p, r, rfl, rfl, q⟩ := h
  cases (show v = Value.bool p from rx)
  cases (show u = Value.bool r from ry)
  exact PyProof.Rows.le_bool ⟨.bl _, H, I, rfl, by cases p <;> cases r <;> exact q⟩
theorem od_lt2 : OpD K X (compareOp .Lt) (fun x y H Q => rI0 (fun i j => .bl (decide (i < j))) x y H Q ∨ (∃ i j, x = .str i ∧ y = .str j ∧ Q (.bl (decide (i.cps.toList < j.cps.toList))) H) ∨ ∃ p q, x = .bl p ∧ y = .bl q ∧ Q (.bl (decide (b2n p < b2n q))) H) dLt2 where
  op := fun _ pins s σ H x y v u Q I rx ry h => by
    rcases h with h | h | h
    · exact op_lt pins s σ H x y v u Q I rx ry h
    · exact op_lt_str pins s σ H x y v u Q I rx ry h
    · exact op_lt_bl pins s σ H x y v u Q I rx ry h
  ok := by
    intro x y d e c Z H Q s hx hy hg p
    unfold dLt2 at hg
    split at hg
    · cases hx; cases hy; cases hg; exact .inl ⟨_, _, rfl, rfl, p _ Z H (ExtP.refl s) (.bl _)⟩
    · cases hx; cases hy; cases hg; exact .inr (.inl ⟨_, _, rfl, rfl, p _ Z H (ExtP.refl s) (.bl _)⟩)
    · cases hx; cases hy; cases hg; exact .inr (.inr ⟨_, _, rfl, rfl, p _ Z H (ExtP.refl s) (.bl _)⟩)
    · cases hg
theorem od_le2 : OpD K X (compareOp .LtE) (fun x y H Q => rI0 (fun i j => .bl (decide (i ≤ j))) x y H Q ∨ (∃ i j, x = .str i ∧ y = .str j ∧ Q (.bl (!decide (j.cps.toList < i.cps.toList))) H) ∨ ∃ p q, x = .bl p ∧ y = .bl q ∧ Q (.bl (decide (b2n p ≤ b2n q))) H) dLe2 where
  op := fun _ pins s σ H x y v u Q I rx ry h => by
    rcases h with h | h | h
    · exact op_le pins s σ H x y v u Q I rx ry h
    · exact op_le_str pins s σ H x y v u Q I rx ry h
    · exact op_le_bl pins s σ H x y v u Q I rx ry h
  ok := by
    intro x y d e c Z H Q s hx hy hg p
    unfold dLe2 at hg
    split at hg
    · cases hx; cases hy; cases hg; exact .inl ⟨_, _, rfl, rfl, p _ Z H (ExtP.refl s) (.bl _)⟩
    · cases hx; cases hy; cases hg; exact .inr (.inl ⟨_, _, rfl, rfl, p _ Z H (ExtP.refl s) (.bl _)⟩)
    · cases hx; cases hy; cases hg; exact .inr (.inr ⟨_, _, rfl, rfl, p _ Z H (ExtP.refl s) (.bl _)⟩)
    · cases hg
/-! ### is True, is False -/
def dIs : D → D → Option D
  | .bl p, .bl q => some (.bl (decide (p = q)))
  | _, _ => none
def dIsN : D → D → Option D
  | .bl p, .bl q => some (.bl (!decide (p = q)))
  | _, _ => none
theorem bool_dIs : boolD dIs := fun d e c h => by
  unfold dIs at h
  split at h <;> first | (cases h; exact ⟨_, rfl⟩) | cases h
theorem bool_dIsN : boolD dIsN := fun d e c h => by
  unfold dIsN at h
  split at h <;> first | (cases h; exact ⟨_, rfl⟩) | cases h
theorem od_is : OpD K X (compareOp .Is) rIsB dIs := ⟨fun _ => op_isBl, by
    intro x y d e c Z H Q s hx hy hg p
    unfold dIs at hg
    split at hg
    · cases hx; cases hy; cases hg; exact ⟨_, _, rfl, rfl, p _ Z H (ExtP.refl s) (.bl _)⟩
    · cases hg⟩
theorem od_isn : OpD K X (compareOp .IsNot) rNotB dIsN := ⟨fun _ => op_notBl, by
    intro x y d e c Z H Q s hx hy hg p
    unfold dIsN at hg
    split at hg
    · cases hx; cases hy; cases hg; exact ⟨_, _, rfl, rfl, p _ Z H (ExtP.refl s) (.bl _)⟩
    · cases hg⟩
/-! ### lists one behind the other -/
def rCatL (K : PySem.W.Frag) : R2 := fun x y H Q => ∃ l b xs zs, x = .ref l ∧ y = .ref b ∧ SqL K H l xs ∧ SqL K H b zs ∧ xs.length + zs.length ≤ sizeLine ∧ ∀ p, H p = none → Q (.ref p) (upd H p (.lst (xs ++ zs)))
theorem op_catL : OpR X (binaryOp .Add) (rCatL X.K) := by
  intro pins s σ H x y v u Q I rx ry h
  obtain ⟨l, b, xs, zs, rfl, rfl, hx, hy, hz, q⟩ := h
  obtain rfl : v = Value.ref l := rx
  obtain rfl : u = Value.ref b := ry
  obtain ⟨its, r, ⟨⟨cls, dd, data, sl⟩, n, ho, hc, hdn, hd⟩, _⟩ := I.list hx
  obtain ⟨its2, r2, ⟨⟨cls2, dd2, data2, sl2⟩, n2, ho2, hc2, hdn2, hd2⟩, _⟩ := I.list hy
  simp only at hc hd hdn hc2 hd2 hdn2
  subst hc hd hdn hc2 hd2 hdn2
  have hl := r.length
  have hl2 := r2.length
  refine concat_meets ⟨_, ho, rfl⟩ ⟨_, ho2, rfl⟩ noFill_list_add seq_list_add PySem.F.slot_list_add PySem.F.entry_list_add (PySem.F.args_list_add_2 _ _) (PyProof.Rows.list_addW l b its.toArray its2.toArray n n2 none none sl sl2 (by simp; omega)) ⟨ho, ho2, ?_⟩
  have e : its.toArray ++ its2.toArray = (its ++ its2).toArray := by simp
  rw [e]
  exact ⟨.ref _, _, I.lnew (t' := s.toks) (r.append r2) (by rw [List.length_append]; omega), rfl, q _ I.fresh⟩
def dAdd2 : D → D → Option D
  | .int i, .int j => some (.int (i + j))
  | .str x, .str y => if x.length + y.length ≤ 1000000 then some (.str (x ++ y)) else none
  | .lst x, .lst y => if x.length + y.length ≤ 1000000 then some (.lst (x ++ y)) else none
  | _, _ => none
theorem od_add2 : OpD K X (binaryOp .Add) (fun x y H Q => rI0 (fun i j => .int (i + j)) x y H Q ∨ (∃ i j, x = .str i ∧ y = .str j ∧ i.length + j.length ≤ sizeLine ∧ Q (.str (i ++ j)) H) ∨ rCatL K x y H Q) dAdd2 where
  op := fun k pins s σ H x y v u Q I rx ry h => by
    subst k
    rcases h with h | h | h
    · exact op_add pins s σ H x y v u Q I rx ry h
    · exact op_add_str pins s σ H x y v u Q I rx ry h
    · exact op_catL pins s σ H x y v u Q I rx ry h
  ok := by
    intro x y d e c Z H Q s hx hy hg p
    unfold dAdd2 at hg
    split at hg
    · cases hx; cases hy; cases hg
      exact .inl ⟨_, _, rfl, rfl, p _ Z H (ExtP.refl s) (.int _)⟩
    · split at hg
      · rename_i hl
        cases hx; cases hy; cases hg
        exact .inr (.inl ⟨_, _, rfl, rfl, size_le hl, p _ Z H (ExtP.refl s) (.str _)⟩)
      · cases hg
    · split at hg
      · rename_i hl
        cases hg
        cases hx with
        | lst h1 h2 =>
        cases hy with
        | lst h3 h4 =>
        exact .inr (.inr ⟨_, _, _, _, rfl, rfl, .inl (same_rd s h1), .inl (same_rd s h3), by rw [h2.length, h4.length]; exact size_le hl, fun l hl => p _ _ _ (ExtP.new s hl) (.lst (.inl upd_same) ((h2.append h4).mono (same_upd (none_of s hl))))⟩)
      · cases hg
    · cases hg
end
end DL
namespace DL
open PySem L2
section
variable {K : PySem.W.Frag} {X : Cx} {W : WX} {e a b c tg iter tg1 iter1 elt : Expr} {es : List Expr} {pos : Pos}
/-! ### a comprehension with two fors -/
theorem RepV.mono2 {Z Z' : Hp} {I I' : List Addr} (z : Same Z Z') (i : ∃ t, I' = I ++ t) {v : V} : ∀ {d : DV}, RepV K Z I v d → RepV K Z' I' v d
  | .p _, h => Rep.mono z h
  | .o n, ⟨a, h, q⟩ => by
    obtain ⟨t, rfl⟩ := i
    exact ⟨a, by rw [List.getElem?_append_left (List.getElem?_eq_some_iff.mp h).1]; exact h, q⟩
theorem RepS.mono2 {Z Z' : Hp} {I I' : List Addr} {σ : St} {l : List (Option DV)} (r : RepS K Z I σ l) (z : Same Z Z') (i : ∃ t, I' = I ++ t) : RepS K Z' I' σ l := ⟨r.len, fun n dv h => by
  obtain ⟨v, h1, h2⟩ := r.at_ n dv h
  exact ⟨v, h1, h2.mono2 z i⟩⟩
theorem ex_app {I1 I2 I3 : List Addr} (a : ∃ t, I2 = I1 ++ t) (b : ∃ t, I3 = I2 ++ t) : ∃ t, I3 = I1 ++ t := by
  obtain ⟨t, rfl⟩ := a
  obtain ⟨u, rfl⟩ := b
  exact ⟨t ++ u, by rw [List.append_assoc]⟩
abbrev HG (K : PySem.W.Frag) (g : TG) (gm : GM) (ix : List Nat) : Prop := ∀ (v : V) (dv : DV) (σ : St) (H : Hp) (s s' : S) (Z : Hp) (I : List Addr) (Q : St → Hp → Prop), Wf K Z H I s.m → RepS K Z I σ s.l → RepV K Z I v dv → gm dv s = some s' →
      (∀ σ' Z' H' I', Wf K Z' H' I' s'.m → RepS K Z' I' σ' s'.l → Ext Z H I Z' H' I' → (∀ vs, (∀ i ∈ ix, i ∈ vs) → L2.wipe σ' vs = L2.wipe σ vs) → Q σ' H') → g v σ H Q
/-- the loop within -/
theorem inner_ok {g1 : TG} {tt1 : TT} {te : TE} {vs1 : List Nat} {gm1 : GM} {ix1 : List Nat} {t1 em : EM} (hg : HG K g1 gm1 ix1) (hix : ∀ i ∈ ix1, i ∈ vs1) (ht : Sound K WF RepB tt1 t1) (he : Sound K WF (RepV K) te em)
    {Z1 H1 : Hp} {I1 : List Addr} {D : Addr} (hD : H1 D = none) {σ2 : St} {l2 : List (Option DV)} {Z4 H4 : Hp} {I4 : List Addr} {M4 : List O} {J1 : It} {ds1 : List DV} (q : ItOk K Z4 I4 J1 ds1) (rs : RepS K Z4 I4 σ2 l2)
    {acc : List V} {bd : List DL.D} (f : Fill K Z1 H1 I1 D Z4 H4 I4 M4 acc bd) {ad : List DL.D} {Mf : List O} (e : compL (wipeL l2 vs1) gm1 t1 em ds1 bd M4 = some (ad, Mf)) {Nx : Hp → Prop} (k : ∀ Z' H' I' acc', Fill K Z1 H1 I1 D Z' H' I' Mf acc' ad → Nx H') :
    ∃ W1 : Nat → Nat → Hp → Prop, (∃ m, W1 0 m H4) ∧ ∀ j k H, W1 j k H → (J1.stop j H ∧ Nx H) ∨ (J1.go j H ∧ ∃ Nx1 : Hp → Prop, (∀ H', Nx1 H' → ∃ k', k' < k ∧ W1 (j + 1) k' H') ∧ ∀ x H', J1.yld j H x H' → g1 x (L2.wipe σ2 vs1) H' fun σ3 H5 => L2.wipe σ3 vs1 = L2.wipe σ2 vs1 ∧ tt1 σ3 H5 fun b H6 =>
        if b = true then te σ3 H6 fun y H7 => ∃ acc, H7 D = some (.lst acc) ∧ acc.length < sizeLine ∧ Nx1 (upd H7 D (.lst (acc ++ [y]))) else Nx1 H6) := by
  refine ⟨fun i m H' => m = ds1.length - i ∧ i ≤ ds1.length ∧ ∃ Z' I' M acc bd, Fill K Z1 H1 I1 D Z' H' I' M acc bd ∧ Same Z4 Z' ∧ (∃ t, I' = I4 ++ t) ∧ compL (wipeL l2 vs1) gm1 t1 em (ds1.drop i) bd M = some (ad, Mf), ⟨ds1.length, by simp, Nat.zero_le _, Z4, I4, M4, acc, bd, f, Same.refl _, ⟨[], by simp⟩, e⟩, ?_⟩
  rintro i m H' ⟨rfl, hil, Z', I', M, acc, bd, f, sz, si, e'⟩
  have Jo := q Z' H' I' sz si f.w.sub i
  by_cases hlt : i < ds1.length
  · right
    have hd : ds1[i]? = some ds1[i] := by simp [hlt]
    obtain ⟨go, yl⟩ := Jo.1 _ hd
    rw [List.drop_eq_getElem_cons hlt] at e'
    refine ⟨go, fun H2 => ∃ Z2 I2 M2 acc2 bd2, Fill K Z1 H1 I1 D Z2 H2 I2 M2 acc2 bd2 ∧ Same Z4 Z2 ∧ (∃ t, I2 = I4 ++ t) ∧ compL (wipeL l2 vs1) gm1 t1 em (ds1.drop (i + 1)) bd2 M2 = some (ad, Mf),
      fun H2 h2 => ⟨ds1.length - (i + 1), by omega, rfl, hlt, h2⟩, fun x H2 hx => ?_⟩
    obtain ⟨Z2, x2, rx⟩ := yl x H2 hx
    have f2 := f.step (f.w.extP x2) (x2.ext f.w)
    have sz2 := sz.trans x2.z
    have rs2 : RepS K Z2 I' (L2.wipe σ2 vs1) (wipeL l2 vs1) := (rs.mono2 sz2 si).wipe vs1
    unfold compL at e'
    cases zg : gm1 ds1[i] ⟨wipeL l2 vs1, M⟩ with
    | none => rw [zg] at e'; cases e'
    | some s1 =>
      rw [zg] at e'
      refine hg x ds1[i] (L2.wipe σ2 vs1) H2 ⟨wipeL l2 vs1, M⟩ s1 Z2 I' _ f2.w rs2 rx zg fun σ3 Z3 H3 I3 w3 rs3 x3 k3 => ?_
      have f3 := f2.step w3 x3
      have sz3 := sz2.trans x3.z
      have si3 := ex_app si x3.i
      refine ⟨(k3 vs1 hix).trans (wipe_wipe vs1 vs1 fun _ h => h), ?_⟩
      have e' : (match t1 s1 with
        | some (.ok (.p (.bl true)) M1) => match em ⟨s1.l, M1⟩ with
          | some (.ok (.p y) M2) => if bd.length < 1000000 then compL (wipeL l2 vs1) gm1 t1 em (ds1.drop (i + 1)) (bd ++ [y]) M2 else none
          | _ => none
        | some (.ok (.p (.bl false)) M1) => compL (wipeL l2 vs1) gm1 t1 em (ds1.drop (i + 1)) bd M1
        | _ => none) = some (ad, Mf) := e'
      cases zt : t1 s1 with
      | none => rw [zt] at e'; cases e'
      | some rt =>
        rw [zt] at e'
        refine ht.ok σ3 H3 s1 Z3 I3 rt _ w3 rs3 zt ?_
        cases rt with
        | ex c fs M4 => cases e'
        | ok d4 M4 =>
          intro b Z5 H5 I5 w4 x4 r4
          cases (show d4 = .p (.bl b) from r4)
          have f4 := f3.step w4 x4
          have sz4 := sz3.trans x4.z
          have si4 := ex_app si3 x4.i
          cases b with
          | false =>
            rw [if_neg Bool.false_ne_true]
            exact ⟨Z5, I5, M4, acc, bd, f4, sz4, si4, e'⟩
          | true =>
            rw [if_pos rfl]
            have e' : (match em ⟨s1.l, M4⟩ with
              | some (.ok (.p y) M2) => if bd.length < 1000000 then compL (wipeL l2 vs1) gm1 t1 em (ds1.drop (i + 1)) (bd ++ [y]) M2 else none
              | _ => none) = some (ad, Mf) := e'
            cases ze : em ⟨s1.l, M4⟩ with
            | none => rw [ze] at e'; cases e'
            | some re =>
              rw [ze] at e'
              refine he.ok σ3 H5 ⟨s1.l, M4⟩ Z5 I5 re _ w4 (rs3.mono x4) ze ?_
              cases re with
              | ex c fs M5 => cases e'
              | ok d5 M5 =>
                intro y Z6 H6 I6 w5 x5 r5
                have f5 := f4.step w5 x5
                cases d5 with
                | o n => cases e'
                | p d5 =>
                  have e' : (if bd.length < 1000000 then compL (wipeL l2 vs1) gm1 t1 em (ds1.drop (i + 1)) (bd ++ [d5]) M5 else none) = some (ad, Mf) := e'
                  split at e'
                  · rename_i hlen
                    refine ⟨acc, f5.at_, by rw [f5.r.length]; exact size_lt (Nat.le_of_lt hlen), ?_⟩
                    exact ⟨Z6, I6, M5, _, _, f5.put hD r5, sz4.trans x5.z, ex_app si4 x5.i, e'⟩
                  · cases e'
  · left
    have e0 : ds1.drop i = [] := List.drop_eq_nil_of_le (by omega)
    rw [e0] at e'
    cases e'
    exact ⟨Jo.2 (by omega), k Z' H' I' acc f⟩
def compL2 (l : List (Option DV)) (g : GM) (t : EM) (it1 : IM) (g1 : GM) (t1 e : EM) (vs1 : List Nat) : List DV → List D → List O → Option (List D × List O)
  | [], acc, M => some (acc, M)
  | d :: ds, acc, M => match g d ⟨l, M⟩ with
    | none => none
    | some s1 => match t s1 with
      | some (.ok (.p (.bl true)) M1) => match it1 ⟨s1.l, M1⟩ with
        | some (.ok ds1 M2) => match compL (wipeL s1.l vs1) g1 t1 e ds1 acc M2 with
          | some (acc', M3) => compL2 l g t it1 g1 t1 e vs1 ds acc' M3
          | none => none
        | _ => none
      | some (.ok (.p (.bl false)) M1) => compL2 l g t it1 g1 t1 e vs1 ds acc M1
      | _ => none
def mLc2 (it : IM) (vs : List Nat) (g : GM) (t : EM) (it1 : IM) (vs1 : List Nat) (g1 : GM) (t1 e : EM) : EM := bnd it fun ds s => match compL2 (wipeL s.l vs) g t it1 g1 t1 e vs1 ds [] s.m with
  | some (acc, M) => some (.ok (.p (.lst acc)) M)
  | none => none
theorem tLc2_ok {wi wi1 : TI} {g g1 : TG} {tt tt1 : TT} {te : TE} {vs vs1 : List Nat} {it it1 : IM} {gm gm1 : GM} {ix ix1 : List Nat} {t t1 em : EM} (hi : Sound K W (ItOk K) wi it) (hg : HG K g gm ix) (hix : ∀ i ∈ ix, i ∈ vs) (ht : Sound K WF RepB tt t)
    (hi1 : Sound K WF (ItOk K) wi1 it1) (hg1 : HG K g1 gm1 ix1) (hix1 : ∀ i ∈ ix1, i ∈ vs1) (ht1 : Sound K WF RepB tt1 t1) (he : Sound K WF (RepV K) te em) {σ : St} {H : Hp} {s : S} {Z : Hp} {I : List Addr} {r : Rs DV} {Q : VK} {k : List D → List O → Rs DV} (w : Wf K Z H I s.m) (rs : RepS K Z I σ s.l)
    (e : bnd it (fun ds s => match compL2 (wipeL s.l vs) gm t it1 gm1 t1 em vs1 ds [] s.m with | some (acc, M) => some (k acc M) | none => none) s = some r) (px : ∀ c fs M, r = .ex c fs M → PostX K W Z H I σ M c fs)
    (hk : ∀ Z1 H1 I1 D Z' H' I' M acc ad, r = k ad M → H1 D = none → Ext Z H I Z1 H1 I1 → Fill K Z1 H1 I1 D Z' H' I' M acc ad → Q (.ref D) H') : tLc2 wi g tt wi1 g1 tt1 te vs vs1 σ H Q := by
  refine hi.bnd w rs e px fun ds J M1 Z1 H1 I1 w1 rs1 x1 q1 e1 => ?_
  have e1 : (match compL2 (wipeL s.l vs) gm t it1 gm1 t1 em vs1 ds [] M1 with | some (acc, M) => some (k acc M) | none => none) = some r := e1
  cases zc : compL2 (wipeL s.l vs) gm t it1 gm1 t1 em vs1 ds [] M1 with
  | none => rw [zc] at e1; cases e1
  | some am =>
    rw [zc] at e1
    obtain ⟨ad, Mf⟩ := am
    have e1 : some (k ad Mf) = some r := e1
    intro D hD
    have f0 : Fill K Z1 H1 I1 D Z1 (upd H1 D (.lst [])) I1 M1 [] [] := by
      refine ⟨⟨fun a u q => by rw [upd_ne (ne_of_none (w1.sub a u q) hD)]; exact w1.sub a u q, w1.len, w1.nd, fun a m => by rw [upd_ne (fun q => w1.tr a m (by rw [q]; exact hD))]; exact w1.tr a m, fun n a o h1 h2 h3 => ?_⟩, ⟨Same.refl _, ⟨[], by simp⟩, fun a o q _ => by rw [upd_ne (ne_of_none q hD)]; exact q, fun _ m => .inl m, fun _ m => .inl m, fun a q => by rw [upd_ne (fun y => q (by rw [y]; exact hD))]; exact q⟩, upd_same, none_of w1.sub hD, fun m => w1.tr D m hD, .nil⟩
      obtain ⟨q1, q2⟩ := w1.ob n a o h1 h2 h3
      exact ⟨q1, q2.mono (Same.refl _) (upd_ne fun q => w1.tr a (List.mem_of_getElem? h1) (by rw [q]; exact hD))⟩
    refine ⟨fun i m H' => m = ds.length - i ∧ i ≤ ds.length ∧ ∃ Z' I' M acc bd, Fill K Z1 H1 I1 D Z' H' I' M acc bd ∧ compL2 (wipeL s.l vs) gm t it1 gm1 t1 em vs1 (ds.drop i) bd M = some (ad, Mf), ⟨ds.length, by simp, Nat.zero_le _, Z1, I1, M1, [], [], f0, zc⟩, ?_⟩
    rintro i m H' ⟨rfl, hil, Z', I', M, acc, bd, f, e'⟩
    have Jo := q1 Z' H' I' f.x.z f.x.i f.w.sub i
    by_cases hlt : i < ds.length
    · right
      have hd : ds[i]? = some ds[i] := by simp [hlt]
      obtain ⟨go, yl⟩ := Jo.1 _ hd
      rw [List.drop_eq_getElem_cons hlt] at e'
      refine ⟨go, fun H2 => ∃ Z2 I2 M2 acc2 bd2, Fill K Z1 H1 I1 D Z2 H2 I2 M2 acc2 bd2 ∧ compL2 (wipeL s.l vs) gm t it1 gm1 t1 em vs1 (ds.drop (i + 1)) bd2 M2 = some (ad, Mf),
        fun H2 h2 => ⟨ds.length - (i + 1), by omega, rfl, hlt, h2⟩, fun x H2 hx => ?_⟩
      obtain ⟨Z2, x2, rx⟩ := yl x H2 hx
      have f2 := f.step (f.w.extP x2) (x2.ext f.w)
      have rs2 : RepS K Z2 I' (L2.wipe σ vs) (wipeL s.l vs) := ((rs1.mono f2.x)).wipe vs
      unfold compL2 at e'
      cases zg : gm ds[i] ⟨wipeL s.l vs, M⟩ with
      | none => rw [zg] at e'; cases e'
      | some s1 =>
        rw [zg] at e'
        refine hg x ds[i] (L2.wipe σ vs) H2 ⟨wipeL s.l vs, M⟩ s1 Z2 I' _ f2.w rs2 rx zg fun σ3 Z3 H3 I3 w3 rs3 x3 k3 => ?_
        have f3 := f2.step w3 x3
        refine ⟨(k3 vs hix).trans (wipe_wipe vs vs fun _ h => h), ?_⟩
        have e' : (match t s1 with
          | some (.ok (.p (.bl true)) M1) => match it1 ⟨s1.l, M1⟩ with
            | some (.ok ds1 M2) => match compL (wipeL s1.l vs1) gm1 t1 em ds1 bd M2 with
              | some (acc', M3) => compL2 (wipeL s.l vs) gm t it1 gm1 t1 em vs1 (ds.drop (i + 1)) acc' M3
              | none => none
            | _ => none
          | some (.ok (.p (.bl false)) M1) => compL2 (wipeL s.l vs) gm t it1 gm1 t1 em vs1 (ds.drop (i + 1)) bd M1
          | _ => none) = some (ad, Mf) := e'
        cases zt : t s1 with
        | none => rw [zt] at e'; cases e'
        | some rt =>
          rw [zt] at e'
          refine ht.ok σ3 H3 s1 Z3 I3 rt _ w3 rs3 zt ?_
          cases rt with
          | ex c fs M4 => cases e'
          | ok d4 M4 =>
            intro b Z4 H4 I4 w4 x4 r4
            cases (show d4 = .p (.bl b) from r4)
            have f4 := f3.step w4 x4
            cases b with
            | false =>
              rw [if_neg Bool.false_ne_true]
              exact ⟨Z4, I4, M4, acc, bd, f4, e'⟩
            | true =>
              rw [if_pos rfl]
              have e' : (match it1 ⟨s1.l, M4⟩ with
                | some (.ok ds1 M2) => match compL (wipeL s1.l vs1) gm1 t1 em ds1 bd M2 with
                  | some (acc', M3) => compL2 (wipeL s.l vs) gm t it1 gm1 t1 em vs1 (ds.drop (i + 1)) acc' M3
                  | none => none
                | _ => none) = some (ad, Mf) := e'
              cases zi : it1 ⟨s1.l, M4⟩ with
              | none => rw [zi] at e'; cases e'
              | some ri =>
                rw [zi] at e'
                refine hi1.ok σ3 H4 ⟨s1.l, M4⟩ Z4 I4 ri _ w4 (rs3.mono x4) zi ?_
                cases ri with
                | ex c fs M5 => cases e'
                | ok ds1 M5 =>
                  intro J1 Z5 H5 I5 w5 x5 q5
                  have f5 := f4.step w5 x5
                  have e' : (match compL (wipeL s1.l vs1) gm1 t1 em ds1 bd M5 with
                    | some (acc', M3) => compL2 (wipeL s.l vs) gm t it1 gm1 t1 em vs1 (ds.drop (i + 1)) acc' M3
                    | none => none) = some (ad, Mf) := e'
                  cases zl : compL (wipeL s1.l vs1) gm1 t1 em ds1 bd M5 with
                  | none => rw [zl] at e'; cases e'
                  | some am =>
                    rw [zl] at e'
                    obtain ⟨ad1, M6⟩ := am
                    have e' : compL2 (wipeL s.l vs) gm t it1 gm1 t1 em vs1 (ds.drop (i + 1)) ad1 M6 = some (ad, Mf) := e'
                    exact inner_ok hg1 hix1 ht1 he hD q5 ((rs3.mono x4).mono x5) f5 zl fun Z7 H7 I7 acc7 f7 => ⟨Z7, I7, M6, acc7, ad1, f7, e'⟩
    · left
      have e0 : ds.drop i = [] := List.drop_eq_nil_of_le (by omega)
      rw [e0] at e'
      cases e'
      exact ⟨Jo.2 (by omega), hk Z1 H1 I1 D Z' H' I' _ acc _ (Option.some.inj e1).symm hD x1 f⟩
section
variable {ifs ifs1 : List Expr} {scope : Scope} {own : List (Str × Nat)} {wi wi1 : TI} {g g1 : TG} {tt tt1 : TT} {te : TE} {it it1 : IM} {gm gm1 : GM} {ix ix1 : List Nat} {t t1 em : EM}
theorem so_lc2 {vs vs1 : List Nat} (hi : Sound K W (ItOk K) wi it) (hg : HG K g gm ix) (hix : ∀ i ∈ ix, i ∈ vs) (ht : Sound K WF RepB tt t) (hi1 : Sound K WF (ItOk K) wi1 it1) (hg1 : HG K g1 gm1 ix1) (hix1 : ∀ i ∈ ix1, i ∈ vs1) (ht1 : Sound K WF RepB tt1 t1) (he : Sound K WF (RepV K) te em) :
    Sound K W (RepV K) (tLc2 wi g tt wi1 g1 tt1 te vs vs1) (mLc2 it vs gm t it1 vs1 gm1 t1 em) := ⟨fun σ H s Z I r Q w rs e p => by
  refine tLc2_ok hi hg hix ht hi1 hg1 hix1 ht1 he (k := fun acc M => .ok (.p (.lst acc)) M) w rs e p.x fun Z1 H1 I1 D Z' H' I' M acc ad er h0 x1 f => ?_
  subst er
  obtain ⟨w', x'⟩ := f.frz h0
  exact p _ _ H' I' w' (x1.trans x') (.lst (.inl upd_same) (f.r.mono (same_upd f.nz)))⟩
theorem de_lc2 {vs vs1 : List Nat} (hN : X.N.Nodup) (hc : X.calm = true) (hi : DI K X W tg iter wi it) (ok : BlkOk X.N X.env.scope scope own)
    (hg : ∀ (s : Shared) (H : Hp) (C : Addr) (cl : List (Str × Addr)) (fp : List Addr), DG K (X.blk s H scope (compEnvC scope cl C X.env) fp) tg g gm ix) (ht : ∀ (s : Shared) (H : Hp) (C : Addr) (cl : List (Str × Addr)) (fp : List Addr), DPT K (X.blk s H scope (compEnvC scope cl C X.env) fp) ifs tt t)
    (hi1 : ∀ (s : Shared) (H : Hp) (C : Addr) (cl : List (Str × Addr)) (fp : List Addr), DI K (X.blk s H scope (compEnvC scope cl C X.env) fp) WF tg1 iter1 wi1 it1)
    (hg1 : ∀ (s : Shared) (H : Hp) (C : Addr) (cl : List (Str × Addr)) (fp : List Addr), DG K (X.blk s H scope (compEnvC scope cl C X.env) fp) tg1 g1 gm1 ix1) (ht1 : ∀ (s : Shared) (H : Hp) (C : Addr) (cl : List (Str × Addr)) (fp : List Addr), DPT K (X.blk s H scope (compEnvC scope cl C X.env) fp) ifs1 tt1 t1)
    (he : ∀ (s : Shared) (H : Hp) (C : Addr) (cl : List (Str × Addr)) (fp : List Addr), DE K (X.blk s H scope (compEnvC scope cl C X.env) fp) WF elt te em) (hix : ∀ i ∈ ix, i ∈ own.map (·.2) := by decide) (hix1 : ∀ i ∈ ix1, i ∈ vs1 := by decide) (hv1 : ∀ i ∈ vs1, i ∈ own.map (·.2) := by decide)
    (hs : ∀ x, foldedSetIterable iter X.env x = pure x := by intro _; rfl) (hs1 : ∀ env x, foldedSetIterable iter1 env x = pure x := by intro _ _; rfl) (hv : own.map (·.2) = vs := by rfl) :
    DE K X W (.ListComp elt [⟨tg, iter, ifs, 0⟩, ⟨tg1, iter1, ifs1, 0⟩] scope pos) (tLc2 wi g tt wi1 g1 tt1 te vs vs1) (mLc2 it vs gm t it1 vs1 gm1 t1 em) := by
  subst hv
  exact ⟨hi.k, pe_lc2 hc hN hi.pi ok hv1 (fun s H C cl fp => (hg s H C cl fp).pg) (fun s H C cl fp => (ht s H C cl fp).pt) (fun s H C cl fp => (hi1 s H C cl fp).pi) (fun s H C cl fp => (hg1 s H C cl fp).pg) (fun s H C cl fp => (ht1 s H C cl fp).pt) (fun s H C cl fp => (he s H C cl fp).pe) hs hs1,
    so_lc2 hi.so (hg {} (fun _ => none) 0 [] []).ok hix (ht {} (fun _ => none) 0 [] []).so (hi1 {} (fun _ => none) 0 [] []).so (hg1 {} (fun _ => none) 0 [] []).ok hix1 (ht1 {} (fun _ => none) 0 [] []).so (he {} (fun _ => none) 0 [] []).so⟩
theorem ds_setLc2 {i : Nat} {vs vs1 : List Nat} {y : Str} {py spos : Pos} (hN : X.N.Nodup) (hc : X.calm = true) (hi : DI K X W tg iter wi it) (ok : BlkOk X.N X.env.scope scope own)
    (hg : ∀ (s : Shared) (H : Hp) (C : Addr) (cl : List (Str × Addr)) (fp : List Addr), DG K (X.blk s H scope (compEnvC scope cl C X.env) fp) tg g gm ix) (ht : ∀ (s : Shared) (H : Hp) (C : Addr) (cl : List (Str × Addr)) (fp : List Addr), DPT K (X.blk s H scope (compEnvC scope cl C X.env) fp) ifs tt t)
    (hi1 : ∀ (s : Shared) (H : Hp) (C : Addr) (cl : List (Str × Addr)) (fp : List Addr), DI K (X.blk s H scope (compEnvC scope cl C X.env) fp) WF tg1 iter1 wi1 it1)
    (hg1 : ∀ (s : Shared) (H : Hp) (C : Addr) (cl : List (Str × Addr)) (fp : List Addr), DG K (X.blk s H scope (compEnvC scope cl C X.env) fp) tg1 g1 gm1 ix1) (ht1 : ∀ (s : Shared) (H : Hp) (C : Addr) (cl : List (Str × Addr)) (fp : List Addr), DPT K (X.blk s H scope (compEnvC scope cl C X.env) fp) ifs1 tt1 t1)
    (he : ∀ (s : Shared) (H : Hp) (C : Addr) (cl : List (Str × Addr)) (fp : List Addr), DE K (X.blk s H scope (compEnvC scope cl C X.env) fp) WF elt te em) (hy : X.N[i]? = some y := by rfl) (hyl : X.env.scope.names.lookup y = some .local := by rfl)
    (hsw : swapsWith (.ListComp elt [⟨tg, iter, ifs, 0⟩, ⟨tg1, iter1, ifs1, 0⟩] scope pos) (some (.Name y py)) spos.line X.env = pure true := by exact sw_true rfl rfl rfl (by decide +kernel)) (hix : ∀ i ∈ ix, i ∈ own.map (·.2) := by decide) (hix1 : ∀ i ∈ ix1, i ∈ vs1 := by decide) (hv1 : ∀ i ∈ vs1, i ∈ own.map (·.2) := by decide)
    (hs : ∀ x, foldedSetIterable iter X.env x = pure x := by intro _; rfl) (hs1 : ∀ env x, foldedSetIterable iter1 env x = pure x := by intro _ _; rfl) (hv : own.map (·.2) = vs := by rfl) :
    DS K X W (.Assign [.Name y py] (.ListComp elt [⟨tg, iter, ifs, 0⟩, ⟨tg1, iter1, ifs1, 0⟩] scope pos) spos) (tAsg (tLc2 wi g tt wi1 g1 tt1 te vs vs1) (gName i)) (sAsg (mLc2 it vs gm t it1 vs1 gm1 t1 em) (gN i)) := by
  subst hv
  exact ⟨hi.k, ps_setLc2 hc hN hy hyl hsw hi.pi ok hv1 (fun s H C cl fp => (hg s H C cl fp).pg) (fun s H C cl fp => (ht s H C cl fp).pt) (fun s H C cl fp => (hi1 s H C cl fp).pi) (fun s H C cl fp => (hg1 s H C cl fp).pg) (fun s H C cl fp => (ht1 s H C cl fp).pt) (fun s H C cl fp => (he s H C cl fp).pe) hs hs1,
    so_asg (so_lc2 hi.so (hg {} (fun _ => none) 0 [] []).ok hix (ht {} (fun _ => none) 0 [] []).so (hi1 {} (fun _ => none) 0 [] []).so (hg1 {} (fun _ => none) 0 [] []).ok hix1 (ht1 {} (fun _ => none) 0 [] []).so (he {} (fun _ => none) 0 [] []).so) (dg_name hN hi.k hy (.inl hyl) (.inr hyl) : DG K X (.Name y py) _ _ _)⟩
end
end
end DL
namespace DL
open PySem L2
/-- a tuple of the module -/
theorem rep_ktup {K : PySem.W.Frag} {a : Addr} {d : Option Addr} {its : Array Value} {z : Nat} {w : Array (Option Value)} {Z : Hp} {xs : List V} {ds : List D} (l : K.lookup a = some ⟨.type "tuple", d, .seq its z, w⟩) (hz : its.size ≤ sizeLine) (v : Vals xs its.toList) (r : RepA K Z xs ds) : Rep K Z (.ref a) (.ktup ds) :=
  .ktup (.inr ⟨_, its, z, l, rfl, rfl, hz, v⟩) r
end DL
namespace DL
open PySem L2
section
variable {K : PySem.W.Frag} {X : Cx} {W : WX} {e a b c : Expr} {es : List Expr} {pos : Pos}
/-! ### a dict of the module, keys texts -/
structure GD (K : PySem.W.Frag) (w : World) (mg : Str → Option Value) (x : Str) (kvs : List (Str × D)) where
  a : Addr
  m : mg x = some (.ref a)
  at_ : ∀ z d, kvs.lookup z = some d → ∃ v, KDct K w a z v ∧ ∀ Z, Rep K Z v d
def kdK (kvs : List (Str × D)) : D → EM
  | .str z => ret (kvs.lookup z)
  | _ => fun _ => none
def mKd (kvs : List (Str × D)) (m : EM) : EM := bnd m (pur (kdK kvs))
theorem de_kdix {mg : Str → Option Value} {w : World} {x : Str} {p : Pos} {kvs : List (Str × D)} {te : TE} {m : EM} (g : GD K w mg x kvs) (h : DE K X W e te m) (hm : X.mg = mg := by rfl) (hw : X.w = w := by rfl) (hg : Gl X x := by rfl) (hd : (x == ("__debug__" : Str)) = false := by decide) (hs : PlainIx e := by exact fun _ _ => rfl) :
    DE K X W (.Subscript (.Name x p) e pos) (tOp (rIxD K w) (tC (.ref g.a)) te) (mKd kvs m) := by
  subst hm hw
  refine ⟨h.k, ?_, ⟨fun σ H s Z I r0 Q w rs e1 p1 => ?_⟩⟩
  · have q := pe_ix (X := X) (pos := pos) ix_kdict (pe_glob (v := .ref g.a) (pos := p) hg g.m rfl hd) h.pe hs
    rw [h.k] at q
    exact q
  · show te σ H _
    refine h.so.bnd w rs e1 p1.x fun d v M1 Z1 H1 I1 w1 rs1 x1 q1 e2 => ?_
    obtain ⟨d, rfl, e2⟩ := pur_ok e2
    cases d with
    | str z =>
      cases q1
      obtain ⟨c, hc, rfl⟩ := ret_ok (show ret (kvs.lookup z) ⟨s.l, M1⟩ = some r0 from e2)
      obtain ⟨v, hv, hr⟩ := g.at_ z c hc
      exact ⟨g.a, z, v, rfl, rfl, hv, p1 v Z1 H1 I1 w1 x1 (hr Z1)⟩
    | _ => cases e2
/-! ### dicts with keys ints and texts -/
def keyD : D → Option Key
  | .int i => some (.inl i)
  | .str x => some (.inr x)
  | _ => none
def valD (kvs : List (Key × D)) (k : Key) : Option D := (kvs.find? fun kv => decide (kv.1 = k)).map (·.2)
theorem val_rep {Z : Hp} : ∀ {ks : List (Key × V)} {ds : List (Key × D)} (k : Key), RepK K Z ks ds → (valV ks k = none ∧ valD ds k = none) ∨ ∃ v d, valV ks k = some v ∧ valD ds k = some d ∧ Rep K Z v d
  | _, _, k, .nil => .inl ⟨rfl, rfl⟩
  | _, _, k, .cons (k := k0) (v := v) (vs := vs) (d := d) (ds := ds) h r => by
    by_cases q : k0 = k
    · exact .inr ⟨v, d, by simp [valV, q], by simp [valD, q], h⟩
    · have e1 : valV ((k0, v) :: vs) k = valV vs k := by simp [valV, q]
      have e2 : valD ((k0, d) :: ds) k = valD ds k := by simp [valD, q]
      rw [e1, e2]
      exact val_rep k r
theorem key_rep {Z : Hp} {v : V} {d : D} {k : Key} (h : Rep K Z v d) (e : keyD d = some k) : v = kV k := by
  unfold keyD at e
  split at e
  · cases h; cases e; rfl
  · cases h; cases e; rfl
  · cases e
def getD (d k : D) : Option (Option D) := match d with
  | .dK kvs => (keyD k).map (valD kvs)
  | _ => none
theorem get_ok {Z H : Hp} {x y : V} {d k : D} {o : Option D} (s : Same Z H) (hx : Rep K Z x d) (hy : Rep K Z y k) (e : getD d k = some o) : ∃ a r, x = .ref a ∧ DGet H a y r ∧ ((r = none ∧ o = none) ∨ ∃ v c, r = some v ∧ o = some c ∧ Rep K Z v c) := by
  unfold getD at e
  split at e
  · rename_i kvs
    cases q : keyD k with
    | none => rw [q] at e; cases e
    | some kk =>
      rw [q] at e; cases e
      cases hx with
      | dK h1 h2 =>
        refine ⟨_, _, rfl, .inl ⟨_, kk, .inl (s _ _ h1), key_rep hy q, rfl⟩, ?_⟩
        rcases val_rep kk h2 with ⟨a, b⟩ | ⟨v, c, a, b, r⟩
        · exact .inl ⟨a, b⟩
        · exact .inr ⟨v, c, a, b, r⟩
  · cases e
def dGetI (d k : D) : Option D := match getD d k with
  | some (some c) => some c
  | _ => none
theorem de_dget (hu : X.A.units + 1 < cLine) {td ty : TE} {m n : EM} (ha : DE K X W a td m) (hb : DE K X W b ty n) (hs : NoSl b := by exact fun _ _ => rfl) : DE K X W (.Subscript a b pos) (tDGet td ty) (mBin dGetI m n) := by
  refine ⟨ha.k, pe_dget hu ha.pe hb.pe hs, ⟨fun σ H s Z I r0 Q w rs e p => ?_⟩⟩
  refine ha.so.bnd w rs e p.x fun d v M1 Z1 H1 I1 w1 rs1 x1 q1 e1 => ?_
  obtain ⟨d, rfl, e1⟩ := pur_ok e1
  have p1 := p.mono x1
  refine hb.so.bnd (s := ⟨s.l, M1⟩) w1 rs1 e1 p1.x fun d2 v2 M2 Z2 H2 I2 w2 rs2 x2 q2 e2 => ?_
  obtain ⟨d2, rfl, e2⟩ := pur_ok e2
  obtain ⟨c, hc, rfl⟩ := ret_ok e2
  unfold dGetI at hc
  cases z : getD d d2 with
  | none => rw [z] at hc; cases hc
  | some o =>
    rw [z] at hc
    obtain ⟨ad, r, ex, g, k⟩ := get_ok w2.sub (Rep.mono x2.z q1) q2 z
    rcases k with ⟨_, rfl⟩ | ⟨u, c', rfl, rfl, hr⟩
    · cases hc
    · cases hc
      exact ⟨ad, u, ex, g, (p1.mono x2) u Z2 H2 I2 w2 Ext.refl hr⟩
end
end DL
namespace DL
open PySem L2
section
variable {K : PySem.W.Frag} {X : Cx} {W : WX} {pos : Pos}
theorem units1 {k : Nat} {A : Around} (r : Room k A) : A.units + 1 < cLine := by have := r.un; omega
theorem lk_nil {P : Str → D → Prop} : ∀ z e, List.lookup z ([] : List (Str × D)) = some e → P z e := fun z e h => by cases h
theorem lk_cons {P : Str → D → Prop} {k : Str} {d : D} {r : List (Str × D)} (h : P k d) (hr : ∀ z e, List.lookup z r = some e → P z e) : ∀ z e, List.lookup z ((k, d) :: r) = some e → P z e := fun z e q => by
  rw [List.lookup_cons] at q
  cases b : z == k with
  | true =>
    rw [b] at q
    cases q
    have e1 : z = k := by simpa using b
    rw [e1]; exact h
  | false => rw [b] at q; exact hr z e q
/-- {k: v, ..} of constants -/
theorem de_dictC {keys : List (Option Expr)} {values : List Expr} {trs : List (TE × TE)} {kvs : List (Key × V)} {ds : List (Key × D)} (h : PPs X pos keys values trs) (ht : ∀ (σ : St) (H : Hp) (Q : List (V × V) → Hp → Prop), Q (kvs.map fun kv => (kV kv.1, kv.2)) H → tPairs trs σ H Q) (hr : ∀ Z, RepK K Z kvs ds)
    (hm : mergeK [] kvs = kvs) (h15' : kvs.length ≤ 15) (hall : keys.all (·.isSome) = true := by rfl) (hl : keys.length = values.length := by rfl) (h0 : keys ≠ [] := by exact List.cons_ne_nil _ _) (h15 : keys.length ≤ 15 := by decide) (k : X.K = K := by rfl) : DE K X W (.Dict keys values pos) (tDisp trs) (mC (.dK ds)) :=
  ⟨k, pe_disp h hall hl h0 h15, ⟨fun σ H s Z I r Q w rs e p => by
    obtain rfl := Option.some.inj e
    intro l hp
    refine ht σ _ _ ⟨upd_same, kvs, rfl, h15', ?_⟩
    rw [hm]
    have e2 : upd (upd H l (.dK [])) l (.dK kvs) = upd H l (.dK kvs) := by
      funext b
      by_cases q : b = l
      · subst q; rw [upd_same, upd_same]
      · rw [upd_ne q, upd_ne q, upd_ne q]
    rw [e2]
    have y := ExtP.new (o := .dK kvs) w.sub hp
    exact p _ _ _ I (w.extP y) (y.ext w) (show Rep K (upd Z l (.dK kvs)) (.ref l) (.dK ds) from .dK upd_same (hr _))⟩⟩
end
end DL
namespace DL
open PySem L2 PySem.W
/-! ### sorted: the data -/
def tupNE : PyData → Bool
  | .tuple (_ :: _) => true
  | _ => false
def plainK : PyData → Bool
  | .none => false
  | .tuple _ => false
  | _ => true
def sortOk (ks : List PyData) : Bool := (ks.all tupNE || ks.all plainK) && ks.all fun d => ks.all fun e => alike d e
theorem sortOk_like {ks : List PyData} (h : sortOk ks = true) : AllAlike ks := by
  intro d hd e he
  unfold sortOk at h
  rw [Bool.and_eq_true] at h
  exact List.all_eq_true.mp (List.all_eq_true.mp h.2 d hd) e he
theorem sortOk_sortable {ks : List PyData} (h : sortOk ks = true) : Sortable ks := by
  unfold sortOk at h
  rw [Bool.and_eq_true, Bool.or_eq_true] at h
  rcases h.1 with q | q
  · refine .inl fun d hd => ?_
    have z := List.all_eq_true.mp q d hd
    unfold tupNE at z
    split at z
    · exact ⟨_, _, rfl⟩
    · cases z
  · refine .inr fun d hd => ?_
    have z := List.all_eq_true.mp q d hd
    refine ⟨fun e => ?_, fun xs e => ?_⟩ <;> subst e <;> cases z
noncomputable def sortBy (ds ks : List D) : List D := ((ds.zip ks).mergeSort (dataLe false fun p => toP p.2)).map (·.1)
def keysM (f : MA) : List D → Option (List D)
  | [] => some []
  | d :: r => match f [d] with
    | some (.ok k) => match keysM f r with
      | some ks => some (k :: ks)
      | none => none
    | _ => none
theorem keysM_len {f : MA} : ∀ {ds ks : List D}, keysM f ds = some ks → ks.length = ds.length
  | [], _, e => by cases e; rfl
  | d :: r, ks, e => by
    unfold keysM at e
    split at e
    · split at e
      · rename_i q
        cases e
        rw [List.length_cons, List.length_cons, keysM_len q]
      · cases e
    · cases e
theorem keysM_at {f : MA} : ∀ {ds ks : List D} {i : Nat} {d : D}, keysM f ds = some ks → ds[i]? = some d → ∃ k, ks[i]? = some k ∧ f [d] = some (.ok k)
  | [], _, i, d, _, h => by simp at h
  | d0 :: r, ks, i, d, e, h => by
    unfold keysM at e
    split at e
    · rename_i q0
      split at e
      · rename_i q
        cases e
        cases i with
        | zero => simp at h; subst h; exact ⟨_, rfl, q0⟩
        | succ i =>
          obtain ⟨k', h1, h2⟩ := keysM_at (i := i) q (by simpa using h)
          exact ⟨k', by simpa using h1, h2⟩
      · cases e
    · cases e
theorem toPs_map : ∀ ds : List D, toPs ds = ds.map toP
  | [] => rfl
  | d :: r => by show toP d :: toPs r = _; rw [toPs_map r]; rfl
section
variable {X : Cx} {pins : List (Addr × Obj)} {σ : St} {H : Hp} {s : Shared}
/-- an object of one's own, newer than the entry's heap, may be forgotten -/
theorem forget {a : Addr} {φ : Heap → Prop} (I : Inv X pins σ H s) (ha : H a = some (.ext φ)) (hn : X.s_0.heap.objs.size ≤ a) (hx : X.ex = []) :
    ∃ G : Heap, (∀ b o, G.get? b = some o → s.heap.get? b = some o) ∧ G.get? a = none ∧ Inv X pins σ (delH H a) { s with heap := G } := by
  have n0 : X.s_0.heap.get? a = none := Heap.get?_none_of_le hn
  have nb : X.base.get? a = none := Heap.get?_none_of_le (Nat.le_trans I.ok.bsz hn)
  let Y : Cx := { X with H_0 := delH X.H_0 a }
  have ok : Y.Ok := ⟨I.ok.mod, I.ok.kind, I.ok.glob, I.ok.blt, I.ok.above, I.ok.inj, I.ok.has, I.ok.cab, I.ok.hd, I.ok.frames, I.ok.stk, I.ok.exf, fun b o e => ⟨(I.ok.bs b o e).1, by
      show delH X.H_0 a b = none
      unfold delH
      split
      · rfl
      · exact (I.ok.bs b o e).2⟩, I.ok.bsz, I.ok.noex, I.ok.exfs, I.ok.funs, fun b hb => by
      show delH X.H_0 a b = none
      unfold delH
      split
      · rfl
      · exact I.ok.frf b hb⟩
  have ne : ∀ {b : Addr} {o : Obj}, X.s_0.heap.get? b = some o → b ≠ a := fun e z => by rw [z, n0] at e; cases e
  have J : Inv Y pins σ H s := ⟨ok, I.os, I.bare, ⟨fun b o e n h1 h2 => I.base.keep b o e ((delH_ne (H := X.H_0) (ne e)).symm.trans n) h1 h2, fun b o e n h1 h2 => I.base.slot b o e ((delH_ne (H := X.H_0) (ne e)).symm.trans n) h1 h2,
      fun b o e n h2 => I.base.free b o e ((delH_ne (H := X.H_0) (ne e)).symm.trans n) h2, fun b o e h2 => I.base.there b o e h2,
      fun b xs e => I.base.tups b xs (by
        by_cases z : b = a
        · rw [z] at e; rw [show Y.H_0 a = delH X.H_0 a a from rfl, delH_same] at e; cases e
        · exact (delH_ne (H := X.H_0) z).symm.trans e),
      fun b o u e => I.base.frzs b o u (by
        by_cases z : b = a
        · rw [z] at e; rw [show Y.H_0 a = delH X.H_0 a a from rfl, delH_same] at e; cases e
        · exact (delH_ne (H := X.H_0) z).symm.trans e),
      fun b ps e => I.base.tbls b ps (by
        by_cases z : b = a
        · rw [z] at e; rw [show Y.H_0 a = delH X.H_0 a a from rfl, delH_same] at e; cases e
        · exact (delH_ne (H := X.H_0) z).symm.trans e)⟩, I.loc, I.cell, I.free, I.freeC, I.pin, I.hok, I.len⟩
  obtain ⟨G, g1, g2, J2⟩ := J.untrack ha (fr0_none (show delH X.H_0 a a = none from delH_same)) hx
  refine ⟨G, g1, g2, ⟨I.ok, J2.os, J2.bare, ⟨fun b o e n h1 h2 => J2.base.keep b o e (by show delH X.H_0 a b = none; rw [delH_ne (ne e)]; exact n) h1 h2, fun b o e n h1 h2 => J2.base.slot b o e (by show delH X.H_0 a b = none; rw [delH_ne (ne e)]; exact n) h1 h2,
      fun b o e n h2 => J2.base.free b o e (by show delH X.H_0 a b = none; rw [delH_ne (ne e)]; exact n) h2, fun b o e h2 => J2.base.there b o e h2,
      fun b xs e => ?_, fun b o u e => ?_, fun b ps e => ?_⟩, J2.loc, J2.cell, J2.free, J2.freeC, J2.pin, J2.hok, J2.len⟩⟩
  · have z : b ≠ a := fun z => by
      have := I.base.tups b xs e
      rw [z, ha] at this; cases this
    exact J2.base.tups b xs (by show delH X.H_0 a b = _; rw [delH_ne z]; exact e)
  · have z : b ≠ a := fun z => by
      have := I.base.frzs b o u e
      rw [z, ha] at this; cases this
    exact J2.base.frzs b o u (by show delH X.H_0 a b = _; rw [delH_ne z]; exact e)
  · have z : b ≠ a := fun z => by
      obtain ⟨m, this⟩ := I.base.tbls b ps e
      rw [z, ha] at this; cases this
    exact J2.base.tbls b ps (by show delH X.H_0 a b = _; rw [delH_ne z]; exact e)
/-- one call of the key -/
theorem key_turn {k : Nat} {f : MA} {fa : Addr} {fd : FuncData} {ps : List Str} {A : Around} (F : FnOk X.prog X.w X.K X.mg X.base (L2.CX X.prog X.w) k fa fd ps (spA X.K 1 f)) (hb : Binds X.K fd ps []) (hr : Room k A) (I : Inv X pins σ H s)
    (he : Env0 X.prog X.w X.K X.mg X.base A X.stack s H) {v : V} {u : Value} {d c : D} {Z : Hp} (rv : RelV v u) (sz : Same Z H) (hv : Rep X.K Z v d) (hf : f [d] = some (.ok c)) :
    wpAny (model X.prog X.w) A (call (.ref fa) [u]) (EP X pins σ fun v' H' => ∃ Z', ExtP Z H Z' H' ∧ Rep X.K Z' v' c) (fun _ _ => False) s := by
  have hsp : spA X.K 1 f [v] H (fun v' H' => ∃ Z', ExtP Z H Z' H' ∧ Rep X.K Z' v' c) (fun _ _ _ => False) := ⟨rfl, Z, [d], .ok c, sz, .cons hv .nil, hf, fun v' Z' H' x r => ⟨Z', x, r⟩⟩
  have hl : ([u] ++ []).length = ps.length := F.len _ _ _ _ hsp
  refine wpAny_call (codeAny_mono (F.run A X.stack s H ⟨[u], []⟩ [u] [v] _ (fun _ _ _ => False) hr he (hb s [u] I.kIn hl) (.cons rv .nil) hsp) fun r s' hq => ?_)
  cases r with
  | error e =>
    obtain ⟨_, _, _, _, _, _, _, _, _, _, _, _, z⟩ := hq
    exact z
  | ok fl =>
    cases fl with
    | ret u => exact I.after hq
    | next => exact False.elim hq
    | brk => exact False.elim hq
    | cont => exact False.elim hq
end
end DL
namespace DL
open PySem L2 PySem.W
open PyProof.Rows (seqObj get?_update_seq listUpdate_at listItems_at seqEpoch_at size_push' ksk_rest ksk_fold ksk_tree ksk_t1)
def atS (a : Addr) (xs : Array Value) (n : Nat) : HO := .ext fun h => h.get? a = some (seqObj "list" xs n)
theorem atS_ok {P : Program} {w : World} {H : Hp} {h : Heap} {a : Addr} {xs : Array Value} {n : Nat} (e : h.get? a = some (seqObj "list" xs n)) : ObjOk P w H h a (atS a xs n) := ⟨e, ⟨_, e⟩, fun _ _ q k => k _ q⟩
theorem atS_at {P : Program} {w : World} {H : Hp} {h : Heap} {a : Addr} {xs : Array Value} {n : Nat} (ok : HOk P w H h) (e : H a = some (atS a xs n)) : h.get? a = some (seqObj "list" xs n) := (ok a _ e).1
theorem each_vals {R : Value → D × D → Prop} {K : PySem.W.Frag} {Z : Hp} (hR : ∀ u p, R u p → ∃ v, RelV v u ∧ Rep K Z v p.1) : ∀ {us : List Value} {ps : List (D × D)}, EachIs R us ps → ∃ vs, Vals vs us ∧ RepA K Z vs (ps.map (·.1))
  | _, _, .nil => ⟨[], .nil, .nil⟩
  | _, _, .cons h t => by
    obtain ⟨v, r1, r2⟩ := hR _ _ h
    obtain ⟨vs, q1, q2⟩ := each_vals hR t
    exact ⟨v :: vs, .cons r1 q1, .cons r2 q2⟩
theorem each_mk {K : PySem.W.Frag} {Z : Hp} : ∀ {us : List Value} {vs : List V} {ds ks : List D}, Vals vs us → RepA K Z vs ds → ks.length = ds.length → EachIs (fun u (p : D × D) => ∃ v, RelV v u ∧ Rep K Z v p.1) us (ds.zip ks)
  | _, _, _, [], .nil, .nil, _ => .nil
  | _, _, _, _ :: _, .nil, .nil, e => by simp at e
  | _, _, _, [], .cons _ _, .cons _ _, e => by simp at e
  | _, _, _, k :: ks, .cons r1 t1, .cons r2 t2, e => .cons ⟨_, r1, r2⟩ (each_mk t1 t2 (by simpa using e))
theorem each_reads {X : Cx} {pins : List (Addr × Obj)} {σ : St} {H Z : Hp} {s : Shared} (I : Inv X pins σ H s) (sz : Same Z H) : ∀ {us : List Value} {vs : List V} {ks : List D}, Vals vs us → RepA X.K Z vs ks → (∀ k ∈ ks, shp k = true) → EachIs (fun u d => ∃ as, Reads s.heap u d as) us (ks.map toP)
  | _, _, _, .nil, .nil, _ => .nil
  | _, _, _, .cons r1 t1, .cons (d := d) r2 t2, h => .cons (Dp.reads I (toP d) _ _ (r2.dp sz (shaped_can (h d List.mem_cons_self))) r1) (each_reads I sz t1 t2 fun k hk => h k (List.mem_cons_of_mem _ hk))
section
variable {X : Cx} {pins : List (Addr × Obj)} {σ : St} {H Z : Hp} {s : Shared}
structure Turn (X : Cx) (pins : List (Addr × Obj)) (σ : St) (Z H : Hp) (a kS : Addr) (e1 : Nat) (ks : List D) (j : Nat) (s' : Shared) : Prop where
  ex : ∃ (Hj Zj : Hp) (kA : Array Value) (e : Nat) (kvs : List V), Inv X pins σ Hj s' ∧ ExtP Z H Zj Hj ∧ Hj kS = some (atS kS kA e) ∧ Hj a = some (atS a #[] e1) ∧ Zj kS = none ∧ Zj a = none ∧ Vals kvs kA.toList ∧ RepA X.K Zj kvs (ks.take j)
theorem Same.outer {Z1 H1 : Hp} {a : Addr} {o : HO} (h : Same Z1 H1) (e : Z1 a = none) : Same Z1 (upd H1 a o) := fun b u q => by
  rw [upd_ne (ne_of_none q e)]; exact h b u q
/-- all turns, and what is behind them -/
theorem turns_ok {k : Nat} {f : MA} {fa : Addr} {fd : FuncData} {ps : List Str} {A : Around} {E : Value → Shared → Prop} (F : FnOk X.prog X.w X.K X.mg X.base (L2.CX X.prog X.w) k fa fd ps (spA X.K 1 f)) (hb : Binds X.K fd ps []) (hr : Room k A) (he : ∀ {H' : Hp} {s' : Shared}, Inv X pins σ H' s' → Env0 X.prog X.w X.K X.mg X.base A X.stack s' H')
    {a kS : Addr} {e1 : Nat} {us : List Value} {xs : List V} {ds ks : List D} (hka : kS ≠ a) (nS : H kS = none) (nA : H a = none) (rv : Vals xs us) (hx : RepA X.K Z xs ds) (hk : keysM f ds = some ks) (hZ : us.length ≤ sizeLine) (hst : X.s_0.heap.objs.size ≤ kS) (hex : X.ex = [])
    (hsp : ∀ k ∈ ks, shp k = true) (ok : sortOk (toPs ks) = true) (hu : ∀ k ∈ ks, A.units + (toP k).depth < cLine) {Q : VK} (p : PostP X.K Z H (.lst (sortBy ds ks)) Q) {P : PySem.Fin → Shared → Prop} (hP : ∀ s', EP X pins σ Q (.ref a) s' → P (.done (.ret .none)) s')
    (T : Turn X pins σ Z H a kS e1 ks 0 s) : wpAny (model X.prog X.w) A (ksk_rest a (.ref fa) false us.toArray e1 (.ref kS)) P E s := by
  have hkl := keysM_len hk
  have hxl := hx.length
  have hul : us.length = xs.length := rv.length.symm
  unfold ksk_rest
  refine wpAny_bind (wpAny_rule ?_)
  rw [List.forIn_toArray]
  refine wpAny_bind (ksk_fold (fun i s' => Turn X pins σ Z H a kS e1 ks i s') us 0 s T (fun j x s' hxj t => ?_) fun s' t => ?_)
  · rw [Nat.zero_add] at t ⊢
    obtain ⟨Hj, Zj, kA, e, kvs, I, xt, hS, hA, zS, zA, rk, rr⟩ := t.ex
    have hj : j < us.length := (List.getElem?_eq_some_iff.mp hxj).1
    obtain ⟨v, hv⟩ : ∃ v, xs[j]? = some v := ⟨_, List.getElem?_eq_getElem (by omega)⟩
    obtain ⟨d, hd, rd⟩ := hx.get' hv
    obtain ⟨u, hu1, ru⟩ := rv.get hv
    rw [hxj] at hu1
    cases hu1
    obtain ⟨c, hc, hf⟩ := keysM_at hk hd
    have hz : kA.size ≤ sizeLine := by
      have h1 : kA.size = kvs.length := by rw [L2.Vals.length rk]; simp
      have h2 := rr.length
      rw [List.length_take] at h2
      omega
    refine wpAny_bind (wpAny_attempt (wpAny_mono (key_turn F hb hr I (he I) ru xt.sub (rd.mono xt.z) hf) (fun w s2 hw => ?_) fun _ _ z => z.elim))
    obtain ⟨wv, Hn, I2, rw2, Zn, xn, rn⟩ := hw
    have hS2 := xn.h _ _ hS
    have hA2 := xn.h _ _ hA
    have zS2 : Zn kS = none := by
      cases q : Zn kS with
      | none => rfl
      | some o =>
        rcases xn.zn kS (by rw [q]; simp) with z | z
        · exact absurd zS z
        · rw [hS] at z; cases z
    have zA2 : Zn a = none := by
      cases q : Zn a with
      | none => rfl
      | some o =>
        rcases xn.zn a (by rw [q]; simp) with z | z
        · exact absurd zA z
        · rw [hA] at z; cases z
    have nk := atS_at I2.hok hS2
    have sb := Heap.SameBut.update s2.heap kS (Obj.mapSeq (·.push w))
    obtain ⟨c2, hc2⟩ : ∃ c2, (s2.heap.update kS (Obj.mapSeq (·.push w))).get? kS = some (seqObj "list" (kA.push w) c2) := ⟨_, get?_update_seq nk (·.push w)⟩
    try dsimp only
    refine wpAny_bind (listUpdate_at nk rfl ?_ hz (Nat.le_trans (Nat.le_of_eq (Array.size_push ..)) (Nat.succ_le_succ hz)))
    have I3 := I2.write (x := kS) (e := kS) (o := atS kS (kA.push w) c2) (t' := s2.toks) (by rw [hS2]; trivial) (.inl rfl) (fun b u' hne q => (sb.2 b hne).trans q) ⟨_, hc2⟩ (atS_ok hc2)
    refine wpAny_pure ⟨rfl, ⟨upd Hn kS (atS kS (kA.push w) c2), Zn, kA.push w, c2, kvs ++ [wv], I3, ?_, upd_same, by rw [upd_ne hka.symm]; exact hA2, zS2, zA2, ?_, ?_⟩⟩
    · have x2 := xt.trans xn
      exact ⟨x2.z, fun b u' q => by rw [upd_ne (ne_of_none q nS)]; exact x2.h b u' q, Same.outer x2.sub zS2, x2.zn⟩
    · have ea : (kA.push w).toList = kA.toList ++ [w] := by simp
      rw [ea]
      exact paired_app rk (.cons rw2 .nil)
    · have ek : ks.take (j + 1) = ks.take j ++ [c] := by rw [List.take_add_one, hc]; rfl
      rw [ek]
      exact (rr.mono xn.z).append (.cons rn .nil)
  · rw [Nat.zero_add] at t
    obtain ⟨Hj, Zj, kA, e, kvs, I, xt, hS, hA, zS, zA, rk, rr⟩ := t.ex
    rw [List.take_of_length_le (by omega)] at rr
    have nk := atS_at I.hok hS
    have na := atS_at I.hok hA
    obtain ⟨G, gk, gn, J⟩ := forget I hS hst hex
    try dsimp only
    refine wpAny_bind (listItems_at nk rfl ?_)
    have er := each_reads I xt.sub rk rr hsp
    have hal : AllAlike (ks.map toP) := by rw [← toPs_map]; exact sortOk_like ok
    have hso : Sortable (ks.map toP) := by rw [← toPs_map]; exact sortOk_sortable ok
    have hsz : kA.size = us.length := by
      have h1 : kA.size = kvs.length := by rw [L2.Vals.length rk]; simp
      have h2 := rr.length
      omega
    refine keyH_end (κ := dataKind s'.heap (ks.map toP)) (h₁ := G) (fun b o _ q => gk b o q) gn nk na hka (SortsAt.data er hal hso fun d hd => ?_) hsz hZ fun h' tk c kp n => ?_
    · obtain ⟨k0, hk0, rfl⟩ := List.mem_map.mp hd
      exact hu k0 hk0
    · have ko : KeyedOut false ((ds.zip ks).map fun p => toP p.2) us (PySem.W.sortVals (dataKind s'.heap (ks.map toP)) false kA.toList us) := by
        have e1 : (ds.zip ks).map (fun p => toP p.2) = ks.map toP := by
          rw [show (fun p : D × D => toP p.2) = toP ∘ Prod.snd from rfl, ← List.map_map, List.map_snd_zip (by omega)]
        rw [e1]
        exact ⟨s'.heap, kA.toList, hal, rfl, er⟩
      have eo := keyedOut_each (R := fun u (p : D × D) => ∃ v, RelV v u ∧ Rep X.K Zj v p.1) (fun p : D × D => toP p.2) ko (each_mk rv (hx.mono xt.z) hkl)
      obtain ⟨ov, o1, o2⟩ := each_vals (fun _ _ q => q) eo
      have hol : ov.length ≤ sizeLine := by
        have h1 := o2.length
        rw [List.length_map, List.length_mergeSort, List.length_zip] at h1
        omega
      have hAd : delH Hj kS a = some (atS a #[] e1) := by rw [delH_ne hka.symm]; exact hA
      have J2 := J.write (h' := h') (x := a) (e := a) (o := .lst ov) (t' := tk) (by rw [hAd]; trivial) (.inl rfl) (fun b u' hne q => kp b u' hne q) ⟨_, n⟩ ⟨hol, _, c, o1, n⟩
      refine hP _ ⟨.ref a, _, J2, rfl, p _ (upd Zj a (.lst ov)) _ ⟨?_, ?_, ?_, ?_⟩ (.lst (.inl upd_same) (o2.mono ?_))⟩
      · exact fun b u' q => by rw [upd_ne (ne_of_none (xt.z b u' q) zA)]; exact xt.z b u' q
      · exact fun b u' q => by rw [upd_ne (ne_of_none q nA), delH_ne (ne_of_none q nS)]; exact xt.h b u' q
      · intro b u' q
        by_cases z : b = a
        · rw [z, upd_same] at q ⊢; exact q
        · rw [upd_ne z] at q ⊢
          rw [delH_ne (ne_of_none q zS)]
          exact xt.sub b u' q
      · intro b q
        by_cases z : b = a
        · rw [z]; exact .inr nA
        · rw [upd_ne z] at q; exact xt.zn b q
      · exact fun b u' q => by rw [upd_ne (ne_of_none q zA)]; exact q
end
end DL
namespace DL
open PySem L2 PySem.W
open PyProof.Rows (seqObj get?_update_seq listUpdate_at listItems_at seqEpoch_at size_push' ksk_rest ksk_fold ksk_tree ksk_t1 ksk_s1 ksk_l1)
section
variable {X : Cx} {pins : List (Addr × Obj)} {σ : St} {H Z : Hp} {s : Shared}
/-- sorted(xs, key=f), f a def -/
theorem sortF_run {k : Nat} {f : MA} {fa : Addr} {fd : FuncData} {ps : List Str} (F : FnOk X.prog X.w X.K X.mg X.base (L2.CX X.prog X.w) k fa fd ps (spA X.K 1 f)) (hb : Binds X.K fd ps []) (hr : Room (k + 2) X.A) (hex : X.ex = []) (I : Inv X pins σ H s)
    {l : Addr} {xs : List V} {ds ks : List D} (sz : Same Z H) (hl : SqL X.K H l xs) (hx : RepA X.K Z xs ds) (hk : keysM f ds = some ks) (hsp : ∀ k ∈ ks, shp k = true) (ok : sortOk (toPs ks) = true) {Q : VK} (p : PostP X.K Z H (.lst (sortBy ds ks)) Q) :
    wpAny (model X.prog X.w) X.A (call (.builtin "sorted") [.ref l] [(Str.ofString "key", .ref fa)]) (EP X pins σ Q) X.xe s := by
  obtain ⟨us, rv, hL, hz⟩ := I.list hl
  have hz2 : us.length ≤ sizeLine := by rw [← rv.length]; exact hz
  refine sorted_of_sort hL.isList hz2 (ksk_s1 _ _) (fun _ => ksk_l1 _ _) fun E' => ?_
  rw [ksk_t1]
  let a : Addr := s.heap.objs.size + 1
  let h0 := copyHeap s.heap us
  have oa : h0.get? a = some (seqObj "list" us.toArray 0) := copyHeap_at s.heap us
  have la : a < h0.objs.size := Heap.lt_size oa
  obtain ⟨e1, oa1⟩ : ∃ e1, (h0.update a (Obj.mapSeq fun _ => (#[] : Array Value))).get? a = some (seqObj "list" #[] e1) := ⟨_, get?_update_seq oa fun _ => #[]⟩
  let h1 := (h0.update a (Obj.mapSeq fun _ => (#[] : Array Value))).push (seqObj "tuple" us.toArray 0)
  have s1 : h1.objs.size = h0.objs.size + 1 := by show ((h0.update a _).push _).objs.size = _; rw [size_push', Heap.size_update]
  have keep1 : ∀ b u, s.heap.get? b = some u → h1.get? b = some u := fun b u q => by
    have q0 : h0.get? b = some u := copyHeap_old q
    have nb : b ≠ a := Nat.ne_of_lt (Nat.lt_succ_of_lt (Heap.lt_size q))
    exact Heap.get?_push_of_some _ (by rw [Heap.get?_update_ne _ _ _ _ nb]; exact q0)
  have oa2 : h1.get? a = some (seqObj "list" #[] e1) := Heap.get?_push_of_some _ oa1
  have nA : H a = none := I.hok.fresh (Nat.le_succ _)
  have J1 := I.laid (h' := h1) (a := a) (o := atS a #[] e1) (t' := s.toks) keep1 (Nat.le_succ _) (atS_ok oa2)
  have nS1 : upd H a (atS a #[] e1) h1.objs.size = none := J1.hok.fresh (Nat.le_refl _)
  have hka : h1.objs.size ≠ a := by rw [s1]; exact Nat.ne_of_gt (Nat.lt_succ_of_lt la)
  have nS : H h1.objs.size = none := by rw [upd_ne hka] at nS1; exact nS1
  have oS : (h1.push (seqObj "list" #[] 0)).get? h1.objs.size = some (seqObj "list" #[] 0) := Heap.get?_push_size _ rfl
  have J2 := J1.laid (h' := h1.push (seqObj "list" #[] 0)) (a := h1.objs.size) (o := atS h1.objs.size #[] 0) (t' := s.toks) (fun b u q => Heap.get?_push_of_some _ q) (Nat.le_refl _) (atS_ok oS)
  have hst : X.s_0.heap.objs.size ≤ h1.objs.size := by
    have := I.sz
    have : s.heap.objs.size + 1 < h0.objs.size := la
    omega
  unfold ksk_tree
  refine wpAny_bind (listItems_at (s := { s with heap := h0 }) oa rfl ?_)
  refine wpAny_bind (listUpdate_at (s := { s with heap := h0 }) oa rfl ?_ (by rw [List.size_toArray]; exact hz2) (Nat.zero_le _))
  refine wpAny_bind (seqEpoch_at oa1 rfl ?_)
  refine wpAny_bind (wpAny_newTuple ?_ hz2)
  refine wpAny_bind (wpAny_newList ?_ (Nat.zero_le _))
  refine wpAny_holding ?_
  exact turns_ok (s := { s with heap := h1.push (seqObj "list" #[] 0) }) F hb (Room.in1 (Room.in1 hr)) (fun I' => I'.env0.in1.in1) hka nS nA rv hx hk hz2 hst hex hsp ok (fun k0 h0 => by
      have z := hsp k0 h0
      unfold shp at z
      rw [Bool.and_eq_true] at z
      have y := of_decide_eq_true z.2
      have := hr.un
      show X.A.units + 1 + 1 + (toP k0).depth < cLine
      have dd : (toP k0).depth = depD k0 := depD_dep k0 z.1
      rw [dd]
      omega) p (fun s' q => ⟨rfl, q⟩)
    ⟨_, Z, #[], 0, [], J2, ⟨Same.refl _, fun b u q => by rw [upd_ne (ne_of_none q nS), upd_ne (ne_of_none q nA)]; exact q, Same.outer (Same.outer sz (none_of sz nA)) (none_of sz nS), fun b q => .inl q⟩, upd_same, by rw [upd_ne hka.symm]; exact upd_same, none_of sz nS, none_of sz nA, .nil, by rw [List.take_zero]; exact .nil⟩
/-- the mirror -/
noncomputable def sortKD (f : MA) : D → Option D
  | .lst ds => match keysM f ds with
    | some ks => if (ks.all shp && sortOk (toPs ks)) = true then some (.lst (sortBy ds ks)) else none
    | none => none
  | _ => none
noncomputable def mSortK (f : MA) (m : EM) : EM := bnd m (pur fun d => ret (sortKD f d))
def rSortF (K : PySem.W.Frag) (fa : Addr) (f : MA) : List V → List V → Hp → VK → Prop := fun vs zs H Q => zs = [.ref fa] ∧ ∃ (x : V) (Z : Hp) (d c : D), vs = [x] ∧ Same Z H ∧ Rep K Z x d ∧ sortKD f d = some c ∧ PostP K Z H c Q
theorem cr_sortF {k : Nat} {f : MA} {fa : Addr} {fd : FuncData} {ps : List Str} (F : FnOk X.prog X.w X.K X.mg X.base (L2.CX X.prog X.w) k fa fd ps (spA X.K 1 f)) (hb : Binds X.K fd ps []) (hr : Room (k + 2) X.A) (hex : X.ex = []) :
    CallRK X (.builtin "sorted") [Str.ofString "key"] (rSortF X.K fa f) := by
  intro pins s σ H vs zs us ws Q I r rz h
  obtain ⟨rfl, x, Z, d, c, rfl, sz, hx, hd, p⟩ := h
  cases r with
  | cons r1 r2 =>
  cases r2
  cases rz with
  | cons z1 z2 =>
  cases z2
  cases z1
  unfold sortKD at hd
  split at hd
  · split at hd
    · rename_i ks hk
      split at hd
      · rename_i hc
        cases hd
        rw [Bool.and_eq_true] at hc
        cases hx with
        | lst h1 h2 =>
          cases r1
          exact sortF_run F hb hr hex I sz (.inl (same_rd sz h1)) h2 hk (fun k0 h0 => List.all_eq_true.mp hc.1 k0 h0) hc.2 p
      · cases hd
    · cases hd
  · cases hd
end
@[simp] theorem e_add2I (i j : Int) : dAdd2 (.int i) (.int j) = some (.int (i + j)) := rfl
@[simp] theorem e_add2S (x y : Str) : dAdd2 (.str x) (.str y) = if x.length + y.length ≤ 1000000 then some (.str (x ++ y)) else none := rfl
@[simp] theorem e_add2L (x y : List D) : dAdd2 (.lst x) (.lst y) = if x.length + y.length ≤ 1000000 then some (.lst (x ++ y)) else none := rfl
@[simp] theorem e_inDL (xs ys : List D) : inD (.tup xs) (.lst ys) = if (shp (.tup xs) && shp (.lst ys)) = true then some (ys.any fun z => deq z (.tup xs)) else none := rfl
@[simp] theorem e_sortK (f : MA) (m : EM) (s : S) : mSortK f m s = (bnd m (pur fun d => ret (sortKD f d))) s := rfl
theorem sortKD_eq {f : MA} {ds ks : List D} (h : keysM f ds = some ks) (h1 : ks.all shp = true) (h2 : sortOk (toPs ks) = true) : sortKD f (.lst ds) = some (.lst (sortBy ds ks)) := by
  unfold sortKD
  simp only [h]
  rw [h1, h2]; rfl
theorem keysM_map {f : MA} {g : D → D} : ∀ {ds : List D}, (∀ d ∈ ds, f [d] = some (.ok (g d))) → keysM f ds = some (ds.map g)
  | [], _ => rfl
  | d :: r, h => by
    unfold keysM
    rw [h d List.mem_cons_self]
    simp only
    rw [keysM_map fun x hx => h x (List.mem_cons_of_mem _ hx)]
    rfl
/-- pairs of ints as keys -/
theorem sortOk_ii {α : Type} (l : List α) (a b : α → Int) : sortOk (toPs (l.map fun x => D.tup [.int (a x), .int (b x)])) = true := by
  rw [toPs_map, List.map_map]
  unfold sortOk
  rw [Bool.and_eq_true, Bool.or_eq_true]
  refine ⟨.inl (List.all_eq_true.mpr fun d hd => ?_), List.all_eq_true.mpr fun d hd => List.all_eq_true.mpr fun e he => ?_⟩
  · obtain ⟨x, _, rfl⟩ := List.mem_map.mp hd; rfl
  · obtain ⟨x, _, rfl⟩ := List.mem_map.mp hd
    obtain ⟨y, _, rfl⟩ := List.mem_map.mp he
    simp [toP, toPs, alike, alikeAll]
theorem sortBy_same (ds ks : List D) (hl : ks.length = ds.length) (h : (ds.zip ks).Pairwise fun p q => dataLe false (fun p : D × D => toP p.2) p q = true) : sortBy ds ks = ds := by
  unfold sortBy
  rw [List.mergeSort_of_pairwise h, List.map_fst_zip (by omega)]
section
variable {K : PySem.W.Frag} {X : Cx} {W : WX} {e : Expr} {pos p p2 kp : Pos}
theorem de_sortK {k kk : Nat} {f : MA} {fa : Addr} {fd : FuncData} {ps : List Str} {x : Str} {te : TE} {m : EM} (F : FnOk X.prog X.w K X.mg X.base (L2.CX X.prog X.w) k fa fd ps (spA K 1 f)) (hr : Room kk X.A) (hkk : k + 2 ≤ kk) (hs : X.mg "sorted" = none) (hm : X.mg x = some (.ref fa)) (hb : Binds K fd ps []) (h : DE K X W e te m)
    (hgs : Gl X "sorted" := by rfl) (hg : Gl X x := by rfl) (hex : X.ex = [] := by rfl) (hdb : (x == ("__debug__" : Str)) = false := by decide)
    (hs1 : starEach [e] X.env = (false, eval e X.env) :: starEach [] X.env := by rfl) (he : backTo pos (starEach [e] X.env) = (false, eval e X.env) :: backTo pos (starEach [] X.env) := by rfl) (hpl : (backTo pos (starEach [e] X.env)).any (·.1) = false := by rfl)
    (hall : (backToKw pos (keywordEach [⟨some "key", .Name x p2, kp⟩] X.env)).all (·.1.isSome) = true := by rfl) (hnone : (backToKw pos (keywordEach [⟨some "key", .Name x p2, kp⟩] X.env)).any (·.1.isNone) = false := by rfl) (hks : (backToKw pos (keywordEach [⟨some "key", .Name x p2, kp⟩] X.env)).filterMap (·.1) = [Str.ofString "key"] := by rfl) :
    DE K X W (.Call (.Name "sorted" p) [e] [⟨some "key", .Name x p2, kp⟩] pos) (tCKw (rSortF K fa f) (tCons te tNil) (tCons (tC (.ref fa)) tNil)) (mSortK f m) := by
  have k0 := h.k
  subst k0
  refine ⟨rfl, pe_callBK (cr_sortF F hb (hr.mono hkk) hex) hgs hs rfl (pa_cons h.pe pa_nil hs1) (pk_cons (pe_glob (v := .ref fa) hg hm rfl hdb) pk_nil) (by decide) (by decide) he hpl hall hnone hks, ⟨fun σ H s Z I r0 Q w rs e1 p1 => ?_⟩⟩
  refine h.so.bnd w rs e1 p1.x fun d v M1 Z1 H1 I1 w1 rs1 x1 q1 e2 => ?_
  obtain ⟨d, rfl, e2⟩ := pur_ok e2
  obtain ⟨c, hc, rfl⟩ := ret_ok e2
  exact ⟨rfl, v, Z1, d, c, rfl, w1.sub, q1, hc, PostP.of w1 (p1.mono x1)⟩
end
end DL
namespace DL
open PySem L2
/-! ### dicts: one's own, and data; keys ints and texts, or tuples of them -/
section
variable {α κ : Type} [DecidableEq κ]
def valO (kvs : List (κ × α)) (k : κ) : Option α := (kvs.find? fun kv => decide (kv.1 = k)).map (·.2)
def putO (kvs : List (κ × α)) (k : κ) (v : α) : List (κ × α) :=
  if (kvs.any fun kv => decide (kv.1 = k)) = true then kvs.map (fun kv => if kv.1 = k then (kv.1, v) else kv) else kvs ++ [(k, v)]
def dropO (kvs : List (κ × α)) (k : κ) : List (κ × α) := kvs.filter fun kv => decide (kv.1 ≠ k)
end
def keysD : List D → Option (List Key)
  | [] => some []
  | d :: r => match keyD d, keysD r with
    | some k, some ks => some (k :: ks)
    | _, _ => none
def keyT : D → Option (List Key)
  | .tup xs => keysD xs
  | _ => none
section
variable {K : PySem.W.Frag} {X : Cx} {W : WX} {e a b c : Expr} {es : List Expr} {pos : Pos} {Z H : Hp} {I : List Addr} {M : List O}
theorem keys_rep : ∀ {vs : List V} {xs : List D} {ks : List Key}, RepA K Z vs xs → keysD xs = some ks → vs = ks.map kV
  | _, [], _, .nil, e => by cases e; rfl
  | _, d :: r, _, .cons h t, e => by
    have e : (match keyD d, keysD r with | some k, some ks => some (k :: ks) | _, _ => none) = some _ := e
    cases q : keyD d with
    | none => rw [q] at e; cases e
    | some k =>
      cases q2 : keysD r with
      | none => rw [q, q2] at e; cases e
      | some ks =>
        rw [q, q2] at e; cases e
        rw [key_rep h q, keys_rep t q2]; rfl
theorem keyT_rep {v : V} {d : D} {ks : List Key} (h : Rep K Z v d) (e : keyT d = some ks) : ∃ b, v = .ref b ∧ Z b = some (.tup (ks.map kV)) := by
  cases h with
  | tup h1 h2 => exact ⟨_, rfl, by rw [← keys_rep h2 (show keysD _ = some ks from e)]; exact h1⟩
  | _ => cases e
section
variable {κ : Type} [DecidableEq κ]
theorem valP_rep {ks : List (κ × V)} {ds : List (κ × DV)} (r : Paired (FRel K Z I) ks ds) (k : κ) : (valV ks k = none ∧ valO ds k = none) ∨ ∃ v d, valV ks k = some v ∧ valO ds k = some d ∧ RepV K Z I v d := by
  induction r with
  | nil => exact .inl ⟨rfl, rfl⟩
  | @cons p q ps qs h t ih =>
    obtain ⟨h1, h2⟩ := h
    by_cases z : p.1 = k
    · exact .inr ⟨p.2, q.2, by simp [valV, z], by simp [valO, ← h1, z], h2⟩
    · have e1 : valV (p :: ps) k = valV ps k := by simp [valV, z]
      have e2 : valO (q :: qs) k = valO qs k := by simp [valO, ← h1, z]
      rw [e1, e2]; exact ih
theorem anyP_rep {ks : List (κ × V)} {ds : List (κ × DV)} (r : Paired (FRel K Z I) ks ds) (k : κ) : (ks.any fun kv => decide (kv.1 = k)) = ds.any fun kv => decide (kv.1 = k) := by
  induction r with
  | nil => rfl
  | @cons p q ps qs h t ih => rw [List.any_cons, List.any_cons, ih, h.1]
theorem mapP_rep {ks : List (κ × V)} {ds : List (κ × DV)} (k : κ) {v : V} {d : DV} (h : RepV K Z I v d) (r : Paired (FRel K Z I) ks ds) : Paired (FRel K Z I) (ks.map (fun kv => if kv.1 = k then (kv.1, v) else kv)) (ds.map (fun kv => if kv.1 = k then (kv.1, d) else kv)) := by
  induction r with
  | nil => exact .nil
  | @cons p q ps qs g t ih =>
    refine .cons ?_ ih
    show FRel K Z I (if p.1 = k then (p.1, v) else p) (if q.1 = k then (q.1, d) else q)
    by_cases z : p.1 = k
    · rw [if_pos z, if_pos (g.1.symm.trans z)]; exact ⟨g.1, h⟩
    · rw [if_neg z, if_neg (fun y => z (g.1.trans y))]; exact g
theorem putP_rep {ks : List (κ × V)} {ds : List (κ × DV)} (r : Paired (FRel K Z I) ks ds) (k : κ) {v : V} {d : DV} (h : RepV K Z I v d) : Paired (FRel K Z I) (putK ks k v) (putO ds k d) := by
  unfold putK putO
  rw [anyP_rep r k]
  split
  · exact mapP_rep k h r
  · exact paired_app r (.cons ⟨rfl, h⟩ .nil)
theorem dropP_rep {ks : List (κ × V)} {ds : List (κ × DV)} (r : Paired (FRel K Z I) ks ds) (k : κ) : Paired (FRel K Z I) (dropK ks k) (dropO ds k) := by
  unfold dropK dropO
  induction r with
  | nil => exact .nil
  | @cons p q ps qs g t ih =>
    rw [List.filter_cons, List.filter_cons, g.1]
    split
    · exact .cons g ih
    · exact ih
end
theorem repK_paired {ks : List (Key × V)} : ∀ {ds : List (Key × D)}, RepK K Z ks ds → Paired (FRel K Z I) ks (ds.map fun p => (p.1, DV.p p.2))
  | _, .nil => .nil
  | _, .cons h r => .cons ⟨rfl, h⟩ (repK_paired r)
theorem repT_paired {ks : List (List Key × V)} : ∀ {ds : List (List Key × D)}, RepT K Z ks ds → Paired (FRel K Z I) ks (ds.map fun p => (p.1, DV.p p.2))
  | _, .nil => .nil
  | _, .cons h r => .cons ⟨rfl, h⟩ (repT_paired r)
/-- the dict that a value is -/
inductive Dc where
  | k (kvs : List (Key × DV)) | t (kvs : List (List Key × DV))
def dcM (M : List O) : DV → Option Dc
  | .p (.dK kvs) => some (.k (kvs.map fun p => (p.1, .p p.2)))
  | .p (.dT kvs) => some (.t (kvs.map fun p => (p.1, .p p.2)))
  | .o n => match M[n]? with
    | some (.dK kvs) => some (.k kvs)
    | some (.dT kvs) => some (.t kvs)
    | _ => none
  | _ => none
def RepDc (K : PySem.W.Frag) (Z H : Hp) (I : List Addr) (a : Addr) : Dc → Prop
  | .k ds => ∃ ks, H a = some (.dK ks) ∧ Paired (FRel K Z I) ks ds
  | .t ds => ∃ ks, H a = some (.dT ks) ∧ Paired (FRel K Z I) ks ds
theorem dc_rep {x : V} {d : DV} {c : Dc} (w : Wf K Z H I M) (h : RepV K Z I x d) (e : dcM M d = some c) : ∃ a, x = .ref a ∧ RepDc K Z H I a c := by
  cases d with
  | o n =>
    obtain ⟨a, ha, rfl⟩ := h
    unfold dcM at e
    cases z : M[n]? with
    | none => simp only [z] at e; cases e
    | some o =>
      simp only [z] at e
      cases o with
      | dK ds => cases e; obtain ⟨_, r⟩ := w.ob n a _ ha z (by intro z; cases z); exact ⟨a, rfl, r⟩
      | dT ds => cases e; obtain ⟨_, r⟩ := w.ob n a _ ha z (by intro z; cases z); exact ⟨a, rfl, r⟩
      | _ => cases e
  | p d =>
    have h : Rep K Z x d := h
    cases h with
    | dK h1 h2 => cases e; exact ⟨_, rfl, _, w.sub _ _ h1, repK_paired h2⟩
    | dT h1 h2 => cases e; exact ⟨_, rfl, _, w.sub _ _ h1, repT_paired h2⟩
    | _ => cases e
def getC : Dc → D → Option (Option DV)
  | .k kvs, k => (keyD k).map (valO kvs)
  | .t kvs, k => (keyT k).map (valO kvs)
theorem getC_rep {x : Addr} {y : V} {c : Dc} {k : D} {o : Option DV} (s : Same Z H) (h : RepDc K Z H I x c) (hy : Rep K Z y k) (e : getC c k = some o) : ∃ r, DGet H x y r ∧ ((r = none ∧ o = none) ∨ ∃ v d, r = some v ∧ o = some d ∧ RepV K Z I v d) := by
  cases c with
  | k ds =>
    obtain ⟨ks, h1, h2⟩ := h
    have e : (keyD k).map (valO ds) = some o := e
    cases q : keyD k with
    | none => rw [q] at e; cases e
    | some kk =>
      rw [q] at e; cases e
      refine ⟨_, .inl ⟨ks, kk, .inl h1, key_rep hy q, rfl⟩, ?_⟩
      exact valP_rep h2 kk
  | t ds =>
    obtain ⟨ks, h1, h2⟩ := h
    have e : (keyT k).map (valO ds) = some o := e
    cases q : keyT k with
    | none => rw [q] at e; cases e
    | some kk =>
      rw [q] at e; cases e
      obtain ⟨b, rfl, hb⟩ := keyT_rep hy q
      refine ⟨_, .inr ⟨ks, kk, b, .inl h1, rfl, s _ _ hb, rfl⟩, ?_⟩
      exact valP_rep h2 kk
def getM (M : List O) (d : DV) (k : D) : Option (Option DV) := match dcM M d with
  | some c => getC c k
  | none => none
theorem getM_rep {x y : V} {d : DV} {k : D} {o : Option DV} (w : Wf K Z H I M) (hx : RepV K Z I x d) (hy : Rep K Z y k) (e : getM M d k = some o) :
    ∃ a r, x = .ref a ∧ DGet H a y r ∧ ((r = none ∧ o = none) ∨ ∃ v d, r = some v ∧ o = some d ∧ RepV K Z I v d) := by
  unfold getM at e
  cases z : dcM M d with
  | none => simp only [z] at e; cases e
  | some c =>
    simp only [z] at e
    obtain ⟨ad, rfl, rc⟩ := dc_rep w hx z
    obtain ⟨r, g, k⟩ := getC_rep w.sub rc hy e
    exact ⟨ad, r, rfl, g, k⟩
/-- d[k] -/
def dgK (d : DV) (k : D) : EM := fun s => match getM s.m d k with
  | some (some v) => some (.ok v s.m)
  | _ => none
def mDget (m n : EM) : EM := bnd m fun d => bnd n (pur (dgK d))
theorem de_dgetG (hu : X.A.units + 1 < cLine) {td ty : TE} {m n : EM} (ha : DE K X W a td m) (hb : DE K X W b ty n) (hs : NoSl b := by exact fun _ _ => rfl) : DE K X W (.Subscript a b pos) (tDGet td ty) (mDget m n) := by
  refine ⟨ha.k, pe_dget hu ha.pe hb.pe hs, ⟨fun σ H s Z I r0 Q w rs e p => ?_⟩⟩
  refine ha.so.bnd w rs e p.x fun d v M1 Z1 H1 I1 w1 rs1 x1 q1 e1 => ?_
  have p1 := p.mono x1
  refine hb.so.bnd (s := ⟨s.l, M1⟩) w1 rs1 e1 p1.x fun d2 v2 M2 Z2 H2 I2 w2 rs2 x2 q2 e2 => ?_
  obtain ⟨d2, rfl, e2⟩ := pur_ok e2
  have e2 : (match getM M2 d d2 with | some (some v) => some (Rs.ok v M2) | _ => none) = some r0 := e2
  cases z : getM M2 d d2 with
  | none => rw [z] at e2; cases e2
  | some o =>
    rw [z] at e2
    obtain ⟨ad, r, rfl, g, k⟩ := getM_rep w2 (q1.mono x2) q2 z
    rcases k with ⟨_, rfl⟩ | ⟨u, c', rfl, rfl, hr⟩
    · cases e2
    · cases e2
      exact ⟨ad, u, rfl, g, (p1.mono x2) u Z2 H2 I2 w2 Ext.refl hr⟩
/-- k in d, k not in d -/
def dinK (neg : Bool) (k : D) (d : DV) : EM := fun s => match getM s.m d k with
  | some o => some (.ok (.p (.bl (if neg then !o.isSome else o.isSome))) s.m)
  | _ => none
def mDin (neg : Bool) (m n : EM) : EM := bnd m (pur fun k => bnd n (dinK neg k))
theorem so_din (neg : Bool) {ty td : TE} {m n : EM} (ha : Sound K W (RepV K) ty m) (hb : Sound K W (RepV K) td n) :
    Sound K W (RepV K) (fun σ H Q => ty σ H fun y H1 => td σ H1 fun x H2 => ∃ a o, x = .ref a ∧ DGet H2 a y o ∧ Q (.bl (if neg then !o.isSome else o.isSome)) H2) (mDin neg m n) := ⟨fun σ H s Z I r0 Q w rs e p => by
  refine ha.bnd w rs e p.x fun d v M1 Z1 H1 I1 w1 rs1 x1 q1 e1 => ?_
  obtain ⟨d, rfl, e1⟩ := pur_ok e1
  have p1 := p.mono x1
  refine hb.bnd (s := ⟨s.l, M1⟩) w1 rs1 e1 p1.x fun d2 v2 M2 Z2 H2 I2 w2 rs2 x2 q2 e2 => ?_
  have e2 : (match getM M2 d2 d with | some o => some (Rs.ok (DV.p (.bl (if neg then !o.isSome else o.isSome))) M2) | _ => none) = some r0 := e2
  cases z : getM M2 d2 d with
  | none => rw [z] at e2; cases e2
  | some o =>
    rw [z] at e2; cases e2
    obtain ⟨ad, r, rfl, g, k⟩ := getM_rep w2 q2 (Rep.mono x2.z q1) z
    refine ⟨ad, r, rfl, g, ?_⟩
    have er : r.isSome = o.isSome := by
      rcases k with ⟨rfl, rfl⟩ | ⟨u, c', rfl, rfl, hr⟩ <;> rfl
    rw [er]
    exact (p1.mono x2) _ Z2 H2 I2 w2 Ext.refl (.bl _)⟩
theorem mDin_bool {neg : Bool} {m n : EM} (s : S) (r : Rs DV) (e : mDin neg m n s = some r) (v : DV) (M : List O) (hr : r = .ok v M) : ∃ b, v = .p (.bl b) := by
  subst hr
  obtain ⟨a, M1, _, e⟩ := bnd_ok e
  obtain ⟨d, _, e⟩ := pur_ok e
  obtain ⟨a2, M2, _, e⟩ := bnd_ok e
  unfold dinK at e
  cases z : getM M2 a2 d with
  | none => simp only [z] at e; cases e
  | some o => simp only [z] at e; cases e; exact ⟨_, rfl⟩
theorem de_din (hu : X.A.units + 1 < cLine) {ty td : TE} {m n : EM} (ha : DE K X W a ty m) (hb : DE K X W b td n) (hm : behindInMarks .In b = false := by rfl) : DE K X W (.Compare a [.In] [b] pos) (tDIn ty td) (mDin false m n) := ⟨ha.k, pe_cmp (pc_din hu ha.pe hb.pe) hm, so_din false ha.so hb.so⟩
theorem de_dnin (hu : X.A.units + 1 < cLine) {ty td : TE} {m n : EM} (ha : DE K X W a ty m) (hb : DE K X W b td n) (hm : behindInMarks .NotIn b = false := by rfl) : DE K X W (.Compare a [.NotIn] [b] pos) (tDNotIn ty td) (mDin true m n) := ⟨ha.k, pe_cmp (pc_dnotin hu ha.pe hb.pe) hm, so_din true ha.so hb.so⟩
theorem dt_din (hu : X.A.units + 1 < cLine) {ty td : TE} {m n : EM} (ha : DE K X W a ty m) (hb : DE K X W b td n) (hm : behindInMarks .In b = false := by rfl) : DT K X W (.Compare a [.In] [b] pos) (tB (tDIn ty td)) (mDin false m n) := ⟨ha.k, pt_cmp (pc_din hu ha.pe hb.pe) hm, so_B (so_din false ha.so hb.so) mDin_bool⟩
theorem dt_dnin (hu : X.A.units + 1 < cLine) {ty td : TE} {m n : EM} (ha : DE K X W a ty m) (hb : DE K X W b td n) (hm : behindInMarks .NotIn b = false := by rfl) : DT K X W (.Compare a [.NotIn] [b] pos) (tB (tDNotIn ty td)) (mDin true m n) := ⟨ha.k, pt_cmp (pc_dnotin hu ha.pe hb.pe) hm, so_B (so_din true ha.so hb.so) mDin_bool⟩
/-- d[k] = v at a dict of one's own -/
def putM (M : List O) (n : Nat) (k : D) (v : DV) : Option (List O) := match M[n]? with
  | some (.dK ds) => match keyD k with
    | some kk => if ds.length < 1000000 then some (M.set n (.dK (putO ds kk v))) else none
    | none => none
  | some (.dT ds) => match keyT k with
    | some kk => if ds.length < 1000000 then some (M.set n (.dT (putO ds kk v))) else none
    | none => none
  | _ => none
def sPutK (v d : DV) (k : D) : SM := fun s => match d with
  | .o n => match putM s.m n k v with
    | some M => some (.nx, ⟨s.l, M⟩)
    | none => none
  | _ => none
def purS (k : D → SM) : DV → SM
  | .p d, s => k d s
  | .o _, _ => none
theorem purS_ok {k : D → SM} {v : DV} {s : S} {r : Fl × S} (e : purS k v s = some r) : ∃ d, v = .p d ∧ k d s = some r := by
  cases v with
  | p d => exact ⟨d, rfl, e⟩
  | o n => cases e
def sPut (mv md mk : EM) : SM := liftS mv fun v => liftS md fun d => liftS mk (purS fun k => sPutK v d k)
theorem put_rep {n : Nat} {a : Addr} {k : D} {y v : V} {dv : DV} {M' : List O} (w : Wf K Z H I M) (ha : I[n]? = some a) (hy : Rep K Z y k) (hv : RepV K Z I v dv) (e : putM M n k dv = some M') :
    ∃ H', DPut H a y v H' ∧ Wf K Z H' I M' ∧ Ext Z H I Z H' I := by
  unfold putM at e
  split at e
  · rename_i ds hm
    split at e
    · rename_i kk hk
      split at e
      · rename_i hl
        cases e
        obtain ⟨_, ks, h1, h2⟩ := w.ob n a _ ha hm (by intro z; cases z)
        refine ⟨_, .inl ⟨ks, kk, h1, key_rep hy hk, by rw [paired_len h2]; exact size_lt (Nat.le_of_lt hl), rfl⟩, w.setO ha hm (by intro z; cases z) ⟨_, upd_same, putP_rep h2 kk hv⟩, ext_set (List.mem_of_getElem? ha)⟩
      · cases e
    · cases e
  · rename_i ds hm
    split at e
    · rename_i kk hk
      split at e
      · rename_i hl
        cases e
        obtain ⟨_, ks, h1, h2⟩ := w.ob n a _ ha hm (by intro z; cases z)
        obtain ⟨b, rfl, hb⟩ := keyT_rep hy hk
        refine ⟨_, .inr ⟨ks, kk, b, h1, rfl, w.sub _ _ hb, by rw [paired_len h2]; exact size_lt (Nat.le_of_lt hl), rfl⟩, w.setO ha hm (by intro z; cases z) ⟨_, upd_same, putP_rep h2 kk hv⟩, ext_set (List.mem_of_getElem? ha)⟩
      · cases e
    · cases e
  · cases e
theorem ds_put (hu : X.A.units + 1 < cLine) {pos' : Pos} {o i v : Expr} {td ty tv : TE} {md mk mv : EM} (hv : DE K X W v tv mv) (ho : DE K X W o td md) (hi : DE K X W i ty mk) (hs : swapsWith v (some (.Subscript o i pos')) pos.line X.env = pure false := by rfl) :
    DS K X W (.Assign [.Subscript o i pos'] v pos) (sDPut td ty tv) (sPut mv md mk) := ⟨hv.k, ps_dput hu ho.pe hi.pe hv.pe hs, ⟨fun σ H s Z I r D w rs e p => by
  refine hv.so.lift w rs e p fun d v M1 Z1 H1 I1 w1 rs1 x1 q1 e1 p1 => ?_
  refine ho.so.lift (s := ⟨s.l, M1⟩) w1 rs1 e1 p1 fun d2 v2 M2 Z2 H2 I2 w2 rs2 x2 q2 e2 p2 => ?_
  refine hi.so.lift (s := ⟨s.l, M2⟩) w2 rs2 e2 p2 fun d3 v3 M3 Z3 H3 I3 w3 rs3 x3 q3 e3 p3 => ?_
  obtain ⟨d3, rfl, e3⟩ := purS_ok e3
  cases d2 with
  | p d => cases e3
  | o n =>
    have e3 : (match putM M3 n d3 d with | some M => some (Fl.nx, (⟨s.l, M⟩ : S)) | none => none) = some r := e3
    obtain ⟨a, ha, rfl⟩ := q2.mono x3
    cases z : putM M3 n d3 d with
    | none => rw [z] at e3; cases e3
    | some M4 =>
      rw [z] at e3; cases e3
      obtain ⟨H4, hp, w4, x4⟩ := put_rep w3 ha q3 (q1.mono (x2.trans x3)) z
      exact ⟨a, H4, rfl, hp, p3 σ Z3 H4 I3 w4 (rs3.mono x4) x4⟩⟩⟩
/-- {} of one's own -/
def mDnew (o : O) : EM := fun s => some (.ok (.o s.m.length) (s.m ++ [o]))
theorem de_dnewK (k : X.K = K := by rfl) : DE K X W (.Dict [] [] pos) tDNewK (mDnew (.dK [])) := ⟨k, pe_dnewK, ⟨fun σ H s Z I r Q w rs e p => by
  cases e
  intro l hp
  refine p _ Z _ (I ++ [l]) (w.newO hp ⟨[], upd_same, .nil⟩) (ext_new w.sub hp) ⟨l, ?_, rfl⟩
  rw [← w.len, List.getElem?_append_right (Nat.le_refl _), Nat.sub_self]; rfl⟩⟩
theorem de_dnewT (k : X.K = K := by rfl) : DE K X W (.Dict [] [] pos) tDNewT (mDnew (.dT [])) := ⟨k, pe_dnewT, ⟨fun σ H s Z I r Q w rs e p => by
  cases e
  intro l hp
  refine p _ Z _ (I ++ [l]) (w.newO hp ⟨[], upd_same, .nil⟩) (ext_new w.sub hp) ⟨l, ?_, rfl⟩
  rw [← w.len, List.getElem?_append_right (Nat.le_refl _), Nat.sub_self]; rfl⟩⟩
/-- d.get(k), d.get(k, x) -/
def rGet (x : V) (xs : List V) (H : Hp) (Q : VK) : Prop := (∃ a y o, x = .ref a ∧ xs = [y] ∧ DGet H a y o ∧ Q (o.getD .non) H) ∨ ∃ a y z o, x = .ref a ∧ xs = [y, z] ∧ DGet H a y o ∧ Q (o.getD z) H
theorem mt_get (hu : X.A.units + 1 < cLine) : MtR X "dict.get" rGet := by
  intro pins s σ H x xs v us Q I rx rxs h
  rcases h with ⟨a, y, o, rfl, rfl, g, q⟩ | ⟨a, y, z, o, rfl, rfl, g, q⟩
  · cases rx
    obtain ⟨u, rfl, ru⟩ := rxs.one
    exact d_get1 hu I g ru fun w' s' I' r => ⟨_, H, I', r, q⟩
  · cases rx
    cases rxs with
    | cons r1 r2 =>
      obtain ⟨u, rfl, ru⟩ := Vals.one r2
      exact d_get2 hu I g r1 ru fun w' s' I' r => ⟨_, H, I', r, q⟩
def gGet : MtG := fun d ds s => match ds with
  | [.p k] => match getM s.m d k with
    | some (some v) => some (.ok v s.m)
    | some none => some (.ok (.p .non) s.m)
    | none => none
  | [.p k, z] => match getM s.m d k with
    | some (some v) => some (.ok v s.m)
    | some none => some (.ok z s.m)
    | none => none
  | _ => none
theorem md_get (hu : X.A.units + 1 < cLine) : MthD K X "dict.get" rGet gGet := ⟨fun _ => mt_get hu, fun W σ x d vs ds Z H I s r0 Q w hx hv e p => by
  unfold gGet at e
  split at e
  · rename_i k
    cases hv with
    | cons h1 h2 =>
    cases h2
    cases z : getM s.m d k with
    | none => simp only [z] at e; cases e
    | some o =>
      simp only [z] at e
      obtain ⟨ad, r, rfl, g, kk⟩ := getM_rep w hx h1 z
      refine .inl ⟨ad, _, r, rfl, rfl, g, ?_⟩
      rcases kk with ⟨rfl, rfl⟩ | ⟨u, c', rfl, rfl, hr⟩
      · cases e; exact p _ Z H I w Ext.refl .non
      · cases e; exact p _ Z H I w Ext.refl hr
  · rename_i k y
    cases hv with
    | cons h1 h2 =>
    cases h2 with
    | cons h2 h3 =>
    cases h3
    cases z : getM s.m d k with
    | none => simp only [z] at e; cases e
    | some o =>
      simp only [z] at e
      obtain ⟨ad, r, rfl, g, kk⟩ := getM_rep w hx h1 z
      refine .inr ⟨ad, _, _, r, rfl, rfl, g, ?_⟩
      rcases kk with ⟨rfl, rfl⟩ | ⟨u, c', rfl, rfl, hr⟩
      · cases e; exact p _ Z H I w Ext.refl h2
      · cases e; exact p _ Z H I w Ext.refl hr
  · cases e⟩
/-! ### l.pop(i) of one's own -/
def gPopAt : MtG := fun d ds s => match d, ds with
  | .o n, [.p (.int 0)] => match s.m[n]? with
    | some (.lst (x :: xs)) => some (.ok x (s.m.set n (.lst xs)))
    | _ => none
  | _, _ => none
theorem md_popAt : MthD K X "list.pop" rPopAt gPopAt := ⟨fun _ => mt_popAt, fun W σ x d vs ds Z H I s r0 Q w hx hv e p => by
  unfold gPopAt at e
  split at e
  · rename_i n
    obtain ⟨a, ha, rfl⟩ := hx
    cases hv with
    | cons h1 h2 =>
    cases h2
    have h1 : Rep K Z _ (.int 0) := h1
    cases h1
    split at e
    · rename_i y xs hm
      cases e
      obtain ⟨_, ys, g1, g2⟩ := w.ob n a _ ha hm (by intro z; cases z)
      cases g2 with
      | cons g3 g4 =>
        rename_i u us
        refine ⟨a, u :: us, 0, 0, u, rfl, rfl, g1, by decide, by decide, by simp [seqIndex?], rfl, ?_⟩
        exact p u Z _ I (w.setO ha hm (by intro z; cases z) ⟨_, upd_same, g4⟩) (ext_set (List.mem_of_getElem? ha)) (RepV.mono (ext_set (Z := Z) (H := H) (ho := .lst us) (I := I) (List.mem_of_getElem? ha)) g3)
    · cases e
  · cases e⟩
/-! ### ranges as data -/
theorem cr_range1 : CallR X (.type "range") (fun vs H Q => ∃ j, vs = [V.int j] ∧ ∀ p, H p = none → Q (.ref p) (upd H p (.rng 0 j))) := by
  intro pins s σ H vs us Q I r h
  obtain ⟨j, rfl, q⟩ := h
  obtain ⟨u1, rfl, rj⟩ := r.one
  obtain ⟨t, rfl⟩ := rj
  refine call_range_1 ⟨.ref s.heap.objs.size, upd H s.heap.objs.size (.rng 0 j), I.laid (t' := s.toks + 1 + 1) (fun b o e => Heap.get?_push_of_some _ e) (Nat.le_refl _) ?_, rfl, q _ (I.hok.fresh (Nat.le_refl _))⟩
  exact ⟨s.toks, t, s.toks + 1, Heap.get?_push_size _ rfl⟩
def dRng1 : D → Option D
  | .int j => some (.rng 0 j)
  | _ => none
theorem cd_rng1 : CallD K X (.type "range") (fun vs H Q => ∃ j, vs = [V.int j] ∧ ∀ p, H p = none → Q (.ref p) (upd H p (.rng 0 j))) (g1 dRng1) := ⟨fun _ => cr_range1, g1_ok fun x d c Z H Q s hx hg p => by
  unfold dRng1 at hg
  split at hg
  · cases hx; cases hg
    exact ⟨_, rfl, fun q hq => p _ _ _ (ExtP.new s hq) (.rng upd_same)⟩
  · cases hg⟩
def dInR (neg : Bool) : D → D → Option D
  | .int i, .rng lo hi => some (.bl (if neg then !decide (lo ≤ i ∧ i < hi) else decide (lo ≤ i ∧ i < hi)))
  | _, _ => none
theorem bool_dInR {neg : Bool} : boolD (dInR neg) := fun d e c h => by
  unfold dInR at h
  split at h
  · exact ⟨_, (Option.some.inj h).symm⟩
  · cases h
theorem op_nin_rng : OpR X (compareOp .NotIn) (fun x y H Q => ∃ i a lo hi, x = V.int i ∧ y = V.ref a ∧ H a = some (.rng lo hi) ∧ Q (.bl (!decide (lo ≤ i ∧ i < hi))) H) := by
  intro pins s σ H x y v u Q I rx ry h
  obtain ⟨i, a, lo, hi, rfl, rfl, ha, q⟩ := h
  obtain ⟨k, rfl⟩ := rx
  obtain rfl : u = Value.ref a := ry
  obtain ⟨t1, t2, t3, ho⟩ := I.hok a _ ha
  show wpAny _ _ (do return Value.bool (!(← contains (Value.ref a) (Value.int i k)))) _ _ s
  refine wpAny_bind (wpAny_contains_slot (T := "range") ⟨_, ho, rfl⟩ F.slot_range_contains (call_meets F.slot_range_contains ⟨_, ho, rfl⟩ F.entry_range_contains (F.args_range_contains_2 _ _) (q_contains a lo hi i t1 t2 t3 k)
    ⟨ho, wpAny_truthy_bool (wpAny_pure ⟨.bl _, H, I, rfl, ?_⟩)⟩))
  rw [place1]
  exact q
theorem od_inR : OpD K X (compareOp .In) (fun x y H Q => ∃ i a lo hi, x = V.int i ∧ y = V.ref a ∧ H a = some (.rng lo hi) ∧ Q (.bl (decide (lo ≤ i ∧ i < hi))) H) (dInR false) := ⟨fun _ => op_in_rng, by
  intro x y d e c Z H Q s hx hy hg p
  unfold dInR at hg
  split at hg
  · cases hx
    cases hy with
    | rng h => cases hg; exact ⟨_, _, _, _, rfl, rfl, s _ _ h, p _ Z H (ExtP.refl s) (.bl _)⟩
  · cases hg⟩
theorem od_ninR : OpD K X (compareOp .NotIn) (fun x y H Q => ∃ i a lo hi, x = V.int i ∧ y = V.ref a ∧ H a = some (.rng lo hi) ∧ Q (.bl (!decide (lo ≤ i ∧ i < hi))) H) (dInR true) := ⟨fun _ => op_nin_rng, by
  intro x y d e c Z H Q s hx hy hg p
  unfold dInR at hg
  split at hg
  · cases hx
    cases hy with
    | rng h => cases hg; exact ⟨_, _, _, _, rfl, rfl, s _ _ h, p _ Z H (ExtP.refl s) (.bl _)⟩
  · cases hg⟩
/-! ### l.index(x), flat items -/
def flatD : D → Bool
  | .non => true
  | .bl _ => true
  | .int _ => true
  | .str _ => true
  | _ => false
def findJ (x : D) : List D → Nat → Option Nat
  | [], _ => none
  | y :: ys, j => if deq y x = true then some j else findJ x ys (j + 1)
def dLindex : D → List D → Option D
  | .lst ys, [x] => if flatD x = true ∧ ys.all flatD = true then (findJ x ys 0).map fun (j : Nat) => .int (j : Int) else none
  | .klst ys, [x] => if flatD x = true ∧ ys.all flatD = true then (findJ x ys 0).map fun (j : Nat) => .int (j : Int) else none
  | _, _ => none
theorem flat_rep {v : V} {d : D} (h : Rep K Z v d) (f : flatD d = true) : flatV v = true := by
  cases h <;> first | rfl | cases f
theorem flats_rep : ∀ {vs : List V} {ds : List D}, RepA K Z vs ds → ds.all flatD = true → vs.all flatV = true
  | _, _, .nil, _ => rfl
  | _, _, .cons h r, f => by
    rw [List.all_cons, Bool.and_eq_true] at f
    rw [List.all_cons, Bool.and_eq_true]
    exact ⟨flat_rep h f.1, flats_rep r f.2⟩
theorem eq_rep {v w : V} {d f : D} (h : Rep K Z v d) (g : Rep K Z w f) (fd : flatD d = true) (ff : flatD f = true) : eqV v w = deq d f := by
  cases h <;> first | cases fd | skip
  all_goals (cases g <;> first | cases ff | skip)
  all_goals first | rfl | (rename_i a b; cases a <;> cases b <;> rfl) | skip
theorem find_rep {x : V} {dx : D} (hx : Rep K Z x dx) (fx : flatD dx = true) : ∀ {vs : List V} {ds : List D} {j k : Nat}, RepA K Z vs ds → ds.all flatD = true → findJ dx ds j = some k →
    ∃ i z, k = j + i ∧ vs[i]? = some z ∧ eqV z x = true ∧ ∀ m z', m < i → vs[m]? = some z' → eqV z' x = false
  | _, _, _, _, .nil, _, e => by cases e
  | _, _, j, k, .cons (v := v) (vs := vs) (d := d) (ds := ds) h r, f, e => by
    rw [List.all_cons, Bool.and_eq_true] at f
    have e : (if deq d dx = true then some j else findJ dx ds (j + 1)) = some k := e
    by_cases q : deq d dx = true
    · rw [if_pos q] at e
      cases e
      exact ⟨0, v, rfl, rfl, by rw [eq_rep h hx f.1 fx]; exact q, fun m z' hm => absurd hm (Nat.not_lt_zero m)⟩
    · rw [if_neg q] at e
      obtain ⟨i, z, h1, h2, h3, h4⟩ := find_rep hx fx r f.2 e
      refine ⟨i + 1, z, by omega, by simpa using h2, h3, fun m z' hm hz => ?_⟩
      cases m with
      | zero =>
        cases hz
        rw [eq_rep h hx f.1 fx]; simpa using q
      | succ m => exact h4 m z' (by omega) (by simpa using hz)
theorem md_lindex : MthD K X "list.index" (rIndex K) (gP dLindex) := ⟨fun k => by rw [← k]; exact mt_index, gP_ok fun x d vs ds c Z H Q s hx hv e p => by
  unfold dLindex at e
  have main : ∀ {a : Addr} {xs : List V} {ys : List D} {y : D}, x = .ref a → SqL K H a xs → RepA K Z xs ys → RepA K Z vs [y] → (if flatD y = true ∧ ys.all flatD = true then (findJ y ys 0).map fun (j : Nat) => D.int (j : Int) else none) = some c → rIndex K x vs H Q := by
    intro a xs ys y ex hs ra rv e
    split at e
    · rename_i hf
      obtain ⟨j, hj, rfl⟩ := Option.map_eq_some_iff.mp e
      cases rv with
      | cons h1 h2 =>
      cases h2
      obtain ⟨i, z, e1, e2, e3, e4⟩ := find_rep h1 hf.1 ra hf.2 hj
      obtain rfl : j = i := by omega
      exact ⟨a, xs, _, j, z, ex, rfl, hs, flat_rep h1 hf.1, flats_rep ra hf.2, e2, e3, e4, p _ Z H (ExtP.refl s) (.int _)⟩
    · cases e
  split at e
  · cases hx with
    | lst h1 h2 => exact main rfl (.inl (same_rd s h1)) h2 hv e
  · cases hx with
    | klst h1 h2 => exact main rfl (same_l s h1) h2 hv e
  · cases e⟩
/-! ### from here on it stays: a name's own object is given up -/
def allKP {κ : Type} : List (κ × DV) → Option (List (κ × D))
  | [] => some []
  | (k, .p d) :: r => (allKP r).map ((k, d) :: ·)
  | (_, .o _) :: _ => none
theorem allKP_k : ∀ {ks : List (Key × V)} {ds : List (Key × DV)} {xs : List (Key × D)}, Paired (FRel K Z I) ks ds → allKP ds = some xs → RepK K Z ks xs
  | _, [], _, .nil, e => by cases e; exact .nil
  | (k', v) :: ks, (k, .p d) :: r, _, .cons h t, e => by
    have e : (allKP r).map ((k, d) :: ·) = some _ := e
    cases q : allKP r with
    | none => rw [q] at e; cases e
    | some ys =>
      rw [q] at e; cases e
      obtain ⟨h1, h2⟩ := h
      cases (show k' = k from h1)
      exact .cons h2 (allKP_k t q)
  | _, (_, .o _) :: _, _, .cons h t, e => by cases e
theorem allKP_t : ∀ {ks : List (List Key × V)} {ds : List (List Key × DV)} {xs : List (List Key × D)}, Paired (FRel K Z I) ks ds → allKP ds = some xs → RepT K Z ks xs
  | _, [], _, .nil, e => by cases e; exact .nil
  | (k', v) :: ks, (k, .p d) :: r, _, .cons h t, e => by
    have e : (allKP r).map ((k, d) :: ·) = some _ := e
    cases q : allKP r with
    | none => rw [q] at e; cases e
    | some ys =>
      rw [q] at e; cases e
      obtain ⟨h1, h2⟩ := h
      cases (show k' = k from h1)
      exact .cons h2 (allKP_t t q)
  | _, (_, .o _) :: _, _, .cons h t, e => by cases e
def frzO : O → Option D
  | .lst ds => (allP ds).map .lst
  | .dK ds => (allKP ds).map .dK
  | .dT ds => (allKP ds).map .dT
  | _ => none
def sFrz (i : Nat) : SM := fun s => match gv s.l i with
  | some (.o n) => match s.m[n]? with
    | some o => match frzO o with
      | some d => some (.nx, ⟨s.l.set i (some (.p d)), s.m.set n .gone⟩)
      | none => none
    | none => none
  | _ => none
theorem frz_rep {n : Nat} {a : Addr} {o : O} {d : D} (w : Wf K Z H I M) (ha : I[n]? = some a) (hm : M[n]? = some o) (e : frzO o = some d) : ∃ Z', Wf K Z' H I (M.set n .gone) ∧ Ext Z H I Z' H I ∧ Rep K Z' (.ref a) d := by
  cases o with
  | lst ds =>
    obtain ⟨xs, hx, rfl⟩ := Option.map_eq_some_iff.mp (show (allP ds).map D.lst = some d from e)
    obtain ⟨hz, ys, h1, h2⟩ := w.ob n a _ ha hm (by intro z; cases z)
    have x2 := ext_frz w ha hz h1
    exact ⟨_, w.frz ha hm (by intro z; cases z) h1, x2, .lst (.inl upd_same) ((allP_rep h2 hx).mono x2.z)⟩
  | dK ds =>
    obtain ⟨xs, hx, rfl⟩ := Option.map_eq_some_iff.mp (show (allKP ds).map D.dK = some d from e)
    obtain ⟨hz, ys, h1, h2⟩ := w.ob n a _ ha hm (by intro z; cases z)
    have x2 := ext_frz w ha hz h1
    exact ⟨_, w.frz ha hm (by intro z; cases z) h1, x2, .dK upd_same ((allKP_k h2 hx).mono x2.z)⟩
  | dT ds =>
    obtain ⟨xs, hx, rfl⟩ := Option.map_eq_some_iff.mp (show (allKP ds).map D.dT = some d from e)
    obtain ⟨hz, ys, h1, h2⟩ := w.ob n a _ ha hm (by intro z; cases z)
    have x2 := ext_frz w ha hz h1
    exact ⟨_, w.frz ha hm (by intro z; cases z) h1, x2, .dT upd_same ((allKP_t h2 hx).mono x2.z)⟩
  | _ => cases e
theorem so_sfrz (i : Nat) {t : TS} {m : SM} (h : SoundS K W t m) : SoundS K W t (sSeq (sFrz i) m) := ⟨fun σ H s Z I r D w rs e p => by
  unfold sSeq sFrz at e
  cases q : gv s.l i with
  | none => simp only [q] at e; cases e
  | some d =>
    cases d with
    | p d => simp only [q] at e; cases e
    | o n =>
      simp only [q] at e
      cases q2 : s.m[n]? with
      | none => simp only [q2] at e; cases e
      | some o =>
        simp only [q2] at e
        cases q3 : frzO o with
        | none => simp only [q3] at e; cases e
        | some d =>
          simp only [q3] at e
          obtain ⟨v, h1, a, ha, rfl⟩ := rs.at_ i _ (gv_some q)
          obtain ⟨Z', w', x', rp⟩ := frz_rep w ha q2 q3
          refine h.ok σ H _ Z' I r D w' ?_ e (p.mono x')
          have r1 := (rs.mono x').set (v := .ref a) (dv := .p d) rp i
          have e2 : σ.set i (some (V.ref a)) = σ := by
            obtain ⟨hl, he⟩ := List.getElem?_eq_some_iff.mp h1
            rw [← he, List.set_getElem_self]
          rw [e2] at r1
          exact r1⟩
theorem dss_frz (i : Nat) {sts : List Stmt} {t : TS} {m : SM} (h : DSs K X W sts t m) : DSs K X W sts t (sSeq (sFrz i) m) := ⟨h.k, h.ps, so_sfrz i h.so⟩
end
end DL
namespace DL
open PySem L2
/-! equations of DL31, and data that stand for values of a type -/
@[simp] theorem e_dget (m n : EM) (s : S) : mDget m n s = (bnd m fun d => bnd n (pur (dgK d))) s := rfl
@[simp] theorem e_dgK (d : DV) (k : D) (s : S) : dgK d k s = (match getM s.m d k with | some (some v) => some (.ok v s.m) | _ => none) := rfl
@[simp] theorem e_din (neg : Bool) (m n : EM) (s : S) : mDin neg m n s = (bnd m (pur fun k => bnd n (dinK neg k))) s := rfl
@[simp] theorem e_dinK (neg : Bool) (k : D) (d : DV) (s : S) : dinK neg k d s = (match getM s.m d k with | some o => some (.ok (.p (.bl (if neg then !o.isSome else o.isSome))) s.m) | _ => none) := rfl
@[simp] theorem e_put (mv md mk : EM) (s : S) : sPut mv md mk s = (liftS mv fun v => liftS md fun d => liftS mk (purS fun k => sPutK v d k)) s := rfl
@[simp] theorem e_purS (k : D → SM) (d : D) (s : S) : purS k (.p d) s = k d s := rfl
@[simp] theorem e_putK (v : DV) (n : Nat) (k : D) (s : S) : sPutK v (.o n) k s = (match putM s.m n k v with | some M => some (.nx, ⟨s.l, M⟩) | none => none) := rfl
@[simp] theorem e_dnew (o : O) (s : S) : mDnew o s = some (.ok (.o s.m.length) (s.m ++ [o])) := rfl
@[simp] theorem e_get1 (d : DV) (k : D) (s : S) : gGet d [.p k] s = (match getM s.m d k with | some (some v) => some (.ok v s.m) | some none => some (.ok (.p .non) s.m) | none => none) := rfl
@[simp] theorem e_get2 (d : DV) (k : D) (z : DV) (s : S) : gGet d [.p k, z] s = (match getM s.m d k with | some (some v) => some (.ok v s.m) | some none => some (.ok z s.m) | none => none) := rfl
@[simp] theorem e_popAt (n : Nat) (s : S) : gPopAt (.o n) [.p (.int 0)] s = (match s.m[n]? with | some (.lst (x :: xs)) => some (.ok x (s.m.set n (.lst xs))) | _ => none) := rfl
@[simp] theorem e_rngD (j : Int) : dRng1 (.int j) = some (.rng 0 j) := rfl
@[simp] theorem e_inR0 (i lo hi : Int) : dInR false (.int i) (.rng lo hi) = some (.bl (decide (lo ≤ i ∧ i < hi))) := rfl
@[simp] theorem e_inR1 (i lo hi : Int) : dInR true (.int i) (.rng lo hi) = some (.bl (!decide (lo ≤ i ∧ i < hi))) := rfl
@[simp] theorem e_sfrz (i : Nat) (s : S) : sFrz i s = (match gv s.l i with
  | some (.o n) => match s.m[n]? with
    | some o => match frzO o with
      | some d => some (.nx, ⟨s.l.set i (some (.p d)), s.m.set n .gone⟩)
      | none => none
    | none => none
  | _ => none) := rfl
@[simp] theorem e_frzL (xs : List DV) : frzO (.lst xs) = (allP xs).map .lst := rfl
@[simp] theorem e_lindex (ys : List D) (x : D) : dLindex (.lst ys) [x] = if flatD x = true ∧ ys.all flatD = true then (findJ x ys 0).map fun (j : Nat) => .int (j : Int) else none := rfl
@[simp] theorem e_flatI (i : Int) : flatD (.int i) = true := rfl
@[simp] theorem e_flatS (i : Str) : flatD (.str i) = true := rfl
@[simp] theorem e_tyOkP (M : List O) (xs : List D) : tyOk "list" M (.p (.lst xs)) = true := rfl
/-! equality -/
theorem scal_deq {d e : D} {b : Bool} (h : scalD d e = some b) : b = deq d e := by
  unfold scalD at h
  split at h <;> first | (cases h; rfl) | cases h
theorem eqD_deq {d e : D} {b : Bool} (h : eqD d e = some b) : b = deq d e := by
  unfold eqD at h
  split at h
  · rename_i h1; cases h; exact scal_deq h1
  · split at h
    · cases h; rfl
    · cases h
theorem eqD_shp {d e : D} (h1 : shp d = true) (h2 : shp e = true) : eqD d e = some (deq d e) := by
  unfold eqD
  split
  · rename_i h; rw [scal_deq h]
  · rw [h1, h2]; rfl
theorem inD_shp {d : D} {ds : List D} (h1 : shp d = true) (h2 : shp (.lst ds) = true) : inD d (.lst ds) = some (ds.any fun z => deq z d) := by
  have e : inD d (.lst ds) = if (shp d && shp (.lst ds)) = true then some (ds.any fun z => deq z d) else none := by cases d <;> rfl
  rw [e, h1, h2]; rfl
/-- values of a type, as data -/
class En (α : Type) [DecidableEq α] where
  en : α → D
  dq : ∀ a b, deq (en a) (en b) = decide (a = b)
  ok : ∀ a, okD (en a) = true
  dp : Nat
  dpl : ∀ a, depD (en a) ≤ dp
section
variable {α β : Type} [DecidableEq α] [DecidableEq β] [En α] [En β]
instance : En Int := ⟨.int, fun a b => by simp, fun _ => rfl, 0, fun _ => Nat.le_refl _⟩
instance : En Bool := ⟨.bl, fun a b => by simp, fun _ => rfl, 0, fun _ => Nat.le_refl _⟩
theorem deqs_en : ∀ l m : List α, deqs (l.map En.en) (m.map En.en) = decide (l = m)
  | [], [] => rfl
  | [], y :: ys => by simp
  | x :: xs, [] => by simp
  | x :: xs, y :: ys => by
    rw [List.map_cons, List.map_cons, e_deqs1, En.dq, deqs_en xs ys]
    by_cases h1 : x = y <;> by_cases h2 : xs = ys <;> simp [h1, h2]
theorem okDs_en : ∀ l : List α, okDs (l.map En.en) = true
  | [] => rfl
  | x :: xs => by rw [List.map_cons, e_ok1, En.ok, okDs_en xs]; rfl
theorem depDs_en : ∀ l : List α, depDs (l.map En.en) ≤ En.dp α
  | [] => Nat.zero_le _
  | x :: xs => by rw [List.map_cons, e_dp1]; exact Nat.max_le.mpr ⟨En.dpl x, depDs_en xs⟩
instance : En (α × β) := ⟨fun p => .tup [En.en p.1, En.en p.2], fun a b => by
    obtain ⟨a1, a2⟩ := a; obtain ⟨b1, b2⟩ := b
    by_cases h1 : a1 = b1 <;> by_cases h2 : a2 = b2 <;> simp [En.dq, h1, h2], fun a => by simp [En.ok], max (En.dp α) (En.dp β) + 1, fun a => by
    have h1 := En.dpl a.1; have h2 := En.dpl a.2
    simp; omega⟩
instance : En (List α) := ⟨fun l => .lst (l.map En.en), deqs_en, okDs_en, En.dp α + 1, fun l => Nat.succ_le_succ (depDs_en l)⟩
theorem shp_en (a : α) (h : En.dp α ≤ 64) : shp (En.en a) = true := by
  have := En.dpl a
  rw [e_shp, En.ok]; simp; omega
theorem eqD_en (a b : α) (h : En.dp α ≤ 64) : eqD (En.en a) (En.en b) = some (decide (a = b)) := by
  rw [eqD_shp (shp_en a h) (shp_en b h), En.dq]
theorem any_en (a : α) : ∀ l : List α, ((l.map En.en).any fun z => deq z (En.en a)) = decide (a ∈ l)
  | [] => rfl
  | x :: xs => by
    rw [List.map_cons, List.any_cons, En.dq, any_en a xs]
    by_cases h1 : x = a <;> by_cases h2 : a ∈ xs <;> simp [h1, h2, eq_comm]
    all_goals (intro h; exact absurd h.symm h1)
theorem inD_en (a : α) (l : List α) (h : En.dp α + 1 ≤ 64) : inD (En.en a) (.lst (l.map En.en)) = some (decide (a ∈ l)) := by
  rw [inD_shp (shp_en a (by omega)) (shp_en (α := List α) l h), any_en]
end
end DL
namespace DL
open PySem L2
/-! data whose text is short -/
theorem int_rb (i : Int) (h : i.natAbs ≤ 1000000000000000000) : rb (.int i) ≤ 100 := by
  have hl : i.natAbs.log2 < 64 := by
    by_cases h0 : i.natAbs = 0
    · rw [h0]; decide
    · exact (Nat.log2_lt h0).mpr (by omega)
  show (intS i).length ≤ 100
  have := int_text_length_le (k := 64) (by decide) hl
  unfold intS
  rw [ofString_length]
  omega
/-- data of depth n at most, whose text has w signs at most -/
structure Sm (n w : Nat) (d : D) : Prop where
  ok : okD d = true
  dp : depD d ≤ n
  sh : showD d = true
  rb : rb d ≤ w
theorem Sm.int {n w : Nat} {i : Int} (h : i.natAbs ≤ 1000000000000000000) (hw : 100 ≤ w) : Sm n w (.int i) := ⟨rfl, Nat.zero_le _, logOk_of h, Nat.le_trans (int_rb i h) hw⟩
theorem Sm.bl {n w : Nat} {i : Bool} (hw : 5 ≤ w) : Sm n w (.bl i) := ⟨rfl, Nat.zero_le _, rfl, hw⟩
theorem Sm.non {n w : Nat} (hw : 5 ≤ w) : Sm n w .non := ⟨rfl, Nat.zero_le _, rfl, hw⟩
theorem Sm.mono {n w n' w' : Nat} {d : D} (h : Sm n w d) (hn : n ≤ n') (hw : w ≤ w') : Sm n' w' d := ⟨h.ok, Nat.le_trans h.dp hn, h.sh, Nat.le_trans h.rb hw⟩
theorem sm_all {n w : Nat} : ∀ {ds : List D}, (∀ d ∈ ds, Sm n w d) → okDs ds = true ∧ depDs ds ≤ n ∧ showDs ds = true ∧ rbs ds ≤ (w + 2) * ds.length
  | [], _ => ⟨rfl, Nat.zero_le _, rfl, Nat.zero_le _⟩
  | d :: ds, h => by
    have h1 := h d (by simp)
    obtain ⟨a, b, c, e⟩ := sm_all (n := n) (w := w) (ds := ds) fun x hx => h x (List.mem_cons_of_mem _ hx)
    refine ⟨by rw [e_ok1, h1.ok, a]; rfl, by rw [e_dp1]; exact Nat.max_le.mpr ⟨h1.dp, b⟩, ?_, ?_⟩
    · show (showD d && showDs ds) = true
      rw [h1.sh, c]; rfl
    · show DL.rb d + 2 + rbs ds ≤ (w + 2) * (ds.length + 1)
      have := h1.rb
      rw [Nat.mul_succ]
      omega
theorem Sm.lst {n w v : Nat} {ds : List D} (h : ∀ d ∈ ds, Sm n w d) (hv : (w + 2) * ds.length + 3 ≤ v) : Sm (n + 1) v (.lst ds) := by
  obtain ⟨a, b, c, e⟩ := sm_all h
  exact ⟨a, Nat.succ_le_succ b, c, by show rbs ds + 3 ≤ v; omega⟩
theorem Sm.tup {n w v : Nat} {ds : List D} (h : ∀ d ∈ ds, Sm n w d) (hv : (w + 2) * ds.length + 3 ≤ v) : Sm (n + 1) v (.tup ds) := by
  obtain ⟨a, b, c, e⟩ := sm_all h
  exact ⟨a, Nat.succ_le_succ b, c, by show rbs ds + 3 ≤ v; omega⟩
theorem Sm.repr {n w : Nat} {d : D} (h : Sm n w d) (hn : n ≤ 64) (hw : w ≤ 1000000) : dRepr d = some (.str (reprD d)) := by
  unfold dRepr
  have hs : shp d = true := by
    rw [e_shp, h.ok]
    have := h.dp
    simp; omega
  have := h.rb
  rw [hs, h.sh, if_pos (by decide), if_pos (by omega)]
theorem Sm.str {n w : Nat} {s : Str} (h : PyData.strOk s = true) (hw : 10 * s.length + 2 ≤ w) : Sm n w (.str s) := by
  refine ⟨h, Nat.zero_le _, rfl, Nat.le_trans ?_ hw⟩
  refine StrLaws.reprText_len s fun c hc => ?_
  unfold PyData.strOk at h
  rw [← Array.all_toList, List.all_eq_true] at h
  have := of_decide_eq_true (h c hc)
  have e : (1114112 : Nat) ≤ 16 ^ 8 := by decide
  omega
theorem ks_len (k : String) : (Str.ofString k).length = k.toList.length := by rw [tx_ofString, tx_len, List.length_map]
mutual
theorem deq_refl : ∀ d : D, okD d = true → deq d d = true
  | .non, _ => rfl
  | .bl b, _ => by simp
  | .int i, _ => by simp
  | .str s, _ => by simp
  | .lst xs, h => deqs_refl xs h
  | .tup xs, h => deqs_refl xs h
  | .klst xs, h => deqs_refl xs h
  | .ktup xs, h => deqs_refl xs h
  | .dK _, h => by cases h
  | .dT _, h => by cases h
  | .fn _, h => by cases h
  | .scr _, h => by cases h
  | .ty _, h => by cases h
  | .rng _ _, h => by cases h
theorem deqs_refl : ∀ d : List D, okDs d = true → deqs d d = true
  | [], _ => rfl
  | x :: xs, h => by
    have h : (okD x && okDs xs) = true := h
    rw [Bool.and_eq_true] at h
    show (deq x x && deqs xs xs) = true
    rw [deq_refl x h.1, deqs_refl xs h.2]; rfl
end
theorem eqD_refl {d : D} (h : okD d = true) (h2 : depD d ≤ 64) : eqD d d = some true := by
  have hs : shp d = true := by rw [e_shp, h, decide_eq_true h2]; rfl
  rw [eqD_shp hs hs, deq_refl d h]
end DL
namespace DL
open PySem L2
section
variable {α κ : Type} [DecidableEq κ]
theorem valO_cons (p : κ × α) (r : List (κ × α)) (k : κ) : valO (p :: r) k = if p.1 = k then some p.2 else valO r k := by
  by_cases h : p.1 = k <;> simp [valO, h]
theorem valO_map (k j : κ) (v : α) : ∀ kvs : List (κ × α), valO (kvs.map fun kv => if kv.1 = k then (kv.1, v) else kv) j = (valO kvs j).map fun x => if j = k then v else x
  | [] => rfl
  | p :: r => by
    rw [List.map_cons, valO_cons, valO_cons, valO_map k j v r]
    by_cases h : p.1 = k
    · rw [if_pos h]
      by_cases e : p.1 = j
      · rw [if_pos e, if_pos e, Option.map_some, if_pos (e.symm.trans h)]
      · rw [if_neg e, if_neg e]
    · rw [if_neg h]
      by_cases e : p.1 = j
      · rw [if_pos e, if_pos e, Option.map_some, if_neg fun z => h (e.trans z)]
      · rw [if_neg e, if_neg e]
theorem valO_any (k : κ) : ∀ kvs : List (κ × α), (kvs.any fun kv => decide (kv.1 = k)) = (valO kvs k).isSome
  | [] => rfl
  | p :: r => by
    rw [List.any_cons, valO_cons, valO_any k r]
    by_cases h : p.1 = k <;> simp [h]
theorem valO_snoc (k j : κ) (v : α) : ∀ kvs : List (κ × α), valO kvs k = none → valO (kvs ++ [(k, v)]) j = if j = k then some v else valO kvs j
  | [], _ => by
    rw [List.nil_append, valO_cons]
    by_cases e : k = j
    · rw [if_pos e, if_pos e.symm]
    · rw [if_neg e, if_neg fun z => e z.symm]
  | p :: r, h => by
    rw [valO_cons] at h
    by_cases e : p.1 = k
    · rw [if_pos e] at h; cases h
    · rw [if_neg e] at h
      rw [List.cons_append, valO_cons, valO_cons, valO_snoc k j v r h]
      by_cases e2 : p.1 = j
      · rw [if_pos e2, if_pos e2, if_neg fun z => e (e2.trans z)]
      · rw [if_neg e2, if_neg e2]
theorem valO_put (kvs : List (κ × α)) (k j : κ) (v : α) : valO (putO kvs k v) j = if j = k then some v else valO kvs j := by
  unfold putO
  rw [valO_any]
  split
  · rename_i h
    rw [valO_map]
    by_cases e : j = k
    · subst e
      rw [if_pos rfl]
      obtain ⟨x, hx⟩ := Option.isSome_iff_exists.mp h
      rw [hx]; simp
    · rw [if_neg e]
      cases valO kvs j with
      | none => rfl
      | some x => simp [e]
  · rename_i h
    exact valO_snoc k j v kvs (by simpa using h)
theorem putO_len (kvs : List (κ × α)) (k : κ) (v : α) : (putO kvs k v).length ≤ kvs.length + 1 := by
  unfold putO; split <;> simp
end
theorem gv_set (l : List (Option DV)) (i j : Nat) (x : Option DV) : gv (l.set i x) j = if i = j then (if i < l.length then x else none) else gv l j := by
  unfold gv
  by_cases h : i = j
  · subst h
    rw [if_pos rfl]
    by_cases hl : i < l.length
    · rw [List.getElem?_set_self hl, if_pos hl]; cases x <;> rfl
    · rw [List.getElem?_eq_none (by simpa using hl), if_neg hl]
  · rw [List.getElem?_set_ne h, if_neg h]
end DL
namespace DL
open PySem L2
@[simp] theorem at2 {α : Type} (x y z : α) (xs : List α) : atI (x :: y :: z :: xs) 2 = some z := atI_nat' (by decide) rfl
@[simp] theorem at3 {α : Type} (x y z u : α) (xs : List α) : atI (x :: y :: z :: u :: xs) 3 = some u := atI_nat' (by decide) rfl
@[simp] theorem at4 {α : Type} (x y z u v : α) (xs : List α) : atI (x :: y :: z :: u :: v :: xs) 4 = some v := atI_nat' (by decide) rfl
@[simp] theorem at5 {α : Type} (x y z u v t : α) (xs : List α) : atI (x :: y :: z :: u :: v :: t :: xs) 5 = some t := atI_nat' (by decide) rfl
end DL
namespace DL
open PySem L2
theorem getM_T {M : List O} {n : Nat} {kvs : List (List Key × DV)} (h : M[n]? = some (.dT kvs)) (k : D) : getM M (.o n) k = (keyT k).map (valO kvs) := by
  unfold getM dcM; simp only [h]; rfl
theorem getM_K {M : List O} {n : Nat} {kvs : List (Key × DV)} (h : M[n]? = some (.dK kvs)) (k : D) : getM M (.o n) k = (keyD k).map (valO kvs) := by
  unfold getM dcM; simp only [h]; rfl
theorem putM_T {M : List O} {n : Nat} {kvs : List (List Key × DV)} (h : M[n]? = some (.dT kvs)) {k : D} {kk : List Key} (hk : keyT k = some kk) (hl : kvs.length < 1000000) (v : DV) : putM M n k v = some (M.set n (.dT (putO kvs kk v))) := by
  unfold putM; simp only [h, hk, if_pos hl]
theorem putM_K {M : List O} {n : Nat} {kvs : List (Key × DV)} (h : M[n]? = some (.dK kvs)) {k : D} {kk : Key} (hk : keyD k = some kk) (hl : kvs.length < 1000000) (v : DV) : putM M n k v = some (M.set n (.dK (putO kvs kk v))) := by
  unfold putM; simp only [h, hk, if_pos hl]
@[simp] theorem tyOk_dT {M : List O} {n : Nat} {kvs : List (List Key × DV)} (h : M[n]? = some (.dT kvs)) : tyOk "dict" M (.o n) = true := by
  unfold tyOk; simp only [h]; rfl
end DL
namespace DL
open PySem L2
/-- a loop, its turns counted -/
theorem w_loopN {g : GM} {b : SM} {Inv : Nat → S → Prop} {R : DV → S → Prop} : ∀ (ds : List DV) (n : Nat) (s : S), Inv n s →
    (∀ d ∈ ds, ∀ m, n ≤ m → m < n + ds.length → ∀ s, Inv m s → ∃ s1, g d s = some s1 ∧ wpS (b s1) (fun f s2 => (f = .nx ∧ Inv (m + 1) s2) ∨ (∃ v, f = .rt v ∧ R v s2))) →
    wpS (loopS g b ds s) (fun f s2 => (f = .nx ∧ Inv (n + ds.length) s2) ∨ (∃ v, f = .rt v ∧ R v s2))
  | [], n, s, h, _ => by simp; exact h
  | d :: ds, n, s, h, k => by
    obtain ⟨s1, h1, f, s2, e, nn, p⟩ := k d (by simp) n (Nat.le_refl _) (by simp) s h
    rw [loopS_cons, h1]
    dsimp only
    rw [e]
    rcases p with ⟨rfl, p⟩ | ⟨v, rfl, p⟩
    · have := w_loopN (R := R) ds (n + 1) s2 p fun x hx m h1 h2 => k x (List.mem_cons_of_mem _ hx) m (by omega) (by simp; omega)
      rw [show n + 1 + ds.length = n + (d :: ds).length by simp; omega] at this
      exact this
    · exact ⟨_, _, rfl, rfl, .inr ⟨v, rfl, p⟩⟩
/-- a comprehension whose test draws, too -/
theorem compL_drawT {l : List (Option DV)} {g : GM} {t e : EM} {Inv : List O → Prop} {R : D → Prop} : ∀ (ds : List DV) (acc : List D) (M : List O), Inv M → (∀ y ∈ acc, R y) → acc.length + ds.length ≤ 1000000 →
    (∀ d ∈ ds, ∀ M, Inv M → ∃ s1, g d ⟨l, M⟩ = some s1 ∧ wpB (t s1) (fun v M2 => ∃ b, v = .p (.bl b) ∧ Inv M2 ∧ (b = true → wpB (e ⟨s1.l, M2⟩) (fun v M3 => ∃ y, v = .p y ∧ R y ∧ Inv M3)))) →
    ∃ ys M', compL l g t e ds acc M = some (ys, M') ∧ Inv M' ∧ (∀ y ∈ ys, R y) ∧ ys.length ≤ acc.length + ds.length
  | [], acc, M, h, ha, _, _ => ⟨acc, M, rfl, h, ha, Nat.le_refl _⟩
  | d :: ds, acc, M, h, ha, hl, k => by
    obtain ⟨s1, h1, v, M2, e1, b, rfl, h2, h3⟩ := k d (by simp) M h
    have hl' : acc.length + (ds.length + 1) ≤ 1000000 := hl
    unfold compL
    rw [h1]
    dsimp only
    rw [e1]
    cases b with
    | false =>
      dsimp only
      obtain ⟨ys, M', e2, i2, r2, l2⟩ := compL_drawT (t := t) (e := e) ds acc M2 h2 ha (by omega) fun x hx => k x (List.mem_cons_of_mem _ hx)
      exact ⟨ys, M', e2, i2, r2, by simp; omega⟩
    | true =>
      dsimp only
      obtain ⟨w, M3, e3, y, rfl, hy, h4⟩ := h3 rfl
      rw [e3]
      dsimp only
      rw [if_pos (by omega)]
      obtain ⟨ys, M', e2, i2, r2, l2⟩ := compL_drawT (t := t) (e := e) ds (acc ++ [y]) M3 h4 (fun z hz => by
        rw [List.mem_append] at hz
        rcases hz with hz | hz
        · exact ha z hz
        · simp at hz; rw [hz]; exact hy) (by simp; omega) fun x hx => k x (List.mem_cons_of_mem _ hx)
      exact ⟨ys, M', e2, i2, r2, by simp at l2 ⊢; omega⟩
theorem list_of {α : Type} {f : α → D} {p : α → Prop} : ∀ {ys : List D}, (∀ y ∈ ys, ∃ a, y = f a ∧ p a) → ∃ l : List α, ys = l.map f ∧ ∀ a ∈ l, p a
  | [], _ => ⟨[], rfl, by simp⟩
  | y :: ys, h => by
    obtain ⟨a, rfl, ha⟩ := h y (by simp)
    obtain ⟨l, rfl, hl⟩ := list_of fun z hz => h z (List.mem_cons_of_mem _ hz)
    exact ⟨a :: l, rfl, fun b hb => by
      rcases List.mem_cons.mp hb with rfl | hb
      · exact ha
      · exact hl b hb⟩
theorem mem_intsFrom {d : DV} {lo : Int} {n : Nat} (h : d ∈ DL.intsFrom lo n) : ∃ i : Nat, i < n ∧ d = .p (.int (lo + i)) := by
  unfold DL.intsFrom at h
  obtain ⟨i, hi, rfl⟩ := List.mem_map.mp h
  exact ⟨i, List.mem_range.mp hi, rfl⟩
@[simp] theorem intsFrom_len (lo : Int) (n : Nat) : (DL.intsFrom lo n).length = n := by unfold DL.intsFrom; simp
end DL
namespace DL
open PySem L2
theorem list_of' {α : Type} {f : α → D} {ys : List D} (h : ∀ y ∈ ys, ∃ a, y = f a) : ∃ l : List α, ys = l.map f := by
  obtain ⟨l, e, _⟩ := list_of (f := f) (p := fun _ => True) (ys := ys) fun y hy => by
    obtain ⟨a, e⟩ := h y hy; exact ⟨a, e, trivial⟩
  exact ⟨l, e⟩
theorem wpB_some {α : Type} {o : Option (Rs α)} {v : α} {M : List O} {P : α → List O → Prop} (e : o = some (.ok v M)) (h : P v M) : wpB o P := ⟨v, M, e, h⟩
theorem wpS_some {o : Option (Fl × S)} {f : Fl} {s : S} {P : Fl → S → Prop} (e : o = some (f, s)) (hf : noX f = true) (h : P f s) : wpS o P := ⟨f, s, e, hf, h⟩
end DL
namespace DL
open PySem PySem.Spec PyProof.Rows L2 LamX NdefX
/-! ### lambdas: the object, its promise -/
def LamO (f : Addr) (F : NF) (body : Expr) : HO := .ext fun h => ∃ (od : Option Addr) (sl : Array (Option Value)) (pm ctv : Value), h.get? f = some (⟨.type "function", od, .func (PySem.W.kla_fn F.name F.qual F.params body F.scope F.cl pm (.ref F.c) ctv), sl⟩ : Obj)
theorem lamO_at {P : Program} {w : World} {H : Hp} {h : Heap} {f : Addr} {F : NF} {body : Expr} (hok : HOk P w H h) (e : H f = some (LamO f F body)) : ∃ (od : Option Addr) (sl : Array (Option Value)) (pm ctv : Value), h.get? f = some (⟨.type "function", od, .func (PySem.W.kla_fn F.name F.qual F.params body F.scope F.cl pm (.ref F.c) ctv), sl⟩ : Obj) :=
  (hok f _ e).1
section
variable {X : Cx} {pins : List (Addr × Obj)} {σ : L2.St} {H : Hp} {s : Shared}
theorem inv_lam {F : NF} {body : Expr} {o : Obj} {t' : Nat} {pm ctv : Value} (I : Inv X pins σ H s) (ho : o = PySem.W.kla_obj F.name F.qual F.params body F.scope F.cl pm F.c ctv) :
    Inv X pins σ (upd H s.heap.objs.size (LamO s.heap.objs.size F body)) { s with heap := s.heap.push o, toks := t' } := by
  subst ho
  refine I.laid (a := s.heap.objs.size) (fun b u e => Heap.get?_push_of_some _ e) (Nat.le_refl _) ?_
  have e : (s.heap.push (PySem.W.kla_obj F.name F.qual F.params body F.scope F.cl pm F.c ctv)).get? s.heap.objs.size = some (PySem.W.kla_obj F.name F.qual F.params body F.scope F.cl pm F.c ctv) := Heap.get?_push_size _ rfl
  exact ⟨⟨_, _, pm, ctv, e⟩, ⟨_, e⟩, fun h1 h2 ⟨od, sl, p, t, z⟩ st => ⟨od, sl, p, t, st _ z⟩⟩
/-- the lambda is made: its code object is new, or found in the table -/
theorem lam_make3 {nm : Str} {c P : Addr} {params : Arguments} {body : Expr} {scope : Scope} {pos : Pos} {E : Value → Shared → Prop} {Q : Value → Shared → Prop} {ps : Array Value} (I : Inv X pins σ H s) (TB : TabB X.base X.mg c P) (hcode : X.env.code = .ref c)
    (hn : nm = X.env.qual ++ "<lambda>") (hP : H P = some (.tbl ps)) (ht : TriplesOk ps.toList) (ha : ∀ (pos : Pos) (cv : Value), codeAmong pos ps.toList = some cv → ∃ c, cv = .ref c ∧ H c = some (CodeO c nm)) (hdef : defaultsOf params X.env = ([], [])) (hfree : ∀ y ∈ scope.names, y.2 = .free → ∃ c, X.env.cells.lookup y.1 = some c)
    (h : ∀ (f c' : Addr) (H1 : Hp) (s' : Shared) (ps' : Array Value), Inv X pins σ H1 s' → (∀ b o, b ≠ P → H b = some o → H1 b = some o) → (∀ b, H1 b = Option.none → H b = Option.none) → H1 P = some (.tbl ps') → TriplesOk ps'.toList →
      (∀ (pos : Pos) (cv : Value), codeAmong pos ps'.toList = some cv → codeAmong pos ps.toList = some cv ∨ cv = .ref c') → H f = none → f ≠ c' → (H c' = none ∨ ∃ pos, codeAmong pos ps.toList = some (.ref c')) → H1 f = some (LamO f ⟨"<lambda>", nm, params, [], scope, cloFrom X.env.cells scope.names [], c'⟩ body) → H1 c' = some (CodeO c' nm) → Q (.ref f) s') :
    wpAny (model X.prog X.w) X.A (eval (.Lambda params body scope pos) X.env) Q E s := by
  subst hn
  refine PySem.W.kla_eval hdef ?_
  have bP : s.heap.BuiltinsAt X.mg P := TB.bm.keeps I.bk
  have hP' : s.heap.get? P = some { cls := .none, data := .fields ps } := I.hok P _ hP
  cases hc : codeAmong pos ps.toList with
  | none =>
    refine PySem.W.kla_makeFunction (mg := X.mg) (c := c) (P := P) (ps := ps) (closure_ok hfree) I.ok.glob (I.mod.glob.keeps I.bk) hcode (TB.code.keeps I.bk) hP' ht hc TB.gP bP fun c' ctv h' tk hx hge hlt hrec htb => ?_
    obtain ⟨c2, oc, vs, t, e2, hoc, hd, hv⟩ := hrec
    cases e2
    have nC : H c' = none := I.hok.fresh hge
    have I1 := inv_table (t' := tk) (more := #[rawInt pos.line, rawInt pos.col, .ref c']) (h' := h') I hP (fun b o hb e => hx b o hb e) htb hge ⟨oc, vs, t, hoc, hd, hv⟩
    have nF := I1.hok.fresh (Nat.le_refl _)
    have I2 := inv_lam (F := ⟨"<lambda>", X.env.qual ++ "<lambda>", params, [], scope, cloFrom X.env.cells scope.names [], c'⟩) (body := body) (t' := tk) (pm := (X.mg "__name__").getD .none) (ctv := ctv) I1 rfl
    have eL : (ps ++ #[rawInt pos.line, rawInt pos.col, .ref c']).toList = ps.toList ++ [rawInt pos.line, rawInt pos.col, .ref c'] := by simp
    have nPf : P ≠ h'.objs.size := Nat.ne_of_lt (Heap.lt_size htb)
    refine h h'.objs.size c' _ _ (ps ++ #[rawInt pos.line, rawInt pos.col, .ref c']) I2 (fun b o hb e => ?_) (fun b e => upd_none (upd_none (upd_none e))) ?_ (by rw [eL]; exact PySem.TriplesOk_snoc _ _ _ _ ht) (fun p' cv hcv => ?_) (I.hok.fresh (Nat.le_trans hge (Nat.le_of_lt hlt))) (Nat.ne_of_gt hlt) (.inl nC) upd_same ?_
    · have nb : b ≠ h'.objs.size := fun z => by
        have := I.hok.fresh (Nat.le_trans hge (Nat.le_of_lt hlt))
        rw [← z] at this; rw [this] at e; cases e
      rw [upd_ne nb, upd_ne (ne_of_none e nC), upd_ne hb]; exact e
    · rw [upd_ne nPf, upd_ne (ne_of_none hP nC), upd_same]
    · rw [eL] at hcv
      exact among_app _ ht hcv
    · exact (upd_ne (Nat.ne_of_lt hlt)).trans upd_same
  | some cv =>
    obtain ⟨c', e, hco⟩ := ha pos cv hc
    subst e
    refine PySem.W.kla_makeFunctionHit (mg := X.mg) (c := c) (P := P) (ps := ps) (closure_ok hfree) I.ok.glob (I.mod.glob.keeps I.bk) hcode (TB.code.keeps I.bk) hP' ht hc bP fun ctv h' tk hx hsz => ?_
    have I1 : Inv X pins σ H { s with heap := h', toks := tk } := I.kept hx
    have nF : H h'.objs.size = none := I1.hok.fresh (Nat.le_refl _)
    have I2 := inv_lam (F := ⟨"<lambda>", X.env.qual ++ "<lambda>", params, [], scope, cloFrom X.env.cells scope.names [], c'⟩) (body := body) (t' := tk) (pm := (X.mg "__name__").getD .none) (ctv := ctv) I1 rfl
    refine h h'.objs.size c' _ _ ps I2 (fun b o hb e => ?_) (fun b e => upd_none e) ?_ ht (fun p' cv hcv => ?_) nF (fun z => by rw [z] at nF; rw [nF] at hco; cases hco) (.inr ⟨pos, hc⟩) upd_same ?_
    · exact (upd_ne (ne_of_none e nF)).trans e
    · exact (upd_ne (ne_of_none hP nF)).trans hP
    · exact .inl hcv
    · exact (upd_ne (ne_of_none hco nF)).trans hco
end
/-- the promise of the lambda F at f: sp ws, ws what its captured cells hold at the call -/
structure LOk (P : Program) (w : World) (K : PySem.W.Frag) (mg : Str → Option Value) (base : Heap) (CX : CXT) (k : Nat) (f : Addr) (F : NF) (body : Expr) (ps fr : List Str) (sp : List (Option V) → Sp) : Prop where
  len : ∀ ws vs H Q E, sp ws vs H Q E → vs.length = ps.length
  run : ∀ (A : Around) (outer : List Env) (s : Shared) (H : Hp) (us : List Value) (vs : List V) (ws : List (Option V)) (Q : VK) (E : XK), Room k A → Env0 P w K mg base A outer s H → H f = some (LamO f F body) → H F.c = some (CodeO F.c F.qual) →
    CellsAt F.cl fr ws s.heap H → Vals vs us → sp ws vs H Q E → codeAny (model P w) A (.call (.ref f) ⟨us, []⟩) (CR CX outer P w H s Q E) s
section
variable {CX : CXT} {P : Program} {w : World} {K : PySem.W.Frag} {mg : Str → Option Value} {base : Heap} {N ps fr : List Str} {F : NF} {f : Addr} {k j : Nat} {body : Expr} {sp : List (Option V) → Sp}
theorem lok_of (S : NScope N ps fr F.scope) (hb : ∀ (pm ctv : Value) (us : List Value), us.length = ps.length → bindArgs (PySem.W.kla_fn F.name F.qual F.params body F.scope F.cl pm (.ref F.c) ctv) ⟨us, []⟩ = pure (ps.zip us)) (len : ∀ ws vs H Q E, sp ws vs H Q E → vs.length = ps.length)
    (hbody : ∀ (A : Around) (outer : List Env) (s : Shared) (H : Hp) (vs : List V) (ws : List (Option V)) (Q : VK) (E : XK), Room k (A.deeper (envF F f s.heap.objs.size)) → ws.length = fr.length → sp ws vs H Q E →
      ∃ t, PE (ncx CX P w K mg base N F f A outer s H E) body t ∧ t (startF N vs ws) H Q) :
    LOk P w K mg base CX (k + 1) f F body ps fr sp := by
  refine ⟨len, fun A outer s H us vs ws Q E hr e0 hf hc C r hsp => ?_⟩
  have hl := len _ _ _ _ _ hsp
  have lim : s.heap.NoLimit := e0.mod.nolimit.keeps fun b o e => (e0.bs b o e).1
  obtain ⟨od, sl, pm, ctv, ho⟩ := lamO_at e0.hok hf
  refine PySem.W.kla_callFunE hr.depth ho rfl S.co S.gen rfl (codeO_at e0.hok hc) ?_
  rw [hb pm ctv us (by rw [← r.length]; exact hl)]
  refine wpAny_pure (wpAny_newFunctionEnv S.nocell (fun ⟨n, _⟩ hy => S.par n (List.of_mem_zip hy).1) (fun h₁ hns hsb => ⟨lim.fresh _ hsb, ?_⟩) S.kind)
  show codeAny _ _ (.expr body (envF F f s.heap.objs.size)) _ _
  have kp : ∀ b o, s.heap.get? b = some o → h₁.get? b = some o := fun b o e => hsb.extBut b o (Nat.ne_of_lt (Heap.lt_size e)) (Heap.get?_push_of_some _ e)
  obtain ⟨t, hte, hq⟩ := hbody A outer s H vs ws Q E (hr.deeper _) C.len hsp
  have I : Inv (ncx CX P w K mg base N F f A outer s H E) [] (startF N vs ws) H { s with heap := h₁, toks := s.toks + (ps.zip us).length } := inv_startN S hr.hd e0 hl r C hns kp
  refine PySem.W.kla_codeExpr (wpAny_mono (hte.run [] _ (startF N vs ws) H Q I hq) (fun v s' hs => ?_) fun e s' hs => hs)
  obtain ⟨w', H', J, rv, q⟩ := hs
  exact ⟨w', H', J.os, J.bare, J.base, J.hok, rv, q⟩
end
end DL
namespace DL
open PySem L2 PySem.W
open PyProof.Rows (seqObj get?_update_seq listUpdate_at listItems_at seqEpoch_at size_push' ksk_rest ksk_fold ksk_tree ksk_t1)
open PyProof.Rows (seqObj get?_update_seq listUpdate_at listItems_at seqEpoch_at size_push' ksk_rest ksk_fold ksk_tree ksk_t1 ksk_s1 ksk_l1)
section
variable {X : Cx} {pins : List (Addr × Obj)} {σ : St} {H Z : Hp} {s : Shared}
/-- all turns, and what is behind them -/
theorem turns_okL {f : MA} {fa : Addr} {A : Around} {E : Value → Shared → Prop} (ht : ∀ (Hj Zj : Hp) (s' : Shared) (v : V) (u0 : Value) (d c : D), Inv X pins σ Hj s' → ExtP Z H Zj Hj → RelV v u0 → Rep X.K Zj v d → f [d] = some (.ok c) → wpAny (model X.prog X.w) A (call (.ref fa) [u0]) (EP X pins σ fun v' H' => ∃ Z', ExtP Zj Hj Z' H' ∧ Rep X.K Z' v' c) (fun _ _ => False) s')
    {a kS : Addr} {e1 : Nat} {us : List Value} {xs : List V} {ds ks : List D} (hka : kS ≠ a) (nS : H kS = none) (nA : H a = none) (rv : Vals xs us) (hx : RepA X.K Z xs ds) (hk : keysM f ds = some ks) (hZ : us.length ≤ sizeLine) (hst : X.s_0.heap.objs.size ≤ kS) (hex : X.ex = [])
    (hsp : ∀ k ∈ ks, shp k = true) (ok : sortOk (toPs ks) = true) (hu : ∀ k ∈ ks, A.units + (toP k).depth < cLine) {Q : VK} (p : PostP X.K Z H (.lst (sortBy ds ks)) Q) {P : PySem.Fin → Shared → Prop} (hP : ∀ s', EP X pins σ Q (.ref a) s' → P (.done (.ret .none)) s')
    (T : Turn X pins σ Z H a kS e1 ks 0 s) : wpAny (model X.prog X.w) A (ksk_rest a (.ref fa) false us.toArray e1 (.ref kS)) P E s := by
  have hkl := keysM_len hk
  have hxl := hx.length
  have hul : us.length = xs.length := rv.length.symm
  unfold ksk_rest
  refine wpAny_bind (wpAny_rule ?_)
  rw [List.forIn_toArray]
  refine wpAny_bind (ksk_fold (fun i s' => Turn X pins σ Z H a kS e1 ks i s') us 0 s T (fun j x s' hxj t => ?_) fun s' t => ?_)
  · rw [Nat.zero_add] at t ⊢
    obtain ⟨Hj, Zj, kA, e, kvs, I, xt, hS, hA, zS, zA, rk, rr⟩ := t.ex
    have hj : j < us.length := (List.getElem?_eq_some_iff.mp hxj).1
    obtain ⟨v, hv⟩ : ∃ v, xs[j]? = some v := ⟨_, List.getElem?_eq_getElem (by omega)⟩
    obtain ⟨d, hd, rd⟩ := hx.get' hv
    obtain ⟨u, hu1, ru⟩ := rv.get hv
    rw [hxj] at hu1
    cases hu1
    obtain ⟨c, hc, hf⟩ := keysM_at hk hd
    have hz : kA.size ≤ sizeLine := by
      have h1 : kA.size = kvs.length := by rw [L2.Vals.length rk]; simp
      have h2 := rr.length
      rw [List.length_take] at h2
      omega
    refine wpAny_bind (wpAny_attempt (wpAny_mono (ht Hj Zj _ v _ d c I xt ru (rd.mono xt.z) hf) (fun w s2 hw => ?_) fun _ _ z => z.elim))
    obtain ⟨wv, Hn, I2, rw2, Zn, xn, rn⟩ := hw
    have hS2 := xn.h _ _ hS
    have hA2 := xn.h _ _ hA
    have zS2 : Zn kS = none := by
      cases q : Zn kS with
      | none => rfl
      | some o =>
        rcases xn.zn kS (by rw [q]; simp) with z | z
        · exact absurd zS z
        · rw [hS] at z; cases z
    have zA2 : Zn a = none := by
      cases q : Zn a with
      | none => rfl
      | some o =>
        rcases xn.zn a (by rw [q]; simp) with z | z
        · exact absurd zA z
        · rw [hA] at z; cases z
    have nk := atS_at I2.hok hS2
    have sb := Heap.SameBut.update s2.heap kS (Obj.mapSeq (·.push w))
    obtain ⟨c2, hc2⟩ : ∃ c2, (s2.heap.update kS (Obj.mapSeq (·.push w))).get? kS = some (seqObj "list" (kA.push w) c2) := ⟨_, get?_update_seq nk (·.push w)⟩
    try dsimp only
    refine wpAny_bind (listUpdate_at nk rfl ?_ hz (Nat.le_trans (Nat.le_of_eq (Array.size_push ..)) (Nat.succ_le_succ hz)))
    have I3 := I2.write (x := kS) (e := kS) (o := atS kS (kA.push w) c2) (t' := s2.toks) (by rw [hS2]; trivial) (.inl rfl) (fun b u' hne q => (sb.2 b hne).trans q) ⟨_, hc2⟩ (atS_ok hc2)
    refine wpAny_pure ⟨rfl, ⟨upd Hn kS (atS kS (kA.push w) c2), Zn, kA.push w, c2, kvs ++ [wv], I3, ?_, upd_same, by rw [upd_ne hka.symm]; exact hA2, zS2, zA2, ?_, ?_⟩⟩
    · have x2 := xt.trans xn
      exact ⟨x2.z, fun b u' q => by rw [upd_ne (ne_of_none q nS)]; exact x2.h b u' q, Same.outer x2.sub zS2, x2.zn⟩
    · have ea : (kA.push w).toList = kA.toList ++ [w] := by simp
      rw [ea]
      exact paired_app rk (.cons rw2 .nil)
    · have ek : ks.take (j + 1) = ks.take j ++ [c] := by rw [List.take_add_one, hc]; rfl
      rw [ek]
      exact (rr.mono xn.z).append (.cons rn .nil)
  · rw [Nat.zero_add] at t
    obtain ⟨Hj, Zj, kA, e, kvs, I, xt, hS, hA, zS, zA, rk, rr⟩ := t.ex
    rw [List.take_of_length_le (by omega)] at rr
    have nk := atS_at I.hok hS
    have na := atS_at I.hok hA
    obtain ⟨G, gk, gn, J⟩ := forget I hS hst hex
    try dsimp only
    refine wpAny_bind (listItems_at nk rfl ?_)
    have er := each_reads I xt.sub rk rr hsp
    have hal : AllAlike (ks.map toP) := by rw [← toPs_map]; exact sortOk_like ok
    have hso : Sortable (ks.map toP) := by rw [← toPs_map]; exact sortOk_sortable ok
    have hsz : kA.size = us.length := by
      have h1 : kA.size = kvs.length := by rw [L2.Vals.length rk]; simp
      have h2 := rr.length
      omega
    refine keyH_end (κ := dataKind s'.heap (ks.map toP)) (h₁ := G) (fun b o _ q => gk b o q) gn nk na hka (SortsAt.data er hal hso fun d hd => ?_) hsz hZ fun h' tk c kp n => ?_
    · obtain ⟨k0, hk0, rfl⟩ := List.mem_map.mp hd
      exact hu k0 hk0
    · have ko : KeyedOut false ((ds.zip ks).map fun p => toP p.2) us (PySem.W.sortVals (dataKind s'.heap (ks.map toP)) false kA.toList us) := by
        have e1 : (ds.zip ks).map (fun p => toP p.2) = ks.map toP := by
          rw [show (fun p : D × D => toP p.2) = toP ∘ Prod.snd from rfl, ← List.map_map, List.map_snd_zip (by omega)]
        rw [e1]
        exact ⟨s'.heap, kA.toList, hal, rfl, er⟩
      have eo := keyedOut_each (R := fun u (p : D × D) => ∃ v, RelV v u ∧ Rep X.K Zj v p.1) (fun p : D × D => toP p.2) ko (each_mk rv (hx.mono xt.z) hkl)
      obtain ⟨ov, o1, o2⟩ := each_vals (fun _ _ q => q) eo
      have hol : ov.length ≤ sizeLine := by
        have h1 := o2.length
        rw [List.length_map, List.length_mergeSort, List.length_zip] at h1
        omega
      have hAd : delH Hj kS a = some (atS a #[] e1) := by rw [delH_ne hka.symm]; exact hA
      have J2 := J.write (h' := h') (x := a) (e := a) (o := .lst ov) (t' := tk) (by rw [hAd]; trivial) (.inl rfl) (fun b u' hne q => kp b u' hne q) ⟨_, n⟩ ⟨hol, _, c, o1, n⟩
      refine hP _ ⟨.ref a, _, J2, rfl, p _ (upd Zj a (.lst ov)) _ ⟨?_, ?_, ?_, ?_⟩ (.lst (.inl upd_same) (o2.mono ?_))⟩
      · exact fun b u' q => by rw [upd_ne (ne_of_none (xt.z b u' q) zA)]; exact xt.z b u' q
      · exact fun b u' q => by rw [upd_ne (ne_of_none q nA), delH_ne (ne_of_none q nS)]; exact xt.h b u' q
      · intro b u' q
        by_cases z : b = a
        · rw [z, upd_same] at q ⊢; exact q
        · rw [upd_ne z] at q ⊢
          rw [delH_ne (ne_of_none q zS)]
          exact xt.sub b u' q
      · intro b q
        by_cases z : b = a
        · rw [z]; exact .inr nA
        · rw [upd_ne z] at q; exact xt.zn b q
      · exact fun b u' q => by rw [upd_ne (ne_of_none q zA)]; exact q
/-- sorted(xs, key=f), f a def -/
theorem sortL_run {f : MA} {fa : Addr} (ht : ∀ (Hj Zj : Hp) (s' : Shared) (v : V) (u0 : Value) (d c : D), Inv X pins σ Hj s' → ExtP Z H Zj Hj → RelV v u0 → Rep X.K Zj v d → f [d] = some (.ok c) → wpAny (model X.prog X.w) X.A.in1.in1 (call (.ref fa) [u0]) (EP X pins σ fun v' H' => ∃ Z', ExtP Zj Hj Z' H' ∧ Rep X.K Z' v' c) (fun _ _ => False) s') (hr : Room 2 X.A) (hex : X.ex = []) (I : Inv X pins σ H s)
    {l : Addr} {xs : List V} {ds ks : List D} (sz : Same Z H) (hl : SqL X.K H l xs) (hx : RepA X.K Z xs ds) (hk : keysM f ds = some ks) (hsp : ∀ k ∈ ks, shp k = true) (ok : sortOk (toPs ks) = true) {Q : VK} (p : PostP X.K Z H (.lst (sortBy ds ks)) Q) :
    wpAny (model X.prog X.w) X.A (call (.builtin "sorted") [.ref l] [(Str.ofString "key", .ref fa)]) (EP X pins σ Q) X.xe s := by
  obtain ⟨us, rv, hL, hz⟩ := I.list hl
  have hz2 : us.length ≤ sizeLine := by rw [← rv.length]; exact hz
  refine sorted_of_sort hL.isList hz2 (ksk_s1 _ _) (fun _ => ksk_l1 _ _) fun E' => ?_
  rw [ksk_t1]
  let a : Addr := s.heap.objs.size + 1
  let h0 := copyHeap s.heap us
  have oa : h0.get? a = some (seqObj "list" us.toArray 0) := copyHeap_at s.heap us
  have la : a < h0.objs.size := Heap.lt_size oa
  obtain ⟨e1, oa1⟩ : ∃ e1, (h0.update a (Obj.mapSeq fun _ => (#[] : Array Value))).get? a = some (seqObj "list" #[] e1) := ⟨_, get?_update_seq oa fun _ => #[]⟩
  let h1 := (h0.update a (Obj.mapSeq fun _ => (#[] : Array Value))).push (seqObj "tuple" us.toArray 0)
  have s1 : h1.objs.size = h0.objs.size + 1 := by show ((h0.update a _).push _).objs.size = _; rw [size_push', Heap.size_update]
  have keep1 : ∀ b u, s.heap.get? b = some u → h1.get? b = some u := fun b u q => by
    have q0 : h0.get? b = some u := copyHeap_old q
    have nb : b ≠ a := Nat.ne_of_lt (Nat.lt_succ_of_lt (Heap.lt_size q))
    exact Heap.get?_push_of_some _ (by rw [Heap.get?_update_ne _ _ _ _ nb]; exact q0)
  have oa2 : h1.get? a = some (seqObj "list" #[] e1) := Heap.get?_push_of_some _ oa1
  have nA : H a = none := I.hok.fresh (Nat.le_succ _)
  have J1 := I.laid (h' := h1) (a := a) (o := atS a #[] e1) (t' := s.toks) keep1 (Nat.le_succ _) (atS_ok oa2)
  have nS1 : upd H a (atS a #[] e1) h1.objs.size = none := J1.hok.fresh (Nat.le_refl _)
  have hka : h1.objs.size ≠ a := by rw [s1]; exact Nat.ne_of_gt (Nat.lt_succ_of_lt la)
  have nS : H h1.objs.size = none := by rw [upd_ne hka] at nS1; exact nS1
  have oS : (h1.push (seqObj "list" #[] 0)).get? h1.objs.size = some (seqObj "list" #[] 0) := Heap.get?_push_size _ rfl
  have J2 := J1.laid (h' := h1.push (seqObj "list" #[] 0)) (a := h1.objs.size) (o := atS h1.objs.size #[] 0) (t' := s.toks) (fun b u q => Heap.get?_push_of_some _ q) (Nat.le_refl _) (atS_ok oS)
  have hst : X.s_0.heap.objs.size ≤ h1.objs.size := by
    have := I.sz
    have : s.heap.objs.size + 1 < h0.objs.size := la
    omega
  unfold ksk_tree
  refine wpAny_bind (listItems_at (s := { s with heap := h0 }) oa rfl ?_)
  refine wpAny_bind (listUpdate_at (s := { s with heap := h0 }) oa rfl ?_ (by rw [List.size_toArray]; exact hz2) (Nat.zero_le _))
  refine wpAny_bind (seqEpoch_at oa1 rfl ?_)
  refine wpAny_bind (wpAny_newTuple ?_ hz2)
  refine wpAny_bind (wpAny_newList ?_ (Nat.zero_le _))
  refine wpAny_holding ?_
  exact turns_okL (s := { s with heap := h1.push (seqObj "list" #[] 0) }) ht hka nS nA rv hx hk hz2 hst hex hsp ok (fun k0 h0 => by
      have z := hsp k0 h0
      unfold shp at z
      rw [Bool.and_eq_true] at z
      have y := of_decide_eq_true z.2
      have := hr.un
      show X.A.units + 1 + 1 + (toP k0).depth < cLine
      have dd : (toP k0).depth = depD k0 := depD_dep k0 z.1
      rw [dd]
      omega) p (fun s' q => ⟨rfl, q⟩)
    ⟨_, Z, #[], 0, [], J2, ⟨Same.refl _, fun b u q => by rw [upd_ne (ne_of_none q nS), upd_ne (ne_of_none q nA)]; exact q, Same.outer (Same.outer sz (none_of sz nA)) (none_of sz nS), fun b q => .inl q⟩, upd_same, by rw [upd_ne hka.symm]; exact upd_same, none_of sz nS, none_of sz nA, .nil, by rw [List.take_zero]; exact .nil⟩
end
end DL
namespace DL
open PySem PySem.Spec L2 LamX NdefX
/-! ### sorted(e, key=lambda p: body) -/
def tLam (P : Addr) (nm : Str) (mk : Addr → NF) (body : Expr) : TE := fun σ H Q => ∃ ps : Array Value, H P = some (.tbl ps) ∧ TriplesOk ps.toList ∧ (∀ (pos : Pos) (cv : Value), codeAmong pos ps.toList = some cv → ∃ c, cv = .ref c ∧ H c = some (CodeO c nm)) ∧
  ∀ (f c' : Addr) (H1 : Hp) (ps' : Array Value), (∀ b o, b ≠ P → H b = some o → H1 b = some o) → (∀ b, H1 b = Option.none → H b = Option.none) → H1 P = some (.tbl ps') → TriplesOk ps'.toList →
    (∀ (pos : Pos) (cv : Value), codeAmong pos ps'.toList = some cv → codeAmong pos ps.toList = some cv ∨ cv = .ref c') → H f = none → f ≠ c' → (H c' = none ∨ ∃ pos, codeAmong pos ps.toList = some (.ref c')) → H1 f = some (LamO f (mk c') body) → H1 c' = some (CodeO c' nm) → Q (.ref f) H1
abbrev lamF (X : Cx) (nm : Str) (params : Arguments) (scope : Scope) (c' : Addr) : NF := ⟨"<lambda>", nm, params, [], scope, cloFrom X.env.cells scope.names [], c'⟩
theorem pe_lam {X : Cx} {nm : Str} {c P : Addr} {params : Arguments} {body : Expr} {scope : Scope} {pos : Pos} (TB : TabB X.base X.mg c P) (hcode : X.env.code = .ref c) (hn : nm = X.env.qual ++ "<lambda>") (hdef : defaultsOf params X.env = ([], []))
    (hfree : ∀ y ∈ scope.names, y.2 = .free → X.env.scope.names.lookup y.1 = some .cell ∨ X.env.scope.names.lookup y.1 = some .free) : PE X (.Lambda params body scope pos) (tLam P nm (lamF X nm params scope) body) := ⟨fun pins s σ H Q I h => by
  obtain ⟨ps, hP, ht, ha, h⟩ := h
  have hfr : ∀ y ∈ scope.names, y.2 = .free → ∃ c, X.env.cells.lookup y.1 = some c := fun y hy e => (hfree y hy e).elim (fun z => I.ok.has _ (.inl z)) fun z => I.ok.has _ (.inr z)
  exact lam_make3 I TB hcode hn hP ht ha hdef hfr fun f c' H1 s' ps' I1 k1 k2 k3 k4 k5 k6 k7 k8 k9 k10 => ⟨.ref f, H1, I1, rfl, h f c' H1 ps' k1 k2 k3 k4 k5 k6 k7 k8 k9 k10⟩⟩
def lamK (n : Nat) (em : EM) : MA := fun ds => match em ⟨slotsOf n (ds.map .p), []⟩ with
  | some (.ok (.p d) _) => some (.ok d)
  | _ => none
section
variable {P : Program} {w : World} {K : PySem.W.Frag} {mg : Str → Option Value} {base : Heap} {N : List Str} {p : Str} {F : NF} {f : Addr} {k : Nat} {body : Expr} {em : EM}
theorem lamA (S : NScope N [p] [] F.scope) (hb : ∀ (pm ctv : Value) (us : List Value), us.length = 1 → bindArgs (PySem.W.kla_fn F.name F.qual F.params body F.scope F.cl pm (.ref F.c) ctv) ⟨us, []⟩ = pure ([p].zip us))
    (hbody : ∀ (A : Around) (outer : List Env) (s : Shared) (H : Hp) (E : XK), Room k (A.deeper (envF F f s.heap.objs.size)) → ∃ t, DE K (ncx (L2.CX P w) P w K mg base N F f A outer s H E) WF body t em) :
    LOk P w K mg base (L2.CX P w) (k + 1) f F body [p] [] (fun _ => spA K 1 (lamK N.length em)) := by
  refine lok_of S hb (fun ws vs H Q E h => h.1) fun A outer s H vs ws Q E hr hl hsp => ?_
  obtain ⟨hl2, Z, ds, r, sub, rp, e, q⟩ := hsp
  obtain ⟨t, b⟩ := hbody A outer s H E hr
  refine ⟨t, b.pe, ?_⟩
  have w0 : Wf K Z H [] [] := ⟨sub, rfl, List.nodup_nil, (by simp), fun n a o h => by simp at h⟩
  obtain rfl : ws = [] := List.length_eq_zero_iff.mp hl
  have es : startF N vs [] = L2.start N vs := by unfold startF L2.start; simp
  rw [es]
  unfold lamK at e
  cases z : em ⟨slotsOf N.length (ds.map .p), []⟩ with
  | none => rw [z] at e; cases e
  | some r0 =>
    rw [z] at e
    cases r0 with
    | ex c fs M => cases e
    | ok d M =>
      cases d with
      | o n => cases e
      | p d =>
        cases e
        refine b.so.ok (L2.start N vs) H _ Z [] _ _ w0 (start_rep (allP_map rp)) z fun v Z' H' I' w' x' r' => ?_
        exact q v Z' H' ⟨x'.z, fun a o q => x'.fr a o q (by simp), w'.sub, fun a q => by
          rcases x'.zn a q with k | k | k
          · exact .inl k
          · exact .inr k
          · cases k⟩ r'
end
section
variable {X : Cx} {pins : List (Addr × Obj)} {σ : L2.St} {H : Hp} {s : Shared}
theorem lam_turn {k : Nat} {kf : MA} {f : Addr} {F : NF} {p : Str} {body : Expr} {A : Around} (Fn : LOk X.prog X.w X.K X.mg X.base (L2.CX X.prog X.w) k f F body [p] [] (fun _ => spA X.K 1 kf)) (hcl : F.cl = []) (hr : Room k A) (I : Inv X pins σ H s)
    (he : Env0 X.prog X.w X.K X.mg X.base A X.stack s H) (hf : H f = some (LamO f F body)) (hc : H F.c = some (CodeO F.c F.qual)) {v : V} {u : Value} {d c : D} {Z : Hp} (rv : RelV v u) (sz : Same Z H) (hv : Rep X.K Z v d) (hk : kf [d] = some (.ok c)) :
    wpAny (model X.prog X.w) A (call (.ref f) [u]) (EP X pins σ fun v' H' => ∃ Z', ExtP Z H Z' H' ∧ Rep X.K Z' v' c) (fun _ _ => False) s := by
  have hsp : spA X.K 1 kf [v] H (fun v' H' => ∃ Z', ExtP Z H Z' H' ∧ Rep X.K Z' v' c) (fun _ _ _ => False) := ⟨rfl, Z, [d], .ok c, sz, .cons hv .nil, hk, fun v' Z' H' x r => ⟨Z', x, r⟩⟩
  have C : CellsAt F.cl [] [] s.heap H := ⟨rfl, fun y c e => (by rw [hcl] at e; cases e), fun x y c e => (by rw [hcl] at e; cases e), fun i y e => (by simp at e)⟩
  refine wpAny_call (codeAny_mono (Fn.run A X.stack s H [u] [v] [] _ (fun _ _ _ => False) hr he hf hc C (.cons rv .nil) hsp) fun r s' hq => ?_)
  cases r with
  | error e =>
    obtain ⟨_, _, _, _, _, _, _, _, _, _, _, _, z⟩ := hq
    exact z
  | ok fl =>
    cases fl with
    | ret u => exact I.after hq
    | next => exact False.elim hq
    | brk => exact False.elim hq
    | cont => exact False.elim hq
end
def rSortL (K : PySem.W.Frag) (nm : Str) (mk : Addr → NF) (body : Expr) (kf : MA) : List V → List V → Hp → VK → Prop := fun vs zs H Q => ∃ (f c' : Addr) (x : V) (Z : Hp) (d c : D), zs = [.ref f] ∧ vs = [x] ∧ H f = some (LamO f (mk c') body) ∧ H c' = some (CodeO c' nm) ∧ Same Z H ∧ Rep K Z x d ∧ sortKD kf d = some c ∧ PostP K Z H c Q
section
variable {X : Cx}
theorem cr_sortL {k : Nat} {nm p : Str} {params : Arguments} {body : Expr} {scope : Scope} {kf : MA} (Fn : ∀ f c', LOk X.prog X.w X.K X.mg X.base (L2.CX X.prog X.w) k f (lamF X nm params scope c') body [p] [] (fun _ => spA X.K 1 kf)) (hcl : cloFrom X.env.cells scope.names [] = []) (hr : Room (k + 2) X.A) (hex : X.ex = []) :
    CallRK X (.builtin "sorted") [Str.ofString "key"] (rSortL X.K nm (lamF X nm params scope) body kf) := by
  intro pins s σ H vs zs us ws Q I r rz h
  obtain ⟨f, c', x, Z, d, c, rfl, rfl, hf, hc, sz, hx, hd, p⟩ := h
  cases r with
  | cons r1 r2 =>
  cases r2
  cases rz with
  | cons z1 z2 =>
  cases z2
  cases z1
  unfold sortKD at hd
  split at hd
  · split at hd
    · rename_i ks hk
      split at hd
      · rename_i hcc
        cases hd
        rw [Bool.and_eq_true] at hcc
        cases hx with
        | lst h1 h2 =>
          cases r1
          refine sortL_run (f := kf) (fun Hj Zj s' v u0 d0 c0 Ij xj rv rd hk0 => ?_) (hr.mono (by omega)) hex I sz (.inl (same_rd sz h1)) h2 hk (fun k0 h0 => List.all_eq_true.mp hcc.1 k0 h0) hcc.2 p
          exact lam_turn (Fn f c') hcl (Room.in1 (Room.in1 hr)) Ij (Ij.env0.in1.in1) (xj.h _ _ hf) (xj.h _ _ hc) rv xj.sub rd hk0
      · cases hd
    · cases hd
  · cases hd
end
def tblAt (M : List O) (i : Nat) (P : Addr) (nm : Str) : Bool := match M[i]? with
  | some (.tbl P' q) => decide (P' = P) && decide (q = nm)
  | _ => false
noncomputable def mSortL (i : Nat) (P : Addr) (nm : Str) (kf : MA) (m : EM) : EM := bnd m (pur fun d s => if tblAt s.m i P nm = true then ret (sortKD kf d) s else none)
theorem tbl_at {K : PySem.W.Frag} {Z H : Hp} {I : List Addr} {M : List O} {i : Nat} {P : Addr} {nm : Str} (w : Wf K Z H I M) (h : tblAt M i P nm = true) : I[i]? = some P ∧ M[i]? = some (.tbl P nm) := by
  unfold tblAt at h
  split at h
  · rename_i P' q e
    rw [Bool.and_eq_true, decide_eq_true_eq, decide_eq_true_eq] at h
    obtain ⟨rfl, rfl⟩ := h
    refine ⟨?_, e⟩
    have hl := (List.getElem?_eq_some_iff.mp e).1
    have hi : I[i]? = some (I[i]'(by rw [w.len]; exact hl)) := List.getElem?_eq_getElem (by rw [w.len]; exact hl)
    obtain ⟨_, r, _⟩ := w.ob i _ _ hi e (by intro z; cases z)
    rw [hi, r]
  · cases h
/-- a lambda is made: the heap behind it -/
theorem lam_wf {K : PySem.W.Frag} {Z H H1 : Hp} {I : List Addr} {M : List O} {i : Nat} {P f c' : Addr} {nm : Str} {ps ps' : Array Value} {F : NF} {body : Expr} (w : Wf K Z H I M) (hi : I[i]? = some P) (hm : M[i]? = some (.tbl P nm)) (hP : H P = some (.tbl ps)) (hz : ∀ (pos : Pos) (cv : Value), codeAmong pos ps.toList = some cv → ∃ c, cv = .ref c ∧ Z c = some (CodeO c nm))
    (k1 : ∀ b o, b ≠ P → H b = some o → H1 b = some o) (k2 : ∀ b, H1 b = Option.none → H b = Option.none) (k3 : H1 P = some (.tbl ps')) (k4 : TriplesOk ps'.toList) (k5 : ∀ (pos : Pos) (cv : Value), codeAmong pos ps'.toList = some cv → codeAmong pos ps.toList = some cv ∨ cv = .ref c') (k6 : H f = none) (k6' : f ≠ c')
    (k7 : H c' = none ∨ ∃ pos, codeAmong pos ps.toList = some (.ref c')) (k8 : H1 f = some (LamO f F body)) (k9 : H1 c' = some (CodeO c' nm)) : ∃ Z', Wf K Z' H1 I M ∧ Ext Z H I Z' H1 I ∧ Z' f = some (LamO f F body) ∧ Z' c' = some (CodeO c' nm) := by
  have hPi : P ∈ I := List.mem_of_getElem? hi
  have nfP : f ≠ P := fun z => by rw [z, hP] at k6; cases k6
  have zc : Z c' = none ∨ Z c' = some (CodeO c' nm) := by
    rcases k7 with k7 | ⟨pos, k7⟩
    · exact .inl (none_of w.sub k7)
    · obtain ⟨c, e, h⟩ := hz pos _ k7
      cases e; exact .inr h
  have ncP : c' ≠ P := fun z => by
    rw [z, k3] at k9
    exact codeO_ne (c := P) (q := nm) ps' (Option.some.inj k9).symm
  have zf : Z f = none := none_of w.sub k6
  let Z' : Hp := upd (upd Z c' (CodeO c' nm)) f (LamO f F body)
  have sZ : Same Z Z' := fun b o e => by
    show upd (upd Z c' (CodeO c' nm)) f (LamO f F body) b = some o
    rw [upd_ne (ne_of_none e zf)]
    by_cases q : b = c'
    · subst q
      rcases zc with z | z
      · rw [z] at e; cases e
      · rw [upd_same, ← e, z]
    · rw [upd_ne q]; exact e
  have sub : Same Z' H1 := fun b o e => by
    have e : upd (upd Z c' (CodeO c' nm)) f (LamO f F body) b = some o := e
    by_cases q : b = f
    · subst q; rw [upd_same] at e; rw [← e]; exact k8
    · rw [upd_ne q] at e
      by_cases q2 : b = c'
      · subst q2; rw [upd_same] at e; rw [← e]; exact k9
      · rw [upd_ne q2] at e
        refine k1 b o (fun z => ?_) (w.sub b o e)
        have := (w.ob i P _ hi hm (by intro z; cases z)).1
        rw [z, this] at e; cases e
  have fin : ∀ a, Z' a ≠ none → Z a ≠ none ∨ H a = none ∨ a ∈ I := fun a q => by
    have q : upd (upd Z c' (CodeO c' nm)) f (LamO f F body) a ≠ none := q
    by_cases z : a = f
    · rw [z]; exact .inr (.inl k6)
    · rw [upd_ne z] at q
      by_cases z2 : a = c'
      · rw [z2]
        rcases k7 with k7 | ⟨pos, k7⟩
        · exact .inr (.inl k7)
        · obtain ⟨c, e, h⟩ := hz pos _ k7
          cases e
          exact .inl (by rw [h]; simp)
      · rw [upd_ne z2] at q; exact .inl q
  have x : Ext Z H I Z' H1 I := ⟨sZ, ⟨[], by simp⟩, fun b o e n => k1 b o (fun z => n (by rw [z]; exact hPi)) e, fun _ h => .inl h, fin, fun b e q => e (k2 b q)⟩
  have znone : ∀ a ∈ I, Z a = none → Z' a = none := fun a ha e => by
    cases q : Z' a with
    | none => rfl
    | some o =>
      have q' : upd (upd Z c' (CodeO c' nm)) f (LamO f F body) a = some o := q
      have nf : a ≠ f := fun z => absurd k6 (by rw [← z]; exact w.tr a ha)
      rw [upd_ne nf] at q'
      by_cases z2 : a = c'
      · rcases k7 with k7 | ⟨pos, k7⟩
        · exact absurd k7 (by rw [← z2]; exact w.tr a ha)
        · obtain ⟨c, e2, h⟩ := hz pos _ k7
          cases e2
          rw [← z2, e] at h; cases h
      · rw [upd_ne z2, e] at q'; cases q'
  refine ⟨Z', ⟨sub, w.len, w.nd, fun a ha q => w.tr a ha (k2 a q), fun n a o h1 h2 h3 => ?_⟩, x, upd_same, ?_⟩
  · obtain ⟨q1, q2⟩ := w.ob n a o h1 h2 h3
    have hai : a ∈ I := List.mem_of_getElem? h1
    refine ⟨znone a hai q1, ?_⟩
    by_cases hn : n = i
    · subst hn
      rw [hi] at h1; cases h1
      rw [hm] at h2; cases h2
      refine ⟨rfl, ps', k3, k4, fun pos cv hcv => ?_⟩
      rcases k5 pos cv hcv with z | z
      · obtain ⟨c, e, h⟩ := hz pos cv z
        exact ⟨c, e, sZ _ _ h⟩
      · exact ⟨c', z, by show upd (upd Z c' (CodeO c' nm)) f (LamO f F body) c' = _; rw [upd_ne (Ne.symm k6'), upd_same]⟩
    · have naP : a ≠ P := fun z => by
        obtain ⟨l1, e1⟩ := List.getElem?_eq_some_iff.mp h1
        obtain ⟨l2, e2⟩ := List.getElem?_eq_some_iff.mp hi
        exact hn ((List.getElem_inj w.nd).mp (e1.trans (z.trans e2.symm)))
      refine q2.ext x ?_
      cases q : H a with
      | none => exact absurd q (w.tr a hai)
      | some u => exact k1 a u naP q
  · show upd (upd Z c' (CodeO c' nm)) f (LamO f F body) c' = _
    rw [upd_ne (Ne.symm k6'), upd_same]
section
variable {K : PySem.W.Frag} {X : Cx} {W : WX} {e : Expr} {pos p p2 kp lpos : Pos}
theorem de_sortL {k kk : Nat} {te : TE} {m em : EM} {params : Arguments} {body : Expr} {scope : Scope} {N : List Str} {x nm : Str} {c P : Addr} (i : Nat) (TB : TabB X.base X.mg c P) (hcode : X.env.code = .ref c) (hr : Room kk X.A) (hkk : k + 3 ≤ kk) (hs : X.mg "sorted" = none) (h : DE K X W e te m)
    (S : NScope N [x] [] scope) (hb : ∀ (cl : List (Str × Addr)) (c' : Addr) (pm ctv : Value) (us : List Value), us.length = 1 → bindArgs (PySem.W.kla_fn "<lambda>" nm params body scope cl pm (.ref c') ctv) ⟨us, []⟩ = pure ([x].zip us))
    (hbody : ∀ (f c' : Addr) (A : Around) (outer : List Env) (s : Shared) (H : Hp) (E : XK), Room k (A.deeper (envF (lamF X nm params scope c') f s.heap.objs.size)) → ∃ t, DE K (ncx (L2.CX X.prog X.w) X.prog X.w K X.mg X.base N (lamF X nm params scope c') f A outer s H E) WF body t em)
    (hn : nm = X.env.qual ++ "<lambda>" := by rfl) (hdef : defaultsOf params X.env = ([], []) := by rfl) (hcl : cloFrom X.env.cells scope.names [] = [] := by rfl) (hfree : ∀ y ∈ scope.names, y.2 = .free → X.env.scope.names.lookup y.1 = some .cell ∨ X.env.scope.names.lookup y.1 = some .free := by intro y hy e; simp at hy; rcases hy with rfl | hy <;> simp_all)
    (hgs : Gl X "sorted" := by rfl) (hex : X.ex = [] := by rfl)
    (hs1 : starEach [e] X.env = (false, eval e X.env) :: starEach [] X.env := by rfl) (he : backTo pos (starEach [e] X.env) = (false, eval e X.env) :: backTo pos (starEach [] X.env) := by rfl) (hpl : (backTo pos (starEach [e] X.env)).any (·.1) = false := by rfl)
    (hall : (backToKw pos (keywordEach [⟨some "key", .Lambda params body scope lpos, kp⟩] X.env)).all (·.1.isSome) = true := by rfl) (hnone : (backToKw pos (keywordEach [⟨some "key", .Lambda params body scope lpos, kp⟩] X.env)).any (·.1.isNone) = false := by rfl) (hks : (backToKw pos (keywordEach [⟨some "key", .Lambda params body scope lpos, kp⟩] X.env)).filterMap (·.1) = [Str.ofString "key"] := by rfl) :
    DE K X W (.Call (.Name "sorted" p) [e] [⟨some "key", .Lambda params body scope lpos, kp⟩] pos) (tCKw (rSortL K nm (lamF X nm params scope) body (lamK N.length em)) (tCons te tNil) (tCons (tLam P nm (lamF X nm params scope) body) tNil)) (mSortL i P nm (lamK N.length em) m) := by
  have k0 := h.k
  subst k0
  have Fn : ∀ f c', LOk X.prog X.w X.K X.mg X.base (L2.CX X.prog X.w) (k + 1) f (lamF X nm params scope c') body [x] [] (fun _ => spA X.K 1 (lamK N.length em)) := fun f c' => lamA S (hb _ c') (hbody f c')
  refine ⟨rfl, pe_callBK (cr_sortL Fn hcl (hr.mono hkk) hex) hgs hs rfl (pa_cons h.pe pa_nil hs1) (pk_cons (pe_lam TB hcode hn hdef hfree) pk_nil) (by decide) (by decide) he hpl hall hnone hks, ⟨fun σ H s Z I r0 Q w rs e1 p1 => ?_⟩⟩
  refine h.so.bnd w rs e1 p1.x fun d v M1 Z1 H1 I1 w1 rs1 x1 q1 e2 => ?_
  obtain ⟨d, rfl, e2⟩ := pur_ok e2
  have e2 : (if tblAt M1 i P nm = true then ret (sortKD (lamK N.length em) d) ⟨s.l, M1⟩ else none) = some r0 := e2
  split at e2
  · rename_i htb
    obtain ⟨c0, hc, rfl⟩ := ret_ok e2
    obtain ⟨hi, hm⟩ := tbl_at w1 htb
    obtain ⟨_, _, ps, hP, ht, hz⟩ := w1.ob i P _ hi hm (by intro z; cases z)
    refine ⟨ps, hP, ht, fun pos cv hcv => ?_, fun f c' H2 ps' k1 k2 k3 k4 k5 k6 k6' k7 k8 k9 => ?_⟩
    · obtain ⟨c1, e3, e4⟩ := hz pos cv hcv
      exact ⟨c1, e3, w1.sub _ _ e4⟩
    · obtain ⟨Z2, w2, x2, f2, c2⟩ := lam_wf w1 hi hm hP hz k1 k2 k3 k4 k5 k6 k6' k7 k8 k9
      exact ⟨f, c', v, Z2, d, c0, rfl, rfl, k8, k9, w2.sub, Rep.mono x2.z q1, hc, PostP.of w2 ((p1.mono x1).mono x2)⟩
  · cases e2
end
end DL
namespace DL
open PySem PySem.Spec PyProof.Rows L2 LamX NdefX
/-! ### the end of a law whose defs make lambdas: tables of code objects -/
def tbls : List Addr → List Str → List O
  | P :: Ps, q :: qs => .tbl P q :: tbls Ps qs
  | _, _ => []
theorem tbls_len : ∀ (Ps : List Addr) (qs : List Str), Ps.length = qs.length → (tbls Ps qs).length = Ps.length
  | [], _, _ => by cases ‹List Str› <;> rfl
  | _ :: _, [], h => by cases h
  | P :: Ps, q :: qs, h => by
    show (tbls Ps qs).length + 1 = Ps.length + 1
    rw [tbls_len Ps qs (by simpa using h)]
theorem tbls_at : ∀ {Ps : List Addr} {qs : List Str} {n : Nat} {b : Addr} {o : O}, Ps[n]? = some b → (tbls Ps qs)[n]? = some o → ∃ q, o = .tbl b q
  | [], _, _, _, _, h, _ => by simp at h
  | _ :: _, [], _, _, _, _, h => by simp [tbls] at h
  | P :: Ps, q :: qs, 0, b, o, h1, h2 => by
    simp at h1; simp [tbls] at h2
    exact ⟨q, by rw [← h1, h2]⟩
  | P :: Ps, q :: qs, n + 1, b, o, h1, h2 => tbls_at (Ps := Ps) (qs := qs) (n := n) (by simpa using h1) (by simpa [tbls] using h2)
section
variable {P : Program} {w : World} {K : PySem.W.Frag} {mg : Str → Option Value} {base : Heap} {x qual : Str} {st : Stmt} {f a : Addr} {fd : FuncData} {N : List Str} {k : Nat}
/-- from the entry on -/
theorem run_topT {m : SM} {cs : List (Addr × Addr)} {nms : List Str} {s₁ : Shared} {H : Hp} {ns : List Int} {p : Str} (F : Fun K x qual st f fd) (Sc : FnScope N [p] (defScope st)) (hr : Room (k + 1) callerA) (body : TopB P w K mg base N qual st f k m)
    (e0 : Env0 P w K mg base callerA [] s₁ H) (hb : BindsTo s₁ fd ⟨[.ref a], []⟩ [(p, .ref a)]) (hH : ∀ p ∈ cs, H p.2 = some (.tbl #[])) (hS : SqL K H a (ns.map V.int)) (hO : ∀ b, H b = none ∨ b ∈ cs.map (·.2) ∨ ∃ o xs, H b = some (.frz o (.lst xs))) (aT : a ∉ cs.map (·.2)) (hT : ∀ p ∈ cs, s₁.heap.get? p.2 = some { cls := .none, data := .fields #[] }) (C : ∀ p ∈ cs, PySem.W.CodeHd s₁.heap p.1 p.2) (nd : (cs.map (·.2)).Nodup) (hln : cs.length = nms.length) (good : ∃ s, m ⟨slotsOf N.length ([D.scr (ns.map .int)].map .p), tbls (cs.map (·.2)) nms⟩ = some (.rt (.p (.bl true)), s)) :
    codeAny (model P w) callerA (.call (.ref f) ⟨[.ref a], []⟩) (Told s₁) s₁ := by
  obtain ⟨oc, od, kV, doc, pm, an, cdv, ct, osl, rfl, lk, hcd⟩ := F.ex
  have inS : ∀ b o, base.get? b = some o → s₁.heap.get? b = some o := fun b o q => (e0.bs b o q).1
  have KS : K.In s₁.heap := e0.mod.kin.keeps inS
  have NL : s₁.heap.NoLimit := e0.mod.nolimit.keeps inS
  refine codeAny_mono (R := CR (L2.CX P w) [] P w H s₁ (fun v _ => v = V.bl true) (fun _ _ _ => False)) ?_ fun r s' h => ?_
  rotate_left
  · cases r with
    | error e =>
      obtain ⟨_, _, _, _, _, _, _, _, _, _, _, _, z⟩ := (show L2.CX P w [] H s₁ (fun _ _ _ => False) e s' from h)
      exact z.elim
    | ok fl =>
      cases fl with
      | ret u =>
        obtain ⟨v, H', os, bare, un, hok, rv, e⟩ := h
        have e : v = V.bl true := e
        subst e
        obtain rfl : u = Value.bool true := rv
        have key : ∀ b o, b ∉ cs.map (·.2) → s₁.heap.get? b = some o → s'.heap.get? b = some o := fun b o nb e => by
          rcases hO b with z | z | ⟨ob, xs, z⟩
          · exact un.keep b o e z (by intro q; exact absurd (show b ∈ ([] : List Addr) from q) (by simp)) (by simp)
          · exact absurd z nb
          · obtain ⟨e1, _⟩ := e0.hok b _ z
            obtain ⟨e2, _⟩ := hok b _ (un.frzs b ob _ z)
            rw [e] at e1; cases e1
            exact e2
        have grown : ∀ p ∈ cs, ∃ more : Array Value, s'.heap.get? p.2 = some { cls := .none, data := .fields more } := fun p hp => by
          obtain ⟨more, z⟩ := un.tbls p.2 #[] (hH p hp)
          exact ⟨_, hok p.2 _ z⟩
        refine ⟨rfl, ⟨fun b o e => ?_, fun b o e => ?_⟩, os, bare⟩
        · by_cases hb : b ∈ cs.map (·.2)
          · obtain ⟨p, hp, ep⟩ := List.mem_map.mp hb
            obtain ⟨more, hm⟩ := grown p hp
            rw [← ep] at e ⊢
            rw [hT p hp] at e
            cases e
            exact .inr (.inl ⟨((C p hp).tab (hT p hp)).isCodeTable, rfl, #[], more, rfl, by rw [Array.empty_append]; exact hm⟩)
          · exact .inl (key b o hb e)
        · by_cases hb : b ∈ cs.map (·.2)
          · obtain ⟨p, hp, ep⟩ := List.mem_map.mp hb
            obtain ⟨more, hm⟩ := grown p hp
            rw [← ep]
            exact ⟨_, hm⟩
          · exact ⟨o, key b o hb e⟩
      | next => exact False.elim h
      | brk => exact False.elim h
      | cont => exact False.elim h
  -- the frame is made, the script bound
  refine PySem.codeAny_call_function hr.depth (KS _ _ lk) rfl Sc.co Sc.gen rfl (PySem.W.codeRec_of KS hcd) (hb _ _ _ _ ?_)
  refine PySem.wpAny_newFunctionEnv_cells Sc.kind (fun y hy => ?_) fun env he s2 made => ?_
  · obtain ⟨n, v⟩ := y
    rcases Sc.par n (List.of_mem_zip (l₁ := [p]) (l₂ := [Value.ref a]) hy).1 with q | q
    · exact .inl q
    · exact .inr ⟨q, PySem.W.cellsFrom_some _ _ _ (.inl q)⟩
  subst he
  refine ⟨NL.keeps made.toInCall.keep, PySem.codeAny_func ?_⟩
  obtain ⟨t, d⟩ := body cdv s₁ H (fun _ _ _ => False) (hr.deeper _)
  have I := inv_start (CX := L2.CX P w) (E := fun _ _ _ => False) Sc hr.hd e0 (vs := [.ref a]) rfl (.cons rfl .nil) made
  have q : t { nx := fun _ H' => (fun v (_ : Hp) => v = V.bl true) .non H', rt := fun v _ => v = V.bl true } (L2.start N [.ref a]) H := by
    let Z0 : Hp := fun b => if b ∈ cs.map (·.2) then none else H b
    have w0 : Wf K Z0 H (cs.map (·.2)) (tbls (cs.map (·.2)) nms) := by
      refine ⟨fun b o e => ?_, by rw [tbls_len _ _ (by rw [List.length_map]; exact hln)], nd, fun b hb => ?_, fun n b o h1 h2 h3 => ?_⟩
      · have e : (if b ∈ cs.map (·.2) then none else H b) = some o := e
        split at e
        · cases e
        · exact e
      · obtain ⟨p, hp, rfl⟩ := List.mem_map.mp hb
        rw [hH p hp]; simp
      · have hb : b ∈ cs.map (·.2) := List.mem_of_getElem? h1
        refine ⟨if_pos hb, ?_⟩
        obtain ⟨p, hp, rfl⟩ := List.mem_map.mp hb
        obtain ⟨q, rfl⟩ := tbls_at h1 h2
        refine ⟨rfl, #[], hH p hp, trivial, fun pos cv z => ?_⟩
        have z : codeAmong pos [] = some cv := z
        simp [codeAmong] at z
    have hS0 : SqL K Z0 a (ns.map V.int) := by
      rcases hS with z | z
      · refine .inl ?_
        have ea : Z0 a = H a := if_neg aT
        unfold Rd at z ⊢
        rw [ea]; exact z
      · exact .inr z
    obtain ⟨s1, z⟩ := good
    refine d.so.ok (L2.start N [.ref a]) H _ Z0 (cs.map (·.2)) _ _ w0 (start_rep (.cons (show RepV K Z0 (cs.map (·.2)) (.ref a) (.p (.scr (ns.map .int))) from Rep.scr hS0 (intsRep ns)) .nil)) z ?_
    exact fun v Z' H' I' w' x' r' => by cases r'; rfl
  refine wpAny_mono (d.ps.run [] s2 (L2.start N [.ref a]) H _ I q) (fun fl s' h => ?_) fun e s' h => ?_
  · cases fl with
    | ret u =>
      obtain ⟨v, σ', H', J, rv, e⟩ := h
      exact ⟨v, H', J.os, J.bare, J.base, J.hok, rv, e⟩
    | next =>
      obtain ⟨σ', H', J, e⟩ := h
      cases e
    | brk =>
      obtain ⟨_, _, _, e⟩ := h
      exact False.elim e
    | cont =>
      obtain ⟨_, _, _, e⟩ := h
      exact False.elim e
  · exact h
theorem law_topT {m : SM} {s₁ : Shared} {mb : Str → Option Value} {cs : List (Addr × Addr)} {nms : List Str} {vs : List Value} {ns : List Int} {p : Str}
    (KX : K.In s₁.heap) (hns : s₁.heap.Ns mainGlobals mg) (hb : s₁.heap.Ns builtinsNs mb) (hbb : ∀ x : Str, x ≠ "__name__" → mb x = bootBuiltins x) (hlim : s₁.heap.NoLimit) (hg : s₁.gens = #[])
    (hT : ∀ p ∈ cs, s₁.heap.get? p.2 = some { cls := .none, data := .fields #[] }) (nT : ∀ p ∈ cs, K.lookup p.2 = none) (C : ∀ p ∈ cs, PySem.W.CodeHd s₁.heap p.1 p.2)
    (hbm : ∃ (bm : Addr) (ob : Obj), mg "__builtins__" = some (.ref bm) ∧ bm ≠ builtinsNs ∧ s₁.heap.get? bm = some ob ∧ ob.cls = .type "module" ∧ ob.dict = some builtinsNs ∧ ob.data = .plain)
    (ha : s₁.heap.get? a = some { cls := .type "list", data := .seq vs.toArray }) (hi : IntsAre vs ns) (hl : ns.length ≤ sizeLine) (hr : Room (k + 1) callerA) (nd : (cs.map (·.2)).Nodup) (hln : cs.length = nms.length)
    (F : Fun K x qual st f fd) (Sc : FnScope N [p] (defScope st)) (hbind : ∀ (s : Shared) (u : Value), BindsTo s fd ⟨[u], []⟩ [(p, u)]) (body : ∀ base : Heap, K.In base → base.Ns mainGlobals mg → (∀ p ∈ cs, TabB base mg p.1 p.2) → TopB P w K mg base N qual st f k m)
    (good : ∃ s, m ⟨slotsOf N.length ([D.scr (ns.map .int)].map .p), tbls (cs.map (·.2)) nms⟩ = some (.rt (.p (.bl true)), s)) :
    codeAny (model P w) callerA (.call (.ref f) ⟨[.ref a], []⟩) (Told s₁) s₁ := by
  have rv := vals_ints hi
  have lenV := hi.length
  have isT : ∀ b : Addr, b ∈ cs.map (·.2) → s₁.heap.get? b = some { cls := .none, data := .fields #[] } := fun b hb => by
    obtain ⟨p, hp, e⟩ := List.mem_map.mp hb
    rw [← e]
    exact hT p hp
  have aT : a ∉ cs.map (·.2) := fun z => by
    have q := isT a z
    rw [ha] at q
    have z' : Data.seq vs.toArray _ = Data.fields #[] := congrArg Obj.data (Option.some.inj q)
    cases z'
  have memT : ∀ p ∈ cs, p.2 ∈ cs.map (·.2) := fun p hp => List.mem_map.mpr ⟨p, hp, rfl⟩
  -- from an abstract heap in which nothing but the script and the tables may be tracked
  have core : ∀ H : Hp, (∀ p ∈ cs, H p.2 = some (.tbl #[])) → (∀ b, H b = none ∨ b ∈ cs.map (·.2) ∨ ∃ o xs, H b = some (.frz o (.lst xs))) → SqL K H a (ns.map V.int) → HOk P w H s₁.heap → (∀ b, H b ≠ none → b = a ∨ b ∈ cs.map (·.2)) → (H a ≠ none → K.lookup a = none) →
      codeAny (model P w) callerA (.call (.ref f) ⟨[.ref a], []⟩) (Told s₁) s₁ := by
    intro H hH hO hS hok hA hK
    have base_of : ∀ {b : Addr} {o : Obj}, s₁.heap.get? b = some o → H b = none → (hidT s₁.heap H).get? b = some o := fun e n => hidT_get e n
    have noD : ∀ {b : Addr} {o : Obj}, s₁.heap.get? b = some o → (∀ vs n, o.data ≠ .seq vs n) → o.data ≠ .fields #[] → H b = none := fun {b o} e h1 h2 => by
      cases q : H b with
      | none => rfl
      | some u =>
        rcases hA b (by rw [q]; simp) with e' | e'
        · rw [e', ha] at e
          cases e
          exact (h1 _ _ rfl).elim
        · rw [isT b e'] at e
          cases e
          exact (h2 rfl).elim
    have noA : ∀ {b : Addr} {o : Obj} {es : Array DictEntry} {ep : Nat}, s₁.heap.get? b = some o → o.data = .dict es ep → H b = none := fun {b o es ep} e d => by
      refine noD e (fun vs n z => ?_) fun z => ?_
      · rw [d] at z
        cases z
      · rw [d] at z
        cases z
    have nsK : ∀ {b : Addr} {m : Str → Option Value}, s₁.heap.Ns b m → (hidT s₁.heap H).Ns b m := fun {b m} ⟨o, es, ep, e, d, r⟩ => ⟨o, es, ep, base_of e (noA e d), d, r⟩
    have hKb : K.In (hidT s₁.heap H) := fun b o e => base_of (KX b o e) (by
      cases q : H b with
      | none => rfl
      | some u =>
        rcases hA b (by rw [q]; simp) with e' | e'
        · rw [e'] at e q
          rw [hK (by rw [q]; simp)] at e
          cases e
        · obtain ⟨p, hp, ep⟩ := List.mem_map.mp e'
          rw [← ep, nT p hp] at e
          cases e)
    have hM : L2.Mod K mg (hidT s₁.heap H) := ⟨hKb, nsK hns, ⟨mb, nsK hb, hbb⟩, let ⟨mc, h1, h2⟩ := hlim; ⟨mc, nsK h1, h2⟩⟩
    have TB : ∀ p ∈ cs, TabB (hidT s₁.heap H) mg p.1 p.2 := fun p hp => by
      have hTp := hT p hp
      refine ⟨?_, ?_, fun z => ?_⟩
      · obtain ⟨o, us, file, tf, flags, tg, inF, text, tt, e1, r1, r2, r3, r4, r5, r6, r7, r8, hne⟩ := C p hp
        refine ⟨o, us, file, tf, flags, tg, inF, text, tt, base_of e1 (noD e1 (fun vs n z => ?_) fun z => ?_), r1, r2, r3, r4, r5, r6, r7, r8, hne⟩
        · rw [r2] at z
          cases z
        · rw [r2] at z
          cases z
          simp at r3
      · obtain ⟨bm, ob, b1, b2, b3, b4, b5, b6⟩ := hbm
        have nG : bm ≠ mainGlobals := fun q => by
          obtain ⟨o, es, ep, e, hd, _⟩ := hns
          rw [q, e] at b3
          cases b3
          rw [hd] at b6
          cases b6
        have nP : bm ≠ p.2 := fun q => by
          rw [q, hTp] at b3
          cases b3
          cases b6
        refine ⟨bm, ob, b1, b2, nG, nP, base_of b3 (noD b3 (fun vs n z => ?_) fun z => ?_), b4, b5, b6⟩
        · rw [b6] at z
          cases z
        · rw [b6] at z
          cases z
      · obtain ⟨o, es, ep, e, hd, _⟩ := hns
        rw [z, hTp] at e
        cases e
        cases hd
    have e0 : Env0 P w K mg (hidT s₁.heap H) callerA [] s₁ H := ⟨rfl, hM, fun b o e => of_hidT e, Nat.le_of_eq (hidT_size _ _), trivial, fun b hb => absurd (show b ∈ ([] : List Addr) from hb) (by simp), hok, .of_eq hg⟩
    exact run_topT F Sc hr (body _ hKb (nsK hns) TB) e0 (hbind _ _) hH hS hO aT hT C nd hln good
  cases hk : K.lookup a with
  | some o =>
    have e := KX a o hk
    rw [ha] at e
    cases e
    refine core (fun b => if b ∈ cs.map (·.2) then some (.tbl #[]) else none) (fun p hp => if_pos (memT p hp)) (fun b => ?_) (.inr ⟨_, vs.toArray, _, hk, rfl, rfl, rfl, by rw [List.size_toArray, lenV]; exact hl, by simpa using rv⟩) (fun b u z => ?_) (fun b z => ?_) fun z => absurd (show (if a ∈ cs.map (·.2) then some (HO.tbl #[]) else none) = none from if_neg aT) z
    · by_cases hb : b ∈ cs.map (·.2)
      · exact .inr (.inl hb)
      · exact .inl (if_neg hb)
    · by_cases hb : b ∈ cs.map (·.2)
      · have z' := (if_pos hb).symm.trans z
        cases z'
        exact isT b hb
      · have z' := (if_neg hb).symm.trans z
        cases z'
    · by_cases hb : b ∈ cs.map (·.2)
      · exact .inr hb
      · exact absurd (if_neg hb) z
  | none =>
    refine core (fun b => if b = a then some (.frz { cls := .type "list", data := .seq vs.toArray } (.lst (ns.map V.int))) else if b ∈ cs.map (·.2) then some (.tbl #[]) else none) (fun p hp => (if_neg (show ¬ p.2 = a from fun z => aT (by rw [← z]; exact memT p hp))).trans (if_pos (memT p hp))) (fun b => ?_)
      (.inl (.inr ⟨{ cls := .type "list", data := .seq vs.toArray }, if_pos rfl⟩)) (fun b u z => ?_) (fun b z => ?_) fun _ => hk
    · by_cases hb : b = a
      · exact .inr (.inr ⟨_, _, if_pos hb⟩)
      · by_cases hb2 : b ∈ cs.map (·.2)
        · exact .inr (.inl hb2)
        · exact .inl ((if_neg hb).trans (if_neg hb2))
    · by_cases hb : b = a
      · have z' := (if_pos hb).symm.trans z
        cases z'
        rw [hb]
        exact ⟨ha, by rw [List.length_map]; exact hl, vs, _, rv, ha⟩
      · have z1 := (if_neg hb).symm.trans z
        by_cases hb2 : b ∈ cs.map (·.2)
        · have z' := (if_pos hb2).symm.trans z1
          cases z'
          exact isT b hb2
        · have z' := (if_neg hb2).symm.trans z1
          cases z'
    · by_cases hb : b = a
      · exact .inl hb
      · by_cases hb2 : b ∈ cs.map (·.2)
        · exact .inr hb2
        · exact absurd ((if_neg hb).trans (if_neg hb2)) z
end
theorem walk_dlT {l : PySem.W.OpenLaw} {k : Nat} {q : Program} {loose : List Str} {XP : (Str → Option Value) → Heap → Prop} {YP : World → Heap → Prop} {d : DefRec} {K : Params → PySem.W.Frag} {x qual : Str} {st : Stmt} {N : List Str} {m : List Addr → SM} {nms : List Str} (hn : l.most = some 63) (hdf : d.params.defaults = []) (hr : Room (k + 1) callerA)
    (hY : ∀ (w : World) (h : Heap), YP w h → (K w.params).In h) (Sc : FnScope N ["script"] (defScope st))
    (F : ∀ (w : World) (mg : Str → Option Value) (fa : Addr) (h : Heap), YP w h → (K w.params).In h → h.Ns mainGlobals mg → mg d.name = some (.ref fa) →
      ∃ (fd : FuncData) (cs : List (Addr × Addr)), (∀ p ∈ cs, h.get? p.2 = some { cls := .none, data := .fields #[] }) ∧ (∀ p ∈ cs, (K w.params).lookup p.2 = none) ∧ (∀ p ∈ cs, PySem.W.CodeHd h p.1 p.2) ∧ (cs.map (·.2)).Nodup ∧ cs.length = nms.length ∧
        Fun (K w.params) x qual st fa fd ∧ (∀ (s : Shared) (u : Value), BindsTo s fd ⟨[u], []⟩ [("script", u)]) ∧ ∀ base : Heap, (K w.params).In base → base.Ns mainGlobals mg → (∀ p ∈ cs, TabB base mg p.1 p.2) → TopB l.prog w (K w.params) mg base N qual st fa k (m (cs.map (·.2))))
    (good : ∀ (Ps : List Addr) (ns : List Int), Ps.length = nms.length → ns.length ≤ 63 → (∀ z ∈ ns, Builtin.Int.intBits z ≤ 1048576) → ∃ s, m Ps ⟨slotsOf N.length ([D.scr (ns.map .int)].map .p), tbls Ps nms⟩ = some (.rt (.p (.bl true)), s)) :
    PySem.W.WalkO q loose XP YP l.row.toRowW d [] (fun f vs => PySem.call f vs) := by
  refine Att.attach_callB hn hdf fun w s₀ s₁ mg mb fa o pm cd doc a vs ns G Y ho hd hcd hmg hobj hints hlen hbits hg => ?_
  have KX := hY w _ Y
  obtain ⟨fd, cs, hT, nT, C, nd, hln, hF, hbind, body⟩ := F w mg fa _ Y KX G.T.g hmg
  exact law_topT KX G.T.g G.T.b G.T.builtins G.T.nolimit hg hT nT C G.T.bmain hobj hints (Nat.le_trans hlen (by decide)) hr nd hln hF Sc hbind body (good (cs.map (·.2)) ns (by rw [List.length_map]; exact hln) hlen hbits)
/-! ### a def that makes lambdas: its code object is known -/
section
variable {P : Program} {w : World} {K : PySem.W.Frag} {mg : Str → Option Value} {base : Heap} {x qual : Str} {st : Stmt} {f : Addr} {fd : FuncData} {N ps : List Str} {k : Nat}
theorem Fun.okC {sp : Sp} (F : Fun K x qual st f fd) (S : FnScope N ps (defScope st)) (len : ∀ vs H Q E, sp vs H Q E → vs.length = ps.length)
    (hbody : ∀ (A : Around) (outer : List Env) (s : Shared) (H : Hp) (vs : List V) (Q : VK) (E : XK), Room k (A.deeper (envOfC qual (defScope st) s.heap.objs.size f fd.code)) → sp vs H Q E →
      ∃ t, PSs (cxOf (L2.CX P w) P w K mg base N qual (defScope st) f fd.code A outer s H E) (defBody st) t ∧ t { nx := fun _ H' => Q .non H', rt := Q } (start N vs) H) : FnOk P w K mg base (L2.CX P w) (k + 1) f fd ps sp := by
  obtain ⟨oc, od, kV, doc, pm, an, cdv, ct, osl, rfl, lk, hcd⟩ := F.ex
  exact fn_of lk hcd S len fun A outer s H vs Q E hr hsp => hbody A outer s H vs Q E hr hsp
theorem fnBC {m : SM} (F : Fun K x qual st f fd) (Sc : FnScope N ps (defScope st))
    (body : ∀ (A : Around) (outer : List Env) (s : Shared) (H : Hp) (E : XK), Room k (A.deeper (PyProof.Rows.envOfC qual (defScope st) s.heap.objs.size f fd.code)) →
      ∃ t, DSs K (cxOf (L2.CX P w) P w K mg base N qual (defScope st) f fd.code A outer s H E) (WE0 E) (defBody st) t m) : FnOk P w K mg base (L2.CX P w) (k + 1) f fd ps (spB K ps.length (runB N.length m)) := by
  refine Fun.okC F Sc spB_len fun A outer s H vs Q E hr h => ?_
  obtain ⟨hl, Z, I, M, ds, r, w0, rp, e, p⟩ := h
  obtain ⟨t, b⟩ := body A outer s H E hr
  refine ⟨t, b.ps, ?_⟩
  unfold runB at e
  cases z : m ⟨slotsOf N.length ds, M⟩ with
  | none => rw [z] at e; cases e
  | some fs =>
    rw [z] at e
    obtain ⟨fl, s1⟩ := fs
    refine b.so.ok (L2.start N vs) H ⟨slotsOf N.length ds, M⟩ Z I _ _ w0 (start_rep rp) z ?_
    cases fl with
    | nx =>
      cases e
      intro σ' Z' H' I' w' rs' x'
      obtain ⟨I2, w2, x2, r2, _⟩ := drop_ok (d := .p .non) (v := .non) w0 w' x' (show Rep K Z' .non .non from .non)
      exact p _ Z' H' I2 w2 x2 r2
    | rt d =>
      cases e
      intro v Z' H' I' w' x' r'
      obtain ⟨I2, w2, x2, r2, _⟩ := drop_ok w0 w' x' r'
      exact p v Z' H' I2 w2 x2 r2
    | ex c fs =>
      cases e
      intro σ' d Z' H' I' w' rs' x' ea na
      obtain ⟨I2, w2, x2, _, h2⟩ := drop_ok (d := .p .non) (v := .non) w0 w' x' (show Rep K Z' .non .non from .non)
      exact p d Z' H' I2 w2 x2 ea fun a q => ⟨(na a q).1, fun m => (na a q).2 (h2 a m)⟩
    | bk => cases e
    | ct => cases e
end
end DL
namespace DL
open PySem L2 PySem.W
/-! ### sorted(xs) of data -/
section
variable {X : Cx} {pins : List (Addr × Obj)} {σ : St} {H Z : Hp} {s : Shared}
theorem each_rep {K : PySem.W.Frag} {Z : Hp} : ∀ {us : List Value} {vs : List V} {ds : List D}, Vals vs us → RepA K Z vs ds → EachIs (fun u d => ∃ v, RelV v u ∧ Rep K Z v d) us ds
  | _, _, _, .nil, .nil => .nil
  | _, _, _, .cons r1 t1, .cons r2 t2 => .cons ⟨_, r1, r2⟩ (each_rep t1 t2)
theorem each_readsP (I : Inv X pins σ H s) (sz : Same Z H) : ∀ {us : List Value} {vs : List V} {ks : List D}, Vals vs us → RepA X.K Z vs ks → (∀ k ∈ ks, shp k = true) → EachIs (fun u d => ∃ as, Reads s.heap u (toP d) as) us ks
  | _, _, _, .nil, .nil, _ => .nil
  | _, _, _, .cons r1 t1, .cons (d := d) r2 t2, h => .cons (Dp.reads I (toP d) _ _ (r2.dp sz (shaped_can (h d List.mem_cons_self))) r1) (each_readsP I sz t1 t2 fun k hk => h k (List.mem_cons_of_mem _ hk))
theorem each_vals1 {K : PySem.W.Frag} {Z : Hp} : ∀ {us : List Value} {ps : List D}, EachIs (fun u d => ∃ v, RelV v u ∧ Rep K Z v d) us ps → ∃ vs, Vals vs us ∧ RepA K Z vs ps
  | _, _, .nil => ⟨[], .nil, .nil⟩
  | _, _, .cons h t => by
    obtain ⟨v, r1, r2⟩ := h
    obtain ⟨vs, q1, q2⟩ := each_vals1 t
    exact ⟨v :: vs, .cons r1 q1, .cons r2 q2⟩
noncomputable def sortL (ds : List D) : List D := ds.mergeSort (dataLe false toP)
noncomputable def dSort : D → Option D
  | .lst ds => if (ds.all shp && sortOk (toPs ds)) = true then some (.lst (sortL ds)) else none
  | _ => none
def rSortP (K : PySem.W.Frag) : List V → Hp → VK → Prop := fun vs H Q => ∃ (x : V) (Z : Hp) (d c : D), vs = [x] ∧ Same Z H ∧ Rep K Z x d ∧ dSort d = some c ∧ PostP K Z H c Q
theorem cr_sortP (hu : X.A.units + 67 < cLine) : CallR X (.builtin "sorted") (rSortP X.K) := by
  intro pins s σ H vs us Q I r h
  obtain ⟨x, Z, d, c, rfl, sz, hx, hd, p⟩ := h
  unfold dSort at hd
  split at hd
  · split at hd
    · rename_i ds hc
      cases hd
      rw [Bool.and_eq_true] at hc
      have hsp : ∀ k ∈ ds, shp k = true := fun k hk => List.all_eq_true.mp hc.1 k hk
      cases hx with
      | lst h1 h2 =>
        obtain ⟨its, rv, hl, hz⟩ := I.list (.inl (same_rd sz h1))
        rw [Vals.ref1 r]
        have hal : AllAlike (ds.map toP) := by rw [← toPs_map]; exact sortOk_like hc.2
        have hso : Sortable (ds.map toP) := by rw [← toPs_map]; exact sortOk_sortable hc.2
        refine sorted_data hl.isList (each_rep rv h2) (each_readsP I sz rv h2 hsp) hal hso (by rw [← h2.length]; exact hz) (fun b hb => ?_) fun out ho eo => ?_
        · have z := hsp b hb
          unfold shp at z
          rw [Bool.and_eq_true] at z
          have y := of_decide_eq_true z.2
          have dd : (toP b).depth = depD b := depD_dep b z.1
          rw [dd]; omega
        · obtain ⟨ov, o1, o2⟩ := each_vals1 eo
          obtain ⟨ep, he'⟩ := PyProof.Rows.sortedAll_at s.heap its out.toArray
          have hn : H (s.heap.objs.size + 1) = none := I.hok.fresh (Nat.le_succ _)
          have hlen : ov.length ≤ sizeLine := by rw [o1.length, ho, ← h2.length]; exact hz
          have xp := ExtP.new (o := .lst ov) sz hn
          exact ⟨.ref _, upd H (s.heap.objs.size + 1) (.lst ov), I.laid (t' := s.toks) (fun _ _ => PyProof.Rows.sortedAll_old) (Nat.le_succ _) ⟨hlen, out, ep, o1, he'⟩, rfl, p _ _ _ xp (.lst (.inl upd_same) (o2.mono xp.z))⟩
    · cases hd
  · cases hd
end
section
variable {K : PySem.W.Frag} {X : Cx} {W : WX} {e a b c tg : Expr} {es : List Expr} {pos : Pos}
theorem units67 {k : Nat} {A : Around} (r : Room k A) : A.units + 67 < cLine := by have := r.un; omega
theorem cd_sort (hu : X.A.units + 67 < cLine) : CallD K X (.builtin "sorted") (rSortP K) (g1 dSort) := ⟨fun k => by rw [← k]; exact cr_sortP hu, g1_ok fun x d c Z H Q s hx hg p => ⟨x, Z, d, c, rfl, s, hx, hg, p⟩⟩
/-! ### max(xs), min(xs) of ints -/
def intsD : List D → Option (List Int)
  | [] => some []
  | .int i :: r => (intsD r).map (i :: ·)
  | _ :: _ => none
theorem intsD_rep {Z : Hp} : ∀ {vs : List V} {ds : List D} {ns : List Int}, RepA K Z vs ds → intsD ds = some ns → vs = ns.map V.int
  | _, [], _, .nil, e => by cases e; rfl
  | _, .int i :: r, _, .cons h t, e => by
    have e : (intsD r).map (i :: ·) = some _ := e
    cases q : intsD r with
    | none => rw [q] at e; cases e
    | some ms => rw [q] at e; cases e; cases h; rw [intsD_rep t q]; rfl
  | _, .non :: _, _, .cons h t, e => by cases e
  | _, .bl _ :: _, _, .cons h t, e => by cases e
  | _, .str _ :: _, _, .cons h t, e => by cases e
  | _, .tup _ :: _, _, .cons h t, e => by cases e
  | _, .ktup _ :: _, _, .cons h t, e => by cases e
  | _, .lst _ :: _, _, .cons h t, e => by cases e
  | _, .klst _ :: _, _, .cons h t, e => by cases e
  | _, .dK _ :: _, _, .cons h t, e => by cases e
  | _, .dT _ :: _, _, .cons h t, e => by cases e
  | _, .fn _ :: _, _, .cons h t, e => by cases e
  | _, .scr _ :: _, _, .cons h t, e => by cases e
  | _, .ty _ :: _, _, .cons h t, e => by cases e
  | _, .rng _ _ :: _, _, .cons h t, e => by cases e
theorem intsD_map : ∀ ns : List Int, intsD (ns.map .int) = some ns
  | [] => rfl
  | n :: r => by show (intsD (r.map .int)).map (n :: ·) = _; rw [intsD_map r]; rfl
def maxI : List Int → Int
  | [] => 0
  | [x] => x
  | x :: r => if x < maxI r then maxI r else x
def minI : List Int → Int
  | [] => 0
  | [x] => x
  | x :: r => if minI r < x then minI r else x
theorem maxI_ge : ∀ (l : List Int) (y : Int), y ∈ l → y ≤ maxI l
  | [x], y, h => by simp at h; rw [h]; exact Int.le_refl _
  | x :: z :: r, y, h => by
    have ih := maxI_ge (z :: r)
    show y ≤ if x < maxI (z :: r) then maxI (z :: r) else x
    rcases List.mem_cons.mp h with h | h
    · subst h; split <;> omega
    · have := ih y h; split <;> omega
theorem maxI_mem : ∀ l : List Int, l ≠ [] → maxI l ∈ l
  | [x], _ => by simp [maxI]
  | x :: z :: r, _ => by
    have ih := maxI_mem (z :: r) (by simp)
    show (if x < maxI (z :: r) then maxI (z :: r) else x) ∈ _
    split
    · exact List.mem_cons_of_mem _ ih
    · simp
theorem minI_le : ∀ (l : List Int) (y : Int), y ∈ l → minI l ≤ y
  | [x], y, h => by simp at h; rw [h]; exact Int.le_refl _
  | x :: z :: r, y, h => by
    have ih := minI_le (z :: r)
    show (if minI (z :: r) < x then minI (z :: r) else x) ≤ y
    rcases List.mem_cons.mp h with h | h
    · subst h; split <;> omega
    · have := ih y h; split <;> omega
theorem minI_mem : ∀ l : List Int, l ≠ [] → minI l ∈ l
  | [x], _ => by simp [minI]
  | x :: z :: r, _ => by
    have ih := minI_mem (z :: r) (by simp)
    show (if minI (z :: r) < x then minI (z :: r) else x) ∈ _
    split
    · exact List.mem_cons_of_mem _ ih
    · simp
def dMaxL : D → Option D
  | .lst ds => match intsD ds with
    | some (n :: ns) => some (.int (maxI (n :: ns)))
    | _ => none
  | _ => none
def dMinL : D → Option D
  | .lst ds => match intsD ds with
    | some (n :: ns) => some (.int (minI (n :: ns)))
    | _ => none
  | _ => none
theorem cd_maxL (hc : X.calm = true) : CallD K X (.builtin "max") (rMax K) (g1 dMaxL) := ⟨fun k => by rw [← k]; exact cr_max hc, g1_ok fun x d c Z H Q s hx hg p => by
  unfold dMaxL at hg
  split at hg
  · split at hg
    · rename_i n ns q
      cases hg
      cases hx with
      | lst h1 h2 =>
        have e := intsD_rep h2 q
        refine ⟨_, n :: ns, rfl, by rw [← e]; exact .inl (same_rd s h1), by simp, fun m hm hy => ?_⟩
        have h3 := hy _ (maxI_mem (n :: ns) (by simp))
        have h4 := maxI_ge (n :: ns) m hm
        have : m = maxI (n :: ns) := by omega
        rw [this]; exact p _ Z H (ExtP.refl s) (.int _)
    · cases hg
  · cases hg⟩
theorem cd_minL (hc : X.calm = true) : CallD K X (.builtin "min") (rMin K) (g1 dMinL) := ⟨fun k => by rw [← k]; exact cr_min hc, g1_ok fun x d c Z H Q s hx hg p => by
  unfold dMinL at hg
  split at hg
  · split at hg
    · rename_i n ns q
      cases hg
      cases hx with
      | lst h1 h2 =>
        have e := intsD_rep h2 q
        refine ⟨_, n :: ns, rfl, by rw [← e]; exact .inl (same_rd s h1), by simp, fun m hm hy => ?_⟩
        have h3 := hy _ (minI_mem (n :: ns) (by simp))
        have h4 := minI_le (n :: ns) m hm
        have : m = minI (n :: ns) := by omega
        rw [this]; exact p _ Z H (ExtP.refl s) (.int _)
    · cases hg
  · cases hg⟩
/-! ### list(x): a new list -/
def dList : D → Option D
  | .lst xs => some (.lst xs)
  | .klst xs => some (.lst xs)
  | .tup xs => some (.lst xs)
  | .ktup xs => some (.lst xs)
  | _ => none
def dTuple : D → Option D
  | .lst xs => some (.tup xs)
  | .klst xs => some (.tup xs)
  | .tup xs => some (.tup xs)
  | .ktup xs => some (.ktup xs)
  | _ => none
theorem cd_list : CallD K X (.type "list") (fun xs H Q => ∃ p ys, xs = [.ref p] ∧ (SqL K H p ys ∨ SqT K H p ys) ∧ ∀ l, H l = none → Q (.ref l) (upd H l (.lst ys))) (g1 dList) := ⟨fun k => by rw [← k]; exact call_list_of, g1_ok fun x d c Z H Q s hx hg p => by
  have main : ∀ {a : Addr} {vs : List V} {ds : List D}, (SqL K H a vs ∨ SqT K H a vs) → RepA K Z vs ds → PostP K Z H (.lst ds) Q → ∃ p ys, [V.ref a] = [V.ref p] ∧ (SqL K H p ys ∨ SqT K H p ys) ∧ ∀ l, H l = none → Q (.ref l) (upd H l (.lst ys)) := fun h r p =>
    ⟨_, _, rfl, h, fun l hl => p _ _ _ (ExtP.new s hl) (.lst (.inl upd_same) (r.mono (ExtP.new s hl).z))⟩
  cases hx with
  | lst h1 h2 => cases hg; exact main (.inl (.inl (same_rd s h1))) h2 p
  | klst h1 h2 => cases hg; exact main (.inl (same_l s h1)) h2 p
  | tup h1 h2 => cases hg; exact main (.inr (sqt s h1)) h2 p
  | ktup h1 h2 => cases hg; exact main (.inr (same_t s h1)) h2 p
  | _ => cases hg⟩
theorem cd_tuple : CallD K X (.type "tuple") (fun xs H Q => ∃ p ys, xs = [.ref p] ∧ ((SqL K H p ys ∧ ∀ l, H l = none → Q (.ref l) (upd H l (.tup ys))) ∨ (SqT K H p ys ∧ Q (.ref p) H))) (g1 dTuple) := ⟨fun k => by rw [← k]; exact call_tuple_of, g1_ok fun x d c Z H Q s hx hg p => by
  cases hx with
  | lst h1 h2 => cases hg; exact ⟨_, _, rfl, .inl ⟨.inl (same_rd s h1), fun l hl => p _ _ _ (ExtP.new s hl) (.tup upd_same (h2.mono (ExtP.new s hl).z))⟩⟩
  | klst h1 h2 => cases hg; exact ⟨_, _, rfl, .inl ⟨same_l s h1, fun l hl => p _ _ _ (ExtP.new s hl) (.tup upd_same (h2.mono (ExtP.new s hl).z))⟩⟩
  | tup h1 h2 => cases hg; exact ⟨_, _, rfl, .inr ⟨sqt s h1, p _ Z H (ExtP.refl s) (.tup h1 h2)⟩⟩
  | ktup h1 h2 => cases hg; exact ⟨_, _, rfl, .inr ⟨same_t s h1, p _ Z H (ExtP.refl s) (.ktup h1 h2)⟩⟩
  | _ => cases hg⟩
/-! ### bits -/
def dShl : D → D → Option D := dI fun i j => if 0 ≤ j ∧ j ≤ 100000 ∧ Builtin.Int.intBits i ≤ 100000 then some (.int (i * 2 ^ j.toNat)) else none
def dBand : D → D → Option D := dIi Builtin.bitAnd
def dBor : D → D → Option D := dIi Builtin.bitOr
def dBxor : D → D → Option D := dIi Builtin.bitXor
theorem od_shl : OpD K X (binaryOp .LShift) (rI CShl fun i j => .int (i * 2 ^ j.toNat)) dShl := ⟨fun _ => op_shlW, ok_rI fun i j c h => by
  split at h
  · rename_i hc
    cases h
    refine ⟨⟨hc.1, ?_⟩, fun _ => .int _⟩
    have : (2 : Int) ^ 27 = 134217728 := by decide
    omega
  · cases h⟩
theorem od_band : OpD K X (binaryOp .BitAnd) (rI0 fun i j => .int (Builtin.bitAnd i j)) dBand := ⟨fun _ => op_and, ok_rI0 fun i j c h Z => by cases h; exact .int _⟩
theorem od_bor : OpD K X (binaryOp .BitOr) (rI0 fun i j => .int (Builtin.bitOr i j)) dBor := ⟨fun _ => op_or, ok_rI0 fun i j c h Z => by cases h; exact .int _⟩
theorem od_bxor : OpD K X (binaryOp .BitXor) (rI0 fun i j => .int (Builtin.bitXor i j)) dBxor := ⟨fun _ => op_xor, ok_rI0 fun i j c h Z => by cases h; exact .int _⟩
def dInv : D → Option D
  | .int i => some (.int (Builtin.bitNot i))
  | _ => none
theorem de_inv {ta : TE} {m : EM} (ha : DE K X W a ta m) : DE K X W (.UnaryOp .Invert a pos) (tUn (rU fun i => .int (Builtin.bitNot i)) ta) (mUn dInv m) :=
  ⟨ha.k, pe_un un_inv ha.pe, so_un (fun x d c Z H Q s hx hg p => by
    unfold dInv at hg
    split at hg
    · cases hx; cases hg; exact ⟨_, rfl, p _ Z H (ExtP.refl s) (.int _)⟩
    · cases hg) ha.so⟩
/-! ### enumerate, reversed(range(..)) -/
def enumD : List D → Nat → List DV
  | [], _ => []
  | d :: r, i => .p (.tup [.int (i : Nat), d]) :: enumD r (i + 1)
theorem enumD_get : ∀ {ds : List D} {j i : Nat} {x : DV}, (enumD ds j)[i]? = some x → ∃ d, ds[i]? = some d ∧ x = .p (.tup [.int ((j + i : Nat)), d])
  | [], _, _, _, h => by simp [enumD] at h
  | d :: r, j, 0, x, h => by simp [enumD] at h; exact ⟨d, rfl, h.symm⟩
  | d :: r, j, i + 1, x, h => by
    obtain ⟨d', h1, h2⟩ := enumD_get (ds := r) (j := j + 1) (i := i) (by simpa [enumD] using h)
    exact ⟨d', by simpa using h1, by rw [h2, Nat.add_assoc, Nat.add_comm 1 i]⟩
theorem enumD_len : ∀ (ds : List D) (j : Nat), (enumD ds j).length = ds.length
  | [], _ => rfl
  | d :: r, j => by show (enumD r (j + 1)).length + 1 = r.length + 1; rw [enumD_len r]
def enumG : List DV → Option (List DV)
  | [.p (.lst xs)] => some (enumD xs 0)
  | _ => none
def mEnum (ms : AM) : IM := bnd ms fun ds s => match enumG ds with
  | some xs => some (.ok xs s.m)
  | none => none
theorem di_enum {p tpos : Pos} {elts : List Expr} {kk : Nat} {ta : TA} {ms : AM} (hm : X.mg "enumerate" = none) (h : DA K X W [e] ta ms) (hg : Gl X "enumerate" := by rfl) (hs : starEach [e] X.env = [(false, eval e X.env)] := by rfl) :
    DI K X W (.Tuple elts kk tpos) (.Call (.Name "enumerate" p) [e] [] pos) (iEnum K ta) (mEnum ms) := by
  refine ⟨h.k, ?_, ⟨fun σ H s Z I r0 Q w rs e1 p1 => ?_⟩⟩
  · rw [← h.k]; exact pi_enum hg hm h.pa hs
  · refine h.so.bnd w rs e1 p1.x fun ds vs M1 Z1 H1 I1 w1 rs1 x1 q1 e2 => ?_
    have e2 : (match enumG ds with | some xs => some (Rs.ok xs M1) | none => none) = some r0 := e2
    cases z : enumG ds with
    | none => rw [z] at e2; cases e2
    | some out =>
    rw [z] at e2; cases e2
    unfold enumG at z
    split at z
    · rename_i xs
      cases z
      cases q1 with
      | cons g1 g2 =>
      cases g2
      have g1 : Rep K Z1 _ (.lst xs) := g1
      cases g1 with
      | lst h1 h2 =>
        rename_i a us
        refine ⟨a, us, rfl, .inl (same_rd w1.sub h1), p1 _ Z1 H1 I1 w1 x1 fun Z' H' I' z _ s' i => ⟨fun d hd => ?_, fun hl => ⟨us, .inl (same_rd s' (same_rd z h1)), by rw [h2.length]; rw [enumD_len] at hl; exact hl⟩⟩⟩
        obtain ⟨y, hy, rfl⟩ := enumD_get hd
        obtain ⟨v, hv, rv⟩ := h2.get hy
        have hq : SqL K H' a us := .inl (same_rd s' (same_rd z h1))
        refine ⟨⟨us, v, hq, hv⟩, fun x H2 hx => ?_⟩
        obtain ⟨T, u, rfl, hT, rfl, hu⟩ := hx
        have := hu us hq
        rw [hv] at this
        cases this
        have xp := ExtP.new (o := .tup [.int (i : Nat), v]) s' hT
        refine ⟨_, xp, .tup upd_same (.cons ?_ (.cons ((rv.mono z).mono xp.z) .nil))⟩
        rw [Nat.zero_add]; exact .int _
    · cases z
def downFrom (n : Nat) : List DV := (List.range n).map fun (i : Nat) => .p (.int ((n : Int) - 1 - (i : Int)))
def revG : D → Option (List DV)
  | .int n => if rngOk n = true then some (downFrom n.toNat) else none
  | _ => none
def mRev1 (m : EM) : IM := mItD revG m
theorem di_rev1 {p p2 rpos : Pos} (hm : X.mg "reversed" = none) (hm2 : X.mg "range" = none) {te : TE} {m : EM} (h : DE K X W a te m) (hg : Gl X "reversed" := by rfl) (hg2 : Gl X "range" := by rfl) (hs : starEach [.Call (.Name "range" p2) [a] [] rpos] X.env = (false, eval (.Call (.Name "range" p2) [a] [] rpos) X.env) :: starEach [] X.env := by rfl) (hs2 : starEach [a] X.env = (false, eval a X.env) :: starEach [] X.env := by rfl) :
    DI K X W tg (.Call (.Name "reversed" p) [.Call (.Name "range" p2) [a] [] rpos] [] pos) (iRevR (tRg1 te)) (mRev1 m) := by
  refine ⟨h.k, pi_revR hg hm (prg_1 hg2 hm2 h.pe hs2) hs, ⟨fun σ H s Z I r0 Q w rs e1 p1 => ?_⟩⟩
  refine h.so.bnd w rs e1 p1.x fun d v M1 Z1 H1 I1 w1 rs1 x1 q1 e2 => ?_
  obtain ⟨d, rfl, e2⟩ := pur_ok e2
  have e2 : (match revG d with | some ds => some (Rs.ok ds M1) | none => none) = some r0 := e2
  cases z : revG d with
  | none => rw [z] at e2; cases e2
  | some out =>
  rw [z] at e2; cases e2
  unfold revG at z
  clear e1 e2
  split at z
  · split at z
    · rename_i n hb
      cases z
      have q1 : Rep K Z1 v (.int n) := q1
      cases q1
      obtain ⟨b1, b2⟩ := rng_bound hb
      refine ⟨n, rfl, by decide, by decide, b1, b2, p1 _ Z1 H1 I1 w1 x1 fun Z' H' I' z _ s' i => ⟨fun d hd => ?_, fun hl => ?_⟩⟩
      · unfold downFrom at hd
        rw [List.getElem?_map] at hd
        cases q : (List.range n.toNat)[i]? with
        | none => rw [q] at hd; cases hd
        | some j =>
          rw [q] at hd
          have hi : i < n.toNat := by simpa using (List.getElem?_eq_some_iff.mp q).1
          have ej : j = i := by
            rw [List.getElem?_range hi] at q
            exact (Option.some.inj q).symm
          subst ej
          cases hd
          refine ⟨by show j < (n - 0).toNat; rw [Int.sub_zero]; exact hi, fun x H2 hx => ?_⟩
          obtain ⟨rfl, rfl⟩ := hx
          refine ⟨Z', ExtP.refl s', ?_⟩
          have e : (0 : Int) + (((n - 0).toNat : Nat) : Int) - 1 + (j : Nat) * (-1) = ((n.toNat : Nat) : Int) - 1 - (j : Int) := by rw [Int.sub_zero]; omega
          show Rep K Z' (.int _) (.int _)
          rw [e]; exact .int _
      · show (n - 0).toNat ≤ i
        rw [Int.sub_zero]
        simpa [downFrom] using hl
    · cases z
  · cases z
end
end DL
namespace DL
open PySem L2
/-- a list of the module -/
theorem rep_klst {K : PySem.W.Frag} {a : Addr} {its : Array Value} {z : Nat} {w : Array (Option Value)} {Z : Hp} {xs : List V} {ds : List D} (l : K.lookup a = some ⟨.type "list", none, .seq its z, w⟩) (hz : its.size ≤ sizeLine) (v : Vals xs its.toList) (r : RepA K Z xs ds) : Rep K Z (.ref a) (.klst ds) :=
  .klst (.inr ⟨_, its, z, l, rfl, rfl, rfl, hz, v⟩) r
/-- the name of the lambdas of a def -/
def lamq (x : Str) : Str := x ++ ".<locals>." ++ "<lambda>"
/-- the table of a code object of the written part -/
def codeTab (K : PySem.W.Frag) (c : Addr) : Addr := match K.lookup c with
  | some ⟨_, _, .fields vs, _⟩ => match (vs[11]? : Option Value) with
    | some (.ref P) => P
    | _ => 0
  | _ => 0
theorem tb_of {base : Heap} {mg : Str → Option Value} {cs : List (Addr × Addr)} {i : Nat} {c P : Addr} (hB : ∀ p ∈ cs, LamX.TabB base mg p.1 p.2) (h : cs[i]? = some (c, P)) : LamX.TabB base mg c ((cs.map (·.2)).getD i 0) := by
  have e : (cs.map (·.2)).getD i 0 = P := by
    rw [List.getD_eq_getElem?_getD, List.getElem?_map, h]; rfl
  rw [e]
  exact hB _ (List.mem_of_getElem? h)
end DL
namespace DL
open PySem L2
/-! ### equations and steps that no law owns: numbers of a list that pass a test, comprehensions, statements one by one, draws behind a table -/
theorem en_int (i : Int) : (En.en i : D) = .int i := rfl
theorem en_pr {α β : Type} [DecidableEq α] [DecidableEq β] [En α] [En β] (x : α) (y : β) : (En.en (x, y) : D) = .tup [En.en x, En.en y] := rfl
theorem en_ls {α : Type} [DecidableEq α] [En α] (l : List α) : (En.en l : D) = .lst (l.map En.en) := rfl
theorem rng_ok {i : Int} (h : -1000000 ≤ i) (h2 : i ≤ 1000000) : rngOk i = true := by unfold rngOk; simp; omega
def enO {α : Type} [DecidableEq α] [En α] : Option α → D
  | some a => En.en a
  | none => .non
def lastP (p : Nat → Bool) : Nat → Option Nat
  | 0 => none
  | n + 1 => if p n = true then some n else lastP p n
def idxP (p : Nat → Bool) (n : Nat) : List Nat := (List.range n).filter p
theorem idx_last (p : Nat → Bool) : ∀ n, (idxP p n).getLast? = lastP p n
  | 0 => rfl
  | n + 1 => by
    unfold idxP lastP
    rw [List.range_succ, List.filter_append]
    by_cases h : p n = true
    · simp [h]
    · have := idx_last p n
      unfold idxP at this
      simp [h, this]
theorem lastP_some (p : Nat → Bool) (j : Nat) : ∀ n, lastP p n = some j → j < n ∧ p j = true ∧ ∀ k, j < k → k < n → p k = false
  | 0, h => by cases h
  | n + 1, h => by
    unfold lastP at h
    split at h
    · cases h; rename_i q; exact ⟨by omega, q, fun k h1 h2 => by omega⟩
    · rename_i q
      obtain ⟨h1, h2, h3⟩ := lastP_some p j n h
      refine ⟨by omega, h2, fun k h4 h5 => ?_⟩
      by_cases e : k = n
      · rw [e]; simpa using q
      · exact h3 k h4 (by omega)
theorem lastP_ex (p : Nat → Bool) : ∀ n j, j < n → p j = true → ∃ i, lastP p n = some i
  | 0, _, h, _ => by omega
  | n + 1, j, h, hp => by
    unfold lastP
    by_cases q : p n = true
    · exact ⟨n, if_pos q⟩
    · rw [if_neg q]
      by_cases e : j = n
      · rw [e] at hp; exact absurd hp q
      · exact lastP_ex p n j (by omega) hp
theorem at_last {α : Type} (xs : List α) : atI xs (-1) = xs.getLast? := by
  unfold atI ixN
  cases xs with
  | nil => rfl
  | cons x r =>
    rw [if_neg (by omega), if_pos (by simp; omega)]
    show (x :: r)[(((x :: r).length : Int) + -1).toNat]? = _
    rw [List.getLast?_eq_getElem?]
    congr 1
    simp only [List.length_cons]
    omega
def natD (i : Nat) : D := .int (i : Int)
def pdI (p : Nat → Bool) : DV → Bool
  | .p (.int i) => p i.toNat
  | .p (.tup [.int i, _]) => p i.toNat
  | _ => false
def fdI : DV → D
  | .p (.int i) => .int i
  | .p (.tup [.int i, _]) => .int i
  | _ => .non
theorem ints_idx (p : Nat → Bool) (n : Nat) : ((DL.intsFrom 0 n).filter (pdI p)).map fdI = (idxP p n).map natD := by
  unfold DL.intsFrom idxP
  rw [List.filter_map, List.map_map]
  have e1 : (pdI p ∘ fun (i : Nat) => DV.p (.int (0 + (i : Int)))) = p := by
    funext i
    show p (0 + (i : Int)).toNat = p i
    congr 1; omega
  rw [e1]
  refine List.map_congr_left fun i _ => ?_
  show D.int (0 + (i : Int)) = .int i
  congr 1; omega
theorem enum_idx' (p : Nat → Bool) : ∀ (ds : List D) (j : Nat), ((enumD ds j).filter (pdI p)).map fdI = ((List.range' j ds.length).filter p).map natD
  | [], j => rfl
  | d :: ds, j => by
    show ((DV.p (.tup [.int (j : Nat), d]) :: enumD ds (j + 1)).filter (pdI p)).map fdI = _
    rw [List.length_cons, List.range'_succ, List.filter_cons, List.filter_cons]
    have e : pdI p (DV.p (.tup [.int (j : Nat), d])) = p j := rfl
    rw [e]
    by_cases h : p j = true
    · rw [if_pos h, if_pos h, List.map_cons, List.map_cons, enum_idx' p ds (j + 1)]; rfl
    · rw [if_neg h, if_neg h, enum_idx' p ds (j + 1)]
theorem enum_idx (p : Nat → Bool) (ds : List D) : ((enumD ds 0).filter (pdI p)).map fdI = (idxP p ds.length).map natD := by
  rw [enum_idx', ← List.range_eq_range']; rfl
theorem at_en {α : Type} [DecidableEq α] [En α] (l : List α) {i : Int} {x : α} (h0 : 0 ≤ i) (h : l[i.toNat]? = some x) : atI (l.map En.en) i = some (En.en x : D) := atI_nat' h0 (by rw [List.getElem?_map, h]; rfl)
theorem rlenJ (i : Nat) (n : Nat) (j : Int) (d : D) (l : List (Option DV)) (M : List O) (h1 : mVar i ⟨l, M⟩ = some (.ok (.p d) M)) (h2 : dLen M [.p d] = some (.int j)) (g : rngOk j = true) (hj : j.toNat = n) : mRng rng1D (aCons (mCB dLen (aCons (mVar i) aNil)) aNil) ⟨l, M⟩ = some (.ok (DL.intsFrom 0 n) M) := by
  have e1 : mCB dLen (aCons (mVar i) aNil) ⟨l, M⟩ = some (.ok (.p (.int j)) M) := by
    rw [e_cb, e_bnd, e_aCons, e_bnd, h1]
    simp [e_bnd, h2, -e_len]
  rw [e_rng, e_bnd, e_aCons, e_bnd, e1]
  simp [e_bnd, g, hj]
theorem rlen (i : Nat) (n : Nat) (d : D) (l : List (Option DV)) (M : List O) (h1 : mVar i ⟨l, M⟩ = some (.ok (.p d) M)) (h2 : lenD d = some n) (g : n ≤ 1000000) : mRng rng1D (aCons (mCB dLen (aCons (mVar i) aNil)) aNil) ⟨l, M⟩ = some (.ok (DL.intsFrom 0 n) M) := by
  refine rlenJ i n (n : Int) d l M h1 ?_ (rng_ok (by omega) (by omega)) (Int.toNat_natCast n)
  rw [e_len, e_lenp, h2, Option.map_some]
theorem lcs (it : IM) (vs : List Nat) (g : GM) (t e : EM) (s : S) (ds : List DV) (xs : List D) (h : it s = some (.ok ds s.m)) (h2 : compL (wipeL s.l vs) g t e ds [] s.m = some (xs, s.m)) : mLc it vs g t e s = some (.ok (.p (.lst xs)) s.m) := by
  rw [e_lc, e_bnd, h]
  show (match compL (wipeL s.l vs) g t e ds [] s.m with | some (acc, M) => some (Rs.ok (DV.p (D.lst acc)) M) | none => none) = _
  rw [h2]
theorem ix_neg (m : EM) (s : S) (xs : List D) (z : D) (h : atI xs (-1) = some z) (e2 : m s = some (.ok (.p (.lst xs)) s.m)) : mIx m (mUn dNeg (mC (.int 1))) s = some (.ok (.p z) s.m) := by
  rw [e_ix, e_bnd, e2]
  have hneg : dNeg (.int 1) = some (.int (-1)) := rfl
  simp [e_bnd, hneg, h]
theorem runA_ret (n : Nat) (m : EM) (ds : List D) (z : D) (h : m ⟨slotsOf n (ds.map .p), []⟩ = some (.ok (.p z) [])) : runA n (sRet m) ds = some (.ok z) := by
  rw [e_runA, e_sret, e_lift, h]
theorem maxI_idx (p : Nat → Bool) (n i : Nat) (h : lastP p n = some i) : dMaxL (.lst ((idxP p n).map natD)) = some (.int i) := by
  have hne : (idxP p n).map (fun (i : Nat) => (i : Int)) ≠ [] := by
    intro e
    rw [List.map_eq_nil_iff] at e
    rw [← idx_last, e] at h; cases h
  have e1 : (idxP p n).map natD = ((idxP p n).map (fun (i : Nat) => (i : Int))).map .int := by rw [List.map_map]; rfl
  have hm := maxI_mem _ hne
  have hg := maxI_ge ((idxP p n).map (fun (i : Nat) => (i : Int)))
  obtain ⟨h1, h2, h3⟩ := lastP_some _ _ _ h
  have hi : (i : Int) ∈ (idxP p n).map (fun (i : Nat) => (i : Int)) := List.mem_map.mpr ⟨i, List.mem_filter.mpr ⟨List.mem_range.mpr h1, h2⟩, rfl⟩
  obtain ⟨j, hj, ej⟩ := List.mem_map.mp hm
  have hj2 := List.mem_filter.mp hj
  have hle := hg _ hi
  have : j = i := by
    rcases Nat.lt_or_ge i j with q | q
    · have := h3 j q (List.mem_range.mp hj2.1)
      rw [this] at hj2; exact absurd hj2.2 (by decide)
    · omega
  rw [e1]
  unfold dMaxL
  simp only [intsD_map]
  cases hz : (idxP p n).map (fun (i : Nat) => (i : Int)) with
  | nil => exact absurd hz hne
  | cons a l =>
    rw [hz] at ej
    dsimp only
    rw [← ej, this]
def unP : DV → D
  | .p d => d
  | _ => .non
theorem down_succ (n : Nat) : downFrom (n + 1) = .p (.int n) :: downFrom n := by
  unfold downFrom
  rw [List.range_succ_eq_map, List.map_cons, List.map_map]
  congr 1
  · congr 2; omega
  · refine List.map_congr_left fun i _ => ?_
    show DV.p (.int _) = .p (.int _)
    congr 2; simp; omega
def lx {α : Type} (a b : α → Int) (p q : α) : Bool := decide (a p < a q ∨ (a p = a q ∧ b p ≤ b q))
theorem lx_iff {α : Type} {a b : α → Int} {p q : α} : lx a b p q = true ↔ a p < a q ∨ (a p = a q ∧ b p ≤ b q) := decide_eq_true_iff
theorem lx_pw {α : Type} (a b : α → Int) (l : List α) : (l.mergeSort (lx a b)).Pairwise fun p q => lx a b p q = true := by
  refine List.pairwise_mergeSort (fun x y z h1 h2 => ?_) (fun x y => ?_) l
  · rw [lx_iff] at *; omega
  · rw [Bool.or_eq_true, lx_iff, lx_iff]; omega
theorem all_shp {α : Type} [DecidableEq α] [En α] (h : En.dp α ≤ 64) (l : List α) : (l.map En.en).all shp = true := by
  rw [List.all_eq_true]
  intro d hd
  obtain ⟨a, _, rfl⟩ := List.mem_map.mp hd
  exact shp_en a h
theorem revJ (i : Nat) (n : Nat) (j : Int) (d : D) (l : List (Option DV)) (M : List O) (h1 : mVar i ⟨l, M⟩ = some (.ok (.p d) M)) (h2 : dLen M [.p d] = some (.int j)) (g : rngOk j = true) (hj : j.toNat = n) : mRev1 (mCB dLen (aCons (mVar i) aNil)) ⟨l, M⟩ = some (.ok (downFrom n) M) := by
  have e1 : mCB dLen (aCons (mVar i) aNil) ⟨l, M⟩ = some (.ok (.p (.int j)) M) := by
    rw [e_cb, e_bnd, e_aCons, e_bnd, h1]
    simp [e_bnd, h2, -e_len]
  have q3 : revG (.int j) = some (downFrom n) := by
    show (if rngOk j = true then some (downFrom j.toNat) else none) = _
    rw [if_pos g, hj]
  unfold mRev1
  rw [e_itD, e_bnd, e1]
  show (match revG (.int j) with | some ds => some (Rs.ok ds M) | none => none) = _
  rw [q3]
theorem seq_asg (m : EM) (g : GM) (k : SM) (s s1 : S) (d : DV) (M : List O) (h1 : m s = some (.ok d M)) (h2 : g d ⟨s.l, M⟩ = some s1) : sSeq (sAsg m g) k s = k s1 := by
  rw [e_seq, e_asg, e_lift, h1]
  show (match (match g d ⟨s.l, M⟩ with | some s1 => some (Fl.nx, s1) | none => none) with | some (.nx, s1) => k s1 | r => r) = _
  rw [h2]
theorem seq_for (it : IM) (g : GM) (b k : SM) (s s1 : S) (ds : List DV) (r : Fl × S) (h1 : it s = some (.ok ds s.m)) (h2 : loopS g b ds s = some (.nx, s1)) (h3 : k s1 = some r) : sSeq (sFor it g b) k s = some r := by
  rw [e_seq, e_for, e_lift, h1]
  show (match loopS g b ds s with | some (.nx, s1) => k s1 | r => r) = _
  rw [h2]
  exact h3
theorem loop_step (g : GM) (b : SM) (d : DV) (ds : List DV) (s s1 s2 : S) (h1 : g d s = some s1) (h2 : b s1 = some (.nx, s2)) : loopS g b (d :: ds) s = loopS g b ds s2 := by
  rw [loopS_cons, h1]
  show (match b s1 with | none => none | some (.nx, s2) => loopS g b ds s2 | some (.ct, s2) => loopS g b ds s2 | some (.bk, s2) => some (.nx, s2) | some (.rt v, s2) => some (.rt v, s2) | some (.ex c f, s2) => some (.ex c f, s2)) = _
  rw [h2]
theorem map_comp {α β : Type} [DecidableEq α] [En α] [DecidableEq β] [En β] {l : List (Option DV)} {g : GM} {e : EM} {M : List O} (f : α → β) (ds : List α) (h : ∀ a, ∃ s1 : S, g (.p (En.en a)) ⟨l, M⟩ = some s1 ∧ s1.m = M ∧ e s1 = some (.ok (.p (En.en (f a))) M)) (hl : ds.length ≤ 1000000) : compL l g tYesM e ((ds.map En.en).map .p) [] M = some ((ds.map f).map En.en, M) := by
  have main : ∀ (ds : List α) (acc : List D), acc.length + ds.length ≤ 1000000 → compL l g tYesM e ((ds.map En.en).map .p) acc M = some (acc ++ (ds.map f).map En.en, M) := by
    intro ds
    induction ds with
    | nil => intro acc _; simp [compL]
    | cons a ds ih =>
      intro acc hn
      simp only [List.length_cons] at hn
      obtain ⟨s1, h1, h2, h3⟩ := h a
      show compL _ _ _ _ (.p (En.en a) :: (ds.map En.en).map .p) acc M = _
      unfold compL
      rw [h1]
      have q : tYesM s1 = some (.ok (.p (.bl true)) s1.m) := rfl
      dsimp only
      rw [q]
      dsimp only
      have q2 : e ⟨s1.l, s1.m⟩ = some (.ok (.p (En.en (f a))) M) := h3
      rw [q2]
      dsimp only
      rw [if_pos (by omega), ih _ (by simp; omega)]
      simp
  have := main ds [] (by simpa using hl)
  simpa using this
theorem lcsD (i : Nat) (vs : List Nat) (g : GM) (e : EM) (l : List (Option DV)) (M : List O) (ds xs : List D) (h : gv l i = some (.p (.lst ds))) (h2 : compL (wipeL l vs) g tYesM e (ds.map .p) [] M = some (xs, M)) : mLc (mItD itL (mVar i)) vs g tYesM e ⟨l, M⟩ = some (.ok (.p (.lst xs)) M) := by
  refine lcs _ vs g _ e ⟨l, M⟩ (ds.map .p) xs ?_ h2
  simp [e_bnd, h]
theorem bit_sub (N m : Nat) : ∀ k, (N - (N &&& m)).testBit k = (N.testBit k && !m.testBit k)
  | 0 => by
    rw [Nat.testBit_zero, Nat.testBit_zero, Nat.testBit_zero]
    have h1 : (N &&& m) % 2 = 1 ↔ N % 2 = 1 ∧ m % 2 = 1 := Nat.and_mod_two_eq_one
    have h2 : N &&& m ≤ N := Nat.and_le_left
    rw [Bool.eq_iff_iff, Bool.and_eq_true, decide_eq_true_eq, decide_eq_true_eq, Bool.not_eq_true', decide_eq_false_iff_not]
    omega
  | k + 1 => by
    rw [Nat.testBit_succ, Nat.testBit_succ, Nat.testBit_succ, ← bit_sub (N / 2) (m / 2) k]
    have h1 : (N &&& m) % 2 = 1 ↔ N % 2 = 1 ∧ m % 2 = 1 := Nat.and_mod_two_eq_one
    have h2 : N &&& m ≤ N := Nat.and_le_left
    have h3 : (N &&& m) / 2 = N / 2 &&& m / 2 := Nat.and_div_two
    rw [← h3]
    congr 1
    omega
theorem bor_nat (N m : Nat) : Builtin.bitOr (N : Int) (m : Int) = ((N ||| m : Nat) : Int) := by
  unfold Builtin.bitOr Builtin.bitAnd Builtin.bitNot
  have h1 : decide (0 ≤ -(N : Int) - 1) = false := by simp; omega
  have h2 : decide (0 ≤ -(m : Int) - 1) = false := by simp; omega
  rw [h1, h2]
  dsimp only
  have e1 : (-(-(N : Int) - 1) - 1).toNat = N := by omega
  have e2 : (-(-(m : Int) - 1) - 1).toNat = m := by omega
  rw [e1, e2]
  omega
theorem bandn_nat (N m : Nat) : Builtin.bitAnd (N : Int) (Builtin.bitNot (m : Int)) = ((N - (N &&& m) : Nat) : Int) := by
  unfold Builtin.bitAnd Builtin.bitNot
  have h1 : decide (0 ≤ (N : Int)) = true := by simp
  have h2 : decide (0 ≤ -(m : Int) - 1) = false := by simp; omega
  rw [h1, h2]
  dsimp only
  have e2 : (-(-(m : Int) - 1) - 1).toNat = m := by omega
  rw [e2, Int.toNat_natCast]
  have h2 : N &&& m ≤ N := Nat.and_le_left
  omega
theorem band_nat (N m : Nat) : Builtin.bitAnd (N : Int) (m : Int) = ((N &&& m : Nat) : Int) := by
  unfold Builtin.bitAnd
  have h1 : decide (0 ≤ (N : Int)) = true := by simp
  have h2 : decide (0 ≤ (m : Int)) = true := by simp
  rw [h1, h2]
  rfl
theorem shl_eq {i j : Int} (h0 : 0 ≤ j) (h1 : j ≤ 100000) (h2 : i.natAbs < 2 ^ 100000) : dShl (.int i) (.int j) = some (.int (i * 2 ^ j.toNat)) := by
  unfold dShl dI
  exact if_pos ⟨h0, h1, intBits_le_iff.mpr h2⟩
theorem shl_one {j : Int} (h0 : 0 ≤ j) (h1 : j ≤ 100000) : dShl (.int 1) (.int j) = some (.int ((2 ^ j.toNat : Nat) : Int)) := by
  rw [shl_eq h0 h1 (Nat.one_lt_two_pow (by decide)), Int.one_mul]
  congr 2
theorem mul_eq {i j : Int} (h : mulOk i j = true) : dMul (.int i) (.int j) = some (.int (i * j)) := if_pos h
theorem div_eq {i j : Int} (h : 0 < j ∧ j < 18446744073709551616) : dDiv (.int i) (.int j) = some (.int (i / j)) := if_pos h
theorem filter_comp {α β : Type} [DecidableEq α] [En α] [DecidableEq β] [En β] {l : List (Option DV)} {g : GM} {t e : EM} {M : List O} (f : α → β) (q : α → Bool) (ds : List α) (h : ∀ a ∈ ds, ∃ s1 : S, g (.p (En.en a)) ⟨l, M⟩ = some s1 ∧ s1.m = M ∧ t s1 = some (.ok (.p (.bl (q a))) M) ∧ e s1 = some (.ok (.p (En.en (f a))) M)) (hl : ds.length ≤ 1000000) : compL l g t e ((ds.map En.en).map .p) [] M = some (((ds.filter q).map f).map En.en, M) := by
  have main : ∀ (ds : List α) (acc : List D), (∀ a ∈ ds, ∃ s1 : S, g (.p (En.en a)) ⟨l, M⟩ = some s1 ∧ s1.m = M ∧ t s1 = some (.ok (.p (.bl (q a))) M) ∧ e s1 = some (.ok (.p (En.en (f a))) M)) → acc.length + ds.length ≤ 1000000 → compL l g t e ((ds.map En.en).map .p) acc M = some (acc ++ ((ds.filter q).map f).map En.en, M) := by
    intro ds
    induction ds with
    | nil => intro acc _ _; simp [compL]
    | cons a ds ih =>
      intro acc h hn
      simp only [List.length_cons] at hn
      obtain ⟨s1, h1, h2, h3, h4⟩ := h a List.mem_cons_self
      have ih := fun acc hn => ih acc (fun b hb => h b (List.mem_cons_of_mem _ hb)) hn
      show compL _ _ _ _ (.p (En.en a) :: (ds.map En.en).map .p) acc M = _
      unfold compL
      rw [h1]
      dsimp only
      rw [h3]
      cases hq : q a with
      | true =>
        dsimp only
        have q2 : e ⟨s1.l, M⟩ = some (.ok (.p (En.en (f a))) M) := by rw [← h2] at h4 ⊢; exact h4
        rw [q2]
        dsimp only
        rw [if_pos (by omega), ih _ (by simp; omega)]
        simp [hq]
      | false =>
        dsimp only
        rw [ih _ (by omega)]
        simp [hq]
  have := main ds [] h (by simpa using hl)
  simpa using this
def intL (cells : List Int) : O := .lst (cells.map fun z => .p (.int z))
theorem take_raw {k c : Nat} {i : Int} {cells : List Int} {M : List O} (hk : M[k]? = some (.lst [.p (.int i), .o c])) (hc : M[c]? = some (intL cells)) (kc : k ≠ c) (hi : 0 ≤ i) (ne : cells ≠ []) (nn : ∀ z ∈ cells, 0 ≤ z) (most : Int) (hm : most < 18446744073709551616) : ∃ r M', takeM [.o k, .p (.int most)] M = some (.ok (.p (.int r)) M') ∧ (M' = M ∨ (∃ cells', M' = M.set c (intL cells') ∧ cells' ≠ [] ∧ ∀ z ∈ cells', 0 ≤ z) ∨ M' = M.set k (.lst [.p (.int (i + 1)), .o c])) ∧ (most < 1 → r = 0) ∧ (1 ≤ most → 0 ≤ r ∧ r < most) := by
  by_cases h1 : most < 1
  · refine ⟨0, M, ?_, .inl rfl, fun _ => rfl, fun h2 => by omega⟩
    simp [e_bnd, e_seq, e_lift, e_runA, e_runB, takeM, takeB, h1, dropM_len]
  · have hl : 0 < cells.length := List.length_pos_iff.mpr ne
    have hl' : (0 : Int) < (cells.length : Int) := by omega
    have a0 : 0 ≤ i % (cells.length : Int) := Int.emod_nonneg _ (by omega)
    have a1 : i % (cells.length : Int) < (cells.length : Int) := Int.emod_lt_of_pos _ hl'
    have aN : (i % (cells.length : Int)).toNat < cells.length := by omega
    have hg := atI_nat' (xs := cells.map fun z => DV.p (.int z)) a0 (get_map aN)
    have cn : 0 ≤ cells[(i % (cells.length : Int)).toNat] := nn _ (List.getElem_mem aN)
    generalize hz : cells[(i % (cells.length : Int)).toNat] = z at hg cn
    have m0 : 0 < most := by omega
    unfold intL at hc
    by_cases h2 : 1000000000000000000 ≤ z
    · refine ⟨z % most, M.set c (intL (cells.set (i % (cells.length : Int)).toNat (z / most))), ?_, .inr (.inl ⟨_, rfl, by simpa using ne, ?_⟩), fun h3 => absurd h3 h1, fun _ => ⟨Int.emod_nonneg _ (by omega), Int.emod_lt_of_pos _ m0⟩⟩
      · have hs := setL_ok (M := M) (n := c) (d := .p (.int (z / most))) hc a0 (by rw [List.length_map]; exact a1)
        unfold intL
        simp [e_bnd, e_seq, e_lift, e_runA, e_runB, takeM, takeB, h1, hk, hc, atI0, atI1, hl, hl', hg, h2, e_set, e_setK, m0, hm, hs, dropM_len]
      · intro y hy
        rcases List.mem_or_eq_of_mem_set hy with q | q
        · exact nn y q
        · rw [q]; exact Int.ediv_nonneg cn (by omega)
    · have hs := setL_ok (M := M) (n := k) (d := .p (.int (i + 1))) (j := 0) hk (by decide) (by simp)
      have hk' : (M.set k (.lst [DV.p (.int (i + 1)), .o c]))[k]? = some (.lst [.p (.int (i + 1)), .o c]) := by
        rw [List.getElem?_set_self (List.getElem?_eq_some_iff.mp hk).1]
      refine ⟨((((z * 48271 + (i + 1) * 69621) % 2147483647) * 16807 + (i + 1) * 7919) % 1000000007) / 7 % most, M.set k (.lst [.p (.int (i + 1)), .o c]), ?_, .inr (.inr rfl), fun h3 => absurd h3 h1, fun _ => ⟨Int.emod_nonneg _ (by omega), Int.emod_lt_of_pos _ m0⟩⟩
      simp [e_bnd, e_seq, e_lift, e_runA, e_runB, takeM, takeB, h1, hk, hc, atI0, atI1, hl, hl', hg, h2, e_set, e_setK, m0, hm, hs, hk', dropM_len, mulOkR]
structure DB (T : O) (n : Nat) (sv : DV) (B : List O) : Prop where
  len : B.length = n
  tb : B[0]? = some T
  cl : B.all (closed n) = true
  ex : ∃ (k c : Nat) (i : Int) (cells : List Int), sv = .o k ∧ k ≠ 0 ∧ c ≠ 0 ∧ B[k]? = some (.lst [.p (.int i), .o c]) ∧ B[c]? = some (intL cells) ∧ k ≠ c ∧ 0 ≤ i ∧ cells ≠ [] ∧ ∀ z ∈ cells, 0 ≤ z
theorem w_asgE (m : EM) (i : Nat) (K : SM) (s : S) (d : DV) (M : List O) (P : Fl → S → Prop) (h1 : m s = some (.ok d M)) (h2 : wpS (K ⟨s.l.set i (some d), M⟩) P) : wpS (sSeq (sAsg m (gN i)) K s) P := by
  rw [seq_asg m (gN i) K s ⟨s.l.set i (some d), M⟩ d M h1 rfl]
  exact h2
theorem w_asgT (m : EM) (i : Nat) (K : SM) (s : S) (P : Fl → S → Prop) (h : wpB (m s) fun d M => wpS (K ⟨s.l.set i (some d), M⟩) P) : wpS (sSeq (sAsg m (gN i)) K s) P := by
  obtain ⟨d, M, e, h⟩ := h
  exact w_asgE m i K s d M P e h
theorem w_ifE (c : EM) (a K : SM) (s : S) (M : List O) (P : Fl → S → Prop) (h1 : c s = some (.ok (.p (.bl false)) M)) (h2 : wpS (K ⟨s.l, M⟩) P) : wpS (sSeq (sIf c a sNil) K s) P := by
  have e : sIf c a sNil s = some (.nx, ⟨s.l, M⟩) := by
    rw [e_sif, e_lift, h1]
    rfl
  rw [e_seq, e]
  exact h2
theorem w_ifZ (c : EM) (a : SM) (s : S) (M : List O) (P : Fl → S → Prop) (h1 : c s = some (.ok (.p (.bl false)) M)) (h2 : P .nx ⟨s.l, M⟩) : wpS (sIf c a sNil s) P := by
  have e : sIf c a sNil s = some (.nx, ⟨s.l, M⟩) := by
    rw [e_sif, e_lift, h1]
    rfl
  rw [e]
  exact ⟨_, _, rfl, rfl, h2⟩
theorem reprB (b : Bool) : ∃ z, dRepr (.bl b) = some z ∧ eqD z z = some true := by
  have := Sm.repr (Sm.bl (n := 0) (w := 5) (i := b) (Nat.le_refl _)) (by decide) (by decide)
  exact ⟨_, this, by rw [e_eqSS]; simp⟩
def okI (q : Int → Bool) (k : Nat) : List Int := ((List.range k).map fun (i : Nat) => (i : Int)).filter q
theorem ints_map (k : Nat) : DL.intsFrom 0 k = (((List.range k).map fun (i : Nat) => (i : Int)).map En.en).map DV.p := by
  unfold DL.intsFrom
  rw [List.map_map, List.map_map]
  refine List.map_congr_left fun i _ => ?_
  show DV.p (.int (0 + (i : Int))) = .p (.int (i : Int))
  congr 2; omega
theorem okI_mem (q : Int → Bool) (m : Int) (u : Int) (h0 : 0 ≤ u) (h : u < m) : decide (u ∈ okI q m.toNat) = q u := by
  rw [Bool.eq_iff_iff, decide_eq_true_eq]
  unfold okI
  rw [List.mem_filter, List.mem_map]
  constructor
  · exact fun h => h.2
  · exact fun hq => ⟨⟨u.toNat, List.mem_range.mpr (by omega), by omega⟩, hq⟩
theorem rng_m (m : Int) (i : Nat) (l : List (Option DV)) (M : List O) (h : gv l i = some (.p (.int m))) (h0 : 0 ≤ m ∧ m ≤ 4) : mRng rng1D (aCons (mVar i) aNil) ⟨l, M⟩ = some (.ok (DL.intsFrom 0 m.toNat) M) := by
  have g := rng_ok (i := m) (by omega) (by omega)
  simp [e_bnd, h, g]
theorem callB2 (f : List DV → List O → Option (Rs DV)) (i j : Nat) (l : List (Option DV)) (M : List O) (x y : D) (r : List D) (h1 : gv l i = some (.p x)) (h2 : gv l j = some (.p y)) (e : f [.p x, .p y] M = some (.ok (.p (.lst r)) M)) : mItD itL (mCallB 2 f (aCons (mVar i) (aCons (mVar j) aNil))) ⟨l, M⟩ = some (.ok (r.map .p) M) := by
  simp [e_bnd, h1, h2, e]
theorem runB_ret (n : Nat) (m : EM) (ds : List DV) (M : List O) (z : D) (h : m ⟨slotsOf n ds, M⟩ = some (.ok (.p z) M)) : runB n (sRet m) ds M = some (.ok (.p z) M) := by
  rw [e_runB, e_sret, e_lift, h]
  show some (Rs.ok (DV.p z) (dropM M.length (DV.p z) M)) = _
  rw [dropM_len rfl]
theorem callA1 (f : MA) (i : Nat) (l : List (Option DV)) (M : List O) (x : D) (r : List D) (h1 : gv l i = some (.p x)) (e : f [x] = some (.ok (.lst r))) : mItD itL (mCallA 1 f (aCons (mVar i) aNil)) ⟨l, M⟩ = some (.ok (r.map .p) M) := by
  simp [e_bnd, h1, e]
theorem w_call2 (f : List DV → List O → Option (Rs DV)) (i : Nat) (me : EM) (l : List (Option DV)) (M : List O) (d e : DV) (Q : DV → List O → Prop) (h1 : gv l i = some d) (h2 : me ⟨l, M⟩ = some (.ok e M)) (h : wpB (f [d, e] M) Q) : wpB (mCallB 2 f (aCons (mVar i) (aCons me aNil)) ⟨l, M⟩) Q := by
  obtain ⟨v, M2, e1, q⟩ := h
  refine ⟨v, M2, ?_, q⟩
  simp [e_bnd, h1, h2, e1]
theorem w_call1 (f : List DV → List O → Option (Rs DV)) (i : Nat) (l : List (Option DV)) (M : List O) (d : DV) (Q : DV → List O → Prop) (h1 : gv l i = some d) (h : wpB (f [d] M) Q) : wpB (mCallB 1 f (aCons (mVar i) aNil) ⟨l, M⟩) Q := by
  obtain ⟨v, M2, e1, q⟩ := h
  refine ⟨v, M2, ?_, q⟩
  simp [e_bnd, h1, e1]
theorem callA2 (f : MA) (i j : Nat) (l : List (Option DV)) (M : List O) (x y d : D) (h1 : gv l i = some (.p x)) (h2 : gv l j = some (.p y)) (e : f [x, y] = some (.ok d)) : mCallA 2 f (aCons (mVar i) (aCons (mVar j) aNil)) ⟨l, M⟩ = some (.ok (.p d) M) := by
  simp [e_bnd, h1, h2, e]
theorem eq_en {α : Type} [DecidableEq α] [En α] (h : En.dp α ≤ 64) (a : α) : eqD (En.en a) (En.en a) = some true := eqD_refl (En.ok a) (Nat.le_trans (En.dpl a) h)
theorem w_forE (it : IM) (g : GM) (b K : SM) (s s1 : S) (ds : List DV) (P : Fl → S → Prop) (h1 : it s = some (.ok ds s.m)) (h2 : loopS g b ds s = some (.nx, s1)) (h3 : wpS (K s1) P) : wpS (sSeq (sFor it g b) K s) P := by
  obtain ⟨f, s2, e, nn, p⟩ := h3
  exact ⟨f, s2, seq_for it g b K s s1 ds _ h1 h2 e, nn, p⟩
theorem w_call3 (f : List DV → List O → Option (Rs DV)) (i j : Nat) (x : D) (l : List (Option DV)) (M : List O) (d e : DV) (Q : DV → List O → Prop) (h1 : gv l i = some d) (h2 : gv l j = some e) (h : wpB (f [d, e, .p x] M) Q) : wpB (mCallB 3 f (aCons (mVar i) (aCons (mVar j) (aCons (mC x) aNil))) ⟨l, M⟩) Q := by
  obtain ⟨v, M2, e1, q⟩ := h
  refine ⟨v, M2, ?_, q⟩
  simp [e_bnd, h1, h2, e1]
theorem wp_takeT {T : O} {n : Nat} {sv : DV} {B Rr : List O} {most : Int} {P : DV → List O → Prop} (h : DB T n sv B) (hm : most < 18446744073709551616) (k : ∀ r B', DB T n sv B' → (most < 1 → r = 0) → (1 ≤ most → 0 ≤ r ∧ r < most) → P (.p (.int r)) (B' ++ Rr)) : wpB (takeM [sv, .p (.int most)] (B ++ Rr)) P := by
  obtain ⟨kk, c, i, cells, rfl, k0, c0, hk, hc, kc, hi, ne, nn⟩ := h.ex
  have lk := (List.getElem?_eq_some_iff.mp hk).1
  have lc := (List.getElem?_eq_some_iff.mp hc).1
  obtain ⟨r, M', e, d, b0, b⟩ := take_raw (M := B ++ Rr) (by rw [List.getElem?_append_left lk]; exact hk) (by rw [List.getElem?_append_left lc]; exact hc) kc hi ne nn most hm
  refine ⟨_, _, e, ?_⟩
  rcases d with rfl | ⟨cells', rfl, ne', nn'⟩ | rfl
  · exact k r B h b0 b
  · rw [List.set_append_left _ _ lc]
    exact k r _ ⟨by rw [List.length_set]; exact h.len, by rw [List.getElem?_set_ne c0]; exact h.tb, all_set h.cl (closed_ints n _) c, kk, c, i, cells', rfl, k0, c0, by rw [List.getElem?_set_ne kc.symm]; exact hk, by rw [List.getElem?_set_self lc], kc, hi, ne', nn'⟩ b0 b
  · rw [List.set_append_left _ _ lk]
    exact k r _ ⟨by rw [List.length_set]; exact h.len, by rw [List.getElem?_set_ne k0]; exact h.tb, all_set h.cl (show closed n (.lst [.p (.int (i + 1)), .o c]) = true from (List.all_eq_true.mp h.cl _ (List.mem_of_getElem? hk) : closed n (.lst [.p (.int i), .o c]) = true)) kk, kk, c, i + 1, cells, rfl, k0, c0, by rw [List.getElem?_set_self lk], by rw [List.getElem?_set_ne kc]; exact hc, kc, by omega, ne, nn⟩ b0 b
theorem state_T (P : Addr) (q : Str) (ns : List Int) (hl : ns.length ≤ 63) : ∃ n sv B, stateM [.p (.scr (ns.map .int))] [.tbl P q] = some (.ok sv B) ∧ DB (.tbl P q) n sv B := by
  have hc : slE (.scr (ns.map D.int)) none (some 63) = some (.lst (ns.map D.int)) := by
    show some (D.lst (cutD (ns.map D.int) none (some 63))) = _
    rw [cut63 _ (by simpa using hl)]
  have hm : compL [some (.p (.scr (ns.map .int))), none, none] (gN 2) tYesM (mCB (g1 dAbs) (aCons (mVar 2) aNil)) ((ns.map D.int).map DV.p) [] [.tbl P q] = some ((ns.map iabs).map D.int, [.tbl P q]) := by
    rw [compL_map (f := fun d => match d with | .p (.int i) => .int (iabs i) | _ => .non) ((ns.map D.int).map DV.p) (fun d hd => by
      rw [List.map_map] at hd
      obtain ⟨i, _, rfl⟩ := List.mem_map.mp hd
      exact ⟨_, rfl, rfl, by simp [e_bnd, iabs]⟩) (by simp; omega)]
    simp
  have e0 : (ns.map iabs).map D.int = [] → ns = [] := by simp
  have dr : ∀ (j : Nat) (M : List O), 1 ≤ j → dropM 1 (.o j) M = M := fun j M hj => by
    unfold dropM
    have : ltO 1 (.o j) = false := by simp [ltO]; omega
    rw [this]; rfl
  by_cases he : ns = []
  · refine ⟨4, .o 3, [.tbl P q, .lst [], .lst [.p (.int 0)], .lst [.p (.int 0), .o 2]], ?_, rfl, rfl, rfl, 3, 2, 0, [0], rfl, by decide, by decide, rfl, rfl, by decide, by decide, by simp, by simp⟩
    subst he
    simp [e_bnd, e_seq, e_lift, e_runA, e_runB, stateM, stateB, hc, hm, dr]
    rfl
  · refine ⟨3, .o 2, [.tbl P q, .lst ((ns.map iabs).map fun z => .p (.int z)), .lst [.p (.int 0), .o 1]], ?_, rfl, rfl, ?_, 2, 1, 0, ns.map iabs, rfl, by decide, by decide, rfl, rfl, by decide, by decide, by simpa using he, ?_⟩
    · generalize hA : (ns.map iabs) = A at hm
      have hA' : A ≠ [] := by rw [← hA]; simpa using he
      have hA2 : ¬ A.length = 0 := by
        intro h; exact hA' (List.length_eq_zero_iff.mp h)
      generalize hB : ns.map D.int = B at hm hc
      simp [e_bnd, e_seq, e_lift, e_runA, e_runB, stateM, stateB, hc, hm, dr, hA', hA2]
    · have := closed_ints 3 (ns.map iabs)
      simp only [List.all_cons, List.all_nil, this]
      rfl
    · intro z hz
      obtain ⟨y, _, rfl⟩ := List.mem_map.mp hz
      unfold iabs
      split <;> omega
end DL
namespace DL
open PySem L2
section
variable {K : PySem.W.Frag} {X : Cx} {W : WX} {e a b c tg : Expr} {es : List Expr} {pos : Pos}
/-! ### a list behind a list: a new own list -/
def lsO (M : List O) : DV → Option (List DV)
  | .p (.lst xs) => some (xs.map .p)
  | .p (.klst xs) => some (xs.map .p)
  | .o n => match M[n]? with
    | some (.lst ds) => some ds
    | _ => none
  | _ => none
theorem ls_rep {Z H : Hp} {I : List Addr} {M : List O} {x : V} {d : DV} {ds : List DV} (w : Wf K Z H I M) (h : RepV K Z I x d) (e : lsO M d = some ds) : ∃ a xs, x = .ref a ∧ SqL K H a xs ∧ RepVs K Z I xs ds := by
  cases d with
  | p d =>
    have h : Rep K Z x d := h
    cases h with
    | lst h1 h2 => cases e; exact ⟨_, _, rfl, .inl (same_rd w.sub h1), allP_map h2⟩
    | klst h1 h2 => cases e; exact ⟨_, _, rfl, same_l w.sub h1, allP_map h2⟩
    | _ => cases e
  | o n =>
    obtain ⟨a, ha, rfl⟩ := h
    unfold lsO at e
    cases z : M[n]? with
    | none => simp only [z] at e; cases e
    | some o =>
      simp only [z] at e
      cases o with
      | lst ys =>
        cases e
        obtain ⟨_, xs, h1, h2⟩ := w.ob n a _ ha z (by intro z; cases z)
        exact ⟨a, xs, rfl, SqL.of h1, h2⟩
      | _ => cases e
def mCatO (m n : EM) : EM := bnd m fun d => bnd n fun e s => match lsO s.m d, lsO s.m e with
  | some xs, some ys => if xs.length + ys.length ≤ 1000000 then some (.ok (.o s.m.length) (s.m ++ [.lst (xs ++ ys)])) else none
  | _, _ => none
theorem so_catO {ta tb : TE} {m n : EM} (ha : Sound K W (RepV K) ta m) (hb : Sound K W (RepV K) tb n) : Sound K W (RepV K) (tOp (rCatL K) ta tb) (mCatO m n) := ⟨fun σ H s Z I r0 Q w rs e p => by
  refine ha.bnd w rs e (p.x) fun d v M1 Z1 H1 I1 w1 rs1 x1 q1 e1 => ?_
  have p1 := p.mono x1
  refine hb.bnd (s := ⟨s.l, M1⟩) w1 rs1 e1 (p1.x) fun d2 v2 M2 Z2 H2 I2 w2 rs2 x2 q2 e2 => ?_
  have p2 := p1.mono x2
  have e3 : (match lsO M2 d, lsO M2 d2 with
    | some xs, some ys => if xs.length + ys.length ≤ 1000000 then some (Rs.ok (DV.o M2.length) (M2 ++ [.lst (xs ++ ys)])) else none
    | _, _ => none) = some r0 := e2
  have q1' : RepV K Z2 I2 v d := RepV.mono x2 q1
  cases z1 : lsO M2 d with
  | none => rw [z1] at e3; cases e3
  | some xs =>
  cases z2 : lsO M2 d2 with
  | none => rw [z1, z2] at e3; cases e3
  | some ys =>
  rw [z1, z2] at e3
  dsimp only at e3
  split at e3
  · rename_i hl
    obtain rfl := Option.some.inj e3
    obtain ⟨a, us, rfl, h1, r1⟩ := ls_rep w2 q1' z1
    obtain ⟨b, ws, rfl, h2, r2⟩ := ls_rep w2 q2 z2
    refine ⟨a, b, us, ws, rfl, rfl, h1, h2, by rw [paired_len r1, paired_len r2]; exact size_le hl, fun l hp => ?_⟩
    have y := ext_new (I := I2) (o := .lst (us ++ ws)) w2.sub hp
    refine p2 _ Z2 _ (I2 ++ [l]) (w2.newO hp ⟨us ++ ws, upd_same, paired_imp (fun _ _ q => RepV.mono y q) (paired_app r1 r2)⟩) y ⟨l, ?_, rfl⟩
    rw [← w2.len, List.getElem?_append_right (Nat.le_refl _), Nat.sub_self]
    rfl
  · cases e3⟩
theorem de_catO {ta tb : TE} {m n : EM} (ha : DE K X W a ta m) (hb : DE K X W b tb n) : DE K X W (.BinOp a .Add b pos) (tOp (rCatL K) ta tb) (mCatO m n) :=
  ⟨ha.k, by rw [← ha.k]; exact pe_op op_catL ha.pe hb.pe, so_catO ha.so hb.so⟩
@[simp] theorem e_catO (m n : EM) (s : S) : mCatO m n s = (bnd m fun d => bnd n fun e s => match lsO s.m d, lsO s.m e with
  | some xs, some ys => if xs.length + ys.length ≤ 1000000 then some (.ok (.o s.m.length) (s.m ++ [.lst (xs ++ ys)])) else none
  | _, _ => none) s := rfl
@[simp] theorem e_lsP (M : List O) (xs : List D) : lsO M (.p (.lst xs)) = some (xs.map .p) := rfl
@[simp] theorem e_lsK (M : List O) (xs : List D) : lsO M (.p (.klst xs)) = some (xs.map .p) := rfl
@[simp] theorem e_lsO (M : List O) (n : Nat) : lsO M (.o n) = (match M[n]? with | some (.lst ds) => some ds | _ => none) := rfl
end
end DL
namespace DL
open PySem L2 PySem.W
section
variable {K : PySem.W.Frag} {X : Cx} {W : WX} {e a b c tg : Expr} {es : List Expr} {pos p p2 kp : Pos}
/-! ### sum(xs) of ints; min and max with default= -/
def dSum : D → Option D
  | .lst ds => (intsD ds).map fun ns => .int ns.sum
  | _ => none
theorem cd_sum (hc : X.calm = true) : CallD K X (.builtin "sum") (rSum K) (g1 dSum) := ⟨fun k => by rw [← k]; exact cr_sum hc, g1_ok fun x d c Z H Q s hx hg p => by
  unfold dSum at hg
  split at hg
  · rename_i ds
    cases q : intsD ds with
    | none => rw [q] at hg; cases hg
    | some ns =>
      rw [q] at hg; cases hg
      cases hx with
      | lst h1 h2 =>
        have e := intsD_rep h2 q
        exact ⟨_, ns, rfl, by rw [← e]; exact .inl (same_rd s h1), p _ Z H (ExtP.refl s) (.int _)⟩
  · cases hg⟩
@[simp] theorem e_sumI (ns : List Int) : dSum (.lst (ns.map .int)) = some (.int ns.sum) := by
  show (intsD (ns.map .int)).map _ = _
  rw [intsD_map]; rfl
def minDf (ns : List Int) (j : Int) : Int := match ns with
  | [] => j
  | n :: r => r.foldl min n
def maxDf (ns : List Int) (j : Int) : Int := match ns with
  | [] => j
  | n :: r => r.foldl max n
theorem alike_ints (ns : List Int) : AlikeAll (ns.map PyData.int) := by
  refine ⟨fun a ha b hb => ?_, fun a ha => ?_⟩
  · obtain ⟨i, _, rfl⟩ := List.mem_map.mp ha
    obtain ⟨j, _, rfl⟩ := List.mem_map.mp hb
    simp [alike]
  · obtain ⟨i, _, rfl⟩ := List.mem_map.mp ha
    intro z; cases z
theorem depth_ints : ∀ ns : List Int, PyData.depthAll (ns.map PyData.int) = 0
  | [] => rfl
  | n :: r => by
    show max (PyData.depth (.int n)) (PyData.depthAll (r.map PyData.int)) = 0
    rw [depth_ints r]; rfl
def rBest (K : PySem.W.Frag) (g : List Int → Int → Int) : List V → List V → Hp → VK → Prop := fun vs zs H Q => ∃ (a : Addr) (ns : List Int) (j : Int), vs = [.ref a] ∧ zs = [.int j] ∧ SqL K H a (ns.map V.int) ∧ Q (.int (g ns j)) H
theorem cr_minDf (hc : X.calm = true) (hu : X.A.units + 67 < cLine) : CallRK X (.builtin "min") [Str.ofString "default"] (rBest X.K minDf) := by
  intro pins s σ H vs zs us ws Q I r rz h
  obtain ⟨a, ns, j, rfl, rfl, hs, q⟩ := h
  obtain ⟨its, rv, hl, _⟩ := I.list hs
  rw [Vals.ref1 r]
  obtain ⟨d, rfl, rd⟩ := rz.one
  refine PySem.W.min_list_default (I.ok.hd hc) hl.isList (PyProof.Rows.ints_readAll s.heap rv.ints) (alike_ints ns) (by rw [depth_ints]; omega) (fun h0 h' tk hk => ?_) (fun y ys i v h' tk bs he hv hr hk => ?_)
  · have : ns = [] := by simpa using h0
    subst this
    exact ⟨.int j, H, I.kept hk, rd, q⟩
  · cases ns with
    | nil => cases he
    | cons n r =>
      rw [List.map_cons] at he
      cases he
      rw [minD_ints] at hr
      refine ⟨.int _, H, I.kept hk, ?_, q⟩
      cases hr
      exact ⟨_, rfl⟩
theorem cr_maxDf (hc : X.calm = true) (hu : X.A.units + 67 < cLine) : CallRK X (.builtin "max") [Str.ofString "default"] (rBest X.K maxDf) := by
  intro pins s σ H vs zs us ws Q I r rz h
  obtain ⟨a, ns, j, rfl, rfl, hs, q⟩ := h
  obtain ⟨its, rv, hl, _⟩ := I.list hs
  rw [Vals.ref1 r]
  obtain ⟨d, rfl, rd⟩ := rz.one
  refine PySem.W.max_list_default (I.ok.hd hc) hl.isList (PyProof.Rows.ints_readAll s.heap rv.ints) (alike_ints ns) (by rw [depth_ints]; omega) (fun h0 h' tk hk => ?_) (fun y ys i v h' tk bs he hv hr hk => ?_)
  · have : ns = [] := by simpa using h0
    subst this
    exact ⟨.int j, H, I.kept hk, rd, q⟩
  · cases ns with
    | nil => cases he
    | cons n r =>
      rw [List.map_cons] at he
      cases he
      rw [maxD_ints] at hr
      refine ⟨.int _, H, I.kept hk, ?_, q⟩
      cases hr
      exact ⟨_, rfl⟩
def bestD (g : List Int → Int → Int) : D → D → Option D
  | .lst ds, .int j => (intsD ds).map fun ns => .int (g ns j)
  | _, _ => none
def mBestDf (g : List Int → Int → Int) (m n : EM) : EM := bnd m (pur fun d => bnd n (pur fun z => ret (bestD g d z)))
@[simp] theorem e_best (g : List Int → Int → Int) (m n : EM) (s : S) : mBestDf g m n s = (bnd m (pur fun d => bnd n (pur fun z => ret (bestD g d z)))) s := rfl
@[simp] theorem e_bestI (g : List Int → Int → Int) (ns : List Int) (j : Int) : bestD g (.lst (ns.map .int)) (.int j) = some (.int (g ns j)) := by
  show (intsD (ns.map .int)).map _ = _
  rw [intsD_map]; rfl
theorem so_best {g : List Int → Int → Int} {te tz : TE} {m n : EM} (h : Sound K W (RepV K) te m) (hz : Sound K W (RepV K) tz n) : Sound K W (RepV K) (tCKw (rBest K g) (tCons te tNil) (tCons tz tNil)) (mBestDf g m n) := ⟨fun σ H s Z I r0 Q w rs e1 p1 => by
  refine h.bnd w rs e1 p1.x fun d v M1 Z1 H1 I1 w1 rs1 x1 q1 e2 => ?_
  obtain ⟨d, rfl, e2⟩ := pur_ok e2
  have p2 := p1.mono x1
  refine hz.bnd (s := ⟨s.l, M1⟩) w1 rs1 e2 p2.x fun d2 v2 M2 Z2 H2 I2 w2 rs2 x2 q2 e3 => ?_
  obtain ⟨d2, rfl, e3⟩ := pur_ok e3
  obtain ⟨c, hc, rfl⟩ := ret_ok e3
  have q1' : Rep K Z2 v d := Rep.mono x2.z q1
  have q2 : Rep K Z2 v2 d2 := q2
  cases d with
  | lst ds =>
    cases d2 with
    | int j =>
      have hc : (intsD ds).map (fun ns => D.int (g ns j)) = some c := hc
      cases q : intsD ds with
      | none => rw [q] at hc; cases hc
      | some ns =>
        rw [q] at hc; cases hc
        cases q2
        cases q1' with
        | lst h1 h2 =>
          have e := intsD_rep h2 q
          exact ⟨_, ns, j, rfl, rfl, by rw [← e]; exact .inl (same_rd w2.sub h1), PostP.of w2 (p2.mono x2) _ Z2 H2 (ExtP.refl w2.sub) (.int _)⟩
    | _ => cases hc
  | _ => cases hc⟩
theorem de_minDf {z : Expr} {te tz : TE} {m n : EM} (hcalm : X.calm = true) (hu : X.A.units + 67 < cLine) (hs : X.mg "min" = none) (h : DE K X W e te m) (hz : DE K X W z tz n)
    (hgs : Gl X "min" := by rfl)
    (hs1 : starEach [e] X.env = (false, eval e X.env) :: starEach [] X.env := by rfl) (he : backTo pos (starEach [e] X.env) = (false, eval e X.env) :: backTo pos (starEach [] X.env) := by rfl) (hpl : (backTo pos (starEach [e] X.env)).any (·.1) = false := by rfl)
    (hall : (backToKw pos (keywordEach [⟨some "default", z, kp⟩] X.env)).all (·.1.isSome) = true := by rfl) (hnone : (backToKw pos (keywordEach [⟨some "default", z, kp⟩] X.env)).any (·.1.isNone) = false := by rfl) (hks : (backToKw pos (keywordEach [⟨some "default", z, kp⟩] X.env)).filterMap (·.1) = [Str.ofString "default"] := by rfl) :
    DE K X W (.Call (.Name "min" p) [e] [⟨some "default", z, kp⟩] pos) (tCKw (rBest K minDf) (tCons te tNil) (tCons tz tNil)) (mBestDf minDf m n) := by
  have k0 := h.k
  subst k0
  exact ⟨rfl, pe_callBK (cr_minDf hcalm hu) hgs hs rfl (pa_cons h.pe pa_nil hs1) (pk_cons hz.pe pk_nil) (by decide) (by decide) he hpl hall hnone hks, so_best h.so hz.so⟩
theorem de_maxDf {z : Expr} {te tz : TE} {m n : EM} (hcalm : X.calm = true) (hu : X.A.units + 67 < cLine) (hs : X.mg "max" = none) (h : DE K X W e te m) (hz : DE K X W z tz n)
    (hgs : Gl X "max" := by rfl)
    (hs1 : starEach [e] X.env = (false, eval e X.env) :: starEach [] X.env := by rfl) (he : backTo pos (starEach [e] X.env) = (false, eval e X.env) :: backTo pos (starEach [] X.env) := by rfl) (hpl : (backTo pos (starEach [e] X.env)).any (·.1) = false := by rfl)
    (hall : (backToKw pos (keywordEach [⟨some "default", z, kp⟩] X.env)).all (·.1.isSome) = true := by rfl) (hnone : (backToKw pos (keywordEach [⟨some "default", z, kp⟩] X.env)).any (·.1.isNone) = false := by rfl) (hks : (backToKw pos (keywordEach [⟨some "default", z, kp⟩] X.env)).filterMap (·.1) = [Str.ofString "default"] := by rfl) :
    DE K X W (.Call (.Name "max" p) [e] [⟨some "default", z, kp⟩] pos) (tCKw (rBest K maxDf) (tCons te tNil) (tCons tz tNil)) (mBestDf maxDf m n) := by
  have k0 := h.k
  subst k0
  exact ⟨rfl, pe_callBK (cr_maxDf hcalm hu) hgs hs rfl (pa_cons h.pe pa_nil hs1) (pk_cons hz.pe pk_nil) (by decide) (by decide) he hpl hall hnone hks, so_best h.so hz.so⟩
end
end DL
namespace DL
open PySem L2 PySem.Spec PyProof.Rows
/-! ### a call of a local that holds a def: the defs that it may hold, with their addresses -/
structure VFn (P : Program) (w : World) (K : PySem.W.Frag) (mg : Str → Option Value) (base : Heap) (k n : Nat) (f : Addr) (m : MA) : Prop where
  ex : ∃ (fd : FuncData) (ps : List Str), FnOk P w K mg base (L2.CX P w) k f fd ps (spA K n m) ∧ PySem.W.keepIn K (.ref f) = true ∧ Binds K fd ps []
def tCallV (K : PySem.W.Frag) (W : WX) (i n : Nat) (tb : List (Addr × MA)) (t : TA) : TE := fun σ H Q => ∃ f m, σ[i]? = some (some (.ref f)) ∧ tb.lookup f = some m ∧ t σ H fun vs H1 => spA K n m vs H1 Q (WE W σ)
def mCallV (i n : Nat) (tb : List (Addr × MA)) (ms : AM) : EM := fun s => match gv s.l i with
  | some (.p (.fn a)) => match tb.lookup a with
    | some m => mCallA n m ms s
    | none => none
  | _ => none
section
variable {K : PySem.W.Frag} {X : Cx} {W : WX} {e : Expr} {es : List Expr} {pos p : Pos} {x : Str} {i n k : Nat} {tb : List (Addr × MA)} {t : TA} {ms : AM}
theorem pe_callV (A : ∀ f m, tb.lookup f = some m → VFn X.prog X.w X.K X.mg X.base k n f m) (hr : Room k X.A) (hN : X.N[i]? = some x) (hv : Vis X.env.scope x) (hx : ∀ σ, PassesAt (L2.CX X.prog X.w) X σ (WE W σ)) (ha : PA X (e :: es) t)
    (hdb : (x == ("__debug__" : Str)) = false := by decide) (hcd : (x == ("__classdict__" : Str)) = false := by decide)
    (he : starEach (e :: es) X.env = (false, eval e X.env) :: starEach es X.env := by rfl) (hpl : (backTo pos (starEach es X.env)).any (·.1) = false := by rfl) : PE X (.Call (.Name x p) (e :: es) [] pos) (tCallV X.K W i n tb t) := by
  refine ⟨fun pins s σ H Q I h => ?_⟩
  obtain ⟨f, m, hs, hS, ht⟩ := h
  obtain ⟨fd, ps, F, hk, hb⟩ := (A f m hS).ex
  refine wpAny_Call_Name_kw (thn ((pe_var (pos := p) hN hv hdb hcd).run pins s σ H (fun v H1 => v = .ref f ∧ H1 = H) I ⟨.ref f, hs, rfl, rfl⟩) fun u s1 ⟨v, H1, I1, r1, q1⟩ => ?_)
  obtain ⟨rfl, rfl⟩ := q1
  cases r1
  refine PySem.W.callWith_K (h₀ := X.base) I.ok.mod.kin hk (thn (ha.run pos pins s1 σ _ _ I1 ht) fun us s2 ⟨vs, H2, I2, r, q⟩ => ⟨I2.kIn, ?_⟩) he hpl
  exact run_fnSD (dvs := []) F hr hb .nil (hx σ) I2 r (by simpa using q)
theorem so_callV (ha : Sound K W (RepVs K) t ms) : Sound K W (RepV K) (tCallV K W i n tb t) (mCallV i n tb ms) := ⟨fun σ H s Z I r0 Q w rs e p => by
  unfold mCallV at e
  cases hg : gv s.l i with
  | none => rw [hg] at e; cases e
  | some dv =>
    rw [hg] at e
    cases dv with
    | o j => cases e
    | p d =>
      cases d with
      | fn a =>
        dsimp only at e
        cases hl : tb.lookup a with
        | none => rw [hl] at e; cases e
        | some m =>
          rw [hl] at e
          have h1 : s.l[i]? = some (some (.p (.fn a))) := by
            unfold gv at hg
            cases q : s.l[i]? with
            | none => rw [q] at hg; cases hg
            | some o => rw [q] at hg; cases o <;> simp_all
          obtain ⟨v, hv, rv⟩ := rs.at_ i _ h1
          have rv : Rep K Z v (.fn a) := rv
          cases rv
          exact ⟨a, m, hv, hl, (so_callA (n := n) (f := m) ha).ok σ H s Z I r0 Q w rs e p⟩
      | _ => cases e⟩
theorem de_callV (A : ∀ f m, tb.lookup f = some m → VFn X.prog X.w K X.mg X.base k n f m) (hr : Room k X.A) (tk : Takes X W) (ha : DA K X W (e :: es) t ms) (hN : X.N[i]? = some x := by rfl) (hv : Vis X.env.scope x := by first | exact Or.inl rfl | exact Or.inr (Or.inl rfl) | exact Or.inr (Or.inr rfl))
    (hdb : (x == ("__debug__" : Str)) = false := by decide) (hcd : (x == ("__classdict__" : Str)) = false := by decide)
    (he : starEach (e :: es) X.env = (false, eval e X.env) :: starEach es X.env := by rfl) (hpl : (backTo pos (starEach es X.env)).any (·.1) = false := by rfl) :
    DE K X W (.Call (.Name x p) (e :: es) [] pos) (tCallV K W i n tb t) (mCallV i n tb ms) := by
  have k := ha.k
  subst k
  exact ⟨rfl, pe_callV A hr hN hv (fun σ => passAt tk σ) ha.pa hdb hcd he hpl, so_callV ha.so⟩
end
end DL
namespace DL
open PySem PySem.Spec L2 PyProof.Rows
/-! ### the end of a law whose mirrors speak of the addresses of defs -/
theorem walk_dlV {l : PySem.W.OpenLaw} {k : Nat} {q : Program} {loose : List Str} {XP : (Str → Option Value) → Heap → Prop} {YP : World → Heap → Prop} {d : DefRec} {K : Params → PySem.W.Frag} {x qual : Str} {st : Stmt} {N : List Str} {m : List Addr → SM} {C : List Addr → Prop} (hn : l.most = some 63) (hdf : d.params.defaults = []) (hr : Room (k + 1) callerA)
    (hY : ∀ (w : World) (h : Heap), YP w h → (K w.params).In h) (Sc : FnScope N ["script"] (defScope st))
    (F : ∀ (w : World) (mg : Str → Option Value) (fa : Addr) (h : Heap), (K w.params).In h → h.Ns mainGlobals mg → mg d.name = some (.ref fa) →
      ∃ (fd : FuncData) (Fa : List Addr), C Fa ∧ Fun (K w.params) x qual st fa fd ∧ (∀ (s : Shared) (u : Value), BindsTo s fd ⟨[u], []⟩ [("script", u)]) ∧ ∀ base : Heap, (K w.params).In base → base.Ns mainGlobals mg → TopB l.prog w (K w.params) mg base N qual st fa k (m Fa))
    (good : ∀ (Fa : List Addr) (ns : List Int), C Fa → ns.length ≤ 63 → (∀ z ∈ ns, Builtin.Int.intBits z ≤ 1048576) → runA N.length (m Fa) [.scr (ns.map .int)] = some (.ok (.bl true))) :
    PySem.W.WalkO q loose XP YP l.row.toRowW d [] (fun f vs => PySem.call f vs) := by
  refine Att.attach_callB hn hdf fun w s₀ s₁ mg mb fa o pm cd doc a vs ns G Y ho hd hcd hmg hobj hints hlen hbits hg => ?_
  have KX := hY w _ Y
  obtain ⟨fd, Fa, hC, hF, hbind, body⟩ := F w mg fa _ KX G.T.g hmg
  exact law_top KX G.T.g G.T.b G.T.builtins G.T.nolimit hg hobj hints (Nat.le_trans hlen (by decide)) hr hF Sc hbind body (good Fa ns hC hlen hbits)
/-- defs of other names stand at other addresses -/
theorem fun_ne {K : PySem.W.Frag} {x y qx qy : Str} {st su : Stmt} {f g : Addr} {fd gd : FuncData} (F : Fun K x qx st f fd) (G : Fun K y qy su g gd) (h : x ≠ y) : f ≠ g := by
  rintro rfl
  obtain ⟨oc, od, kV, doc, pm, an, cdv, ct, osl, rfl, h1, _⟩ := F.ex
  obtain ⟨oc', od', kV', doc', pm', an', cdv', ct', osl', rfl, h2, _⟩ := G.ex
  rw [h1] at h2
  injection h2 with h2
  injection h2 with _ _ h3 _
  injection h3 with h3
  injection h3 with h4
  exact h h4
end DL
namespace DL
open PySem PySem.Spec L2 PyProof.Rows
/-! ### a text in a dict of the module: the keys, and texts that are known to be none -/
def KIn (K : PySem.W.Frag) (w : World) (a : Addr) (z : Str) (b : Bool) : Prop := ∃ es n r, K.lookup a = some ⟨.type "dict", none, .dict es n, #[]⟩ ∧ PySem.W.KeysLit w.params es.toList ∧ (a == sysModules) = false ∧ PySem.W.nsIn K a z = some r ∧ r.isSome = b
def rInKd (K : PySem.W.Frag) (w : World) (neg : Bool) : R2 := fun x y H Q => ∃ p z b, x = .str z ∧ y = .ref p ∧ KIn K w p z b ∧ Q (.bl (if neg then !b else b)) H
section
variable {X : Cx}
theorem op_inKd : OpR X (compareOp .In) (rInKd X.K X.w false) := by
  intro pins s σ H x y v u Q I rx ry h
  obtain ⟨p, z, b, rfl, rfl, ⟨es, n, r, hl, hk, lo, e, rfl⟩, q⟩ := h
  obtain rfl : u = Value.ref p := ry
  obtain ⟨t, rfl⟩ := (show ∃ t, v = Value.str z t from rx)
  refine wpAny_in_of (strKind_is X.prog X.w z t) lo (PySem.W.mapOf_K (prog := X.prog) (w := X.w) I.kIn hl hk) ?_
  show EP X pins σ Q _ _
  rw [PySem.W.find_K hl e]
  exact ⟨.bl _, H, I.tok _, rfl, q⟩
end
structure GIn (K : PySem.W.Frag) (w : World) (mg : Str → Option Value) (x : Str) (keys miss : List Str) where
  a : Addr
  m : mg x = some (.ref a)
  at_ : ∀ z, z ∈ keys → KIn K w a z true
  no : ∀ z, z ∈ miss → KIn K w a z false
def inKd (keys miss : List Str) : D → EM
  | .str z => fun s => if z ∈ keys then some (.ok (.p (.bl true)) s.m) else if z ∈ miss then some (.ok (.p (.bl false)) s.m) else none
  | _ => fun _ => none
def mInKd (keys miss : List Str) (m : EM) : EM := bnd m (pur (inKd keys miss))
section
variable {K : PySem.W.Frag} {X : Cx} {W : WX} {e : Expr} {pos p : Pos} {te : TE} {m : EM} {mg : Str → Option Value} {w : World} {x : Str} {keys miss : List Str}
theorem so_inKd (g : GIn K w mg x keys miss) (h : Sound K W (RepV K) te m) : Sound K W (RepV K) (tOp (rInKd K w false) te (tC (.ref g.a))) (mInKd keys miss m) := ⟨fun σ H s Z I r0 Q w0 rs e1 p1 => by
  refine h.bnd w0 rs e1 p1.x fun d v M1 Z1 H1 I1 w1 rs1 x1 q1 e2 => ?_
  obtain ⟨d, rfl, e2⟩ := pur_ok e2
  cases d with
  | str z =>
    have q1 : Rep K Z1 v (.str z) := q1
    cases q1
    have e2 : (if z ∈ keys then some (Rs.ok (DV.p (D.bl true)) M1) else if z ∈ miss then some (Rs.ok (DV.p (D.bl false)) M1) else none) = some r0 := e2
    split at e2
    · rename_i hz
      cases e2
      exact ⟨g.a, z, true, rfl, rfl, g.at_ z hz, PostP.of w1 (p1.mono x1) _ Z1 H1 (ExtP.refl w1.sub) (.bl _)⟩
    · split at e2
      · rename_i hz
        cases e2
        exact ⟨g.a, z, false, rfl, rfl, g.no z hz, PostP.of w1 (p1.mono x1) _ Z1 H1 (ExtP.refl w1.sub) (.bl _)⟩
      · cases e2
  | _ => cases e2⟩
theorem de_inKd (g : GIn K w mg x keys miss) (h : DE K X W e te m) (hm : X.mg = mg := by rfl) (hw : X.w = w := by rfl) (hg : Gl X x := by rfl) (hd : (x == ("__debug__" : Str)) = false := by decide) (hb : behindInMarks .In (.Name x p) = false := by first | exact nomark _ | rfl) :
    DE K X W (.Compare e [.In] [.Name x p] pos) (tOp (rInKd K w false) te (tC (.ref g.a))) (mInKd keys miss m) := by
  subst hm hw
  refine ⟨h.k, ?_, so_inKd g h.so⟩
  have q := pe_cmpR (X := X) (pos := pos) op_inKd h.pe (pe_glob (v := .ref g.a) (pos := p) hg g.m rfl hd) hb
  rw [h.k] at q
  exact q
end
end DL
namespace DL
open PySem PySem.Spec L2 PyProof.Rows
theorem lkv_nil {P : Program} {w : World} {K : PySem.W.Frag} {mg : Str → Option Value} {base : Heap} {k n : Nat} : ∀ f m, ([] : List (Addr × MA)).lookup f = some m → VFn P w K mg base k n f m := fun _ _ h => by cases h
theorem lkv_cons {P : Program} {w : World} {K : PySem.W.Frag} {mg : Str → Option Value} {base : Heap} {k n : Nat} {a : Addr} {m0 : MA} {tb : List (Addr × MA)} (h : VFn P w K mg base k n a m0) (r : ∀ f m, tb.lookup f = some m → VFn P w K mg base k n f m) : ∀ f m, ((a, m0) :: tb).lookup f = some m → VFn P w K mg base k n f m := fun f m e => by
  rw [List.lookup_cons] at e
  split at e
  · rename_i q
    cases e
    rw [eq_of_beq q]
    exact h
  · exact r f m e
theorem kin_nil {K : PySem.W.Frag} {w : World} {a : Addr} {b : Bool} : ∀ z, z ∈ ([] : List Str) → KIn K w a z b := fun _ h => by cases h
theorem kin_cons {K : PySem.W.Frag} {w : World} {a : Addr} {b : Bool} {z0 : Str} {l : List Str} (h : KIn K w a z0 b) (r : ∀ z, z ∈ l → KIn K w a z b) : ∀ z, z ∈ z0 :: l → KIn K w a z b := List.forall_mem_cons.mpr ⟨h, r⟩
@[simp] theorem e_inKdm (keys miss : List Str) (m : EM) (s : S) : mInKd keys miss m s = (bnd m (pur (inKd keys miss))) s := rfl
@[simp] theorem e_inKdS (keys miss : List Str) (z : Str) (s : S) : inKd keys miss (.str z) s = if z ∈ keys then some (.ok (.p (.bl true)) s.m) else if z ∈ miss then some (.ok (.p (.bl false)) s.m) else none := rfl
end DL
namespace DL
open PySem PySem.Spec L2 PyProof.Rows
/-! ### l.extend(xs): xs data -/
def rExtD : V → List V → Hp → VK → Prop := fun x vs H Q => ∃ l b xs zs, x = .ref l ∧ vs = [.ref b] ∧ H l = some (.lst xs) ∧ Rd H b (.lst zs) ∧ xs.length + zs.length ≤ sizeLine ∧ Q .non (upd H l (.lst (xs ++ zs)))
section
variable {X : Cx}
theorem mt_extD : MtM X "list.extend" rExtD := by
  intro pins s σ H x vs v us Q I rx rv h
  obtain ⟨l, b, xs, zs, rfl, rfl, hH, hB, hz, q⟩ := h
  cases rx
  obtain ⟨u, rfl, ru⟩ := rv.one
  cases ru
  obtain ⟨z, its, n, r, hl, e⟩ := I.lstM hH
  obtain ⟨z2, its2, n2, r2, e2⟩ := hB.ok I.hok
  have hl2 := r2.length
  have hsz : its.toArray.size + its2.toArray.size ≤ sizeLine := by rw [List.size_toArray, List.size_toArray]; omega
  have hlong : ¬ (!its.toArray.isEmpty && Builtin.List.listTooLong (its.toArray.size + its2.toArray.size)) = true := by
    rw [notLongL hsz, Bool.and_false]
    exact Bool.false_ne_true
  refine call_meets PySem.F.slot_list_extend ⟨_, e, rfl⟩ PySem.F.entry_list_extend (PySem.F.args_list_extend_2 _ _)
    (AutoSeq1.list_extend_list_list_0 l its.toArray n b its2.toArray n2 hlong (by rw [List.size_toArray]; omega) (by omega)) ⟨e, e2, ?_⟩
  refine ⟨.non, _, I.lset (its' := its ++ its2) hH e (by simp) (r.append r2) ?_, rfl, q⟩
  rw [List.length_append]
  omega
end
section
variable {K : PySem.W.Frag} {X : Cx}
def gExt : MtG := fun d ds s => match d, ds with
  | .o n, [.p (.lst ys)] => match s.m[n]? with
    | some (.lst xs) => if xs.length + ys.length ≤ 1000000 then some (.ok (.p .non) (s.m.set n (.lst (xs ++ ys.map .p)))) else none
    | _ => none
  | _, _ => none
theorem md_ext : MthD K X "list.extend" rExtD gExt := ⟨fun _ => mt_extD, fun W σ x d vs ds Z H I s r0 Q w hx hv e p => by
  unfold gExt at e
  split at e
  · rename_i n ys
    obtain ⟨a, ha, rfl⟩ := hx
    cases hv with
    | cons h1 h2 =>
    cases h2
    have h1 : Rep K Z _ (.lst ys) := h1
    cases h1 with
    | lst g3 g4 =>
    split at e
    · rename_i xs hm
      split at e
      · rename_i hl
        cases e
        obtain ⟨_, us, g1, g2⟩ := w.ob n a _ ha hm (by intro z; cases z)
        refine ⟨a, _, us, _, rfl, rfl, g1, same_rd w.sub g3, by rw [paired_len g2, g4.length]; exact size_le hl, ?_⟩
        exact p _ Z _ I (w.setO ha hm (by intro z; cases z) ⟨_, upd_same, paired_app g2 (allP_map g4)⟩) (ext_set (List.mem_of_getElem? ha)) .non
      · cases e
    · cases e
  · cases e⟩
@[simp] theorem e_ext (n : Nat) (ys : List D) (s : S) : gExt (.o n) [.p (.lst ys)] s = (match s.m[n]? with
    | some (.lst xs) => if xs.length + ys.length ≤ 1000000 then some (.ok (.p .non) (s.m.set n (.lst (xs ++ ys.map .p)))) else none
    | _ => none) := rfl
end
end DL
namespace DL
open PySem PySem.Spec L2 PyProof.Rows
section
variable {K : PySem.W.Frag} {X : Cx} {W : WX} {e : Expr} {pos p : Pos} {te : TE} {m : EM} {mg : Str → Option Value} {w : World} {x : Str} {keys miss : List Str}
theorem inKd_bool : ∀ s r, mInKd keys miss m s = some r → ∀ v M, r = .ok v M → ∃ b, v = .p (.bl b) := by
  intro s r h v M e
  subst e
  obtain ⟨d, M1, _, h2⟩ := bnd_ok h
  obtain ⟨d, rfl, h2⟩ := pur_ok h2
  cases d with
  | str z =>
    have h2 : (if z ∈ keys then some (Rs.ok (DV.p (D.bl true)) M1) else if z ∈ miss then some (Rs.ok (DV.p (D.bl false)) M1) else none) = some (Rs.ok v M) := h2
    split at h2
    · cases h2; exact ⟨_, rfl⟩
    · split at h2
      · cases h2; exact ⟨_, rfl⟩
      · cases h2
  | _ => cases h2
theorem dt_inKd (g : GIn K w mg x keys miss) (h : DE K X W e te m) (hm : X.mg = mg := by rfl) (hw : X.w = w := by rfl) (hg : Gl X x := by rfl) (hd : (x == ("__debug__" : Str)) = false := by decide) (hb : behindInMarks .In (.Name x p) = false := by first | exact nomark _ | rfl) :
    DT K X W (.Compare e [.In] [.Name x p] pos) (tTest (tOp (rInKd K w false) te (tC (.ref g.a)))) (mInKd keys miss m) := by
  subst hm hw
  refine ⟨h.k, ?_, so_test (so_inKd g h.so) inKd_bool⟩
  have q := pt_cmpR (X := X) (pos := pos) op_inKd h.pe (pe_glob (v := .ref g.a) (pos := p) hg g.m rfl hd) hb
  rw [h.k] at q
  exact q
end
end DL
namespace DL
open PySem L2
/-! ### a list of one's own that a loop fills, and is given up -/
theorem tyOk_lst {M : List O} {n : Nat} {ds : List DV} (h : M[n]? = some (.lst ds)) : tyOk "list" M (.o n) = true := by unfold tyOk; simp only [h]; rfl
theorem drop0 (d : D) (M : List O) : dropM 0 (.p d) M = [] := by simp [dropM, ltO]
theorem app_run (i n : Nat) (me : EM) (l : List (Option DV)) (M : List O) (xs : List DV) (d : DV) (h1 : gv l i = some (.o n)) (h2 : M[n]? = some (.lst xs)) (h3 : xs.length < 1000000) (h4 : me ⟨l, M⟩ = some (.ok d M)) :
    sExpr (mMth "list" gApp (mVar i) (aCons me aNil)) ⟨l, M⟩ = some (.nx, ⟨l, M.set n (.lst (xs ++ [d]))⟩) := by
  have tk := tyOk_lst h2
  simp [e_bnd, e_lift, h1, tk, h4, gApp, h2, h3]
theorem ext_run (i n : Nat) (me : EM) (l : List (Option DV)) (M : List O) (xs : List DV) (ys : List D) (h1 : gv l i = some (.o n)) (h2 : M[n]? = some (.lst xs)) (h3 : xs.length + ys.length ≤ 1000000) (h4 : me ⟨l, M⟩ = some (.ok (.p (.lst ys)) M)) :
    sExpr (mMth "list" gExt (mVar i) (aCons me aNil)) ⟨l, M⟩ = some (.nx, ⟨l, M.set n (.lst (xs ++ ys.map .p))⟩) := by
  have tk := tyOk_lst h2
  simp [e_bnd, e_lift, h1, tk, h4, h2, h3]
theorem catO_run (i n : Nat) (me : EM) (l : List (Option DV)) (M : List O) (xs : List DV) (ys : List D) (h1 : gv l i = some (.o n)) (h2 : M[n]? = some (.lst xs)) (h3 : xs.length + ys.length ≤ 1000000) (h4 : me ⟨l, M⟩ = some (.ok (.p (.lst ys)) M)) :
    sAsg (mCatO (mVar i) me) (gN i) ⟨l, M⟩ = some (.nx, ⟨l.set i (some (.o M.length)), M ++ [.lst (xs ++ ys.map .p)]⟩) := by
  simp [e_bnd, e_lift, h1, h4, h2, h3]
theorem frz_run (i n : Nat) (l : List (Option DV)) (M : List O) (ds : List D) (h1 : gv l i = some (.o n)) (h2 : M[n]? = some (.lst (ds.map .p))) : mFrz (mVar i) ⟨l, M⟩ = some (.ok (.p (.lst ds)) (M.set n .gone)) := by
  simp [e_bnd, h1, h2]
theorem sfrz_run (i n : Nat) (l : List (Option DV)) (M : List O) (ds : List D) (h1 : gv l i = some (.o n)) (h2 : M[n]? = some (.lst (ds.map .p))) : sFrz i ⟨l, M⟩ = some (.nx, ⟨l.set i (some (.p (.lst ds))), M.set n .gone⟩) := by
  simp [h1, h2]
theorem seq_nx (a b : SM) (s s1 : S) (h : a s = some (.nx, s1)) : sSeq a b s = b s1 := by rw [e_seq, h]
/-- a loop that gathers -/
theorem acc_loop {α : Type} {enc : α → D} {g : GM} {b : SM} {Inv : List D → S → Prop} {step : α → List D} {ok : α → Prop}
    (h : ∀ a acc s, ok a → Inv acc s → acc.length + (step a).length ≤ 1000000 → ∃ s1, g (.p (enc a)) s = some s1 ∧ wpS (b s1) fun f s2 => f = .nx ∧ Inv (acc ++ step a) s2) :
    ∀ (as : List α) (acc : List D) (s : S), (∀ a ∈ as, ok a) → Inv acc s → acc.length + (as.flatMap step).length ≤ 1000000 → ∃ s', loopS g b ((as.map enc).map .p) s = some (.nx, s') ∧ Inv (acc ++ as.flatMap step) s'
  | [], acc, s, _, hi, _ => ⟨s, rfl, by simpa using hi⟩
  | a :: as, acc, s, ho, hi, hl => by
    rw [List.flatMap_cons, List.length_append] at hl
    obtain ⟨s1, h1, f, s2, e, _, rfl, h2⟩ := h a acc s (ho a List.mem_cons_self) hi (by omega)
    obtain ⟨s', e2, h3⟩ := acc_loop h as (acc ++ step a) s2 (fun b hb => ho b (List.mem_cons_of_mem _ hb)) h2 (by rw [List.length_append]; omega)
    refine ⟨s', ?_, by rw [List.flatMap_cons, ← List.append_assoc]; exact h3⟩
    rw [List.map_cons, List.map_cons, loop_step g b _ _ s s1 s2 h1 e]
    exact e2
theorem wpS_eq {o : Option (Fl × S)} {s : S} {Q : S → Prop} (e : o = some (.nx, s)) (h : Q s) : wpS o fun f s2 => f = .nx ∧ Q s2 := ⟨_, _, e, rfl, rfl, h⟩
@[reducible] def enOpt {α : Type} [DecidableEq α] [En α] (hn : ∀ a : α, deq (En.en a) .non = false) (hn2 : ∀ a : α, deq .non (En.en a) = false) : En (Option α) := ⟨enO, fun a b => by
    cases a <;> cases b <;> simp [enO, En.dq, hn, hn2], fun a => by cases a <;> simp [enO, En.ok], En.dp α, fun a => by
    cases a with
    | none => exact Nat.zero_le _
    | some a => exact En.dpl a⟩
instance : En (Option Int) := enOpt (fun _ => rfl) (fun _ => rfl)
instance : En (Option Bool) := enOpt (fun _ => rfl) (fun _ => rfl)
theorem en_none_i : (En.en (none : Option Int) : D) = .non := rfl
theorem en_some_i (i : Int) : (En.en (some i) : D) = .int i := rfl
theorem en_none_b : (En.en (none : Option Bool) : D) = .non := rfl
theorem en_some_b (i : Bool) : (En.en (some i) : D) = .bl i := rfl
/-- a call of a local that holds a def -/
theorem callV_run (i n : Nat) (tb : List (Addr × MA)) (ms : AM) (s : S) (a : Addr) (m : MA) (r : Option (Rs DV)) (h1 : gv s.l i = some (.p (.fn a))) (h2 : tb.lookup a = some m) (h3 : mCallA n m ms s = r) : mCallV i n tb ms s = r := by
  unfold mCallV
  rw [h1]
  dsimp only
  rw [h2]
  exact h3
end DL
namespace DL
open PySem L2
theorem sif_f (c : EM) (a b : SM) (s : S) (M : List O) (h : c s = some (.ok (.p (.bl false)) M)) : sIf c a b s = b ⟨s.l, M⟩ := by
  rw [e_sif, e_lift, h]; rfl
theorem sif_t (c : EM) (a b : SM) (s : S) (M : List O) (h : c s = some (.ok (.p (.bl true)) M)) : sIf c a b s = a ⟨s.l, M⟩ := by
  rw [e_sif, e_lift, h]; rfl
theorem set_get {M : List O} {n : Nat} {x : O} (h : M[n]? = some x) (y : O) : (M.set n y)[n]? = some y := by rw [List.getElem?_set_self (List.getElem?_eq_some_iff.mp h).1]
theorem snoc_get (M : List O) (x : O) : (M ++ [x])[M.length]? = some x := by simp
theorem acc_front {α : Type} {enc : α → D} {g : GM} {b : SM} {Inv : List D → S → Prop} {step : α → List D} {ok : α → Prop} (i : Nat) (it : IM) (l : List (Option DV)) (as : List α)
    (h : ∀ a acc s, ok a → Inv acc s → acc.length + (step a).length ≤ 1000000 → ∃ s1, g (.p (enc a)) s = some s1 ∧ wpS (b s1) fun f s2 => f = .nx ∧ Inv (acc ++ step a) s2)
    (ho : ∀ a ∈ as, ok a) (hit : it ⟨l.set i (some (.o 0)), [.lst []]⟩ = some (.ok ((as.map enc).map .p) [.lst []])) (h0 : Inv [] ⟨l.set i (some (.o 0)), [.lst []]⟩) (hl : (as.flatMap step).length ≤ 1000000) :
    ∃ s', Inv (as.flatMap step) s' ∧ ∀ K, sSeq (sAsg (dispO aNil) (gN i)) (sSeq (sFor it g b) K) ⟨l, []⟩ = K s' := by
  obtain ⟨s', e, hi⟩ := acc_loop h as [] ⟨l.set i (some (.o 0)), [.lst []]⟩ ho h0 (by show 0 + _ ≤ _; omega)
  refine ⟨s', hi, fun K => ?_⟩
  rw [seq_asg (dispO aNil) (gN i) _ _ ⟨l.set i (some (.o 0)), [.lst []]⟩ (.o 0) [.lst []] (by simp [e_bnd]) rfl]
  rw [seq_nx _ _ _ s' (by rw [e_for, e_lift, hit]; exact e)]
theorem runB_of {n : Nat} {m : SM} {ds : List DV} {d : D} {s : S} (h : m ⟨slotsOf n ds, []⟩ = some (.rt (.p d), s)) : runB n m ds [] = some (.ok (.p d) []) := by
  rw [e_runB, h]
  show some (Rs.ok (DV.p d) (dropM 0 (.p d) s.m)) = _
  rw [drop0]
theorem runA_of {n : Nat} {m : SM} {ds : List D} {d : D} {s : S} (h : m ⟨slotsOf n (ds.map .p), []⟩ = some (.rt (.p d), s)) : runA n m ds = some (.ok d) := by
  rw [e_runA, h]
theorem ret_run (m : EM) (s : S) (d : DV) (M : List O) (h : m s = some (.ok d M)) : sRet m s = some (.rt d, ⟨s.l, M⟩) := by
  rw [e_sret, e_lift, h]
theorem filter_compE {α : Type} (enc : α → D) {l : List (Option DV)} {g : GM} {t e : EM} {M : List O} (f : α → D) (q : α → Bool) (ds : List α) (h : ∀ a ∈ ds, ∃ s1 : S, g (.p (enc a)) ⟨l, M⟩ = some s1 ∧ s1.m = M ∧ t s1 = some (.ok (.p (.bl (q a))) M) ∧ (q a = true → e s1 = some (.ok (.p (f a)) M))) (hl : ds.length ≤ 1000000) : compL l g t e ((ds.map enc).map .p) [] M = some ((ds.filter q).map f, M) := by
  have main : ∀ (ds : List α) (acc : List D), (∀ a ∈ ds, ∃ s1 : S, g (.p (enc a)) ⟨l, M⟩ = some s1 ∧ s1.m = M ∧ t s1 = some (.ok (.p (.bl (q a))) M) ∧ (q a = true → e s1 = some (.ok (.p (f a)) M))) → acc.length + ds.length ≤ 1000000 → compL l g t e ((ds.map enc).map .p) acc M = some (acc ++ (ds.filter q).map f, M) := by
    intro ds
    induction ds with
    | nil => intro acc _ _; simp [compL]
    | cons a ds ih =>
      intro acc h hn
      simp only [List.length_cons] at hn
      obtain ⟨s1, h1, h2, h3, h4⟩ := h a List.mem_cons_self
      have ih := fun acc hn => ih acc (fun b hb => h b (List.mem_cons_of_mem _ hb)) hn
      show compL _ _ _ _ (.p (enc a) :: (ds.map enc).map .p) acc M = _
      unfold compL
      rw [h1]
      dsimp only
      rw [h3]
      cases hq : q a with
      | true =>
        dsimp only
        have q2 : e ⟨s1.l, M⟩ = some (.ok (.p (f a)) M) := by have h4 := h4 hq; rw [← h2] at h4 ⊢; exact h4
        rw [q2]
        dsimp only
        rw [if_pos (by omega), ih _ (by simp; omega)]
        simp [hq]
      | false =>
        dsimp only
        rw [ih _ (by omega)]
        simp [hq]
  have := main ds [] h (by simpa using hl)
  simpa using this
theorem map_compE {α : Type} (enc : α → D) {l : List (Option DV)} {g : GM} {e : EM} {M : List O} (f : α → D) (ds : List α) (h : ∀ a ∈ ds, ∃ s1 : S, g (.p (enc a)) ⟨l, M⟩ = some s1 ∧ s1.m = M ∧ e s1 = some (.ok (.p (f a)) M)) (hl : ds.length ≤ 1000000) : compL l g tYesM e ((ds.map enc).map .p) [] M = some (ds.map f, M) := by
  have q := filter_compE enc (l := l) (g := g) (t := tYesM) (e := e) (M := M) f (fun _ => true) ds (fun a ha => by
    obtain ⟨s1, h1, h2, h3⟩ := h a ha
    exact ⟨s1, h1, h2, by rw [← h2]; rfl, fun _ => h3⟩) hl
  rw [q, List.filter_eq_self.mpr (fun _ _ => rfl)]
theorem it_var (j : Nat) (l : List (Option DV)) (M : List O) (ds : List D) (h : gv l j = some (.p (.lst ds))) : mItD itL (mVar j) ⟨l, M⟩ = some (.ok (ds.map .p) M) := by
  simp [e_bnd, h]
end DL
namespace DL
open PySem L2
/-! sorted lists of ints -/
def sortI (ns : List Int) : List Int := ns.mergeSort fun a b => decide (a ≤ b)
theorem dSort_ints (ns : List Int) : dSort (.lst (ns.map .int)) = some (.lst ((sortI ns).map .int)) := by
  unfold dSort
  have h1 : (ns.map D.int).all shp = true := all_shp (α := Int) (by decide) ns
  have h2 : sortOk (toPs (ns.map D.int)) = true := by
    rw [toPs_map, List.map_map]
    unfold sortOk
    rw [Bool.and_eq_true, Bool.or_eq_true]
    refine ⟨.inr (List.all_eq_true.mpr fun d hd => ?_), List.all_eq_true.mpr fun d hd => List.all_eq_true.mpr fun e he => ?_⟩
    · obtain ⟨x, _, rfl⟩ := List.mem_map.mp hd; rfl
    · obtain ⟨x, _, rfl⟩ := List.mem_map.mp hd
      obtain ⟨y, _, rfl⟩ := List.mem_map.mp he
      simp [toP, PySem.W.alike]
  show (if ((ns.map D.int).all shp && sortOk (toPs (ns.map D.int))) = true then some (D.lst (sortL (ns.map D.int))) else none) = _
  rw [h1, h2]
  show some (D.lst (sortL _)) = _
  unfold sortL sortI
  have e := List.map_mergeSort (r := fun a b : Int => decide (a ≤ b)) (s := PySem.W.dataLe false toP) (f := D.int) (l := ns) fun p _ q _ => by
    have := congrFun (congrFun (PySem.W.dataLe_int (fun x : Int => x)) p) q
    exact this.symm
  rw [e]
theorem sortI_perm (ns : List Int) : (sortI ns).Perm ns := List.mergeSort_perm _ _
theorem sortI_len (ns : List Int) : (sortI ns).length = ns.length := (sortI_perm ns).length_eq
theorem sortI_pw (ns : List Int) : (sortI ns).Pairwise (· ≤ ·) := by
  have h := List.pairwise_mergeSort (le := fun a b : Int => decide (a ≤ b)) (fun a b c h1 h2 => by simp at *; omega) (fun a b => by simp; omega) ns
  exact h.imp fun h => by simpa using h
theorem foldl_min_mem : ∀ (r : List Int) (n : Int), r.foldl min n ∈ n :: r ∧ ∀ y ∈ n :: r, r.foldl min n ≤ y
  | [], n => ⟨List.mem_singleton.mpr rfl, fun y hy => by rw [List.mem_singleton.mp hy]; exact Int.le_refl _⟩
  | x :: r, n => by
    obtain ⟨h1, h2⟩ := foldl_min_mem r (min n x)
    rw [List.foldl_cons]
    refine ⟨?_, fun y hy => ?_⟩
    · rcases List.mem_cons.mp h1 with h | h
      · rw [h, Int.min_def]; split <;> simp
      · exact List.mem_cons_of_mem _ (List.mem_cons_of_mem _ h)
    · have h3 := h2 (min n x) List.mem_cons_self
      rcases List.mem_cons.mp hy with h | h
      · rw [h]; omega
      · rcases List.mem_cons.mp h with h | h
        · rw [h]; omega
        · exact h2 y (List.mem_cons_of_mem _ h)
theorem foldl_max_mem : ∀ (r : List Int) (n : Int), r.foldl max n ∈ n :: r ∧ ∀ y ∈ n :: r, y ≤ r.foldl max n
  | [], n => ⟨List.mem_singleton.mpr rfl, fun y hy => by rw [List.mem_singleton.mp hy]; exact Int.le_refl _⟩
  | x :: r, n => by
    obtain ⟨h1, h2⟩ := foldl_max_mem r (max n x)
    rw [List.foldl_cons]
    refine ⟨?_, fun y hy => ?_⟩
    · rcases List.mem_cons.mp h1 with h | h
      · rw [h, Int.max_def]; split <;> simp
      · exact List.mem_cons_of_mem _ (List.mem_cons_of_mem _ h)
    · have h3 := h2 (max n x) List.mem_cons_self
      rcases List.mem_cons.mp hy with h | h
      · rw [h]; omega
      · rcases List.mem_cons.mp h with h | h
        · rw [h]; omega
        · exact h2 y (List.mem_cons_of_mem _ h)
theorem sortI_first (n : Int) (r : List Int) : atI (sortI (n :: r)) 0 = some (r.foldl min n) := by
  have hp := sortI_perm (n :: r)
  have hw := sortI_pw (n :: r)
  have hl := sortI_len (n :: r)
  cases hs : sortI (n :: r) with
  | nil => rw [hs] at hl; cases hl
  | cons a l =>
    rw [hs] at hp hw
    obtain ⟨m1, m2⟩ := foldl_min_mem r n
    have h1 := m2 a (hp.mem_iff.mp List.mem_cons_self)
    have h2 : a ≤ r.foldl min n := by
      rcases List.mem_cons.mp (hp.mem_iff.mpr m1) with h | h
      · omega
      · exact (List.pairwise_cons.mp hw).1 _ h
    rw [atI0]; congr 1; omega
theorem sortI_last (n : Int) (r : List Int) : atI (sortI (n :: r)) (r.length : Int) = some (r.foldl max n) := by
  have hp := sortI_perm (n :: r)
  have hw := sortI_pw (n :: r)
  have hl := sortI_len (n :: r)
  rcases List.eq_nil_or_concat (sortI (n :: r)) with hs | ⟨l, a, hs⟩
  · rw [hs] at hl; cases hl
  · rw [List.concat_eq_append] at hs
    rw [hs] at hp hw hl
    have hl' : l.length = r.length := by simpa using hl
    obtain ⟨m1, m2⟩ := foldl_max_mem r n
    have h1 := m2 a (hp.mem_iff.mp (by simp))
    have h2 : r.foldl max n ≤ a := by
      rcases List.mem_append.mp (hp.mem_iff.mpr m1) with h | h
      · exact (List.pairwise_append.mp hw).2.2 _ h a (by simp)
      · simp at h; omega
    rw [hs, atI_nat' (by omega) (x := a) (by rw [Int.toNat_natCast, ← hl']; simp)]
    congr 1; omega
theorem cut_from (xs : List D) (n : Nat) : cutD xs (some (n : Int)) none = xs.drop n := by
  unfold cutD
  rw [HT.sIx_none, HT.sIx_nat]
  rw [List.take_of_length_le (by rw [List.length_drop]; exact Nat.le_refl _)]
  by_cases h : n ≤ xs.length
  · rw [Nat.min_eq_left h]
  · rw [Nat.min_eq_right (by omega), List.drop_length, List.drop_of_length_le (by omega)]
theorem cut_to (xs : List D) (n : Nat) : cutD xs none (some (n : Int)) = xs.take n := by
  unfold cutD
  rw [HT.sIx_none, HT.sIx_nat, List.drop_zero, Nat.sub_zero]
  by_cases h : n ≤ xs.length
  · rw [Nat.min_eq_left h]
  · rw [Nat.min_eq_right (by omega), List.take_length, List.take_of_length_le (by omega)]
@[simp] theorem e_slL (xs : List D) (l u : Option Int) : slE (.lst xs) l u = some (.lst (cutD xs l u)) := rfl
end DL
namespace DL
open PySem L2
/-! ### drawn numbers, with other objects of one's own behind them -/
theorem ltO_mono {n m : Nat} (h : n ≤ m) (d : DV) (k : ltO n d = true) : ltO m d = true := by
  cases d with
  | p _ => rfl
  | o i => have k : decide (i < n) = true := k; exact decide_eq_true (by have := of_decide_eq_true k; omega)
theorem closed_mono {n m : Nat} (h : n ≤ m) (o : O) (k : closed n o = true) : closed m o = true := by
  cases o with
  | lst xs => exact List.all_eq_true.mpr fun d hd => ltO_mono h d (List.all_eq_true.mp k d hd)
  | dK xs => exact List.all_eq_true.mpr fun d hd => ltO_mono h d.2 (List.all_eq_true.mp k d hd)
  | dT xs => exact List.all_eq_true.mpr fun d hd => ltO_mono h d.2 (List.all_eq_true.mp k d hd)
  | ins C xs => exact List.all_eq_true.mpr fun d hd => ltO_mono h d.2 (List.all_eq_true.mp k d hd)
  | tbl _ _ => rfl
  | gone => rfl
theorem closed_data (n : Nat) (ds : List D) : closed n (.lst (ds.map .p)) = true := by
  show (ds.map DV.p).all (ltO n) = true
  rw [List.all_map]
  exact List.all_eq_true.mpr fun _ _ => rfl
def Dx (n : Nat) (sv : DV) (R M : List O) : Prop := ∃ B, M = B ++ R ∧ Dr n sv B
theorem Dx.of {n : Nat} {sv : DV} {M : List O} (h : Dr n sv M) : Dx n sv [] M := ⟨M, (List.append_nil _).symm, h⟩
theorem Dx.nil {n : Nat} {sv : DV} {M : List O} (h : Dx n sv [] M) : Dr n sv M := by obtain ⟨B, rfl, h⟩ := h; rwa [List.append_nil]
theorem Dx.len {n : Nat} {sv : DV} {R M : List O} (h : Dx n sv R M) : M.length = n + R.length := by obtain ⟨B, rfl, h⟩ := h; rw [List.length_append, h.len]
theorem Dx.get {n : Nat} {sv : DV} {R M : List O} (h : Dx n sv R M) (i : Nat) : M[n + i]? = R[i]? := by
  obtain ⟨B, rfl, h⟩ := h
  rw [List.getElem?_append_right (by rw [h.len]; omega), h.len]
  congr 1; omega
theorem Dx.set {n : Nat} {sv : DV} {R M : List O} (h : Dx n sv R M) (i : Nat) (o : O) : Dx n sv (R.set i o) (M.set (n + i) o) := by
  obtain ⟨B, rfl, h⟩ := h
  refine ⟨B, ?_, h⟩
  rw [List.set_append_right _ _ (by rw [h.len]; omega), h.len]
  congr 2; omega
theorem Dx.app {n : Nat} {sv : DV} {R M : List O} (h : Dx n sv R M) (o : O) : Dx n sv (R ++ [o]) (M ++ [o]) := by
  obtain ⟨B, rfl, h⟩ := h
  exact ⟨B, List.append_assoc _ _ _, h⟩
theorem Dx.drop {n : Nat} {sv : DV} {R G M : List O} {d : D} (h : Dx n sv (R ++ G) M) (hR : R.all (closed (n + R.length)) = true) {k : Nat} (hk : k = n + R.length) : Dx n sv R (dropM k (.p d) M) := by
  subst hk
  obtain ⟨B, rfl, h⟩ := h
  have e : (B ++ (R ++ G)).take (n + R.length) = B ++ R := by
    rw [← List.append_assoc, List.take_append_of_le_length (by rw [List.length_append, h.len]; exact Nat.le_refl _), List.take_of_length_le (by rw [List.length_append, h.len]; exact Nat.le_refl _)]
  have c : (B ++ R).all (closed (n + R.length)) = true := by
    rw [List.all_append, hR, Bool.and_true]
    exact List.all_eq_true.mpr fun o ho => closed_mono (Nat.le_add_right _ _) o (List.all_eq_true.mp h.cl o ho)
  unfold dropM
  rw [e, c]
  exact ⟨B, rfl, h⟩
theorem Dx.same {n : Nat} {sv : DV} {R M M' : List O} {d : D} (h : Dx n sv R M) (h' : Dx n sv R M') : dropM M.length (.p d) M' = M' := dropM_len (by rw [h.len, h'.len])
theorem wp_takeX {n : Nat} {sv : DV} {R M : List O} {most : Int} {P : DV → List O → Prop} (h : Dx n sv R M) (hm : most < 18446744073709551616) (k : ∀ r M', Dx n sv R M' → (most < 1 → r = 0) → (1 ≤ most → 0 ≤ r ∧ r < most) → P (.p (.int r)) M') : wpB (takeM [sv, .p (.int most)] M) P := by
  obtain ⟨B, rfl, h⟩ := h
  obtain ⟨kk, c, i, cells, rfl, hk, hc, kc, hi, ne, nn⟩ := h.ex
  have lk := (List.getElem?_eq_some_iff.mp hk).1
  have lc := (List.getElem?_eq_some_iff.mp hc).1
  obtain ⟨r, M', e, d, b0, b⟩ := take_raw (M := B ++ R) (by rw [List.getElem?_append_left lk]; exact hk) (by rw [List.getElem?_append_left lc]; exact hc) kc hi ne nn most hm
  refine ⟨_, _, e, ?_⟩
  rcases d with rfl | ⟨cells', rfl, ne', nn'⟩ | rfl
  · exact k r _ ⟨B, rfl, h⟩ b0 b
  · rw [List.set_append_left _ _ lc]
    exact k r _ ⟨_, rfl, ⟨by rw [List.length_set]; exact h.len, all_set h.cl (closed_ints n _) c, kk, c, i, cells', rfl, by rw [List.getElem?_set_ne kc.symm]; exact hk, by rw [List.getElem?_set_self lc]; rfl, kc, hi, ne', nn'⟩⟩ b0 b
  · rw [List.set_append_left _ _ lk]
    exact k r _ ⟨_, rfl, ⟨by rw [List.length_set]; exact h.len, all_set h.cl (show closed n (.lst [.p (.int (i + 1)), .o c]) = true from (List.all_eq_true.mp h.cl _ (List.mem_of_getElem? hk) : closed n (.lst [.p (.int i), .o c]) = true)) kk, kk, c, i + 1, cells, rfl, by rw [List.getElem?_set_self lk], by rw [List.getElem?_set_ne kc]; exact hc, kc, by omega, ne, nn⟩⟩ b0 b
/-- a loop that goes on or returns, its turns' places told -/
theorem wpS_mono {o : Option (Fl × S)} {P Q : Fl → S → Prop} (h : wpS o P) (k : ∀ f s, P f s → Q f s) : wpS o Q := wpS.imp h k
end DL
namespace DL
open PySem L2
theorem wp_lc {it : IM} {vs : List Nat} {g : GM} {e : EM} {s : S} {P : DV → List O → Prop} (h : wpB (it s) fun ds M => ∃ ys M', compL (wipeL s.l vs) g tYesM e ds [] M = some (ys, M') ∧ P (.p (.lst ys)) M') : wpB (mLc it vs g tYesM e s) P := by
  obtain ⟨ds, M, e1, ys, M', e2, p⟩ := h
  refine ⟨_, M', ?_, p⟩
  rw [e_lc, e_bnd, e1]
  show (match compL (wipeL s.l vs) g tYesM e ds [] M with | some (acc, M) => some (Rs.ok (DV.p (D.lst acc)) M) | none => none) = _
  rw [e2]
theorem wp_rng1 {m : EM} {s : S} {Q : List DV → List O → Prop} (h : wpB (m s) fun d M => ∃ j, d = .p (.int j) ∧ rngOk j = true ∧ Q (DL.intsFrom 0 j.toNat) M) : wpB (mRng rng1D (aCons m aNil) s) Q := by
  obtain ⟨d, M, e, j, rfl, hj, q⟩ := h
  refine ⟨_, M, ?_, q⟩
  rw [e_rng, e_bnd, e_aCons, e_bnd, e]
  simp [e_bnd, hj]
theorem wp_ix {m n : EM} {s : S} {P : DV → List O → Prop} (h : wpB (m s) fun d M => ∃ xs, d = .p (.lst xs) ∧ wpB (n ⟨s.l, M⟩) fun e M2 => ∃ i z, e = .p (.int i) ∧ atI xs i = some z ∧ P (.p z) M2) : wpB (mIx m n s) P := by
  obtain ⟨d, M, e1, xs, rfl, e, M2, e2, i, z, rfl, hz, p⟩ := h
  refine ⟨_, M2, ?_, p⟩
  rw [e_ix, e_bnd, e1]
  show bnd n (pur (ixK (.p (.lst xs)))) ⟨s.l, M⟩ = _
  rw [e_bnd, e2]
  simp [hz]
theorem wp_tup2 {k : String} {me : EM} {s : S} {P : DV → List O → Prop} (h : wpB (me s) fun d M => ∃ x, d = .p x ∧ P (.p (.tup [.str (Str.ofString k), x])) M) : wpB (disp .tup (aCons (mC (.str (PySem.Str.ofString k))) (aCons me aNil)) s) P := by
  obtain ⟨d, M, e, x, rfl, p⟩ := h
  refine ⟨_, M, ?_, p⟩
  simp [e_bnd, e]
theorem w_forT (it : IM) (g : GM) (b K : SM) (s : S) (P : Fl → S → Prop) (h : wpB (it s) fun ds M => wpS (loopS g b ds ⟨s.l, M⟩) (andS K P)) : wpS (sSeq (sFor it g b) K s) P := by
  rw [w_seq, e_for, w_lift]; exact h
theorem w_retT (m : EM) (s : S) (P : Fl → S → Prop) (h : wpB (m s) fun d M => P (.rt d) ⟨s.l, M⟩) : wpS (sRet m s) P := by
  obtain ⟨d, M, e, p⟩ := h
  exact ⟨_, _, ret_run m s d M e, rfl, p⟩
theorem w_ifT (c : EM) (a K : SM) (s : S) (P : Fl → S → Prop) (h : wpB (c s) fun d M => ∃ b, d = .p (.bl b) ∧ (b = true → wpS (a ⟨s.l, M⟩) (andS K P)) ∧ (b = false → wpS (K ⟨s.l, M⟩) P)) : wpS (sSeq (sIf c a sNil) K s) P := by
  obtain ⟨d, M, e, b, rfl, h1, h2⟩ := h
  rw [w_seq]
  cases b with
  | true => rw [sif_t _ _ _ _ M e]; exact h1 rfl
  | false => rw [sif_f _ _ _ _ M e]; rw [e_nil, w_sok]; exact ⟨rfl, h2 rfl⟩
end DL
namespace Law
open PySem L2 DL
def topS (i : Nat) : Stmt := PySem.Challenge.pw_labelgrid_k10_functions_on_values.main.body.getD i (.Pass ⟨0, 0, 0, 0⟩)
def k_UNIT : D := (.int 10000)
def k_PLACES : D := (.int 4)
def k_LONGEST_TEXT : D := (.int 60)
def k_WRONG_VALUE : D := (.ktup [(.str (PySem.Str.ofString "error")), (.str (PySem.Str.ofString "value"))])
def k_MOST : D := (.int 1000000000000000)
def k_LEAST_PLACES : D := (.int (-6))
def k_MOST_PLACES : D := (.int 4)
def k_RELEASED : D := (.ktup [(.str (PySem.Str.ofString "RSUM")), (.str (PySem.Str.ofString "RCOUNT")), (.str (PySem.Str.ofString "RAVG")), (.str (PySem.Str.ofString "RMIN")), (.str (PySem.Str.ofString "RMAX"))])
def kd_NUMERIC (Ps : List Addr) : List (Str × D) := [((PySem.Str.ofString "SUM"), .fn (Ps.getD 0 0)), ((PySem.Str.ofString "COUNT"), .fn (Ps.getD 1 0)), ((PySem.Str.ofString "AVG"), .fn (Ps.getD 2 0)), ((PySem.Str.ofString "MIN"), .fn (Ps.getD 3 0)), ((PySem.Str.ofString "MAX"), .fn (Ps.getD 4 0))]
def kd_SINGLE (Ps : List Addr) : List (Str × D) := [((PySem.Str.ofString "NOT"), .fn (Ps.getD 7 0)), ((PySem.Str.ofString "LEN"), .fn (Ps.getD 8 0)), ((PySem.Str.ofString "ABS"), .fn (Ps.getD 9 0))]
def kd_DOUBLE (Ps : List Addr) : List (Str × D) := [((PySem.Str.ofString "LEFT"), .fn (Ps.getD 5 0)), ((PySem.Str.ofString "ROUND"), .fn (Ps.getD 6 0))]
def ki_NUMERIC : List Str := [(PySem.Str.ofString "SUM"), (PySem.Str.ofString "COUNT"), (PySem.Str.ofString "AVG"), (PySem.Str.ofString "MIN"), (PySem.Str.ofString "MAX")]
def km_NUMERIC : List Str := [(PySem.Str.ofString "AND"), (PySem.Str.ofString "OR"), (PySem.Str.ofString "JOIN"), (PySem.Str.ofString "NOT"), (PySem.Str.ofString "LEN"), (PySem.Str.ofString "ABS"), (PySem.Str.ofString "LEFT"), (PySem.Str.ofString "ROUND")]
def ki_SINGLE : List Str := [(PySem.Str.ofString "NOT"), (PySem.Str.ofString "LEN"), (PySem.Str.ofString "ABS")]
def km_SINGLE : List Str := [(PySem.Str.ofString "LEFT"), (PySem.Str.ofString "ROUND")]
def CFa (Fa : List Addr) : Prop := Fa.length = 10 ∧ Fa.Nodup
noncomputable def b_l_all : SM := (sSeq (sAsg (dispO aNil) (gN 1))
  (sSeq (sFor (mItD itL (mVar 0)) (gT 2 (gsCons (gN 2) (gsCons (gN 3) gsNil))) (sIf (mBin dEq (mVar 2) (mC (.str (PySem.Str.ofString "many")))) (sAsg (mCatO (mVar 1) (mCB (g1 dList) (aCons (mVar 3) aNil))) (gN 1)) (sExpr (mMth "list" gApp (mVar 1) (aCons (mVar 3) aNil)))))
  (sRet (mFrz (mVar 1)))))
noncomputable def m_l_all : List DV → List O → Option (Rs DV) := runB 4 b_l_all
noncomputable def b_l_decimal_6 : SM := (sRet (mBin dAdd (mIx (disp .lst (aCons (mC (.str (PySem.Str.ofString ""))) (aCons (mC (.str (PySem.Str.ofString "-"))) aNil))) (mCB (g1 dInt) (aCons (mBin dLt (mVar 0) (mC (.int 0))) aNil))) (mVar 2)))
noncomputable def b_l_decimal_5 : SM := (sSeq (sIf (mBin dNe (mVar 4) (mC (.str (PySem.Str.ofString "")))) (sAsg (mBin dAdd (mBin dAdd (mVar 2) (mC (.str (PySem.Str.ofString ".")))) (mVar 4)) (gN 2)) sNil) b_l_decimal_6)
noncomputable def b_l_decimal_4 : SM := (sSeq (sFor (mRng rng1D (aCons (mC (.int 4)) aNil)) (gN 3) (sIf (mAnd (mBin dNe (mVar 4) (mC (.str (PySem.Str.ofString "")))) (mBin dEq (mIx (mVar 4) (mBin dSub (mCB dLen (aCons (mVar 4) aNil)) (mC (.int 1)))) (mC (.str (PySem.Str.ofString "0"))))) (sAsg (mSlE (mVar 4) pNone (pSome (mBin dSub (mCB dLen (aCons (mVar 4) aNil)) (mC (.int 1))))) (gN 4)) sNil)) b_l_decimal_5)
noncomputable def b_l_decimal_3 : SM := (sSeq (sAsg (mSlE (mVar 1) (pSome (mBin dSub (mCB dLen (aCons (mVar 1) aNil)) (mC (.int 4)))) pNone) (gN 4)) b_l_decimal_4)
noncomputable def b_l_decimal_2 : SM := (sSeq (sFor (mRng rng1D (aCons (mC (.int 4)) aNil)) (gN 3) (sIf (mAnd (mBin dGt (mCB dLen (aCons (mVar 2) aNil)) (mC (.int 1))) (mBin dEq (mIx (mVar 2) (mC (.int 0))) (mC (.str (PySem.Str.ofString "0"))))) (sAsg (mSlE (mVar 2) (pSome (mC (.int 1))) pNone) (gN 2)) sNil)) b_l_decimal_3)
noncomputable def b_l_decimal_1 : SM := (sSeq (sAsg (mSlE (mVar 1) pNone (pSome (mBin dSub (mCB dLen (aCons (mVar 1) aNil)) (mC (.int 4))))) (gN 2)) b_l_decimal_2)
noncomputable def b_l_decimal : SM := (sSeq (sAsg (mBin dAdd (mC (.str (PySem.Str.ofString "0000"))) (mCB (g1 dStr) (aCons (mCB (g1 dAbs) (aCons (mVar 0) aNil)) aNil))) (gN 1)) b_l_decimal_1)
noncomputable def m_l_decimal : MA := runA 5 b_l_decimal
noncomputable def b_l_as_text : SM := (sSeq (sIf (mIsN (mVar 0)) (sRet (mC (.str (PySem.Str.ofString "")))) sNil)
  (sSeq (sIf (mBin dEq (mIx (mVar 0) (mC (.int 0))) (mC (.str (PySem.Str.ofString "num")))) (sRet (mCallA 1 m_l_decimal (aCons (mIx (mVar 0) (mC (.int 1))) aNil))) sNil)
  (sSeq (sIf (mBin dEq (mIx (mVar 0) (mC (.int 0))) (mC (.str (PySem.Str.ofString "bool")))) (sRet (mIx (disp .lst (aCons (mC (.str (PySem.Str.ofString "FALSE"))) (aCons (mC (.str (PySem.Str.ofString "TRUE"))) aNil))) (mCB (g1 dInt) (aCons (mIx (mVar 0) (mC (.int 1))) aNil)))) sNil)
  (sRet (mIx (mVar 0) (mC (.int 1)))))))
noncomputable def m_l_as_text : MA := runA 1 b_l_as_text
noncomputable def b_l_bad : SM := (sRet (mAnd (mNotN (mVar 0)) (mBin dEq (mIx (mVar 0) (mC (.int 0))) (mC (.str (PySem.Str.ofString "error"))))))
noncomputable def m_l_bad : MA := runA 1 b_l_bad
noncomputable def b_l_fits : SM := (sSeq (sIf (mBin dGt (mCB (g1 dAbs) (aCons (mVar 0) aNil)) (mC (.int 1000000000000000))) (sRet (disp .tup (aCons (mC (.str (PySem.Str.ofString "error"))) (aCons (mC (.str (PySem.Str.ofString "range"))) aNil)))) sNil)
  (sRet (disp .tup (aCons (mC (.str (PySem.Str.ofString "num"))) (aCons (mVar 0) aNil)))))
noncomputable def m_l_fits : MA := runA 1 b_l_fits
noncomputable def b_l_as_number : SM := (sSeq (sIf (mIsN (mVar 0)) (sRet (mC (.int 0))) sNil)
  (sSeq (sIf (mBin dEq (mIx (mVar 0) (mC (.int 0))) (mC (.str (PySem.Str.ofString "num")))) (sRet (mIx (mVar 0) (mC (.int 1)))) sNil)
  (sRet (mC .non))))
noncomputable def m_l_as_number : MA := runA 1 b_l_as_number
noncomputable def b_l_numbers : SM := (sSeq (sAsg (dispO aNil) (gN 1))
  (sSeq (sFor (mItD itL (mVar 0)) (gT 2 (gsCons (gN 2) (gsCons (gN 3) gsNil))) (sIf (mBin dEq (mVar 2) (mC (.str (PySem.Str.ofString "many")))) (sAsg (mCatO (mVar 1) (mLc (mItD itL (mVar 3)) [4] (gN 4) (mAnd (mNotN (mVar 4)) (mBin dEq (mIx (mVar 4) (mC (.int 0))) (mC (.str (PySem.Str.ofString "num"))))) (mIx (mVar 4) (mC (.int 1))))) (gN 1)) (sExpr (mMth "list" gApp (mVar 1) (aCons (mCallA 1 m_l_as_number (aCons (mVar 3) aNil)) aNil)))))
  (sRet (mFrz (mVar 1)))))
noncomputable def m_l_numbers : List DV → List O → Option (Rs DV) := runB 5 b_l_numbers
noncomputable def b_l_quotient : SM := (sSeq (sAsg (mC (.int 1)) (gN 2))
  (sSeq (sIf (mBin dNe (mBin dLt (mVar 0) (mC (.int 0))) (mBin dLt (mVar 1) (mC (.int 0)))) (sAsg (mUn dNeg (mC (.int 1))) (gN 2)) sNil)
  (sSeq (sPar 0 1 (aCons (mCB (g1 dAbs) (aCons (mVar 0) aNil)) (aCons (mCB (g1 dAbs) (aCons (mVar 1) aNil)) aNil)))
  (sSeq (sAsg (mBin dDiv (mVar 0) (mVar 1)) (gN 3))
  (sSeq (sIf (mBin dGe (mBin dMul (mC (.int 2)) (mBin dSub (mVar 0) (mBin dMul (mVar 3) (mVar 1)))) (mVar 1)) (sAsg (mBin dAdd (mVar 3) (mC (.int 1))) (gN 3)) sNil)
  (sRet (mBin dMul (mVar 2) (mVar 3))))))))
noncomputable def m_l_quotient : MA := runA 4 b_l_quotient
noncomputable def b_l_counted : SM := (sSeq (sAsg (mCallB 1 m_l_numbers (aCons (mVar 1) aNil)) (gN 2))
  (sSeq (sIf (mBin dIn (mC .non) (mVar 2)) (sRet (disp .tup (aCons (mC (.str (PySem.Str.ofString "error"))) (aCons (mC (.str (PySem.Str.ofString "value"))) aNil)))) sNil)
  (sSeq (sIf (mBin dEq (mVar 0) (mC (.str (PySem.Str.ofString "SUM")))) (sRet (mCallA 1 m_l_fits (aCons (mCB (g1 dSum) (aCons (mVar 2) aNil)) aNil))) sNil)
  (sSeq (sIf (mBin dEq (mVar 0) (mC (.str (PySem.Str.ofString "COUNT")))) (sRet (disp .tup (aCons (mC (.str (PySem.Str.ofString "num"))) (aCons (mBin dMul (mC (.int 10000)) (mCB dLen (aCons (mVar 2) aNil))) aNil)))) sNil)
  (sSeq (sIf (mBin dEq (mVar 0) (mC (.str (PySem.Str.ofString "AVG")))) (sSeq (sIf (mBin dEq (mCB dLen (aCons (mVar 2) aNil)) (mC (.int 0))) (sRet (disp .tup (aCons (mC (.str (PySem.Str.ofString "error"))) (aCons (mC (.str (PySem.Str.ofString "zero"))) aNil)))) sNil)
  (sRet (mCallA 1 m_l_fits (aCons (mCallA 2 m_l_quotient (aCons (mCB (g1 dSum) (aCons (mVar 2) aNil)) (aCons (mCB dLen (aCons (mVar 2) aNil)) aNil))) aNil)))) sNil)
  (sSeq (sAsg (mCB (g1 dSort) (aCons (mBin dAdd2 (mVar 2) (mSlE (disp .lst (aCons (mC (.int 0)) aNil)) (pSome (mCB dLen (aCons (mVar 2) aNil))) pNone)) aNil)) (gN 2))
  (sRet (disp .tup (aCons (mC (.str (PySem.Str.ofString "num"))) (aCons (mIx (mVar 2) (mIx (disp .lst (aCons (mC (.int 0)) (aCons (mBin dSub (mCB dLen (aCons (mVar 2) aNil)) (mC (.int 1))) aNil))) (mCB (g1 dInt) (aCons (mBin dEq (mVar 0) (mC (.str (PySem.Str.ofString "MAX")))) aNil)))) aNil))))))))))
noncomputable def m_l_counted : MA := runA 3 b_l_counted
noncomputable def b_l_joined : SM := (sSeq (sIf (mBin dGt (mCB dLen (aCons (mVar 0) aNil)) (mC (.int 60))) (sRet (disp .tup (aCons (mC (.str (PySem.Str.ofString "error"))) (aCons (mC (.str (PySem.Str.ofString "range"))) aNil)))) sNil)
  (sRet (disp .tup (aCons (mC (.str (PySem.Str.ofString "text"))) (aCons (mVar 0) aNil)))))
noncomputable def m_l_joined : MA := runA 1 b_l_joined
noncomputable def b_l_integer : SM := (sSeq (sAsg (mCallA 1 m_l_as_number (aCons (mVar 0) aNil)) (gN 1))
  (sSeq (sIf (mOr (mIsN (mVar 1)) (mBin dNe (mBin dMul (mBin dDiv (mVar 1) (mC (.int 10000))) (mC (.int 10000))) (mVar 1))) (sRet (mC .non)) sNil)
  (sRet (mBin dDiv (mVar 1) (mC (.int 10000))))))
noncomputable def m_l_integer : MA := runA 2 b_l_integer
noncomputable def b_l_single_11 : SM := (sRet (disp .tup (aCons (mC (.str (PySem.Str.ofString "num"))) (aCons (mBin dMul (mVar 6) (mCallA 2 m_l_quotient (aCons (mVar 4) (aCons (mVar 6) aNil)))) aNil))))
noncomputable def b_l_single_10 : SM := (sSeq (sFor (mRng rng1D (aCons (mBin dSub (mC (.int 4)) (mVar 5)) aNil)) (gN 7) (sAsg (mBin dMul (mVar 6) (mC (.int 10))) (gN 6))) b_l_single_11)
noncomputable def b_l_single_9 : SM := (sSeq (sAsg (mC (.int 1)) (gN 6)) b_l_single_10)
noncomputable def b_l_single_8 : SM := (sSeq (sIf (mOr (mIsN (mVar 5)) (mOr (mBin dLt (mVar 5) (mUn dNeg (mC (.int 6)))) (mBin dGt (mVar 5) (mC (.int 4))))) (sRet (disp .tup (aCons (mC (.str (PySem.Str.ofString "error"))) (aCons (mC (.str (PySem.Str.ofString "value"))) aNil)))) sNil) b_l_single_9)
noncomputable def b_l_single_7 : SM := (sSeq (sAsg (mCallA 1 m_l_integer (aCons (mIx (mVar 1) (mC (.int 1))) aNil)) (gN 5)) b_l_single_8)
noncomputable def b_l_single_6 : SM := (sSeq (sIf (mBin dEq (mVar 0) (mC (.str (PySem.Str.ofString "ABS")))) (sRet (disp .tup (aCons (mC (.str (PySem.Str.ofString "num"))) (aCons (mCB (g1 dAbs) (aCons (mVar 4) aNil)) aNil)))) sNil) b_l_single_7)
noncomputable def b_l_single_5 : SM := (sSeq (sIf (mIsN (mVar 4)) (sRet (disp .tup (aCons (mC (.str (PySem.Str.ofString "error"))) (aCons (mC (.str (PySem.Str.ofString "value"))) aNil)))) sNil) b_l_single_6)
noncomputable def b_l_single_4 : SM := (sSeq (sAsg (mCallA 1 m_l_as_number (aCons (mVar 2) aNil)) (gN 4)) b_l_single_5)
noncomputable def b_l_single_3 : SM := (sSeq (sIf (mBin dEq (mVar 0) (mC (.str (PySem.Str.ofString "LEFT")))) (sSeq (sAsg (mCallA 1 m_l_integer (aCons (mIx (mVar 1) (mC (.int 1))) aNil)) (gN 3))
  (sSeq (sIf (mOr (mIsN (mVar 3)) (mBin dLt (mVar 3) (mC (.int 0)))) (sRet (disp .tup (aCons (mC (.str (PySem.Str.ofString "error"))) (aCons (mC (.str (PySem.Str.ofString "value"))) aNil)))) sNil)
  (sRet (disp .tup (aCons (mC (.str (PySem.Str.ofString "text"))) (aCons (mSlE (mCallA 1 m_l_as_text (aCons (mVar 2) aNil)) pNone (pSome (mVar 3))) aNil)))))) sNil) b_l_single_4)
noncomputable def b_l_single_2 : SM := (sSeq (sIf (mBin dEq (mVar 0) (mC (.str (PySem.Str.ofString "LEN")))) (sRet (disp .tup (aCons (mC (.str (PySem.Str.ofString "num"))) (aCons (mBin dMul (mC (.int 10000)) (mCB dLen (aCons (mCallA 1 m_l_as_text (aCons (mVar 2) aNil)) aNil))) aNil)))) sNil) b_l_single_3)
noncomputable def b_l_single_1 : SM := (sSeq (sIf (mBin dEq (mVar 0) (mC (.str (PySem.Str.ofString "NOT")))) (sSeq (sIf (mOr (mIsN (mVar 2)) (mBin dEq (mIx (mVar 2) (mC (.int 0))) (mC (.str (PySem.Str.ofString "bool"))))) (sRet (disp .tup (aCons (mC (.str (PySem.Str.ofString "bool"))) (aCons (mOr (mIsN (mVar 2)) (mNot (mIx (mVar 2) (mC (.int 1))))) aNil)))) sNil)
  (sRet (disp .tup (aCons (mC (.str (PySem.Str.ofString "error"))) (aCons (mC (.str (PySem.Str.ofString "value"))) aNil))))) sNil) b_l_single_2)
noncomputable def b_l_single : SM := (sSeq (sAsg (mIx (mVar 1) (mC (.int 0))) (gN 2)) b_l_single_1)
noncomputable def m_l_single : MA := runA 8 b_l_single
noncomputable def b_l_truths : SM := (sSeq (sAsg (dispO aNil) (gN 1))
  (sSeq (sFor (mItD itL (mVar 0)) (gT 2 (gsCons (gN 2) (gsCons (gN 3) gsNil))) (sSeq (sAsg (disp .lst (aCons (mVar 3) aNil)) (gN 4))
  (sSeq (sIf (mBin dEq (mVar 2) (mC (.str (PySem.Str.ofString "many")))) (sAsg (mLc (mItD itL (mVar 3)) [5] (gN 5) (mNotN (mVar 5)) (mVar 5)) (gN 4)) sNil)
  (sFor (mItD itL (mVar 4)) (gN 5) (sIf (mIsN (mVar 5)) (sExpr (mMth "list" gApp (mVar 1) (aCons (mC (.bl false)) aNil))) (sIf (mBin dEq (mIx (mVar 5) (mC (.int 0))) (mC (.str (PySem.Str.ofString "bool")))) (sExpr (mMth "list" gApp (mVar 1) (aCons (mIx (mVar 5) (mC (.int 1))) aNil))) (sExpr (mMth "list" gApp (mVar 1) (aCons (mC .non) aNil)))))))))
  (sRet (mFrz (mVar 1)))))
noncomputable def m_l_truths : List DV → List O → Option (Rs DV) := runB 6 b_l_truths
noncomputable def b_l_called_5 : SM := (sRet (mCallA 2 m_l_single (aCons (mVar 0) (aCons (mCallB 1 m_l_all (aCons (mVar 1) aNil)) aNil))))
noncomputable def b_l_called_4 : SM := (sSeq (sIf (mBin dEq (mVar 0) (mC (.str (PySem.Str.ofString "JOIN")))) (sRet (mCallA 1 m_l_joined (aCons (mMth "str" (gP dJoin) (mC (.str (PySem.Str.ofString ""))) (aCons (mLc (mItD itL (mCallB 1 m_l_all (aCons (mVar 1) aNil))) [2] (gN 2) tYesM (mCallA 1 m_l_as_text (aCons (mVar 2) aNil))) aNil)) aNil))) sNil) b_l_called_5)
noncomputable def b_l_called_3 : SM := (sSeq (sIf (mBin dIn (mVar 0) (disp .lst (aCons (mC (.str (PySem.Str.ofString "AND"))) (aCons (mC (.str (PySem.Str.ofString "OR"))) aNil)))) (sSeq (sAsg (mCallB 1 m_l_truths (aCons (mVar 1) aNil)) (gN 3))
  (sSeq (sIf (mBin dIn (mC .non) (mVar 3)) (sRet (disp .tup (aCons (mC (.str (PySem.Str.ofString "error"))) (aCons (mC (.str (PySem.Str.ofString "value"))) aNil)))) sNil)
  (sSeq (sIf (mBin dEq (mVar 0) (mC (.str (PySem.Str.ofString "AND")))) (sRet (disp .tup (aCons (mC (.str (PySem.Str.ofString "bool"))) (aCons (mBin dNin (mC (.bl false)) (mVar 3)) aNil)))) sNil)
  (sRet (disp .tup (aCons (mC (.str (PySem.Str.ofString "bool"))) (aCons (mBin dIn (mC (.bl true)) (mVar 3)) aNil))))))) sNil) b_l_called_4)
noncomputable def b_l_called_2 : SM := (sSeq (sIf (mBin dIn (mVar 0) (disp .lst (aCons (mC (.str (PySem.Str.ofString "SUM"))) (aCons (mC (.str (PySem.Str.ofString "COUNT"))) (aCons (mC (.str (PySem.Str.ofString "AVG"))) (aCons (mC (.str (PySem.Str.ofString "MIN"))) (aCons (mC (.str (PySem.Str.ofString "MAX"))) aNil))))))) (sRet (mCallA 2 m_l_counted (aCons (mVar 0) (aCons (mVar 1) aNil)))) sNil) b_l_called_3)
noncomputable def b_l_called_1 : SM := (sSeq (sIf (mAnd (mBin dEq (mIx (mVar 0) (mC (.int 0))) (mC (.str (PySem.Str.ofString "R")))) (mBin dNe (mVar 0) (mC (.str (PySem.Str.ofString "ROUND"))))) (sAsg (mSlE (mVar 0) (pSome (mC (.int 1))) pNone) (gN 0)) sNil) b_l_called_2)
noncomputable def b_l_called : SM := (sSeq (sFor (mItD itL (mCallB 1 m_l_all (aCons (mVar 1) aNil))) (gN 2) (sIf (mTru (mCallA 1 m_l_bad (aCons (mVar 2) aNil))) (sRet (mVar 2)) sNil)) b_l_called_1)
noncomputable def m_l_called : MA := runA 4 b_l_called
noncomputable def b_l_take : SM := (sSeq (sIf (mBin dLt (mVar 1) (mC (.int 1))) (sRet (mC (.int 0))) sNil)
  (sSeq (sAsg (mIx (mVar 0) (mC (.int 1))) (gN 2))
  (sSeq (sAsg (mBin dMod (mIx (mVar 0) (mC (.int 0))) (mCB dLen (aCons (mVar 2) aNil))) (gN 3))
  (sSeq (sAsg (mIx (mVar 2) (mVar 3)) (gN 4))
  (sSeq (sIf (mBin dGe (mVar 4) (mC (.int 1000000000000000000))) (sSeq (sAsg (mBin dDiv (mVar 4) (mVar 1)) (gSet (mVar 2) (mVar 3)))
  (sRet (mBin dMod (mVar 4) (mVar 1)))) sNil)
  (sSeq (sAsg (mBin dAdd (mIx (mVar 0) (mC (.int 0))) (mC (.int 1))) (gSet (mVar 0) (mC (.int 0))))
  (sSeq (sAsg (mBin dMod (mCB (g1 dInt) (aCons (mBin dAdd (mBin dMul (mVar 4) (mC (.int 48271))) (mBin dMul (mIx (mVar 0) (mC (.int 0))) (mC (.int 69621)))) aNil)) (mC (.int 2147483647))) (gN 5))
  (sSeq (sAsg (mBin dMod (mCB (g1 dInt) (aCons (mBin dAdd (mBin dMul (mVar 5) (mC (.int 16807))) (mBin dMul (mIx (mVar 0) (mC (.int 0))) (mC (.int 7919)))) aNil)) (mC (.int 1000000007))) (gN 5))
  (sRet (mBin dMod (mBin dDiv (mVar 5) (mC (.int 7))) (mVar 1)))))))))))
noncomputable def m_l_take : List DV → List O → Option (Rs DV) := runB 6 b_l_take
noncomputable def b_l_value : SM := (sSeq (sAsg (mCallB 2 m_l_take (aCons (mVar 0) (aCons (mC (.int 9)) aNil))) (gN 1))
  (sSeq (sIf (mBin dEq (mVar 1) (mC (.int 0))) (sRet (mC .non)) sNil)
  (sSeq (sIf (mBin dLt (mVar 1) (mC (.int 4))) (sRet (disp .tup (aCons (mC (.str (PySem.Str.ofString "num"))) (aCons (mIx (disp .lst (aCons (mC (.int 0)) (aCons (mC (.int 10000)) (aCons (mUn dNeg (mC (.int 10000))) (aCons (mC (.int 25000)) (aCons (mC (.int 1)) (aCons (mUn dNeg (mC (.int 1))) (aCons (mC (.int 1000000000000000)) (aCons (mUn dNeg (mC (.int 1000000000000000))) (aCons (mC (.int 30000)) (aCons (mC (.int 100000)) aNil))))))))))) (mCallB 2 m_l_take (aCons (mVar 0) (aCons (mC (.int 10)) aNil)))) aNil)))) sNil)
  (sSeq (sIf (mBin dEq (mVar 1) (mC (.int 4))) (sRet (disp .tup (aCons (mC (.str (PySem.Str.ofString "num"))) (aCons (mBin dSub (mCallB 2 m_l_take (aCons (mVar 0) (aCons (mC (.int 200000)) aNil))) (mC (.int 100000))) aNil)))) sNil)
  (sSeq (sIf (mBin dLt (mVar 1) (mC (.int 7))) (sRet (disp .tup (aCons (mC (.str (PySem.Str.ofString "text"))) (aCons (mIx (disp .lst (aCons (mC (.str (PySem.Str.ofString ""))) (aCons (mC (.str (PySem.Str.ofString "a"))) (aCons (mC (.str (PySem.Str.ofString "b"))) (aCons (mC (.str (PySem.Str.ofString "ab"))) (aCons (mC (.str (PySem.Str.ofString "TRUE"))) (aCons (mC (.str (PySem.Str.ofString "1"))) (aCons (mBin dMulS (mC (.str (PySem.Str.ofString "z"))) (mC (.int 60))) (aCons (mC (.str (PySem.Str.ofString "B"))) (aCons (mBin dMulS (mC (.str (PySem.Str.ofString "x"))) (mC (.int 30))) aNil)))))))))) (mCallB 2 m_l_take (aCons (mVar 0) (aCons (mC (.int 9)) aNil)))) aNil)))) sNil)
  (sSeq (sIf (mBin dEq (mVar 1) (mC (.int 7))) (sRet (disp .tup (aCons (mC (.str (PySem.Str.ofString "bool"))) (aCons (mBin dEq (mCallB 2 m_l_take (aCons (mVar 0) (aCons (mC (.int 2)) aNil))) (mC (.int 0))) aNil)))) sNil)
  (sRet (disp .tup (aCons (mC (.str (PySem.Str.ofString "error"))) (aCons (mIx (disp .lst (aCons (mC (.str (PySem.Str.ofString "value"))) (aCons (mC (.str (PySem.Str.ofString "zero"))) (aCons (mC (.str (PySem.Str.ofString "range"))) (aCons (mC (.str (PySem.Str.ofString "name"))) (aCons (mC (.str (PySem.Str.ofString "cycle"))) aNil)))))) (mCallB 2 m_l_take (aCons (mVar 0) (aCons (mC (.int 5)) aNil)))) aNil))))))))))
noncomputable def m_l_value : List DV → List O → Option (Rs DV) := runB 2 b_l_value
noncomputable def b_l_clean : SM := (sSeq (sFor (mRng rng1D (aCons (mC (.int 9)) aNil)) (gN 1) (sSeq (sAsg (mCallB 1 m_l_value (aCons (mVar 0) aNil)) (gN 2))
  (sIf (mNot (mTru (mCallA 1 m_l_bad (aCons (mVar 2) aNil)))) (sRet (mVar 2)) sNil)))
  (sRet (mC .non)))
noncomputable def m_l_clean : List DV → List O → Option (Rs DV) := runB 3 b_l_clean
noncomputable def b_l_argument : SM := (sSeq (sIf (mBin dEq (mCallB 2 m_l_take (aCons (mVar 0) (aCons (mC (.int 2)) aNil))) (mC (.int 0))) (sRet (disp .tup (aCons (mC (.str (PySem.Str.ofString "one"))) (aCons (mIx (disp .lst (aCons (mCallB 1 m_l_clean (aCons (mVar 0) aNil)) (aCons (mCallB 1 m_l_value (aCons (mVar 0) aNil)) aNil))) (mCB (g1 dInt) (aCons (mVar 1) aNil))) aNil)))) sNil)
  (sSeq (sAsg (dispO aNil) (gN 2))
  (sSeq (sFor (mRng rng1D (aCons (mCallB 2 m_l_take (aCons (mVar 0) (aCons (mC (.int 7)) aNil))) aNil)) (gN 3) (sExpr (mMth "list" gApp (mVar 2) (aCons (mIx (disp .lst (aCons (mCallB 1 m_l_clean (aCons (mVar 0) aNil)) (aCons (mCallB 1 m_l_value (aCons (mVar 0) aNil)) aNil))) (mCB (g1 dInt) (aCons (mAnd (mVar 1) (mBin dEq (mCallB 2 m_l_take (aCons (mVar 0) (aCons (mC (.int 3)) aNil))) (mC (.int 0)))) aNil))) aNil))))
  (sRet (disp .tup (aCons (mC (.str (PySem.Str.ofString "many"))) (aCons (mFrz (mVar 2)) aNil)))))))
noncomputable def m_l_argument : List DV → List O → Option (Rs DV) := runB 4 b_l_argument
noncomputable def b_l_calls_9 : SM := (sRet (mBin dAdd2 (mFrz (mVar 2)) (disp .lst (aCons (disp .tup (aCons (mC (.str (PySem.Str.ofString "LEFT"))) (aCons (disp .lst (aCons (mVar 5) (aCons (mVar 7) aNil))) aNil))) (aCons (disp .tup (aCons (mC (.str (PySem.Str.ofString "ROUND"))) (aCons (disp .lst (aCons (mVar 5) (aCons (mVar 7) aNil))) aNil))) aNil)))))
noncomputable def b_l_calls_8 : SM := (sSeq (sAsg (disp .tup (aCons (mC (.str (PySem.Str.ofString "one"))) (aCons (mIx (disp .lst (aCons (mVar 6) (aCons (mVar 6) (aCons (mCallB 1 m_l_value (aCons (mVar 0) aNil)) aNil)))) (mCallB 2 m_l_take (aCons (mVar 0) (aCons (mC (.int 3)) aNil)))) aNil))) (gN 7)) b_l_calls_9)
noncomputable def b_l_calls_7 : SM := (sSeq (sAsg (disp .tup (aCons (mC (.str (PySem.Str.ofString "num"))) (aCons (mBin dMul (mC (.int 10000)) (mBin dSub (mCallB 2 m_l_take (aCons (mVar 0) (aCons (mC (.int 14)) aNil))) (mC (.int 7)))) aNil))) (gN 6)) b_l_calls_8)
noncomputable def b_l_calls_6 : SM := (sSeq (sFor (mItD itL (disp .lst (aCons (mC (.str (PySem.Str.ofString "NOT"))) (aCons (mC (.str (PySem.Str.ofString "LEN"))) (aCons (mC (.str (PySem.Str.ofString "ABS"))) aNil))))) (gN 3) (sExpr (mMth "list" gApp (mVar 2) (aCons (disp .tup (aCons (mVar 3) (aCons (disp .lst (aCons (mVar 5) aNil)) aNil))) aNil)))) b_l_calls_7)
noncomputable def b_l_calls_5 : SM := (sSeq (sAsg (disp .tup (aCons (mC (.str (PySem.Str.ofString "one"))) (aCons (mCallB 1 m_l_value (aCons (mVar 0) aNil)) aNil))) (gN 5)) b_l_calls_6)
noncomputable def b_l_calls_4 : SM := (sSeq (sFor (mItD itL (disp .lst (aCons (mC (.str (PySem.Str.ofString "RSUM"))) (aCons (mC (.str (PySem.Str.ofString "RCOUNT"))) (aCons (mC (.str (PySem.Str.ofString "RAVG"))) (aCons (mC (.str (PySem.Str.ofString "RMIN"))) (aCons (mC (.str (PySem.Str.ofString "RMAX"))) aNil))))))) (gN 3) (sExpr (mMth "list" gApp (mVar 2) (aCons (disp .tup (aCons (mVar 3) (aCons (disp .lst (aCons (mVar 4) aNil)) aNil))) aNil)))) b_l_calls_5)
noncomputable def b_l_calls_3 : SM := (sSeq (sAsg (disp .tup (aCons (mC (.str (PySem.Str.ofString "many"))) (aCons (mLc (mRng rng1D (aCons (mBin dAdd2 (mC (.int 1)) (mCallB 2 m_l_take (aCons (mVar 0) (aCons (mC (.int 5)) aNil)))) aNil)) [8] (gN 8) tYesM (mIx (disp .lst (aCons (mCallB 1 m_l_clean (aCons (mVar 0) aNil)) (aCons (mCallB 1 m_l_value (aCons (mVar 0) aNil)) aNil))) (mCB (g1 dInt) (aCons (mVar 1) aNil)))) aNil))) (gN 4)) b_l_calls_4)
noncomputable def b_l_calls_2 : SM := (sSeq (sFor (mItD itL (disp .lst (aCons (mC (.str (PySem.Str.ofString "SUM"))) (aCons (mC (.str (PySem.Str.ofString "COUNT"))) (aCons (mC (.str (PySem.Str.ofString "AVG"))) (aCons (mC (.str (PySem.Str.ofString "MIN"))) (aCons (mC (.str (PySem.Str.ofString "MAX"))) (aCons (mC (.str (PySem.Str.ofString "AND"))) (aCons (mC (.str (PySem.Str.ofString "OR"))) (aCons (mC (.str (PySem.Str.ofString "JOIN"))) aNil)))))))))) (gN 3) (sExpr (mMth "list" gApp (mVar 2) (aCons (disp .tup (aCons (mVar 3) (aCons (mLc (mRng rng1D (aCons (mBin dAdd2 (mC (.int 1)) (mCallB 2 m_l_take (aCons (mVar 0) (aCons (mC (.int 4)) aNil)))) aNil)) [8] (gN 8) tYesM (mCallB 2 m_l_argument (aCons (mVar 0) (aCons (mVar 1) aNil)))) aNil))) aNil)))) b_l_calls_3)
noncomputable def b_l_calls_1 : SM := (sSeq (sAsg (dispO aNil) (gN 2)) b_l_calls_2)
noncomputable def b_l_calls : SM := (sSeq (sAsg (mBin dEq (mCallB 2 m_l_take (aCons (mVar 0) (aCons (mC (.int 3)) aNil))) (mC (.int 0))) (gN 1)) b_l_calls_1)
noncomputable def m_l_calls : List DV → List O → Option (Rs DV) := runB 9 b_l_calls
noncomputable def b_l_state : SM := (sSeq (sAsg (mLcO (mItD itL (mSlE (mVar 0) pNone (pSome (mC (.int 63))))) [2] (gN 2) tYesM (mCB (g1 dAbs) (aCons (mVar 2) aNil))) (gN 1))
  (sSeq (sIf (mBin dEq (mCB dLen (aCons (mVar 1) aNil)) (mC (.int 0))) (sAsg (dispO (aCons (mC (.int 0)) aNil)) (gN 1)) sNil)
  (sRet (dispO (aCons (mC (.int 0)) (aCons (mVar 1) aNil))))))
noncomputable def m_l_state : List DV → List O → Option (Rs DV) := runB 3 b_l_state
noncomputable def b_show_number_4 : SM := (sRet (mJoined (jCons (mFmt (mVar 1)) (jCons (mFmt (mVar 2)) (jCons (mC (.str (PySem.Str.ofString "."))) (jCons (mFmt (mVar 3)) jNil))))))
noncomputable def b_show_number_3 : SM := (sSeq (sIf (mBin dEq (mVar 3) (mC (.str (PySem.Str.ofString "")))) (sRet (mJoined (jCons (mFmt (mVar 1)) (jCons (mFmt (mVar 2)) jNil)))) sNil) b_show_number_4)
noncomputable def b_show_number_2 : SM := (sSeq (sAsg (mMth "str" (gP dRstrip) (mMth "str" (gP dZfill) (mCB (g1 dStr) (aCons (mBin dMod (mCB (g1 dAbs) (aCons (mVar 0) aNil)) (mC k_UNIT)) aNil)) (aCons (mC k_PLACES) aNil)) (aCons (mC (.str (PySem.Str.ofString "0"))) aNil)) (gN 3)) b_show_number_3)
noncomputable def b_show_number_1 : SM := (sSeq (sAsg (mBin dDiv (mCB (g1 dAbs) (aCons (mVar 0) aNil)) (mC k_UNIT)) (gN 2)) b_show_number_2)
noncomputable def b_show_number : SM := (sSeq (sAsg (mIf (mBin dLt (mVar 0) (mC (.int 0))) (mC (.str (PySem.Str.ofString "-"))) (mC (.str (PySem.Str.ofString "")))) (gN 1)) b_show_number_1)
noncomputable def m_show_number : MA := runA 4 b_show_number
noncomputable def b_text_in : SM := (sSeq (sIf (mIsN (mVar 0)) (sRet (mC (.str (PySem.Str.ofString "")))) sNil)
  (sSeq (sIf (mBin dEq (mIx (mVar 0) (mC (.int 0))) (mC (.str (PySem.Str.ofString "num")))) (sRet (mCallA 1 m_show_number (aCons (mIx (mVar 0) (mC (.int 1))) aNil))) sNil)
  (sSeq (sIf (mBin dEq (mIx (mVar 0) (mC (.int 0))) (mC (.str (PySem.Str.ofString "bool")))) (sRet (mIf (mTru (mIx (mVar 0) (mC (.int 1)))) (mC (.str (PySem.Str.ofString "TRUE"))) (mC (.str (PySem.Str.ofString "FALSE"))))) sNil)
  (sRet (mIx (mVar 0) (mC (.int 1)))))))
noncomputable def m_text_in : MA := runA 1 b_text_in
noncomputable def b_text_value : SM := (sSeq (sIf (mBin dGt (mCB dLen (aCons (mVar 0) aNil)) (mC k_LONGEST_TEXT)) (sRet (disp .tup (aCons (mC (.str (PySem.Str.ofString "error"))) (aCons (mC (.str (PySem.Str.ofString "range"))) aNil)))) sNil)
  (sRet (disp .tup (aCons (mC (.str (PySem.Str.ofString "text"))) (aCons (mVar 0) aNil)))))
noncomputable def m_text_value : MA := runA 1 b_text_value
noncomputable def b_number_in : SM := (sSeq (sIf (mIsN (mVar 0)) (sRet (mC (.int 0))) sNil)
  (sRet (mIf (mBin dEq (mIx (mVar 0) (mC (.int 0))) (mC (.str (PySem.Str.ofString "num")))) (mIx (mVar 0) (mC (.int 1))) (mC .non))))
noncomputable def m_number_in : MA := runA 1 b_number_in
noncomputable def b_whole_in : SM := (sSeq (sAsg (mCallA 1 m_number_in (aCons (mVar 0) aNil)) (gN 1))
  (sSeq (sIf (mOr (mIsN (mVar 1)) (mBin dNe (mBin dMod (mVar 1) (mC k_UNIT)) (mC (.int 0)))) (sRet (mC .non)) sNil)
  (sRet (mBin dDiv (mVar 1) (mC k_UNIT)))))
noncomputable def m_whole_in : MA := runA 2 b_whole_in
noncomputable def b_left_of : SM := (sSeq (sAsg (mCallA 1 m_whole_in (aCons (mVar 1) aNil)) (gN 2))
  (sSeq (sIf (mOr (mIsN (mVar 2)) (mBin dLt (mVar 2) (mC (.int 0)))) (sRet (mC k_WRONG_VALUE)) sNil)
  (sRet (mCallA 1 m_text_value (aCons (mSlE (mCallA 1 m_text_in (aCons (mVar 0) aNil)) pNone (pSome (mVar 2))) aNil)))))
noncomputable def m_left_of : MA := runA 3 b_left_of
noncomputable def b_length_of : SM := (sRet (disp .tup (aCons (mC (.str (PySem.Str.ofString "num"))) (aCons (mBin dMul (mCB dLen (aCons (mCallA 1 m_text_in (aCons (mVar 0) aNil)) aNil)) (mC k_UNIT)) aNil))))
noncomputable def m_length_of : MA := runA 1 b_length_of
noncomputable def b_truth_in : SM := (sSeq (sIf (mIsN (mVar 0)) (sRet (mC (.bl false))) sNil)
  (sRet (mIf (mBin dEq (mIx (mVar 0) (mC (.int 0))) (mC (.str (PySem.Str.ofString "bool")))) (mIx (mVar 0) (mC (.int 1))) (mC .non))))
noncomputable def m_truth_in : MA := runA 1 b_truth_in
noncomputable def b_logical : SM := (sSeq (sAsg (dispO aNil) (gN 2))
  (sSeq (sFor (mItD itL (mVar 1)) (gT 2 (gsCons (gN 3) (gsCons (gN 4) gsNil))) (sIf (mBin dEq (mVar 3) (mC (.str (PySem.Str.ofString "many")))) (sExpr (mMth "list" gExt (mVar 2) (aCons (mLc (mItD itL (mVar 4)) [5] (gN 5) (mNotN (mVar 5)) (mCallA 1 m_truth_in (aCons (mVar 5) aNil))) aNil))) (sExpr (mMth "list" gApp (mVar 2) (aCons (mCallA 1 m_truth_in (aCons (mVar 4) aNil)) aNil)))))
  (sSeq (sFrz 2) (sSeq (sIf (mBin dIn (mC .non) (mFrz (mVar 2))) (sRet (mC k_WRONG_VALUE)) sNil)
  (sRet (disp .tup (aCons (mC (.str (PySem.Str.ofString "bool"))) (aCons (mIf (mBin dEq (mVar 0) (mC (.str (PySem.Str.ofString "AND")))) (mCB (g1 dAll) (aCons (mFrz (mVar 2)) aNil)) (mCB (g1 dAny) (aCons (mFrz (mVar 2)) aNil))) aNil))))))))
noncomputable def m_logical : List DV → List O → Option (Rs DV) := runB 6 b_logical
noncomputable def b_not_of : SM := (sSeq (sAsg (mCallA 1 m_truth_in (aCons (mVar 0) aNil)) (gN 1))
  (sRet (mIf (mIsN (mVar 1)) (mC k_WRONG_VALUE) (disp .tup (aCons (mC (.str (PySem.Str.ofString "bool"))) (aCons (mNot (mVar 1)) aNil))))))
noncomputable def m_not_of : MA := runA 2 b_not_of
noncomputable def b_number_value : SM := (sSeq (sIf (mChain dLe dLe (mUn dNeg (mC k_MOST)) (mVar 0) (mC k_MOST)) (sRet (disp .tup (aCons (mC (.str (PySem.Str.ofString "num"))) (aCons (mVar 0) aNil)))) sNil)
  (sRet (disp .tup (aCons (mC (.str (PySem.Str.ofString "error"))) (aCons (mC (.str (PySem.Str.ofString "range"))) aNil)))))
noncomputable def m_number_value : MA := runA 1 b_number_value
noncomputable def b_rounded : SM := (sSeq (sIf (mBin dLt (mVar 0) (mC (.int 0))) (sRet (mUn dNeg (mBin dDiv (mBin dSub (mVar 1) (mBin dMul (mC (.int 2)) (mVar 0))) (mBin dMul (mC (.int 2)) (mVar 1))))) sNil)
  (sRet (mBin dDiv (mBin dAdd (mVar 1) (mBin dMul (mC (.int 2)) (mVar 0))) (mBin dMul (mC (.int 2)) (mVar 1)))))
noncomputable def m_rounded : MA := runA 2 b_rounded
noncomputable def b_average_of : SM := (sSeq (sIf (mNot (mTru (mVar 0))) (sRet (disp .tup (aCons (mC (.str (PySem.Str.ofString "error"))) (aCons (mC (.str (PySem.Str.ofString "zero"))) aNil)))) sNil)
  (sRet (mCallA 1 m_number_value (aCons (mCallA 2 m_rounded (aCons (mCB (g1 dSum) (aCons (mVar 0) aNil)) (aCons (mCB dLen (aCons (mVar 0) aNil)) aNil))) aNil))))
noncomputable def m_average_of : MA := runA 1 b_average_of
noncomputable def b_count_of : SM := (sRet (disp .tup (aCons (mC (.str (PySem.Str.ofString "num"))) (aCons (mBin dMul (mCB dLen (aCons (mVar 0) aNil)) (mC k_UNIT)) aNil))))
noncomputable def m_count_of : MA := runA 1 b_count_of
noncomputable def b_greatest_of : SM := (sRet (disp .tup (aCons (mC (.str (PySem.Str.ofString "num"))) (aCons (mBestDf maxDf (mVar 0) (mC (.int 0))) aNil))))
noncomputable def m_greatest_of : MA := runA 1 b_greatest_of
noncomputable def b_least_of : SM := (sRet (disp .tup (aCons (mC (.str (PySem.Str.ofString "num"))) (aCons (mBestDf minDf (mVar 0) (mC (.int 0))) aNil))))
noncomputable def m_least_of : MA := runA 1 b_least_of
noncomputable def b_sum_of : SM := (sRet (mCallA 1 m_number_value (aCons (mCB (g1 dSum) (aCons (mVar 0) aNil)) aNil)))
noncomputable def m_sum_of : MA := runA 1 b_sum_of
noncomputable def b_numeric (Ps : List Addr) : SM := (sSeq (sAsg (dispO aNil) (gN 2))
  (sSeq (sFor (mItD itL (mVar 1)) (gT 2 (gsCons (gN 3) (gsCons (gN 4) gsNil))) (sIf (mBin dEq (mVar 3) (mC (.str (PySem.Str.ofString "many")))) (sExpr (mMth "list" gExt (mVar 2) (aCons (mLc (mItD itL (mVar 4)) [6] (gN 6) (mAnd (mNotN (mVar 6)) (mBin dEq (mIx (mVar 6) (mC (.int 0))) (mC (.str (PySem.Str.ofString "num"))))) (mIx (mVar 6) (mC (.int 1)))) aNil))) (sExpr (mMth "list" gApp (mVar 2) (aCons (mCallA 1 m_number_in (aCons (mVar 4) aNil)) aNil)))))
  (sSeq (sFrz 2) (sSeq (sIf (mBin dIn (mC .non) (mFrz (mVar 2))) (sRet (mC k_WRONG_VALUE)) sNil)
  (sSeq (sAsg (mKd (kd_NUMERIC Ps) (mVar 0)) (gN 5))
  (sRet (mCallV 5 1 [(Ps.getD 0 0, m_sum_of), (Ps.getD 1 0, m_count_of), (Ps.getD 2 0, m_average_of), (Ps.getD 3 0, m_least_of), (Ps.getD 4 0, m_greatest_of)] (aCons (mFrz (mVar 2)) aNil))))))))
noncomputable def m_numeric (Ps : List Addr) : List DV → List O → Option (Rs DV) := runB 7 (b_numeric Ps)
noncomputable def b_to_places : SM := (sSeq (sAsg (mC (.int 1)) (gN 2))
  (sSeq (sFor (mRng rng1D (aCons (mBin dSub (mC k_PLACES) (mVar 1)) aNil)) (gN 3) (sAsg (mBin dMul (mVar 2) (mC (.int 10))) (gN 2)))
  (sRet (mCallA 1 m_number_value (aCons (mBin dMul (mCallA 2 m_rounded (aCons (mVar 0) (aCons (mVar 2) aNil))) (mVar 2)) aNil)))))
noncomputable def m_to_places : MA := runA 4 b_to_places
noncomputable def b_round_of : SM := (sSeq (sAsg (mCallA 1 m_number_in (aCons (mVar 0) aNil)) (gN 2))
  (sSeq (sAsg (mCallA 1 m_whole_in (aCons (mVar 1) aNil)) (gN 3))
  (sSeq (sIf (mOr (mIsN (mVar 2)) (mOr (mIsN (mVar 3)) (mNot (mChain dLe dLe (mC k_LEAST_PLACES) (mVar 3) (mC k_MOST_PLACES))))) (sRet (mC k_WRONG_VALUE)) sNil)
  (sRet (mCallA 2 m_to_places (aCons (mVar 2) (aCons (mVar 3) aNil)))))))
noncomputable def m_round_of : MA := runA 4 b_round_of
noncomputable def b_size_of : SM := (sSeq (sAsg (mCallA 1 m_number_in (aCons (mVar 0) aNil)) (gN 1))
  (sRet (mIf (mIsN (mVar 1)) (mC k_WRONG_VALUE) (mCallA 1 m_number_value (aCons (mCB (g1 dAbs) (aCons (mVar 1) aNil)) aNil)))))
noncomputable def m_size_of : MA := runA 2 b_size_of
noncomputable def b_values_in : SM := (sSeq (sAsg (dispO aNil) (gN 1))
  (sSeq (sFor (mItD itL (mVar 0)) (gT 2 (gsCons (gN 2) (gsCons (gN 3) gsNil))) (sIf (mBin dEq (mVar 2) (mC (.str (PySem.Str.ofString "many")))) (sExpr (mMth "list" gExt (mVar 1) (aCons (mVar 3) aNil))) (sExpr (mMth "list" gApp (mVar 1) (aCons (mVar 3) aNil)))))
  (sRet (mFrz (mVar 1)))))
noncomputable def m_values_in : List DV → List O → Option (Rs DV) := runB 4 b_values_in
noncomputable def b_is_error : SM := (sRet (mAnd (mNotN (mVar 0)) (mBin dEq (mIx (mVar 0) (mC (.int 0))) (mC (.str (PySem.Str.ofString "error"))))))
noncomputable def m_is_error : MA := runA 1 b_is_error
noncomputable def b_apply_function_9 (Ps : List Addr) : SM := (sRet (mCallV 4 2 [(Ps.getD 5 0, m_left_of), (Ps.getD 6 0, m_round_of)] (aCons (mIx (mVar 2) (mC (.int 0))) (aCons (mIx (mVar 2) (mC (.int 1))) aNil))))
noncomputable def b_apply_function_8 (Ps : List Addr) : SM := (sSeq (sAsg (mKd (kd_DOUBLE Ps) (mVar 0)) (gN 4)) (b_apply_function_9 Ps))
noncomputable def b_apply_function_7 (Ps : List Addr) : SM := (sSeq (sIf (mInKd ki_SINGLE km_SINGLE (mVar 0)) (sSeq (sAsg (mKd (kd_SINGLE Ps) (mVar 0)) (gN 4))
  (sRet (mCallV 4 1 [(Ps.getD 7 0, m_not_of), (Ps.getD 8 0, m_length_of), (Ps.getD 9 0, m_size_of)] (aCons (mIx (mVar 2) (mC (.int 0))) aNil)))) sNil) (b_apply_function_8 Ps))
noncomputable def b_apply_function_6 (Ps : List Addr) : SM := (sSeq (sIf (mBin dEq (mVar 0) (mC (.str (PySem.Str.ofString "JOIN")))) (sRet (mCallA 1 m_text_value (aCons (mMth "str" (gP dJoin) (mC (.str (PySem.Str.ofString ""))) (aCons (mLc (mItD itL (mVar 2)) [5] (gN 5) tYesM (mCallA 1 m_text_in (aCons (mVar 5) aNil))) aNil)) aNil))) sNil) (b_apply_function_7 Ps))
noncomputable def b_apply_function_5 (Ps : List Addr) : SM := (sSeq (sIf (mOr (mBin dEq (mVar 0) (mC (.str (PySem.Str.ofString "AND")))) (mBin dEq (mVar 0) (mC (.str (PySem.Str.ofString "OR"))))) (sRet (mCallB 2 m_logical (aCons (mVar 0) (aCons (mVar 1) aNil)))) sNil) (b_apply_function_6 Ps))
noncomputable def b_apply_function_4 (Ps : List Addr) : SM := (sSeq (sIf (mInKd ki_NUMERIC km_NUMERIC (mVar 0)) (sRet (mCallB 2 (m_numeric Ps) (aCons (mVar 0) (aCons (mVar 1) aNil)))) sNil) (b_apply_function_5 Ps))
noncomputable def b_apply_function_3 (Ps : List Addr) : SM := (sSeq (sIf (mBin dIn (mVar 0) (mC k_RELEASED)) (sRet (mCallB 2 (m_numeric Ps) (aCons (mMth "str" (gP dRmpre) (mVar 0) (aCons (mC (.str (PySem.Str.ofString "R"))) aNil)) (aCons (mVar 1) aNil)))) sNil) (b_apply_function_4 Ps))
noncomputable def b_apply_function_2 (Ps : List Addr) : SM := (sSeq (sIf (mTru (mVar 3)) (sRet (mIx (mVar 3) (mC (.int 0)))) sNil) (b_apply_function_3 Ps))
noncomputable def b_apply_function_1 (Ps : List Addr) : SM := (sSeq (sAsg (mLc (mItD itL (mVar 2)) [5] (gN 5) (mTru (mCallA 1 m_is_error (aCons (mVar 5) aNil))) (mVar 5)) (gN 3)) (b_apply_function_2 Ps))
noncomputable def b_apply_function (Ps : List Addr) : SM := (sSeq (sAsg (mCallB 1 m_values_in (aCons (mVar 1) aNil)) (gN 2)) (b_apply_function_1 Ps))
noncomputable def m_apply_function (Ps : List Addr) : MA := runA 6 (b_apply_function Ps)
noncomputable def b_law_2 (Ps : List Addr) : SM := (sRet (mC (.bl true)))
noncomputable def b_law_1 (Ps : List Addr) : SM := (sSeq (sFor (mItD itL (mCallB 1 m_l_calls (aCons (mVar 1) aNil))) (gT 2 (gsCons (gN 2) (gsCons (gN 3) gsNil))) (sSeq (sAsg (mCB (g1 dRepr) (aCons (mVar 3) aNil)) (gN 4))
  (sSeq (sAsg (mCallA 2 (m_apply_function Ps) (aCons (mVar 2) (aCons (mVar 3) aNil))) (gN 5))
  (sSeq (sIf (mOr (mBin dNe (mCB (g1 dRepr) (aCons (mVar 5) aNil)) (mCB (g1 dRepr) (aCons (mCallA 2 m_l_called (aCons (mVar 2) (aCons (mVar 3) aNil))) aNil))) (mBin dNe (mCB (g1 dRepr) (aCons (mVar 3) aNil)) (mVar 4))) (sRet (mC (.bl false))) sNil)
  (sIf (mAnd (mBin dEq (mSlE (mVar 2) pNone (pSome (mC (.int 1)))) (mC (.str (PySem.Str.ofString "R")))) (mAnd (mBin dNe (mVar 2) (mC (.str (PySem.Str.ofString "ROUND")))) (mBin dNe (mVar 5) (mCallA 2 (m_apply_function Ps) (aCons (mSlE (mVar 2) (pSome (mC (.int 1))) pNone) (aCons (mVar 3) aNil)))))) (sRet (mC (.bl false))) sNil))))) (b_law_2 Ps))
noncomputable def b_law (Ps : List Addr) : SM := (sSeq (sAsg (mCallB 1 m_l_state (aCons (mVar 0) aNil)) (gN 1)) (b_law_1 Ps))
noncomputable def m_law (Ps : List Addr) : MA := runA 6 (b_law Ps)
end Law
namespace Law
open PySem L2 DL
abbrev s_l_all : Stmt := topS 53
abbrev n_l_all : List Str := ["args", "found", "kind", "what"]
theorem sc_l_all : FnScope n_l_all ["args"] (defScope s_l_all) := ⟨rfl, rfl, rfl, by decide +kernel, rfl, by decide +kernel, by decide +kernel⟩
abbrev s_l_decimal : Stmt := topS 45
abbrev n_l_decimal : List Str := ["number", "digits", "whole", "turn", "places"]
theorem sc_l_decimal : FnScope n_l_decimal ["number"] (defScope s_l_decimal) := ⟨rfl, rfl, rfl, by decide +kernel, rfl, by decide +kernel, by decide +kernel⟩
abbrev s_l_as_text : Stmt := topS 46
abbrev n_l_as_text : List Str := ["value"]
theorem sc_l_as_text : FnScope n_l_as_text ["value"] (defScope s_l_as_text) := ⟨rfl, rfl, rfl, by decide +kernel, rfl, by decide +kernel, by decide +kernel⟩
abbrev s_l_bad : Stmt := topS 43
abbrev n_l_bad : List Str := ["value"]
theorem sc_l_bad : FnScope n_l_bad ["value"] (defScope s_l_bad) := ⟨rfl, rfl, rfl, by decide +kernel, rfl, by decide +kernel, by decide +kernel⟩
abbrev s_l_fits : Stmt := topS 42
abbrev n_l_fits : List Str := ["number"]
theorem sc_l_fits : FnScope n_l_fits ["number"] (defScope s_l_fits) := ⟨rfl, rfl, rfl, by decide +kernel, rfl, by decide +kernel, by decide +kernel⟩
abbrev s_l_as_number : Stmt := topS 44
abbrev n_l_as_number : List Str := ["value"]
theorem sc_l_as_number : FnScope n_l_as_number ["value"] (defScope s_l_as_number) := ⟨rfl, rfl, rfl, by decide +kernel, rfl, by decide +kernel, by decide +kernel⟩
abbrev s_l_numbers : Stmt := topS 51
abbrev n_l_numbers : List Str := ["args", "found", "kind", "what", "value"]
theorem sc_l_numbers : FnScope n_l_numbers ["args"] (defScope s_l_numbers) := ⟨rfl, rfl, rfl, by decide +kernel, rfl, by decide +kernel, by decide +kernel⟩
abbrev s_l_quotient : Stmt := topS 41
abbrev n_l_quotient : List Str := ["a", "b", "sign", "whole"]
theorem sc_l_quotient : FnScope n_l_quotient ["a", "b"] (defScope s_l_quotient) := ⟨rfl, rfl, rfl, by decide +kernel, rfl, by decide +kernel, by decide +kernel⟩
abbrev s_l_counted : Stmt := topS 54
abbrev n_l_counted : List Str := ["name", "args", "numbers"]
theorem sc_l_counted : FnScope n_l_counted ["name", "args"] (defScope s_l_counted) := ⟨rfl, rfl, rfl, by decide +kernel, rfl, by decide +kernel, by decide +kernel⟩
abbrev s_l_joined : Stmt := topS 47
abbrev n_l_joined : List Str := ["text"]
theorem sc_l_joined : FnScope n_l_joined ["text"] (defScope s_l_joined) := ⟨rfl, rfl, rfl, by decide +kernel, rfl, by decide +kernel, by decide +kernel⟩
abbrev s_l_integer : Stmt := topS 55
abbrev n_l_integer : List Str := ["value", "number"]
theorem sc_l_integer : FnScope n_l_integer ["value"] (defScope s_l_integer) := ⟨rfl, rfl, rfl, by decide +kernel, rfl, by decide +kernel, by decide +kernel⟩
abbrev s_l_single : Stmt := topS 56
abbrev n_l_single : List Str := ["name", "values", "first", "count", "number", "places", "step", "turn"]
theorem sc_l_single : FnScope n_l_single ["name", "values"] (defScope s_l_single) := ⟨rfl, rfl, rfl, by decide +kernel, rfl, by decide +kernel, by decide +kernel⟩
abbrev s_l_truths : Stmt := topS 52
abbrev n_l_truths : List Str := ["args", "found", "kind", "what", "row", "value"]
theorem sc_l_truths : FnScope n_l_truths ["args"] (defScope s_l_truths) := ⟨rfl, rfl, rfl, by decide +kernel, rfl, by decide +kernel, by decide +kernel⟩
abbrev s_l_called : Stmt := topS 57
abbrev n_l_called : List Str := ["name", "args", "value", "truths"]
theorem sc_l_called : FnScope n_l_called ["name", "args"] (defScope s_l_called) := ⟨rfl, rfl, rfl, by decide +kernel, rfl, by decide +kernel, by decide +kernel⟩
abbrev s_l_take : Stmt := topS 39
abbrev n_l_take : List Str := ["state", "most", "cells", "at", "cell", "mixed"]
theorem sc_l_take : FnScope n_l_take ["state", "most"] (defScope s_l_take) := ⟨rfl, rfl, rfl, by decide +kernel, rfl, by decide +kernel, by decide +kernel⟩
abbrev s_l_value : Stmt := topS 40
abbrev n_l_value : List Str := ["state", "kind"]
theorem sc_l_value : FnScope n_l_value ["state"] (defScope s_l_value) := ⟨rfl, rfl, rfl, by decide +kernel, rfl, by decide +kernel, by decide +kernel⟩
abbrev s_l_clean : Stmt := topS 58
abbrev n_l_clean : List Str := ["state", "turn", "value"]
theorem sc_l_clean : FnScope n_l_clean ["state"] (defScope s_l_clean) := ⟨rfl, rfl, rfl, by decide +kernel, rfl, by decide +kernel, by decide +kernel⟩
abbrev s_l_argument : Stmt := topS 59
abbrev n_l_argument : List Str := ["state", "errors", "row", "k"]
theorem sc_l_argument : FnScope n_l_argument ["state", "errors"] (defScope s_l_argument) := ⟨rfl, rfl, rfl, by decide +kernel, rfl, by decide +kernel, by decide +kernel⟩
abbrev s_l_calls : Stmt := topS 60
abbrev n_l_calls : List Str := ["state", "errors", "calls", "name", "only", "first", "count", "second", "k"]
theorem sc_l_calls : FnScope n_l_calls ["state"] (defScope s_l_calls) := ⟨rfl, rfl, rfl, by decide +kernel, rfl, by decide +kernel, by decide +kernel⟩
abbrev s_l_state : Stmt := topS 38
abbrev n_l_state : List Str := ["script", "cells", "cell"]
theorem sc_l_state : FnScope n_l_state ["script"] (defScope s_l_state) := ⟨rfl, rfl, rfl, by decide +kernel, rfl, by decide +kernel, by decide +kernel⟩
abbrev s_show_number : Stmt := topS 7
abbrev n_show_number : List Str := ["n", "sign", "whole", "behind"]
theorem sc_show_number : FnScope n_show_number ["n"] (defScope s_show_number) := ⟨rfl, rfl, rfl, by decide +kernel, rfl, by decide +kernel, by decide +kernel⟩
abbrev s_text_in : Stmt := topS 18
abbrev n_text_in : List Str := ["value"]
theorem sc_text_in : FnScope n_text_in ["value"] (defScope s_text_in) := ⟨rfl, rfl, rfl, by decide +kernel, rfl, by decide +kernel, by decide +kernel⟩
abbrev s_text_value : Stmt := topS 19
abbrev n_text_value : List Str := ["text"]
theorem sc_text_value : FnScope n_text_value ["text"] (defScope s_text_value) := ⟨rfl, rfl, rfl, by decide +kernel, rfl, by decide +kernel, by decide +kernel⟩
abbrev s_number_in : Stmt := topS 15
abbrev n_number_in : List Str := ["value"]
theorem sc_number_in : FnScope n_number_in ["value"] (defScope s_number_in) := ⟨rfl, rfl, rfl, by decide +kernel, rfl, by decide +kernel, by decide +kernel⟩
abbrev s_whole_in : Stmt := topS 16
abbrev n_whole_in : List Str := ["value", "n"]
theorem sc_whole_in : FnScope n_whole_in ["value"] (defScope s_whole_in) := ⟨rfl, rfl, rfl, by decide +kernel, rfl, by decide +kernel, by decide +kernel⟩
abbrev s_left_of : Stmt := topS 27
abbrev n_left_of : List Str := ["value", "size", "count"]
theorem sc_left_of : FnScope n_left_of ["value", "size"] (defScope s_left_of) := ⟨rfl, rfl, rfl, by decide +kernel, rfl, by decide +kernel, by decide +kernel⟩
abbrev s_length_of : Stmt := topS 26
abbrev n_length_of : List Str := ["value"]
theorem sc_length_of : FnScope n_length_of ["value"] (defScope s_length_of) := ⟨rfl, rfl, rfl, by decide +kernel, rfl, by decide +kernel, by decide +kernel⟩
abbrev s_truth_in : Stmt := topS 17
abbrev n_truth_in : List Str := ["value"]
theorem sc_truth_in : FnScope n_truth_in ["value"] (defScope s_truth_in) := ⟨rfl, rfl, rfl, by decide +kernel, rfl, by decide +kernel, by decide +kernel⟩
abbrev s_logical : Stmt := topS 35
abbrev n_logical : List Str := ["name", "args", "truths", "kind", "what", "value"]
theorem sc_logical : FnScope n_logical ["name", "args"] (defScope s_logical) := ⟨rfl, rfl, rfl, by decide +kernel, rfl, by decide +kernel, by decide +kernel⟩
abbrev s_not_of : Stmt := topS 25
abbrev n_not_of : List Str := ["value", "truth"]
theorem sc_not_of : FnScope n_not_of ["value"] (defScope s_not_of) := ⟨rfl, rfl, rfl, by decide +kernel, rfl, by decide +kernel, by decide +kernel⟩
abbrev s_number_value : Stmt := topS 5
abbrev n_number_value : List Str := ["n"]
theorem sc_number_value : FnScope n_number_value ["n"] (defScope s_number_value) := ⟨rfl, rfl, rfl, by decide +kernel, rfl, by decide +kernel, by decide +kernel⟩
abbrev s_rounded : Stmt := topS 4
abbrev n_rounded : List Str := ["a", "b"]
theorem sc_rounded : FnScope n_rounded ["a", "b"] (defScope s_rounded) := ⟨rfl, rfl, rfl, by decide +kernel, rfl, by decide +kernel, by decide +kernel⟩
abbrev s_average_of : Stmt := topS 22
abbrev n_average_of : List Str := ["numbers"]
theorem sc_average_of : FnScope n_average_of ["numbers"] (defScope s_average_of) := ⟨rfl, rfl, rfl, by decide +kernel, rfl, by decide +kernel, by decide +kernel⟩
abbrev s_count_of : Stmt := topS 21
abbrev n_count_of : List Str := ["numbers"]
theorem sc_count_of : FnScope n_count_of ["numbers"] (defScope s_count_of) := ⟨rfl, rfl, rfl, by decide +kernel, rfl, by decide +kernel, by decide +kernel⟩
abbrev s_greatest_of : Stmt := topS 24
abbrev n_greatest_of : List Str := ["numbers"]
theorem sc_greatest_of : FnScope n_greatest_of ["numbers"] (defScope s_greatest_of) := ⟨rfl, rfl, rfl, by decide +kernel, rfl, by decide +kernel, by decide +kernel⟩
abbrev s_least_of : Stmt := topS 23
abbrev n_least_of : List Str := ["numbers"]
theorem sc_least_of : FnScope n_least_of ["numbers"] (defScope s_least_of) := ⟨rfl, rfl, rfl, by decide +kernel, rfl, by decide +kernel, by decide +kernel⟩
abbrev s_sum_of : Stmt := topS 20
abbrev n_sum_of : List Str := ["numbers"]
theorem sc_sum_of : FnScope n_sum_of ["numbers"] (defScope s_sum_of) := ⟨rfl, rfl, rfl, by decide +kernel, rfl, by decide +kernel, by decide +kernel⟩
abbrev s_numeric : Stmt := topS 34
abbrev n_numeric : List Str := ["name", "args", "numbers", "kind", "what", "action", "value"]
theorem sc_numeric : FnScope n_numeric ["name", "args"] (defScope s_numeric) := ⟨rfl, rfl, rfl, by decide +kernel, rfl, by decide +kernel, by decide +kernel⟩
abbrev s_to_places : Stmt := topS 6
abbrev n_to_places : List Str := ["n", "places", "step", "_"]
theorem sc_to_places : FnScope n_to_places ["n", "places"] (defScope s_to_places) := ⟨rfl, rfl, rfl, by decide +kernel, rfl, by decide +kernel, by decide +kernel⟩
abbrev s_round_of : Stmt := topS 29
abbrev n_round_of : List Str := ["value", "size", "n", "places"]
theorem sc_round_of : FnScope n_round_of ["value", "size"] (defScope s_round_of) := ⟨rfl, rfl, rfl, by decide +kernel, rfl, by decide +kernel, by decide +kernel⟩
abbrev s_size_of : Stmt := topS 28
abbrev n_size_of : List Str := ["value", "n"]
theorem sc_size_of : FnScope n_size_of ["value"] (defScope s_size_of) := ⟨rfl, rfl, rfl, by decide +kernel, rfl, by decide +kernel, by decide +kernel⟩
abbrev s_values_in : Stmt := topS 33
abbrev n_values_in : List Str := ["args", "values", "kind", "what"]
theorem sc_values_in : FnScope n_values_in ["args"] (defScope s_values_in) := ⟨rfl, rfl, rfl, by decide +kernel, rfl, by decide +kernel, by decide +kernel⟩
abbrev s_is_error : Stmt := topS 14
abbrev n_is_error : List Str := ["value"]
theorem sc_is_error : FnScope n_is_error ["value"] (defScope s_is_error) := ⟨rfl, rfl, rfl, by decide +kernel, rfl, by decide +kernel, by decide +kernel⟩
abbrev s_apply_function : Stmt := topS 36
abbrev n_apply_function : List Str := ["name", "args", "values", "errors", "action", "value"]
theorem sc_apply_function : FnScope n_apply_function ["name", "args"] (defScope s_apply_function) := ⟨rfl, rfl, rfl, by decide +kernel, rfl, by decide +kernel, by decide +kernel⟩
abbrev s_law : Stmt := topS 61
abbrev n_law : List Str := ["script", "state", "name", "args", "kept", "told"]
theorem sc_law : FnScope n_law ["script"] (defScope s_law) := ⟨rfl, rfl, rfl, by decide +kernel, rfl, by decide +kernel, by decide +kernel⟩
structure Tx (K : PySem.W.Frag) (w : World) (mg : Str → Option Value) where
  f__law_all : Df K mg "_law_all" s_l_all ["args"]
  f__law_decimal : Df K mg "_law_decimal" s_l_decimal ["number"]
  f__law_as_text : Df K mg "_law_as_text" s_l_as_text ["value"]
  f__law_bad : Df K mg "_law_bad" s_l_bad ["value"]
  f__law_fits : Df K mg "_law_fits" s_l_fits ["number"]
  f__law_as_number : Df K mg "_law_as_number" s_l_as_number ["value"]
  f__law_numbers : Df K mg "_law_numbers" s_l_numbers ["args"]
  f__law_quotient : Df K mg "_law_quotient" s_l_quotient ["a", "b"]
  f__law_counted : Df K mg "_law_counted" s_l_counted ["name", "args"]
  f__law_joined : Df K mg "_law_joined" s_l_joined ["text"]
  f__law_integer : Df K mg "_law_integer" s_l_integer ["value"]
  f__law_single : Df K mg "_law_single" s_l_single ["name", "values"]
  f__law_truths : Df K mg "_law_truths" s_l_truths ["args"]
  f__law_called : Df K mg "_law_called" s_l_called ["name", "args"]
  f__law_take : Df K mg "_law_take" s_l_take ["state", "most"]
  f__law_value : Df K mg "_law_value" s_l_value ["state"]
  f__law_clean : Df K mg "_law_clean" s_l_clean ["state"]
  f__law_argument : Df K mg "_law_argument" s_l_argument ["state", "errors"]
  f__law_calls : Df K mg "_law_calls" s_l_calls ["state"]
  f__law_state : Df K mg "_law_state" s_l_state ["script"]
  f_show_number : Df K mg "show_number" s_show_number ["n"]
  f_text_in : Df K mg "text_in" s_text_in ["value"]
  f_text_value : Df K mg "text_value" s_text_value ["text"]
  f_number_in : Df K mg "number_in" s_number_in ["value"]
  f_whole_in : Df K mg "whole_in" s_whole_in ["value"]
  f__left_of : Df K mg "_left_of" s_left_of ["value", "size"]
  f__length_of : Df K mg "_length_of" s_length_of ["value"]
  f_truth_in : Df K mg "truth_in" s_truth_in ["value"]
  f__logical : Df K mg "_logical" s_logical ["name", "args"]
  f__not_of : Df K mg "_not_of" s_not_of ["value"]
  f_number_value : Df K mg "number_value" s_number_value ["n"]
  f_rounded : Df K mg "rounded" s_rounded ["a", "b"]
  f__average_of : Df K mg "_average_of" s_average_of ["numbers"]
  f__count_of : Df K mg "_count_of" s_count_of ["numbers"]
  f__greatest_of : Df K mg "_greatest_of" s_greatest_of ["numbers"]
  f__least_of : Df K mg "_least_of" s_least_of ["numbers"]
  f__sum_of : Df K mg "_sum_of" s_sum_of ["numbers"]
  f__numeric : Df K mg "_numeric" s_numeric ["name", "args"]
  f_to_places : Df K mg "to_places" s_to_places ["n", "places"]
  f__round_of : Df K mg "_round_of" s_round_of ["value", "size"]
  f__size_of : Df K mg "_size_of" s_size_of ["value"]
  f__values_in : Df K mg "_values_in" s_values_in ["args"]
  f_is_error : Df K mg "is_error" s_is_error ["value"]
  f_apply_function : Df K mg "apply_function" s_apply_function ["name", "args"]
  f_law : Df K mg "law" s_law ["script"]
  c_UNIT : GC K mg "UNIT" k_UNIT
  c_PLACES : GC K mg "PLACES" k_PLACES
  c_LONGEST_TEXT : GC K mg "LONGEST_TEXT" k_LONGEST_TEXT
  c_WRONG_VALUE : GC K mg "WRONG_VALUE" k_WRONG_VALUE
  c_MOST : GC K mg "MOST" k_MOST
  c_LEAST_PLACES : GC K mg "LEAST_PLACES" k_LEAST_PLACES
  c_MOST_PLACES : GC K mg "MOST_PLACES" k_MOST_PLACES
  c_RELEASED : GC K mg "RELEASED" k_RELEASED
  d_NUMERIC : GD K w mg "NUMERIC" (kd_NUMERIC [f__sum_of.a, f__count_of.a, f__average_of.a, f__least_of.a, f__greatest_of.a, f__left_of.a, f__round_of.a, f__not_of.a, f__length_of.a, f__size_of.a])
  d_SINGLE : GD K w mg "SINGLE" (kd_SINGLE [f__sum_of.a, f__count_of.a, f__average_of.a, f__least_of.a, f__greatest_of.a, f__left_of.a, f__round_of.a, f__not_of.a, f__length_of.a, f__size_of.a])
  d_DOUBLE : GD K w mg "DOUBLE" (kd_DOUBLE [f__sum_of.a, f__count_of.a, f__average_of.a, f__least_of.a, f__greatest_of.a, f__left_of.a, f__round_of.a, f__not_of.a, f__length_of.a, f__size_of.a])
  i_NUMERIC : GIn K w mg "NUMERIC" ki_NUMERIC km_NUMERIC
  i_SINGLE : GIn K w mg "SINGLE" ki_SINGLE km_SINGLE
  n_abs : mg "abs" = none
  n_all : mg "all" = none
  n_any : mg "any" = none
  n_int : mg "int" = none
  n_len : mg "len" = none
  n_list : mg "list" = none
  n_max : mg "max" = none
  n_min : mg "min" = none
  n_range : mg "range" = none
  n_repr : mg "repr" = none
  n_sorted : mg "sorted" = none
  n_str : mg "str" = none
  n_sum : mg "sum" = none
abbrev Tx.Fa {K : PySem.W.Frag} {w : World} {mg : Str → Option Value} (T : Tx K w mg) : List Addr := [T.f__sum_of.a, T.f__count_of.a, T.f__average_of.a, T.f__least_of.a, T.f__greatest_of.a, T.f__left_of.a, T.f__round_of.a, T.f__not_of.a, T.f__length_of.a, T.f__size_of.a]
section
variable {P : Program} {w : World} {K : PySem.W.Frag} {mg : Str → Option Value} {base : Heap}
theorem ok_l_all (T : Tx K w mg) : FnOk P w K mg base (L2.CX P w) 1 T.f__law_all.a T.f__law_all.fd ["args"] (spB K 1 m_l_all) := by
  refine fnB (N := n_l_all) T.f__law_all.F sc_l_all fun cdv A outer s H E hr => ?_
  have nd := sc_l_all.nd
  have tk := takes_of (X := cxOf (L2.CX P w) P w K mg base n_l_all "_law_all" (defScope s_l_all) T.f__law_all.a cdv A outer s H E) (E := E) rfl rfl rfl rfl
  exact ⟨_, (dss_cons (ds_set (i := 1) nd (de_lstO da_nil))
  (dss_cons (ds_for (passes_of rfl) rfl (di_list (de_var 0)) (dg_tup rfl (dgs_cons (dg_name (i := 2) nd) (dgs_cons (dg_name (i := 3) nd) dgs_nil))) (dss_one (ds_if (dt_cmp (od_eq hr.units) bool_dEq (de_var 2) de_str) (dss_one (ds_set (i := 1) nd (de_catO (de_var 1) (de_callTy cd_list T.n_list (da_cons (de_var 3) da_nil))))) (dss_one (ds_expr (de_mth md_app (de_var 1) (da_cons (de_var 3) da_nil) PySem.F.plainAttrs_list PySem.F.slot_list_append PySem.F.type_list_append))))))
  (dss_one (ds_ret (de_frz (de_var 1))))))⟩
theorem ok_l_decimal (T : Tx K w mg) : FnOk P w K mg base (L2.CX P w) 1 T.f__law_decimal.a T.f__law_decimal.fd ["number"] (spA K 1 m_l_decimal) := by
  refine fnA (N := n_l_decimal) T.f__law_decimal.F sc_l_decimal fun cdv A outer s H E hr => ?_
  have nd := sc_l_decimal.nd
  have tk := takes_of (X := cxOf (L2.CX P w) P w K mg base n_l_decimal "_law_decimal" (defScope s_l_decimal) T.f__law_decimal.a cdv A outer s H E) (E := E) rfl rfl rfl rfl
  exact ⟨_, (dss_cons (ds_set (i := 1) nd (de_bin od_add de_str (de_callTy cd_str T.n_str (da_cons (de_callB cd_abs T.n_abs (da_cons (de_var 0) da_nil)) da_nil))))
  (dss_cons (ds_set (i := 2) nd (de_sl (de_var 1) dp_none (dp_some (de_bin od_sub (de_callB cd_len T.n_len (da_cons (de_var 1) da_nil)) de_int))))
  (dss_cons (ds_for (passes_of rfl) rfl (di_range1 T.n_range (da_cons de_int da_nil)) (dg_name (i := 3) nd) (dss_one (ds_if (dt_w (dw_and (dt_cmp od_gt bool_dIb (de_callB cd_len T.n_len (da_cons (de_var 2) da_nil)) de_int) (dw_and1 (dt_cmp (od_eq hr.units) bool_dEq (de_ix (de_var 2) de_int) de_str)))) (dss_one (ds_set (i := 2) nd (de_sl (de_var 2) (dp_some de_int) dp_none))) dss_nil)))
  (dss_cons (ds_set (i := 4) nd (de_sl (de_var 1) (dp_some (de_bin od_sub (de_callB cd_len T.n_len (da_cons (de_var 1) da_nil)) de_int)) dp_none))
  (dss_cons (ds_for (passes_of rfl) rfl (di_range1 T.n_range (da_cons de_int da_nil)) (dg_name (i := 3) nd) (dss_one (ds_if (dt_w (dw_and (dt_cmp (od_ne hr.units) bool_dNe (de_var 4) de_str) (dw_and1 (dt_cmp (od_eq hr.units) bool_dEq (de_ix (de_var 4) (de_bin od_sub (de_callB cd_len T.n_len (da_cons (de_var 4) da_nil)) de_int)) de_str)))) (dss_one (ds_set (i := 4) nd (de_sl (de_var 4) dp_none (dp_some (de_bin od_sub (de_callB cd_len T.n_len (da_cons (de_var 4) da_nil)) de_int))))) dss_nil)))
  (dss_cons (ds_if (dt_cmp (od_ne hr.units) bool_dNe (de_var 4) de_str) (dss_one (ds_set (i := 2) nd (de_bin od_add (de_bin od_add (de_var 2) de_str) (de_var 4)))) dss_nil)
  (dss_one (ds_ret (de_bin od_add (de_ix (de_lst (da_cons de_str (da_cons de_str da_nil))) (de_callTy cd_int T.n_int (da_cons (de_cmp od_lt (de_var 0) de_int) da_nil))) (de_var 2))))))))))⟩
theorem ok_l_as_text (T : Tx K w mg) : FnOk P w K mg base (L2.CX P w) 2 T.f__law_as_text.a T.f__law_as_text.fd ["value"] (spA K 1 m_l_as_text) := by
  refine fnA (N := n_l_as_text) T.f__law_as_text.F sc_l_as_text fun cdv A outer s H E hr => ?_
  have nd := sc_l_as_text.nd
  have tk := takes_of (X := cxOf (L2.CX P w) P w K mg base n_l_as_text "_law_as_text" (defScope s_l_as_text) T.f__law_as_text.a cdv A outer s H E) (E := E) rfl rfl rfl rfl
  exact ⟨_, (dss_cons (ds_if (dt_isN (de_var 0)) (dss_one (ds_ret de_str)) dss_nil)
  (dss_cons (ds_if (dt_cmp (od_eq hr.units) bool_dEq (de_ix (de_var 0) de_int) de_str) (dss_one (ds_ret (de_callA ((ok_l_decimal T).mono (by decide)) hr tk T.f__law_decimal.m T.f__law_decimal.F.kp T.f__law_decimal.b (da_cons (de_ix (de_var 0) de_int) da_nil)))) dss_nil)
  (dss_cons (ds_if (dt_cmp (od_eq hr.units) bool_dEq (de_ix (de_var 0) de_int) de_str) (dss_one (ds_ret (de_ix (de_lst (da_cons de_str (da_cons de_str da_nil))) (de_callTy cd_int T.n_int (da_cons (de_ix (de_var 0) de_int) da_nil))))) dss_nil)
  (dss_one (ds_ret (de_ix (de_var 0) de_int))))))⟩
theorem ok_l_bad (T : Tx K w mg) : FnOk P w K mg base (L2.CX P w) 1 T.f__law_bad.a T.f__law_bad.fd ["value"] (spA K 1 m_l_bad) := by
  refine fnA (N := n_l_bad) T.f__law_bad.F sc_l_bad fun cdv A outer s H E hr => ?_
  have nd := sc_l_bad.nd
  have tk := takes_of (X := cxOf (L2.CX P w) P w K mg base n_l_bad "_law_bad" (defScope s_l_bad) T.f__law_bad.a cdv A outer s H E) (E := E) rfl rfl rfl rfl
  exact ⟨_, (dss_one (ds_ret (de_and (de_notN (de_var 0)) (de_one (de_cmp (od_eq hr.units) (de_ix (de_var 0) de_int) de_str)))))⟩
theorem ok_l_fits (T : Tx K w mg) : FnOk P w K mg base (L2.CX P w) 1 T.f__law_fits.a T.f__law_fits.fd ["number"] (spA K 1 m_l_fits) := by
  refine fnA (N := n_l_fits) T.f__law_fits.F sc_l_fits fun cdv A outer s H E hr => ?_
  have nd := sc_l_fits.nd
  have tk := takes_of (X := cxOf (L2.CX P w) P w K mg base n_l_fits "_law_fits" (defScope s_l_fits) T.f__law_fits.a cdv A outer s H E) (E := E) rfl rfl rfl rfl
  exact ⟨_, (dss_cons (ds_if (dt_cmp od_gt bool_dIb (de_callB cd_abs T.n_abs (da_cons (de_var 0) da_nil)) de_int) (dss_one (ds_ret (de_tup (da_cons de_str (da_cons de_str da_nil))))) dss_nil)
  (dss_one (ds_ret (de_tup (da_cons de_str (da_cons (de_var 0) da_nil))))))⟩
theorem ok_l_as_number (T : Tx K w mg) : FnOk P w K mg base (L2.CX P w) 1 T.f__law_as_number.a T.f__law_as_number.fd ["value"] (spA K 1 m_l_as_number) := by
  refine fnA (N := n_l_as_number) T.f__law_as_number.F sc_l_as_number fun cdv A outer s H E hr => ?_
  have nd := sc_l_as_number.nd
  have tk := takes_of (X := cxOf (L2.CX P w) P w K mg base n_l_as_number "_law_as_number" (defScope s_l_as_number) T.f__law_as_number.a cdv A outer s H E) (E := E) rfl rfl rfl rfl
  exact ⟨_, (dss_cons (ds_if (dt_isN (de_var 0)) (dss_one (ds_ret de_int)) dss_nil)
  (dss_cons (ds_if (dt_cmp (od_eq hr.units) bool_dEq (de_ix (de_var 0) de_int) de_str) (dss_one (ds_ret (de_ix (de_var 0) de_int))) dss_nil)
  (dss_one (ds_ret de_non))))⟩
theorem ok_l_numbers (T : Tx K w mg) : FnOk P w K mg base (L2.CX P w) 2 T.f__law_numbers.a T.f__law_numbers.fd ["args"] (spB K 1 m_l_numbers) := by
  refine fnB (N := n_l_numbers) T.f__law_numbers.F sc_l_numbers fun cdv A outer s H E hr => ?_
  have nd := sc_l_numbers.nd
  have tk := takes_of (X := cxOf (L2.CX P w) P w K mg base n_l_numbers "_law_numbers" (defScope s_l_numbers) T.f__law_numbers.a cdv A outer s H E) (E := E) rfl rfl rfl rfl
  exact ⟨_, (dss_cons (ds_set (i := 1) nd (de_lstO da_nil))
  (dss_cons (ds_for (passes_of rfl) rfl (di_list (de_var 0)) (dg_tup rfl (dgs_cons (dg_name (i := 2) nd) (dgs_cons (dg_name (i := 3) nd) dgs_nil))) (dss_one (ds_if (dt_cmp (od_eq hr.units) bool_dEq (de_var 2) de_str) (dss_one (ds_set (i := 1) nd (de_catO (de_var 1) (de_lc nd rfl (di_list (de_var 3)) (blkOk_by (own := [((PySem.Str.ofString "value"), 4)]) (N := n_l_numbers) (sc := defScope s_l_numbers) (by decide +kernel)) (fun _ _ _ _ _ => (dg_name (i := 4) nd)) (fun _ _ _ _ _ => (dpt_one (dt_w (dw_and (dt_notN (de_var 4)) (dw_and1 (dt_cmp (od_eq hr.units) bool_dEq (de_ix (de_var 4) de_int) de_str)))))) (fun _ _ _ _ _ => (de_ix (de_var 4) de_int)))))) (dss_one (ds_expr (de_mth md_app (de_var 1) (da_cons (de_callA ((ok_l_as_number T).mono (by decide)) hr tk T.f__law_as_number.m T.f__law_as_number.F.kp T.f__law_as_number.b (da_cons (de_var 3) da_nil)) da_nil) PySem.F.plainAttrs_list PySem.F.slot_list_append PySem.F.type_list_append))))))
  (dss_one (ds_ret (de_frz (de_var 1))))))⟩
theorem ok_l_quotient (T : Tx K w mg) : FnOk P w K mg base (L2.CX P w) 1 T.f__law_quotient.a T.f__law_quotient.fd ["a", "b"] (spA K 2 m_l_quotient) := by
  refine fnA (N := n_l_quotient) T.f__law_quotient.F sc_l_quotient fun cdv A outer s H E hr => ?_
  have nd := sc_l_quotient.nd
  have tk := takes_of (X := cxOf (L2.CX P w) P w K mg base n_l_quotient "_law_quotient" (defScope s_l_quotient) T.f__law_quotient.a cdv A outer s H E) (E := E) rfl rfl rfl rfl
  exact ⟨_, (dss_cons (ds_set (i := 2) nd de_int)
  (dss_cons (ds_if (dt_cmp (od_ne hr.units) bool_dNe (de_cmp od_lt (de_var 0) de_int) (de_cmp od_lt (de_var 1) de_int)) (dss_one (ds_set (i := 2) nd (de_usub de_int))) dss_nil)
  (dss_cons (ds_par (i := 0) (j := 1) rfl nd (da_cons (de_callB cd_abs T.n_abs (da_cons (de_var 0) da_nil)) (da_cons (de_callB cd_abs T.n_abs (da_cons (de_var 1) da_nil)) da_nil)))
  (dss_cons (ds_set (i := 3) nd (de_bin od_fdiv (de_var 0) (de_var 1)))
  (dss_cons (ds_if (dt_cmp od_ge bool_dIb (de_bin od_mul de_int (de_bin od_sub (de_var 0) (de_bin od_mul (de_var 3) (de_var 1)))) (de_var 1)) (dss_one (ds_set (i := 3) nd (de_bin od_add (de_var 3) de_int))) dss_nil)
  (dss_one (ds_ret (de_bin od_mul (de_var 2) (de_var 3)))))))))⟩
theorem ok_l_counted (T : Tx K w mg) : FnOk P w K mg base (L2.CX P w) 3 T.f__law_counted.a T.f__law_counted.fd ["name", "args"] (spA K 2 m_l_counted) := by
  refine fnA (N := n_l_counted) T.f__law_counted.F sc_l_counted fun cdv A outer s H E hr => ?_
  have nd := sc_l_counted.nd
  have tk := takes_of (X := cxOf (L2.CX P w) P w K mg base n_l_counted "_law_counted" (defScope s_l_counted) T.f__law_counted.a cdv A outer s H E) (E := E) rfl rfl rfl rfl
  exact ⟨_, (dss_cons (ds_set (i := 2) nd (de_callB' ((ok_l_numbers T).mono (by decide)) hr tk T.f__law_numbers.m T.f__law_numbers.F.kp T.f__law_numbers.b (da_cons (de_var 1) da_nil)))
  (dss_cons (ds_if (dt_cmp (od_in (units65 hr)) bool_dIn de_non (de_var 2)) (dss_one (ds_ret (de_tup (da_cons de_str (da_cons de_str da_nil))))) dss_nil)
  (dss_cons (ds_if (dt_cmp (od_eq hr.units) bool_dEq (de_var 0) de_str) (dss_one (ds_ret (de_callA ((ok_l_fits T).mono (by decide)) hr tk T.f__law_fits.m T.f__law_fits.F.kp T.f__law_fits.b (da_cons (de_callB (cd_sum rfl) T.n_sum (da_cons (de_var 2) da_nil)) da_nil)))) dss_nil)
  (dss_cons (ds_if (dt_cmp (od_eq hr.units) bool_dEq (de_var 0) de_str) (dss_one (ds_ret (de_tup (da_cons de_str (da_cons (de_bin od_mul de_int (de_callB cd_len T.n_len (da_cons (de_var 2) da_nil))) da_nil))))) dss_nil)
  (dss_cons (ds_if (dt_cmp (od_eq hr.units) bool_dEq (de_var 0) de_str) (dss_cons (ds_if (dt_cmp (od_eq hr.units) bool_dEq (de_callB cd_len T.n_len (da_cons (de_var 2) da_nil)) de_int) (dss_one (ds_ret (de_tup (da_cons de_str (da_cons de_str da_nil))))) dss_nil)
  (dss_one (ds_ret (de_callA ((ok_l_fits T).mono (by decide)) hr tk T.f__law_fits.m T.f__law_fits.F.kp T.f__law_fits.b (da_cons (de_callA ((ok_l_quotient T).mono (by decide)) hr tk T.f__law_quotient.m T.f__law_quotient.F.kp T.f__law_quotient.b (da_cons (de_callB (cd_sum rfl) T.n_sum (da_cons (de_var 2) da_nil)) (da_cons (de_callB cd_len T.n_len (da_cons (de_var 2) da_nil)) da_nil))) da_nil))))) dss_nil)
  (dss_cons (ds_set (i := 2) nd (de_callB (cd_sort (units67 hr)) T.n_sorted (da_cons (de_bin od_add2 (de_var 2) (de_sl (de_lst (da_cons de_int da_nil)) (dp_some (de_callB cd_len T.n_len (da_cons (de_var 2) da_nil))) dp_none)) da_nil)))
  (dss_one (ds_ret (de_tup (da_cons de_str (da_cons (de_ix (de_var 2) (de_ix (de_lst (da_cons de_int (da_cons (de_bin od_sub (de_callB cd_len T.n_len (da_cons (de_var 2) da_nil)) de_int) da_nil))) (de_callTy cd_int T.n_int (da_cons (de_cmp (od_eq hr.units) (de_var 0) de_str) da_nil)))) da_nil)))))))))))⟩
theorem ok_l_joined (T : Tx K w mg) : FnOk P w K mg base (L2.CX P w) 1 T.f__law_joined.a T.f__law_joined.fd ["text"] (spA K 1 m_l_joined) := by
  refine fnA (N := n_l_joined) T.f__law_joined.F sc_l_joined fun cdv A outer s H E hr => ?_
  have nd := sc_l_joined.nd
  have tk := takes_of (X := cxOf (L2.CX P w) P w K mg base n_l_joined "_law_joined" (defScope s_l_joined) T.f__law_joined.a cdv A outer s H E) (E := E) rfl rfl rfl rfl
  exact ⟨_, (dss_cons (ds_if (dt_cmp od_gt bool_dIb (de_callB cd_len T.n_len (da_cons (de_var 0) da_nil)) de_int) (dss_one (ds_ret (de_tup (da_cons de_str (da_cons de_str da_nil))))) dss_nil)
  (dss_one (ds_ret (de_tup (da_cons de_str (da_cons (de_var 0) da_nil))))))⟩
theorem ok_l_integer (T : Tx K w mg) : FnOk P w K mg base (L2.CX P w) 2 T.f__law_integer.a T.f__law_integer.fd ["value"] (spA K 1 m_l_integer) := by
  refine fnA (N := n_l_integer) T.f__law_integer.F sc_l_integer fun cdv A outer s H E hr => ?_
  have nd := sc_l_integer.nd
  have tk := takes_of (X := cxOf (L2.CX P w) P w K mg base n_l_integer "_law_integer" (defScope s_l_integer) T.f__law_integer.a cdv A outer s H E) (E := E) rfl rfl rfl rfl
  exact ⟨_, (dss_cons (ds_set (i := 1) nd (de_callA ((ok_l_as_number T).mono (by decide)) hr tk T.f__law_as_number.m T.f__law_as_number.F.kp T.f__law_as_number.b (da_cons (de_var 0) da_nil)))
  (dss_cons (ds_if (dt_w (dw_or (dt_isN (de_var 1)) (dw_or1 (dt_cmp (od_ne hr.units) bool_dNe (de_bin od_mul (de_bin od_fdiv (de_var 1) de_int) de_int) (de_var 1))))) (dss_one (ds_ret de_non)) dss_nil)
  (dss_one (ds_ret (de_bin od_fdiv (de_var 1) de_int)))))⟩
theorem ok_l_single (T : Tx K w mg) : FnOk P w K mg base (L2.CX P w) 3 T.f__law_single.a T.f__law_single.fd ["name", "values"] (spA K 2 m_l_single) := by
  refine fnA (N := n_l_single) T.f__law_single.F sc_l_single fun cdv A outer s H E hr => ?_
  have nd := sc_l_single.nd
  have tk := takes_of (X := cxOf (L2.CX P w) P w K mg base n_l_single "_law_single" (defScope s_l_single) T.f__law_single.a cdv A outer s H E) (E := E) rfl rfl rfl rfl
  exact ⟨_, (dss_cons (ds_set (i := 2) nd (de_ix (de_var 1) de_int))
  (dss_cons (ds_if (dt_cmp (od_eq hr.units) bool_dEq (de_var 0) de_str) (dss_cons (ds_if (dt_w (dw_or (dt_isN (de_var 2)) (dw_or1 (dt_cmp (od_eq hr.units) bool_dEq (de_ix (de_var 2) de_int) de_str)))) (dss_one (ds_ret (de_tup (da_cons de_str (da_cons (de_or (de_isN (de_var 2)) (de_one (de_not (de_ix (de_var 2) de_int)))) da_nil))))) dss_nil)
  (dss_one (ds_ret (de_tup (da_cons de_str (da_cons de_str da_nil)))))) dss_nil)
  (dss_cons (ds_if (dt_cmp (od_eq hr.units) bool_dEq (de_var 0) de_str) (dss_one (ds_ret (de_tup (da_cons de_str (da_cons (de_bin od_mul de_int (de_callB cd_len T.n_len (da_cons (de_callA ((ok_l_as_text T).mono (by decide)) hr tk T.f__law_as_text.m T.f__law_as_text.F.kp T.f__law_as_text.b (da_cons (de_var 2) da_nil)) da_nil))) da_nil))))) dss_nil)
  (dss_cons (ds_if (dt_cmp (od_eq hr.units) bool_dEq (de_var 0) de_str) (dss_cons (ds_set (i := 3) nd (de_callA ((ok_l_integer T).mono (by decide)) hr tk T.f__law_integer.m T.f__law_integer.F.kp T.f__law_integer.b (da_cons (de_ix (de_var 1) de_int) da_nil)))
  (dss_cons (ds_if (dt_w (dw_or (dt_isN (de_var 3)) (dw_or1 (dt_cmp od_lt bool_dIb (de_var 3) de_int)))) (dss_one (ds_ret (de_tup (da_cons de_str (da_cons de_str da_nil))))) dss_nil)
  (dss_one (ds_ret (de_tup (da_cons de_str (da_cons (de_sl (de_callA ((ok_l_as_text T).mono (by decide)) hr tk T.f__law_as_text.m T.f__law_as_text.F.kp T.f__law_as_text.b (da_cons (de_var 2) da_nil)) dp_none (dp_some (de_var 3))) da_nil))))))) dss_nil)
  (dss_cons (ds_set (i := 4) nd (de_callA ((ok_l_as_number T).mono (by decide)) hr tk T.f__law_as_number.m T.f__law_as_number.F.kp T.f__law_as_number.b (da_cons (de_var 2) da_nil)))
  (dss_cons (ds_if (dt_isN (de_var 4)) (dss_one (ds_ret (de_tup (da_cons de_str (da_cons de_str da_nil))))) dss_nil)
  (dss_cons (ds_if (dt_cmp (od_eq hr.units) bool_dEq (de_var 0) de_str) (dss_one (ds_ret (de_tup (da_cons de_str (da_cons (de_callB cd_abs T.n_abs (da_cons (de_var 4) da_nil)) da_nil))))) dss_nil)
  (dss_cons (ds_set (i := 5) nd (de_callA ((ok_l_integer T).mono (by decide)) hr tk T.f__law_integer.m T.f__law_integer.F.kp T.f__law_integer.b (da_cons (de_ix (de_var 1) de_int) da_nil)))
  (dss_cons (ds_if (dt_w (dw_or (dt_isN (de_var 5)) (dw_or (dt_cmp od_lt bool_dIb (de_var 5) (de_usub de_int)) (dw_or1 (dt_cmp od_gt bool_dIb (de_var 5) de_int))))) (dss_one (ds_ret (de_tup (da_cons de_str (da_cons de_str da_nil))))) dss_nil)
  (dss_cons (ds_set (i := 6) nd de_int)
  (dss_cons (ds_for (passes_of rfl) rfl (di_range1 T.n_range (da_cons (de_bin od_sub de_int (de_var 5)) da_nil)) (dg_name (i := 7) nd) (dss_one (ds_set (i := 6) nd (de_bin od_mul (de_var 6) de_int))))
  (dss_one (ds_ret (de_tup (da_cons de_str (da_cons (de_bin od_mul (de_var 6) (de_callA ((ok_l_quotient T).mono (by decide)) hr tk T.f__law_quotient.m T.f__law_quotient.F.kp T.f__law_quotient.b (da_cons (de_var 4) (da_cons (de_var 6) da_nil)))) da_nil))))))))))))))))⟩
theorem ok_l_truths (T : Tx K w mg) : FnOk P w K mg base (L2.CX P w) 1 T.f__law_truths.a T.f__law_truths.fd ["args"] (spB K 1 m_l_truths) := by
  refine fnB (N := n_l_truths) T.f__law_truths.F sc_l_truths fun cdv A outer s H E hr => ?_
  have nd := sc_l_truths.nd
  have tk := takes_of (X := cxOf (L2.CX P w) P w K mg base n_l_truths "_law_truths" (defScope s_l_truths) T.f__law_truths.a cdv A outer s H E) (E := E) rfl rfl rfl rfl
  exact ⟨_, (dss_cons (ds_set (i := 1) nd (de_lstO da_nil))
  (dss_cons (ds_for (passes_of rfl) rfl (di_list (de_var 0)) (dg_tup rfl (dgs_cons (dg_name (i := 2) nd) (dgs_cons (dg_name (i := 3) nd) dgs_nil))) (dss_cons (ds_set (i := 4) nd (de_lst (da_cons (de_var 3) da_nil)))
  (dss_cons (ds_if (dt_cmp (od_eq hr.units) bool_dEq (de_var 2) de_str) (dss_one (ds_setLc (i := 4) nd rfl (di_list (de_var 3)) (blkOk_by (own := [((PySem.Str.ofString "value"), 5)]) (N := n_l_truths) (sc := defScope s_l_truths) (by decide +kernel)) (fun _ _ _ _ _ => (dg_name (i := 5) nd)) (fun _ _ _ _ _ => (dpt_one (dt_notN (de_var 5)))) (fun _ _ _ _ _ => (de_var 5)))) dss_nil)
  (dss_one (ds_for (passes_of rfl) rfl (di_list (de_var 4)) (dg_name (i := 5) nd) (dss_one (ds_if (dt_isN (de_var 5)) (dss_one (ds_expr (de_mth md_app (de_var 1) (da_cons de_bl da_nil) PySem.F.plainAttrs_list PySem.F.slot_list_append PySem.F.type_list_append))) (dss_one (ds_if (dt_cmp (od_eq hr.units) bool_dEq (de_ix (de_var 5) de_int) de_str) (dss_one (ds_expr (de_mth md_app (de_var 1) (da_cons (de_ix (de_var 5) de_int) da_nil) PySem.F.plainAttrs_list PySem.F.slot_list_append PySem.F.type_list_append))) (dss_one (ds_expr (de_mth md_app (de_var 1) (da_cons de_non da_nil) PySem.F.plainAttrs_list PySem.F.slot_list_append PySem.F.type_list_append))))))))))))
  (dss_one (ds_ret (de_frz (de_var 1))))))⟩
theorem ok_l_called (T : Tx K w mg) : FnOk P w K mg base (L2.CX P w) 4 T.f__law_called.a T.f__law_called.fd ["name", "args"] (spA K 2 m_l_called) := by
  refine fnA (N := n_l_called) T.f__law_called.F sc_l_called fun cdv A outer s H E hr => ?_
  have nd := sc_l_called.nd
  have tk := takes_of (X := cxOf (L2.CX P w) P w K mg base n_l_called "_law_called" (defScope s_l_called) T.f__law_called.a cdv A outer s H E) (E := E) rfl rfl rfl rfl
  exact ⟨_, (dss_cons (ds_for (passes_of rfl) rfl (di_list (de_callB' ((ok_l_all T).mono (by decide)) hr tk T.f__law_all.m T.f__law_all.F.kp T.f__law_all.b (da_cons (de_var 1) da_nil))) (dg_name (i := 2) nd) (dss_one (ds_if (dt_tru (de_callA ((ok_l_bad T).mono (by decide)) hr tk T.f__law_bad.m T.f__law_bad.F.kp T.f__law_bad.b (da_cons (de_var 2) da_nil))) (dss_one (ds_ret (de_var 2))) dss_nil)))
  (dss_cons (ds_if (dt_w (dw_and (dt_cmp (od_eq hr.units) bool_dEq (de_ix (de_var 0) de_int) de_str) (dw_and1 (dt_cmp (od_ne hr.units) bool_dNe (de_var 0) de_str)))) (dss_one (ds_set (i := 0) nd (de_sl (de_var 0) (dp_some de_int) dp_none))) dss_nil)
  (dss_cons (ds_if (dt_cmp (od_in (units65 hr)) bool_dIn (de_var 0) (de_lst (da_cons de_str (da_cons de_str (da_cons de_str (da_cons de_str (da_cons de_str da_nil))))))) (dss_one (ds_ret (de_callA ((ok_l_counted T).mono (by decide)) hr tk T.f__law_counted.m T.f__law_counted.F.kp T.f__law_counted.b (da_cons (de_var 0) (da_cons (de_var 1) da_nil))))) dss_nil)
  (dss_cons (ds_if (dt_cmp (od_in (units65 hr)) bool_dIn (de_var 0) (de_lst (da_cons de_str (da_cons de_str da_nil)))) (dss_cons (ds_set (i := 3) nd (de_callB' ((ok_l_truths T).mono (by decide)) hr tk T.f__law_truths.m T.f__law_truths.F.kp T.f__law_truths.b (da_cons (de_var 1) da_nil)))
  (dss_cons (ds_if (dt_cmp (od_in (units65 hr)) bool_dIn de_non (de_var 3)) (dss_one (ds_ret (de_tup (da_cons de_str (da_cons de_str da_nil))))) dss_nil)
  (dss_cons (ds_if (dt_cmp (od_eq hr.units) bool_dEq (de_var 0) de_str) (dss_one (ds_ret (de_tup (da_cons de_str (da_cons (de_cmp (od_nin (units65 hr)) de_bl (de_var 3)) da_nil))))) dss_nil)
  (dss_one (ds_ret (de_tup (da_cons de_str (da_cons (de_cmp (od_in (units65 hr)) de_bl (de_var 3)) da_nil)))))))) dss_nil)
  (dss_cons (ds_if (dt_cmp (od_eq hr.units) bool_dEq (de_var 0) de_str) (dss_one (ds_ret (de_callA ((ok_l_joined T).mono (by decide)) hr tk T.f__law_joined.m T.f__law_joined.F.kp T.f__law_joined.b (da_cons (de_mth md_join de_str (da_cons (de_lc nd rfl (di_list (de_callB' ((ok_l_all T).mono (by decide)) hr tk T.f__law_all.m T.f__law_all.F.kp T.f__law_all.b (da_cons (de_var 1) da_nil))) (blkOk_by (own := [((PySem.Str.ofString "value"), 2)]) (N := n_l_called) (sc := defScope s_l_called) (by decide +kernel)) (fun _ _ _ _ _ => (dg_name (i := 2) nd)) (fun _ _ _ _ _ => dpt_nil) (fun _ _ _ _ _ => (de_callA ((ok_l_as_text T).mono (by decide)) hr takes0 T.f__law_as_text.m T.f__law_as_text.F.kp T.f__law_as_text.b (da_cons (de_var 2) da_nil)))) da_nil) PySem.F.plainAttrs_str PySem.F.slot_str_join PySem.F.type_str_join) da_nil)))) dss_nil)
  (dss_one (ds_ret (de_callA ((ok_l_single T).mono (by decide)) hr tk T.f__law_single.m T.f__law_single.F.kp T.f__law_single.b (da_cons (de_var 0) (da_cons (de_callB' ((ok_l_all T).mono (by decide)) hr tk T.f__law_all.m T.f__law_all.F.kp T.f__law_all.b (da_cons (de_var 1) da_nil)) da_nil))))))))))⟩
theorem ok_l_take (T : Tx K w mg) : FnOk P w K mg base (L2.CX P w) 1 T.f__law_take.a T.f__law_take.fd ["state", "most"] (spB K 2 m_l_take) := by
  refine fnB (N := n_l_take) T.f__law_take.F sc_l_take fun cdv A outer s H E hr => ?_
  have nd := sc_l_take.nd
  have tk := takes_of (X := cxOf (L2.CX P w) P w K mg base n_l_take "_law_take" (defScope s_l_take) T.f__law_take.a cdv A outer s H E) (E := E) rfl rfl rfl rfl
  exact ⟨_, (dss_cons (ds_if (dt_cmp od_lt bool_dIb (de_var 1) de_int) (dss_one (ds_ret de_int)) dss_nil)
  (dss_cons (ds_set (i := 2) nd (de_ix (de_var 0) de_int))
  (dss_cons (ds_set (i := 3) nd (de_bin od_mod (de_ix (de_var 0) de_int) (de_callB cd_len T.n_len (da_cons (de_var 2) da_nil))))
  (dss_cons (ds_set (i := 4) nd (de_ix (de_var 2) (de_var 3)))
  (dss_cons (ds_if (dt_cmp od_ge bool_dIb (de_var 4) de_int) (dss_cons (ds_asg (de_bin od_fdiv (de_var 4) (de_var 1)) (dg_set (de_var 2) (de_var 3)))
  (dss_one (ds_ret (de_bin od_mod (de_var 4) (de_var 1))))) dss_nil)
  (dss_cons (ds_asg (de_bin od_add (de_ix (de_var 0) de_int) de_int) (dg_set (de_var 0) de_int))
  (dss_cons (ds_set (i := 5) nd (de_bin od_mod (de_callTy cd_int T.n_int (da_cons (de_bin od_add (de_bin od_mul (de_var 4) de_int) (de_bin od_mul (de_ix (de_var 0) de_int) de_int)) da_nil)) de_int))
  (dss_cons (ds_set (i := 5) nd (de_bin od_mod (de_callTy cd_int T.n_int (da_cons (de_bin od_add (de_bin od_mul (de_var 5) de_int) (de_bin od_mul (de_ix (de_var 0) de_int) de_int)) da_nil)) de_int))
  (dss_one (ds_ret (de_bin od_mod (de_bin od_fdiv (de_var 5) de_int) (de_var 1))))))))))))⟩
theorem ok_l_value (T : Tx K w mg) : FnOk P w K mg base (L2.CX P w) 2 T.f__law_value.a T.f__law_value.fd ["state"] (spB K 1 m_l_value) := by
  refine fnB (N := n_l_value) T.f__law_value.F sc_l_value fun cdv A outer s H E hr => ?_
  have nd := sc_l_value.nd
  have tk := takes_of (X := cxOf (L2.CX P w) P w K mg base n_l_value "_law_value" (defScope s_l_value) T.f__law_value.a cdv A outer s H E) (E := E) rfl rfl rfl rfl
  exact ⟨_, (dss_cons (ds_set (i := 1) nd (de_callB' ((ok_l_take T).mono (by decide)) hr tk T.f__law_take.m T.f__law_take.F.kp T.f__law_take.b (da_cons (de_var 0) (da_cons de_int da_nil))))
  (dss_cons (ds_if (dt_cmp (od_eq hr.units) bool_dEq (de_var 1) de_int) (dss_one (ds_ret de_non)) dss_nil)
  (dss_cons (ds_if (dt_cmp od_lt bool_dIb (de_var 1) de_int) (dss_one (ds_ret (de_tup (da_cons de_str (da_cons (de_ix (de_lst (da_cons de_int (da_cons de_int (da_cons (de_usub de_int) (da_cons de_int (da_cons de_int (da_cons (de_usub de_int) (da_cons de_int (da_cons (de_usub de_int) (da_cons de_int (da_cons de_int da_nil))))))))))) (de_callB' ((ok_l_take T).mono (by decide)) hr tk T.f__law_take.m T.f__law_take.F.kp T.f__law_take.b (da_cons (de_var 0) (da_cons de_int da_nil)))) da_nil))))) dss_nil)
  (dss_cons (ds_if (dt_cmp (od_eq hr.units) bool_dEq (de_var 1) de_int) (dss_one (ds_ret (de_tup (da_cons de_str (da_cons (de_bin od_sub (de_callB' ((ok_l_take T).mono (by decide)) hr tk T.f__law_take.m T.f__law_take.F.kp T.f__law_take.b (da_cons (de_var 0) (da_cons de_int da_nil))) de_int) da_nil))))) dss_nil)
  (dss_cons (ds_if (dt_cmp od_lt bool_dIb (de_var 1) de_int) (dss_one (ds_ret (de_tup (da_cons de_str (da_cons (de_ix (de_lst (da_cons de_str (da_cons de_str (da_cons de_str (da_cons de_str (da_cons de_str (da_cons de_str (da_cons (de_bin od_mulS de_str de_int) (da_cons de_str (da_cons (de_bin od_mulS de_str de_int) da_nil)))))))))) (de_callB' ((ok_l_take T).mono (by decide)) hr tk T.f__law_take.m T.f__law_take.F.kp T.f__law_take.b (da_cons (de_var 0) (da_cons de_int da_nil)))) da_nil))))) dss_nil)
  (dss_cons (ds_if (dt_cmp (od_eq hr.units) bool_dEq (de_var 1) de_int) (dss_one (ds_ret (de_tup (da_cons de_str (da_cons (de_cmp (od_eq hr.units) (de_callB' ((ok_l_take T).mono (by decide)) hr tk T.f__law_take.m T.f__law_take.F.kp T.f__law_take.b (da_cons (de_var 0) (da_cons de_int da_nil))) de_int) da_nil))))) dss_nil)
  (dss_one (ds_ret (de_tup (da_cons de_str (da_cons (de_ix (de_lst (da_cons de_str (da_cons de_str (da_cons de_str (da_cons de_str (da_cons de_str da_nil)))))) (de_callB' ((ok_l_take T).mono (by decide)) hr tk T.f__law_take.m T.f__law_take.F.kp T.f__law_take.b (da_cons (de_var 0) (da_cons de_int da_nil)))) da_nil)))))))))))⟩
theorem ok_l_clean (T : Tx K w mg) : FnOk P w K mg base (L2.CX P w) 3 T.f__law_clean.a T.f__law_clean.fd ["state"] (spB K 1 m_l_clean) := by
  refine fnB (N := n_l_clean) T.f__law_clean.F sc_l_clean fun cdv A outer s H E hr => ?_
  have nd := sc_l_clean.nd
  have tk := takes_of (X := cxOf (L2.CX P w) P w K mg base n_l_clean "_law_clean" (defScope s_l_clean) T.f__law_clean.a cdv A outer s H E) (E := E) rfl rfl rfl rfl
  exact ⟨_, (dss_cons (ds_for (passes_of rfl) rfl (di_range1 T.n_range (da_cons de_int da_nil)) (dg_name (i := 1) nd) (dss_cons (ds_set (i := 2) nd (de_callB' ((ok_l_value T).mono (by decide)) hr tk T.f__law_value.m T.f__law_value.F.kp T.f__law_value.b (da_cons (de_var 0) da_nil)))
  (dss_one (ds_if (dt_not (dt_tru (de_callA ((ok_l_bad T).mono (by decide)) hr tk T.f__law_bad.m T.f__law_bad.F.kp T.f__law_bad.b (da_cons (de_var 2) da_nil)))) (dss_one (ds_ret (de_var 2))) dss_nil))))
  (dss_one (ds_ret de_non)))⟩
theorem ok_l_argument (T : Tx K w mg) : FnOk P w K mg base (L2.CX P w) 4 T.f__law_argument.a T.f__law_argument.fd ["state", "errors"] (spB K 2 m_l_argument) := by
  refine fnB (N := n_l_argument) T.f__law_argument.F sc_l_argument fun cdv A outer s H E hr => ?_
  have nd := sc_l_argument.nd
  have tk := takes_of (X := cxOf (L2.CX P w) P w K mg base n_l_argument "_law_argument" (defScope s_l_argument) T.f__law_argument.a cdv A outer s H E) (E := E) rfl rfl rfl rfl
  exact ⟨_, (dss_cons (ds_if (dt_cmp (od_eq hr.units) bool_dEq (de_callB' ((ok_l_take T).mono (by decide)) hr tk T.f__law_take.m T.f__law_take.F.kp T.f__law_take.b (da_cons (de_var 0) (da_cons de_int da_nil))) de_int) (dss_one (ds_ret (de_tup (da_cons de_str (da_cons (de_ix (de_lst (da_cons (de_callB' ((ok_l_clean T).mono (by decide)) hr tk T.f__law_clean.m T.f__law_clean.F.kp T.f__law_clean.b (da_cons (de_var 0) da_nil)) (da_cons (de_callB' ((ok_l_value T).mono (by decide)) hr tk T.f__law_value.m T.f__law_value.F.kp T.f__law_value.b (da_cons (de_var 0) da_nil)) da_nil))) (de_callTy cd_int T.n_int (da_cons (de_var 1) da_nil))) da_nil))))) dss_nil)
  (dss_cons (ds_set (i := 2) nd (de_lstO da_nil))
  (dss_cons (ds_for (passes_of rfl) rfl (di_range1 T.n_range (da_cons (de_callB' ((ok_l_take T).mono (by decide)) hr tk T.f__law_take.m T.f__law_take.F.kp T.f__law_take.b (da_cons (de_var 0) (da_cons de_int da_nil))) da_nil)) (dg_name (i := 3) nd) (dss_one (ds_expr (de_mth md_app (de_var 2) (da_cons (de_ix (de_lst (da_cons (de_callB' ((ok_l_clean T).mono (by decide)) hr tk T.f__law_clean.m T.f__law_clean.F.kp T.f__law_clean.b (da_cons (de_var 0) da_nil)) (da_cons (de_callB' ((ok_l_value T).mono (by decide)) hr tk T.f__law_value.m T.f__law_value.F.kp T.f__law_value.b (da_cons (de_var 0) da_nil)) da_nil))) (de_callTy cd_int T.n_int (da_cons (de_and (de_var 1) (de_one (de_cmp (od_eq hr.units) (de_callB' ((ok_l_take T).mono (by decide)) hr tk T.f__law_take.m T.f__law_take.F.kp T.f__law_take.b (da_cons (de_var 0) (da_cons de_int da_nil))) de_int))) da_nil))) da_nil) PySem.F.plainAttrs_list PySem.F.slot_list_append PySem.F.type_list_append))))
  (dss_one (ds_ret (de_tup (da_cons de_str (da_cons (de_frz (de_var 2)) da_nil))))))))⟩
theorem ok_l_calls (T : Tx K w mg) : FnOk P w K mg base (L2.CX P w) 5 T.f__law_calls.a T.f__law_calls.fd ["state"] (spB K 1 m_l_calls) := by
  refine fnB (N := n_l_calls) T.f__law_calls.F sc_l_calls fun cdv A outer s H E hr => ?_
  have nd := sc_l_calls.nd
  have tk := takes_of (X := cxOf (L2.CX P w) P w K mg base n_l_calls "_law_calls" (defScope s_l_calls) T.f__law_calls.a cdv A outer s H E) (E := E) rfl rfl rfl rfl
  exact ⟨_, (dss_cons (ds_set (i := 1) nd (de_cmp (od_eq hr.units) (de_callB' ((ok_l_take T).mono (by decide)) hr tk T.f__law_take.m T.f__law_take.F.kp T.f__law_take.b (da_cons (de_var 0) (da_cons de_int da_nil))) de_int))
  (dss_cons (ds_set (i := 2) nd (de_lstO da_nil))
  (dss_cons (ds_for (passes_of rfl) rfl (di_list (de_lst (da_cons de_str (da_cons de_str (da_cons de_str (da_cons de_str (da_cons de_str (da_cons de_str (da_cons de_str (da_cons de_str da_nil)))))))))) (dg_name (i := 3) nd) (dss_one (ds_expr (de_mth md_app (de_var 2) (da_cons (de_tup (da_cons (de_var 3) (da_cons (de_lc nd rfl (di_range1 T.n_range (da_cons (de_bin od_add2 de_int (de_callB' ((ok_l_take T).mono (by decide)) hr tk T.f__law_take.m T.f__law_take.F.kp T.f__law_take.b (da_cons (de_var 0) (da_cons de_int da_nil)))) da_nil)) (blkOk_by (own := [((PySem.Str.ofString "k"), 8)]) (N := n_l_calls) (sc := defScope s_l_calls) (by decide +kernel)) (fun _ _ _ _ _ => (dg_name (i := 8) nd)) (fun _ _ _ _ _ => dpt_nil) (fun _ _ _ _ _ => (de_callB' ((ok_l_argument T).mono (by decide)) hr takes0 T.f__law_argument.m T.f__law_argument.F.kp T.f__law_argument.b (da_cons (de_var 0) (da_cons (de_var 1) da_nil))))) da_nil))) da_nil) PySem.F.plainAttrs_list PySem.F.slot_list_append PySem.F.type_list_append))))
  (dss_cons (ds_set (i := 4) nd (de_tup (da_cons de_str (da_cons (de_lc nd rfl (di_range1 T.n_range (da_cons (de_bin od_add2 de_int (de_callB' ((ok_l_take T).mono (by decide)) hr tk T.f__law_take.m T.f__law_take.F.kp T.f__law_take.b (da_cons (de_var 0) (da_cons de_int da_nil)))) da_nil)) (blkOk_by (own := [((PySem.Str.ofString "k"), 8)]) (N := n_l_calls) (sc := defScope s_l_calls) (by decide +kernel)) (fun _ _ _ _ _ => (dg_name (i := 8) nd)) (fun _ _ _ _ _ => dpt_nil) (fun _ _ _ _ _ => (de_ix (de_lst (da_cons (de_callB' ((ok_l_clean T).mono (by decide)) hr takes0 T.f__law_clean.m T.f__law_clean.F.kp T.f__law_clean.b (da_cons (de_var 0) da_nil)) (da_cons (de_callB' ((ok_l_value T).mono (by decide)) hr takes0 T.f__law_value.m T.f__law_value.F.kp T.f__law_value.b (da_cons (de_var 0) da_nil)) da_nil))) (de_callTy cd_int T.n_int (da_cons (de_var 1) da_nil))))) da_nil))))
  (dss_cons (ds_for (passes_of rfl) rfl (di_list (de_lst (da_cons de_str (da_cons de_str (da_cons de_str (da_cons de_str (da_cons de_str da_nil))))))) (dg_name (i := 3) nd) (dss_one (ds_expr (de_mth md_app (de_var 2) (da_cons (de_tup (da_cons (de_var 3) (da_cons (de_lst (da_cons (de_var 4) da_nil)) da_nil))) da_nil) PySem.F.plainAttrs_list PySem.F.slot_list_append PySem.F.type_list_append))))
  (dss_cons (ds_set (i := 5) nd (de_tup (da_cons de_str (da_cons (de_callB' ((ok_l_value T).mono (by decide)) hr tk T.f__law_value.m T.f__law_value.F.kp T.f__law_value.b (da_cons (de_var 0) da_nil)) da_nil))))
  (dss_cons (ds_for (passes_of rfl) rfl (di_list (de_lst (da_cons de_str (da_cons de_str (da_cons de_str da_nil))))) (dg_name (i := 3) nd) (dss_one (ds_expr (de_mth md_app (de_var 2) (da_cons (de_tup (da_cons (de_var 3) (da_cons (de_lst (da_cons (de_var 5) da_nil)) da_nil))) da_nil) PySem.F.plainAttrs_list PySem.F.slot_list_append PySem.F.type_list_append))))
  (dss_cons (ds_set (i := 6) nd (de_tup (da_cons de_str (da_cons (de_bin od_mul de_int (de_bin od_sub (de_callB' ((ok_l_take T).mono (by decide)) hr tk T.f__law_take.m T.f__law_take.F.kp T.f__law_take.b (da_cons (de_var 0) (da_cons de_int da_nil))) de_int)) da_nil))))
  (dss_cons (ds_set (i := 7) nd (de_tup (da_cons de_str (da_cons (de_ix (de_lst (da_cons (de_var 6) (da_cons (de_var 6) (da_cons (de_callB' ((ok_l_value T).mono (by decide)) hr tk T.f__law_value.m T.f__law_value.F.kp T.f__law_value.b (da_cons (de_var 0) da_nil)) da_nil)))) (de_callB' ((ok_l_take T).mono (by decide)) hr tk T.f__law_take.m T.f__law_take.F.kp T.f__law_take.b (da_cons (de_var 0) (da_cons de_int da_nil)))) da_nil))))
  (dss_one (ds_ret (de_bin od_add2 (de_frz (de_var 2)) (de_lst (da_cons (de_tup (da_cons de_str (da_cons (de_lst (da_cons (de_var 5) (da_cons (de_var 7) da_nil))) da_nil))) (da_cons (de_tup (da_cons de_str (da_cons (de_lst (da_cons (de_var 5) (da_cons (de_var 7) da_nil))) da_nil))) da_nil)))))))))))))))⟩
theorem ok_l_state (T : Tx K w mg) : FnOk P w K mg base (L2.CX P w) 1 T.f__law_state.a T.f__law_state.fd ["script"] (spB K 1 m_l_state) := by
  refine fnB (N := n_l_state) T.f__law_state.F sc_l_state fun cdv A outer s H E hr => ?_
  have nd := sc_l_state.nd
  have tk := takes_of (X := cxOf (L2.CX P w) P w K mg base n_l_state "_law_state" (defScope s_l_state) T.f__law_state.a cdv A outer s H E) (E := E) rfl rfl rfl rfl
  exact ⟨_, (dss_cons (ds_setLcO (i := 1) nd rfl (di_list (de_sl (de_var 0) dp_none (dp_some de_int))) (blkOk_by (own := [((PySem.Str.ofString "cell"), 2)]) (N := n_l_state) (sc := defScope s_l_state) (by decide +kernel)) (fun _ _ _ _ _ => (dg_name (i := 2) nd)) (fun _ _ _ _ _ => dpt_nil) (fun _ _ _ _ _ => (de_callB cd_abs T.n_abs (da_cons (de_var 2) da_nil))))
  (dss_cons (ds_if (dt_cmp (od_eq hr.units) bool_dEq (de_callB cd_len T.n_len (da_cons (de_var 1) da_nil)) de_int) (dss_one (ds_set (i := 1) nd (de_lstO (da_cons de_int da_nil)))) dss_nil)
  (dss_one (ds_ret (de_lstO (da_cons de_int (da_cons (de_var 1) da_nil)))))))⟩
theorem ok_show_number (T : Tx K w mg) : FnOk P w K mg base (L2.CX P w) 1 T.f_show_number.a T.f_show_number.fd ["n"] (spA K 1 m_show_number) := by
  refine fnA (N := n_show_number) T.f_show_number.F sc_show_number fun cdv A outer s H E hr => ?_
  have nd := sc_show_number.nd
  have tk := takes_of (X := cxOf (L2.CX P w) P w K mg base n_show_number "show_number" (defScope s_show_number) T.f_show_number.a cdv A outer s H E) (E := E) rfl rfl rfl rfl
  exact ⟨_, (dss_cons (ds_set (i := 1) nd (de_ifE (dt_cmp od_lt bool_dIb (de_var 0) de_int) de_str de_str))
  (dss_cons (ds_set (i := 2) nd (de_bin od_fdiv (de_callB cd_abs T.n_abs (da_cons (de_var 0) da_nil)) (de_gc T.c_UNIT)))
  (dss_cons (ds_set (i := 3) nd (de_mth md_rstrip (de_mth md_zfill (de_callTy cd_str T.n_str (da_cons (de_bin od_mod (de_callB cd_abs T.n_abs (da_cons (de_var 0) da_nil)) (de_gc T.c_UNIT)) da_nil)) (da_cons (de_gc T.c_PLACES) da_nil) PySem.F.plainAttrs_str PySem.F.slot_str_zfill PySem.F.type_str_zfill) (da_cons de_str da_nil) PySem.F.plainAttrs_str PySem.F.slot_str_rstrip PySem.F.type_str_rstrip))
  (dss_cons (ds_if (dt_cmp (od_eq hr.units) bool_dEq (de_var 3) de_str) (dss_one (ds_ret (de_joined (dj_cons (de_fmt (de_var 1)) (dj_cons (de_fmt (de_var 2)) dj_nil))))) dss_nil)
  (dss_one (ds_ret (de_joined (dj_cons (de_fmt (de_var 1)) (dj_cons (de_fmt (de_var 2)) (dj_cons de_str (dj_cons (de_fmt (de_var 3)) dj_nil)))))))))))⟩
theorem ok_text_in (T : Tx K w mg) : FnOk P w K mg base (L2.CX P w) 2 T.f_text_in.a T.f_text_in.fd ["value"] (spA K 1 m_text_in) := by
  refine fnA (N := n_text_in) T.f_text_in.F sc_text_in fun cdv A outer s H E hr => ?_
  have nd := sc_text_in.nd
  have tk := takes_of (X := cxOf (L2.CX P w) P w K mg base n_text_in "text_in" (defScope s_text_in) T.f_text_in.a cdv A outer s H E) (E := E) rfl rfl rfl rfl
  exact ⟨_, (dss_cons (ds_if (dt_isN (de_var 0)) (dss_one (ds_ret de_str)) dss_nil)
  (dss_cons (ds_if (dt_cmp (od_eq hr.units) bool_dEq (de_ix (de_var 0) de_int) de_str) (dss_one (ds_ret (de_callA ((ok_show_number T).mono (by decide)) hr tk T.f_show_number.m T.f_show_number.F.kp T.f_show_number.b (da_cons (de_ix (de_var 0) de_int) da_nil)))) dss_nil)
  (dss_cons (ds_if (dt_cmp (od_eq hr.units) bool_dEq (de_ix (de_var 0) de_int) de_str) (dss_one (ds_ret (de_ifE (dt_tru (de_ix (de_var 0) de_int)) de_str de_str))) dss_nil)
  (dss_one (ds_ret (de_ix (de_var 0) de_int))))))⟩
theorem ok_text_value (T : Tx K w mg) : FnOk P w K mg base (L2.CX P w) 1 T.f_text_value.a T.f_text_value.fd ["text"] (spA K 1 m_text_value) := by
  refine fnA (N := n_text_value) T.f_text_value.F sc_text_value fun cdv A outer s H E hr => ?_
  have nd := sc_text_value.nd
  have tk := takes_of (X := cxOf (L2.CX P w) P w K mg base n_text_value "text_value" (defScope s_text_value) T.f_text_value.a cdv A outer s H E) (E := E) rfl rfl rfl rfl
  exact ⟨_, (dss_cons (ds_if (dt_cmp od_gt bool_dIb (de_callB cd_len T.n_len (da_cons (de_var 0) da_nil)) (de_gc T.c_LONGEST_TEXT)) (dss_one (ds_ret (de_tup (da_cons de_str (da_cons de_str da_nil))))) dss_nil)
  (dss_one (ds_ret (de_tup (da_cons de_str (da_cons (de_var 0) da_nil))))))⟩
theorem ok_number_in (T : Tx K w mg) : FnOk P w K mg base (L2.CX P w) 1 T.f_number_in.a T.f_number_in.fd ["value"] (spA K 1 m_number_in) := by
  refine fnA (N := n_number_in) T.f_number_in.F sc_number_in fun cdv A outer s H E hr => ?_
  have nd := sc_number_in.nd
  have tk := takes_of (X := cxOf (L2.CX P w) P w K mg base n_number_in "number_in" (defScope s_number_in) T.f_number_in.a cdv A outer s H E) (E := E) rfl rfl rfl rfl
  exact ⟨_, (dss_cons (ds_if (dt_isN (de_var 0)) (dss_one (ds_ret de_int)) dss_nil)
  (dss_one (ds_ret (de_ifE (dt_cmp (od_eq hr.units) bool_dEq (de_ix (de_var 0) de_int) de_str) (de_ix (de_var 0) de_int) de_non))))⟩
theorem ok_whole_in (T : Tx K w mg) : FnOk P w K mg base (L2.CX P w) 2 T.f_whole_in.a T.f_whole_in.fd ["value"] (spA K 1 m_whole_in) := by
  refine fnA (N := n_whole_in) T.f_whole_in.F sc_whole_in fun cdv A outer s H E hr => ?_
  have nd := sc_whole_in.nd
  have tk := takes_of (X := cxOf (L2.CX P w) P w K mg base n_whole_in "whole_in" (defScope s_whole_in) T.f_whole_in.a cdv A outer s H E) (E := E) rfl rfl rfl rfl
  exact ⟨_, (dss_cons (ds_set (i := 1) nd (de_callA ((ok_number_in T).mono (by decide)) hr tk T.f_number_in.m T.f_number_in.F.kp T.f_number_in.b (da_cons (de_var 0) da_nil)))
  (dss_cons (ds_if (dt_w (dw_or (dt_isN (de_var 1)) (dw_or1 (dt_cmp (od_ne hr.units) bool_dNe (de_bin od_mod (de_var 1) (de_gc T.c_UNIT)) de_int)))) (dss_one (ds_ret de_non)) dss_nil)
  (dss_one (ds_ret (de_bin od_fdiv (de_var 1) (de_gc T.c_UNIT))))))⟩
theorem ok_left_of (T : Tx K w mg) : FnOk P w K mg base (L2.CX P w) 3 T.f__left_of.a T.f__left_of.fd ["value", "size"] (spA K 2 m_left_of) := by
  refine fnA (N := n_left_of) T.f__left_of.F sc_left_of fun cdv A outer s H E hr => ?_
  have nd := sc_left_of.nd
  have tk := takes_of (X := cxOf (L2.CX P w) P w K mg base n_left_of "_left_of" (defScope s_left_of) T.f__left_of.a cdv A outer s H E) (E := E) rfl rfl rfl rfl
  exact ⟨_, (dss_cons (ds_set (i := 2) nd (de_callA ((ok_whole_in T).mono (by decide)) hr tk T.f_whole_in.m T.f_whole_in.F.kp T.f_whole_in.b (da_cons (de_var 1) da_nil)))
  (dss_cons (ds_if (dt_w (dw_or (dt_isN (de_var 2)) (dw_or1 (dt_cmp od_lt bool_dIb (de_var 2) de_int)))) (dss_one (ds_ret (de_gc T.c_WRONG_VALUE))) dss_nil)
  (dss_one (ds_ret (de_callA ((ok_text_value T).mono (by decide)) hr tk T.f_text_value.m T.f_text_value.F.kp T.f_text_value.b (da_cons (de_sl (de_callA ((ok_text_in T).mono (by decide)) hr tk T.f_text_in.m T.f_text_in.F.kp T.f_text_in.b (da_cons (de_var 0) da_nil)) dp_none (dp_some (de_var 2))) da_nil))))))⟩
theorem ok_length_of (T : Tx K w mg) : FnOk P w K mg base (L2.CX P w) 3 T.f__length_of.a T.f__length_of.fd ["value"] (spA K 1 m_length_of) := by
  refine fnA (N := n_length_of) T.f__length_of.F sc_length_of fun cdv A outer s H E hr => ?_
  have nd := sc_length_of.nd
  have tk := takes_of (X := cxOf (L2.CX P w) P w K mg base n_length_of "_length_of" (defScope s_length_of) T.f__length_of.a cdv A outer s H E) (E := E) rfl rfl rfl rfl
  exact ⟨_, (dss_one (ds_ret (de_tup (da_cons de_str (da_cons (de_bin od_mul (de_callB cd_len T.n_len (da_cons (de_callA ((ok_text_in T).mono (by decide)) hr tk T.f_text_in.m T.f_text_in.F.kp T.f_text_in.b (da_cons (de_var 0) da_nil)) da_nil)) (de_gc T.c_UNIT)) da_nil)))))⟩
theorem ok_truth_in (T : Tx K w mg) : FnOk P w K mg base (L2.CX P w) 1 T.f_truth_in.a T.f_truth_in.fd ["value"] (spA K 1 m_truth_in) := by
  refine fnA (N := n_truth_in) T.f_truth_in.F sc_truth_in fun cdv A outer s H E hr => ?_
  have nd := sc_truth_in.nd
  have tk := takes_of (X := cxOf (L2.CX P w) P w K mg base n_truth_in "truth_in" (defScope s_truth_in) T.f_truth_in.a cdv A outer s H E) (E := E) rfl rfl rfl rfl
  exact ⟨_, (dss_cons (ds_if (dt_isN (de_var 0)) (dss_one (ds_ret de_bl)) dss_nil)
  (dss_one (ds_ret (de_ifE (dt_cmp (od_eq hr.units) bool_dEq (de_ix (de_var 0) de_int) de_str) (de_ix (de_var 0) de_int) de_non))))⟩
theorem ok_logical (T : Tx K w mg) : FnOk P w K mg base (L2.CX P w) 2 T.f__logical.a T.f__logical.fd ["name", "args"] (spB K 2 m_logical) := by
  refine fnB (N := n_logical) T.f__logical.F sc_logical fun cdv A outer s H E hr => ?_
  have nd := sc_logical.nd
  have tk := takes_of (X := cxOf (L2.CX P w) P w K mg base n_logical "_logical" (defScope s_logical) T.f__logical.a cdv A outer s H E) (E := E) rfl rfl rfl rfl
  exact ⟨_, (dss_cons (ds_set (i := 2) nd (de_lstO da_nil))
  (dss_cons (ds_for (passes_of rfl) rfl (di_list (de_var 1)) (dg_tup rfl (dgs_cons (dg_name (i := 3) nd) (dgs_cons (dg_name (i := 4) nd) dgs_nil))) (dss_one (ds_if (dt_cmp (od_eq hr.units) bool_dEq (de_var 3) de_str) (dss_one (ds_expr (de_mth md_ext (de_var 2) (da_cons (de_lc nd rfl (di_list (de_var 4)) (blkOk_by (own := [((PySem.Str.ofString "value"), 5)]) (N := n_logical) (sc := defScope s_logical) (by decide +kernel)) (fun _ _ _ _ _ => (dg_name (i := 5) nd)) (fun _ _ _ _ _ => (dpt_one (dt_notN (de_var 5)))) (fun _ _ _ _ _ => (de_callA ((ok_truth_in T).mono (by decide)) hr takes0 T.f_truth_in.m T.f_truth_in.F.kp T.f_truth_in.b (da_cons (de_var 5) da_nil)))) da_nil) PySem.F.plainAttrs_list PySem.F.slot_list_extend PySem.F.type_list_extend))) (dss_one (ds_expr (de_mth md_app (de_var 2) (da_cons (de_callA ((ok_truth_in T).mono (by decide)) hr tk T.f_truth_in.m T.f_truth_in.F.kp T.f_truth_in.b (da_cons (de_var 4) da_nil)) da_nil) PySem.F.plainAttrs_list PySem.F.slot_list_append PySem.F.type_list_append))))))
  (dss_frz 2 (dss_cons (ds_if (dt_cmp (od_in (units65 hr)) bool_dIn de_non (de_frz (de_var 2))) (dss_one (ds_ret (de_gc T.c_WRONG_VALUE))) dss_nil)
  (dss_one (ds_ret (de_tup (da_cons de_str (da_cons (de_ifE (dt_cmp (od_eq hr.units) bool_dEq (de_var 0) de_str) (de_callB (cd_all rfl) T.n_all (da_cons (de_frz (de_var 2)) da_nil)) (de_callB (cd_any rfl) T.n_any (da_cons (de_frz (de_var 2)) da_nil))) da_nil)))))))))⟩
theorem ok_not_of (T : Tx K w mg) : FnOk P w K mg base (L2.CX P w) 2 T.f__not_of.a T.f__not_of.fd ["value"] (spA K 1 m_not_of) := by
  refine fnA (N := n_not_of) T.f__not_of.F sc_not_of fun cdv A outer s H E hr => ?_
  have nd := sc_not_of.nd
  have tk := takes_of (X := cxOf (L2.CX P w) P w K mg base n_not_of "_not_of" (defScope s_not_of) T.f__not_of.a cdv A outer s H E) (E := E) rfl rfl rfl rfl
  exact ⟨_, (dss_cons (ds_set (i := 1) nd (de_callA ((ok_truth_in T).mono (by decide)) hr tk T.f_truth_in.m T.f_truth_in.F.kp T.f_truth_in.b (da_cons (de_var 0) da_nil)))
  (dss_one (ds_ret (de_ifE (dt_isN (de_var 1)) (de_gc T.c_WRONG_VALUE) (de_tup (da_cons de_str (da_cons (de_not (de_var 1)) da_nil)))))))⟩
theorem ok_number_value (T : Tx K w mg) : FnOk P w K mg base (L2.CX P w) 1 T.f_number_value.a T.f_number_value.fd ["n"] (spA K 1 m_number_value) := by
  refine fnA (N := n_number_value) T.f_number_value.F sc_number_value fun cdv A outer s H E hr => ?_
  have nd := sc_number_value.nd
  have tk := takes_of (X := cxOf (L2.CX P w) P w K mg base n_number_value "number_value" (defScope s_number_value) T.f_number_value.a cdv A outer s H E) (E := E) rfl rfl rfl rfl
  exact ⟨_, (dss_cons (ds_if (dt_chain od_le od_le bool_dIb (de_usub (de_gc T.c_MOST)) (de_var 0) (de_gc T.c_MOST)) (dss_one (ds_ret (de_tup (da_cons de_str (da_cons (de_var 0) da_nil))))) dss_nil)
  (dss_one (ds_ret (de_tup (da_cons de_str (da_cons de_str da_nil))))))⟩
theorem ok_rounded (T : Tx K w mg) : FnOk P w K mg base (L2.CX P w) 1 T.f_rounded.a T.f_rounded.fd ["a", "b"] (spA K 2 m_rounded) := by
  refine fnA (N := n_rounded) T.f_rounded.F sc_rounded fun cdv A outer s H E hr => ?_
  have nd := sc_rounded.nd
  have tk := takes_of (X := cxOf (L2.CX P w) P w K mg base n_rounded "rounded" (defScope s_rounded) T.f_rounded.a cdv A outer s H E) (E := E) rfl rfl rfl rfl
  exact ⟨_, (dss_cons (ds_if (dt_cmp od_lt bool_dIb (de_var 0) de_int) (dss_one (ds_ret (de_usub (de_bin od_fdiv (de_bin od_sub (de_var 1) (de_bin od_mul de_int (de_var 0))) (de_bin od_mul de_int (de_var 1)))))) dss_nil)
  (dss_one (ds_ret (de_bin od_fdiv (de_bin od_add (de_var 1) (de_bin od_mul de_int (de_var 0))) (de_bin od_mul de_int (de_var 1))))))⟩
theorem ok_average_of (T : Tx K w mg) : FnOk P w K mg base (L2.CX P w) 2 T.f__average_of.a T.f__average_of.fd ["numbers"] (spA K 1 m_average_of) := by
  refine fnA (N := n_average_of) T.f__average_of.F sc_average_of fun cdv A outer s H E hr => ?_
  have nd := sc_average_of.nd
  have tk := takes_of (X := cxOf (L2.CX P w) P w K mg base n_average_of "_average_of" (defScope s_average_of) T.f__average_of.a cdv A outer s H E) (E := E) rfl rfl rfl rfl
  exact ⟨_, (dss_cons (ds_if (dt_not (dt_tru (de_var 0))) (dss_one (ds_ret (de_tup (da_cons de_str (da_cons de_str da_nil))))) dss_nil)
  (dss_one (ds_ret (de_callA ((ok_number_value T).mono (by decide)) hr tk T.f_number_value.m T.f_number_value.F.kp T.f_number_value.b (da_cons (de_callA ((ok_rounded T).mono (by decide)) hr tk T.f_rounded.m T.f_rounded.F.kp T.f_rounded.b (da_cons (de_callB (cd_sum rfl) T.n_sum (da_cons (de_var 0) da_nil)) (da_cons (de_callB cd_len T.n_len (da_cons (de_var 0) da_nil)) da_nil))) da_nil)))))⟩
theorem ok_count_of (T : Tx K w mg) : FnOk P w K mg base (L2.CX P w) 1 T.f__count_of.a T.f__count_of.fd ["numbers"] (spA K 1 m_count_of) := by
  refine fnA (N := n_count_of) T.f__count_of.F sc_count_of fun cdv A outer s H E hr => ?_
  have nd := sc_count_of.nd
  have tk := takes_of (X := cxOf (L2.CX P w) P w K mg base n_count_of "_count_of" (defScope s_count_of) T.f__count_of.a cdv A outer s H E) (E := E) rfl rfl rfl rfl
  exact ⟨_, (dss_one (ds_ret (de_tup (da_cons de_str (da_cons (de_bin od_mul (de_callB cd_len T.n_len (da_cons (de_var 0) da_nil)) (de_gc T.c_UNIT)) da_nil)))))⟩
theorem ok_greatest_of (T : Tx K w mg) : FnOk P w K mg base (L2.CX P w) 1 T.f__greatest_of.a T.f__greatest_of.fd ["numbers"] (spA K 1 m_greatest_of) := by
  refine fnA (N := n_greatest_of) T.f__greatest_of.F sc_greatest_of fun cdv A outer s H E hr => ?_
  have nd := sc_greatest_of.nd
  have tk := takes_of (X := cxOf (L2.CX P w) P w K mg base n_greatest_of "_greatest_of" (defScope s_greatest_of) T.f__greatest_of.a cdv A outer s H E) (E := E) rfl rfl rfl rfl
  exact ⟨_, (dss_one (ds_ret (de_tup (da_cons de_str (da_cons (de_maxDf rfl (units67 hr) T.n_max (de_var 0) de_int) da_nil)))))⟩
theorem ok_least_of (T : Tx K w mg) : FnOk P w K mg base (L2.CX P w) 1 T.f__least_of.a T.f__least_of.fd ["numbers"] (spA K 1 m_least_of) := by
  refine fnA (N := n_least_of) T.f__least_of.F sc_least_of fun cdv A outer s H E hr => ?_
  have nd := sc_least_of.nd
  have tk := takes_of (X := cxOf (L2.CX P w) P w K mg base n_least_of "_least_of" (defScope s_least_of) T.f__least_of.a cdv A outer s H E) (E := E) rfl rfl rfl rfl
  exact ⟨_, (dss_one (ds_ret (de_tup (da_cons de_str (da_cons (de_minDf rfl (units67 hr) T.n_min (de_var 0) de_int) da_nil)))))⟩
theorem ok_sum_of (T : Tx K w mg) : FnOk P w K mg base (L2.CX P w) 2 T.f__sum_of.a T.f__sum_of.fd ["numbers"] (spA K 1 m_sum_of) := by
  refine fnA (N := n_sum_of) T.f__sum_of.F sc_sum_of fun cdv A outer s H E hr => ?_
  have nd := sc_sum_of.nd
  have tk := takes_of (X := cxOf (L2.CX P w) P w K mg base n_sum_of "_sum_of" (defScope s_sum_of) T.f__sum_of.a cdv A outer s H E) (E := E) rfl rfl rfl rfl
  exact ⟨_, (dss_one (ds_ret (de_callA ((ok_number_value T).mono (by decide)) hr tk T.f_number_value.m T.f_number_value.F.kp T.f_number_value.b (da_cons (de_callB (cd_sum rfl) T.n_sum (da_cons (de_var 0) da_nil)) da_nil))))⟩
theorem ok_numeric (T : Tx K w mg) : FnOk P w K mg base (L2.CX P w) 3 T.f__numeric.a T.f__numeric.fd ["name", "args"] (spB K 2 (m_numeric T.Fa)) := by
  refine fnB (N := n_numeric) T.f__numeric.F sc_numeric fun cdv A outer s H E hr => ?_
  have nd := sc_numeric.nd
  have tk := takes_of (X := cxOf (L2.CX P w) P w K mg base n_numeric "_numeric" (defScope s_numeric) T.f__numeric.a cdv A outer s H E) (E := E) rfl rfl rfl rfl
  exact ⟨_, (dss_cons (ds_set (i := 2) nd (de_lstO da_nil))
  (dss_cons (ds_for (passes_of rfl) rfl (di_list (de_var 1)) (dg_tup rfl (dgs_cons (dg_name (i := 3) nd) (dgs_cons (dg_name (i := 4) nd) dgs_nil))) (dss_one (ds_if (dt_cmp (od_eq hr.units) bool_dEq (de_var 3) de_str) (dss_one (ds_expr (de_mth md_ext (de_var 2) (da_cons (de_lc nd rfl (di_list (de_var 4)) (blkOk_by (own := [((PySem.Str.ofString "value"), 6)]) (N := n_numeric) (sc := defScope s_numeric) (by decide +kernel)) (fun _ _ _ _ _ => (dg_name (i := 6) nd)) (fun _ _ _ _ _ => (dpt_one (dt_w (dw_and (dt_notN (de_var 6)) (dw_and1 (dt_cmp (od_eq hr.units) bool_dEq (de_ix (de_var 6) de_int) de_str)))))) (fun _ _ _ _ _ => (de_ix (de_var 6) de_int))) da_nil) PySem.F.plainAttrs_list PySem.F.slot_list_extend PySem.F.type_list_extend))) (dss_one (ds_expr (de_mth md_app (de_var 2) (da_cons (de_callA ((ok_number_in T).mono (by decide)) hr tk T.f_number_in.m T.f_number_in.F.kp T.f_number_in.b (da_cons (de_var 4) da_nil)) da_nil) PySem.F.plainAttrs_list PySem.F.slot_list_append PySem.F.type_list_append))))))
  (dss_frz 2 (dss_cons (ds_if (dt_cmp (od_in (units65 hr)) bool_dIn de_non (de_frz (de_var 2))) (dss_one (ds_ret (de_gc T.c_WRONG_VALUE))) dss_nil)
  (dss_cons (ds_set (i := 5) nd (de_kdix T.d_NUMERIC (de_var 0)))
  (dss_one (ds_ret (de_callV (i := 5) (lkv_cons ⟨⟨_, _, (ok_sum_of T).mono (by decide), T.f__sum_of.F.kp, T.f__sum_of.b⟩⟩ (lkv_cons ⟨⟨_, _, (ok_count_of T).mono (by decide), T.f__count_of.F.kp, T.f__count_of.b⟩⟩ (lkv_cons ⟨⟨_, _, (ok_average_of T).mono (by decide), T.f__average_of.F.kp, T.f__average_of.b⟩⟩ (lkv_cons ⟨⟨_, _, (ok_least_of T).mono (by decide), T.f__least_of.F.kp, T.f__least_of.b⟩⟩ (lkv_cons ⟨⟨_, _, (ok_greatest_of T).mono (by decide), T.f__greatest_of.F.kp, T.f__greatest_of.b⟩⟩ lkv_nil))))) hr tk (da_cons (de_frz (de_var 2)) da_nil)))))))))⟩
theorem ok_to_places (T : Tx K w mg) : FnOk P w K mg base (L2.CX P w) 2 T.f_to_places.a T.f_to_places.fd ["n", "places"] (spA K 2 m_to_places) := by
  refine fnA (N := n_to_places) T.f_to_places.F sc_to_places fun cdv A outer s H E hr => ?_
  have nd := sc_to_places.nd
  have tk := takes_of (X := cxOf (L2.CX P w) P w K mg base n_to_places "to_places" (defScope s_to_places) T.f_to_places.a cdv A outer s H E) (E := E) rfl rfl rfl rfl
  exact ⟨_, (dss_cons (ds_set (i := 2) nd de_int)
  (dss_cons (ds_for (passes_of rfl) rfl (di_range1 T.n_range (da_cons (de_bin od_sub (de_gc T.c_PLACES) (de_var 1)) da_nil)) (dg_name (i := 3) nd) (dss_one (ds_set (i := 2) nd (de_bin od_mul (de_var 2) de_int))))
  (dss_one (ds_ret (de_callA ((ok_number_value T).mono (by decide)) hr tk T.f_number_value.m T.f_number_value.F.kp T.f_number_value.b (da_cons (de_bin od_mul (de_callA ((ok_rounded T).mono (by decide)) hr tk T.f_rounded.m T.f_rounded.F.kp T.f_rounded.b (da_cons (de_var 0) (da_cons (de_var 2) da_nil))) (de_var 2)) da_nil))))))⟩
theorem ok_round_of (T : Tx K w mg) : FnOk P w K mg base (L2.CX P w) 3 T.f__round_of.a T.f__round_of.fd ["value", "size"] (spA K 2 m_round_of) := by
  refine fnA (N := n_round_of) T.f__round_of.F sc_round_of fun cdv A outer s H E hr => ?_
  have nd := sc_round_of.nd
  have tk := takes_of (X := cxOf (L2.CX P w) P w K mg base n_round_of "_round_of" (defScope s_round_of) T.f__round_of.a cdv A outer s H E) (E := E) rfl rfl rfl rfl
  exact ⟨_, (dss_cons (ds_set (i := 2) nd (de_callA ((ok_number_in T).mono (by decide)) hr tk T.f_number_in.m T.f_number_in.F.kp T.f_number_in.b (da_cons (de_var 0) da_nil)))
  (dss_cons (ds_set (i := 3) nd (de_callA ((ok_whole_in T).mono (by decide)) hr tk T.f_whole_in.m T.f_whole_in.F.kp T.f_whole_in.b (da_cons (de_var 1) da_nil)))
  (dss_cons (ds_if (dt_w (dw_or (dt_isN (de_var 2)) (dw_or (dt_isN (de_var 3)) (dw_or1 (dt_not (dt_chain od_le od_le bool_dIb (de_gc T.c_LEAST_PLACES) (de_var 3) (de_gc T.c_MOST_PLACES))))))) (dss_one (ds_ret (de_gc T.c_WRONG_VALUE))) dss_nil)
  (dss_one (ds_ret (de_callA ((ok_to_places T).mono (by decide)) hr tk T.f_to_places.m T.f_to_places.F.kp T.f_to_places.b (da_cons (de_var 2) (da_cons (de_var 3) da_nil))))))))⟩
theorem ok_size_of (T : Tx K w mg) : FnOk P w K mg base (L2.CX P w) 2 T.f__size_of.a T.f__size_of.fd ["value"] (spA K 1 m_size_of) := by
  refine fnA (N := n_size_of) T.f__size_of.F sc_size_of fun cdv A outer s H E hr => ?_
  have nd := sc_size_of.nd
  have tk := takes_of (X := cxOf (L2.CX P w) P w K mg base n_size_of "_size_of" (defScope s_size_of) T.f__size_of.a cdv A outer s H E) (E := E) rfl rfl rfl rfl
  exact ⟨_, (dss_cons (ds_set (i := 1) nd (de_callA ((ok_number_in T).mono (by decide)) hr tk T.f_number_in.m T.f_number_in.F.kp T.f_number_in.b (da_cons (de_var 0) da_nil)))
  (dss_one (ds_ret (de_ifE (dt_isN (de_var 1)) (de_gc T.c_WRONG_VALUE) (de_callA ((ok_number_value T).mono (by decide)) hr tk T.f_number_value.m T.f_number_value.F.kp T.f_number_value.b (da_cons (de_callB cd_abs T.n_abs (da_cons (de_var 1) da_nil)) da_nil))))))⟩
theorem ok_values_in (T : Tx K w mg) : FnOk P w K mg base (L2.CX P w) 1 T.f__values_in.a T.f__values_in.fd ["args"] (spB K 1 m_values_in) := by
  refine fnB (N := n_values_in) T.f__values_in.F sc_values_in fun cdv A outer s H E hr => ?_
  have nd := sc_values_in.nd
  have tk := takes_of (X := cxOf (L2.CX P w) P w K mg base n_values_in "_values_in" (defScope s_values_in) T.f__values_in.a cdv A outer s H E) (E := E) rfl rfl rfl rfl
  exact ⟨_, (dss_cons (ds_set (i := 1) nd (de_lstO da_nil))
  (dss_cons (ds_for (passes_of rfl) rfl (di_list (de_var 0)) (dg_tup rfl (dgs_cons (dg_name (i := 2) nd) (dgs_cons (dg_name (i := 3) nd) dgs_nil))) (dss_one (ds_if (dt_cmp (od_eq hr.units) bool_dEq (de_var 2) de_str) (dss_one (ds_expr (de_mth md_ext (de_var 1) (da_cons (de_var 3) da_nil) PySem.F.plainAttrs_list PySem.F.slot_list_extend PySem.F.type_list_extend))) (dss_one (ds_expr (de_mth md_app (de_var 1) (da_cons (de_var 3) da_nil) PySem.F.plainAttrs_list PySem.F.slot_list_append PySem.F.type_list_append))))))
  (dss_one (ds_ret (de_frz (de_var 1))))))⟩
theorem ok_is_error (T : Tx K w mg) : FnOk P w K mg base (L2.CX P w) 1 T.f_is_error.a T.f_is_error.fd ["value"] (spA K 1 m_is_error) := by
  refine fnA (N := n_is_error) T.f_is_error.F sc_is_error fun cdv A outer s H E hr => ?_
  have nd := sc_is_error.nd
  have tk := takes_of (X := cxOf (L2.CX P w) P w K mg base n_is_error "is_error" (defScope s_is_error) T.f_is_error.a cdv A outer s H E) (E := E) rfl rfl rfl rfl
  exact ⟨_, (dss_one (ds_ret (de_and (de_notN (de_var 0)) (de_one (de_cmp (od_eq hr.units) (de_ix (de_var 0) de_int) de_str)))))⟩
theorem ok_apply_function (T : Tx K w mg) : FnOk P w K mg base (L2.CX P w) 4 T.f_apply_function.a T.f_apply_function.fd ["name", "args"] (spA K 2 (m_apply_function T.Fa)) := by
  refine fnA (N := n_apply_function) T.f_apply_function.F sc_apply_function fun cdv A outer s H E hr => ?_
  have nd := sc_apply_function.nd
  have tk := takes_of (X := cxOf (L2.CX P w) P w K mg base n_apply_function "apply_function" (defScope s_apply_function) T.f_apply_function.a cdv A outer s H E) (E := E) rfl rfl rfl rfl
  exact ⟨_, (dss_cons (ds_set (i := 2) nd (de_callB' ((ok_values_in T).mono (by decide)) hr tk T.f__values_in.m T.f__values_in.F.kp T.f__values_in.b (da_cons (de_var 1) da_nil)))
  (dss_cons (ds_setLc (i := 3) nd rfl (di_list (de_var 2)) (blkOk_by (own := [((PySem.Str.ofString "value"), 5)]) (N := n_apply_function) (sc := defScope s_apply_function) (by decide +kernel)) (fun _ _ _ _ _ => (dg_name (i := 5) nd)) (fun _ _ _ _ _ => (dpt_one (dt_tru (de_callA ((ok_is_error T).mono (by decide)) hr takes0 T.f_is_error.m T.f_is_error.F.kp T.f_is_error.b (da_cons (de_var 5) da_nil))))) (fun _ _ _ _ _ => (de_var 5)))
  (dss_cons (ds_if (dt_tru (de_var 3)) (dss_one (ds_ret (de_ix (de_var 3) de_int))) dss_nil)
  (dss_cons (ds_if (dt_cmp (od_in (units65 hr)) bool_dIn (de_var 0) (de_gc T.c_RELEASED)) (dss_one (ds_ret (de_callB' ((ok_numeric T).mono (by decide)) hr tk T.f__numeric.m T.f__numeric.F.kp T.f__numeric.b (da_cons (de_mth md_rmpre (de_var 0) (da_cons de_str da_nil) PySem.F.plainAttrs_str PySem.F.slot_str_removeprefix PySem.F.type_str_removeprefix) (da_cons (de_var 1) da_nil))))) dss_nil)
  (dss_cons (ds_if (dt_inKd T.i_NUMERIC (de_var 0)) (dss_one (ds_ret (de_callB' ((ok_numeric T).mono (by decide)) hr tk T.f__numeric.m T.f__numeric.F.kp T.f__numeric.b (da_cons (de_var 0) (da_cons (de_var 1) da_nil))))) dss_nil)
  (dss_cons (ds_if (dt_w (dw_or (dt_cmp (od_eq hr.units) bool_dEq (de_var 0) de_str) (dw_or1 (dt_cmp (od_eq hr.units) bool_dEq (de_var 0) de_str)))) (dss_one (ds_ret (de_callB' ((ok_logical T).mono (by decide)) hr tk T.f__logical.m T.f__logical.F.kp T.f__logical.b (da_cons (de_var 0) (da_cons (de_var 1) da_nil))))) dss_nil)
  (dss_cons (ds_if (dt_cmp (od_eq hr.units) bool_dEq (de_var 0) de_str) (dss_one (ds_ret (de_callA ((ok_text_value T).mono (by decide)) hr tk T.f_text_value.m T.f_text_value.F.kp T.f_text_value.b (da_cons (de_mth md_join de_str (da_cons (de_lc nd rfl (di_list (de_var 2)) (blkOk_by (own := [((PySem.Str.ofString "value"), 5)]) (N := n_apply_function) (sc := defScope s_apply_function) (by decide +kernel)) (fun _ _ _ _ _ => (dg_name (i := 5) nd)) (fun _ _ _ _ _ => dpt_nil) (fun _ _ _ _ _ => (de_callA ((ok_text_in T).mono (by decide)) hr takes0 T.f_text_in.m T.f_text_in.F.kp T.f_text_in.b (da_cons (de_var 5) da_nil)))) da_nil) PySem.F.plainAttrs_str PySem.F.slot_str_join PySem.F.type_str_join) da_nil)))) dss_nil)
  (dss_cons (ds_if (dt_inKd T.i_SINGLE (de_var 0)) (dss_cons (ds_set (i := 4) nd (de_kdix T.d_SINGLE (de_var 0)))
  (dss_one (ds_ret (de_callV (i := 4) (lkv_cons ⟨⟨_, _, (ok_not_of T).mono (by decide), T.f__not_of.F.kp, T.f__not_of.b⟩⟩ (lkv_cons ⟨⟨_, _, (ok_length_of T).mono (by decide), T.f__length_of.F.kp, T.f__length_of.b⟩⟩ (lkv_cons ⟨⟨_, _, (ok_size_of T).mono (by decide), T.f__size_of.F.kp, T.f__size_of.b⟩⟩ lkv_nil))) hr tk (da_cons (de_ix (de_var 2) de_int) da_nil))))) dss_nil)
  (dss_cons (ds_set (i := 4) nd (de_kdix T.d_DOUBLE (de_var 0)))
  (dss_one (ds_ret (de_callV (i := 4) (lkv_cons ⟨⟨_, _, (ok_left_of T).mono (by decide), T.f__left_of.F.kp, T.f__left_of.b⟩⟩ (lkv_cons ⟨⟨_, _, (ok_round_of T).mono (by decide), T.f__round_of.F.kp, T.f__round_of.b⟩⟩ lkv_nil)) hr tk (da_cons (de_ix (de_var 2) de_int) (da_cons (de_ix (de_var 2) de_int) da_nil))))))))))))))⟩
theorem top_law (T : Tx K w mg) : TopB P w K mg base n_law "law" s_law T.f_law.a 5 (b_law T.Fa) := by
  intro cdv s H E hr
  have nd := sc_law.nd
  have tk := takes_of (X := cxOf (L2.CX P w) P w K mg base n_law "law" (defScope s_law) T.f_law.a cdv callerA [] s H E) (E := E) rfl rfl rfl rfl
  exact ⟨_, (dss_cons (ds_set (i := 1) nd (de_callB' ((ok_l_state T).mono (by decide)) hr tk T.f__law_state.m T.f__law_state.F.kp T.f__law_state.b (da_cons (de_var 0) da_nil)))
  (dss_cons (ds_for (passes_of rfl) rfl (di_list (de_callB' ((ok_l_calls T).mono (by decide)) hr tk T.f__law_calls.m T.f__law_calls.F.kp T.f__law_calls.b (da_cons (de_var 1) da_nil))) (dg_tup rfl (dgs_cons (dg_name (i := 2) nd) (dgs_cons (dg_name (i := 3) nd) dgs_nil))) (dss_cons (ds_set (i := 4) nd (de_callB (cd_repr rfl (units66 hr)) T.n_repr (da_cons (de_var 3) da_nil)))
  (dss_cons (ds_set (i := 5) nd (de_callA ((ok_apply_function T).mono (by decide)) hr tk T.f_apply_function.m T.f_apply_function.F.kp T.f_apply_function.b (da_cons (de_var 2) (da_cons (de_var 3) da_nil))))
  (dss_cons (ds_if (dt_w (dw_or (dt_cmp (od_ne hr.units) bool_dNe (de_callB (cd_repr rfl (units66 hr)) T.n_repr (da_cons (de_var 5) da_nil)) (de_callB (cd_repr rfl (units66 hr)) T.n_repr (da_cons (de_callA ((ok_l_called T).mono (by decide)) hr tk T.f__law_called.m T.f__law_called.F.kp T.f__law_called.b (da_cons (de_var 2) (da_cons (de_var 3) da_nil))) da_nil))) (dw_or1 (dt_cmp (od_ne hr.units) bool_dNe (de_callB (cd_repr rfl (units66 hr)) T.n_repr (da_cons (de_var 3) da_nil)) (de_var 4))))) (dss_one (ds_ret de_bl)) dss_nil)
  (dss_one (ds_if (dt_w (dw_and (dt_cmp (od_eq hr.units) bool_dEq (de_sl (de_var 2) dp_none (dp_some de_int)) de_str) (dw_and (dt_cmp (od_ne hr.units) bool_dNe (de_var 2) de_str) (dw_and1 (dt_cmp (od_ne hr.units) bool_dNe (de_var 5) (de_callA ((ok_apply_function T).mono (by decide)) hr tk T.f_apply_function.m T.f_apply_function.F.kp T.f_apply_function.b (da_cons (de_sl (de_var 2) (dp_some de_int) dp_none) (da_cons (de_var 3) da_nil)))))))) (dss_one (ds_ret de_bl)) dss_nil))))))
  (dss_one (ds_ret de_bl))))⟩
end
theorem all_mk {l : PySem.W.OpenLaw} {w : World} {K : PySem.W.Frag} {h : Heap} {mg : Str → Option Value} {fa f0 f1 f2 f3 f4 f5 f6 f7 f8 f9 f10 f11 f12 f13 f14 f15 f16 f17 f18 f19 f20 f21 f22 f23 f24 f25 f26 f27 f28 f29 f30 f31 f32 f33 f34 f35 f36 f37 f38 f39 f40 f41 f42 f43 f44 : Addr} (X : K.In h) (G : h.Ns mainGlobals mg) (hfa : mg "law" = some (.ref fa))
    {od0 an0 od1 an1 od2 an2 od3 an3 od4 an4 od5 an5 od6 an6 od7 an7 od8 an8 od9 an9 od10 an10 od11 an11 od12 an12 od13 an13 od14 an14 od15 an15 od16 an16 od17 an17 od18 an18 od19 an19 od20 an20 od21 an21 od22 an22 od23 an23 od24 an24 od25 an25 od26 an26 od27 an27 od28 an28 od29 an29 od30 an30 od31 an31 od32 an32 od33 an33 od34 an34 od35 an35 od36 an36 od37 an37 od38 an38 od39 an39 od40 an40 od41 an41 od42 an42 od43 an43 od44 an44 : Option Addr} {sl0 sl1 sl2 sl3 sl4 sl5 sl6 sl7 sl8 sl9 sl10 sl11 sl12 sl13 sl14 sl15 sl16 sl17 sl18 sl19 sl20 sl21 sl22 sl23 sl24 sl25 sl26 sl27 sl28 sl29 sl30 sl31 sl32 sl33 sl34 sl35 sl36 sl37 sl38 sl39 sl40 sl41 sl42 sl43 sl44 : Array (Option Value)} {oc0 kV0 dc0 pm0 cd0 ct0 oc1 kV1 dc1 pm1 cd1 ct1 oc2 kV2 dc2 pm2 cd2 ct2 oc3 kV3 dc3 pm3 cd3 ct3 oc4 kV4 dc4 pm4 cd4 ct4 oc5 kV5 dc5 pm5 cd5 ct5 oc6 kV6 dc6 pm6 cd6 ct6 oc7 kV7 dc7 pm7 cd7 ct7 oc8 kV8 dc8 pm8 cd8 ct8 oc9 kV9 dc9 pm9 cd9 ct9 oc10 kV10 dc10 pm10 cd10 ct10 oc11 kV11 dc11 pm11 cd11 ct11 oc12 kV12 dc12 pm12 cd12 ct12 oc13 kV13 dc13 pm13 cd13 ct13 oc14 kV14 dc14 pm14 cd14 ct14 oc15 kV15 dc15 pm15 cd15 ct15 oc16 kV16 dc16 pm16 cd16 ct16 oc17 kV17 dc17 pm17 cd17 ct17 oc18 kV18 dc18 pm18 cd18 ct18 oc19 kV19 dc19 pm19 cd19 ct19 oc20 kV20 dc20 pm20 cd20 ct20 oc21 kV21 dc21 pm21 cd21 ct21 oc22 kV22 dc22 pm22 cd22 ct22 oc23 kV23 dc23 pm23 cd23 ct23 oc24 kV24 dc24 pm24 cd24 ct24 oc25 kV25 dc25 pm25 cd25 ct25 oc26 kV26 dc26 pm26 cd26 ct26 oc27 kV27 dc27 pm27 cd27 ct27 oc28 kV28 dc28 pm28 cd28 ct28 oc29 kV29 dc29 pm29 cd29 ct29 oc30 kV30 dc30 pm30 cd30 ct30 oc31 kV31 dc31 pm31 cd31 ct31 oc32 kV32 dc32 pm32 cd32 ct32 oc33 kV33 dc33 pm33 cd33 ct33 oc34 kV34 dc34 pm34 cd34 ct34 oc35 kV35 dc35 pm35 cd35 ct35 oc36 kV36 dc36 pm36 cd36 ct36 oc37 kV37 dc37 pm37 cd37 ct37 oc38 kV38 dc38 pm38 cd38 ct38 oc39 kV39 dc39 pm39 cd39 ct39 oc40 kV40 dc40 pm40 cd40 ct40 oc41 kV41 dc41 pm41 cd41 ct41 oc42 kV42 dc42 pm42 cd42 ct42 oc43 kV43 dc43 pm43 cd43 ct43 oc44 kV44 dc44 pm44 cd44 ct44 : Value} {t_UNIT : Tok} {t_PLACES : Tok} {t_LONGEST_TEXT : Tok} {t_WRONG_VALUE_0 : Tok} {t_WRONG_VALUE_1 : Tok} {a_WRONG_VALUE : Addr} {d_WRONG_VALUE : Option Addr} {z_WRONG_VALUE : Nat} {w_WRONG_VALUE : Array (Option Value)} {t_MOST : Tok} {t_LEAST_PLACES : Tok} {t_MOST_PLACES : Tok} {t_RELEASED_0 : Tok} {t_RELEASED_1 : Tok} {t_RELEASED_2 : Tok} {t_RELEASED_3 : Tok} {t_RELEASED_4 : Tok} {a_RELEASED : Addr} {d_RELEASED : Option Addr} {z_RELEASED : Nat} {w_RELEASED : Array (Option Value)} {a_NUMERIC : Addr} {es_NUMERIC : Array DictEntry} {n_NUMERIC : Nat} {a_SINGLE : Addr} {es_SINGLE : Array DictEntry} {n_SINGLE : Nat} {a_DOUBLE : Addr} {es_DOUBLE : Array DictEntry} {n_DOUBLE : Nat}
        (a0 : PySem.W.nsIn K mainGlobals "_law_all" = some (some (.ref f0))) (l0 : K.lookup f0 = some ⟨oc0, od0, .func (PySem.W.fnOf "_law_all" "_law_all" (defArgs s_l_all) (defBody s_l_all) (defScope s_l_all) .none kV0 dc0 pm0 an0 cd0 ct0), sl0⟩) (c0 : PySem.W.codeIn K cd0 "_law_all" = true) (k0 : PySem.W.keepIn K (.ref f0) = true)
    (a1 : PySem.W.nsIn K mainGlobals "_law_decimal" = some (some (.ref f1))) (l1 : K.lookup f1 = some ⟨oc1, od1, .func (PySem.W.fnOf "_law_decimal" "_law_decimal" (defArgs s_l_decimal) (defBody s_l_decimal) (defScope s_l_decimal) .none kV1 dc1 pm1 an1 cd1 ct1), sl1⟩) (c1 : PySem.W.codeIn K cd1 "_law_decimal" = true) (k1 : PySem.W.keepIn K (.ref f1) = true)
    (a2 : PySem.W.nsIn K mainGlobals "_law_as_text" = some (some (.ref f2))) (l2 : K.lookup f2 = some ⟨oc2, od2, .func (PySem.W.fnOf "_law_as_text" "_law_as_text" (defArgs s_l_as_text) (defBody s_l_as_text) (defScope s_l_as_text) .none kV2 dc2 pm2 an2 cd2 ct2), sl2⟩) (c2 : PySem.W.codeIn K cd2 "_law_as_text" = true) (k2 : PySem.W.keepIn K (.ref f2) = true)
    (a3 : PySem.W.nsIn K mainGlobals "_law_bad" = some (some (.ref f3))) (l3 : K.lookup f3 = some ⟨oc3, od3, .func (PySem.W.fnOf "_law_bad" "_law_bad" (defArgs s_l_bad) (defBody s_l_bad) (defScope s_l_bad) .none kV3 dc3 pm3 an3 cd3 ct3), sl3⟩) (c3 : PySem.W.codeIn K cd3 "_law_bad" = true) (k3 : PySem.W.keepIn K (.ref f3) = true)
    (a4 : PySem.W.nsIn K mainGlobals "_law_fits" = some (some (.ref f4))) (l4 : K.lookup f4 = some ⟨oc4, od4, .func (PySem.W.fnOf "_law_fits" "_law_fits" (defArgs s_l_fits) (defBody s_l_fits) (defScope s_l_fits) .none kV4 dc4 pm4 an4 cd4 ct4), sl4⟩) (c4 : PySem.W.codeIn K cd4 "_law_fits" = true) (k4 : PySem.W.keepIn K (.ref f4) = true)
    (a5 : PySem.W.nsIn K mainGlobals "_law_as_number" = some (some (.ref f5))) (l5 : K.lookup f5 = some ⟨oc5, od5, .func (PySem.W.fnOf "_law_as_number" "_law_as_number" (defArgs s_l_as_number) (defBody s_l_as_number) (defScope s_l_as_number) .none kV5 dc5 pm5 an5 cd5 ct5), sl5⟩) (c5 : PySem.W.codeIn K cd5 "_law_as_number" = true) (k5 : PySem.W.keepIn K (.ref f5) = true)
    (a6 : PySem.W.nsIn K mainGlobals "_law_numbers" = some (some (.ref f6))) (l6 : K.lookup f6 = some ⟨oc6, od6, .func (PySem.W.fnOf "_law_numbers" "_law_numbers" (defArgs s_l_numbers) (defBody s_l_numbers) (defScope s_l_numbers) .none kV6 dc6 pm6 an6 cd6 ct6), sl6⟩) (c6 : PySem.W.codeIn K cd6 "_law_numbers" = true) (k6 : PySem.W.keepIn K (.ref f6) = true)
    (a7 : PySem.W.nsIn K mainGlobals "_law_quotient" = some (some (.ref f7))) (l7 : K.lookup f7 = some ⟨oc7, od7, .func (PySem.W.fnOf "_law_quotient" "_law_quotient" (defArgs s_l_quotient) (defBody s_l_quotient) (defScope s_l_quotient) .none kV7 dc7 pm7 an7 cd7 ct7), sl7⟩) (c7 : PySem.W.codeIn K cd7 "_law_quotient" = true) (k7 : PySem.W.keepIn K (.ref f7) = true)
    (a8 : PySem.W.nsIn K mainGlobals "_law_counted" = some (some (.ref f8))) (l8 : K.lookup f8 = some ⟨oc8, od8, .func (PySem.W.fnOf "_law_counted" "_law_counted" (defArgs s_l_counted) (defBody s_l_counted) (defScope s_l_counted) .none kV8 dc8 pm8 an8 cd8 ct8), sl8⟩) (c8 : PySem.W.codeIn K cd8 "_law_counted" = true) (k8 : PySem.W.keepIn K (.ref f8) = true)
    (a9 : PySem.W.nsIn K mainGlobals "_law_joined" = some (some (.ref f9))) (l9 : K.lookup f9 = some ⟨oc9, od9, .func (PySem.W.fnOf "_law_joined" "_law_joined" (defArgs s_l_joined) (defBody s_l_joined) (defScope s_l_joined) .none kV9 dc9 pm9 an9 cd9 ct9), sl9⟩) (c9 : PySem.W.codeIn K cd9 "_law_joined" = true) (k9 : PySem.W.keepIn K (.ref f9) = true)
    (a10 : PySem.W.nsIn K mainGlobals "_law_integer" = some (some (.ref f10))) (l10 : K.lookup f10 = some ⟨oc10, od10, .func (PySem.W.fnOf "_law_integer" "_law_integer" (defArgs s_l_integer) (defBody s_l_integer) (defScope s_l_integer) .none kV10 dc10 pm10 an10 cd10 ct10), sl10⟩) (c10 : PySem.W.codeIn K cd10 "_law_integer" = true) (k10 : PySem.W.keepIn K (.ref f10) = true)
    (a11 : PySem.W.nsIn K mainGlobals "_law_single" = some (some (.ref f11))) (l11 : K.lookup f11 = some ⟨oc11, od11, .func (PySem.W.fnOf "_law_single" "_law_single" (defArgs s_l_single) (defBody s_l_single) (defScope s_l_single) .none kV11 dc11 pm11 an11 cd11 ct11), sl11⟩) (c11 : PySem.W.codeIn K cd11 "_law_single" = true) (k11 : PySem.W.keepIn K (.ref f11) = true)
    (a12 : PySem.W.nsIn K mainGlobals "_law_truths" = some (some (.ref f12))) (l12 : K.lookup f12 = some ⟨oc12, od12, .func (PySem.W.fnOf "_law_truths" "_law_truths" (defArgs s_l_truths) (defBody s_l_truths) (defScope s_l_truths) .none kV12 dc12 pm12 an12 cd12 ct12), sl12⟩) (c12 : PySem.W.codeIn K cd12 "_law_truths" = true) (k12 : PySem.W.keepIn K (.ref f12) = true)
    (a13 : PySem.W.nsIn K mainGlobals "_law_called" = some (some (.ref f13))) (l13 : K.lookup f13 = some ⟨oc13, od13, .func (PySem.W.fnOf "_law_called" "_law_called" (defArgs s_l_called) (defBody s_l_called) (defScope s_l_called) .none kV13 dc13 pm13 an13 cd13 ct13), sl13⟩) (c13 : PySem.W.codeIn K cd13 "_law_called" = true) (k13 : PySem.W.keepIn K (.ref f13) = true)
    (a14 : PySem.W.nsIn K mainGlobals "_law_take" = some (some (.ref f14))) (l14 : K.lookup f14 = some ⟨oc14, od14, .func (PySem.W.fnOf "_law_take" "_law_take" (defArgs s_l_take) (defBody s_l_take) (defScope s_l_take) .none kV14 dc14 pm14 an14 cd14 ct14), sl14⟩) (c14 : PySem.W.codeIn K cd14 "_law_take" = true) (k14 : PySem.W.keepIn K (.ref f14) = true)
    (a15 : PySem.W.nsIn K mainGlobals "_law_value" = some (some (.ref f15))) (l15 : K.lookup f15 = some ⟨oc15, od15, .func (PySem.W.fnOf "_law_value" "_law_value" (defArgs s_l_value) (defBody s_l_value) (defScope s_l_value) .none kV15 dc15 pm15 an15 cd15 ct15), sl15⟩) (c15 : PySem.W.codeIn K cd15 "_law_value" = true) (k15 : PySem.W.keepIn K (.ref f15) = true)
    (a16 : PySem.W.nsIn K mainGlobals "_law_clean" = some (some (.ref f16))) (l16 : K.lookup f16 = some ⟨oc16, od16, .func (PySem.W.fnOf "_law_clean" "_law_clean" (defArgs s_l_clean) (defBody s_l_clean) (defScope s_l_clean) .none kV16 dc16 pm16 an16 cd16 ct16), sl16⟩) (c16 : PySem.W.codeIn K cd16 "_law_clean" = true) (k16 : PySem.W.keepIn K (.ref f16) = true)
    (a17 : PySem.W.nsIn K mainGlobals "_law_argument" = some (some (.ref f17))) (l17 : K.lookup f17 = some ⟨oc17, od17, .func (PySem.W.fnOf "_law_argument" "_law_argument" (defArgs s_l_argument) (defBody s_l_argument) (defScope s_l_argument) .none kV17 dc17 pm17 an17 cd17 ct17), sl17⟩) (c17 : PySem.W.codeIn K cd17 "_law_argument" = true) (k17 : PySem.W.keepIn K (.ref f17) = true)
    (a18 : PySem.W.nsIn K mainGlobals "_law_calls" = some (some (.ref f18))) (l18 : K.lookup f18 = some ⟨oc18, od18, .func (PySem.W.fnOf "_law_calls" "_law_calls" (defArgs s_l_calls) (defBody s_l_calls) (defScope s_l_calls) .none kV18 dc18 pm18 an18 cd18 ct18), sl18⟩) (c18 : PySem.W.codeIn K cd18 "_law_calls" = true) (k18 : PySem.W.keepIn K (.ref f18) = true)
    (a19 : PySem.W.nsIn K mainGlobals "_law_state" = some (some (.ref f19))) (l19 : K.lookup f19 = some ⟨oc19, od19, .func (PySem.W.fnOf "_law_state" "_law_state" (defArgs s_l_state) (defBody s_l_state) (defScope s_l_state) .none kV19 dc19 pm19 an19 cd19 ct19), sl19⟩) (c19 : PySem.W.codeIn K cd19 "_law_state" = true) (k19 : PySem.W.keepIn K (.ref f19) = true)
    (a20 : PySem.W.nsIn K mainGlobals "show_number" = some (some (.ref f20))) (l20 : K.lookup f20 = some ⟨oc20, od20, .func (PySem.W.fnOf "show_number" "show_number" (defArgs s_show_number) (defBody s_show_number) (defScope s_show_number) .none kV20 dc20 pm20 an20 cd20 ct20), sl20⟩) (c20 : PySem.W.codeIn K cd20 "show_number" = true) (k20 : PySem.W.keepIn K (.ref f20) = true)
    (a21 : PySem.W.nsIn K mainGlobals "text_in" = some (some (.ref f21))) (l21 : K.lookup f21 = some ⟨oc21, od21, .func (PySem.W.fnOf "text_in" "text_in" (defArgs s_text_in) (defBody s_text_in) (defScope s_text_in) .none kV21 dc21 pm21 an21 cd21 ct21), sl21⟩) (c21 : PySem.W.codeIn K cd21 "text_in" = true) (k21 : PySem.W.keepIn K (.ref f21) = true)
    (a22 : PySem.W.nsIn K mainGlobals "text_value" = some (some (.ref f22))) (l22 : K.lookup f22 = some ⟨oc22, od22, .func (PySem.W.fnOf "text_value" "text_value" (defArgs s_text_value) (defBody s_text_value) (defScope s_text_value) .none kV22 dc22 pm22 an22 cd22 ct22), sl22⟩) (c22 : PySem.W.codeIn K cd22 "text_value" = true) (k22 : PySem.W.keepIn K (.ref f22) = true)
    (a23 : PySem.W.nsIn K mainGlobals "number_in" = some (some (.ref f23))) (l23 : K.lookup f23 = some ⟨oc23, od23, .func (PySem.W.fnOf "number_in" "number_in" (defArgs s_number_in) (defBody s_number_in) (defScope s_number_in) .none kV23 dc23 pm23 an23 cd23 ct23), sl23⟩) (c23 : PySem.W.codeIn K cd23 "number_in" = true) (k23 : PySem.W.keepIn K (.ref f23) = true)
    (a24 : PySem.W.nsIn K mainGlobals "whole_in" = some (some (.ref f24))) (l24 : K.lookup f24 = some ⟨oc24, od24, .func (PySem.W.fnOf "whole_in" "whole_in" (defArgs s_whole_in) (defBody s_whole_in) (defScope s_whole_in) .none kV24 dc24 pm24 an24 cd24 ct24), sl24⟩) (c24 : PySem.W.codeIn K cd24 "whole_in" = true) (k24 : PySem.W.keepIn K (.ref f24) = true)
    (a25 : PySem.W.nsIn K mainGlobals "_left_of" = some (some (.ref f25))) (l25 : K.lookup f25 = some ⟨oc25, od25, .func (PySem.W.fnOf "_left_of" "_left_of" (defArgs s_left_of) (defBody s_left_of) (defScope s_left_of) .none kV25 dc25 pm25 an25 cd25 ct25), sl25⟩) (c25 : PySem.W.codeIn K cd25 "_left_of" = true) (k25 : PySem.W.keepIn K (.ref f25) = true)
    (a26 : PySem.W.nsIn K mainGlobals "_length_of" = some (some (.ref f26))) (l26 : K.lookup f26 = some ⟨oc26, od26, .func (PySem.W.fnOf "_length_of" "_length_of" (defArgs s_length_of) (defBody s_length_of) (defScope s_length_of) .none kV26 dc26 pm26 an26 cd26 ct26), sl26⟩) (c26 : PySem.W.codeIn K cd26 "_length_of" = true) (k26 : PySem.W.keepIn K (.ref f26) = true)
    (a27 : PySem.W.nsIn K mainGlobals "truth_in" = some (some (.ref f27))) (l27 : K.lookup f27 = some ⟨oc27, od27, .func (PySem.W.fnOf "truth_in" "truth_in" (defArgs s_truth_in) (defBody s_truth_in) (defScope s_truth_in) .none kV27 dc27 pm27 an27 cd27 ct27), sl27⟩) (c27 : PySem.W.codeIn K cd27 "truth_in" = true) (k27 : PySem.W.keepIn K (.ref f27) = true)
    (a28 : PySem.W.nsIn K mainGlobals "_logical" = some (some (.ref f28))) (l28 : K.lookup f28 = some ⟨oc28, od28, .func (PySem.W.fnOf "_logical" "_logical" (defArgs s_logical) (defBody s_logical) (defScope s_logical) .none kV28 dc28 pm28 an28 cd28 ct28), sl28⟩) (c28 : PySem.W.codeIn K cd28 "_logical" = true) (k28 : PySem.W.keepIn K (.ref f28) = true)
    (a29 : PySem.W.nsIn K mainGlobals "_not_of" = some (some (.ref f29))) (l29 : K.lookup f29 = some ⟨oc29, od29, .func (PySem.W.fnOf "_not_of" "_not_of" (defArgs s_not_of) (defBody s_not_of) (defScope s_not_of) .none kV29 dc29 pm29 an29 cd29 ct29), sl29⟩) (c29 : PySem.W.codeIn K cd29 "_not_of" = true) (k29 : PySem.W.keepIn K (.ref f29) = true)
    (a30 : PySem.W.nsIn K mainGlobals "number_value" = some (some (.ref f30))) (l30 : K.lookup f30 = some ⟨oc30, od30, .func (PySem.W.fnOf "number_value" "number_value" (defArgs s_number_value) (defBody s_number_value) (defScope s_number_value) .none kV30 dc30 pm30 an30 cd30 ct30), sl30⟩) (c30 : PySem.W.codeIn K cd30 "number_value" = true) (k30 : PySem.W.keepIn K (.ref f30) = true)
    (a31 : PySem.W.nsIn K mainGlobals "rounded" = some (some (.ref f31))) (l31 : K.lookup f31 = some ⟨oc31, od31, .func (PySem.W.fnOf "rounded" "rounded" (defArgs s_rounded) (defBody s_rounded) (defScope s_rounded) .none kV31 dc31 pm31 an31 cd31 ct31), sl31⟩) (c31 : PySem.W.codeIn K cd31 "rounded" = true) (k31 : PySem.W.keepIn K (.ref f31) = true)
    (a32 : PySem.W.nsIn K mainGlobals "_average_of" = some (some (.ref f32))) (l32 : K.lookup f32 = some ⟨oc32, od32, .func (PySem.W.fnOf "_average_of" "_average_of" (defArgs s_average_of) (defBody s_average_of) (defScope s_average_of) .none kV32 dc32 pm32 an32 cd32 ct32), sl32⟩) (c32 : PySem.W.codeIn K cd32 "_average_of" = true) (k32 : PySem.W.keepIn K (.ref f32) = true)
    (a33 : PySem.W.nsIn K mainGlobals "_count_of" = some (some (.ref f33))) (l33 : K.lookup f33 = some ⟨oc33, od33, .func (PySem.W.fnOf "_count_of" "_count_of" (defArgs s_count_of) (defBody s_count_of) (defScope s_count_of) .none kV33 dc33 pm33 an33 cd33 ct33), sl33⟩) (c33 : PySem.W.codeIn K cd33 "_count_of" = true) (k33 : PySem.W.keepIn K (.ref f33) = true)
    (a34 : PySem.W.nsIn K mainGlobals "_greatest_of" = some (some (.ref f34))) (l34 : K.lookup f34 = some ⟨oc34, od34, .func (PySem.W.fnOf "_greatest_of" "_greatest_of" (defArgs s_greatest_of) (defBody s_greatest_of) (defScope s_greatest_of) .none kV34 dc34 pm34 an34 cd34 ct34), sl34⟩) (c34 : PySem.W.codeIn K cd34 "_greatest_of" = true) (k34 : PySem.W.keepIn K (.ref f34) = true)
    (a35 : PySem.W.nsIn K mainGlobals "_least_of" = some (some (.ref f35))) (l35 : K.lookup f35 = some ⟨oc35, od35, .func (PySem.W.fnOf "_least_of" "_least_of" (defArgs s_least_of) (defBody s_least_of) (defScope s_least_of) .none kV35 dc35 pm35 an35 cd35 ct35), sl35⟩) (c35 : PySem.W.codeIn K cd35 "_least_of" = true) (k35 : PySem.W.keepIn K (.ref f35) = true)
    (a36 : PySem.W.nsIn K mainGlobals "_sum_of" = some (some (.ref f36))) (l36 : K.lookup f36 = some ⟨oc36, od36, .func (PySem.W.fnOf "_sum_of" "_sum_of" (defArgs s_sum_of) (defBody s_sum_of) (defScope s_sum_of) .none kV36 dc36 pm36 an36 cd36 ct36), sl36⟩) (c36 : PySem.W.codeIn K cd36 "_sum_of" = true) (k36 : PySem.W.keepIn K (.ref f36) = true)
    (a37 : PySem.W.nsIn K mainGlobals "_numeric" = some (some (.ref f37))) (l37 : K.lookup f37 = some ⟨oc37, od37, .func (PySem.W.fnOf "_numeric" "_numeric" (defArgs s_numeric) (defBody s_numeric) (defScope s_numeric) .none kV37 dc37 pm37 an37 cd37 ct37), sl37⟩) (c37 : PySem.W.codeIn K cd37 "_numeric" = true) (k37 : PySem.W.keepIn K (.ref f37) = true)
    (a38 : PySem.W.nsIn K mainGlobals "to_places" = some (some (.ref f38))) (l38 : K.lookup f38 = some ⟨oc38, od38, .func (PySem.W.fnOf "to_places" "to_places" (defArgs s_to_places) (defBody s_to_places) (defScope s_to_places) .none kV38 dc38 pm38 an38 cd38 ct38), sl38⟩) (c38 : PySem.W.codeIn K cd38 "to_places" = true) (k38 : PySem.W.keepIn K (.ref f38) = true)
    (a39 : PySem.W.nsIn K mainGlobals "_round_of" = some (some (.ref f39))) (l39 : K.lookup f39 = some ⟨oc39, od39, .func (PySem.W.fnOf "_round_of" "_round_of" (defArgs s_round_of) (defBody s_round_of) (defScope s_round_of) .none kV39 dc39 pm39 an39 cd39 ct39), sl39⟩) (c39 : PySem.W.codeIn K cd39 "_round_of" = true) (k39 : PySem.W.keepIn K (.ref f39) = true)
    (a40 : PySem.W.nsIn K mainGlobals "_size_of" = some (some (.ref f40))) (l40 : K.lookup f40 = some ⟨oc40, od40, .func (PySem.W.fnOf "_size_of" "_size_of" (defArgs s_size_of) (defBody s_size_of) (defScope s_size_of) .none kV40 dc40 pm40 an40 cd40 ct40), sl40⟩) (c40 : PySem.W.codeIn K cd40 "_size_of" = true) (k40 : PySem.W.keepIn K (.ref f40) = true)
    (a41 : PySem.W.nsIn K mainGlobals "_values_in" = some (some (.ref f41))) (l41 : K.lookup f41 = some ⟨oc41, od41, .func (PySem.W.fnOf "_values_in" "_values_in" (defArgs s_values_in) (defBody s_values_in) (defScope s_values_in) .none kV41 dc41 pm41 an41 cd41 ct41), sl41⟩) (c41 : PySem.W.codeIn K cd41 "_values_in" = true) (k41 : PySem.W.keepIn K (.ref f41) = true)
    (a42 : PySem.W.nsIn K mainGlobals "is_error" = some (some (.ref f42))) (l42 : K.lookup f42 = some ⟨oc42, od42, .func (PySem.W.fnOf "is_error" "is_error" (defArgs s_is_error) (defBody s_is_error) (defScope s_is_error) .none kV42 dc42 pm42 an42 cd42 ct42), sl42⟩) (c42 : PySem.W.codeIn K cd42 "is_error" = true) (k42 : PySem.W.keepIn K (.ref f42) = true)
    (a43 : PySem.W.nsIn K mainGlobals "apply_function" = some (some (.ref f43))) (l43 : K.lookup f43 = some ⟨oc43, od43, .func (PySem.W.fnOf "apply_function" "apply_function" (defArgs s_apply_function) (defBody s_apply_function) (defScope s_apply_function) .none kV43 dc43 pm43 an43 cd43 ct43), sl43⟩) (c43 : PySem.W.codeIn K cd43 "apply_function" = true) (k43 : PySem.W.keepIn K (.ref f43) = true)
    (a44 : PySem.W.nsIn K mainGlobals "law" = some (some (.ref f44))) (l44 : K.lookup f44 = some ⟨oc44, od44, .func (PySem.W.fnOf "law" "law" (defArgs s_law) (defBody s_law) (defScope s_law) .none kV44 dc44 pm44 an44 cd44 ct44), sl44⟩) (c44 : PySem.W.codeIn K cd44 "law" = true) (k44 : PySem.W.keepIn K (.ref f44) = true)
    (g_UNIT : PySem.W.nsIn K mainGlobals "UNIT" = some (some (.int 10000 t_UNIT)))
    (g_PLACES : PySem.W.nsIn K mainGlobals "PLACES" = some (some (.int 4 t_PLACES)))
    (g_LONGEST_TEXT : PySem.W.nsIn K mainGlobals "LONGEST_TEXT" = some (some (.int 60 t_LONGEST_TEXT)))
    (g_WRONG_VALUE : PySem.W.nsIn K mainGlobals "WRONG_VALUE" = some (some (.ref a_WRONG_VALUE))) (l_WRONG_VALUE : K.lookup a_WRONG_VALUE = some ⟨.type "tuple", d_WRONG_VALUE, .seq #[(.str (PySem.Str.ofString "error") t_WRONG_VALUE_0), (.str (PySem.Str.ofString "value") t_WRONG_VALUE_1)] z_WRONG_VALUE, w_WRONG_VALUE⟩)
    (g_MOST : PySem.W.nsIn K mainGlobals "MOST" = some (some (.int 1000000000000000 t_MOST)))
    (g_LEAST_PLACES : PySem.W.nsIn K mainGlobals "LEAST_PLACES" = some (some (.int (-6) t_LEAST_PLACES)))
    (g_MOST_PLACES : PySem.W.nsIn K mainGlobals "MOST_PLACES" = some (some (.int 4 t_MOST_PLACES)))
    (g_RELEASED : PySem.W.nsIn K mainGlobals "RELEASED" = some (some (.ref a_RELEASED))) (l_RELEASED : K.lookup a_RELEASED = some ⟨.type "tuple", d_RELEASED, .seq #[(.str (PySem.Str.ofString "RSUM") t_RELEASED_0), (.str (PySem.Str.ofString "RCOUNT") t_RELEASED_1), (.str (PySem.Str.ofString "RAVG") t_RELEASED_2), (.str (PySem.Str.ofString "RMIN") t_RELEASED_3), (.str (PySem.Str.ofString "RMAX") t_RELEASED_4)] z_RELEASED, w_RELEASED⟩)
    (g_NUMERIC : PySem.W.nsIn K mainGlobals "NUMERIC" = some (some (.ref a_NUMERIC))) (l_NUMERIC : K.lookup a_NUMERIC = some ⟨.type "dict", none, .dict es_NUMERIC n_NUMERIC, #[]⟩) (kl_NUMERIC : PySem.W.KeysLit w.params es_NUMERIC.toList) (i_NUMERIC_0 : PySem.W.nsIn K a_NUMERIC "SUM" = some (some (.ref f36))) (i_NUMERIC_1 : PySem.W.nsIn K a_NUMERIC "COUNT" = some (some (.ref f33))) (i_NUMERIC_2 : PySem.W.nsIn K a_NUMERIC "AVG" = some (some (.ref f32))) (i_NUMERIC_3 : PySem.W.nsIn K a_NUMERIC "MIN" = some (some (.ref f35))) (i_NUMERIC_4 : PySem.W.nsIn K a_NUMERIC "MAX" = some (some (.ref f34))) (lo_NUMERIC : (a_NUMERIC == sysModules) = false) (mi_NUMERIC_0 : PySem.W.nsIn K a_NUMERIC "AND" = some none) (mi_NUMERIC_1 : PySem.W.nsIn K a_NUMERIC "OR" = some none) (mi_NUMERIC_2 : PySem.W.nsIn K a_NUMERIC "JOIN" = some none) (mi_NUMERIC_3 : PySem.W.nsIn K a_NUMERIC "NOT" = some none) (mi_NUMERIC_4 : PySem.W.nsIn K a_NUMERIC "LEN" = some none) (mi_NUMERIC_5 : PySem.W.nsIn K a_NUMERIC "ABS" = some none) (mi_NUMERIC_6 : PySem.W.nsIn K a_NUMERIC "LEFT" = some none) (mi_NUMERIC_7 : PySem.W.nsIn K a_NUMERIC "ROUND" = some none)
    (g_SINGLE : PySem.W.nsIn K mainGlobals "SINGLE" = some (some (.ref a_SINGLE))) (l_SINGLE : K.lookup a_SINGLE = some ⟨.type "dict", none, .dict es_SINGLE n_SINGLE, #[]⟩) (kl_SINGLE : PySem.W.KeysLit w.params es_SINGLE.toList) (i_SINGLE_0 : PySem.W.nsIn K a_SINGLE "NOT" = some (some (.ref f29))) (i_SINGLE_1 : PySem.W.nsIn K a_SINGLE "LEN" = some (some (.ref f26))) (i_SINGLE_2 : PySem.W.nsIn K a_SINGLE "ABS" = some (some (.ref f40))) (lo_SINGLE : (a_SINGLE == sysModules) = false) (mi_SINGLE_0 : PySem.W.nsIn K a_SINGLE "LEFT" = some none) (mi_SINGLE_1 : PySem.W.nsIn K a_SINGLE "ROUND" = some none)
    (g_DOUBLE : PySem.W.nsIn K mainGlobals "DOUBLE" = some (some (.ref a_DOUBLE))) (l_DOUBLE : K.lookup a_DOUBLE = some ⟨.type "dict", none, .dict es_DOUBLE n_DOUBLE, #[]⟩) (kl_DOUBLE : PySem.W.KeysLit w.params es_DOUBLE.toList) (i_DOUBLE_0 : PySem.W.nsIn K a_DOUBLE "LEFT" = some (some (.ref f25))) (i_DOUBLE_1 : PySem.W.nsIn K a_DOUBLE "ROUND" = some (some (.ref f39)))
    (z_abs : PySem.W.nsIn K mainGlobals "abs" = some none)
    (z_all : PySem.W.nsIn K mainGlobals "all" = some none)
    (z_any : PySem.W.nsIn K mainGlobals "any" = some none)
    (z_int : PySem.W.nsIn K mainGlobals "int" = some none)
    (z_len : PySem.W.nsIn K mainGlobals "len" = some none)
    (z_list : PySem.W.nsIn K mainGlobals "list" = some none)
    (z_max : PySem.W.nsIn K mainGlobals "max" = some none)
    (z_min : PySem.W.nsIn K mainGlobals "min" = some none)
    (z_range : PySem.W.nsIn K mainGlobals "range" = some none)
    (z_repr : PySem.W.nsIn K mainGlobals "repr" = some none)
    (z_sorted : PySem.W.nsIn K mainGlobals "sorted" = some none)
    (z_str : PySem.W.nsIn K mainGlobals "str" = some none)
    (z_sum : PySem.W.nsIn K mainGlobals "sum" = some none)
    (nd : ([f36, f33, f32, f35, f34, f25, f39, f29, f26, f40] : List Addr).Nodup) :
    ∃ (fd : FuncData) (Fa : List Addr), CFa Fa ∧ Fun K "law" "law" s_law fa fd ∧ (∀ (s : Shared) (v : Value), BindsTo s fd ⟨[v], []⟩ [("script", v)]) ∧ ∀ base : Heap, K.In base → base.Ns mainGlobals mg → TopB l.prog w K mg base n_law "law" s_law fa 5 (b_law Fa) := by
  have e := hfa.symm.trans (PySem.W.mg_of X G a44)
  cases e
  let T : Tx K w mg := {
    f__law_all := ⟨_, _, fun_mk (st := s_l_all) l0 c0 k0, PySem.W.mg_of X G a0, (fun_mk (st := s_l_all) l0 c0 k0).binds (ps := ["args"]) fun _ _ _ _ _ _ us hl => match us, hl with | [_], _ => rfl⟩
    f__law_decimal := ⟨_, _, fun_mk (st := s_l_decimal) l1 c1 k1, PySem.W.mg_of X G a1, (fun_mk (st := s_l_decimal) l1 c1 k1).binds (ps := ["number"]) fun _ _ _ _ _ _ us hl => match us, hl with | [_], _ => rfl⟩
    f__law_as_text := ⟨_, _, fun_mk (st := s_l_as_text) l2 c2 k2, PySem.W.mg_of X G a2, (fun_mk (st := s_l_as_text) l2 c2 k2).binds (ps := ["value"]) fun _ _ _ _ _ _ us hl => match us, hl with | [_], _ => rfl⟩
    f__law_bad := ⟨_, _, fun_mk (st := s_l_bad) l3 c3 k3, PySem.W.mg_of X G a3, (fun_mk (st := s_l_bad) l3 c3 k3).binds (ps := ["value"]) fun _ _ _ _ _ _ us hl => match us, hl with | [_], _ => rfl⟩
    f__law_fits := ⟨_, _, fun_mk (st := s_l_fits) l4 c4 k4, PySem.W.mg_of X G a4, (fun_mk (st := s_l_fits) l4 c4 k4).binds (ps := ["number"]) fun _ _ _ _ _ _ us hl => match us, hl with | [_], _ => rfl⟩
    f__law_as_number := ⟨_, _, fun_mk (st := s_l_as_number) l5 c5 k5, PySem.W.mg_of X G a5, (fun_mk (st := s_l_as_number) l5 c5 k5).binds (ps := ["value"]) fun _ _ _ _ _ _ us hl => match us, hl with | [_], _ => rfl⟩
    f__law_numbers := ⟨_, _, fun_mk (st := s_l_numbers) l6 c6 k6, PySem.W.mg_of X G a6, (fun_mk (st := s_l_numbers) l6 c6 k6).binds (ps := ["args"]) fun _ _ _ _ _ _ us hl => match us, hl with | [_], _ => rfl⟩
    f__law_quotient := ⟨_, _, fun_mk (st := s_l_quotient) l7 c7 k7, PySem.W.mg_of X G a7, (fun_mk (st := s_l_quotient) l7 c7 k7).binds (ps := ["a", "b"]) fun _ _ _ _ _ _ us hl => match us, hl with | [_, _], _ => rfl⟩
    f__law_counted := ⟨_, _, fun_mk (st := s_l_counted) l8 c8 k8, PySem.W.mg_of X G a8, (fun_mk (st := s_l_counted) l8 c8 k8).binds (ps := ["name", "args"]) fun _ _ _ _ _ _ us hl => match us, hl with | [_, _], _ => rfl⟩
    f__law_joined := ⟨_, _, fun_mk (st := s_l_joined) l9 c9 k9, PySem.W.mg_of X G a9, (fun_mk (st := s_l_joined) l9 c9 k9).binds (ps := ["text"]) fun _ _ _ _ _ _ us hl => match us, hl with | [_], _ => rfl⟩
    f__law_integer := ⟨_, _, fun_mk (st := s_l_integer) l10 c10 k10, PySem.W.mg_of X G a10, (fun_mk (st := s_l_integer) l10 c10 k10).binds (ps := ["value"]) fun _ _ _ _ _ _ us hl => match us, hl with | [_], _ => rfl⟩
    f__law_single := ⟨_, _, fun_mk (st := s_l_single) l11 c11 k11, PySem.W.mg_of X G a11, (fun_mk (st := s_l_single) l11 c11 k11).binds (ps := ["name", "values"]) fun _ _ _ _ _ _ us hl => match us, hl with | [_, _], _ => rfl⟩
    f__law_truths := ⟨_, _, fun_mk (st := s_l_truths) l12 c12 k12, PySem.W.mg_of X G a12, (fun_mk (st := s_l_truths) l12 c12 k12).binds (ps := ["args"]) fun _ _ _ _ _ _ us hl => match us, hl with | [_], _ => rfl⟩
    f__law_called := ⟨_, _, fun_mk (st := s_l_called) l13 c13 k13, PySem.W.mg_of X G a13, (fun_mk (st := s_l_called) l13 c13 k13).binds (ps := ["name", "args"]) fun _ _ _ _ _ _ us hl => match us, hl with | [_, _], _ => rfl⟩
    f__law_take := ⟨_, _, fun_mk (st := s_l_take) l14 c14 k14, PySem.W.mg_of X G a14, (fun_mk (st := s_l_take) l14 c14 k14).binds (ps := ["state", "most"]) fun _ _ _ _ _ _ us hl => match us, hl with | [_, _], _ => rfl⟩
    f__law_value := ⟨_, _, fun_mk (st := s_l_value) l15 c15 k15, PySem.W.mg_of X G a15, (fun_mk (st := s_l_value) l15 c15 k15).binds (ps := ["state"]) fun _ _ _ _ _ _ us hl => match us, hl with | [_], _ => rfl⟩
    f__law_clean := ⟨_, _, fun_mk (st := s_l_clean) l16 c16 k16, PySem.W.mg_of X G a16, (fun_mk (st := s_l_clean) l16 c16 k16).binds (ps := ["state"]) fun _ _ _ _ _ _ us hl => match us, hl with | [_], _ => rfl⟩
    f__law_argument := ⟨_, _, fun_mk (st := s_l_argument) l17 c17 k17, PySem.W.mg_of X G a17, (fun_mk (st := s_l_argument) l17 c17 k17).binds (ps := ["state", "errors"]) fun _ _ _ _ _ _ us hl => match us, hl with | [_, _], _ => rfl⟩
    f__law_calls := ⟨_, _, fun_mk (st := s_l_calls) l18 c18 k18, PySem.W.mg_of X G a18, (fun_mk (st := s_l_calls) l18 c18 k18).binds (ps := ["state"]) fun _ _ _ _ _ _ us hl => match us, hl with | [_], _ => rfl⟩
    f__law_state := ⟨_, _, fun_mk (st := s_l_state) l19 c19 k19, PySem.W.mg_of X G a19, (fun_mk (st := s_l_state) l19 c19 k19).binds (ps := ["script"]) fun _ _ _ _ _ _ us hl => match us, hl with | [_], _ => rfl⟩
    f_show_number := ⟨_, _, fun_mk (st := s_show_number) l20 c20 k20, PySem.W.mg_of X G a20, (fun_mk (st := s_show_number) l20 c20 k20).binds (ps := ["n"]) fun _ _ _ _ _ _ us hl => match us, hl with | [_], _ => rfl⟩
    f_text_in := ⟨_, _, fun_mk (st := s_text_in) l21 c21 k21, PySem.W.mg_of X G a21, (fun_mk (st := s_text_in) l21 c21 k21).binds (ps := ["value"]) fun _ _ _ _ _ _ us hl => match us, hl with | [_], _ => rfl⟩
    f_text_value := ⟨_, _, fun_mk (st := s_text_value) l22 c22 k22, PySem.W.mg_of X G a22, (fun_mk (st := s_text_value) l22 c22 k22).binds (ps := ["text"]) fun _ _ _ _ _ _ us hl => match us, hl with | [_], _ => rfl⟩
    f_number_in := ⟨_, _, fun_mk (st := s_number_in) l23 c23 k23, PySem.W.mg_of X G a23, (fun_mk (st := s_number_in) l23 c23 k23).binds (ps := ["value"]) fun _ _ _ _ _ _ us hl => match us, hl with | [_], _ => rfl⟩
    f_whole_in := ⟨_, _, fun_mk (st := s_whole_in) l24 c24 k24, PySem.W.mg_of X G a24, (fun_mk (st := s_whole_in) l24 c24 k24).binds (ps := ["value"]) fun _ _ _ _ _ _ us hl => match us, hl with | [_], _ => rfl⟩
    f__left_of := ⟨_, _, fun_mk (st := s_left_of) l25 c25 k25, PySem.W.mg_of X G a25, (fun_mk (st := s_left_of) l25 c25 k25).binds (ps := ["value", "size"]) fun _ _ _ _ _ _ us hl => match us, hl with | [_, _], _ => rfl⟩
    f__length_of := ⟨_, _, fun_mk (st := s_length_of) l26 c26 k26, PySem.W.mg_of X G a26, (fun_mk (st := s_length_of) l26 c26 k26).binds (ps := ["value"]) fun _ _ _ _ _ _ us hl => match us, hl with | [_], _ => rfl⟩
    f_truth_in := ⟨_, _, fun_mk (st := s_truth_in) l27 c27 k27, PySem.W.mg_of X G a27, (fun_mk (st := s_truth_in) l27 c27 k27).binds (ps := ["value"]) fun _ _ _ _ _ _ us hl => match us, hl with | [_], _ => rfl⟩
    f__logical := ⟨_, _, fun_mk (st := s_logical) l28 c28 k28, PySem.W.mg_of X G a28, (fun_mk (st := s_logical) l28 c28 k28).binds (ps := ["name", "args"]) fun _ _ _ _ _ _ us hl => match us, hl with | [_, _], _ => rfl⟩
    f__not_of := ⟨_, _, fun_mk (st := s_not_of) l29 c29 k29, PySem.W.mg_of X G a29, (fun_mk (st := s_not_of) l29 c29 k29).binds (ps := ["value"]) fun _ _ _ _ _ _ us hl => match us, hl with | [_], _ => rfl⟩
    f_number_value := ⟨_, _, fun_mk (st := s_number_value) l30 c30 k30, PySem.W.mg_of X G a30, (fun_mk (st := s_number_value) l30 c30 k30).binds (ps := ["n"]) fun _ _ _ _ _ _ us hl => match us, hl with | [_], _ => rfl⟩
    f_rounded := ⟨_, _, fun_mk (st := s_rounded) l31 c31 k31, PySem.W.mg_of X G a31, (fun_mk (st := s_rounded) l31 c31 k31).binds (ps := ["a", "b"]) fun _ _ _ _ _ _ us hl => match us, hl with | [_, _], _ => rfl⟩
    f__average_of := ⟨_, _, fun_mk (st := s_average_of) l32 c32 k32, PySem.W.mg_of X G a32, (fun_mk (st := s_average_of) l32 c32 k32).binds (ps := ["numbers"]) fun _ _ _ _ _ _ us hl => match us, hl with | [_], _ => rfl⟩
    f__count_of := ⟨_, _, fun_mk (st := s_count_of) l33 c33 k33, PySem.W.mg_of X G a33, (fun_mk (st := s_count_of) l33 c33 k33).binds (ps := ["numbers"]) fun _ _ _ _ _ _ us hl => match us, hl with | [_], _ => rfl⟩
    f__greatest_of := ⟨_, _, fun_mk (st := s_greatest_of) l34 c34 k34, PySem.W.mg_of X G a34, (fun_mk (st := s_greatest_of) l34 c34 k34).binds (ps := ["numbers"]) fun _ _ _ _ _ _ us hl => match us, hl with | [_], _ => rfl⟩
    f__least_of := ⟨_, _, fun_mk (st := s_least_of) l35 c35 k35, PySem.W.mg_of X G a35, (fun_mk (st := s_least_of) l35 c35 k35).binds (ps := ["numbers"]) fun _ _ _ _ _ _ us hl => match us, hl with | [_], _ => rfl⟩
    f__sum_of := ⟨_, _, fun_mk (st := s_sum_of) l36 c36 k36, PySem.W.mg_of X G a36, (fun_mk (st := s_sum_of) l36 c36 k36).binds (ps := ["numbers"]) fun _ _ _ _ _ _ us hl => match us, hl with | [_], _ => rfl⟩
    f__numeric := ⟨_, _, fun_mk (st := s_numeric) l37 c37 k37, PySem.W.mg_of X G a37, (fun_mk (st := s_numeric) l37 c37 k37).binds (ps := ["name", "args"]) fun _ _ _ _ _ _ us hl => match us, hl with | [_, _], _ => rfl⟩
    f_to_places := ⟨_, _, fun_mk (st := s_to_places) l38 c38 k38, PySem.W.mg_of X G a38, (fun_mk (st := s_to_places) l38 c38 k38).binds (ps := ["n", "places"]) fun _ _ _ _ _ _ us hl => match us, hl with | [_, _], _ => rfl⟩
    f__round_of := ⟨_, _, fun_mk (st := s_round_of) l39 c39 k39, PySem.W.mg_of X G a39, (fun_mk (st := s_round_of) l39 c39 k39).binds (ps := ["value", "size"]) fun _ _ _ _ _ _ us hl => match us, hl with | [_, _], _ => rfl⟩
    f__size_of := ⟨_, _, fun_mk (st := s_size_of) l40 c40 k40, PySem.W.mg_of X G a40, (fun_mk (st := s_size_of) l40 c40 k40).binds (ps := ["value"]) fun _ _ _ _ _ _ us hl => match us, hl with | [_], _ => rfl⟩
    f__values_in := ⟨_, _, fun_mk (st := s_values_in) l41 c41 k41, PySem.W.mg_of X G a41, (fun_mk (st := s_values_in) l41 c41 k41).binds (ps := ["args"]) fun _ _ _ _ _ _ us hl => match us, hl with | [_], _ => rfl⟩
    f_is_error := ⟨_, _, fun_mk (st := s_is_error) l42 c42 k42, PySem.W.mg_of X G a42, (fun_mk (st := s_is_error) l42 c42 k42).binds (ps := ["value"]) fun _ _ _ _ _ _ us hl => match us, hl with | [_], _ => rfl⟩
    f_apply_function := ⟨_, _, fun_mk (st := s_apply_function) l43 c43 k43, PySem.W.mg_of X G a43, (fun_mk (st := s_apply_function) l43 c43 k43).binds (ps := ["name", "args"]) fun _ _ _ _ _ _ us hl => match us, hl with | [_, _], _ => rfl⟩
    f_law := ⟨_, _, fun_mk (st := s_law) l44 c44 k44, PySem.W.mg_of X G a44, (fun_mk (st := s_law) l44 c44 k44).binds (ps := ["script"]) fun _ _ _ _ _ _ us hl => match us, hl with | [_], _ => rfl⟩
    c_UNIT := gc_mk (v := (.int 10000)) (PySem.W.mg_of X G g_UNIT) ⟨_, rfl⟩ fun _ => (.int _)
    c_PLACES := gc_mk (v := (.int 4)) (PySem.W.mg_of X G g_PLACES) ⟨_, rfl⟩ fun _ => (.int _)
    c_LONGEST_TEXT := gc_mk (v := (.int 60)) (PySem.W.mg_of X G g_LONGEST_TEXT) ⟨_, rfl⟩ fun _ => (.int _)
    c_WRONG_VALUE := gc_mk (v := (.ref a_WRONG_VALUE)) (PySem.W.mg_of X G g_WRONG_VALUE) rfl fun _ => (rep_ktup (xs := [(.str (PySem.Str.ofString "error")), (.str (PySem.Str.ofString "value"))]) l_WRONG_VALUE (by exact (by decide : 2 ≤ sizeLine)) (.cons ⟨_, rfl⟩ (.cons ⟨_, rfl⟩ .nil)) (.cons (.str _) (.cons (.str _) .nil)))
    c_MOST := gc_mk (v := (.int 1000000000000000)) (PySem.W.mg_of X G g_MOST) ⟨_, rfl⟩ fun _ => (.int _)
    c_LEAST_PLACES := gc_mk (v := (.int (-6))) (PySem.W.mg_of X G g_LEAST_PLACES) ⟨_, rfl⟩ fun _ => (.int _)
    c_MOST_PLACES := gc_mk (v := (.int 4)) (PySem.W.mg_of X G g_MOST_PLACES) ⟨_, rfl⟩ fun _ => (.int _)
    c_RELEASED := gc_mk (v := (.ref a_RELEASED)) (PySem.W.mg_of X G g_RELEASED) rfl fun _ => (rep_ktup (xs := [(.str (PySem.Str.ofString "RSUM")), (.str (PySem.Str.ofString "RCOUNT")), (.str (PySem.Str.ofString "RAVG")), (.str (PySem.Str.ofString "RMIN")), (.str (PySem.Str.ofString "RMAX"))]) l_RELEASED (by exact (by decide : 5 ≤ sizeLine)) (.cons ⟨_, rfl⟩ (.cons ⟨_, rfl⟩ (.cons ⟨_, rfl⟩ (.cons ⟨_, rfl⟩ (.cons ⟨_, rfl⟩ .nil))))) (.cons (.str _) (.cons (.str _) (.cons (.str _) (.cons (.str _) (.cons (.str _) .nil))))))
    i_NUMERIC := ⟨a_NUMERIC, PySem.W.mg_of X G g_NUMERIC, (kin_cons ⟨es_NUMERIC, n_NUMERIC, _, l_NUMERIC, kl_NUMERIC, lo_NUMERIC, i_NUMERIC_0, rfl⟩ (kin_cons ⟨es_NUMERIC, n_NUMERIC, _, l_NUMERIC, kl_NUMERIC, lo_NUMERIC, i_NUMERIC_1, rfl⟩ (kin_cons ⟨es_NUMERIC, n_NUMERIC, _, l_NUMERIC, kl_NUMERIC, lo_NUMERIC, i_NUMERIC_2, rfl⟩ (kin_cons ⟨es_NUMERIC, n_NUMERIC, _, l_NUMERIC, kl_NUMERIC, lo_NUMERIC, i_NUMERIC_3, rfl⟩ (kin_cons ⟨es_NUMERIC, n_NUMERIC, _, l_NUMERIC, kl_NUMERIC, lo_NUMERIC, i_NUMERIC_4, rfl⟩ kin_nil))))), (kin_cons ⟨es_NUMERIC, n_NUMERIC, _, l_NUMERIC, kl_NUMERIC, lo_NUMERIC, mi_NUMERIC_0, rfl⟩ (kin_cons ⟨es_NUMERIC, n_NUMERIC, _, l_NUMERIC, kl_NUMERIC, lo_NUMERIC, mi_NUMERIC_1, rfl⟩ (kin_cons ⟨es_NUMERIC, n_NUMERIC, _, l_NUMERIC, kl_NUMERIC, lo_NUMERIC, mi_NUMERIC_2, rfl⟩ (kin_cons ⟨es_NUMERIC, n_NUMERIC, _, l_NUMERIC, kl_NUMERIC, lo_NUMERIC, mi_NUMERIC_3, rfl⟩ (kin_cons ⟨es_NUMERIC, n_NUMERIC, _, l_NUMERIC, kl_NUMERIC, lo_NUMERIC, mi_NUMERIC_4, rfl⟩ (kin_cons ⟨es_NUMERIC, n_NUMERIC, _, l_NUMERIC, kl_NUMERIC, lo_NUMERIC, mi_NUMERIC_5, rfl⟩ (kin_cons ⟨es_NUMERIC, n_NUMERIC, _, l_NUMERIC, kl_NUMERIC, lo_NUMERIC, mi_NUMERIC_6, rfl⟩ (kin_cons ⟨es_NUMERIC, n_NUMERIC, _, l_NUMERIC, kl_NUMERIC, lo_NUMERIC, mi_NUMERIC_7, rfl⟩ kin_nil))))))))⟩
    d_NUMERIC := ⟨a_NUMERIC, PySem.W.mg_of X G g_NUMERIC, (lk_cons ⟨(.ref f36), ⟨es_NUMERIC, n_NUMERIC, _, l_NUMERIC, kl_NUMERIC, i_NUMERIC_0, rfl⟩, fun _ => (.fn f36)⟩ (lk_cons ⟨(.ref f33), ⟨es_NUMERIC, n_NUMERIC, _, l_NUMERIC, kl_NUMERIC, i_NUMERIC_1, rfl⟩, fun _ => (.fn f33)⟩ (lk_cons ⟨(.ref f32), ⟨es_NUMERIC, n_NUMERIC, _, l_NUMERIC, kl_NUMERIC, i_NUMERIC_2, rfl⟩, fun _ => (.fn f32)⟩ (lk_cons ⟨(.ref f35), ⟨es_NUMERIC, n_NUMERIC, _, l_NUMERIC, kl_NUMERIC, i_NUMERIC_3, rfl⟩, fun _ => (.fn f35)⟩ (lk_cons ⟨(.ref f34), ⟨es_NUMERIC, n_NUMERIC, _, l_NUMERIC, kl_NUMERIC, i_NUMERIC_4, rfl⟩, fun _ => (.fn f34)⟩ lk_nil)))))⟩
    i_SINGLE := ⟨a_SINGLE, PySem.W.mg_of X G g_SINGLE, (kin_cons ⟨es_SINGLE, n_SINGLE, _, l_SINGLE, kl_SINGLE, lo_SINGLE, i_SINGLE_0, rfl⟩ (kin_cons ⟨es_SINGLE, n_SINGLE, _, l_SINGLE, kl_SINGLE, lo_SINGLE, i_SINGLE_1, rfl⟩ (kin_cons ⟨es_SINGLE, n_SINGLE, _, l_SINGLE, kl_SINGLE, lo_SINGLE, i_SINGLE_2, rfl⟩ kin_nil))), (kin_cons ⟨es_SINGLE, n_SINGLE, _, l_SINGLE, kl_SINGLE, lo_SINGLE, mi_SINGLE_0, rfl⟩ (kin_cons ⟨es_SINGLE, n_SINGLE, _, l_SINGLE, kl_SINGLE, lo_SINGLE, mi_SINGLE_1, rfl⟩ kin_nil))⟩
    d_SINGLE := ⟨a_SINGLE, PySem.W.mg_of X G g_SINGLE, (lk_cons ⟨(.ref f29), ⟨es_SINGLE, n_SINGLE, _, l_SINGLE, kl_SINGLE, i_SINGLE_0, rfl⟩, fun _ => (.fn f29)⟩ (lk_cons ⟨(.ref f26), ⟨es_SINGLE, n_SINGLE, _, l_SINGLE, kl_SINGLE, i_SINGLE_1, rfl⟩, fun _ => (.fn f26)⟩ (lk_cons ⟨(.ref f40), ⟨es_SINGLE, n_SINGLE, _, l_SINGLE, kl_SINGLE, i_SINGLE_2, rfl⟩, fun _ => (.fn f40)⟩ lk_nil)))⟩
    d_DOUBLE := ⟨a_DOUBLE, PySem.W.mg_of X G g_DOUBLE, (lk_cons ⟨(.ref f25), ⟨es_DOUBLE, n_DOUBLE, _, l_DOUBLE, kl_DOUBLE, i_DOUBLE_0, rfl⟩, fun _ => (.fn f25)⟩ (lk_cons ⟨(.ref f39), ⟨es_DOUBLE, n_DOUBLE, _, l_DOUBLE, kl_DOUBLE, i_DOUBLE_1, rfl⟩, fun _ => (.fn f39)⟩ lk_nil))⟩
    n_abs := PySem.W.mg_none_of X G z_abs
    n_all := PySem.W.mg_none_of X G z_all
    n_any := PySem.W.mg_none_of X G z_any
    n_int := PySem.W.mg_none_of X G z_int
    n_len := PySem.W.mg_none_of X G z_len
    n_list := PySem.W.mg_none_of X G z_list
    n_max := PySem.W.mg_none_of X G z_max
    n_min := PySem.W.mg_none_of X G z_min
    n_range := PySem.W.mg_none_of X G z_range
    n_repr := PySem.W.mg_none_of X G z_repr
    n_sorted := PySem.W.mg_none_of X G z_sorted
    n_str := PySem.W.mg_none_of X G z_str
    n_sum := PySem.W.mg_none_of X G z_sum }
  exact ⟨PySem.W.fnOf "law" "law" (defArgs s_law) (defBody s_law) (defScope s_law) .none kV44 dc44 pm44 an44 cd44 ct44, T.Fa, ⟨rfl, nd⟩, T.f_law.F, fun s v => .of_eq rfl, fun base _ _ => top_law T⟩
end Law
namespace Law
open PySem L2 DL
open NumText (AllDigits digitsVal)
def rnd (a b : Int) : Int := if a < 0 then -((b - 2 * a) / (2 * b)) else (b + 2 * a) / (2 * b)
theorem rounded_spec (a b : Int) (h : 0 < b) (h2 : b < 9223372036854775808) : m_rounded [.int a, .int b] = some (.ok (.int (rnd a b))) := by
  have h3 : 2 * b < 18446744073709551616 := by omega
  have h4 : 0 < 2 * b := by omega
  unfold rnd
  by_cases ha : a < 0 <;> simp [e_bnd, e_seq, e_lift, e_runA, e_runB, m_rounded, b_rounded, ha, h3, h4]
def nv (n : Int) : D := if -1000000000000000 ≤ n ∧ n ≤ 1000000000000000 then .tup [.str (Str.ofString "num"), .int n] else .tup [.str (Str.ofString "error"), .str (Str.ofString "range")]
theorem number_value_spec (n : Int) : m_number_value [.int n] = some (.ok (nv n)) := by
  unfold nv
  by_cases h1 : -1000000000000000 ≤ n <;> by_cases h2 : n ≤ 1000000000000000 <;> simp [e_bnd, e_seq, e_lift, e_runA, e_runB, m_number_value, b_number_value, k_MOST, h1, h2]
def er (k : String) : D := .tup [.str (Str.ofString "error"), .str (Str.ofString k)]
theorem mulK (i : Int) : mulOk i 10000 = true := by unfold mulOk; simp
theorem t_min : Str.ofString "-" = tx [45] := by rw [tx_ofString]; rfl
theorem t_nil : Str.ofString "" = tx [] := by rw [tx_ofString]; rfl
theorem t_pt : Str.ofString "." = tx [46] := by rw [tx_ofString]; rfl
theorem t_0 : Str.ofString "0" = tx [48] := by rw [tx_ofString]; rfl
def pad4L (b : Nat) : List Nat := [48 + b / 1000, 48 + b / 100 % 10, 48 + b / 10 % 10, 48 + b % 10]
theorem pad_small {b : Nat} (h : b < 10000) : List.replicate (4 - (decs b).length) 48 ++ decs b = pad4L b := by
  unfold pad4L
  by_cases h1 : b < 10
  · rw [decs_lt h1]
    simp [List.replicate]
    omega
  · rw [decs_ge (by omega)]
    by_cases h2 : b / 10 < 10
    · rw [decs_lt h2]
      simp [List.replicate]
      omega
    · rw [decs_ge (n := b / 10) (by omega)]
      by_cases h3 : b / 10 / 10 < 10
      · rw [decs_lt h3]
        simp [List.replicate]
        omega
      · rw [decs_ge (n := b / 10 / 10) (by omega), decs_lt (n := b / 10 / 10 / 10) (by omega)]
        simp [List.replicate]
        omega
theorem decs_big {n : Nat} (h : 10000 ≤ n) : decs n = decs (n / 10000) ++ pad4L (n % 10000) := by
  unfold pad4L
  rw [decs_ge (n := n) (by omega), decs_ge (n := n / 10) (by omega), decs_ge (n := n / 10 / 10) (by omega), decs_ge (n := n / 10 / 10 / 10) (by omega)]
  have e : n / 10 / 10 / 10 / 10 = n / 10000 := by omega
  rw [e]
  simp
  omega
theorem padded (n : Nat) : List.replicate (5 - (decs n).length) 48 ++ decs n = decs (n / 10000) ++ pad4L (n % 10000) := by
  by_cases h : n < 10000
  · have hl := decs_len 3 n (by simpa using h)
    have e1 : n / 10000 = 0 := by omega
    have e2 : n % 10000 = n := by omega
    rw [e1, e2, decs_lt (n := 0) (by decide), ← pad_small h]
    have e3 : 5 - (decs n).length = (4 - (decs n).length) + 1 := by omega
    rw [e3, List.replicate_succ]
    rfl
  · have hl := decs_len_ge 4 n (by omega)
    have e3 : 5 - (decs n).length = 0 := by omega
    rw [e3, ← decs_big (by omega)]
    rfl
theorem pad4_digits (b : Nat) (h : b < 10000) : AllDigits (pad4L b) := by
  intro c hc
  unfold pad4L at hc
  simp at hc
  omega
theorem pad4_val (b : Nat) (h : b < 10000) : digitsVal (pad4L b) = b := by
  show ((((0 * 10 + (48 + b / 1000 - 48)) * 10 + (48 + b / 100 % 10 - 48)) * 10 + (48 + b / 10 % 10 - 48)) * 10 + (48 + b % 10 - 48)) = b
  omega
theorem rstrip_snoc (c : Nat) (p : List Nat) : rstripL c (p ++ [c]) = rstripL c p := by
  unfold rstripL
  simp
theorem rstrip_keep (c x : Nat) (p : List Nat) (h : x ≠ c) : rstripL c (p ++ [x]) = p ++ [x] := by
  unfold rstripL
  simp [h]
theorem all_rep (c : Nat) : ∀ l : List Nat, (∀ x ∈ l, x = c) → l = List.replicate l.length c
  | [], _ => rfl
  | x :: l, h => by
    rw [List.length_cons, List.replicate_succ, h x (by simp), ← all_rep c l fun y hy => h y (List.mem_cons_of_mem _ hy)]
theorem rstrip_back0 (c : Nat) : ∀ r : List Nat, rstripL c r.reverse ++ List.replicate (r.reverse.length - (rstripL c r.reverse).length) c = r.reverse
  | [] => rfl
  | x :: r => by
    have ih := rstrip_back0 c r
    rw [List.reverse_cons]
    generalize r.reverse = p at ih ⊢
    by_cases h : x = c
    · subst h
      rw [rstrip_snoc]
      have hl : (rstripL x p).length ≤ p.length := by have := congrArg List.length ih; simp at this; omega
      have e : (p ++ [x]).length - (rstripL x p).length = (p.length - (rstripL x p).length) + 1 := by simp; omega
      rw [e, List.replicate_succ', ← List.append_assoc, ih]
    · rw [rstrip_keep _ _ _ h]
      simp
theorem rstrip_back (c : Nat) (l : List Nat) : rstripL c l ++ List.replicate (l.length - (rstripL c l).length) c = l := by
  have h := rstrip_back0 c l.reverse
  rw [List.reverse_reverse] at h
  exact h
theorem rstrip_len (c : Nat) (l : List Nat) : (rstripL c l).length ≤ l.length := by
  have := congrArg List.length (rstrip_back c l); simp at this; omega
theorem rstrip_mem {c x : Nat} {l : List Nat} (h : x ∈ rstripL c l) : x ∈ l := by
  rw [← rstrip_back c l]; exact List.mem_append_left _ h
def shown (m : Nat) : List Nat := decs (m / 10000) ++ (if rstripL 48 (pad4L (m % 10000)) = [] then [] else 46 :: rstripL 48 (pad4L (m % 10000)))
def sgn (n : Int) : List Nat := if n < 0 then [45] else []
theorem logOk_nat {m : Nat} (h : m ≤ 1000000000000000) : logOk (m : Int) = true := logOk_of (by rw [Int.natAbs_natCast]; omega)
theorem head_decs (n : Nat) : ∀ c, (decs n).head? = some c → c ≠ 43 ∧ c ≠ 45 := fun c h => by
  have := (decs_spec n).1 c (List.mem_of_mem_head? h)
  omega
theorem show_fin (n : Int) (sg w st : List Nat) (W : Int) (hW : intS W = tx w) (hl : logOk W = true) (h1 : sg.length ≤ 10) (h2 : w.length ≤ 1000) (h3 : st.length ≤ 4) :
    wpS (b_show_number_3 ⟨[some (.p (.int n)), some (.p (.str (tx sg))), some (.p (.int W)), some (.p (.str (tx st)))], []⟩) (endA (· = .str (tx (sg ++ (w ++ (if st = [] then [] else 46 :: st)))))) := by
  have a1 : sg.length ≤ 1000000 := by omega
  have a2 : sg.length + w.length ≤ 1000000 := by omega
  have a3 : sg.length + (w.length + 1) ≤ 1000000 := by omega
  have a4 : sg.length + (w.length + (st.length + 1)) ≤ 1000000 := by omega
  have a5 : st.length ≤ 1000000 := by omega
  have a6 : w.length ≤ 1000000 := by omega
  have a8 : sg.length + w.length ≤ 999999 := by omega
  have a9 : sg.length + (w.length + 1) + (st.length) ≤ 1000000 := by omega
  have a7 : sg.length + (w.length + 1) + st.length ≤ 1000000 := by omega
  by_cases h : st = []
  · subst h
    simp [b_show_number_3, t_nil, hW, hl, a1, a2, a6]
  · simp [b_show_number_3, t_nil, h, b_show_number_4, hW, hl, a1, a2, a3, a4, a5, a6, a7, a8, a9, t_pt]
theorem show_mid (n : Int) (sg : List Nat) (m : Nat) (ha : (if n < 0 then -n else n) = (m : Int)) (hm : m ≤ 1000000000000000) (h1 : sg.length ≤ 10) :
    wpS (b_show_number_1 ⟨[some (.p (.int n)), some (.p (.str (tx sg))), none, none], []⟩) (endA (· = .str (tx (sg ++ shown m)))) := by
  have d1 : intS ((m : Int) / 10000) = tx (decs (m / 10000)) := intS_tx (m / 10000)
  have d2 : intS ((m : Int) % 10000) = tx (decs (m % 10000)) := intS_tx (m % 10000)
  have l1 : logOk ((m : Int) / 10000) = true := logOk_nat (m := m / 10000) (by omega)
  have l2 : logOk ((m : Int) % 10000) = true := logOk_nat (m := m % 10000) (by omega)
  have hz : Txt.zfill (tx (decs (m % 10000))) 4 = tx (pad4L (m % 10000)) := by
    rw [zfill_tx _ _ (head_decs _), ← pad_small (Nat.mod_lt m (by decide))]
    rfl
  have hr := rstrip_tx 48 (pad4L (m % 10000))
  have hlp : (pad4L (m % 10000)).length ≤ 1000000 := by show 4 ≤ 1000000; decide
  have hw := decs_len 11 (m / 10000) (by omega)
  have hs := rstrip_len 48 (pad4L (m % 10000))
  have f := show_fin n sg (decs (m / 10000)) (rstripL 48 (pad4L (m % 10000))) _ d1 l1 h1 (by omega) hs
  unfold shown
  generalize rstripL 48 (pad4L (m % 10000)) = st at *
  generalize pad4L (m % 10000) = pd at *
  generalize decs (m / 10000) = w at *
  simp [b_show_number_1, ha, k_UNIT, b_show_number_2, k_PLACES, pad4, t_0, l2, d2, hz, hr, hlp]
  exact f
theorem show_spec (n : Int) (m : Nat) (ha : (if n < 0 then -n else n) = (m : Int)) (hm : m ≤ 1000000000000000) : m_show_number [.int n] = some (.ok (.str (tx (sgn n ++ shown m)))) := by
  apply wpA.eq
  by_cases hn : n < 0
  · have f := show_mid n [45] m ha hm (by decide)
    have e : sgn n = [45] := by unfold sgn; rw [if_pos hn]
    rw [e]
    simp [m_show_number, b_show_number, hn, t_min]
    exact f
  · have f := show_mid n [] m ha hm (by decide)
    have e : sgn n = [] := by unfold sgn; rw [if_neg hn]
    rw [e]
    have hn' : 0 ≤ n := by omega
    simp [m_show_number, b_show_number, hn, t_nil]
    exact f
theorem quot_up (x b : Int) (hx : 0 ≤ x) (hb : 0 < b) : (b + 2 * x) / (2 * b) = if b ≤ 2 * (x - x / b * b) then x / b + 1 else x / b := by
  have e1 := Int.mul_ediv_add_emod x b
  have e2 := Int.emod_nonneg x (b := b) (by omega)
  have e3 := Int.emod_lt_of_pos x hb
  generalize x / b = q at *
  generalize x % b = r at *
  have e4 : q * b = b * q := Int.mul_comm _ _
  rw [e4]
  have e5 : b + 2 * x = (b + 2 * r) + q * (2 * b) := by
    have : q * (2 * b) = 2 * (b * q) := by rw [Int.mul_left_comm, Int.mul_comm q b]
    rw [this]; omega
  rw [e5, Int.add_mul_ediv_right _ _ (by omega)]
  have e6 : x - b * q = r := by omega
  rw [e6]
  split
  · rename_i h
    have : (b + 2 * r) / (2 * b) = 1 := by
      have h1 := Int.ediv_emod_unique (a := b + 2 * r) (b := 2 * b) (r := 2 * r - b) (q := 1) (by omega)
      exact (h1.mpr ⟨by omega, by omega, by omega⟩).1
    rw [this]; omega
  · rename_i h
    have : (b + 2 * r) / (2 * b) = 0 := Int.ediv_eq_zero_of_lt (by omega) (by omega)
    rw [this]; omega
theorem fits_spec (n : Int) : m_l_fits [.int n] = some (.ok (nv n)) := by
  unfold nv
  apply wpA.eq
  by_cases h : n < 0
  · simp [m_l_fits, b_l_fits, h]
    exact ⟨fun h1 h2 => by omega, fun h1 => by omega⟩
  · simp [m_l_fits, b_l_fits, h]
    exact ⟨fun h1 h2 => by omega, fun h1 => by omega⟩
def quo (a b : Int) : Int := if b < 0 then rnd (-a) (-b) else rnd a b
theorem quot_spec (a b : Int) (hb : b ≠ 0) (h1 : b < 9223372036854775808) (h2 : -9223372036854775808 < b) : m_l_quotient [.int a, .int b] = some (.ok (.int (quo a b))) := by
  have main : ∀ (x c : Int) (sg : Int) (r : Int), 0 ≤ x → 0 < c → c < 9223372036854775808 → sg * ((c + 2 * x) / (2 * c)) = r → (if a < 0 then -a else a) = x → (if b < 0 then -b else b) = c → (sg = 1 ∨ sg = -1) → (sg = if (decide (a < 0) = decide (b < 0)) then 1 else -1) → wpA (m_l_quotient [.int a, .int b]) (· = .int r) := by
    intro x c sg r hx hc hc2 e1 e2 e3 e4 e5
    have q := quot_up x c hx hc
    have hm : mulOk (x / c) c = true := mulOkR _ _ (by omega) (by omega)
    have hm2 : ∀ y, mulOk sg y = true := fun y => by rcases e4 with e | e <;> subst e <;> unfold mulOk <;> simp
    have hc3 : 0 < c ∧ c < 18446744073709551616 := ⟨hc, by omega⟩
    have dv : dDiv (.int x) (.int c) = some (.int (x / c)) := by show (if 0 < c ∧ c < 18446744073709551616 then some (D.int (x / c)) else none) = _; rw [if_pos hc3]
    by_cases hd : decide (a < 0) = decide (b < 0)
    · rw [if_pos hd] at e5
      subst e5
      rw [Int.one_mul] at e1
      subst e1
      by_cases hh : c ≤ 2 * (x - x / c * c)
      · rw [if_pos hh] at q
        rw [q]
        simp [m_l_quotient, b_l_quotient, hd, e2, e3, hc3, hm, hm2, hh]
      · rw [if_neg hh] at q
        rw [q]
        simp [m_l_quotient, b_l_quotient, hd, e2, e3, hc3, hm, hm2, hh]
    · rw [if_neg hd] at e5
      subst e5
      subst e1
      by_cases hh : c ≤ 2 * (x - x / c * c)
      · rw [if_pos hh] at q
        rw [q]
        simp [m_l_quotient, b_l_quotient, hd, e2, e3, hc3, hm, hm2, hh]
      · rw [if_neg hh] at q
        rw [q]
        simp [m_l_quotient, b_l_quotient, hd, e2, e3, hc3, hm, hm2, hh]
  apply wpA.eq
  unfold quo rnd
  by_cases ha : a < 0 <;> by_cases hb2 : b < 0
  · rw [if_pos hb2, if_neg (by omega)]
    exact main (-a) (-b) 1 _ (by omega) (by omega) (by omega) (by rw [Int.one_mul]) (by rw [if_pos ha]) (by rw [if_pos hb2]) (.inl rfl) (by rw [if_pos (by simp [ha, hb2])])
  · rw [if_neg hb2, if_pos ha]
    exact main (-a) b (-1) _ (by omega) (by omega) (by omega) (by rw [show b + 2 * -a = b - 2 * a by omega, Int.neg_one_mul]) (by rw [if_pos ha]) (by rw [if_neg hb2]) (.inr rfl) (by rw [if_neg (by simp [ha, hb2])])
  · rw [if_pos hb2]
    by_cases h0 : a = 0
    · subst h0
      rw [if_neg (by omega)]
      exact main 0 (-b) (-1) _ (by omega) (by omega) (by omega) (by
        have e : (-b + 2 * 0) / (2 * -b) = 0 := Int.ediv_eq_zero_of_lt (by omega) (by omega)
        have e2 : (-b + 2 * -0) / (2 * -b) = 0 := Int.ediv_eq_zero_of_lt (by omega) (by omega)
        rw [e, e2]; rfl) (by rfl) (by rw [if_pos hb2]) (.inr rfl) (by rw [if_neg (by simp [hb2])])
    · rw [if_pos (by omega)]
      exact main a (-b) (-1) _ (by omega) (by omega) (by omega) (by rw [show -b + 2 * a = -b - 2 * -a by omega, Int.neg_one_mul]) (by rw [if_neg ha]) (by rw [if_pos hb2]) (.inr rfl) (by rw [if_neg (by simp [ha, hb2])])
  · rw [if_neg hb2, if_neg ha]
    exact main a b 1 _ (by omega) (by omega) (by omega) (by rw [Int.one_mul]) (by rw [if_neg ha]) (by rw [if_neg hb2]) (.inl rfl) (by rw [if_pos (by simp [ha, hb2])])
noncomputable def loopP : SM := (sIf (mAnd (mBin dNe (mVar 4) (mC (.str (PySem.Str.ofString "")))) (mBin dEq (mIx (mVar 4) (mBin dSub (mCB dLen (aCons (mVar 4) aNil)) (mC (.int 1)))) (mC (.str (PySem.Str.ofString "0"))))) (sAsg (mSlE (mVar 4) pNone (pSome (mBin dSub (mCB dLen (aCons (mVar 4) aNil)) (mC (.int 1))))) (gN 4)) sNil)
noncomputable def loopW : SM := (sIf (mAnd (mBin dGt (mCB dLen (aCons (mVar 2) aNil)) (mC (.int 1))) (mBin dEq (mIx (mVar 2) (mC (.int 0))) (mC (.str (PySem.Str.ofString "0"))))) (sAsg (mSlE (mVar 2) (pSome (mC (.int 1))) pNone) (gN 2)) sNil)
theorem dec_2 : b_l_decimal_2 = sSeq (sFor (mRng rng1D (aCons (mC (.int 4)) aNil)) (gN 3) loopW) b_l_decimal_3 := rfl
theorem dec_4 : b_l_decimal_4 = sSeq (sFor (mRng rng1D (aCons (mC (.int 4)) aNil)) (gN 3) loopP) b_l_decimal_5 := rfl
theorem loopP_spec : ∀ (k : Nat) (lo : Int) (l : List Nat) (x0 x1 x2 x3 : Option DV), l.length ≤ 4 → (l.length ≤ k ∨ rstripL 48 l = l) →
    ∃ d', loopS (gN 3) loopP (DL.intsFrom lo k) ⟨[x0, x1, x2, x3, some (.p (.str (tx l)))], []⟩ = some (.nx, ⟨[x0, x1, x2, d', some (.p (.str (tx (rstripL 48 l))))], []⟩) := by
  intro k
  induction k with
  | zero =>
    intro lo l x0 x1 x2 x3 _ h
    have e : rstripL 48 l = l := by
      rcases h with h | h
      · have : l = [] := List.length_eq_zero_iff.mp (by omega)
        subst this; rfl
      · exact h
    rw [e]
    exact ⟨x3, by simp [ints0]⟩
  | succ k ih =>
    intro lo l x0 x1 x2 x3 h4 h
    rw [intsS, loopS_cons]
    rcases List.eq_nil_or_concat l with rfl | ⟨p, x, rfl⟩
    · obtain ⟨d', hd⟩ := ih (lo + 1) [] x0 x1 x2 (some (.p (.int lo))) (by simp) (.inl (by simp))
      refine ⟨d', ?_⟩
      simp [loopP, e_bnd, e_lift, t_nil]
      exact hd
    · rw [List.concat_eq_append] at *
      have hl : p.length + 1 ≤ 4 := by simpa using h4
      have a1 : p.length + 1 ≤ 1000000 := by omega
      have e1 : ((p.length : Int) + 1 - 1) = (p.length : Int) := by omega
      have a2 : atI (p ++ [x]) (p.length : Int) = some x := atI_nat' (by omega) (by simp)
      have a3 : cutS (tx (p ++ [x])) none (some (p.length : Int)) = tx p := by
        rw [cutS_to _ _ (by omega)]
        simp
      by_cases hx : x = 48
      · subst hx
        obtain ⟨d', hd⟩ := ih (lo + 1) p x0 x1 x2 (some (.p (.int lo))) (by omega) (by
          rcases h with h | h
          · left; simp at h; omega
          · exfalso
            rw [rstrip_snoc] at h
            have := rstrip_len 48 p
            have := congrArg List.length h
            simp at this; omega)
        refine ⟨d', ?_⟩
        rw [rstrip_snoc]
        simp [loopP, e_bnd, e_lift, t_nil, t_0, a1, e1, a2, a3]
        exact hd
      · have hk := rstrip_keep 48 x p hx
        obtain ⟨d', hd⟩ := ih (lo + 1) (p ++ [x]) x0 x1 x2 (some (.p (.int lo))) (by simp; omega) (.inr hk)
        refine ⟨d', ?_⟩
        simp [loopP, e_bnd, e_lift, t_nil, t_0, a1, e1, a2, a3, hx]
        exact hd
theorem loopW_spec : ∀ (k z : Nat) (lo : Int) (l : List Nat) (x0 x1 x3 x4 : Option DV), l ≠ [] → l.length ≤ 1000 → (l.head? ≠ some 48 ∨ l.length = 1) → z ≤ k → z ≤ 4 →
    ∃ d', loopS (gN 3) loopW (DL.intsFrom lo k) ⟨[x0, x1, some (.p (.str (tx (List.replicate z 48 ++ l)))), x3, x4], []⟩ = some (.nx, ⟨[x0, x1, some (.p (.str (tx l))), d', x4], []⟩) := by
  intro k
  induction k with
  | zero =>
    intro z lo l x0 x1 x3 x4 _ _ _ hz _
    have : z = 0 := by omega
    subst this
    exact ⟨x3, by simp [ints0]⟩
  | succ k ih =>
    intro z lo l x0 x1 x3 x4 hne hl hh hz h4
    rw [intsS, loopS_cons]
    cases z with
    | zero =>
      obtain ⟨d', hd⟩ := ih 0 (lo + 1) l x0 x1 (some (.p (.int lo))) x4 hne hl hh (by omega) (by omega)
      refine ⟨d', ?_⟩
      simp only [List.replicate_zero, List.nil_append] at hd ⊢
      cases l with
      | nil => exact absurd rfl hne
      | cons x r =>
        have a1 : r.length + 1 ≤ 1000000 := by rw [List.length_cons] at hl; omega
        by_cases hx : x = 48
        · have hr : r.length = 0 := by
            rcases hh with h | h
            · exact absurd (by rw [hx]; rfl) h
            · simpa using h
          have : r = [] := List.length_eq_zero_iff.mp hr
          subst this
          simp [loopW, e_bnd, e_lift]
          exact hd
        · by_cases hr : 1 < (r.length : Int) + 1
          · simp [loopW, e_bnd, e_lift, a1, atI0, t_0, hx, hr]
            first | exact hd | (split <;> exact hd)
          · simp [loopW, e_bnd, e_lift, a1, hr]
            first | exact hd | (split <;> exact hd)
    | succ z =>
      obtain ⟨d', hd⟩ := ih z (lo + 1) l x0 x1 (some (.p (.int lo))) x4 hne hl hh (by omega) (by omega)
      refine ⟨d', ?_⟩
      have e : List.replicate (z + 1) 48 ++ l = 48 :: (List.replicate z 48 ++ l) := by rw [List.replicate_succ]; rfl
      rw [e]
      have hp : 0 < l.length := List.length_pos_iff.mpr hne
      have a1 : z + l.length + 1 ≤ 1000000 := by omega
      have a2 : (1 : Int) < (z : Int) + (l.length : Int) + 1 := by omega
      have a3 : cutS (tx (48 :: (List.replicate z 48 ++ l))) (some 1) none = tx (List.replicate z 48 ++ l) := by rw [cutS_from _ _ (by decide)]; rfl
      have a4 : 0 < z + l.length := by omega
      simp [loopW, e_bnd, e_lift, a1, a2, atI0, t_0, a3]
      exact hd
theorem rng4 : rngOk 4 = true := by decide
theorem four (m : Nat) : ∃ z, z ≤ 4 ∧ [48, 48, 48, 48] ++ decs m = (List.replicate z 48 ++ decs (m / 10000)) ++ pad4L (m % 10000) := by
  by_cases h : m < 10000
  · have hl := decs_len 3 m (by simpa using h)
    have h1 : 1 ≤ (decs m).length := List.length_pos_iff.mpr (decs_spec m).2.1
    have e1 : m / 10000 = 0 := by omega
    have e2 : m % 10000 = m := by omega
    refine ⟨(decs m).length - 1, by omega, ?_⟩
    rw [e1, e2, decs_lt (n := 0) (by decide), ← pad_small h]
    have e3 : ([48, 48, 48, 48] : List Nat) = List.replicate 4 48 := rfl
    have e4 : ([48 + 0] : List Nat) = List.replicate 1 48 := rfl
    rw [e3, e4, List.replicate_append_replicate, ← List.append_assoc, List.replicate_append_replicate]
    congr 2
    omega
  · refine ⟨4, Nat.le_refl _, ?_⟩
    rw [decs_big (n := m) (by omega), ← List.append_assoc]
    rfl
theorem dec_fin (n : Int) (w st : List Nat) (x1 d3 : Option DV) (hw : w.length ≤ 1000) (hst : st.length ≤ 4) :
    wpS (b_l_decimal_5 ⟨[some (.p (.int n)), x1, some (.p (.str (tx w))), d3, some (.p (.str (tx st)))], []⟩) (endA (· = .str (tx (sgn n ++ (w ++ (if st = [] then [] else 46 :: st)))))) := by
  have a3 : w.length + 1 ≤ 1000000 := by omega
  have a4 : w.length + (st.length + 1) ≤ 1000000 := by omega
  have a5 : w.length ≤ 1000000 := by omega
  have a6 : w.length + 1 + st.length ≤ 1000000 := by omega
  have a8 : w.length ≤ 999999 := by omega
  have a9 : w.length + st.length + 1 ≤ 1000000 := by omega
  have a10 : 1 + (w.length + (st.length + 1)) ≤ 1000000 := by omega
  have a11 : 1 + w.length ≤ 1000000 := by omega
  unfold sgn
  by_cases hn : n < 0 <;> by_cases hs : st = []
  · simp [b_l_decimal_5, hs, t_nil, b_l_decimal_6, hn, atI1, t_min, a5, a11]
  · simp [b_l_decimal_5, hs, t_nil, t_pt, a3, a4, a6, a8, b_l_decimal_6, hn, atI1, t_min, a5, a9, a10]
  · simp [b_l_decimal_5, hs, t_nil, b_l_decimal_6, hn, atI0, t_min, a5]
  · simp [b_l_decimal_5, hs, t_nil, t_pt, a3, a4, a6, a8, b_l_decimal_6, hn, atI0, t_min, a5, a9, a10]
theorem t_0000 : Str.ofString "0000" = tx [48, 48, 48, 48] := by rw [tx_ofString]; rfl
theorem decimal_spec (n : Int) (m : Nat) (ha : (if n < 0 then -n else n) = (m : Int)) (hm : m ≤ 1000000000000000) : m_l_decimal [.int n] = some (.ok (.str (tx (sgn n ++ shown m)))) := by
  obtain ⟨z, hz, h4⟩ := four m
  have l1 : logOk (m : Int) = true := logOk_nat hm
  have d1 := intS_tx m
  have hl := decs_len 15 m (by omega)
  have hw := decs_len 11 (m / 10000) (by omega)
  have hpl : (pad4L (m % 10000)).length = 4 := rfl
  have hs := rstrip_len 48 (pad4L (m % 10000))
  obtain ⟨g1, g2, g3, g4⟩ := decs_spec (m / 10000)
  have hh : (decs (m / 10000)).head? ≠ some 48 ∨ (decs (m / 10000)).length = 1 := by
    by_cases q : 0 < m / 10000
    · exact .inl (g4 q)
    · right
      have : m / 10000 = 0 := by omega
      rw [this, decs_lt (by decide)]; rfl
  obtain ⟨d5, hd5⟩ := loopW_spec 4 z 0 (decs (m / 10000)) (some (.p (.int n))) (some (.p (.str (tx ([48, 48, 48, 48] ++ decs m))))) none none g2 (by omega) hh hz hz
  obtain ⟨d6, hd6⟩ := loopP_spec 4 0 (pad4L (m % 10000)) (some (.p (.int n))) (some (.p (.str (tx ([48, 48, 48, 48] ++ decs m))))) (some (.p (.str (tx (decs (m / 10000)))))) d5 (by rw [hpl]; exact Nat.le_refl _) (.inl (by rw [hpl]; exact Nat.le_refl _))
  have f := dec_fin n (decs (m / 10000)) (rstripL 48 (pad4L (m % 10000))) (some (.p (.str (tx ([48, 48, 48, 48] ++ decs m))))) d6 (by omega) (by omega)
  have hlen := congrArg List.length h4
  have hc : cutS (tx ([48, 48, 48, 48] ++ decs m)) none (some ((decs m).length : Int)) = tx (List.replicate z 48 ++ decs (m / 10000)) := by
    rw [cutS_to _ _ (by omega), h4]
    congr 1
    rw [Int.toNat_natCast, List.take_append_of_le_length, List.take_of_length_le]
    · simp at hlen ⊢; omega
    · simp at hlen ⊢; omega
  have hc2 : cutS (tx ([48, 48, 48, 48] ++ decs m)) (some ((decs m).length : Int)) none = tx (pad4L (m % 10000)) := by
    rw [cutS_from _ _ (by omega), h4]
    congr 1
    rw [Int.toNat_natCast]
    have e : (decs m).length = (List.replicate z 48 ++ decs (m / 10000)).length := by simp at hlen ⊢; omega
    rw [e, List.drop_left]
  unfold shown
  generalize rstripL 48 (pad4L (m % 10000)) = st at *
  generalize pad4L (m % 10000) = pd at *
  generalize decs (m / 10000) = w at *
  generalize decs m = ds at *
  clear h4 hlen
  have c1 : 4 + ds.length ≤ 1000000 := by omega
  have c2 : ds.length + 1 + 1 + 1 + 1 ≤ 1000000 := by omega
  have c3 : ((ds.length : Int) + 1 + 1 + 1 + 1 - 4) = (ds.length : Int) := by omega
  apply wpA.eq
  simp at hc hc2 hd5 hd6 f
  simp [m_l_decimal, b_l_decimal, ha, l1, d1, b_l_decimal_1, t_0000, c1, c2, c3, hc, dec_2, rng4, hd5, b_l_decimal_3, hc2, dec_4, hd6]
  exact f
end Law
namespace Law
open PySem L2 DL
open NumText (AllDigits digitsVal)
inductive Vl where
  | non | num (n : Int) | text (l : List Nat) | bool (b : Bool) | err (k : String)
def enc : Vl → D
  | .non => .non
  | .num n => .tup [.str (Str.ofString "num"), .int n]
  | .text l => .tup [.str (Str.ofString "text"), .str (tx l)]
  | .bool b => .tup [.str (Str.ofString "bool"), .bl b]
  | .err k => .tup [.str (Str.ofString "error"), .str (Str.ofString k)]
def isErr : Vl → Bool
  | .err _ => true
  | _ => false
def Vok : Vl → Prop
  | .num n => -1000000000000000 ≤ n ∧ n ≤ 1000000000000000
  | .text l => l.length ≤ 60 ∧ ∀ c ∈ l, c < 1114112
  | .err k => k.toList.length ≤ 10
  | _ => True
theorem is_error_spec (v : Vl) : m_is_error [enc v] = some (.ok (.bl (isErr v))) := by
  apply wpA.eq
  cases v <;> simp [m_is_error, b_is_error, enc, isErr, atI0]
theorem bad_spec (v : Vl) : m_l_bad [enc v] = some (.ok (.bl (isErr v))) := by
  apply wpA.eq
  cases v <;> simp [m_l_bad, b_l_bad, enc, isErr, atI0]
def numIn : Vl → D
  | .non => .int 0
  | .num n => .int n
  | _ => .non
theorem number_in_spec (v : Vl) : m_number_in [enc v] = some (.ok (numIn v)) := by
  apply wpA.eq
  cases v <;> simp [m_number_in, b_number_in, enc, numIn, atI0, atI1]
theorem as_number_spec (v : Vl) : m_l_as_number [enc v] = some (.ok (numIn v)) := by
  apply wpA.eq
  cases v <;> simp [m_l_as_number, b_l_as_number, enc, numIn, atI0, atI1]
def txtIn : Vl → List Nat
  | .non => []
  | .num n => sgn n ++ shown n.natAbs
  | .text l => l
  | .bool b => if b then [84, 82, 85, 69] else [70, 65, 76, 83, 69]
  | .err k => k.toList.map Char.toNat
theorem abs_nat (n : Int) : (if n < 0 then -n else n) = ((n.natAbs : Nat) : Int) := by split <;> omega
theorem t_TRUE : Str.ofString "TRUE" = tx [84, 82, 85, 69] := by rw [tx_ofString]; rfl
theorem t_FALSE : Str.ofString "FALSE" = tx [70, 65, 76, 83, 69] := by rw [tx_ofString]; rfl
theorem text_in_spec (v : Vl) (h : Vok v) : m_text_in [enc v] = some (.ok (.str (tx (txtIn v)))) := by
  apply wpA.eq
  cases v with
  | num n =>
    have e := show_spec n n.natAbs (abs_nat n) (by have := h.1; have := h.2; omega)
    simp [m_text_in, b_text_in, enc, txtIn, atI0, atI1, e]
  | bool b => cases b <;> simp [m_text_in, b_text_in, enc, txtIn, atI0, atI1, t_TRUE, t_FALSE]
  | err k => simp [m_text_in, b_text_in, enc, txtIn, atI0, atI1, tx_ofString k]
  | non => simp [m_text_in, b_text_in, enc, txtIn, t_nil]
  | text l => simp [m_text_in, b_text_in, enc, txtIn, atI0, atI1]
theorem as_text_spec (v : Vl) (h : Vok v) : m_l_as_text [enc v] = some (.ok (.str (tx (txtIn v)))) := by
  apply wpA.eq
  cases v with
  | num n =>
    have e := decimal_spec n n.natAbs (abs_nat n) (by have := h.1; have := h.2; omega)
    simp [m_l_as_text, b_l_as_text, enc, txtIn, atI0, atI1, e]
  | bool b => cases b <;> simp [m_l_as_text, b_l_as_text, enc, txtIn, atI0, atI1, t_TRUE, t_FALSE]
  | err k => simp [m_l_as_text, b_l_as_text, enc, txtIn, atI0, atI1, tx_ofString k]
  | non => simp [m_l_as_text, b_l_as_text, enc, txtIn, t_nil]
  | text l => simp [m_l_as_text, b_l_as_text, enc, txtIn, atI0, atI1]
def tv (l : List Nat) : D := if 60 < l.length then er "range" else .tup [.str (Str.ofString "text"), .str (tx l)]
theorem text_value_spec (l : List Nat) (h : l.length ≤ 1000000) : m_text_value [.str (tx l)] = some (.ok (tv l)) := by
  apply wpA.eq
  unfold tv er
  by_cases q : 60 < l.length
  · have q' : (60 : Int) < (l.length : Int) := by omega
    simp [m_text_value, b_text_value, k_LONGEST_TEXT, h, q, q']
  · have q' : ¬ (60 : Int) < (l.length : Int) := by omega
    simp [m_text_value, b_text_value, k_LONGEST_TEXT, h, q, q']
theorem joined_spec (l : List Nat) (h : l.length ≤ 1000000) : m_l_joined [.str (tx l)] = some (.ok (tv l)) := by
  apply wpA.eq
  unfold tv er
  by_cases q : 60 < l.length
  · have q' : (60 : Int) < (l.length : Int) := by omega
    simp [m_l_joined, b_l_joined, h, q, q']
  · have q' : ¬ (60 : Int) < (l.length : Int) := by omega
    simp [m_l_joined, b_l_joined, h, q, q']
theorem txt_len (v : Vl) (h : Vok v) : (txtIn v).length ≤ 100 := by
  cases v with
  | non => simp [txtIn]
  | num n =>
    have a : (sgn n).length ≤ 1 := by unfold sgn; split <;> simp
    have b := decs_len 11 (n.natAbs / 10000) (by have := h.1; have := h.2; omega)
    have c := rstrip_len 48 (pad4L (n.natAbs % 10000))
    have d : (pad4L (n.natAbs % 10000)).length = 4 := rfl
    show (sgn n ++ shown n.natAbs).length ≤ 100
    unfold shown
    rw [List.length_append, List.length_append]
    split
    · simp; omega
    · simp; omega
  | text l => have : l.length ≤ 60 := h.1; show l.length ≤ 100; omega
  | bool b => cases b <;> simp [txtIn]
  | err k => have : k.toList.length ≤ 10 := h; show (k.toList.map Char.toNat).length ≤ 100; simp; omega
theorem strOk_tx (l : List Nat) (h : ∀ c ∈ l, c < 1114112) : PyData.strOk (tx l) = true := by
  unfold PyData.strOk
  rw [← Array.all_toList, tx_list, List.all_eq_true]
  intro c hc
  exact decide_eq_true (h c hc)
theorem shp_enc (v : Vl) (h : Vok v) : shp (enc v) = true := by
  cases v with
  | text l => simp [enc, strOk_tx l h.2]
  | _ => simp [enc]
@[simp] theorem beq_of (a b : String) : (Str.ofString a == Str.ofString b) = decide (a = b) := by
  by_cases h : a = b <;> simp [h]
@[simp] theorem e_kd (kvs : List (Str × D)) (m : EM) (s : S) : mKd kvs m s = (bnd m (pur (kdK kvs))) s := rfl
@[simp] theorem e_kdK (kvs : List (Str × D)) (z : Str) (s : S) : kdK kvs (.str z) s = ret (kvs.lookup z) s := rfl
def noErr : Vl → Prop
  | .err _ => False
  | _ => True
def isNon : Vl → Bool
  | .non => true
  | _ => false
def Small (x : Int) : Prop := -1000000000000000 ≤ x ∧ x ≤ 1000000000000000
theorem numIn_cases (v : Vl) (h : Vok v) : numIn v = .non ∨ ∃ x, numIn v = .int x ∧ Small x := by
  cases v with
  | non => exact .inr ⟨0, rfl, by unfold Small; omega⟩
  | num n => exact .inr ⟨n, rfl, h⟩
  | _ => exact .inl rfl
theorem noErr_is {v : Vl} (h : noErr v) : isErr v = false := by cases v <;> first | rfl | exact h.elim
theorem err_or (v : Vl) : isErr v = true ∨ noErr v := by cases v <;> first | exact .inl rfl | exact .inr trivial
def Good (r : D) : Prop := eqD r r = some true ∧ ∃ t, dRepr r = some t ∧ eqD t t = some true
theorem rt_len (x : Str) (h : PyData.strOk x = true) : (reprText x).length ≤ 10 * x.length + 2 := by
  refine StrLaws.reprText_len x fun c hc => ?_
  unfold PyData.strOk at h
  rw [← Array.all_toList, List.all_eq_true] at h
  have := of_decide_eq_true (h c hc)
  have e : (1114112 : Nat) ≤ 16 ^ 8 := by decide
  omega
theorem good_tup (k : String) (x : D) (hk : (Str.ofString k).length ≤ 10) (h1 : okD x = true) (h2 : depD x = 0) (h3 : showD x = true) (h4 : rb x ≤ 10000) (h5 : deq x x = true) : Good (.tup [.str (Str.ofString k), x]) := by
  have hs : shp (.tup [.str (Str.ofString k), x]) = true := by simp [h1, h2]
  have hr := rt_len (Str.ofString k) (strOk_of k)
  have hd : showD (.tup [.str (Str.ofString k), x]) = true := by
    show (true && (showD x && true)) = true
    rw [h3]; rfl
  have hb : rb (.tup [.str (Str.ofString k), x]) ≤ 1000000 := by
    show ((reprText (Str.ofString k)).length + 2 + (rb x + 2 + 0)) + 3 ≤ 1000000
    omega
  refine ⟨?_, .str (reprD (.tup [.str (Str.ofString k), x])), ?_, by simp⟩
  · rw [e_eqTT, hs]
    simp [h5]
  · unfold dRepr
    rw [hs, hd, if_pos (by decide), if_pos hb]
theorem ks_len (k : String) : (Str.ofString k).length = k.toList.length := by rw [tx_ofString, tx_len, List.length_map]
theorem good_int (k : String) (n : Int) (hk : k.toList.length ≤ 10) (h : Small n) : Good (.tup [.str (Str.ofString k), .int n]) := by
  have hn : n.natAbs.log2 < 1920 := log_ok (by have := h.1; have := h.2; omega)
  refine good_tup k _ (by rw [ks_len]; exact hk) rfl rfl (decide_eq_true hn) ?_ (by simp)
  show (intS n).length ≤ 10000
  have := int_text_length_le (k := 1920) (by decide) hn
  unfold intS
  rw [ofString_length]
  omega
theorem good_bl (k : String) (b : Bool) (hk : k.toList.length ≤ 10) : Good (.tup [.str (Str.ofString k), .bl b]) := good_tup k _ (by rw [ks_len]; exact hk) rfl rfl rfl (by show 5 ≤ 10000; decide) (by simp)
theorem good_str (k : String) (x : Str) (hk : k.toList.length ≤ 10) (hx : PyData.strOk x = true) (hl : x.length ≤ 100) : Good (.tup [.str (Str.ofString k), .str x]) := by
  refine good_tup k _ (by rw [ks_len]; exact hk) hx rfl rfl ?_ (by simp)
  show (reprText x).length ≤ 10000
  have := rt_len x hx
  omega
theorem good_er (k : String) (h : k.toList.length ≤ 10) : Good (er k) := good_str "error" _ (by decide) (strOk_of k) (by rw [ks_len]; omega)
theorem good_nv (n : Int) : Good (nv n) := by
  unfold nv
  split
  · exact good_int "num" n (by decide) ‹_›
  · exact good_er "range" (by decide)
theorem txt_ok (v : Vl) (h : Vok v) (ne : noErr v) : ∀ c ∈ txtIn v, c < 1114112 := by
  intro c hc
  cases v with
  | non => simp [txtIn] at hc
  | num n =>
    have hd := (decs_spec (n.natAbs / 10000)).1
    have hp := pad4_digits (n.natAbs % 10000) (Nat.mod_lt _ (by decide))
    have hc : c ∈ sgn n ++ shown n.natAbs := hc
    unfold shown sgn at hc
    rw [List.mem_append, List.mem_append] at hc
    rcases hc with hc | hc | hc
    · split at hc
      · simp at hc; omega
      · simp at hc
    · have := hd c hc; omega
    · split at hc
      · simp at hc
      · rcases List.mem_cons.mp hc with e | e
        · omega
        · have := hp c (rstrip_mem e); omega
  | text l => exact h.2 c hc
  | bool b => cases b <;> simp [txtIn] at hc <;> omega
  | err k => exact ne.elim
theorem take_eq : m_l_take = takeM := rfl
theorem state_eq : m_l_state = stateM := rfl
theorem v_tx (s : String) : Str.ofString s = tx (s.toList.map Char.toNat) := tx_ofString s
def TXS : List (List Nat) := [[], [97], [98], [97, 98], [84, 82, 85, 69], [49], List.replicate 60 122, [66], List.replicate 30 120]
theorem u_a : Str.ofString "a" = tx [97] := by rw [tx_ofString]; rfl
theorem u_b : Str.ofString "b" = tx [98] := by rw [tx_ofString]; rfl
theorem u_ab : Str.ofString "ab" = tx [97, 98] := by rw [tx_ofString]; rfl
theorem u_1 : Str.ofString "1" = tx [49] := by rw [tx_ofString]; rfl
theorem u_z : Str.ofString "z" = tx [122] := by rw [tx_ofString]; rfl
theorem u_B : Str.ofString "B" = tx [66] := by rw [tx_ofString]; rfl
theorem u_x : Str.ofString "x" = tx [120] := by rw [tx_ofString]; rfl
theorem u_z60 : repS (tx [122]) 60 = tx (List.replicate 60 122) := rep_tx 122 60
theorem u_x30 : repS (tx [120]) 30 = tx (List.replicate 30 120) := rep_tx 120 30
theorem wp_value {n : Nat} {sv : DV} {M : List O} {P : DV → List O → Prop} (h : Dr n sv M) (k : ∀ v M', Dr n sv M' → Vok v → P (.p (enc v)) M') : wpB (m_l_value [sv] M) P := by
  simp [m_l_value, b_l_value, take_eq]
  refine wp_take h (by decide) fun r M1 d1 _ b1 => ?_
  have b1 := b1 (by decide)
  have hM : ∀ {M2}, Dr n sv M2 → M2.length = M.length := fun d => by rw [d.len, h.len]
  simp
  refine ⟨fun h0 => ?_, fun h0 => ⟨fun h4 => ?_, fun h4 => ⟨fun h5 => ?_, fun h5 => ⟨fun h7 => ?_, fun h7 => ⟨fun h8 => ?_, fun h8 => ?_⟩⟩⟩⟩⟩
  · rw [dropM_len (hM d1)]; exact k .non _ d1 trivial
  · refine wp_take d1 (by decide) fun q M2 d2 _ q1 => ?_
    have q1 := q1 (by decide)
    obtain ⟨z, hz, mz⟩ := at_mem (xs := [D.int 0, .int 10000, .int (-10000), .int 25000, .int 1, .int (-1), .int 1000000000000000, .int (-1000000000000000), .int 30000, .int 100000]) q1.1 q1.2
    simp only [List.mem_cons, List.not_mem_nil, or_false] at mz
    rcases mz with m | m | m | m | m | m | m | m | m | m <;> subst m <;> simp [hz, dropM_len (hM d2)] <;> exact k (.num _) _ d2 (by unfold Vok; omega)
  · refine wp_take d1 (by decide) fun q M2 d2 _ q1 => ?_
    have q1 := q1 (by decide)
    simp [dropM_len (hM d2)]
    exact k (.num _) _ d2 (by unfold Vok; omega)
  · simp [t_nil, u_a, u_b, u_ab, t_TRUE, u_1, u_z, u_B, u_x, u_z60, u_x30]
    refine wp_take d1 (by decide) fun q M2 d2 _ q1 => ?_
    have q1 := q1 (by decide)
    obtain ⟨z, hz, mz⟩ := at_mem (xs := TXS.map fun l => D.str (tx l)) q1.1 q1.2
    have hz' := hz
    obtain ⟨l, ml, rfl⟩ := List.mem_map.mp mz
    simp [TXS] at hz'
    simp [hz', dropM_len (hM d2)]
    exact k (.text l) _ d2 ((by decide : ∀ l ∈ TXS, l.length ≤ 60 ∧ ∀ c ∈ l, c < 1114112) l ml)
  · refine wp_take d1 (by decide) fun q M2 d2 _ q1 => ?_
    simp [dropM_len (hM d2)]
    exact k (.bool _) _ d2 trivial
  · refine wp_take d1 (by decide) fun q M2 d2 _ q1 => ?_
    have q1 := q1 (by decide)
    obtain ⟨z, hz, mz⟩ := at_mem (xs := [D.str (Str.ofString "value"), .str (Str.ofString "zero"), .str (Str.ofString "range"), .str (Str.ofString "name"), .str (Str.ofString "cycle")]) q1.1 q1.2
    simp only [List.mem_cons, List.not_mem_nil, or_false] at mz
    rcases mz with m | m | m | m | m <;> subst m <;> simp [hz, dropM_len (hM d2)] <;> exact k (.err _) _ d2 (by show List.length _ ≤ 10; decide)
end Law
namespace Law
open PySem L2 DL
inductive Arg where
  | one (v : Vl) | many (l : List Vl)
def encA : Arg → D
  | .one v => .tup [.str (Str.ofString "one"), enc v]
  | .many l => .tup [.str (Str.ofString "many"), .lst (l.map enc)]
def valsA : Arg → List Vl
  | .one v => [v]
  | .many l => l
def vals (as : List Arg) : List Vl := as.flatMap valsA
abbrev encAs (as : List Arg) : D := .lst (as.map encA)
def Aok (a : Arg) : Prop := (valsA a).length ≤ 6 ∧ ∀ v ∈ valsA a, Vok v
def AsOk (as : List Arg) : Prop := as.length ≤ 4 ∧ ∀ a ∈ as, Aok a
theorem flat_len {α β : Type} (f : α → List β) (k : Nat) : ∀ as : List α, (∀ a ∈ as, (f a).length ≤ k) → (as.flatMap f).length ≤ k * as.length
  | [], _ => Nat.zero_le _
  | a :: as, h => by
    have h1 := h a List.mem_cons_self
    have h2 := flat_len f k as fun b hb => h b (List.mem_cons_of_mem _ hb)
    rw [List.flatMap_cons, List.length_append, List.length_cons, Nat.mul_succ]; omega
theorem vals_len {as : List Arg} (h : AsOk as) : (vals as).length ≤ 24 := by
  have := flat_len valsA 6 as fun a ha => (h.2 a ha).1
  have := h.1
  unfold vals; omega
theorem vals_ok {as : List Arg} (h : AsOk as) : ∀ v ∈ vals as, Vok v := fun v hv => by
  obtain ⟨a, ha, hv⟩ := List.mem_flatMap.mp hv
  exact (h.2 a ha).2 v hv
theorem is_many (j : Nat) (X Y : SM) (l : List (Option DV)) (M : List O) (h : gv l j = some (.p (.str (Str.ofString "many")))) : sIf (mBin dEq (mVar j) (mC (.str (Str.ofString "many")))) X Y ⟨l, M⟩ = X ⟨l, M⟩ := sif_t _ _ _ _ M (by simp [e_bnd, h])
theorem is_one (j : Nat) (X Y : SM) (l : List (Option DV)) (M : List O) (h : gv l j = some (.p (.str (Str.ofString "one")))) : sIf (mBin dEq (mVar j) (mC (.str (Str.ofString "many")))) X Y ⟨l, M⟩ = Y ⟨l, M⟩ := sif_f _ _ _ _ M (by simp [e_bnd, h])
/-! all values -/
def stV (a : Arg) : List D := (valsA a).map enc
theorem stV_all (as : List Arg) : as.flatMap stV = (vals as).map enc := by unfold vals stV; rw [List.map_flatMap]
theorem len1 (v : Vl) (acc : List D) (hl : acc.length + (stV (.one v)).length ≤ 1000000) : (acc.map DV.p).length < 1000000 := by
  have : (stV (.one v)).length = 1 := rfl
  simp; omega
theorem lenM (l : List Vl) (acc : List D) (hl : acc.length + (stV (.many l)).length ≤ 1000000) : (acc.map DV.p).length + (l.map enc).length ≤ 1000000 := by
  have : (stV (.many l)).length = l.length := by show (l.map enc).length = _; simp
  simp; omega
noncomputable def lbVals : SM := (sIf (mBin dEq (mVar 2) (mC (.str (PySem.Str.ofString "many")))) (sExpr (mMth "list" gExt (mVar 1) (aCons (mVar 3) aNil))) (sExpr (mMth "list" gApp (mVar 1) (aCons (mVar 3) aNil))))
theorem values_in_spec (as : List Arg) (h : (vals as).length ≤ 1000000) : m_values_in [.p (encAs as)] [] = some (.ok (.p (.lst ((vals as).map enc))) []) := by
  obtain ⟨s', ⟨x2, x3, n, M, rfl, hM⟩, hK⟩ := acc_front (enc := encA) (g := gT 2 (gsCons (gN 2) (gsCons (gN 3) gsNil))) (b := lbVals) (step := stV) (ok := fun _ => True)
    (Inv := fun acc s => ∃ x2 x3 n M, s = ⟨[some (.p (encAs as)), some (.o n), x2, x3], M⟩ ∧ M[n]? = some (.lst (acc.map .p))) 1 (mItD itL (mVar 0)) [some (.p (encAs as)), none, none, none] as
    (fun a acc s _ hi hl => by
      obtain ⟨x2, x3, n, M, rfl, hM⟩ := hi
      cases a with
      | one v =>
        refine ⟨⟨[some (.p (encAs as)), some (.o n), some (.p (.str (Str.ofString "one"))), some (.p (enc v))], M⟩, by simp [encA], ?_⟩
        unfold lbVals
        rw [is_one 2 _ _ _ _ rfl]
        refine wpS_eq (app_run 1 n (mVar 3) _ M _ (.p (enc v)) rfl hM (len1 v acc hl) rfl) ⟨_, _, n, _, rfl, ?_⟩
        rw [set_get hM]; simp [stV, valsA]
      | many l =>
        refine ⟨⟨[some (.p (encAs as)), some (.o n), some (.p (.str (Str.ofString "many"))), some (.p (.lst (l.map enc)))], M⟩, by simp [encA], ?_⟩
        unfold lbVals
        rw [is_many 2 _ _ _ _ rfl]
        refine wpS_eq (ext_run 1 n (mVar 3) _ M _ (l.map enc) rfl hM (lenM l acc hl) rfl) ⟨_, _, n, _, rfl, ?_⟩
        rw [set_get hM]; simp [stV, valsA])
    (fun _ _ => trivial) (it_var 0 _ _ _ rfl) ⟨none, none, 0, _, rfl, rfl⟩ (by rw [stV_all]; simpa using h)
  rw [stV_all] at hM
  exact runB_of ((hK _).trans (ret_run _ _ _ _ (frz_run 1 n _ M _ rfl hM)))
noncomputable def lbAll : SM := (sIf (mBin dEq (mVar 2) (mC (.str (PySem.Str.ofString "many")))) (sAsg (mCatO (mVar 1) (mCB (g1 dList) (aCons (mVar 3) aNil))) (gN 1)) (sExpr (mMth "list" gApp (mVar 1) (aCons (mVar 3) aNil))))
theorem list_run (j : Nat) (l : List (Option DV)) (M : List O) (ds : List D) (h : gv l j = some (.p (.lst ds))) : mCB (g1 dList) (aCons (mVar j) aNil) ⟨l, M⟩ = some (.ok (.p (.lst ds)) M) := by
  have e : dList (.lst ds) = some (.lst ds) := rfl
  simp [e_bnd, h, e]
theorem all_spec (as : List Arg) (h : (vals as).length ≤ 1000000) : m_l_all [.p (encAs as)] [] = some (.ok (.p (.lst ((vals as).map enc))) []) := by
  obtain ⟨s', ⟨x2, x3, n, M, rfl, hM⟩, hK⟩ := acc_front (enc := encA) (g := gT 2 (gsCons (gN 2) (gsCons (gN 3) gsNil))) (b := lbAll) (step := stV) (ok := fun _ => True)
    (Inv := fun acc s => ∃ x2 x3 n M, s = ⟨[some (.p (encAs as)), some (.o n), x2, x3], M⟩ ∧ M[n]? = some (.lst (acc.map .p))) 1 (mItD itL (mVar 0)) [some (.p (encAs as)), none, none, none] as
    (fun a acc s _ hi hl => by
      obtain ⟨x2, x3, n, M, rfl, hM⟩ := hi
      cases a with
      | one v =>
        refine ⟨⟨[some (.p (encAs as)), some (.o n), some (.p (.str (Str.ofString "one"))), some (.p (enc v))], M⟩, by simp [encA], ?_⟩
        unfold lbAll
        rw [is_one 2 _ _ _ _ rfl]
        refine wpS_eq (app_run 1 n (mVar 3) _ M _ (.p (enc v)) rfl hM (len1 v acc hl) rfl) ⟨_, _, n, _, rfl, ?_⟩
        rw [set_get hM]; simp [stV, valsA]
      | many l =>
        refine ⟨⟨[some (.p (encAs as)), some (.o n), some (.p (.str (Str.ofString "many"))), some (.p (.lst (l.map enc)))], M⟩, by simp [encA], ?_⟩
        unfold lbAll
        rw [is_many 2 _ _ _ _ rfl]
        refine wpS_eq (catO_run 1 n _ _ M _ (l.map enc) rfl hM (lenM l acc hl) (list_run 3 _ _ _ rfl)) ⟨_, _, _, _, rfl, ?_⟩
        rw [snoc_get]; simp [stV, valsA])
    (fun _ _ => trivial) (it_var 0 _ _ _ rfl) ⟨none, none, 0, _, rfl, rfl⟩ (by rw [stV_all]; simpa using h)
  rw [stV_all] at hM
  exact runB_of ((hK _).trans (ret_run _ _ _ _ (frz_run 1 n _ M _ rfl hM)))
/-! the numbers -/
def isNum : Vl → Bool
  | .num _ => true
  | _ => false
def nOf : Vl → Int
  | .num n => n
  | _ => 0
def numO : Vl → Option Int
  | .non => some 0
  | .num n => some n
  | _ => none
theorem numIn_en (v : Vl) : numIn v = En.en (numO v) := by cases v <;> rfl
def numsA : Arg → List (Option Int)
  | .one v => [numO v]
  | .many l => (l.filter isNum).map fun v => some (nOf v)
def nums (as : List Arg) : List (Option Int) := as.flatMap numsA
def stN (a : Arg) : List D := (numsA a).map En.en
theorem stN_all (as : List Arg) : as.flatMap stN = (nums as).map En.en := by unfold nums stN; rw [List.map_flatMap]
theorem numsA_len (a : Arg) : (numsA a).length ≤ (valsA a).length := by
  cases a with
  | one v => exact Nat.le_refl _
  | many l => show ((l.filter isNum).map _).length ≤ l.length; rw [List.length_map]; exact List.length_filter_le _ _
theorem nums_len {as : List Arg} (h : AsOk as) : (nums as).length ≤ 24 := by
  have := flat_len numsA 6 as fun a ha => Nat.le_trans (numsA_len a) (h.2 a ha).1
  have := h.1
  unfold nums; omega
theorem num_comp (k j : Nat) (l : List (Option DV)) (M : List O) (ls : List Vl) (hk : k < l.length) (hj : gv l j = some (.p (.lst (ls.map enc)))) (hl : ls.length ≤ 1000000) :
    mLc (mItD itL (mVar j)) [k] (gN k) (mAnd (mNotN (mVar k)) (mBin dEq (mIx (mVar k) (mC (.int 0))) (mC (.str (PySem.Str.ofString "num"))))) (mIx (mVar k) (mC (.int 1))) ⟨l, M⟩ = some (.ok (.p (.lst (stN (.many ls)))) M) := by
  refine lcs _ [k] (gN k) _ _ ⟨l, M⟩ _ _ (it_var j l M _ hj) ?_
  have q := filter_compE enc (l := wipeL l [k]) (g := gN k) (t := mAnd (mNotN (mVar k)) (mBin dEq (mIx (mVar k) (mC (.int 0))) (mC (.str (PySem.Str.ofString "num"))))) (e := mIx (mVar k) (mC (.int 1))) (M := M) (fun v => .int (nOf v)) isNum ls (fun v _ => by
    refine ⟨⟨(l.set k none).set k (some (.p (enc v))), M⟩, rfl, rfl, ?_, fun hv => ?_⟩
    · cases v <;> simp [e_bnd, gv_set, hk, enc, isNum]
    · cases v <;> first | cases hv; done | simp [e_bnd, gv_set, hk, enc, nOf]) hl
  have e : stN (.many ls) = (ls.filter isNum).map fun v => .int (nOf v) := by
    show ((ls.filter isNum).map fun v => some (nOf v)).map En.en = _
    rw [List.map_map]; rfl
  rw [e]
  exact q
theorem asnum_run (l : List (Option DV)) (M : List O) (j : Nat) (v : Vl) (h : gv l j = some (.p (enc v))) : mCallA 1 m_l_as_number (aCons (mVar j) aNil) ⟨l, M⟩ = some (.ok (.p (En.en (numO v))) M) := by
  have e := as_number_spec v
  rw [numIn_en] at e
  generalize m_l_as_number = f at *
  simp [e_bnd, h, e]
theorem numin_run (l : List (Option DV)) (M : List O) (j : Nat) (v : Vl) (h : gv l j = some (.p (enc v))) : mCallA 1 m_number_in (aCons (mVar j) aNil) ⟨l, M⟩ = some (.ok (.p (En.en (numO v))) M) := by
  have e := number_in_spec v
  rw [numIn_en] at e
  generalize m_number_in = f at *
  simp [e_bnd, h, e]
theorem len1N (v : Vl) (acc : List D) (hl : acc.length + (stN (.one v)).length ≤ 1000000) : (acc.map DV.p).length < 1000000 := by
  have : (stN (.one v)).length = 1 := rfl
  simp; omega
theorem lenMN (l : List Vl) (acc : List D) (hl : acc.length + (stN (.many l)).length ≤ 1000000) : (acc.map DV.p).length + (stN (.many l)).length ≤ 1000000 := by
  simpa using hl
noncomputable def lbNums : SM := (sIf (mBin dEq (mVar 2) (mC (.str (PySem.Str.ofString "many")))) (sAsg (mCatO (mVar 1) (mLc (mItD itL (mVar 3)) [4] (gN 4) (mAnd (mNotN (mVar 4)) (mBin dEq (mIx (mVar 4) (mC (.int 0))) (mC (.str (PySem.Str.ofString "num"))))) (mIx (mVar 4) (mC (.int 1))))) (gN 1)) (sExpr (mMth "list" gApp (mVar 1) (aCons (mCallA 1 m_l_as_number (aCons (mVar 3) aNil)) aNil))))
theorem numbers_spec (as : List Arg) (h : AsOk as) : m_l_numbers [.p (encAs as)] [] = some (.ok (.p (En.en (nums as))) []) := by
  obtain ⟨s', ⟨x2, x3, x4, n, M, rfl, hM⟩, hK⟩ := acc_front (enc := encA) (g := gT 2 (gsCons (gN 2) (gsCons (gN 3) gsNil))) (b := lbNums) (step := stN) (ok := Aok)
    (Inv := fun acc s => ∃ x2 x3 x4 n M, s = ⟨[some (.p (encAs as)), some (.o n), x2, x3, x4], M⟩ ∧ M[n]? = some (.lst (acc.map .p))) 1 (mItD itL (mVar 0)) [some (.p (encAs as)), none, none, none, none] as
    (fun a acc s ha hi hl => by
      obtain ⟨x2, x3, x4, n, M, rfl, hM⟩ := hi
      cases a with
      | one v =>
        refine ⟨⟨[some (.p (encAs as)), some (.o n), some (.p (.str (Str.ofString "one"))), some (.p (enc v)), x4], M⟩, by simp [encA], ?_⟩
        unfold lbNums
        rw [is_one 2 _ _ _ _ rfl]
        refine wpS_eq (app_run 1 n _ _ M _ _ rfl hM (len1N v acc hl) (asnum_run _ M 3 v rfl)) ⟨_, _, _, n, _, rfl, ?_⟩
        rw [set_get hM]; simp [stN, numsA]
      | many l =>
        refine ⟨⟨[some (.p (encAs as)), some (.o n), some (.p (.str (Str.ofString "many"))), some (.p (.lst (l.map enc))), x4], M⟩, by simp [encA], ?_⟩
        have hl6 : l.length ≤ 6 := ha.1
        unfold lbNums
        rw [is_many 2 _ _ _ _ rfl]
        refine wpS_eq (catO_run 1 n _ _ M _ _ rfl hM (lenMN l acc hl) (num_comp 4 3 _ M l (by simp) rfl (by omega))) ⟨_, _, _, _, _, rfl, ?_⟩
        rw [snoc_get]; simp)
    h.2 (it_var 0 _ _ _ rfl) ⟨none, none, none, 0, _, rfl, rfl⟩ (by rw [stN_all, List.length_map]; have := nums_len h; omega)
  rw [stN_all] at hM
  exact runB_of ((hK _).trans (ret_run _ _ _ _ (frz_run 1 n _ M _ rfl hM)))
end Law
namespace Law
open PySem L2 DL
/-! truths -/
def truO : Vl → Option Bool
  | .non => some false
  | .bool b => some b
  | _ => none
def trusA : Arg → List (Option Bool)
  | .one v => [truO v]
  | .many l => (l.filter fun v => !isNon v).map truO
def trus (as : List Arg) : List (Option Bool) := as.flatMap trusA
def stT (a : Arg) : List D := (trusA a).map En.en
theorem stT_all (as : List Arg) : as.flatMap stT = (trus as).map En.en := by unfold trus stT; rw [List.map_flatMap]
theorem trusA_len (a : Arg) : (trusA a).length ≤ (valsA a).length := by
  cases a with
  | one v => exact Nat.le_refl _
  | many l => show ((l.filter _).map _).length ≤ l.length; rw [List.length_map]; exact List.length_filter_le _ _
theorem trus_len {as : List Arg} (h : AsOk as) : (trus as).length ≤ 24 := by
  have := flat_len trusA 6 as fun a ha => Nat.le_trans (trusA_len a) (h.2 a ha).1
  have := h.1
  unfold trus; omega
theorem isNV_enc (v : Vl) : isNV (.p (enc v)) = isNon v := by cases v <;> rfl
theorem truth_in_spec (v : Vl) : m_truth_in [enc v] = some (.ok (En.en (truO v))) := by
  apply wpA.eq
  cases v <;> simp [m_truth_in, b_truth_in, enc, truO, en_none_b, en_some_b]
theorem truin_run (l : List (Option DV)) (M : List O) (j : Nat) (v : Vl) (h : gv l j = some (.p (enc v))) : mCallA 1 m_truth_in (aCons (mVar j) aNil) ⟨l, M⟩ = some (.ok (.p (En.en (truO v))) M) := by
  have e := truth_in_spec v
  generalize m_truth_in = f at *
  simp [e_bnd, h, e]
theorem tru_comp (k j : Nat) (l : List (Option DV)) (M : List O) (ls : List Vl) (hk : k < l.length) (hj : gv l j = some (.p (.lst (ls.map enc)))) (hl : ls.length ≤ 1000000) :
    mLc (mItD itL (mVar j)) [k] (gN k) (mNotN (mVar k)) (mCallA 1 m_truth_in (aCons (mVar k) aNil)) ⟨l, M⟩ = some (.ok (.p (.lst (stT (.many ls)))) M) := by
  refine lcs _ [k] (gN k) _ _ ⟨l, M⟩ _ _ (it_var j l M _ hj) ?_
  have g : ∀ v, gv ((l.set k none).set k (some (.p (enc v)))) k = some (.p (enc v)) := fun v => by rw [gv_set, if_pos rfl, if_pos (by simpa using hk)]
  have q := filter_compE enc (l := wipeL l [k]) (g := gN k) (t := mNotN (mVar k)) (e := mCallA 1 m_truth_in (aCons (mVar k) aNil)) (M := M) (fun v => En.en (truO v)) (fun v => !isNon v) ls (fun v _ => by
    refine ⟨⟨(l.set k none).set k (some (.p (enc v))), M⟩, rfl, rfl, ?_, fun hv => truin_run _ M k v (g v)⟩
    rw [e_notN, e_bnd, e_var, g v]
    show some (Rs.ok (DV.p (.bl (!isNV (.p (enc v))))) M) = _
    rw [isNV_enc]) hl
  have e : stT (.many ls) = (ls.filter fun v => !isNon v).map fun v => En.en (truO v) := by
    show ((ls.filter fun v => !isNon v).map truO).map En.en = _
    rw [List.map_map]; rfl
  rw [e]
  exact q
theorem non_comp (k j : Nat) (l : List (Option DV)) (M : List O) (ls : List Vl) (hk : k < l.length) (hj : gv l j = some (.p (.lst (ls.map enc)))) (hl : ls.length ≤ 1000000) :
    mLc (mItD itL (mVar j)) [k] (gN k) (mNotN (mVar k)) (mVar k) ⟨l, M⟩ = some (.ok (.p (.lst ((ls.filter fun v => !isNon v).map enc))) M) := by
  refine lcs _ [k] (gN k) _ _ ⟨l, M⟩ _ _ (it_var j l M _ hj) ?_
  have g : ∀ v, gv ((l.set k none).set k (some (.p (enc v)))) k = some (.p (enc v)) := fun v => by rw [gv_set, if_pos rfl, if_pos (by simpa using hk)]
  exact filter_compE enc (l := wipeL l [k]) (g := gN k) (t := mNotN (mVar k)) (e := mVar k) (M := M) enc (fun v => !isNon v) ls (fun v _ => by
    refine ⟨⟨(l.set k none).set k (some (.p (enc v))), M⟩, rfl, rfl, ?_, fun hv => by rw [e_var, g v]⟩
    rw [e_notN, e_bnd, e_var, g v]
    show some (Rs.ok (DV.p (.bl (!isNV (.p (enc v))))) M) = _
    rw [isNV_enc]) hl
theorem len1T (v : Vl) (acc : List D) (hl : acc.length + (stT (.one v)).length ≤ 1000000) : (acc.map DV.p).length < 1000000 := by
  have : (stT (.one v)).length = 1 := rfl
  simp; omega
theorem lenMT (l : List Vl) (acc : List D) (hl : acc.length + (stT (.many l)).length ≤ 1000000) : (acc.map DV.p).length + (stT (.many l)).length ≤ 1000000 := by
  simpa using hl
noncomputable def inT : SM := (sIf (mIsN (mVar 5)) (sExpr (mMth "list" gApp (mVar 1) (aCons (mC (.bl false)) aNil))) (sIf (mBin dEq (mIx (mVar 5) (mC (.int 0))) (mC (.str (PySem.Str.ofString "bool")))) (sExpr (mMth "list" gApp (mVar 1) (aCons (mIx (mVar 5) (mC (.int 1))) aNil))) (sExpr (mMth "list" gApp (mVar 1) (aCons (mC .non) aNil)))))
noncomputable def lbTrus : SM := (sSeq (sAsg (disp .lst (aCons (mVar 3) aNil)) (gN 4))
  (sSeq (sIf (mBin dEq (mVar 2) (mC (.str (PySem.Str.ofString "many")))) (sAsg (mLc (mItD itL (mVar 3)) [5] (gN 5) (mNotN (mVar 5)) (mVar 5)) (gN 4)) sNil)
  (sFor (mItD itL (mVar 4)) (gN 5) inT)))
theorem inT_step (x0 x2 x3 x4 x5 : Option DV) (n : Nat) (M : List O) (v : Vl) (acc : List D) (hM : M[n]? = some (.lst (acc.map .p))) (hl : acc.length < 1000000) :
    inT ⟨[x0, some (.o n), x2, x3, x4, some (.p (enc v))], M⟩ = some (.nx, ⟨[x0, some (.o n), x2, x3, x4, some (.p (enc v))], M.set n (.lst (acc.map .p ++ [.p (En.en (truO v))]))⟩) := by
  have hl' : (acc.map DV.p).length < 1000000 := by simpa using hl
  unfold inT
  cases v with
  | non =>
    rw [sif_t _ _ _ _ M (by simp [e_bnd, enc])]
    exact app_run 1 n _ _ M _ (.p (.bl false)) rfl hM hl' rfl
  | bool b =>
    rw [sif_f _ _ _ _ M (by simp [e_bnd, enc]), sif_t _ _ _ _ M (by simp [e_bnd, enc])]
    exact app_run 1 n _ _ M _ (.p (.bl b)) rfl hM hl' (by simp [e_bnd, enc])
  | num k =>
    rw [sif_f _ _ _ _ M (by simp [e_bnd, enc]), sif_f _ _ _ _ M (by simp [e_bnd, enc])]
    exact app_run 1 n _ _ M _ (.p .non) rfl hM hl' rfl
  | text k =>
    rw [sif_f _ _ _ _ M (by simp [e_bnd, enc]), sif_f _ _ _ _ M (by simp [e_bnd, enc])]
    exact app_run 1 n _ _ M _ (.p .non) rfl hM hl' rfl
  | err k =>
    rw [sif_f _ _ _ _ M (by simp [e_bnd, enc]), sif_f _ _ _ _ M (by simp [e_bnd, enc])]
    exact app_run 1 n _ _ M _ (.p .non) rfl hM hl' rfl
theorem inT_loop (x0 x2 x3 x4 x5 : Option DV) (n : Nat) (M : List O) (ls : List Vl) (acc : List D) (hM : M[n]? = some (.lst (acc.map .p))) (hl : acc.length + ls.length ≤ 1000000) :
    ∃ y5 M', loopS (gN 5) inT ((ls.map enc).map .p) ⟨[x0, some (.o n), x2, x3, x4, x5], M⟩ = some (.nx, ⟨[x0, some (.o n), x2, x3, x4, y5], M'⟩) ∧ M'[n]? = some (.lst ((acc ++ (ls.map truO).map En.en).map .p)) := by
  have hf : ls.flatMap (fun v => [(En.en (truO v) : D)]) = (ls.map truO).map En.en := by
    rw [List.map_map]; induction ls with
    | nil => rfl
    | cons v ls ih => rw [List.flatMap_cons, ih (by simp only [List.length_cons] at hl; omega)]; rfl
  obtain ⟨s', e, y5, M', rfl, h2⟩ := acc_loop (enc := enc) (g := gN 5) (b := inT) (step := fun v => [En.en (truO v)]) (ok := fun _ => True)
    (Inv := fun acc s => ∃ x5 M, s = ⟨[x0, some (.o n), x2, x3, x4, x5], M⟩ ∧ M[n]? = some (.lst (acc.map .p)))
    (fun v acc s _ hi hl => by
      obtain ⟨x5, M, rfl, hM⟩ := hi
      refine ⟨⟨[x0, some (.o n), x2, x3, x4, some (.p (enc v))], M⟩, rfl, wpS_eq (inT_step x0 x2 x3 x4 x5 n M v acc hM (by simp at hl; omega)) ⟨_, _, rfl, ?_⟩⟩
      rw [set_get hM]; simp) ls acc ⟨[x0, some (.o n), x2, x3, x4, x5], M⟩ (fun _ _ => trivial) ⟨x5, M, rfl, hM⟩ (by rw [hf]; simpa using hl)
  rw [hf] at h2
  exact ⟨y5, M', e, h2⟩
theorem truths_spec (as : List Arg) (h : AsOk as) : m_l_truths [.p (encAs as)] [] = some (.ok (.p (En.en (trus as))) []) := by
  obtain ⟨s', ⟨x2, x3, x4, x5, n, M, rfl, hM⟩, hK⟩ := acc_front (enc := encA) (g := gT 2 (gsCons (gN 2) (gsCons (gN 3) gsNil))) (b := lbTrus) (step := stT) (ok := Aok)
    (Inv := fun acc s => ∃ x2 x3 x4 x5 n M, s = ⟨[some (.p (encAs as)), some (.o n), x2, x3, x4, x5], M⟩ ∧ M[n]? = some (.lst (acc.map .p))) 1 (mItD itL (mVar 0)) [some (.p (encAs as)), none, none, none, none, none] as
    (fun a acc s ha hi hl => by
      obtain ⟨x2, x3, x4, x5, n, M, rfl, hM⟩ := hi
      have hd : ∀ (d : D) (l : List (Option DV)), gv l 3 = some (.p d) → disp .lst (aCons (mVar 3) aNil) ⟨l, M⟩ = some (.ok (.p (.lst [d])) M) := fun d l hg => by simp [e_bnd, hg]
      cases a with
      | one v =>
        refine ⟨⟨[some (.p (encAs as)), some (.o n), some (.p (.str (Str.ofString "one"))), some (.p (enc v)), x4, x5], M⟩, by simp [encA], ?_⟩
        unfold lbTrus
        obtain ⟨y5, M', e, h2⟩ := inT_loop (some (.p (encAs as))) (some (.p (.str (Str.ofString "one")))) (some (.p (enc v))) (some (.p (.lst [enc v]))) x5 n M [v] acc hM (by have : (stT (.one v)).length = 1 := rfl; simp; omega)
        rw [seq_asg _ (gN 4) _ _ ⟨[some (.p (encAs as)), some (.o n), some (.p (.str (Str.ofString "one"))), some (.p (enc v)), some (.p (.lst [enc v])), x5], M⟩ _ M (hd _ _ rfl) rfl]
        rw [seq_nx _ _ _ ⟨[some (.p (encAs as)), some (.o n), some (.p (.str (Str.ofString "one"))), some (.p (enc v)), some (.p (.lst [enc v])), x5], M⟩ (by rw [is_one 2 _ _ _ _ rfl]; rfl)]
        refine wpS_eq (s := ⟨[some (.p (encAs as)), some (.o n), some (.p (.str (Str.ofString "one"))), some (.p (enc v)), some (.p (.lst [enc v])), y5], M'⟩) ?_ ⟨_, _, _, _, n, _, rfl, h2⟩
        rw [e_for, e_lift, it_var 4 _ M [enc v] rfl]
        exact e
      | many l =>
        have hl6 : l.length ≤ 6 := ha.1
        refine ⟨⟨[some (.p (encAs as)), some (.o n), some (.p (.str (Str.ofString "many"))), some (.p (.lst (l.map enc))), x4, x5], M⟩, by simp [encA], ?_⟩
        unfold lbTrus
        have e3 : (stT (.many l)) = ((l.filter fun v => !isNon v).map truO).map En.en := rfl
        obtain ⟨y5, M', e, h2⟩ := inT_loop (some (.p (encAs as))) (some (.p (.str (Str.ofString "many")))) (some (.p (.lst (l.map enc)))) (some (.p (.lst ((l.filter fun v => !isNon v).map enc)))) x5 n M (l.filter fun v => !isNon v) acc hM (by rw [e3] at hl; simpa using hl)
        rw [seq_asg _ (gN 4) _ _ ⟨[some (.p (encAs as)), some (.o n), some (.p (.str (Str.ofString "many"))), some (.p (.lst (l.map enc))), some (.p (.lst [.lst (l.map enc)])), x5], M⟩ _ M (hd _ _ rfl) rfl]
        have e4 := non_comp 5 3 [some (.p (encAs as)), some (.o n), some (.p (.str (Str.ofString "many"))), some (.p (.lst (l.map enc))), some (.p (.lst [.lst (l.map enc)])), x5] M l (by simp) rfl (by omega)
        rw [seq_nx _ _ _ ⟨[some (.p (encAs as)), some (.o n), some (.p (.str (Str.ofString "many"))), some (.p (.lst (l.map enc))), some (.p (.lst ((l.filter fun v => !isNon v).map enc))), x5], M⟩ (by
          rw [is_many 2 _ _ _ _ rfl, e_asg, e_lift, e4]; rfl)]
        refine wpS_eq (s := ⟨[some (.p (encAs as)), some (.o n), some (.p (.str (Str.ofString "many"))), some (.p (.lst (l.map enc))), some (.p (.lst ((l.filter fun v => !isNon v).map enc))), y5], M'⟩) ?_ ⟨_, _, _, _, n, _, rfl, h2⟩
        rw [e_for, e_lift, it_var 4 _ M ((l.filter fun v => !isNon v).map enc) rfl]
        exact e)
    h.2 (it_var 0 _ _ _ rfl) ⟨none, none, none, none, 0, _, rfl, rfl⟩ (by rw [stT_all, List.length_map]; have := trus_len h; omega)
  rw [stT_all] at hM
  exact runB_of ((hK _).trans (ret_run _ _ _ _ (frz_run 1 n _ M _ rfl hM)))
/-! AND and OR of the program -/
def tD (b : Bool) : D := .tup [.str (Str.ofString "bool"), .bl b]
def numD (n : Int) : D := .tup [.str (Str.ofString "num"), .int n]
def logO (k : String) (ts : List (Option Bool)) : Option D := if none ∈ ts then none else some (if k = "AND" then tD (ts.all fun o => o == some true) else tD (ts.any fun o => o == some true))
theorem all_some {α : Type} : ∀ {l : List (Option α)}, none ∉ l → ∃ r : List α, l = r.map some
  | [], _ => ⟨[], rfl⟩
  | none :: l, h => absurd List.mem_cons_self h
  | some a :: l, h => by
    obtain ⟨r, e⟩ := all_some (l := l) fun z => h (List.mem_cons_of_mem _ z)
    exact ⟨a :: r, by rw [e]; rfl⟩
noncomputable def lbLog : SM := (sIf (mBin dEq (mVar 3) (mC (.str (PySem.Str.ofString "many")))) (sExpr (mMth "list" gExt (mVar 2) (aCons (mLc (mItD itL (mVar 4)) [5] (gN 5) (mNotN (mVar 5)) (mCallA 1 m_truth_in (aCons (mVar 5) aNil))) aNil))) (sExpr (mMth "list" gApp (mVar 2) (aCons (mCallA 1 m_truth_in (aCons (mVar 4) aNil)) aNil))))
theorem any_deq (bs : List Bool) : dAny (.lst (bs.map .bl)) = some (.bl (bs.any id)) := by
  show (allBl (bs.map .bl)).map _ = _
  rw [allBl_map]; rfl
theorem all_deq (bs : List Bool) : dAll (.lst (bs.map .bl)) = some (.bl (bs.all id)) := by
  show (allBl (bs.map .bl)).map _ = _
  rw [allBl_map]; rfl
theorem log_fin (k : String) (hk : k = "AND" ∨ k = "OR") (ts : List (Option Bool)) (x1 x3 x4 x5 : Option DV) (M : List O) :
    (sSeq (sIf (mBin dIn (mC .non) (mFrz (mVar 2))) (sRet (mC k_WRONG_VALUE)) sNil)
  (sRet (disp .tup (aCons (mC (.str (PySem.Str.ofString "bool"))) (aCons (mIf (mBin dEq (mVar 0) (mC (.str (PySem.Str.ofString "AND")))) (mCB (g1 dAll) (aCons (mFrz (mVar 2)) aNil)) (mCB (g1 dAny) (aCons (mFrz (mVar 2)) aNil))) aNil))))) ⟨[some (.p (.str (Str.ofString k))), x1, some (.p (En.en ts)), x3, x4, x5], M⟩
    = some (.rt (.p ((logO k ts).getD k_WRONG_VALUE)), ⟨[some (.p (.str (Str.ofString k))), x1, some (.p (En.en ts)), x3, x4, x5], M⟩) := by
  have hin : inD .non (En.en ts) = some (decide (none ∈ ts)) := (inD_en (α := Option Bool) none ts (by decide)).trans (by congr)
  unfold logO
  by_cases h : none ∈ ts
  · rw [if_pos h]
    simp [e_bnd, e_lift, e_seq, hin, h]
  · rw [if_neg h, Option.getD_some]
    obtain ⟨bs, rfl⟩ := all_some h
    have e1 : (En.en (bs.map some) : D) = .lst (bs.map .bl) := by rw [en_ls, List.map_map]; rfl
    have e2 : ((bs.map some).all fun o => o == some true) = bs.all id := by rw [List.all_map]; congr 1; funext b; cases b <;> rfl
    have e3 : ((bs.map some).any fun o => o == some true) = bs.any id := by rw [List.any_map]; congr 1; funext b; cases b <;> rfl
    have hin : inD .non (En.en (bs.map some)) = some false := by rw [hin, decide_eq_false h]
    have a1 := all_deq bs
    have a2 := any_deq bs
    rw [e2, e3]
    rw [e1] at hin ⊢
    generalize D.lst (bs.map .bl) = z at *
    generalize bs.all id = u at *
    generalize bs.any id = w at *
    rcases hk with rfl | rfl <;> simp [e_bnd, e_lift, e_seq, hin, a1, a2, tD]
theorem logical_spec (k : String) (hk : k = "AND" ∨ k = "OR") (as : List Arg) (h : AsOk as) : m_logical [.p (.str (Str.ofString k)), .p (encAs as)] [] = some (.ok (.p ((logO k (trus as)).getD k_WRONG_VALUE)) []) := by
  obtain ⟨s', ⟨x3, x4, x5, n, M, rfl, hM⟩, hK⟩ := acc_front (enc := encA) (g := gT 2 (gsCons (gN 3) (gsCons (gN 4) gsNil))) (b := lbLog) (step := stT) (ok := Aok)
    (Inv := fun acc s => ∃ x3 x4 x5 n M, s = ⟨[some (.p (.str (Str.ofString k))), some (.p (encAs as)), some (.o n), x3, x4, x5], M⟩ ∧ M[n]? = some (.lst (acc.map .p))) 2 (mItD itL (mVar 1)) [some (.p (.str (Str.ofString k))), some (.p (encAs as)), none, none, none, none] as
    (fun a acc s ha hi hl => by
      obtain ⟨x3, x4, x5, n, M, rfl, hM⟩ := hi
      cases a with
      | one v =>
        refine ⟨⟨[some (.p (.str (Str.ofString k))), some (.p (encAs as)), some (.o n), some (.p (.str (Str.ofString "one"))), some (.p (enc v)), x5], M⟩, by simp [encA], ?_⟩
        unfold lbLog
        rw [is_one 3 _ _ _ _ rfl]
        refine wpS_eq (app_run 2 n _ _ M _ _ rfl hM (len1T v acc hl) (truin_run _ M 4 v rfl)) ⟨_, _, _, n, _, rfl, ?_⟩
        rw [set_get hM]; simp [stT, trusA]
      | many l =>
        refine ⟨⟨[some (.p (.str (Str.ofString k))), some (.p (encAs as)), some (.o n), some (.p (.str (Str.ofString "many"))), some (.p (.lst (l.map enc))), x5], M⟩, by simp [encA], ?_⟩
        have hl6 : l.length ≤ 6 := ha.1
        unfold lbLog
        rw [is_many 3 _ _ _ _ rfl]
        refine wpS_eq (ext_run 2 n _ _ M _ _ rfl hM (lenMT l acc hl) (tru_comp 5 4 _ M l (by simp) rfl (by omega))) ⟨_, _, _, n, _, rfl, ?_⟩
        rw [set_get hM]; simp)
    h.2 (it_var 1 _ _ _ rfl) ⟨none, none, none, 0, _, rfl, rfl⟩ (by rw [stT_all, List.length_map]; have := trus_len h; omega)
  rw [stT_all] at hM
  exact runB_of ((hK _).trans ((seq_nx _ _ _ _ (sfrz_run 2 n _ M _ rfl hM)).trans (log_fin k hk (trus as) (some (.p (encAs as))) x3 x4 x5 (M.set n .gone))))
end Law
namespace Law
open PySem L2 DL
/-! the functions of numbers -/
theorem mulKl (i : Int) : mulOk 10000 i = true := by unfold mulOk; simp
abbrev Dis (ns : List Int) : D := .lst (ns.map .int)
theorem en_ints (ns : List Int) : (En.en (ns.map some) : D) = Dis ns := by rw [en_ls, List.map_map]; rfl
theorem sum_of_spec (ns : List Int) : m_sum_of [Dis ns] = some (.ok (nv ns.sum)) := by
  have e := number_value_spec ns.sum
  apply wpA.eq
  simp [m_sum_of, b_sum_of, e]
theorem len_dis (ns : List Int) (M : List O) : dLen M [.p (Dis ns)] = some (.int (ns.length : Nat)) := by rw [e_len, e_lenp, e_lenl, List.length_map]; rfl
theorem count_run (z : D) (j : Int) (h : dLen [] [.p z] = some (.int j)) : m_count_of [z] = some (.ok (numD (10000 * j))) := by
  have e : dMul (.int j) (.int 10000) = some (.int (j * 10000)) := mul_eq (mulK j)
  have e2 : 10000 * j = j * 10000 := Int.mul_comm _ _
  rw [e2]
  generalize j * 10000 = u at *
  apply wpA.eq
  unfold m_count_of b_count_of k_UNIT
  simp [-e_len, h, e, numD]
theorem count_of_spec (ns : List Int) : m_count_of [Dis ns] = some (.ok (numD (10000 * ns.length))) := count_run _ _ (len_dis ns [])
theorem least_spec (ns : List Int) : m_least_of [Dis ns] = some (.ok (numD (minDf ns 0))) := by
  apply wpA.eq
  simp [m_least_of, b_least_of, numD]
theorem greatest_spec (ns : List Int) : m_greatest_of [Dis ns] = some (.ok (numD (maxDf ns 0))) := by
  apply wpA.eq
  simp [m_greatest_of, b_greatest_of, numD]
theorem tru_lst (xs : List D) (M : List O) : truM M (.p (.lst xs)) = some (!xs.isEmpty) := rfl
def avg (ns : List Int) : D := if ns = [] then er "zero" else nv (rnd ns.sum ns.length)
theorem average_run (z : D) (j u : Int) (r w : D) (fr fn : MA) (h : dLen [] [.p z] = some (.int j)) (h2 : truM [] (.p z) = some true) (h3 : dSum z = some (.int u)) (h4 : fr [.int u, .int j] = some (.ok r)) (h5 : fn [r] = some (.ok w)) :
    runA 1 (sSeq (sIf (mNot (mTru (mVar 0))) (sRet (disp .tup (aCons (mC (.str (PySem.Str.ofString "error"))) (aCons (mC (.str (PySem.Str.ofString "zero"))) aNil)))) sNil)
  (sRet (mCallA 1 fn (aCons (mCallA 2 fr (aCons (mCB (g1 dSum) (aCons (mVar 0) aNil)) (aCons (mCB dLen (aCons (mVar 0) aNil)) aNil))) aNil)))) [z] = some (.ok w) := by
  apply wpA.eq
  simp [-e_len, h, h2, h3, h4, h5]
theorem average_spec (ns : List Int) (h : ns.length ≤ 1000) : m_average_of [Dis ns] = some (.ok (avg ns)) := by
  unfold avg
  cases ns with
  | nil =>
    apply wpA.eq
    simp [m_average_of, b_average_of, tru_lst, er]
  | cons n r =>
    rw [if_neg (List.cons_ne_nil _ _)]
    have hl : (0 : Int) < ((n :: r).length : Int) := by simp
    exact average_run (Dis (n :: r)) _ _ _ _ m_rounded m_number_value (len_dis _ []) rfl (e_sumI (n :: r)) (rounded_spec (n :: r).sum ((n :: r).length : Int) hl (by omega)) (number_value_spec _)
def core (k : String) (ns : List Int) : D := if k = "SUM" then nv ns.sum else if k = "COUNT" then numD (10000 * ns.length) else if k = "AVG" then avg ns else if k = "MIN" then numD (minDf ns 0) else numD (maxDf ns 0)
def numRO (k : String) (os : List (Option Int)) : Option D := if none ∈ os then none else some (core k (os.map fun o => o.getD 0))
def N5 : List String := ["SUM", "COUNT", "AVG", "MIN", "MAX"]
theorem tri (ns : List Int) : (ns.map some).map (fun o : Option Int => o.getD 0) = ns := by rw [List.map_map]; exact List.map_id' _
noncomputable def tb5 (Ps : List Addr) : List (Addr × MA) := [(Ps.getD 0 0, m_sum_of), (Ps.getD 1 0, m_count_of), (Ps.getD 2 0, m_average_of), (Ps.getD 3 0, m_least_of), (Ps.getD 4 0, m_greatest_of)]
theorem ten {Fa : List Addr} (h : CFa Fa) : ∃ a b c d e f g i j k, Fa = [a, b, c, d, e, f, g, i, j, k] ∧ [a, b, c, d, e, f, g, i, j, k].Nodup := by
  obtain ⟨h1, h2⟩ := h
  match Fa, h1 with
  | [a, b, c, d, e, f, g, i, j, k], _ => exact ⟨a, b, c, d, e, f, g, i, j, k, rfl, h2⟩
theorem num_act {Fa : List Addr} (hF : CFa Fa) (k : String) (hk : k ∈ N5) (ns : List Int) (h : ns.length ≤ 1000) : ∃ a m, (kd_NUMERIC Fa).lookup (Str.ofString k) = some (.fn a) ∧ (tb5 Fa).lookup a = some m ∧ m [Dis ns] = some (.ok (core k ns)) := by
  obtain ⟨a, b, c, d, e, f, g, i, j, l, rfl, hn⟩ := ten hF
  simp only [List.nodup_cons, List.mem_cons, not_or, List.not_mem_nil, not_false_eq_true] at hn
  simp only [N5, List.mem_cons, List.not_mem_nil, or_false] at hk
  rcases hk with rfl | rfl | rfl | rfl | rfl
  · exact ⟨a, _, by simp [kd_NUMERIC, List.lookup], by simp [tb5, List.lookup], sum_of_spec ns⟩
  · refine ⟨b, _, by simp [kd_NUMERIC, List.lookup], ?_, count_of_spec ns⟩
    have : (b == a) = false := by simp; exact fun q => hn.1.1 q.symm
    simp [tb5, List.lookup, this]
  · refine ⟨c, _, by simp [kd_NUMERIC, List.lookup], ?_, average_spec ns h⟩
    have h1 : (c == a) = false := by simp; exact fun q => hn.1.2.1 q.symm
    have h2 : (c == b) = false := by simp; exact fun q => hn.2.1.1 q.symm
    simp [tb5, List.lookup, h1, h2]
  · refine ⟨d, _, by simp [kd_NUMERIC, List.lookup], ?_, least_spec ns⟩
    have h1 : (d == a) = false := by simp; exact fun q => hn.1.2.2.1 q.symm
    have h2 : (d == b) = false := by simp; exact fun q => hn.2.1.2.1 q.symm
    have h3 : (d == c) = false := by simp; exact fun q => hn.2.2.1.1 q.symm
    simp [tb5, List.lookup, h1, h2, h3]
  · refine ⟨e, _, by simp [kd_NUMERIC, List.lookup], ?_, greatest_spec ns⟩
    have h1 : (e == a) = false := by simp; exact fun q => hn.1.2.2.2.1 q.symm
    have h2 : (e == b) = false := by simp; exact fun q => hn.2.1.2.2.1 q.symm
    have h3 : (e == c) = false := by simp; exact fun q => hn.2.2.1.2.1 q.symm
    have h4 : (e == d) = false := by simp; exact fun q => hn.2.2.2.1.1 q.symm
    simp [tb5, List.lookup, h1, h2, h3, h4]
noncomputable def nfin (Ps : List Addr) : SM := (sSeq (sIf (mBin dIn (mC .non) (mFrz (mVar 2))) (sRet (mC k_WRONG_VALUE)) sNil)
  (sSeq (sAsg (mKd (kd_NUMERIC Ps) (mVar 0)) (gN 5))
  (sRet (mCallV 5 1 (tb5 Ps) (aCons (mFrz (mVar 2)) aNil)))))
theorem callA1f (f : MA) (i : Nat) (l : List (Option DV)) (M : List O) (x : D) (r : D) (h1 : gv l i = some (.p x)) (e : f [x] = some (.ok r)) : mCallA 1 f (aCons (mFrz (mVar i)) aNil) ⟨l, M⟩ = some (.ok (.p r) M) := by
  simp [e_bnd, h1, e]
theorem num_fin {Fa : List Addr} (hF : CFa Fa) (k : String) (hk : k ∈ N5) (os : List (Option Int)) (ho : os.length ≤ 1000) (x1 x3 x4 x5 x6 : Option DV) (M : List O) :
    ∃ s, nfin Fa ⟨[some (.p (.str (Str.ofString k))), x1, some (.p (En.en os)), x3, x4, x5, x6], M⟩ = some (.rt (.p ((numRO k os).getD k_WRONG_VALUE)), s) := by
  have hin : inD .non (En.en os) = some (decide (none ∈ os)) := (inD_en (α := Option Int) none os (by decide)).trans (by congr)
  unfold numRO nfin
  by_cases h : none ∈ os
  · rw [if_pos h]
    refine ⟨_, by
      rw [e_seq, sif_t _ _ _ _ M (by simp [e_bnd, hin, h]), ret_run _ _ _ M rfl]; rfl⟩
  · rw [if_neg h, Option.getD_some]
    obtain ⟨ns, rfl⟩ := all_some h
    rw [tri]
    have hl : ns.length ≤ 1000 := by simpa using ho
    obtain ⟨a, m, h1, h2, h3⟩ := num_act hF k hk ns hl
    rw [en_ints] at hin ⊢
    rw [decide_eq_false h] at hin
    refine ⟨⟨[some (.p (.str (Str.ofString k))), x1, some (.p (Dis ns)), x3, x4, some (.p (.fn a)), x6], M⟩, ?_⟩
    rw [seq_nx _ _ _ ⟨[some (.p (.str (Str.ofString k))), x1, some (.p (Dis ns)), x3, x4, x5, x6], M⟩ (by rw [sif_f _ _ _ _ M (by simp [e_bnd, hin])]; rfl)]
    rw [seq_asg _ (gN 5) _ _ ⟨[some (.p (.str (Str.ofString k))), x1, some (.p (Dis ns)), x3, x4, some (.p (.fn a)), x6], M⟩ (.p (.fn a)) M (by simp [e_bnd, h1]) rfl]
    exact ret_run _ _ _ M (callV_run 5 1 _ _ _ a m _ rfl h2 (callA1f m 2 _ M _ _ rfl h3))
noncomputable def lbNum : SM := (sIf (mBin dEq (mVar 3) (mC (.str (PySem.Str.ofString "many")))) (sExpr (mMth "list" gExt (mVar 2) (aCons (mLc (mItD itL (mVar 4)) [6] (gN 6) (mAnd (mNotN (mVar 6)) (mBin dEq (mIx (mVar 6) (mC (.int 0))) (mC (.str (PySem.Str.ofString "num"))))) (mIx (mVar 6) (mC (.int 1)))) aNil))) (sExpr (mMth "list" gApp (mVar 2) (aCons (mCallA 1 m_number_in (aCons (mVar 4) aNil)) aNil))))
theorem numeric_spec {Fa : List Addr} (hF : CFa Fa) (k : String) (hk : k ∈ N5) (as : List Arg) (h : AsOk as) : m_numeric Fa [.p (.str (Str.ofString k)), .p (encAs as)] [] = some (.ok (.p ((numRO k (nums as)).getD k_WRONG_VALUE)) []) := by
  obtain ⟨s', ⟨x3, x4, x6, n, M, rfl, hM⟩, hK⟩ := acc_front (enc := encA) (g := gT 2 (gsCons (gN 3) (gsCons (gN 4) gsNil))) (b := lbNum) (step := stN) (ok := Aok)
    (Inv := fun acc s => ∃ x3 x4 x6 n M, s = ⟨[some (.p (.str (Str.ofString k))), some (.p (encAs as)), some (.o n), x3, x4, none, x6], M⟩ ∧ M[n]? = some (.lst (acc.map .p))) 2 (mItD itL (mVar 1)) [some (.p (.str (Str.ofString k))), some (.p (encAs as)), none, none, none, none, none] as
    (fun a acc s ha hi hl => by
      obtain ⟨x3, x4, x6, n, M, rfl, hM⟩ := hi
      cases a with
      | one v =>
        refine ⟨⟨[some (.p (.str (Str.ofString k))), some (.p (encAs as)), some (.o n), some (.p (.str (Str.ofString "one"))), some (.p (enc v)), none, x6], M⟩, by simp [encA], ?_⟩
        unfold lbNum
        rw [is_one 3 _ _ _ _ rfl]
        refine wpS_eq (app_run 2 n _ _ M _ _ rfl hM (len1N v acc hl) (numin_run _ M 4 v rfl)) ⟨_, _, _, n, _, rfl, ?_⟩
        rw [set_get hM]; simp [stN, numsA]
      | many l =>
        refine ⟨⟨[some (.p (.str (Str.ofString k))), some (.p (encAs as)), some (.o n), some (.p (.str (Str.ofString "many"))), some (.p (.lst (l.map enc))), none, x6], M⟩, by simp [encA], ?_⟩
        have hl6 : l.length ≤ 6 := ha.1
        unfold lbNum
        rw [is_many 3 _ _ _ _ rfl]
        refine wpS_eq (ext_run 2 n _ _ M _ _ rfl hM (lenMN l acc hl) (num_comp 6 4 _ M l (by simp) rfl (by omega))) ⟨_, _, _, n, _, rfl, ?_⟩
        rw [set_get hM]; simp)
    h.2 (it_var 1 _ _ _ rfl) ⟨none, none, none, 0, _, rfl, rfl⟩ (by rw [stN_all, List.length_map]; have := nums_len h; omega)
  rw [stN_all] at hM
  obtain ⟨s2, hs⟩ := num_fin hF k hk (nums as) (by have := nums_len h; omega) (some (.p (encAs as))) x3 x4 none x6 (M.set n .gone)
  exact runB_of ((hK _).trans ((seq_nx _ _ _ _ (sfrz_run 2 n _ M _ rfl hM)).trans hs))
end Law
namespace Law
open PySem L2 DL
/-! the law's own functions of numbers -/
noncomputable def lfin4 : SM := (sSeq (sAsg (mCB (g1 dSort) (aCons (mBin dAdd2 (mVar 2) (mSlE (disp .lst (aCons (mC (.int 0)) aNil)) (pSome (mCB dLen (aCons (mVar 2) aNil))) pNone)) aNil)) (gN 2))
  (sRet (disp .tup (aCons (mC (.str (PySem.Str.ofString "num"))) (aCons (mIx (mVar 2) (mIx (disp .lst (aCons (mC (.int 0)) (aCons (mBin dSub (mCB dLen (aCons (mVar 2) aNil)) (mC (.int 1))) aNil))) (mCB (g1 dInt) (aCons (mBin dEq (mVar 0) (mC (.str (PySem.Str.ofString "MAX")))) aNil)))) aNil)))))
noncomputable def lfin3 : SM := (sSeq (sIf (mBin dEq (mVar 0) (mC (.str (PySem.Str.ofString "AVG")))) (sSeq (sIf (mBin dEq (mCB dLen (aCons (mVar 2) aNil)) (mC (.int 0))) (sRet (disp .tup (aCons (mC (.str (PySem.Str.ofString "error"))) (aCons (mC (.str (PySem.Str.ofString "zero"))) aNil)))) sNil)
  (sRet (mCallA 1 m_l_fits (aCons (mCallA 2 m_l_quotient (aCons (mCB (g1 dSum) (aCons (mVar 2) aNil)) (aCons (mCB dLen (aCons (mVar 2) aNil)) aNil))) aNil)))) sNil) lfin4)
noncomputable def lfin2 : SM := (sSeq (sIf (mBin dEq (mVar 0) (mC (.str (PySem.Str.ofString "COUNT")))) (sRet (disp .tup (aCons (mC (.str (PySem.Str.ofString "num"))) (aCons (mBin dMul (mC (.int 10000)) (mCB dLen (aCons (mVar 2) aNil))) aNil)))) sNil) lfin3)
noncomputable def lfin1 : SM := (sSeq (sIf (mBin dEq (mVar 0) (mC (.str (PySem.Str.ofString "SUM")))) (sRet (mCallA 1 m_l_fits (aCons (mCB (g1 dSum) (aCons (mVar 2) aNil)) aNil))) sNil) lfin2)
noncomputable def lfin0 : SM := (sSeq (sIf (mBin dIn (mC .non) (mVar 2)) (sRet (disp .tup (aCons (mC (.str (PySem.Str.ofString "error"))) (aCons (mC (.str (PySem.Str.ofString "value"))) aNil)))) sNil) lfin1)
theorem counted_eq : b_l_counted = sSeq (sAsg (mCallB 1 m_l_numbers (aCons (mVar 1) aNil)) (gN 2)) lfin0 := rfl
abbrev LC (k : String) (x1 : Option DV) (z : D) : S := ⟨[some (.p (.str (Str.ofString k))), x1, some (.p z)], []⟩
def padI (ns : List Int) : List Int := if ns = [] then [0] else ns
theorem pad_run (ns : List Int) (hl : ns.length ≤ 1000) : dAdd2 (Dis ns) (.lst (cutD [.int 0] (some (ns.length : Int)) none)) = some (Dis (padI ns)) := by
  rw [cut_from, e_add2L]
  cases ns with
  | nil => rfl
  | cons n r =>
    have e : List.drop (n :: r).length [D.int 0] = [] := by rw [List.length_cons]; simp
    rw [e, if_pos (by simp at hl ⊢; omega)]
    unfold padI
    rw [if_neg (List.cons_ne_nil _ _)]
    simp
theorem step_no (k j : String) (h : k ≠ j) (x1 : Option DV) (z : D) (A K : SM) : sSeq (sIf (mBin dEq (mVar 0) (mC (.str (Str.ofString j)))) A sNil) K (LC k x1 z) = K (LC k x1 z) := by
  rw [seq_nx _ _ _ (LC k x1 z) (by rw [sif_f _ _ _ _ [] (by simp [e_bnd, h])]; rfl)]
theorem step_yes (k : String) (x1 : Option DV) (z : D) (A K : SM) (v : DV) (s : S) (h : A (LC k x1 z) = some (.rt v, s)) : sSeq (sIf (mBin dEq (mVar 0) (mC (.str (Str.ofString k)))) A sNil) K (LC k x1 z) = some (.rt v, s) := by
  rw [e_seq, sif_t _ _ _ _ [] (by simp [e_bnd])]
  have : A ⟨(LC k x1 z).l, []⟩ = some (.rt v, s) := h
  rw [this]
theorem lfin4_run (k : String) (hk : k = "MIN" ∨ k = "MAX") (ns : List Int) (hl : ns.length ≤ 1000) (x1 : Option DV) : ∃ s, lfin4 (LC k x1 (Dis ns)) = some (.rt (.p (core k ns)), s) := by
  have hp := pad_run ns hl
  have hs := dSort_ints (padI ns)
  obtain ⟨n, r, he⟩ : ∃ n r, padI ns = n :: r := by
    unfold padI
    cases ns with
    | nil => exact ⟨0, [], rfl⟩
    | cons n r => exact ⟨n, r, rfl⟩
  have c1 : core "MIN" ns = numD (r.foldl min n) := by
    cases ns with
    | nil => cases he; rfl
    | cons a b => cases he; rfl
  have c2 : core "MAX" ns = numD (r.foldl max n) := by
    cases ns with
    | nil => cases he; rfl
    | cons a b => cases he; rfl
  have f1 := sortI_first n r
  have f2 := sortI_last n r
  have f3 := sortI_len (n :: r)
  rw [he] at hp hs
  have g1' : atI ((sortI (n :: r)).map D.int) 0 = some (.int (r.foldl min n)) := by
    obtain ⟨x, hx⟩ := List.getElem?_eq_some_iff.mp (show (sortI (n :: r))[0]? = some (r.foldl min n) from by
      have := f1; unfold atI ixN at this; rw [if_pos (by decide), if_pos (by rw [f3]; simp)] at this; exact this)
    exact atI_nat' (by decide) (by rw [List.getElem?_map]; rw [show (0 : Int).toNat = 0 from rfl, List.getElem?_eq_getElem x, hx]; rfl)
  have g2' : atI ((sortI (n :: r)).map D.int) (r.length : Int) = some (.int (r.foldl max n)) := by
    have h2 : (sortI (n :: r))[r.length]? = some (r.foldl max n) := by
      have := f2; unfold atI ixN at this; rw [if_pos (by omega), if_pos (by rw [f3]; simp; omega)] at this; exact this
    exact atI_nat' (by omega) (by rw [List.getElem?_map, Int.toNat_natCast, h2]; rfl)
  refine ⟨LC k x1 (Dis (sortI (n :: r))), ?_⟩
  unfold lfin4
  rw [seq_asg _ (gN 2) _ _ (LC k x1 (Dis (sortI (n :: r)))) (.p (Dis (sortI (n :: r)))) [] (by
    have e5 : lenD (Dis ns) = some ns.length := by rw [e_lenl, List.length_map]
    generalize Dis ns = z at *
    simp [e_bnd, e5, hp, hs]) rfl]
  refine ret_run _ _ _ [] ?_
  have e6 : lenD (Dis (sortI (n :: r))) = some (r.length + 1) := by rw [e_lenl, List.length_map, f3, List.length_cons]
  have e7 : ∀ i, ixD (Dis (sortI (n :: r))) i = atI ((sortI (n :: r)).map D.int) i := fun i => rfl
  have e8 : dSub (.int ((r.length + 1 : Nat) : Int)) (.int 1) = some (.int (r.length : Nat)) := by
    show some (D.int (((r.length + 1 : Nat) : Int) - 1)) = _
    congr 2; omega
  have e9 : ∀ M, dLen M [.p (Dis (sortI (n :: r)))] = some (.int ((r.length + 1 : Nat) : Int)) := fun M => by rw [e_len, e_lenp, e6]; rfl
  rw [← e7] at g1' g2'
  generalize Dis (sortI (n :: r)) = z at *
  generalize ((r.length + 1 : Nat) : Int) = j1 at *
  generalize (r.length : Int) = j0 at *
  rcases hk with rfl | rfl
  · rw [c1]
    simp [-e_len, e_bnd, e9, e8, g1', numD]
  · rw [c2]
    simp [-e_len, e_bnd, e9, e8, g2', numD]
end Law
namespace Law
open PySem L2 DL
theorem fit_sum (f : MA) (l : List (Option DV)) (M : List O) (z : D) (u : Int) (w : D) (h1 : gv l 2 = some (.p z)) (h2 : dSum z = some (.int u)) (h3 : f [.int u] = some (.ok w)) : mCallA 1 f (aCons (mCB (g1 dSum) (aCons (mVar 2) aNil)) aNil) ⟨l, M⟩ = some (.ok (.p w) M) := by
  simp [e_bnd, h1, h2, h3]
theorem cnt_run (l : List (Option DV)) (M : List O) (z : D) (j u : Int) (h1 : gv l 2 = some (.p z)) (h2 : dLen M [.p z] = some (.int j)) (hu : dMul (.int 10000) (.int j) = some (.int u)) : disp .tup (aCons (mC (.str (PySem.Str.ofString "num"))) (aCons (mBin dMul (mC (.int 10000)) (mCB dLen (aCons (mVar 2) aNil))) aNil)) ⟨l, M⟩ = some (.ok (.p (numD u)) M) := by
  simp [-e_len, e_bnd, h1, h2, hu, numD]
theorem avg_run (fq ff : MA) (l : List (Option DV)) (M : List O) (z : D) (u j : Int) (r w : D) (h1 : gv l 2 = some (.p z)) (h2 : dSum z = some (.int u)) (h3 : dLen M [.p z] = some (.int j)) (h4 : fq [.int u, .int j] = some (.ok r)) (h5 : ff [r] = some (.ok w)) :
    mCallA 1 ff (aCons (mCallA 2 fq (aCons (mCB (g1 dSum) (aCons (mVar 2) aNil)) (aCons (mCB dLen (aCons (mVar 2) aNil)) aNil))) aNil) ⟨l, M⟩ = some (.ok (.p w) M) := by
  simp [-e_len, e_bnd, h1, h2, h3, h4, h5]
theorem zero_run (l : List (Option DV)) (M : List O) (z : D) (j : Int) (h1 : gv l 2 = some (.p z)) (h3 : dLen M [.p z] = some (.int j)) : mBin dEq (mCB dLen (aCons (mVar 2) aNil)) (mC (.int 0)) ⟨l, M⟩ = some (.ok (.p (.bl (decide (j = 0)))) M) := by
  simp [-e_len, e_bnd, h1, h3]
theorem ertup (a b : String) (l : List (Option DV)) (M : List O) : disp .tup (aCons (mC (.str (PySem.Str.ofString a))) (aCons (mC (.str (PySem.Str.ofString b))) aNil)) ⟨l, M⟩ = some (.ok (.p (.tup [.str (Str.ofString a), .str (Str.ofString b)])) M) := by
  simp [e_bnd]
theorem lfin1_run (k : String) (hk : k ∈ N5) (ns : List Int) (hl : ns.length ≤ 1000) (x1 : Option DV) : ∃ s, lfin1 (LC k x1 (Dis ns)) = some (.rt (.p (core k ns)), s) := by
  simp only [N5, List.mem_cons, List.not_mem_nil, or_false] at hk
  rcases hk with rfl | rfl | rfl | rfl | rfl
  · exact ⟨_, step_yes "SUM" x1 _ _ _ _ _ (ret_run _ _ _ [] (fit_sum m_l_fits _ _ _ _ _ rfl (e_sumI ns) (fits_spec ns.sum)))⟩
  · unfold lfin1
    rw [step_no _ _ (by decide)]
    exact ⟨_, step_yes "COUNT" x1 _ _ _ _ _ (ret_run _ _ _ [] (cnt_run _ _ _ _ _ rfl (len_dis ns []) (mul_eq (mulKl _))))⟩
  · unfold lfin1
    rw [step_no _ _ (by decide)]
    unfold lfin2
    rw [step_no _ _ (by decide)]
    have hz := zero_run (LC "AVG" x1 (Dis ns)).l [] (Dis ns) _ rfl (len_dis ns [])
    cases ns with
    | nil =>
      refine ⟨LC "AVG" x1 (Dis []), step_yes "AVG" x1 _ _ _ _ _ ?_⟩
      rw [e_seq, sif_t _ _ _ _ [] hz, ret_run _ _ _ [] (ertup "error" "zero" _ _)]
      rfl
    | cons n r =>
      have hl0 : (0 : Int) < ((n :: r).length : Int) := by simp
      have hd : decide (((n :: r).length : Int) = 0) = false := decide_eq_false (by omega)
      rw [hd] at hz
      have q1 := quot_spec (n :: r).sum ((n :: r).length : Int) (by omega) (by omega) (by omega)
      have q0 : quo (n :: r).sum ((n :: r).length : Int) = rnd (n :: r).sum ((n :: r).length : Int) := by unfold quo; rw [if_neg (by omega)]
      rw [q0] at q1
      have hc : core "AVG" (n :: r) = nv (rnd (n :: r).sum ((n :: r).length : Int)) := rfl
      rw [hc]
      refine ⟨LC "AVG" x1 (Dis (n :: r)), step_yes "AVG" x1 _ _ _ _ _ ?_⟩
      rw [seq_nx _ _ _ (LC "AVG" x1 (Dis (n :: r))) (by rw [sif_f _ _ _ _ [] hz]; rfl)]
      exact ret_run _ _ _ [] (avg_run m_l_quotient m_l_fits _ _ _ _ _ _ _ rfl (e_sumI (n :: r)) (len_dis _ []) q1 (fits_spec _))
  · unfold lfin1
    rw [step_no _ _ (by decide)]
    unfold lfin2
    rw [step_no _ _ (by decide)]
    unfold lfin3
    rw [step_no _ _ (by decide)]
    exact lfin4_run "MIN" (.inl rfl) ns hl x1
  · unfold lfin1
    rw [step_no _ _ (by decide)]
    unfold lfin2
    rw [step_no _ _ (by decide)]
    unfold lfin3
    rw [step_no _ _ (by decide)]
    exact lfin4_run "MAX" (.inr rfl) ns hl x1
theorem in_var (j : Nat) (l : List (Option DV)) (M : List O) (d z : D) (b : Bool) (h : gv l j = some (.p z)) (hi : inD d z = some b) : mBin dIn (mC d) (mVar j) ⟨l, M⟩ = some (.ok (.p (.bl b)) M) := by
  simp [e_bnd, h, hi]
theorem counted_spec (k : String) (hk : k ∈ N5) (as : List Arg) (h : AsOk as) : m_l_counted [.str (Str.ofString k), encAs as] = some (.ok ((numRO k (nums as)).getD (er "value"))) := by
  have hn := numbers_spec as h
  have hl := nums_len h
  generalize nums as = os at *
  have main : ∃ s, lfin0 (LC k (some (.p (encAs as))) (En.en os)) = some (.rt (.p ((numRO k os).getD (er "value"))), s) := by
    have hin : inD .non (En.en os) = some (decide (none ∈ os)) := (inD_en (α := Option Int) none os (by decide)).trans (by congr)
    unfold lfin0 numRO
    by_cases hh : none ∈ os
    · rw [if_pos hh]
      rw [decide_eq_true hh] at hin
      refine ⟨LC k (some (.p (encAs as))) (En.en os), ?_⟩
      rw [e_seq, sif_t _ _ _ _ [] (in_var 2 _ _ _ _ _ rfl hin), ret_run _ _ _ [] (ertup "error" "value" _ _)]
      rfl
    · rw [if_neg hh, Option.getD_some]
      obtain ⟨ns, rfl⟩ := all_some hh
      rw [tri]
      rw [decide_eq_false hh] at hin
      rw [en_ints] at hin ⊢
      rw [seq_nx _ _ _ (LC k (some (.p (encAs as))) (Dis ns)) (by rw [sif_f _ _ _ _ [] (in_var 2 _ _ _ _ _ rfl hin)]; rfl)]
      exact lfin1_run k hk ns (by simp at hl; omega) _
  obtain ⟨s, hs⟩ := main
  refine runA_of (s := s) ?_
  rw [counted_eq]
  have hc : mCallB 1 m_l_numbers (aCons (mVar 1) aNil) ⟨[some (.p (.str (Str.ofString k))), some (.p (encAs as)), none], []⟩ = some (.ok (.p (En.en os)) []) := by
    generalize m_l_numbers = f at *
    simp [e_bnd, hn]
  have := seq_asg (mCallB 1 m_l_numbers (aCons (mVar 1) aNil)) (gN 2) lfin0 ⟨[some (.p (.str (Str.ofString k))), some (.p (encAs as)), none], []⟩ (LC k (some (.p (encAs as))) (En.en os)) _ [] hc rfl
  exact this.trans hs
end Law
namespace Law
open PySem L2 DL
/-! single values -/
theorem at_no (i : Nat) (k j : String) (h : k ≠ j) (l : List (Option DV)) (M : List O) (hg : gv l i = some (.p (.str (Str.ofString k)))) (A K : SM) : sSeq (sIf (mBin dEq (mVar i) (mC (.str (Str.ofString j)))) A sNil) K ⟨l, M⟩ = K ⟨l, M⟩ := by
  rw [seq_nx _ _ _ ⟨l, M⟩ (by rw [sif_f _ _ _ _ M (by simp [e_bnd, h, hg])]; rfl)]
theorem at_yes (i : Nat) (k : String) (l : List (Option DV)) (M : List O) (hg : gv l i = some (.p (.str (Str.ofString k)))) (A K : SM) (v : DV) (s : S) (h : A ⟨l, M⟩ = some (.rt v, s)) : sSeq (sIf (mBin dEq (mVar i) (mC (.str (Str.ofString k)))) A sNil) K ⟨l, M⟩ = some (.rt v, s) := by
  rw [e_seq, sif_t _ _ _ _ M (by simp [e_bnd, hg]), h]
theorem if_no (c : EM) (l : List (Option DV)) (M : List O) (h : c ⟨l, M⟩ = some (.ok (.p (.bl false)) M)) (A K : SM) : sSeq (sIf c A sNil) K ⟨l, M⟩ = K ⟨l, M⟩ := by
  rw [seq_nx _ _ _ ⟨l, M⟩ (by rw [sif_f _ _ _ _ M h]; rfl)]
theorem if_yes (c : EM) (l : List (Option DV)) (M : List O) (h : c ⟨l, M⟩ = some (.ok (.p (.bl true)) M)) (A K : SM) (v : DV) (s : S) (hA : A ⟨l, M⟩ = some (.rt v, s)) : sSeq (sIf c A sNil) K ⟨l, M⟩ = some (.rt v, s) := by
  rw [e_seq, sif_t _ _ _ _ M h, hA]
theorem cA1 (f : MA) (me : EM) (l : List (Option DV)) (M : List O) (x r : D) (h1 : me ⟨l, M⟩ = some (.ok (.p x) M)) (e : f [x] = some (.ok r)) : mCallA 1 f (aCons me aNil) ⟨l, M⟩ = some (.ok (.p r) M) := by
  simp [e_bnd, h1, e]
theorem cA2 (f : MA) (me mf : EM) (l : List (Option DV)) (M : List O) (x y r : D) (h1 : me ⟨l, M⟩ = some (.ok (.p x) M)) (h2 : mf ⟨l, M⟩ = some (.ok (.p y) M)) (e : f [x, y] = some (.ok r)) : mCallA 2 f (aCons me (aCons mf aNil)) ⟨l, M⟩ = some (.ok (.p r) M) := by
  simp [e_bnd, h1, h2, e]
theorem var_run (i : Nat) (l : List (Option DV)) (M : List O) (d : DV) (h : gv l i = some d) : mVar i ⟨l, M⟩ = some (.ok d M) := by rw [e_var, h]
theorem tup2 (k : String) (me : EM) (l : List (Option DV)) (M : List O) (x : D) (h : me ⟨l, M⟩ = some (.ok (.p x) M)) : disp .tup (aCons (mC (.str (PySem.Str.ofString k))) (aCons me aNil)) ⟨l, M⟩ = some (.ok (.p (.tup [.str (Str.ofString k), x])) M) := by
  simp [e_bnd, h]
theorem txt_len60 (v : Vl) (h : Vok v) : (txtIn v).length ≤ 60 := by
  cases v with
  | non => simp [txtIn]
  | num n =>
    have a : (sgn n).length ≤ 1 := by unfold sgn; split <;> simp
    have b := decs_len 11 (n.natAbs / 10000) (by have := h.1; have := h.2; omega)
    have c := rstrip_len 48 (pad4L (n.natAbs % 10000))
    have d : (pad4L (n.natAbs % 10000)).length = 4 := rfl
    show (sgn n ++ shown n.natAbs).length ≤ 60
    unfold shown
    rw [List.length_append, List.length_append]
    split
    · simp; omega
    · simp; omega
  | text l => have : l.length ≤ 60 := h.1; show l.length ≤ 60; omega
  | bool b => cases b <;> simp [txtIn]
  | err k => have : k.toList.length ≤ 10 := h; show (k.toList.map Char.toNat).length ≤ 60; simp; omega
def wholeO (v : Vl) : Option Int := match numO v with
  | some n => if n % 10000 = 0 then some (n / 10000) else none
  | none => none
theorem dMod_eq {i j : Int} (h : 0 < j) : dMod (.int i) (.int j) = some (.int (i % j)) := if_pos h
theorem whole_run (f : MA) (z : D) (n : Int) (h : f [z] = some (.ok (.int n))) : runA 2 (sSeq (sAsg (mCallA 1 f (aCons (mVar 0) aNil)) (gN 1))
  (sSeq (sIf (mOr (mIsN (mVar 1)) (mBin dNe (mBin dMod (mVar 1) (mC k_UNIT)) (mC (.int 0)))) (sRet (mC .non)) sNil)
  (sRet (mBin dDiv (mVar 1) (mC k_UNIT))))) [z] = some (.ok (En.en (if n % 10000 = 0 then some (n / 10000) else none : Option Int))) := by
  have e1 := dMod_eq (i := n) (j := 10000) (by decide)
  have e2 := div_eq (i := n) (j := 10000) (by decide)
  apply wpA.eq
  unfold k_UNIT
  by_cases q : n % 10000 = 0
  · rw [if_pos q]
    simp [h, e1, e2, q, en_some_i]
  · rw [if_neg q]
    simp [h, e1, e2, q, en_none_i]
theorem whole_non (f : MA) (z : D) (h : f [z] = some (.ok .non)) : runA 2 (sSeq (sAsg (mCallA 1 f (aCons (mVar 0) aNil)) (gN 1))
  (sSeq (sIf (mOr (mIsN (mVar 1)) (mBin dNe (mBin dMod (mVar 1) (mC k_UNIT)) (mC (.int 0)))) (sRet (mC .non)) sNil)
  (sRet (mBin dDiv (mVar 1) (mC k_UNIT))))) [z] = some (.ok .non) := by
  apply wpA.eq
  simp [h]
theorem whole_in_spec (v : Vl) : m_whole_in [enc v] = some (.ok (En.en (wholeO v))) := by
  have e := number_in_spec v
  rw [numIn_en] at e
  unfold wholeO
  cases hn : numO v with
  | none => rw [hn] at e; exact whole_non m_number_in (enc v) e
  | some n => rw [hn] at e; exact whole_run m_number_in (enc v) n e
theorem mulR10 (i : Int) : dMul (.int i) (.int 10000) = some (.int (i * 10000)) := mul_eq (mulK i)
theorem integer_run (f : MA) (z : D) (n : Int) (h : f [z] = some (.ok (.int n))) : runA 2 (sSeq (sAsg (mCallA 1 f (aCons (mVar 0) aNil)) (gN 1))
  (sSeq (sIf (mOr (mIsN (mVar 1)) (mBin dNe (mBin dMul (mBin dDiv (mVar 1) (mC (.int 10000))) (mC (.int 10000))) (mVar 1))) (sRet (mC .non)) sNil)
  (sRet (mBin dDiv (mVar 1) (mC (.int 10000)))))) [z] = some (.ok (En.en (if n % 10000 = 0 then some (n / 10000) else none : Option Int))) := by
  have e2 := div_eq (i := n) (j := 10000) (by decide)
  have e3 := mulR10 (n / 10000)
  apply wpA.eq
  by_cases q : n % 10000 = 0
  · rw [if_pos q]
    have q2 : n / 10000 * 10000 = n := by omega
    rw [q2] at e3
    generalize n / 10000 = w at *
    simp [h, e2, e3, en_some_i]
  · rw [if_neg q]
    have q2 : n / 10000 * 10000 ≠ n := by omega
    generalize n / 10000 * 10000 = u at *
    generalize n / 10000 = w at *
    simp [h, e2, e3, q2, en_none_i]
theorem integer_non (f : MA) (z : D) (h : f [z] = some (.ok .non)) : runA 2 (sSeq (sAsg (mCallA 1 f (aCons (mVar 0) aNil)) (gN 1))
  (sSeq (sIf (mOr (mIsN (mVar 1)) (mBin dNe (mBin dMul (mBin dDiv (mVar 1) (mC (.int 10000))) (mC (.int 10000))) (mVar 1))) (sRet (mC .non)) sNil)
  (sRet (mBin dDiv (mVar 1) (mC (.int 10000)))))) [z] = some (.ok .non) := by
  apply wpA.eq
  simp [h]
theorem integer_spec (v : Vl) : m_l_integer [enc v] = some (.ok (En.en (wholeO v))) := by
  have e := as_number_spec v
  rw [numIn_en] at e
  unfold wholeO
  cases hn : numO v with
  | none => rw [hn] at e; exact integer_non m_l_as_number (enc v) e
  | some n => rw [hn] at e; exact integer_run m_l_as_number (enc v) n e
/-! NOT, LEN, ABS, LEFT of the program -/
def notO (v : Vl) : Option D := (truO v).map fun b => tD (!b)
def lenO' (v : Vl) : Option D := some (numD (10000 * (txtIn v).length))
def absO (v : Vl) : Option D := (numO v).map fun n => numD (if n < 0 then -n else n)
def leftO (a b : Vl) : Option D := match wholeO b with
  | some c => if c < 0 then none else some (.tup [.str (Str.ofString "text"), .str (tx ((txtIn a).take c.toNat))])
  | none => none
theorem not_run (f : MA) (z : D) (o : Option Bool) (h : f [z] = some (.ok (En.en o))) : runA 2 (sSeq (sAsg (mCallA 1 f (aCons (mVar 0) aNil)) (gN 1))
  (sRet (mIf (mIsN (mVar 1)) (mC k_WRONG_VALUE) (disp .tup (aCons (mC (.str (PySem.Str.ofString "bool"))) (aCons (mNot (mVar 1)) aNil)))))) [z] = some (.ok ((o.map fun b => tD (!b)).getD k_WRONG_VALUE)) := by
  apply wpA.eq
  cases o with
  | none => rw [en_none_b] at h; simp [h]
  | some b => rw [en_some_b] at h; cases b <;> simp [h, tD]
theorem not_spec (v : Vl) : m_not_of [enc v] = some (.ok ((notO v).getD k_WRONG_VALUE)) := not_run m_truth_in (enc v) _ (truth_in_spec v)
theorem length_run (f : MA) (z w : D) (j : Int) (h : f [z] = some (.ok w)) (h2 : dLen [] [.p w] = some (.int j)) : runA 1 (sRet (disp .tup (aCons (mC (.str (PySem.Str.ofString "num"))) (aCons (mBin dMul (mCB dLen (aCons (mCallA 1 f (aCons (mVar 0) aNil)) aNil)) (mC k_UNIT)) aNil)))) [z] = some (.ok (numD (10000 * j))) := by
  have e : dMul (.int j) (.int 10000) = some (.int (j * 10000)) := mul_eq (mulK j)
  rw [Int.mul_comm 10000 j]
  generalize j * 10000 = u at *
  apply wpA.eq
  unfold k_UNIT
  simp [-e_len, h, h2, e, numD]
theorem len_tx (l : List Nat) (h : l.length ≤ 1000000) (M : List O) : dLen M [.p (.str (tx l))] = some (.int (l.length : Nat)) := by
  rw [e_len, e_lenp, e_lens, tx_len, if_pos h]; rfl
theorem length_spec (v : Vl) (hv : Vok v) : m_length_of [enc v] = some (.ok (numD (10000 * (txtIn v).length))) := length_run m_text_in (enc v) _ _ (text_in_spec v hv) (len_tx _ (by have := txt_len60 v hv; omega) [])
theorem nv_small {n : Int} (h : Small n) : nv n = numD n := if_pos h
theorem size_run (f fn : MA) (z : D) (n : Int) (w : D) (h : f [z] = some (.ok (.int n))) (h2 : fn [.int (if n < 0 then -n else n)] = some (.ok w)) : runA 2 (sSeq (sAsg (mCallA 1 f (aCons (mVar 0) aNil)) (gN 1))
  (sRet (mIf (mIsN (mVar 1)) (mC k_WRONG_VALUE) (mCallA 1 fn (aCons (mCB (g1 dAbs) (aCons (mVar 1) aNil)) aNil))))) [z] = some (.ok w) := by
  apply wpA.eq
  simp [h, h2]
theorem size_non (f fn : MA) (z : D) (h : f [z] = some (.ok .non)) : runA 2 (sSeq (sAsg (mCallA 1 f (aCons (mVar 0) aNil)) (gN 1))
  (sRet (mIf (mIsN (mVar 1)) (mC k_WRONG_VALUE) (mCallA 1 fn (aCons (mCB (g1 dAbs) (aCons (mVar 1) aNil)) aNil))))) [z] = some (.ok k_WRONG_VALUE) := by
  apply wpA.eq
  simp [h]
theorem numO_small {v : Vl} (hv : Vok v) {n : Int} (h : numO v = some n) : Small n := by
  cases v with
  | non => cases h; unfold Small; omega
  | num m => cases h; exact hv
  | _ => cases h
theorem abs_small {n : Int} (h : Small n) : Small (if n < 0 then -n else n) := by
  have := h.1; have := h.2
  unfold Small; split <;> omega
theorem size_spec (v : Vl) (hv : Vok v) : m_size_of [enc v] = some (.ok ((absO v).getD k_WRONG_VALUE)) := by
  have e := number_in_spec v
  rw [numIn_en] at e
  unfold absO
  cases hn : numO v with
  | none => rw [hn] at e; exact size_non m_number_in m_number_value (enc v) e
  | some n =>
    rw [hn] at e
    have h2 := number_value_spec (if n < 0 then -n else n)
    rw [nv_small (abs_small (numO_small hv hn))] at h2
    exact size_run m_number_in m_number_value (enc v) n _ e h2
theorem left_run (f ft fv : MA) (z y : D) (c : Int) (x : Str) (u : Str) (w : D) (h : f [y] = some (.ok (.int c))) (hc : ¬ c < 0) (h2 : ft [z] = some (.ok (.str x))) (h3 : slE (.str x) none (some c) = some (.str u)) (h4 : fv [.str u] = some (.ok w)) : runA 3 (sSeq (sAsg (mCallA 1 f (aCons (mVar 1) aNil)) (gN 2))
  (sSeq (sIf (mOr (mIsN (mVar 2)) (mBin dLt (mVar 2) (mC (.int 0)))) (sRet (mC k_WRONG_VALUE)) sNil)
  (sRet (mCallA 1 fv (aCons (mSlE (mCallA 1 ft (aCons (mVar 0) aNil)) pNone (pSome (mVar 2))) aNil))))) [z, y] = some (.ok w) := by
  apply wpA.eq
  simp [-e_slS, h, hc, h2, h3, h4]
  all_goals omega
theorem left_no (f ft fv : MA) (z y : D) (o : Option Int) (h : f [y] = some (.ok (En.en o))) (hc : ∀ c, o = some c → c < 0) : runA 3 (sSeq (sAsg (mCallA 1 f (aCons (mVar 1) aNil)) (gN 2))
  (sSeq (sIf (mOr (mIsN (mVar 2)) (mBin dLt (mVar 2) (mC (.int 0)))) (sRet (mC k_WRONG_VALUE)) sNil)
  (sRet (mCallA 1 fv (aCons (mSlE (mCallA 1 ft (aCons (mVar 0) aNil)) pNone (pSome (mVar 2))) aNil))))) [z, y] = some (.ok k_WRONG_VALUE) := by
  apply wpA.eq
  cases o with
  | none => rw [en_none_i] at h; simp [h]
  | some c =>
    have := hc c rfl
    rw [en_some_i] at h; simp [h, this]
theorem sl_take (l : List Nat) (c : Int) (h : 0 ≤ c) (hl : l.length ≤ 1000000) : slE (.str (tx l)) none (some c) = some (.str (tx (l.take c.toNat))) := by
  rw [e_slS, tx_len, if_pos hl, cutS_to _ _ h]
theorem left_spec (a b : Vl) (ha : Vok a) : m_left_of [enc a, enc b] = some (.ok ((leftO a b).getD k_WRONG_VALUE)) := by
  have e := whole_in_spec b
  unfold leftO
  cases hn : wholeO b with
  | none => rw [hn] at e; exact left_no m_whole_in m_text_in m_text_value _ _ none e (by intro c h; cases h)
  | some c =>
    rw [hn] at e
    by_cases hc : c < 0
    · have e2 : ((match (some c : Option Int) with | some c => if c < 0 then none else some (D.tup [.str (Str.ofString "text"), .str (tx ((txtIn a).take c.toNat))]) | none => none)) = none := if_pos hc
      rw [e2]
      exact left_no m_whole_in m_text_in m_text_value _ _ (some c) e (by intro c' h; cases h; exact hc)
    · have e2 : ((match (some c : Option Int) with | some c => if c < 0 then none else some (D.tup [.str (Str.ofString "text"), .str (tx ((txtIn a).take c.toNat))]) | none => none)) = some (D.tup [.str (Str.ofString "text"), .str (tx ((txtIn a).take c.toNat))]) := if_neg hc
      rw [e2]
      have hl := txt_len60 a ha
      have hl2 : ((txtIn a).take c.toNat).length ≤ 60 := Nat.le_trans (List.length_take_le' _ _) hl
      have ht := text_value_spec ((txtIn a).take c.toNat) (by omega)
      have e3 : tv ((txtIn a).take c.toNat) = D.tup [.str (Str.ofString "text"), .str (tx ((txtIn a).take c.toNat))] := if_neg (by omega)
      rw [e3] at ht
      exact left_run m_whole_in m_text_in m_text_value _ _ c _ _ _ e hc (text_in_spec a ha) (sl_take _ c (by omega) (by omega)) ht
end Law
namespace Law
open PySem L2 DL
/-! ROUND -/
theorem q_le (x s m : Int) (hs : 0 < s) (hx : 0 ≤ x) (h : x ≤ m * s) : 0 ≤ (s + 2 * x) / (2 * s) ∧ (s + 2 * x) / (2 * s) ≤ m := by
  refine ⟨Int.ediv_nonneg (by omega) (by omega), ?_⟩
  have : (s + 2 * x) / (2 * s) < m + 1 := by
    refine Int.ediv_lt_of_lt_mul (by omega) ?_
    have e : (m + 1) * (2 * s) = 2 * (m * s) + 2 * s := by rw [Int.add_mul, Int.one_mul, Int.mul_left_comm]
    omega
  omega
theorem rnd_small (n s m : Int) (hs : 0 < s) (hm : m * s = 1000000000000000) (hn : Small n) : Small (rnd n s * s) := by
  have h1 := hn.1; have h2 := hn.2
  have key : ∀ q : Int, 0 ≤ q → q ≤ m → 0 ≤ q * s ∧ q * s ≤ 1000000000000000 := fun q a b => ⟨Int.mul_nonneg a (by omega), by rw [← hm]; exact Int.mul_le_mul_of_nonneg_right b (by omega)⟩
  unfold rnd Small
  by_cases h : n < 0
  · rw [if_pos h]
    obtain ⟨a, b⟩ := q_le (-n) s m hs (by omega) (by omega)
    have e : s - 2 * n = s + 2 * -n := by omega
    rw [e, Int.neg_mul]
    have := key _ a b
    omega
  · rw [if_neg h]
    obtain ⟨a, b⟩ := q_le n s m hs (by omega) (by omega)
    have := key _ a b
    omega
def stp (p : Int) : Int := 10 ^ (4 - p).toNat
theorem stp_ok (p : Int) (h : -6 ≤ p ∧ p ≤ 4) : 0 < stp p ∧ stp p ≤ 10000000000 ∧ ∃ m, m * stp p = 1000000000000000 := by
  obtain ⟨k, hk⟩ : ∃ k : Nat, (4 - p).toNat = k := ⟨_, rfl⟩
  have hk10 : k ≤ 10 := by omega
  unfold stp
  rw [hk]
  exact (by decide : ∀ k : Nat, k ≤ 10 → 0 < (10 : Int) ^ k ∧ (10 : Int) ^ k ≤ 10000000000 ∧ (10 : Int) ^ (15 - k) * (10 : Int) ^ k = 1000000000000000) k hk10 |> fun ⟨a, b, c⟩ => ⟨a, b, _, c⟩
theorem pow_step (j : Nat) (l : List (Option DV)) (M : List O) (s : Int) (h : gv l j = some (.p (.int s))) : sAsg (mBin dMul (mVar j) (mC (.int 10))) (gN j) ⟨l, M⟩ = some (.nx, ⟨l.set j (some (.p (.int (s * 10)))), M⟩) := by
  have e : dMul (.int s) (.int 10) = some (.int (s * 10)) := mul_eq (mulOkR _ _ (by decide) (by decide))
  generalize s * 10 = u at *
  simp [e_bnd, e_lift, h, e]
theorem pow_loop (i j : Nat) (hij : i ≠ j) : ∀ (k : Nat) (lo : Int) (l : List (Option DV)) (M : List O) (s : Int), j < l.length → gv l j = some (.p (.int s)) → ∃ l', loopS (gN i) (sAsg (mBin dMul (mVar j) (mC (.int 10))) (gN j)) (DL.intsFrom lo k) ⟨l, M⟩ = some (.nx, ⟨l', M⟩) ∧ gv l' j = some (.p (.int (s * 10 ^ k))) ∧ (∀ u, u ≠ i → u ≠ j → gv l' u = gv l u)
  | 0, lo, l, M, s, _, h => ⟨l, rfl, by rw [Int.pow_zero, Int.mul_one]; exact h, fun _ _ _ => rfl⟩
  | k + 1, lo, l, M, s, hj, h => by
    have h1 : gv (l.set i (some (.p (.int lo)))) j = some (.p (.int s)) := by rw [gv_set, if_neg hij]; exact h
    obtain ⟨l', e, g1, g2⟩ := pow_loop i j hij k (lo + 1) ((l.set i (some (.p (.int lo)))).set j (some (.p (.int (s * 10))))) M (s * 10) (by simpa using hj) (by rw [gv_set, if_pos rfl, if_pos (by simpa using hj)])
    refine ⟨l', ?_, by rw [g1, Int.pow_succ', Int.mul_assoc], fun u h1 h2 => by rw [g2 u h1 h2, gv_set, if_neg (Ne.symm h2), gv_set, if_neg (Ne.symm h1)]⟩
    rw [intsS, loop_step _ _ _ _ _ ⟨l.set i (some (.p (.int lo))), M⟩ _ rfl (pow_step j _ M s h1)]
    exact e
theorem sub_run (c : Int) (d : D) (i : Nat) (l : List (Option DV)) (M : List O) (p : Int) (hd : d = .int c) (h : gv l i = some (.p (.int p))) (hp : -6 ≤ p ∧ p ≤ 4) (hc : c = 4) : mRng rng1D (aCons (mBin dSub (mC d) (mVar i)) aNil) ⟨l, M⟩ = some (.ok (DL.intsFrom 0 (4 - p).toNat) M) := by
  subst hc hd
  have e : dSub (.int 4) (.int p) = some (.int (4 - p)) := rfl
  have g := rng_ok (i := 4 - p) (by omega) (by omega)
  generalize 4 - p = u at *
  simp [e_bnd, h, e, g]
theorem prod_run (fr : MA) (me mf : EM) (l : List (Option DV)) (M : List O) (x y r u : D) (h1 : me ⟨l, M⟩ = some (.ok (.p x) M)) (h2 : mf ⟨l, M⟩ = some (.ok (.p y) M)) (e : fr [x, y] = some (.ok r)) (hm : dMul r y = some u) : mBin dMul (mCallA 2 fr (aCons me (aCons mf aNil))) mf ⟨l, M⟩ = some (.ok (.p u) M) := by
  have := cA2 fr me mf l M x y r h1 h2 e
  rw [e_bin, e_bnd, this]
  simp [e_bnd, h2, hm]
theorem places_spec (n p : Int) (hp : -6 ≤ p ∧ p ≤ 4) (hn : Small n) : m_to_places [.int n, .int p] = some (.ok (numD (rnd n (stp p) * stp p))) := by
  obtain ⟨s0, s1, m, hm⟩ := stp_ok p hp
  obtain ⟨l', e, g1, g2⟩ := pow_loop 3 2 (by decide) (4 - p).toNat 0 [some (.p (.int n)), some (.p (.int p)), some (.p (.int 1)), none] [] 1 (by simp) rfl
  rw [Int.one_mul] at g1
  have g1 : gv l' 2 = some (.p (.int (stp p))) := g1
  have g0 := g2 0 (by decide) (by decide)
  have hr := rounded_spec n (stp p) s0 (by omega)
  have hv := number_value_spec (rnd n (stp p) * stp p)
  rw [nv_small (rnd_small n _ m s0 hm hn)] at hv
  have hmul : dMul (.int (rnd n (stp p))) (.int (stp p)) = some (.int (rnd n (stp p) * stp p)) := mul_eq (mulOkR _ _ (by omega) (by omega))
  generalize rnd n (stp p) * stp p = w at *
  generalize rnd n (stp p) = r at *
  generalize stp p = s at *
  refine runA_of (s := ⟨l', []⟩) ?_
  unfold b_to_places
  have q1 := seq_asg (mC (.int 1)) (gN 2) (sSeq (sFor (mRng rng1D (aCons (mBin dSub (mC k_PLACES) (mVar 1)) aNil)) (gN 3) (sAsg (mBin dMul (mVar 2) (mC (.int 10))) (gN 2)))
  (sRet (mCallA 1 m_number_value (aCons (mBin dMul (mCallA 2 m_rounded (aCons (mVar 0) (aCons (mVar 2) aNil))) (mVar 2)) aNil)))) ⟨slotsOf 4 ([D.int n, .int p].map .p), []⟩ ⟨[some (.p (.int n)), some (.p (.int p)), some (.p (.int 1)), none], []⟩ (.p (.int 1)) [] rfl rfl
  rw [q1]
  rw [seq_nx _ _ _ ⟨l', []⟩ (by rw [e_for, e_lift, sub_run 4 k_PLACES 1 _ _ p rfl rfl hp rfl]; exact e)]
  exact ret_run _ _ _ [] (cA1 m_number_value _ _ _ _ _ (prod_run m_rounded (mVar 0) (mVar 2) l' [] _ _ _ _ (var_run 0 _ _ _ g0) (var_run 2 _ _ _ g1) hr hmul) hv)
def rndO (a b : Vl) : Option D := match numO a, wholeO b with
  | some n, some p => if -6 ≤ p ∧ p ≤ 4 then some (numD (rnd n (stp p) * stp p)) else none
  | _, _ => none
noncomputable def rcond : EM := (mOr (mIsN (mVar 2)) (mOr (mIsN (mVar 3)) (mNot (mChain dLe dLe (mC k_LEAST_PLACES) (mVar 3) (mC k_MOST_PLACES)))))
theorem rcond_run (l : List (Option DV)) (M : List O) (o q : Option Int) (h2 : gv l 2 = some (.p (En.en o))) (h3 : gv l 3 = some (.p (En.en q))) : rcond ⟨l, M⟩ = some (.ok (.p (.bl (match o, q with
    | some n, some p => decide (¬ (-6 ≤ p ∧ p ≤ 4))
    | _, _ => true))) M) := by
  cases o with
  | none => rw [en_none_i] at h2; simp [rcond, e_bnd, h2]
  | some n =>
    cases q with
    | none => rw [en_none_i] at h3; rw [en_some_i] at h2; simp [rcond, e_bnd, h2, h3]
    | some p =>
      rw [en_some_i] at h2 h3
      by_cases a : -6 ≤ p <;> by_cases b : p ≤ 4 <;> simp [rcond, e_bnd, h2, h3, k_LEAST_PLACES, k_MOST_PLACES, a, b]
theorem round_spec (a b : Vl) (ha : Vok a) : m_round_of [enc a, enc b] = some (.ok ((rndO a b).getD k_WRONG_VALUE)) := by
  have e1 := number_in_spec a
  rw [numIn_en] at e1
  have e2 := whole_in_spec b
  have hs := @numO_small a ha
  have q1 := seq_asg (mCallA 1 m_number_in (aCons (mVar 0) aNil)) (gN 2) (sSeq (sAsg (mCallA 1 m_whole_in (aCons (mVar 1) aNil)) (gN 3))
  (sSeq (sIf rcond (sRet (mC k_WRONG_VALUE)) sNil)
  (sRet (mCallA 2 m_to_places (aCons (mVar 2) (aCons (mVar 3) aNil)))))) ⟨slotsOf 4 ([enc a, enc b].map .p), []⟩ ⟨[some (.p (enc a)), some (.p (enc b)), some (.p (En.en (numO a))), none], []⟩ _ [] (cA1 m_number_in (mVar 0) _ [] (enc a) _ rfl e1) rfl
  have q2 := seq_asg (mCallA 1 m_whole_in (aCons (mVar 1) aNil)) (gN 3)
    (sSeq (sIf rcond (sRet (mC k_WRONG_VALUE)) sNil)
  (sRet (mCallA 2 m_to_places (aCons (mVar 2) (aCons (mVar 3) aNil))))) ⟨[some (.p (enc a)), some (.p (enc b)), some (.p (En.en (numO a))), none], []⟩ ⟨[some (.p (enc a)), some (.p (enc b)), some (.p (En.en (numO a))), some (.p (En.en (wholeO b)))], []⟩ _ [] (cA1 m_whole_in (mVar 1) _ [] (enc b) _ rfl e2) rfl
  have hc := rcond_run [some (.p (enc a)), some (.p (enc b)), some (.p (En.en (numO a))), some (.p (En.en (wholeO b)))] [] (numO a) (wholeO b) rfl rfl
  unfold rndO
  refine runA_of (s := ⟨[some (.p (enc a)), some (.p (enc b)), some (.p (En.en (numO a))), some (.p (En.en (wholeO b)))], []⟩) ((q1.trans q2).trans ?_)
  cases hn : numO a with
  | none =>
    rw [hn] at hc
    exact if_yes _ _ _ hc _ _ _ _ (ret_run _ _ _ [] rfl)
  | some n =>
    rw [hn] at hc
    cases hw : wholeO b with
    | none =>
      rw [hw] at hc
      exact if_yes _ _ _ hc _ _ _ _ (ret_run _ _ _ [] rfl)
    | some p =>
      rw [hw] at hc
      by_cases hp : -6 ≤ p ∧ p ≤ 4
      · have hc' : (decide ¬(-6 ≤ p ∧ p ≤ 4)) = false := decide_eq_false (fun h => h hp)
        dsimp only at hc
        rw [hc'] at hc
        dsimp only
        rw [if_pos hp, if_no _ _ _ hc]
        exact ret_run _ _ _ [] (cA2 m_to_places (mVar 2) (mVar 3) _ [] _ _ _ rfl rfl (places_spec n p hp (hs hn)))
      · have hc' : (decide ¬(-6 ≤ p ∧ p ≤ 4)) = true := decide_eq_true hp
        dsimp only at hc
        rw [hc'] at hc
        dsimp only
        rw [if_neg hp]
        exact if_yes _ _ _ hc _ _ _ _ (ret_run _ _ _ [] rfl)
end Law
namespace Law
open PySem L2 DL
/-! the law's own single functions -/
abbrev S8 (k : String) (z : D) (x2 x3 x4 x5 x6 x7 : Option DV) : S := ⟨[some (.p (.str (Str.ofString k))), some (.p z), x2, x3, x4, x5, x6, x7], []⟩
theorem ix_run (i : Nat) (j : Int) (l : List (Option DV)) (M : List O) (xs : List D) (x : D) (h : gv l i = some (.p (.lst xs))) (hx : atI xs j = some x) : mIx (mVar i) (mC (.int j)) ⟨l, M⟩ = some (.ok (.p x) M) := by
  simp [e_bnd, h, hx]
theorem single_0 (k : String) (a : Vl) (r : List Vl) : m_l_single [.str (Str.ofString k), .lst ((a :: r).map enc)] = runA 8 b_l_single [.str (Str.ofString k), .lst ((a :: r).map enc)] := rfl
theorem single_s (k : String) (a : Vl) (r : List Vl) : b_l_single (S8 k (.lst ((a :: r).map enc)) none none none none none none) = b_l_single_1 (S8 k (.lst ((a :: r).map enc)) (some (.p (enc a))) none none none none none) :=
  seq_asg (mIx (mVar 1) (mC (.int 0))) (gN 2) b_l_single_1 _ (S8 k (.lst ((a :: r).map enc)) (some (.p (enc a))) none none none none none) _ [] (ix_run 1 0 _ [] _ (enc a) rfl (atI0 _ _)) rfl
theorem tB (b : EM) (l : List (Option DV)) (M : List O) (u : Bool) (h : b ⟨l, M⟩ = some (.ok (.p (.bl u)) M)) : disp .tup (aCons (mC (.str (PySem.Str.ofString "bool"))) (aCons b aNil)) ⟨l, M⟩ = some (.ok (.p (tD u)) M) := tup2 "bool" b l M _ h
theorem l_not (a : Vl) (r : List Vl) : m_l_single [.str (Str.ofString "NOT"), .lst ((a :: r).map enc)] = some (.ok ((notO a).getD (er "value"))) := by
  refine runA_of (s := S8 "NOT" (.lst ((a :: r).map enc)) (some (.p (enc a))) none none none none none) ((single_s "NOT" a r).trans (at_yes 0 "NOT" _ [] rfl _ _ _ _ ?_))
  unfold notO
  generalize D.lst ((a :: r).map enc) = z
  cases a with
  | non =>
    refine if_yes _ _ _ ?_ _ _ _ _ (ret_run _ _ _ [] (tB _ _ _ true ?_))
    · simp [e_bnd, enc]
    · simp [e_bnd, enc]
  | bool b =>
    refine if_yes _ _ _ ?_ _ _ _ _ (ret_run _ _ _ [] (tB _ _ _ (!b) ?_))
    · simp [e_bnd, enc]
    · cases b <;> simp [e_bnd, enc]
  | num n =>
    rw [if_no _ _ _ (by simp [e_bnd, enc])]
    exact ret_run _ _ _ [] (ertup "error" "value" _ _)
  | text n =>
    rw [if_no _ _ _ (by simp [e_bnd, enc])]
    exact ret_run _ _ _ [] (ertup "error" "value" _ _)
  | err n =>
    rw [if_no _ _ _ (by simp [e_bnd, enc])]
    exact ret_run _ _ _ [] (ertup "error" "value" _ _)
theorem lenm_run (f : MA) (i : Nat) (l : List (Option DV)) (M : List O) (x w : D) (j u : Int) (h1 : gv l i = some (.p x)) (h : f [x] = some (.ok w)) (h2 : dLen M [.p w] = some (.int j)) (hm : dMul (.int 10000) (.int j) = some (.int u)) : mBin dMul (mC (.int 10000)) (mCB dLen (aCons (mCallA 1 f (aCons (mVar i) aNil)) aNil)) ⟨l, M⟩ = some (.ok (.p (.int u)) M) := by
  simp [-e_len, e_bnd, h1, h, h2, hm]
theorem l_len (a : Vl) (ha : Vok a) (r : List Vl) : m_l_single [.str (Str.ofString "LEN"), .lst ((a :: r).map enc)] = some (.ok (numD (10000 * (txtIn a).length))) := by
  refine runA_of (s := S8 "LEN" (.lst ((a :: r).map enc)) (some (.p (enc a))) none none none none none) ((single_s "LEN" a r).trans ?_)
  unfold b_l_single_1
  rw [at_no 0 "LEN" "NOT" (by decide) _ _ rfl]
  exact at_yes 0 "LEN" _ [] rfl _ _ _ _ (ret_run _ _ _ [] (tup2 "num" _ _ _ _ (lenm_run m_l_as_text 2 _ _ _ _ _ _ rfl (as_text_spec a ha) (len_tx _ (by have := txt_len60 a ha; omega) []) (mul_eq (mulKl _)))))
theorem to_single_4 (k : String) (h1 : k ≠ "NOT") (h2 : k ≠ "LEN") (h3 : k ≠ "LEFT") (z : D) (x2 x3 x4 x5 x6 x7 : Option DV) : b_l_single_1 (S8 k z x2 x3 x4 x5 x6 x7) = b_l_single_4 (S8 k z x2 x3 x4 x5 x6 x7) := by
  unfold b_l_single_1
  rw [at_no 0 k "NOT" h1 _ _ rfl]
  unfold b_l_single_2
  rw [at_no 0 k "LEN" h2 _ _ rfl]
  unfold b_l_single_3
  rw [at_no 0 k "LEFT" h3 _ _ rfl]
theorem single_5 (k : String) (a : Vl) (z : D) : b_l_single_4 (S8 k z (some (.p (enc a))) none none none none none) = b_l_single_5 (S8 k z (some (.p (enc a))) none (some (.p (En.en (numO a)))) none none none) := by
  have e := as_number_spec a
  rw [numIn_en] at e
  exact seq_asg (mCallA 1 m_l_as_number (aCons (mVar 2) aNil)) (gN 4) b_l_single_5 _ (S8 k z (some (.p (enc a))) none (some (.p (En.en (numO a)))) none none none) _ [] (cA1 m_l_as_number (mVar 2) _ [] (enc a) _ rfl e) rfl
theorem isn_o (i : Nat) (l : List (Option DV)) (M : List O) (o : Option Int) (h : gv l i = some (.p (En.en o))) : mIsN (mVar i) ⟨l, M⟩ = some (.ok (.p (.bl (o == none))) M) := by
  cases o with
  | none => rw [en_none_i] at h; simp [e_bnd, h]
  | some n => rw [en_some_i] at h; simp [e_bnd, h]
theorem abs_run (i : Nat) (l : List (Option DV)) (M : List O) (n : Int) (h : gv l i = some (.p (.int n))) : mCB (g1 dAbs) (aCons (mVar i) aNil) ⟨l, M⟩ = some (.ok (.p (.int (if n < 0 then -n else n))) M) := by
  simp [e_bnd, h]
theorem l_abs (a : Vl) (r : List Vl) : m_l_single [.str (Str.ofString "ABS"), .lst ((a :: r).map enc)] = some (.ok ((absO a).getD (er "value"))) := by
  refine runA_of (s := S8 "ABS" (.lst ((a :: r).map enc)) (some (.p (enc a))) none (some (.p (En.en (numO a)))) none none none) ((single_s "ABS" a r).trans ((to_single_4 "ABS" (by decide) (by decide) (by decide) _ _ _ _ _ _ _).trans ((single_5 "ABS" a _).trans ?_)))
  unfold b_l_single_5 absO
  have hi := isn_o 4 (S8 "ABS" (.lst ((a :: r).map enc)) (some (.p (enc a))) none (some (.p (En.en (numO a)))) none none none).l [] (numO a) rfl
  cases hn : numO a with
  | none =>
    rw [hn] at hi
    exact if_yes _ _ _ hi _ _ _ _ (ret_run _ _ _ [] (ertup "error" "value" _ _))
  | some n =>
    rw [hn] at hi
    rw [if_no _ _ _ hi]
    exact at_yes 0 "ABS" _ [] rfl _ _ _ _ (ret_run _ _ _ [] (tup2 "num" _ _ _ _ (abs_run 4 _ [] n rfl)))
theorem single_8 (a b : Vl) : b_l_single_7 (S8 "ROUND" (.lst ([a, b].map enc)) (some (.p (enc a))) none (some (.p (En.en (numO a)))) none none none) = b_l_single_8 (S8 "ROUND" (.lst ([a, b].map enc)) (some (.p (enc a))) none (some (.p (En.en (numO a)))) (some (.p (En.en (wholeO b)))) none none) :=
  seq_asg (mCallA 1 m_l_integer (aCons (mIx (mVar 1) (mC (.int 1))) aNil)) (gN 5) b_l_single_8 _ (S8 "ROUND" (.lst ([a, b].map enc)) (some (.p (enc a))) none (some (.p (En.en (numO a)))) (some (.p (En.en (wholeO b)))) none none) _ [] (cA1 m_l_integer _ _ [] (enc b) _ (ix_run 1 1 _ [] _ (enc b) rfl (atI1 _ _ _)) (integer_spec b)) rfl
noncomputable def lrc : EM := (mOr (mIsN (mVar 5)) (mOr (mBin dLt (mVar 5) (mUn dNeg (mC (.int 6)))) (mBin dGt (mVar 5) (mC (.int 4)))))
theorem lrc_run (l : List (Option DV)) (M : List O) (q : Option Int) (h3 : gv l 5 = some (.p (En.en q))) : lrc ⟨l, M⟩ = some (.ok (.p (.bl (match q with
    | some p => decide (¬ (-6 ≤ p ∧ p ≤ 4))
    | none => true))) M) := by
  cases q with
  | none => rw [en_none_i] at h3; simp [lrc, e_bnd, h3]
  | some p =>
    rw [en_some_i] at h3
    by_cases a : p < -6
    · have : ¬ -6 ≤ p := by omega
      simp [lrc, e_bnd, h3, a, this]
    · have h1 : -6 ≤ p := by omega
      by_cases b : 4 < p
      · have : ¬ p ≤ 4 := by omega
        simp [lrc, e_bnd, h3, a, b, h1, this]
      · have : p ≤ 4 := by omega
        simp [lrc, e_bnd, h3, a, b, h1, this]
theorem lprod_run (fr : MA) (i j : Nat) (l : List (Option DV)) (M : List O) (x y r u : D) (h1 : gv l i = some (.p x)) (h2 : gv l j = some (.p y)) (e : fr [x, y] = some (.ok r)) (hm : dMul y r = some u) : mBin dMul (mVar j) (mCallA 2 fr (aCons (mVar i) (aCons (mVar j) aNil))) ⟨l, M⟩ = some (.ok (.p u) M) := by
  have := cA2 fr (mVar i) (mVar j) l M x y r (var_run i l M _ h1) (var_run j l M _ h2) e
  rw [e_bin, e_bnd, var_run j l M _ h2]
  show (bnd (mCallA 2 fr (aCons (mVar i) (aCons (mVar j) aNil))) (pur fun e => DL.ret (dMul y e))) ⟨l, M⟩ = _
  rw [e_bnd, this]
  simp [hm]
theorem l_round_9 (a b : Vl) (n p : Int) (z : D) (x5 : Option DV) (hx : x5 = some (.p (.int p))) (hp : -6 ≤ p ∧ p ≤ 4) (hn : Small n) : ∃ s, b_l_single_9 (S8 "ROUND" z (some (.p (enc a))) none (some (.p (.int n))) x5 none none) = some (.rt (.p (numD (rnd n (stp p) * stp p))), s) := by
  subst hx
  obtain ⟨s0, s1, m, hm⟩ := stp_ok p hp
  obtain ⟨l', e, g1, g2⟩ := pow_loop 7 6 (by decide) (4 - p).toNat 0 (S8 "ROUND" z (some (.p (enc a))) none (some (.p (.int n))) (some (.p (.int p))) (some (.p (.int 1))) none).l [] 1 (by simp) rfl
  rw [Int.one_mul] at g1
  have g1 : gv l' 6 = some (.p (.int (stp p))) := g1
  have g0 := g2 4 (by decide) (by decide)
  have hr := quot_spec n (stp p) (by omega) (by omega) (by omega)
  have q0 : quo n (stp p) = rnd n (stp p) := by unfold quo; rw [if_neg (by omega)]
  rw [q0] at hr
  have hmul : dMul (.int (stp p)) (.int (rnd n (stp p))) = some (.int (rnd n (stp p) * stp p)) := by
    rw [Int.mul_comm (rnd n (stp p))]
    exact mul_eq (by unfold mulOk; simp; left; omega)
  generalize rnd n (stp p) * stp p = w at *
  generalize rnd n (stp p) = r at *
  generalize stp p = s at *
  refine ⟨⟨l', []⟩, ?_⟩
  unfold b_l_single_9
  rw [seq_asg (mC (.int 1)) (gN 6) b_l_single_10 _ (S8 "ROUND" z (some (.p (enc a))) none (some (.p (.int n))) (some (.p (.int p))) (some (.p (.int 1))) none) (.p (.int 1)) [] rfl rfl]
  unfold b_l_single_10
  rw [seq_nx _ _ _ ⟨l', []⟩ (by rw [e_for, e_lift, sub_run 4 (.int 4) 5 _ _ p rfl rfl hp rfl]; exact e)]
  exact ret_run _ _ _ [] (tup2 "num" _ _ _ _ (lprod_run m_l_quotient 4 6 l' [] _ _ _ _ g0 g1 hr hmul))
theorem l_round (a b : Vl) (ha : Vok a) : m_l_single [.str (Str.ofString "ROUND"), .lst ([a, b].map enc)] = some (.ok ((rndO a b).getD (er "value"))) := by
  have hs := @numO_small a ha
  have main : ∃ s, b_l_single_5 (S8 "ROUND" (.lst ([a, b].map enc)) (some (.p (enc a))) none (some (.p (En.en (numO a)))) none none none) = some (.rt (.p ((rndO a b).getD (er "value"))), s) := by
    have hi := isn_o 4 (S8 "ROUND" (.lst ([a, b].map enc)) (some (.p (enc a))) none (some (.p (En.en (numO a)))) none none none).l [] (numO a) rfl
    have h8 := single_8 a b
    have hc := lrc_run (S8 "ROUND" (.lst ([a, b].map enc)) (some (.p (enc a))) none (some (.p (En.en (numO a)))) (some (.p (En.en (wholeO b)))) none none).l [] (wholeO b) rfl
    unfold rndO b_l_single_5
    cases hn : numO a with
    | none =>
      rw [hn] at hi
      exact ⟨_, if_yes _ _ _ hi _ _ _ _ (ret_run _ _ _ [] (ertup "error" "value" _ _))⟩
    | some n =>
      rw [hn] at hi h8 hc
      rw [if_no _ _ _ hi]
      unfold b_l_single_6
      rw [at_no 0 "ROUND" "ABS" (by decide) _ _ rfl]
      rw [h8]
      unfold b_l_single_8
      cases hw : wholeO b with
      | none =>
        rw [hw] at hc
        exact ⟨_, if_yes _ _ _ hc _ _ _ _ (ret_run _ _ _ [] (ertup "error" "value" _ _))⟩
      | some p =>
        rw [hw] at hc
        dsimp only at hc ⊢
        by_cases hp : -6 ≤ p ∧ p ≤ 4
        · have hc' : (decide ¬(-6 ≤ p ∧ p ≤ 4)) = false := decide_eq_false (fun h => h hp)
          rw [hc'] at hc
          rw [if_pos hp]
          obtain ⟨s, h9⟩ := l_round_9 a b n p (.lst ([a, b].map enc)) (some (.p (En.en (some p)))) rfl hp (hs hn)
          exact ⟨s, (if_no _ _ _ hc _ _).trans h9⟩
        · have hc' : (decide ¬(-6 ≤ p ∧ p ≤ 4)) = true := decide_eq_true hp
          rw [hc'] at hc
          rw [if_neg hp]
          exact ⟨_, if_yes _ _ _ hc _ _ _ _ (ret_run _ _ _ [] (ertup "error" "value" _ _))⟩
  obtain ⟨s, hs⟩ := main
  exact runA_of ((single_s "ROUND" a [b]).trans ((to_single_4 "ROUND" (by decide) (by decide) (by decide) _ _ _ _ _ _ _).trans ((single_5 "ROUND" a _).trans hs)))
noncomputable def llc : EM := (mOr (mIsN (mVar 3)) (mBin dLt (mVar 3) (mC (.int 0))))
theorem llc_run (l : List (Option DV)) (M : List O) (q : Option Int) (h3 : gv l 3 = some (.p (En.en q))) : llc ⟨l, M⟩ = some (.ok (.p (.bl (match q with
    | some p => decide (p < 0)
    | none => true))) M) := by
  cases q with
  | none => rw [en_none_i] at h3; simp [llc, e_bnd, h3]
  | some p =>
    rw [en_some_i] at h3
    simp [llc, e_bnd, h3]
theorem lsl_run (ft : MA) (l : List (Option DV)) (M : List O) (z : D) (x u : Str) (c : Int) (h1 : gv l 2 = some (.p z)) (h3 : gv l 3 = some (.p (.int c))) (h2 : ft [z] = some (.ok (.str x))) (h4 : slE (.str x) none (some c) = some (.str u)) : mSlE (mCallA 1 ft (aCons (mVar 2) aNil)) pNone (pSome (mVar 3)) ⟨l, M⟩ = some (.ok (.p (.str u)) M) := by
  simp [-e_slS, e_bnd, h1, h2, h3, h4]
theorem l_left (a b : Vl) (ha : Vok a) : m_l_single [.str (Str.ofString "LEFT"), .lst ([a, b].map enc)] = some (.ok ((leftO a b).getD (er "value"))) := by
  have hc := llc_run (S8 "LEFT" (.lst ([a, b].map enc)) (some (.p (enc a))) (some (.p (En.en (wholeO b)))) none none none none).l [] (wholeO b) rfl
  have hq := seq_asg (mCallA 1 m_l_integer (aCons (mIx (mVar 1) (mC (.int 1))) aNil)) (gN 3) (sSeq (sIf llc (sRet (disp .tup (aCons (mC (.str (PySem.Str.ofString "error"))) (aCons (mC (.str (PySem.Str.ofString "value"))) aNil)))) sNil)
    (sRet (disp .tup (aCons (mC (.str (PySem.Str.ofString "text"))) (aCons (mSlE (mCallA 1 m_l_as_text (aCons (mVar 2) aNil)) pNone (pSome (mVar 3))) aNil))))) (S8 "LEFT" (.lst ([a, b].map enc)) (some (.p (enc a))) none none none none none) (S8 "LEFT" (.lst ([a, b].map enc)) (some (.p (enc a))) (some (.p (En.en (wholeO b)))) none none none none) _ [] (cA1 m_l_integer _ _ [] (enc b) _ (ix_run 1 1 _ [] _ (enc b) rfl (atI1 _ _ _)) (integer_spec b)) rfl
  refine runA_of (s := S8 "LEFT" (.lst ([a, b].map enc)) (some (.p (enc a))) (some (.p (En.en (wholeO b)))) none none none none) ((single_s "LEFT" a [b]).trans ?_)
  unfold b_l_single_1
  rw [at_no 0 "LEFT" "NOT" (by decide) _ _ rfl]
  unfold b_l_single_2
  rw [at_no 0 "LEFT" "LEN" (by decide) _ _ rfl]
  refine at_yes 0 "LEFT" _ [] rfl _ _ _ _ (hq.trans ?_)
  unfold leftO
  cases hw : wholeO b with
  | none =>
    rw [hw] at hc
    exact if_yes _ _ _ hc _ _ _ _ (ret_run _ _ _ [] (ertup "error" "value" _ _))
  | some c =>
    rw [hw] at hc
    dsimp only at hc ⊢
    by_cases h0 : c < 0
    · rw [decide_eq_true h0] at hc
      rw [if_pos h0]
      exact if_yes _ _ _ hc _ _ _ _ (ret_run _ _ _ [] (ertup "error" "value" _ _))
    · rw [decide_eq_false h0] at hc
      rw [if_neg h0, if_no _ _ _ hc]
      exact ret_run _ _ _ [] (tup2 "text" _ _ _ _ (lsl_run m_l_as_text _ _ _ _ _ c rfl rfl (as_text_spec a ha) (sl_take _ c (by omega) (by have := txt_len60 a ha; omega))))
end Law
namespace Law
open PySem L2 DL
/-! texts put together -/
def jn (vs : List Vl) : List Nat := (vs.map txtIn).flatten
theorem flat_le (k : Nat) : ∀ ls : List (List Nat), (∀ l ∈ ls, l.length ≤ k) → ls.flatten.length ≤ k * ls.length
  | [], _ => Nat.zero_le _
  | l :: ls, h => by
    have := h l List.mem_cons_self
    have := flat_le k ls fun x hx => h x (List.mem_cons_of_mem _ hx)
    rw [List.flatten_cons, List.length_append, List.length_cons, Nat.mul_succ]; omega
theorem sum_lens : ∀ ls : List (List Nat), ((ls.map tx).map (·.length)).sum = ls.flatten.length
  | [] => rfl
  | l :: ls => by
    rw [List.map_cons, List.map_cons, List.sum_cons, sum_lens ls, List.flatten_cons, List.length_append, tx_len]
theorem jn_len {vs : List Vl} (h : ∀ v ∈ vs, Vok v) (hl : vs.length ≤ 24) : (jn vs).length ≤ 1440 := by
  have := flat_le 60 (vs.map txtIn) fun l hl => by
    obtain ⟨v, hv, rfl⟩ := List.mem_map.mp hl
    exact txt_len60 v (h v hv)
  rw [List.length_map] at this
  unfold jn; omega
theorem join_ds {vs : List Vl} (h : ∀ v ∈ vs, Vok v) (hl : vs.length ≤ 24) : dJoin (.str (Str.ofString "")) [.lst (vs.map fun v => .str (tx (txtIn v)))] = some (.str (tx (jn vs))) := by
  have e : (vs.map fun v => D.str (tx (txtIn v))) = ((vs.map txtIn).map tx).map .str := by rw [List.map_map, List.map_map]; rfl
  have hj := jn_len h hl
  unfold jn at hj ⊢
  rw [e, t_nil, e_join, allS_map]
  dsimp only
  have e0 : (tx []).length = 0 := rfl
  rw [sum_lens, e0, Nat.mul_zero, if_pos (by omega), join_txt]
theorem join_run (ft fv : MA) (it : IM) (k : Nat) (l : List (Option DV)) (M : List O) (vs : List Vl) (w : D) (hk : k < l.length) (hi : it ⟨l, M⟩ = some (.ok ((vs.map enc).map .p) M)) (ht : ∀ v ∈ vs, ft [enc v] = some (.ok (.str (tx (txtIn v))))) (hv : ∀ v ∈ vs, Vok v) (hl : vs.length ≤ 24) (hw : fv [.str (tx (jn vs))] = some (.ok w)) :
    mCallA 1 fv (aCons (mMth "str" (gP dJoin) (mC (.str (PySem.Str.ofString ""))) (aCons (mLc it [k] (gN k) tYesM (mCallA 1 ft (aCons (mVar k) aNil))) aNil)) aNil) ⟨l, M⟩ = some (.ok (.p w) M) := by
  have g : ∀ v, gv ((l.set k none).set k (some (.p (enc v)))) k = some (.p (enc v)) := fun v => by rw [gv_set, if_pos rfl, if_pos (by simpa using hk)]
  have q := map_compE enc (l := wipeL l [k]) (g := gN k) (e := mCallA 1 ft (aCons (mVar k) aNil)) (M := M) (fun v => .str (tx (txtIn v))) vs (fun v hv => ⟨⟨(l.set k none).set k (some (.p (enc v))), M⟩, rfl, rfl, cA1 ft (mVar k) _ M _ _ (var_run k _ M _ (g v)) (ht v hv)⟩) (by omega)
  have q2 := lcs it [k] (gN k) _ _ ⟨l, M⟩ _ _ hi q
  have q3 := join_ds hv hl
  refine cA1 fv _ _ M _ _ ?_ hw
  rw [e_mth, e_bnd]
  show (if tyOk "str" M (.p (.str _)) = true then _ else none) = _
  rw [e_tyS, if_pos rfl, e_bnd, e_aCons, e_bnd, q2]
  simp only [e_bnd, e_aNil, e_gP, e_allP1, e_allP0, Option.map_some]
  rw [q3]
  rfl
/-! the program's def -/
def N8 : List String := ["SUM", "COUNT", "AVG", "MIN", "MAX", "AND", "OR", "JOIN"]
def R5 : List (String × String) := [("RSUM", "SUM"), ("RCOUNT", "COUNT"), ("RAVG", "AVG"), ("RMIN", "MIN"), ("RMAX", "MAX")]
/-- what a call without an error makes, by its name without the R -/
def resB (k : String) (as : List Arg) : Option D := if k ∈ N5 then numRO k (nums as) else if k = "AND" ∨ k = "OR" then logO k (trus as) else if k = "JOIN" then some (tv (jn (vals as))) else
  match vals as with
  | [a] => if k = "NOT" then notO a else if k = "LEN" then lenO' a else absO a
  | [a, b] => if k = "LEFT" then leftO a b else rndO a b
  | _ => none
/-- a call as it is drawn, and its name without the R -/
inductive OkC : String → String → List Arg → Prop
  | num (k : String) (as : List Arg) : k ∈ N5 → OkC k k as
  | rel (r k : String) (as : List Arg) : (r, k) ∈ R5 → OkC r k as
  | log (k : String) (as : List Arg) : k = "AND" ∨ k = "OR" → OkC k k as
  | join (as : List Arg) : OkC "JOIN" "JOIN" as
  | one (k : String) (a : Vl) : k = "NOT" ∨ k = "LEN" ∨ k = "ABS" → OkC k k [.one a]
  | two (k : String) (a b : Vl) : k = "LEFT" ∨ k = "ROUND" → OkC k k [.one a, .one b]
def res (w : D) (k : String) (as : List Arg) : D := match (vals as).filter isErr with
  | v :: _ => enc v
  | [] => (resB k as).getD w
abbrev S6 (k : String) (as : List Arg) (x2 x3 x4 x5 : Option DV) : S := ⟨[some (.p (.str (Str.ofString k))), some (.p (encAs as)), x2, x3, x4, x5], []⟩
theorem err_comp (l : List (Option DV)) (M : List O) (vs : List Vl) (hk : 5 < l.length) (hj : gv l 2 = some (.p (.lst (vs.map enc)))) (hl : vs.length ≤ 1000000) :
    mLc (mItD itL (mVar 2)) [5] (gN 5) (mTru (mCallA 1 m_is_error (aCons (mVar 5) aNil))) (mVar 5) ⟨l, M⟩ = some (.ok (.p (.lst ((vs.filter isErr).map enc))) M) := by
  have g : ∀ v, gv ((l.set 5 none).set 5 (some (.p (enc v)))) 5 = some (.p (enc v)) := fun v => by rw [gv_set, if_pos rfl, if_pos (by simpa using hk)]
  refine lcs _ [5] (gN 5) _ _ ⟨l, M⟩ _ _ (it_var 2 l M _ hj) ?_
  exact filter_compE enc (l := wipeL l [5]) (g := gN 5) (M := M) enc isErr vs (fun v _ => ⟨⟨(l.set 5 none).set 5 (some (.p (enc v))), M⟩, rfl, rfl, by
    rw [e_tru, e_bnd, cA1 m_is_error (mVar 5) _ M _ _ (var_run 5 _ M _ (g v)) (is_error_spec v)]
    rfl, fun _ => var_run 5 _ M _ (g v)⟩) hl
@[simp] theorem e_inSK (x : Str) (ds : List D) : inD (.str x) (.ktup ds) = if (shp (.str x) && shp (.ktup ds)) = true then some (ds.any fun z => deq z (.str x)) else none := rfl
@[simp] theorem e_okK (i : List D) : okD (.ktup i) = okDs i := rfl
@[simp] theorem e_dpK (i : List D) : depD (.ktup i) = depDs i + 1 := rfl
theorem rel_in (k : String) : inD (.str (Str.ofString k)) k_RELEASED = some (decide (k = "RSUM" ∨ k = "RCOUNT" ∨ k = "RAVG" ∨ k = "RMIN" ∨ k = "RMAX")) := by
  unfold k_RELEASED
  rw [e_inSK]
  by_cases h : k = "RSUM" ∨ k = "RCOUNT" ∨ k = "RAVG" ∨ k = "RMIN" ∨ k = "RMAX"
  · rw [decide_eq_true h]
    rcases h with h | h | h | h | h <;> subst h <;> simp
  · rw [decide_eq_false h]
    simp only [not_or] at h
    obtain ⟨h1, h2, h3, h4, h5⟩ := h
    simp [Ne.symm h1, Ne.symm h2, Ne.symm h3, Ne.symm h4, Ne.symm h5]
theorem in_run (j : Nat) (d z : D) (b : Bool) (l : List (Option DV)) (M : List O) (h : gv l j = some (.p z)) (hi : inD z d = some b) : mBin dIn (mVar j) (mC d) ⟨l, M⟩ = some (.ok (.p (.bl b)) M) := by
  simp [e_bnd, h, hi]
theorem inKd_yes (ks ms : List Str) (z : Str) (l : List (Option DV)) (M : List O) (h : gv l 0 = some (.p (.str z))) (hk : z ∈ ks) : mInKd ks ms (mVar 0) ⟨l, M⟩ = some (.ok (.p (.bl true)) M) := by
  rw [e_inKdm, e_bnd, var_run 0 l M _ h]
  show inKd ks ms (.str z) ⟨l, M⟩ = _
  rw [e_inKdS, if_pos hk]
theorem inKd_no (ks ms : List Str) (z : Str) (l : List (Option DV)) (M : List O) (h : gv l 0 = some (.p (.str z))) (hk : z ∉ ks) (hm : z ∈ ms) : mInKd ks ms (mVar 0) ⟨l, M⟩ = some (.ok (.p (.bl false)) M) := by
  rw [e_inKdm, e_bnd, var_run 0 l M _ h]
  show inKd ks ms (.str z) ⟨l, M⟩ = _
  rw [e_inKdS, if_neg hk, if_pos hm]
theorem kd_run (kvs : List (Str × D)) (z : Str) (d : D) (l : List (Option DV)) (M : List O) (h : gv l 0 = some (.p (.str z))) (hk : kvs.lookup z = some d) : mKd kvs (mVar 0) ⟨l, M⟩ = some (.ok (.p d) M) := by
  rw [e_kd, e_bnd, var_run 0 l M _ h]
  show kdK kvs (.str z) ⟨l, M⟩ = _
  rw [e_kdK, hk]; rfl
theorem cB2 (f : List DV → List O → Option (Rs DV)) (me mf : EM) (l : List (Option DV)) (M : List O) (x y : DV) (r : DV) (h1 : me ⟨l, M⟩ = some (.ok x M)) (h2 : mf ⟨l, M⟩ = some (.ok y M)) (e : f [x, y] M = some (.ok r M)) : mCallB 2 f (aCons me (aCons mf aNil)) ⟨l, M⟩ = some (.ok r M) := by
  simp [e_bnd, h1, h2, e]
theorem cB1 (f : List DV → List O → Option (Rs DV)) (me : EM) (l : List (Option DV)) (M : List O) (x : DV) (r : DV) (h1 : me ⟨l, M⟩ = some (.ok x M)) (e : f [x] M = some (.ok r M)) : mCallB 1 f (aCons me aNil) ⟨l, M⟩ = some (.ok r M) := by
  simp [e_bnd, h1, e]
theorem s_ne {a b : String} (h : a ≠ b) : Str.ofString a ≠ Str.ofString b := fun e => h ((ofString_inj a b).mp e)
theorem rmR (k : String) (l r : List Nat) (h1 : Str.ofString k = tx (82 :: r)) (hr : r.length ≤ 100) (i : Nat) (L : List (Option DV)) (M : List O) (hg : gv L i = some (.p (.str (Str.ofString k)))) : mMth "str" (gP dRmpre) (mVar i) (aCons (mC (.str (PySem.Str.ofString "R"))) aNil) ⟨L, M⟩ = some (.ok (.p (.str (tx r))) M) := by
  have t : Str.ofString "R" = tx [82] := by rw [tx_ofString]; rfl
  have e : Txt.removeprefix (tx (82 :: r)) (tx [82]) = tx r := by rw [rmpre_tx]; rfl
  have e2 : dRmpre (.str (tx (82 :: r))) [.str (tx [82])] = some (.str (tx r)) := by rw [e_rmpre, tx_len, if_pos (by simp; omega), e]
  rw [h1] at hg
  rw [t, e_mth, e_bnd, var_run i L M _ hg]
  show (if tyOk "str" M (.p (.str _)) = true then _ else none) = _
  rw [e_tyS, if_pos rfl, e_bnd, e_aCons, e_bnd, e_c]
  simp only [e_bnd, e_aNil, e_gP, e_allP1, e_allP0, Option.map_some]
  rw [e2]
  rfl
end Law
namespace Law
open PySem L2 DL
/-! apply_function, its end: no error among the values -/
theorem tru_run (l : List (Option DV)) (M : List O) (xs : List D) (h : gv l 3 = some (.p (.lst xs))) : mTru (mVar 3) ⟨l, M⟩ = some (.ok (.p (.bl (!xs.isEmpty))) M) := by
  rw [e_tru, e_bnd, var_run 3 l M _ h]; rfl
section
variable {Fa : List Addr} (hF : CFa Fa) {as : List Arg} (ha : AsOk as)
include hF ha
abbrev T6 (k : String) (as : List Arg) (x4 : Option DV) : S := S6 k as (some (.p (.lst ((vals as).map enc)))) (some (.p (.lst []))) x4 none
theorem ap_num (k : String) (hk : k ∈ N5) : ∃ s, b_apply_function_3 Fa (T6 k as none) = some (.rt (.p ((numRO k (nums as)).getD k_WRONG_VALUE)), s) := by
  have hr : decide (k = "RSUM" ∨ k = "RCOUNT" ∨ k = "RAVG" ∨ k = "RMIN" ∨ k = "RMAX") = false := by
    refine decide_eq_false fun h => ?_
    simp only [N5, List.mem_cons, List.not_mem_nil, or_false] at hk
    rcases h with h | h | h | h | h <;> subst h <;> revert hk <;> decide
  have hi := rel_in k
  rw [hr] at hi
  have hn : Str.ofString k ∈ ki_NUMERIC := by
    simp only [N5, List.mem_cons, List.not_mem_nil, or_false] at hk
    rcases hk with h | h | h | h | h <;> subst h <;> simp [ki_NUMERIC]
  refine ⟨T6 k as none, ?_⟩
  unfold b_apply_function_3
  rw [if_no _ _ _ (in_run 0 _ _ _ _ _ rfl hi)]
  unfold b_apply_function_4
  exact if_yes _ _ _ (inKd_yes _ _ _ _ _ rfl hn) _ _ _ _ (ret_run _ _ _ [] (cB2 (m_numeric Fa) (mVar 0) (mVar 1) _ [] _ _ _ rfl rfl (numeric_spec hF k hk as ha)))
theorem ap_rel (r k : String) (hk : (r, k) ∈ R5) : ∃ s, b_apply_function_3 Fa (T6 r as none) = some (.rt (.p ((numRO k (nums as)).getD k_WRONG_VALUE)), s) := by
  have main : ∀ (rl : List Nat), Str.ofString r = tx (82 :: rl) → Str.ofString k = tx rl → rl.length ≤ 100 → k ∈ N5 → (r = "RSUM" ∨ r = "RCOUNT" ∨ r = "RAVG" ∨ r = "RMIN" ∨ r = "RMAX") → ∃ s, b_apply_function_3 Fa (T6 r as none) = some (.rt (.p ((numRO k (nums as)).getD k_WRONG_VALUE)), s) := by
    intro rl h1 h2 h3 h4 h5
    have hi := rel_in r
    rw [decide_eq_true h5] at hi
    have hs := numeric_spec hF k h4 as ha
    rw [h2] at hs
    exact ⟨T6 r as none, if_yes _ _ _ (in_run 0 _ _ _ _ _ rfl hi) _ _ _ _ (ret_run _ _ _ [] (cB2 (m_numeric Fa) _ (mVar 1) _ [] _ _ _ (rmR r [] rl h1 h3 0 _ [] rfl) rfl hs))⟩
  simp only [R5, List.mem_cons, Prod.mk.injEq, List.not_mem_nil, or_false] at hk
  rcases hk with ⟨rfl, rfl⟩ | ⟨rfl, rfl⟩ | ⟨rfl, rfl⟩ | ⟨rfl, rfl⟩ | ⟨rfl, rfl⟩
  · exact main [83, 85, 77] (by rw [tx_ofString]; rfl) (by rw [tx_ofString]; rfl) (by decide) (by decide) (by simp)
  · exact main [67, 79, 85, 78, 84] (by rw [tx_ofString]; rfl) (by rw [tx_ofString]; rfl) (by decide) (by decide) (by simp)
  · exact main [65, 86, 71] (by rw [tx_ofString]; rfl) (by rw [tx_ofString]; rfl) (by decide) (by decide) (by simp)
  · exact main [77, 73, 78] (by rw [tx_ofString]; rfl) (by rw [tx_ofString]; rfl) (by decide) (by decide) (by simp)
  · exact main [77, 65, 88] (by rw [tx_ofString]; rfl) (by rw [tx_ofString]; rfl) (by decide) (by decide) (by simp)
omit hF ha in
theorem ap_5 (k : String) (hk : k ∈ ["AND", "OR", "JOIN", "NOT", "LEN", "ABS", "LEFT", "ROUND"]) : b_apply_function_3 Fa (T6 k as none) = b_apply_function_5 Fa (T6 k as none) := by
  have hr : decide (k = "RSUM" ∨ k = "RCOUNT" ∨ k = "RAVG" ∨ k = "RMIN" ∨ k = "RMAX") = false := by
    refine decide_eq_false fun h => ?_
    rcases h with h | h | h | h | h <;> subst h <;> revert hk <;> decide
  have hi := rel_in k
  rw [hr] at hi
  have hn : Str.ofString k ∉ ki_NUMERIC := by
    simp only [List.mem_cons, List.not_mem_nil, or_false] at hk
    rcases hk with h | h | h | h | h | h | h | h <;> subst h <;> simp [ki_NUMERIC]
  have hm : Str.ofString k ∈ km_NUMERIC := by
    simp only [List.mem_cons, List.not_mem_nil, or_false] at hk
    rcases hk with h | h | h | h | h | h | h | h <;> subst h <;> simp [km_NUMERIC]
  unfold b_apply_function_3
  rw [if_no _ _ _ (in_run 0 _ _ _ _ _ rfl hi)]
  unfold b_apply_function_4
  rw [if_no _ _ _ (inKd_no _ _ _ _ _ rfl hn hm)]
omit hF ha in
theorem or_run (a b k : String) (l : List (Option DV)) (M : List O) (h : gv l 0 = some (.p (.str (Str.ofString k)))) : mOr (mBin dEq (mVar 0) (mC (.str (Str.ofString a)))) (mBin dEq (mVar 0) (mC (.str (Str.ofString b)))) ⟨l, M⟩ = some (.ok (.p (.bl (decide (k = a ∨ k = b)))) M) := by
  by_cases h1 : k = a
  · subst h1; simp [e_bnd, h]
  · have e1 : decide (k = a) = false := decide_eq_false h1
    by_cases h2 : k = b
    · subst h2; simp [e_bnd, h, e1]
    · simp [e_bnd, h, h1, h2]
omit hF in
theorem ap_log (k : String) (hk : k = "AND" ∨ k = "OR") : ∃ s, b_apply_function_3 Fa (T6 k as none) = some (.rt (.p ((logO k (trus as)).getD k_WRONG_VALUE)), s) := by
  refine ⟨T6 k as none, (ap_5 k (by rcases hk with rfl | rfl <;> simp)).trans ?_⟩
  have hc := or_run "AND" "OR" k (T6 k as none).l [] rfl
  rw [decide_eq_true hk] at hc
  exact if_yes _ _ _ hc _ _ _ _ (ret_run _ _ _ [] (cB2 m_logical (mVar 0) (mVar 1) _ [] _ _ _ rfl rfl (logical_spec k hk as ha)))
omit hF ha in
theorem ap_6 (k : String) (hk : k ∈ ["JOIN", "NOT", "LEN", "ABS", "LEFT", "ROUND"]) : b_apply_function_3 Fa (T6 k as none) = b_apply_function_6 Fa (T6 k as none) := by
  have hc := or_run "AND" "OR" k (T6 k as none).l [] rfl
  rw [decide_eq_false (by intro h; rcases h with h | h <;> subst h <;> revert hk <;> decide)] at hc
  refine (ap_5 k (by simp only [List.mem_cons] at hk ⊢; exact .inr (.inr hk))).trans ?_
  unfold b_apply_function_5
  rw [if_no _ _ _ hc]
omit hF in
theorem ap_join : ∃ s, b_apply_function_3 Fa (T6 "JOIN" as none) = some (.rt (.p (tv (jn (vals as)))), s) := by
  have hv := vals_ok ha
  have hl := vals_len ha
  refine ⟨T6 "JOIN" as none, (ap_6 "JOIN" (by simp)).trans ?_⟩
  exact at_yes 0 "JOIN" _ [] rfl _ _ _ _ (ret_run _ _ _ [] (join_run m_text_in m_text_value _ 5 _ [] (vals as) _ (by simp) (it_var 2 _ [] _ rfl) (fun v h => text_in_spec v (hv v h)) hv hl (text_value_spec _ (by have := jn_len hv hl; omega))))
omit hF ha in
theorem ap_7 (k : String) (hk : k ∈ ["NOT", "LEN", "ABS", "LEFT", "ROUND"]) : b_apply_function_3 Fa (T6 k as none) = b_apply_function_7 Fa (T6 k as none) := by
  refine (ap_6 k (List.mem_cons_of_mem _ hk)).trans ?_
  unfold b_apply_function_6
  rw [at_no 0 k "JOIN" (by rintro rfl; revert hk; decide) _ _ rfl]
end
noncomputable def tb3 (Ps : List Addr) : List (Addr × MA) := [(Ps.getD 7 0, m_not_of), (Ps.getD 8 0, m_length_of), (Ps.getD 9 0, m_size_of)]
noncomputable def tb2 (Ps : List Addr) : List (Addr × MA) := [(Ps.getD 5 0, m_left_of), (Ps.getD 6 0, m_round_of)]
def resO1 (k : String) (a : Vl) : Option D := if k = "NOT" then notO a else if k = "LEN" then lenO' a else absO a
theorem one_act {Fa : List Addr} (hF : CFa Fa) (k : String) (hk : k = "NOT" ∨ k = "LEN" ∨ k = "ABS") (a : Vl) (hv : Vok a) : ∃ x m, (kd_SINGLE Fa).lookup (Str.ofString k) = some (.fn x) ∧ (tb3 Fa).lookup x = some m ∧ m [enc a] = some (.ok ((resO1 k a).getD k_WRONG_VALUE)) := by
  obtain ⟨a0, b, c, d, e, f, g, i, j, l, rfl, hn⟩ := ten hF
  simp only [List.nodup_cons, List.mem_cons, not_or, List.not_mem_nil, not_false_eq_true] at hn
  rcases hk with rfl | rfl | rfl
  · exact ⟨i, _, by simp [kd_SINGLE, List.lookup], by simp [tb3, List.lookup], not_spec a⟩
  · refine ⟨j, _, by simp [kd_SINGLE, List.lookup], ?_, length_spec a hv⟩
    have : (j == i) = false := by simp; exact fun q => hn.2.2.2.2.2.2.2.1.1 q.symm
    simp [tb3, List.lookup, this]
  · refine ⟨l, _, by simp [kd_SINGLE, List.lookup], ?_, size_spec a hv⟩
    have h1 : (l == i) = false := by simp; exact fun q => hn.2.2.2.2.2.2.2.1.2.1 q.symm
    have h2 : (l == j) = false := by simp; exact fun q => hn.2.2.2.2.2.2.2.2.1.1 q.symm
    simp [tb3, List.lookup, h1, h2]
def resO2 (k : String) (a b : Vl) : Option D := if k = "LEFT" then leftO a b else rndO a b
theorem two_act {Fa : List Addr} (hF : CFa Fa) (k : String) (hk : k = "LEFT" ∨ k = "ROUND") (a b : Vl) (hv : Vok a) : ∃ x m, (kd_DOUBLE Fa).lookup (Str.ofString k) = some (.fn x) ∧ (tb2 Fa).lookup x = some m ∧ m [enc a, enc b] = some (.ok ((resO2 k a b).getD k_WRONG_VALUE)) := by
  obtain ⟨a0, b0, c, d, e, f, g, i, j, l, rfl, hn⟩ := ten hF
  simp only [List.nodup_cons, List.mem_cons, not_or, List.not_mem_nil, not_false_eq_true] at hn
  rcases hk with rfl | rfl
  · exact ⟨f, _, by simp [kd_DOUBLE, List.lookup], by simp [tb2, List.lookup], left_spec a b hv⟩
  · refine ⟨g, _, by simp [kd_DOUBLE, List.lookup], ?_, round_spec a b hv⟩
    have : (g == f) = false := by simp; exact fun q => hn.2.2.2.2.2.1.1 q.symm
    simp [tb2, List.lookup, this]
theorem ap_one {Fa : List Addr} (hF : CFa Fa) (k : String) (hk : k = "NOT" ∨ k = "LEN" ∨ k = "ABS") (a : Vl) (hv : Vok a) : ∃ s, b_apply_function_3 Fa (T6 k [.one a] none) = some (.rt (.p ((resO1 k a).getD k_WRONG_VALUE)), s) := by
  obtain ⟨x, m, h1, h2, h3⟩ := one_act hF k hk a hv
  refine ⟨T6 k [.one a] (some (.p (.fn x))), (ap_7 k (by rcases hk with rfl | rfl | rfl <;> simp)).trans ?_⟩
  have hs : Str.ofString k ∈ ki_SINGLE := by rcases hk with rfl | rfl | rfl <;> simp [ki_SINGLE]
  refine if_yes _ _ _ (inKd_yes _ _ _ _ _ rfl hs) _ _ _ _ ?_
  refine (seq_asg _ (gN 4) _ _ (T6 k [.one a] (some (.p (.fn x)))) (.p (.fn x)) [] (kd_run _ _ _ _ [] rfl h1) rfl).trans ?_
  exact ret_run _ _ _ [] (callV_run 4 1 _ _ _ x m _ rfl h2 (cA1 m _ _ [] (enc a) _ (ix_run 2 0 _ [] _ (enc a) rfl (atI0 _ _)) h3))
theorem ap_two {Fa : List Addr} (hF : CFa Fa) (k : String) (hk : k = "LEFT" ∨ k = "ROUND") (a b : Vl) (hv : Vok a) : ∃ s, b_apply_function_3 Fa (T6 k [.one a, .one b] none) = some (.rt (.p ((resO2 k a b).getD k_WRONG_VALUE)), s) := by
  obtain ⟨x, m, h1, h2, h3⟩ := two_act hF k hk a b hv
  refine ⟨T6 k [.one a, .one b] (some (.p (.fn x))), (ap_7 k (by rcases hk with rfl | rfl <;> simp)).trans ?_⟩
  have hs : Str.ofString k ∉ ki_SINGLE := by rcases hk with rfl | rfl <;> simp [ki_SINGLE]
  have hm : Str.ofString k ∈ km_SINGLE := by rcases hk with rfl | rfl <;> simp [km_SINGLE]
  unfold b_apply_function_7
  rw [if_no _ _ _ (inKd_no _ _ _ _ _ rfl hs hm)]
  unfold b_apply_function_8
  refine (seq_asg _ (gN 4) _ _ (T6 k [.one a, .one b] (some (.p (.fn x)))) (.p (.fn x)) [] (kd_run _ _ _ _ [] rfl h1) rfl).trans ?_
  exact ret_run _ _ _ [] (callV_run 4 2 _ _ _ x m _ rfl h2 (cA2 m _ _ _ [] (enc a) (enc b) _ (ix_run 2 0 _ [] _ (enc a) rfl (atI0 _ _)) (ix_run 2 1 _ [] _ (enc b) rfl (atI1 _ _ _)) h3))
/-! apply_function -/
theorem apply_spec {Fa : List Addr} (hF : CFa Fa) (r k : String) (as : List Arg) (ha : AsOk as) (hk : OkC r k as) : m_apply_function Fa [.str (Str.ofString r), encAs as] = some (.ok (res k_WRONG_VALUE k as)) := by
  have hv := vals_len ha
  have q1 := seq_asg (mCallB 1 m_values_in (aCons (mVar 1) aNil)) (gN 2) (b_apply_function_1 Fa) (S6 r as none none none none) (S6 r as (some (.p (.lst ((vals as).map enc)))) none none none) _ [] (cB1 m_values_in (mVar 1) _ [] _ _ rfl (values_in_spec as (by omega))) rfl
  have q2 := seq_asg (mLc (mItD itL (mVar 2)) [5] (gN 5) (mTru (mCallA 1 m_is_error (aCons (mVar 5) aNil))) (mVar 5)) (gN 3) (b_apply_function_2 Fa) (S6 r as (some (.p (.lst ((vals as).map enc)))) none none none) (S6 r as (some (.p (.lst ((vals as).map enc)))) (some (.p (.lst (((vals as).filter isErr).map enc)))) none none) _ [] (err_comp _ [] (vals as) (by simp) rfl (by omega)) rfl
  have main : ∃ s, b_apply_function_2 Fa (S6 r as (some (.p (.lst ((vals as).map enc)))) (some (.p (.lst (((vals as).filter isErr).map enc)))) none none) = some (.rt (.p (res k_WRONG_VALUE k as)), s) := by
    have ht := tru_run (S6 r as (some (.p (.lst ((vals as).map enc)))) (some (.p (.lst (((vals as).filter isErr).map enc)))) none none).l [] _ rfl
    unfold res b_apply_function_2
    cases he : (vals as).filter isErr with
    | cons v vs =>
      rw [he] at ht
      exact ⟨_, if_yes _ _ _ ht _ _ _ _ (ret_run _ _ _ [] (ix_run 3 0 _ [] _ (enc v) rfl (atI0 _ _)))⟩
    | nil =>
      rw [he] at ht
      rw [if_no _ _ _ ht]
      cases hk with
      | num k as h =>
        have : resB r as = numRO r (nums as) := by unfold resB; rw [if_pos h]
        rw [this]; exact ap_num hF ha r h
      | rel r k as h =>
        have h' : k ∈ N5 := by
          simp only [R5, List.mem_cons, Prod.mk.injEq, List.not_mem_nil, or_false] at h
          rcases h with ⟨_, rfl⟩ | ⟨_, rfl⟩ | ⟨_, rfl⟩ | ⟨_, rfl⟩ | ⟨_, rfl⟩ <;> simp [N5]
        have : resB k as = numRO k (nums as) := by unfold resB; rw [if_pos h']
        rw [this]; exact ap_rel hF ha r k h
      | log k as h =>
        have : resB r as = logO r (trus as) := by unfold resB; rw [if_neg (by rcases h with rfl | rfl <;> simp [N5]), if_pos h]
        rw [this]; exact ap_log ha r h
      | join as => exact ap_join ha
      | one k a h =>
        have : resB r [.one a] = resO1 r a := by rcases h with rfl | rfl | rfl <;> rfl
        rw [this]; exact ap_one hF r h a (ha.2 (.one a) List.mem_cons_self |>.2 a List.mem_cons_self)
      | two k a b h =>
        have : resB r [.one a, .one b] = resO2 r a b := by rcases h with rfl | rfl <;> rfl
        rw [this]; exact ap_two hF r h a b (ha.2 (.one a) List.mem_cons_self |>.2 a List.mem_cons_self)
  obtain ⟨s, hs⟩ := main
  exact runA_of ((q1.trans q2).trans hs)
end Law
namespace Law
open PySem L2 DL
/-! the law's own def -/
noncomputable def badB : SM := (sIf (mTru (mCallA 1 m_l_bad (aCons (mVar 2) aNil))) (sRet (mVar 2)) sNil)
theorem bad_run (l : List (Option DV)) (M : List O) (v : Vl) (h : gv l 2 = some (.p (enc v))) : mTru (mCallA 1 m_l_bad (aCons (mVar 2) aNil)) ⟨l, M⟩ = some (.ok (.p (.bl (isErr v))) M) := by
  rw [e_tru, e_bnd, cA1 m_l_bad (mVar 2) _ M _ _ (var_run 2 _ M _ h) (bad_spec v)]
  rfl
theorem bad_no (x0 x1 x3 : Option DV) : ∀ (vs : List Vl) (x2 : Option DV), vs.filter isErr = [] → ∃ y2, loopS (gN 2) badB ((vs.map enc).map .p) ⟨[x0, x1, x2, x3], []⟩ = some (.nx, ⟨[x0, x1, y2, x3], []⟩)
  | [], x2, _ => ⟨x2, rfl⟩
  | v :: vs, x2, h => by
    have hv : isErr v = false := by
      cases q : isErr v with
      | false => rfl
      | true => rw [List.filter_cons, if_pos q] at h; cases h
    rw [List.filter_cons, if_neg (by rw [hv]; decide)] at h
    obtain ⟨y2, e⟩ := bad_no x0 x1 x3 vs (some (.p (enc v))) h
    have hb := bad_run [x0, x1, some (.p (enc v)), x3] [] v rfl
    rw [hv] at hb
    refine ⟨y2, ?_⟩
    rw [List.map_cons, List.map_cons, loop_step (gN 2) badB _ _ _ ⟨[x0, x1, some (.p (enc v)), x3], []⟩ ⟨[x0, x1, some (.p (enc v)), x3], []⟩ rfl (by unfold badB; rw [sif_f _ _ _ _ [] hb]; rfl)]
    exact e
theorem loop_ret (g : GM) (b : SM) (d : DV) (ds : List DV) (s s1 s2 : S) (v : DV) (h1 : g d s = some s1) (h2 : b s1 = some (.rt v, s2)) : loopS g b (d :: ds) s = some (.rt v, s2) := by
  rw [loopS_cons, h1]
  dsimp only
  rw [h2]
theorem bad_yes (x0 x1 x3 : Option DV) : ∀ (vs : List Vl) (x2 : Option DV) (w : Vl) (ws : List Vl), vs.filter isErr = w :: ws → ∃ s, loopS (gN 2) badB ((vs.map enc).map .p) ⟨[x0, x1, x2, x3], []⟩ = some (.rt (.p (enc w)), s)
  | [], x2, w, ws, h => by cases h
  | v :: vs, x2, w, ws, h => by
    have hb := bad_run [x0, x1, some (.p (enc v)), x3] [] v rfl
    cases q : isErr v with
    | true =>
      rw [List.filter_cons, if_pos q] at h
      injection h with h1 h2
      subst h1
      rw [q] at hb
      refine ⟨_, loop_ret (gN 2) badB _ _ _ ⟨[x0, x1, some (.p (enc v)), x3], []⟩ _ _ rfl (by unfold badB; rw [sif_t _ _ _ _ [] hb, ret_run _ _ _ [] rfl])⟩
    | false =>
      rw [List.filter_cons, if_neg (by rw [q]; decide)] at h
      obtain ⟨s, e⟩ := bad_yes x0 x1 x3 vs (some (.p (enc v))) w ws h
      rw [q] at hb
      refine ⟨s, ?_⟩
      rw [List.map_cons, List.map_cons, loop_step (gN 2) badB _ _ _ ⟨[x0, x1, some (.p (enc v)), x3], []⟩ ⟨[x0, x1, some (.p (enc v)), x3], []⟩ rfl (by unfold badB; rw [sif_f _ _ _ _ [] hb]; rfl)]
      exact e
/-! the name without the R -/
noncomputable def rC : EM := (mAnd (mBin dEq (mIx (mVar 0) (mC (.int 0))) (mC (.str (PySem.Str.ofString "R")))) (mBin dNe (mVar 0) (mC (.str (PySem.Str.ofString "ROUND")))))
theorem u_R : Str.ofString "R" = tx [82] := by rw [tx_ofString]; rfl
theorem rC_no (k : String) (c : Nat) (r : List Nat) (h : Str.ofString k = tx (c :: r)) (hc : c ≠ 82) (hr : r.length ≤ 100) (l : List (Option DV)) (M : List O) (hg : gv l 0 = some (.p (.str (Str.ofString k)))) : rC ⟨l, M⟩ = some (.ok (.p (.bl false)) M) := by
  rw [h] at hg
  have h1 : ixD (.str (tx (c :: r))) 0 = some (.str (tx [c])) := by rw [e_ixS, if_pos (by simp; omega), atI0]; rfl
  unfold rC
  simp [-e_ixS, e_bnd, hg, h1, u_R, hc]
theorem rC_round (l : List (Option DV)) (M : List O) (hg : gv l 0 = some (.p (.str (Str.ofString "ROUND")))) : rC ⟨l, M⟩ = some (.ok (.p (.bl false)) M) := by
  have h : Str.ofString "ROUND" = tx [82, 79, 85, 78, 68] := by rw [tx_ofString]; rfl
  have h1 : ixD (.str (tx [82, 79, 85, 78, 68])) 0 = some (.str (tx [82])) := by rw [e_ixS, if_pos (by simp), atI0]; rfl
  unfold rC
  rw [h] at hg ⊢
  simp [-e_ixS, e_bnd, hg, h1, u_R]
theorem rC_yes (k : String) (r : List Nat) (h : Str.ofString k = tx (82 :: r)) (hn : k ≠ "ROUND") (hr : r.length ≤ 100) (l : List (Option DV)) (M : List O) (hg : gv l 0 = some (.p (.str (Str.ofString k)))) : rC ⟨l, M⟩ = some (.ok (.p (.bl true)) M) := by
  have h1 : ixD (.str (Str.ofString k)) 0 = some (.str (Str.ofString "R")) := by rw [h, e_ixS, if_pos (by simp; omega), atI0, u_R]; rfl
  unfold rC
  simp [-e_ixS, e_bnd, hg, h1, hn]
theorem sl_one (k : String) (r : List Nat) (h : Str.ofString k = tx (82 :: r)) (hr : r.length ≤ 100) : slE (.str (Str.ofString k)) (some 1) none = some (.str (tx r)) := by
  rw [h, e_slS, tx_len, if_pos (by simp; omega), cutS_from _ _ (by decide)]; rfl
abbrev S4 (k : String) (as : List Arg) (x2 x3 : Option DV) : S := ⟨[some (.p (.str (Str.ofString k))), some (.p (encAs as)), x2, x3], []⟩
theorem rname {r k : String} (h : (r, k) ∈ R5) : ∃ l, Str.ofString r = tx (82 :: l) ∧ Str.ofString k = tx l ∧ l.length ≤ 100 ∧ r ≠ "ROUND" ∧ k ∈ N5 := by
  simp only [R5, List.mem_cons, Prod.mk.injEq, List.not_mem_nil, or_false] at h
  rcases h with ⟨rfl, rfl⟩ | ⟨rfl, rfl⟩ | ⟨rfl, rfl⟩ | ⟨rfl, rfl⟩ | ⟨rfl, rfl⟩
  · exact ⟨[83, 85, 77], by rw [tx_ofString]; rfl, by rw [tx_ofString]; rfl, by decide, by decide, by decide⟩
  · exact ⟨[67, 79, 85, 78, 84], by rw [tx_ofString]; rfl, by rw [tx_ofString]; rfl, by decide, by decide, by decide⟩
  · exact ⟨[65, 86, 71], by rw [tx_ofString]; rfl, by rw [tx_ofString]; rfl, by decide, by decide, by decide⟩
  · exact ⟨[77, 73, 78], by rw [tx_ofString]; rfl, by rw [tx_ofString]; rfl, by decide, by decide, by decide⟩
  · exact ⟨[77, 65, 88], by rw [tx_ofString]; rfl, by rw [tx_ofString]; rfl, by decide, by decide, by decide⟩
theorem nonR {k : String} (h : k ∈ ["SUM", "COUNT", "AVG", "MIN", "MAX", "AND", "OR", "JOIN", "NOT", "LEN", "ABS", "LEFT"]) : ∃ c l, Str.ofString k = tx (c :: l) ∧ c ≠ 82 ∧ l.length ≤ 100 := by
  simp only [List.mem_cons, List.not_mem_nil, or_false] at h
  rcases h with rfl | rfl | rfl | rfl | rfl | rfl | rfl | rfl | rfl | rfl | rfl | rfl
  · exact ⟨83, [85, 77], by rw [tx_ofString]; rfl, by decide, by decide⟩
  · exact ⟨67, [79, 85, 78, 84], by rw [tx_ofString]; rfl, by decide, by decide⟩
  · exact ⟨65, [86, 71], by rw [tx_ofString]; rfl, by decide, by decide⟩
  · exact ⟨77, [73, 78], by rw [tx_ofString]; rfl, by decide, by decide⟩
  · exact ⟨77, [65, 88], by rw [tx_ofString]; rfl, by decide, by decide⟩
  · exact ⟨65, [78, 68], by rw [tx_ofString]; rfl, by decide, by decide⟩
  · exact ⟨79, [82], by rw [tx_ofString]; rfl, by decide, by decide⟩
  · exact ⟨74, [79, 73, 78], by rw [tx_ofString]; rfl, by decide, by decide⟩
  · exact ⟨78, [79, 84], by rw [tx_ofString]; rfl, by decide, by decide⟩
  · exact ⟨76, [69, 78], by rw [tx_ofString]; rfl, by decide, by decide⟩
  · exact ⟨65, [66, 83], by rw [tx_ofString]; rfl, by decide, by decide⟩
  · exact ⟨76, [69, 70, 84], by rw [tx_ofString]; rfl, by decide, by decide⟩
theorem called_1 (k : String) (hk : k ∈ ["SUM", "COUNT", "AVG", "MIN", "MAX", "AND", "OR", "JOIN", "NOT", "LEN", "ABS", "LEFT", "ROUND"]) (as : List Arg) (x2 x3 : Option DV) : b_l_called_1 (S4 k as x2 x3) = b_l_called_2 (S4 k as x2 x3) := by
  have hc : rC (S4 k as x2 x3) = some (.ok (.p (.bl false)) []) := by
    by_cases h : k = "ROUND"
    · subst h; exact rC_round _ [] rfl
    · have hk' : k ∈ ["SUM", "COUNT", "AVG", "MIN", "MAX", "AND", "OR", "JOIN", "NOT", "LEN", "ABS", "LEFT"] := by
        simp only [List.mem_cons, List.not_mem_nil, or_false] at hk ⊢
        rcases hk with q | q | q | q | q | q | q | q | q | q | q | q | q <;> first | exact absurd q h | simp [q]
      obtain ⟨c, l, h1, h2, h3⟩ := nonR hk'
      exact rC_no k c l h1 h2 h3 _ [] rfl
  exact if_no _ _ _ hc _ _
theorem called_R (r k : String) (hk : (r, k) ∈ R5) (as : List Arg) (x2 x3 : Option DV) : b_l_called_1 (S4 r as x2 x3) = b_l_called_2 (S4 k as x2 x3) := by
  obtain ⟨l, h1, h2, h3, h4, _⟩ := rname hk
  have hc : rC (S4 r as x2 x3) = some (.ok (.p (.bl true)) []) := rC_yes r l h1 h4 h3 _ [] rfl
  have hs := sl_one r l h1 h3
  rw [← h2] at hs
  have ha : sAsg (mSlE (mVar 0) (pSome (mC (.int 1))) pNone) (gN 0) (S4 r as x2 x3) = some (.nx, S4 k as x2 x3) := by
    simp [-e_slS, e_bnd, e_lift, hs]
  show sSeq (sIf rC (sAsg (mSlE (mVar 0) (pSome (mC (.int 1))) pNone) (gN 0)) sNil) b_l_called_2 (S4 r as x2 x3) = _
  rw [seq_nx _ _ _ (S4 k as x2 x3) (by rw [sif_t _ _ _ _ [] hc]; exact ha)]
/-! the end, by the name -/
@[simp] theorem e_inSL (x : Str) (ds : List D) : inD (.str x) (.lst ds) = if (shp (.str x) && shp (.lst ds)) = true then some (ds.any fun z => deq z (.str x)) else none := rfl
noncomputable def in5E : EM := mBin dIn (mVar 0) (disp .lst (aCons (mC (.str (PySem.Str.ofString "SUM"))) (aCons (mC (.str (PySem.Str.ofString "COUNT"))) (aCons (mC (.str (PySem.Str.ofString "AVG"))) (aCons (mC (.str (PySem.Str.ofString "MIN"))) (aCons (mC (.str (PySem.Str.ofString "MAX"))) aNil))))))
theorem in5_run (k : String) (l : List (Option DV)) (M : List O) (h : gv l 0 = some (.p (.str (Str.ofString k)))) : in5E ⟨l, M⟩ = some (.ok (.p (.bl (decide (k ∈ N5)))) M) := by
  unfold in5E
  by_cases hk : k ∈ N5
  · rw [decide_eq_true hk]
    simp only [N5, List.mem_cons, List.not_mem_nil, or_false] at hk
    rcases hk with q | q | q | q | q <;> subst q <;> simp [e_bnd, h]
  · rw [decide_eq_false hk]
    simp only [N5, List.mem_cons, List.not_mem_nil, or_false, not_or] at hk
    obtain ⟨h1, h2, h3, h4, h5⟩ := hk
    simp [e_bnd, h, Ne.symm h1, Ne.symm h2, Ne.symm h3, Ne.symm h4, Ne.symm h5]
noncomputable def in2E : EM := mBin dIn (mVar 0) (disp .lst (aCons (mC (.str (PySem.Str.ofString "AND"))) (aCons (mC (.str (PySem.Str.ofString "OR"))) aNil)))
theorem in2_run (k : String) (l : List (Option DV)) (M : List O) (h : gv l 0 = some (.p (.str (Str.ofString k)))) : in2E ⟨l, M⟩ = some (.ok (.p (.bl (decide (k = "AND" ∨ k = "OR")))) M) := by
  unfold in2E
  by_cases hk : k = "AND" ∨ k = "OR"
  · rw [decide_eq_true hk]
    rcases hk with q | q <;> subst q <;> simp [e_bnd, h]
  · rw [decide_eq_false hk]
    rw [not_or] at hk
    simp [e_bnd, h, Ne.symm hk.1, Ne.symm hk.2]
theorem c2_num (k : String) (hk : k ∈ N5) (as : List Arg) (ha : AsOk as) (x2 x3 : Option DV) : ∃ s, b_l_called_2 (S4 k as x2 x3) = some (.rt (.p ((numRO k (nums as)).getD (er "value"))), s) := by
  have hi := in5_run k (S4 k as x2 x3).l [] rfl
  rw [decide_eq_true hk] at hi
  exact ⟨_, if_yes _ _ _ hi _ _ _ _ (ret_run _ _ _ [] (cA2 m_l_counted (mVar 0) (mVar 1) _ [] _ _ _ rfl rfl (counted_spec k hk as ha)))⟩
theorem c2_3 (k : String) (hk : k ∉ N5) (as : List Arg) (x2 x3 : Option DV) : b_l_called_2 (S4 k as x2 x3) = b_l_called_3 (S4 k as x2 x3) := by
  have hi := in5_run k (S4 k as x2 x3).l [] rfl
  rw [decide_eq_false hk] at hi
  exact if_no _ _ _ hi _ _
theorem nin_var (j : Nat) (l : List (Option DV)) (M : List O) (d z : D) (b : Bool) (h : gv l j = some (.p z)) (hi : inD d z = some b) : mBin dNin (mC d) (mVar j) ⟨l, M⟩ = some (.ok (.p (.bl (!b))) M) := by
  simp [e_bnd, h, hi]
theorem c2_log (k : String) (hk : k = "AND" ∨ k = "OR") (as : List Arg) (ha : AsOk as) (x2 x3 : Option DV) : ∃ s, b_l_called_2 (S4 k as x2 x3) = some (.rt (.p ((logO k (trus as)).getD (er "value"))), s) := by
  have hi := in2_run k (S4 k as x2 x3).l [] rfl
  rw [decide_eq_true hk] at hi
  have ht := truths_spec as ha
  generalize trus as = ts at *
  have hin : inD .non (En.en ts) = some (decide (none ∈ ts)) := (inD_en (α := Option Bool) none ts (by decide)).trans (by congr)
  have hiF : inD (.bl false) (En.en ts) = some (decide (some false ∈ ts)) := (inD_en (α := Option Bool) (some false) ts (by decide)).trans (by congr)
  have hiT : inD (.bl true) (En.en ts) = some (decide (some true ∈ ts)) := (inD_en (α := Option Bool) (some true) ts (by decide)).trans (by congr)
  have q1 := seq_asg (mCallB 1 m_l_truths (aCons (mVar 1) aNil)) (gN 3) (sSeq (sIf (mBin dIn (mC .non) (mVar 3)) (sRet (disp .tup (aCons (mC (.str (PySem.Str.ofString "error"))) (aCons (mC (.str (PySem.Str.ofString "value"))) aNil)))) sNil)
    (sSeq (sIf (mBin dEq (mVar 0) (mC (.str (PySem.Str.ofString "AND")))) (sRet (disp .tup (aCons (mC (.str (PySem.Str.ofString "bool"))) (aCons (mBin dNin (mC (.bl false)) (mVar 3)) aNil)))) sNil)
    (sRet (disp .tup (aCons (mC (.str (PySem.Str.ofString "bool"))) (aCons (mBin dIn (mC (.bl true)) (mVar 3)) aNil)))))) (S4 k as x2 x3) (S4 k as x2 (some (.p (En.en ts)))) _ [] (cB1 m_l_truths (mVar 1) _ [] _ _ rfl ht) rfl
  have main : ∃ s, (sSeq (sIf (mBin dIn (mC .non) (mVar 3)) (sRet (disp .tup (aCons (mC (.str (PySem.Str.ofString "error"))) (aCons (mC (.str (PySem.Str.ofString "value"))) aNil)))) sNil)
    (sSeq (sIf (mBin dEq (mVar 0) (mC (.str (PySem.Str.ofString "AND")))) (sRet (disp .tup (aCons (mC (.str (PySem.Str.ofString "bool"))) (aCons (mBin dNin (mC (.bl false)) (mVar 3)) aNil)))) sNil)
    (sRet (disp .tup (aCons (mC (.str (PySem.Str.ofString "bool"))) (aCons (mBin dIn (mC (.bl true)) (mVar 3)) aNil)))))) (S4 k as x2 (some (.p (En.en ts)))) = some (.rt (.p ((logO k ts).getD (er "value"))), s) := by
    have c1 := in_var 3 (S4 k as x2 (some (.p (En.en ts)))).l [] .non (En.en ts) _ rfl hin
    unfold logO
    by_cases h : none ∈ ts
    · rw [if_pos h]
      rw [decide_eq_true h] at c1
      exact ⟨_, if_yes _ _ _ c1 _ _ _ _ (ret_run _ _ _ [] (ertup "error" "value" _ _))⟩
    · rw [if_neg h, Option.getD_some]
      rw [decide_eq_false h] at c1
      rw [if_no _ _ _ c1]
      rcases hk with rfl | rfl
      · rw [if_pos rfl]
        have : (!decide (some false ∈ ts)) = ts.all fun o => o == some true := by
          rw [Bool.eq_iff_iff, Bool.not_eq_true', decide_eq_false_iff_not, List.all_eq_true]
          refine ⟨fun q o ho => ?_, fun q hf => by have := q _ hf; revert this; decide⟩
          cases o with
          | none => exact absurd ho h
          | some b => cases b with
            | true => rfl
            | false => exact absurd ho q
        rw [← this]
        exact ⟨_, at_yes 0 "AND" _ [] rfl _ _ _ _ (ret_run _ _ _ [] (tB _ _ _ _ (nin_var 3 _ [] _ _ _ rfl hiF)))⟩
      · rw [if_neg (by decide)]
        have : decide (some true ∈ ts) = ts.any fun o => o == some true := by
          rw [Bool.eq_iff_iff, decide_eq_true_eq, List.any_eq_true]
          refine ⟨fun q => ⟨_, q, rfl⟩, fun ⟨o, ho, e⟩ => ?_⟩
          rw [eq_of_beq e] at ho; exact ho
        rw [← this, at_no 0 "OR" "AND" (by decide) _ _ rfl]
        exact ⟨_, ret_run _ _ _ [] (tB _ _ _ _ (in_var 3 _ [] _ _ _ rfl hiT))⟩
  obtain ⟨s, hs⟩ := main
  refine ⟨s, (c2_3 k (by rcases hk with rfl | rfl <;> decide) as x2 x3).trans ?_⟩
  exact if_yes _ _ _ hi _ _ _ _ (q1.trans hs)
theorem c2_4 (k : String) (h1 : k ∉ N5) (h2 : ¬ (k = "AND" ∨ k = "OR")) (as : List Arg) (x2 x3 : Option DV) : b_l_called_2 (S4 k as x2 x3) = b_l_called_4 (S4 k as x2 x3) := by
  have hi := in2_run k (S4 k as x2 x3).l [] rfl
  rw [decide_eq_false h2] at hi
  refine (c2_3 k h1 as x2 x3).trans ?_
  exact if_no _ _ _ hi _ _
theorem itB1 (f : List DV → List O → Option (Rs DV)) (j : Nat) (l : List (Option DV)) (M : List O) (d : DV) (xs : List D) (h1 : gv l j = some d) (e : f [d] M = some (.ok (.p (.lst xs)) M)) : mItD itL (mCallB 1 f (aCons (mVar j) aNil)) ⟨l, M⟩ = some (.ok (xs.map .p) M) := by
  rw [e_itD, e_bnd, cB1 f (mVar j) l M _ _ (var_run j l M _ h1) e]
  rfl
theorem c2_join (as : List Arg) (ha : AsOk as) (x2 x3 : Option DV) : ∃ s, b_l_called_2 (S4 "JOIN" as x2 x3) = some (.rt (.p (tv (jn (vals as)))), s) := by
  have hv := vals_ok ha
  have hl := vals_len ha
  refine ⟨_, (c2_4 "JOIN" (by decide) (by decide) as x2 x3).trans (at_yes 0 "JOIN" _ [] rfl _ _ _ _ (ret_run _ _ _ [] (join_run m_l_as_text m_l_joined _ 2 _ [] (vals as) _ (by simp) (itB1 m_l_all 1 _ [] _ _ rfl (all_spec as (by omega))) (fun v h => as_text_spec v (hv v h)) hv hl (joined_spec _ (by have := jn_len hv hl; omega)))))⟩
theorem c2_5 (k : String) (h1 : k ∉ N5) (h2 : ¬ (k = "AND" ∨ k = "OR")) (h3 : k ≠ "JOIN") (as : List Arg) (ha : AsOk as) (x2 x3 : Option DV) (r : D) (hr : m_l_single [.str (Str.ofString k), .lst ((vals as).map enc)] = some (.ok r)) : b_l_called_2 (S4 k as x2 x3) = some (.rt (.p r), S4 k as x2 x3) := by
  refine (c2_4 k h1 h2 as x2 x3).trans ?_
  unfold b_l_called_4
  rw [at_no 0 k "JOIN" h3 _ _ rfl]
  exact ret_run _ _ _ [] (cA2 m_l_single (mVar 0) _ _ [] _ _ _ rfl (cB1 m_l_all (mVar 1) _ [] _ _ rfl (all_spec as (by have := vals_len ha; omega))) hr)
theorem called_spec (r k : String) (as : List Arg) (ha : AsOk as) (hk : OkC r k as) : m_l_called [.str (Str.ofString r), encAs as] = some (.ok (res (er "value") k as)) := by
  have hall := all_spec as (by have := vals_len ha; omega)
  have hit := itB1 m_l_all 1 (S4 r as none none).l [] _ _ rfl hall
  have main : ∃ s, b_l_called (S4 r as none none) = some (.rt (.p (res (er "value") k as)), s) := by
    unfold res
    cases he : (vals as).filter isErr with
    | cons v vs =>
      obtain ⟨s, e⟩ := bad_yes (some (.p (.str (Str.ofString r)))) (some (.p (encAs as))) none (vals as) none v vs he
      refine ⟨s, ?_⟩
      show sSeq (sFor (mItD itL (mCallB 1 m_l_all (aCons (mVar 1) aNil))) (gN 2) badB) b_l_called_1 (S4 r as none none) = _
      rw [e_seq, e_for, e_lift, hit]
      dsimp only
      rw [e]
    | nil =>
      obtain ⟨y2, e⟩ := bad_no (some (.p (.str (Str.ofString r)))) (some (.p (encAs as))) none (vals as) none he
      have h1 : b_l_called (S4 r as none none) = b_l_called_1 (S4 r as y2 none) := by
        show sSeq (sFor (mItD itL (mCallB 1 m_l_all (aCons (mVar 1) aNil))) (gN 2) badB) b_l_called_1 (S4 r as none none) = _
        rw [seq_nx _ _ _ (S4 r as y2 none) (by rw [e_for, e_lift, hit]; exact e)]
      rw [h1]
      cases hk with
      | num k as h =>
        have : resB r as = numRO r (nums as) := by unfold resB; rw [if_pos h]
        rw [this, called_1 r (by simp only [N5, List.mem_cons, List.not_mem_nil, or_false] at h; rcases h with q | q | q | q | q <;> subst q <;> simp)]
        exact c2_num r h as ha _ _
      | rel r k as h =>
        obtain ⟨_, _, _, _, _, h'⟩ := rname h
        have : resB k as = numRO k (nums as) := by unfold resB; rw [if_pos h']
        rw [this, called_R r k h]
        exact c2_num k h' as ha _ _
      | log k as h =>
        have : resB r as = logO r (trus as) := by unfold resB; rw [if_neg (by rcases h with rfl | rfl <;> simp [N5]), if_pos h]
        rw [this, called_1 r (by rcases h with rfl | rfl <;> simp)]
        exact c2_log r h as ha _ _
      | join as =>
        rw [called_1 "JOIN" (by simp)]
        exact c2_join as ha _ _
      | one k a h =>
        have hva := ha.2 (.one a) List.mem_cons_self |>.2 a List.mem_cons_self
        rw [called_1 r (by rcases h with rfl | rfl | rfl <;> simp)]
        rcases h with rfl | rfl | rfl
        · exact ⟨_, c2_5 "NOT" (by decide) (by decide) (by decide) [.one a] ha _ _ _ (l_not a [])⟩
        · exact ⟨_, c2_5 "LEN" (by decide) (by decide) (by decide) [.one a] ha _ _ _ (l_len a hva [])⟩
        · exact ⟨_, c2_5 "ABS" (by decide) (by decide) (by decide) [.one a] ha _ _ _ (l_abs a [])⟩
      | two k a b h =>
        have hva := ha.2 (.one a) List.mem_cons_self |>.2 a List.mem_cons_self
        rw [called_1 r (by rcases h with rfl | rfl <;> simp)]
        rcases h with rfl | rfl
        · exact ⟨_, c2_5 "LEFT" (by decide) (by decide) (by decide) [.one a, .one b] ha _ _ _ (l_left a b hva)⟩
        · exact ⟨_, c2_5 "ROUND" (by decide) (by decide) (by decide) [.one a, .one b] ha _ _ _ (l_round a b hva)⟩
  obtain ⟨s, hs⟩ := main
  exact runA_of hs
end Law
namespace Law
open PySem L2 DL
/-! results that can be shown -/
theorem good_numD {n : Int} (h : Small n) : Good (numD n) := good_int "num" n (by decide) h
theorem good_tD (b : Bool) : Good (tD b) := good_bl "bool" b (by decide)
theorem nums_small {as : List Arg} (h : AsOk as) : ∀ n, some n ∈ nums as → Small n := fun n hn => by
  obtain ⟨a, ha, hn⟩ := List.mem_flatMap.mp hn
  have ok := (h.2 a ha).2
  cases a with
  | one v =>
    have hn : some n ∈ [numO v] := hn
    exact numO_small (ok v List.mem_cons_self) (List.mem_singleton.mp hn).symm
  | many l =>
    obtain ⟨v, hv, e⟩ := List.mem_map.mp hn
    obtain ⟨h1, h2⟩ := List.mem_filter.mp hv
    have := ok v h1
    cases v with
    | num m => injection e with e; subst e; exact this
    | _ => cases h2
theorem min_small {ns : List Int} (h : ∀ n ∈ ns, Small n) : Small (minDf ns 0) := by
  cases ns with
  | nil => exact ⟨by decide, by decide⟩
  | cons n r => exact h _ (foldl_min_mem r n).1
theorem max_small {ns : List Int} (h : ∀ n ∈ ns, Small n) : Small (maxDf ns 0) := by
  cases ns with
  | nil => exact ⟨by decide, by decide⟩
  | cons n r => exact h _ (foldl_max_mem r n).1
theorem good_core (k : String) {ns : List Int} (h : ∀ n ∈ ns, Small n) (hl : ns.length ≤ 1000) : Good (core k ns) := by
  unfold core
  split
  · exact good_nv _
  · split
    · exact good_numD ⟨by omega, by omega⟩
    · split
      · unfold avg
        split
        · exact good_er "zero" (by decide)
        · exact good_nv _
      · split
        · exact good_numD (min_small h)
        · exact good_numD (max_small h)
theorem good_numRO (k : String) {as : List Arg} (h : AsOk as) (d : D) (e : numRO k (nums as) = some d) : Good d := by
  have hs := nums_small h
  have hl := nums_len h
  generalize nums as = os at *
  unfold numRO at e
  split at e
  · cases e
  · rename_i hh
    cases e
    obtain ⟨ns, rfl⟩ := all_some hh
    rw [tri]
    exact good_core k (fun n hn => hs n (List.mem_map.mpr ⟨n, hn, rfl⟩)) (by simp at hl; omega)
theorem chars_take {l : List Nat} (h : ∀ c ∈ l, c < 1114112) (n : Nat) : ∀ c ∈ l.take n, c < 1114112 := fun c hc => h c (List.mem_of_mem_take hc)
theorem jn_chars {vs : List Vl} (h : ∀ v ∈ vs, Vok v) (ne : ∀ v ∈ vs, noErr v) : ∀ c ∈ jn vs, c < 1114112 := fun c hc => by
  unfold jn at hc
  obtain ⟨l, hl, hc⟩ := List.mem_flatten.mp hc
  obtain ⟨v, hv, rfl⟩ := List.mem_map.mp hl
  exact txt_ok v (h v hv) (ne v hv) c hc
theorem good_tv {l : List Nat} (h : ∀ c ∈ l, c < 1114112) : Good (tv l) := by
  unfold tv
  split
  · exact good_er "range" (by decide)
  · exact good_str "text" _ (by decide) (strOk_tx _ h) (by rw [tx_len]; omega)
theorem no_errs {vs : List Vl} (h : vs.filter isErr = []) : ∀ v ∈ vs, noErr v := fun v hv => by
  rcases err_or v with e | e
  · have : v ∈ vs.filter isErr := List.mem_filter.mpr ⟨hv, e⟩
    rw [h] at this; cases this
  · exact e
theorem good_left {a b : Vl} (ha : Vok a) (na : noErr a) (d : D) (e : leftO a b = some d) : Good d := by
  unfold leftO at e
  split at e
  · split at e
    · cases e
    · cases e
      refine good_str "text" _ (by decide) (strOk_tx _ (chars_take (txt_ok a ha na) _)) ?_
      rw [tx_len]
      have := txt_len60 a ha
      exact Nat.le_trans (List.length_take_le' _ _) (by omega)
  · cases e
theorem good_rnd {a b : Vl} (ha : Vok a) (d : D) (e : rndO a b = some d) : Good d := by
  unfold rndO at e
  split at e
  · rename_i n p h1 h2
    split at e
    · rename_i hp
      cases e
      obtain ⟨s0, s1, m, hm⟩ := stp_ok p hp
      exact good_numD (rnd_small n _ m s0 hm (numO_small ha h1))
    · cases e
  · cases e
theorem good_log (k : String) (ts : List (Option Bool)) (d : D) (e : logO k ts = some d) : Good d := by
  unfold logO at e
  split at e
  · cases e
  · cases e
    split
    · exact good_tD _
    · exact good_tD _
theorem good_one {k : String} {a : Vl} (ha : Vok a) (d : D) (e : resO1 k a = some d) : Good d := by
  unfold resO1 at e
  split at e
  · unfold notO at e
    cases h : truO a with
    | none => rw [h] at e; cases e
    | some b => rw [h] at e; cases e; exact good_tD _
  · split at e
    · cases e
      have := txt_len60 a ha
      exact good_numD ⟨by omega, by omega⟩
    · unfold absO at e
      cases h : numO a with
      | none => rw [h] at e; cases e
      | some n => rw [h] at e; cases e; exact good_numD (abs_small (numO_small ha h))
theorem good_resB {r k : String} {as : List Arg} (ha : AsOk as) (hk : OkC r k as) (hn : (vals as).filter isErr = []) (d : D) (e : resB k as = some d) : Good d := by
  cases hk with
  | num k as h =>
    have : resB r as = numRO r (nums as) := by unfold resB; rw [if_pos h]
    rw [this] at e; exact good_numRO r ha d e
  | rel r k as h =>
    obtain ⟨_, _, _, _, _, h'⟩ := rname h
    have : resB k as = numRO k (nums as) := by unfold resB; rw [if_pos h']
    rw [this] at e; exact good_numRO k ha d e
  | log k as h =>
    have : resB r as = logO r (trus as) := by unfold resB; rw [if_neg (by rcases h with rfl | rfl <;> simp [N5]), if_pos h]
    rw [this] at e; exact good_log r _ d e
  | join as =>
    have : resB "JOIN" as = some (tv (jn (vals as))) := rfl
    rw [this] at e; cases e
    exact good_tv (jn_chars (vals_ok ha) (no_errs hn))
  | one k a h =>
    have hva := ha.2 (.one a) List.mem_cons_self |>.2 a List.mem_cons_self
    have : resB r [.one a] = resO1 r a := by rcases h with rfl | rfl | rfl <;> rfl
    rw [this] at e; exact good_one hva d e
  | two k a b h =>
    have hva := ha.2 (.one a) List.mem_cons_self |>.2 a List.mem_cons_self
    have hna := no_errs hn a List.mem_cons_self
    rcases h with rfl | rfl
    · exact good_left hva hna d e
    · exact good_rnd hva d e
theorem res_two {r k : String} {as : List Arg} (ha : AsOk as) (hk : OkC r k as) : ∃ t, dRepr (res k_WRONG_VALUE k as) = some t ∧ dRepr (res (er "value") k as) = some t ∧ eqD t t = some true ∧ eqD (res k_WRONG_VALUE k as) (res k_WRONG_VALUE k as) = some true := by
  unfold res
  cases hn : (vals as).filter isErr with
  | cons v vs =>
    have hv : v ∈ (vals as).filter isErr := by rw [hn]; exact List.mem_cons_self
    obtain ⟨h1, h2⟩ := List.mem_filter.mp hv
    have ok := vals_ok ha v h1
    cases v with
    | err k =>
      obtain ⟨g, t, g1, g2⟩ := good_er k ok
      exact ⟨t, g1, g1, g2, g⟩
    | _ => cases h2
  | nil =>
    dsimp only
    cases hb : resB k as with
    | some d =>
      obtain ⟨g, t, g1, g2⟩ := good_resB ha hk hn d hb
      exact ⟨t, g1, g1, g2, g⟩
    | none =>
      obtain ⟨g, t, g1, g2⟩ := good_er "value" (by decide)
      refine ⟨t, ?_, g1, g2, eqD_refl (by simp [k_WRONG_VALUE]) (by simp [k_WRONG_VALUE])⟩
      show dRepr k_WRONG_VALUE = some t
      have : dRepr k_WRONG_VALUE = dRepr (er "value") := rfl
      rw [this]; exact g1
end Law
namespace Law
open PySem L2 DL
/-! what is drawn -/
theorem wp_valueX {n : Nat} {sv : DV} {R M : List O} {P : DV → List O → Prop} (h : Dx n sv R M) (k : ∀ v M', Dx n sv R M' → Vok v → P (.p (enc v)) M') : wpB (m_l_value [sv] M) P := by
  simp [m_l_value, b_l_value, take_eq]
  refine wp_takeX h (by decide) fun r M1 d1 _ b1 => ?_
  have b1 := b1 (by decide)
  have hM : ∀ {M2} {d : D}, Dx n sv R M2 → dropM M.length (.p d) M2 = M2 := fun d => Dx.same h d
  simp
  refine ⟨fun h0 => ?_, fun h0 => ⟨fun h4 => ?_, fun h4 => ⟨fun h5 => ?_, fun h5 => ⟨fun h7 => ?_, fun h7 => ⟨fun h8 => ?_, fun h8 => ?_⟩⟩⟩⟩⟩
  · rw [hM d1]; exact k .non _ d1 trivial
  · refine wp_takeX d1 (by decide) fun q M2 d2 _ q1 => ?_
    have q1 := q1 (by decide)
    obtain ⟨z, hz, mz⟩ := at_mem (xs := [D.int 0, .int 10000, .int (-10000), .int 25000, .int 1, .int (-1), .int 1000000000000000, .int (-1000000000000000), .int 30000, .int 100000]) q1.1 q1.2
    simp only [List.mem_cons, List.not_mem_nil, or_false] at mz
    rcases mz with m | m | m | m | m | m | m | m | m | m <;> subst m <;> simp [hz, hM d2] <;> exact k (.num _) _ d2 (by unfold Vok; omega)
  · refine wp_takeX d1 (by decide) fun q M2 d2 _ q1 => ?_
    have q1 := q1 (by decide)
    simp [hM d2]
    exact k (.num _) _ d2 (by unfold Vok; omega)
  · simp [t_nil, u_a, u_b, u_ab, t_TRUE, u_1, u_z, u_B, u_x, u_z60, u_x30]
    refine wp_takeX d1 (by decide) fun q M2 d2 _ q1 => ?_
    have q1 := q1 (by decide)
    obtain ⟨z, hz, mz⟩ := at_mem (xs := TXS.map fun l => D.str (tx l)) q1.1 q1.2
    have hz' := hz
    obtain ⟨l, ml, rfl⟩ := List.mem_map.mp mz
    simp [TXS] at hz'
    simp [hz', hM d2]
    exact k (.text l) _ d2 ((by decide : ∀ l ∈ TXS, l.length ≤ 60 ∧ ∀ c ∈ l, c < 1114112) l ml)
  · refine wp_takeX d1 (by decide) fun q M2 d2 _ q1 => ?_
    simp [hM d2]
    exact k (.bool _) _ d2 trivial
  · refine wp_takeX d1 (by decide) fun q M2 d2 _ q1 => ?_
    have q1 := q1 (by decide)
    obtain ⟨z, hz, mz⟩ := at_mem (xs := [D.str (Str.ofString "value"), .str (Str.ofString "zero"), .str (Str.ofString "range"), .str (Str.ofString "name"), .str (Str.ofString "cycle")]) q1.1 q1.2
    simp only [List.mem_cons, List.not_mem_nil, or_false] at mz
    rcases mz with m | m | m | m | m <;> subst m <;> simp [hz, hM d2] <;> exact k (.err _) _ d2 (by show List.length _ ≤ 10; decide)
noncomputable def clB : SM := (sSeq (sAsg (mCallB 1 m_l_value (aCons (mVar 0) aNil)) (gN 2))
  (sIf (mNot (mTru (mCallA 1 m_l_bad (aCons (mVar 2) aNil)))) (sRet (mVar 2)) sNil))
theorem clean_eq : b_l_clean = sSeq (sFor (mRng rng1D (aCons (mC (.int 9)) aNil)) (gN 1) clB) (sRet (mC .non)) := rfl
theorem not_bad (l : List (Option DV)) (M : List O) (v : Vl) (h : gv l 2 = some (.p (enc v))) : mNot (mTru (mCallA 1 m_l_bad (aCons (mVar 2) aNil))) ⟨l, M⟩ = some (.ok (.p (.bl (!isErr v))) M) := by
  rw [e_not, e_bnd, bad_run l M v h]
  cases isErr v <;> rfl
theorem wp_cleanX {n : Nat} {sv : DV} {R M : List O} {P : DV → List O → Prop} (h : Dx n sv R M) (k : ∀ v M', Dx n sv R M' → Vok v → P (.p (enc v)) M') : wpB (m_l_clean [sv] M) P := by
  unfold m_l_clean
  rw [w_runB, clean_eq]
  show wpS ((_ : SM) ⟨[some sv, none, none], M⟩) _
  refine w_forT _ _ _ _ _ _ (wp_rng1 ⟨_, M, rfl, 9, rfl, by decide, ?_⟩)
  refine wpS.imp (w_loop (Inv := fun s => ∃ x1 x2 M', s = ⟨[some sv, x1, x2], M'⟩ ∧ Dx n sv R M') (R := fun v s => ∃ u, v = .p (enc u) ∧ Vok u ∧ Dx n sv R s.m) _ _ ⟨none, none, M, rfl, h⟩ fun d _ s hs => ?_) fun f s2 hf => ?_
  · obtain ⟨x1, x2, M1, rfl, d1⟩ := hs
    refine ⟨_, rfl, ?_⟩
    unfold clB
    refine w_asgT _ 2 _ _ _ (w_call1 m_l_value 0 _ _ sv _ rfl (wp_valueX d1 fun v M2 d2 hv => ?_))
    have hb := not_bad [some sv, some d, some (.p (enc v))] M2 v rfl
    cases q : isErr v with
    | true =>
      rw [q] at hb
      exact w_ifZ _ _ _ M2 _ hb (.inl ⟨rfl, _, _, _, rfl, d2⟩)
    | false =>
      rw [q] at hb
      show wpS (sIf _ _ _ ⟨[some sv, some d, some (.p (enc v))], M2⟩) _
      rw [sif_t _ _ _ _ M2 hb, ret_run _ _ _ M2 rfl]
      exact ⟨_, _, rfl, rfl, .inr ⟨_, rfl, v, rfl, hv, d2⟩⟩
  · rcases hf with ⟨rfl, x1, x2, M1, rfl, d1⟩ | ⟨v, rfl, u, rfl, hu, d1⟩
    · rw [w_andN]
      refine ⟨_, _, ret_run (mC .non) _ _ M1 rfl, rfl, ?_⟩
      show P _ (dropM M.length (.p .non) M1)
      rw [Dx.same h d1]
      exact k .non _ d1 trivial
    · rw [w_andR]
      show P _ (dropM M.length (.p (enc u)) s2.m)
      rw [Dx.same h d1]
      exact k u _ d1 hu
theorem wp_pair {n : Nat} {sv : DV} {R M : List O} {l : List (Option DV)} {P : DV → List O → Prop} (h0 : gv l 0 = some sv) (h : Dx n sv R M) (k : ∀ u v M', Dx n sv R M' → Vok u → Vok v → P (.p (.lst [enc u, enc v])) M') : wpB (disp .lst (aCons (mCallB 1 m_l_clean (aCons (mVar 0) aNil)) (aCons (mCallB 1 m_l_value (aCons (mVar 0) aNil)) aNil)) ⟨l, M⟩) P := by
  rw [e_disp, w_bnd, e_aCons, w_bnd]
  refine w_call1 m_l_clean 0 l M sv _ h0 (wp_cleanX h fun u M1 d1 hu => ?_)
  rw [w_bnd, e_aCons, w_bnd]
  refine w_call1 m_l_value 0 l M1 sv _ h0 (wp_valueX d1 fun v M2 d2 hv => ?_)
  simp
  exact k u v M2 d2 hu hv
theorem at_bool (x y : D) (b : Bool) : atI [x, y] (if b = true then 1 else 0) = some (if b = true then y else x) := by
  cases b
  · exact atI0 x [y]
  · exact atI1 x y []
/-- one of the two, by a truth -/
theorem wp_pick2 {n : Nat} {sv : DV} {R M : List O} {l : List (Option DV)} {iE : EM} {P : DV → List O → Prop} (h0 : gv l 0 = some sv) (h : Dx n sv R M)
    (hi : ∀ M1, Dx n sv R M1 → wpB (iE ⟨l, M1⟩) fun d M2 => ∃ b : Bool, d = .p (.int (if b = true then 1 else 0)) ∧ Dx n sv R M2)
    (k : ∀ v M', Dx n sv R M' → Vok v → P (.p (enc v)) M') : wpB (mIx (disp .lst (aCons (mCallB 1 m_l_clean (aCons (mVar 0) aNil)) (aCons (mCallB 1 m_l_value (aCons (mVar 0) aNil)) aNil))) iE ⟨l, M⟩) P := by
  refine wp_ix (wp_pair h0 h fun u v M1 d1 hu hv => ⟨_, rfl, (hi M1 d1).imp fun d M2 hd => ?_⟩)
  obtain ⟨b, rfl, d2⟩ := hd
  refine ⟨_, _, rfl, at_bool _ _ b, ?_⟩
  cases b
  · exact k u M2 d2 hu
  · exact k v M2 d2 hv
theorem int_e {n : Nat} {sv : DV} {R M : List O} (l : List (Option DV)) (e : Bool) (h1 : gv l 1 = some (.p (.bl e))) (h : Dx n sv R M) : wpB (mCB (g1 dInt) (aCons (mVar 1) aNil) ⟨l, M⟩) fun d M2 => ∃ b : Bool, d = .p (.int (if b = true then 1 else 0)) ∧ Dx n sv R M2 := by
  have q : mCB (g1 dInt) (aCons (mVar 1) aNil) ⟨l, M⟩ = some (.ok (.p (.int (if e = true then 1 else 0))) M) := by simp [e_bnd, h1]
  exact ⟨_, _, q, e, rfl, h⟩
theorem wp_int {me : EM} {s : S} {P : DV → List O → Prop} (h : wpB (me s) fun d M => ∃ b, d = .p (.bl b) ∧ P (.p (.int (if b = true then 1 else 0))) M) : wpB (mCB (g1 dInt) (aCons me aNil) s) P := by
  obtain ⟨d, M, e, b, rfl, p⟩ := h
  exact ⟨_, M, by simp [e_bnd, e], p⟩
theorem wp_isz {n : Nat} {sv : DV} {R M : List O} (l : List (Option DV)) (j : Int) (hj : j < 1000000) (h0 : gv l 0 = some sv) (h : Dx n sv R M) : wpB (mBin dEq (mCallB 2 m_l_take (aCons (mVar 0) (aCons (mC (.int j)) aNil))) (mC (.int 0)) ⟨l, M⟩) fun d M2 => ∃ b : Bool, d = .p (.bl b) ∧ Dx n sv R M2 := by
  rw [e_bin, w_bnd]
  refine w_call2 m_l_take 0 _ l M sv (.p (.int j)) _ h0 rfl (wp_takeX h (by omega) fun r M1 d1 _ _ => ⟨.p (.bl (decide (r = 0))), M1, ?_, _, rfl, d1⟩)
  simp [e_bnd]
theorem wp_and {me mf : EM} {s : S} {P : DV → List O → Prop} (h : wpB (me s) fun d M => ∃ b, d = .p (.bl b) ∧ (b = false → P (.p (.bl false)) M) ∧ (b = true → wpB (mf ⟨s.l, M⟩) P)) : wpB (mAnd me mf s) P := by
  obtain ⟨d, M, e, b, rfl, p, q⟩ := h
  rw [e_and]
  cases b with
  | false => exact ⟨_, M, by rw [e_bnd, e]; rfl, p rfl⟩
  | true =>
    obtain ⟨v, M2, e2, r⟩ := q rfl
    exact ⟨v, M2, by rw [e_bnd, e]; exact e2, r⟩
theorem int_e3 {n : Nat} {sv : DV} {R M : List O} (l : List (Option DV)) (e : Bool) (h0 : gv l 0 = some sv) (h1 : gv l 1 = some (.p (.bl e))) (h : Dx n sv R M) : wpB (mCB (g1 dInt) (aCons (mAnd (mVar 1) (mBin dEq (mCallB 2 m_l_take (aCons (mVar 0) (aCons (mC (.int 3)) aNil))) (mC (.int 0)))) aNil) ⟨l, M⟩) fun d M2 => ∃ b : Bool, d = .p (.int (if b = true then 1 else 0)) ∧ Dx n sv R M2 :=
  wp_int (wp_and ⟨_, M, var_run 1 l M _ h1, e, rfl, fun _ => ⟨false, rfl, false, rfl, h⟩, fun _ => (wp_isz l 3 (by decide) h0 h).imp fun d M2 ⟨b, e, d2⟩ => ⟨b, e, b, rfl, d2⟩⟩)
noncomputable def argB : SM := (sExpr (mMth "list" gApp (mVar 2) (aCons (mIx (disp .lst (aCons (mCallB 1 m_l_clean (aCons (mVar 0) aNil)) (aCons (mCallB 1 m_l_value (aCons (mVar 0) aNil)) aNil))) (mCB (g1 dInt) (aCons (mAnd (mVar 1) (mBin dEq (mCallB 2 m_l_take (aCons (mVar 0) (aCons (mC (.int 3)) aNil))) (mC (.int 0)))) aNil))) aNil)))
theorem app_wp (i n : Nat) (me : EM) (l : List (Option DV)) (M : List O) (P : Fl → S → Prop) (h1 : gv l i = some (.o n)) (h0 : ∃ ds, M[n]? = some (.lst ds)) (h : wpB (me ⟨l, M⟩) fun d M2 => ∃ xs, M2[n]? = some (.lst xs) ∧ xs.length < 1000000 ∧ P .nx ⟨l, M2.set n (.lst (xs ++ [d]))⟩) : wpS (sExpr (mMth "list" gApp (mVar i) (aCons me aNil)) ⟨l, M⟩) P := by
  obtain ⟨ds, h0⟩ := h0
  obtain ⟨d, M2, e, xs, h2, h3, p⟩ := h
  have tk := tyOk_lst h0
  refine ⟨.nx, _, ?_, rfl, p⟩
  simp [e_bnd, e_lift, h1, tk, e, gApp, h2, h3]
theorem argB_step {n : Nat} {sv : DV} {R M : List O} {e : Bool} {vs : List Vl} {x3 : Option DV} {P : Fl → S → Prop} (h : Dx n sv (R ++ [.lst ((vs.map enc).map .p)]) M) (hl : vs.length < 1000) (k : ∀ v M', Dx n sv (R ++ [.lst (((vs ++ [v]).map enc).map .p)]) M' → Vok v → P .nx ⟨[some sv, some (.p (.bl e)), some (.o (n + R.length)), x3], M'⟩) :
    wpS (argB ⟨[some sv, some (.p (.bl e)), some (.o (n + R.length)), x3], M⟩) P := by
  have g : ∀ {M'}, Dx n sv (R ++ [.lst ((vs.map enc).map .p)]) M' → M'[n + R.length]? = some (.lst ((vs.map enc).map .p)) := fun d => by rw [d.get]; simp
  refine app_wp 2 (n + R.length) _ _ _ _ rfl ⟨_, g h⟩ (wp_pick2 rfl h (fun M1 d1 => int_e3 _ e rfl rfl d1) fun v M2 d2 hv => ⟨_, g d2, by simp; omega, k v _ ?_ hv⟩)
  have := d2.set R.length (.lst ((vs.map enc).map .p ++ [.p (enc v)]))
  simpa using this
theorem wp_argument {n : Nat} {sv : DV} {R M : List O} {e : Bool} {P : DV → List O → Prop} (hR : R.all (closed (n + R.length)) = true) (h : Dx n sv R M) (k : ∀ a M', Dx n sv R M' → Aok a → P (.p (encA a)) M') : wpB (m_l_argument [sv, .p (.bl e)] M) P := by
  unfold m_l_argument
  rw [w_runB]
  show wpS (b_l_argument ⟨[some sv, some (.p (.bl e)), none, none], M⟩) _
  unfold b_l_argument
  refine w_ifT _ _ _ _ _ ?_
  have c1 := wp_isz [some sv, some (.p (.bl e)), none, none] 2 (by decide) rfl h
  refine c1.imp fun d M1 hd => ?_
  obtain ⟨b, rfl, d1⟩ := hd
  refine ⟨b, rfl, fun _ => ?_, fun _ => ?_⟩
  · refine w_retT _ _ _ (wp_tup2 (wp_pick2 rfl d1 (fun M2 d2 => int_e _ e rfl d2) fun v M2 d2 hv => ⟨_, rfl, ?_⟩))
    show P (.p (encA (.one v))) (dropM M.length _ M2)
    rw [Dx.same h d2]
    exact k _ _ d2 ⟨by show 1 ≤ 6; decide, fun u hu => by rw [List.mem_singleton.mp hu]; exact hv⟩
  · refine w_asgE _ 2 _ _ _ _ _ (show dispO aNil ⟨[some sv, some (.p (.bl e)), none, none], M1⟩ = some (.ok (.o M1.length) (M1 ++ [.lst []])) from by simp [e_bnd]) ?_
    have dd := d1.app (.lst [])
    rw [d1.len]
    show wpS ((_ : SM) ⟨[some sv, some (.p (.bl e)), some (.o (n + R.length)), none], M1 ++ [.lst []]⟩) _
    refine w_forT _ _ _ _ _ _ (wp_rng1 (w_call2 m_l_take 0 _ _ _ sv (.p (.int 7)) _ rfl rfl (wp_takeX dd (by decide) fun r M2 d2 _ b2 => ?_)))
    have b2 := b2 (by decide)
    refine ⟨r, rfl, rng_ok (by omega) (by omega), ?_⟩
    have lp := w_loopN (g := gN 3) (b := argB) (R := fun _ _ => False) (Inv := fun m s => ∃ vs : List Vl, vs.length = m ∧ (∀ v ∈ vs, Vok v) ∧ ∃ x3 M', s = ⟨[some sv, some (.p (.bl e)), some (.o (n + R.length)), x3], M'⟩ ∧ Dx n sv (R ++ [.lst ((vs.map enc).map .p)]) M') (DL.intsFrom 0 r.toNat) 0 ⟨[some sv, some (.p (.bl e)), some (.o (n + R.length)), none], M2⟩ ⟨[], rfl, by simp, none, M2, rfl, d2⟩ (by
      rintro d hd m _ hm s ⟨vs, hl, hv, x3, M', rfl, d'⟩
      rw [intsFrom_len] at hm
      refine ⟨_, rfl, argB_step d' (by omega) fun v M'' d'' hv' => .inl ⟨rfl, vs ++ [v], by simp [hl], fun u hu => ?_, _, _, rfl, d''⟩⟩
      rcases List.mem_append.mp hu with q | q
      · exact hv u q
      · rw [List.mem_singleton.mp q]; exact hv')
    refine wpS.imp lp fun f s hf => ?_
    rcases hf with ⟨rfl, vs, hl, hv, x3, M3, rfl, d3⟩ | ⟨_, _, q⟩
    · rw [w_andN]
      rw [intsFrom_len] at hl
      have g : M3[n + R.length]? = some (.lst ((vs.map enc).map .p)) := by rw [d3.get]; simp
      refine w_retT _ _ _ (wp_tup2 ⟨_, _, frz_run 2 _ _ M3 _ rfl g, _, rfl, ?_⟩)
      have d4 := d3.set R.length .gone
      rw [List.set_append_right _ _ (Nat.le_refl _)] at d4
      show P (.p (encA (.many vs))) (dropM M.length _ _)
      exact k (.many vs) _ (d4.drop hR h.len) ⟨by show vs.length ≤ 6; omega, hv⟩
    · exact q.elim
end Law
namespace Law
open PySem L2 DL
/-! the calls -/
structure Cl where
  r : String
  k : String
  as : List Arg
def encC (c : Cl) : D := .tup [.str (Str.ofString c.r), encAs c.as]
def okC (c : Cl) : Prop := AsOk c.as ∧ OkC c.r c.k c.as
abbrev cO (cs : List Cl) : O := .lst ((cs.map encC).map .p)
theorem cO_closed (cs : List Cl) (m : Nat) : [cO cs].all (closed m) = true := by
  rw [List.all_cons, closed_data]; rfl
theorem wp_1p {n : Nat} {sv : DV} {R M : List O} {l : List (Option DV)} {j : Int} {Q : DV → List O → Prop} (h0 : gv l 0 = some sv) (hj : j < 1000000) (h1 : 1 ≤ j) (h : Dx n sv R M) (k : ∀ r M', Dx n sv R M' → 1 ≤ r ∧ r ≤ j → Q (.p (.int r)) M') : wpB (mBin dAdd2 (mC (.int 1)) (mCallB 2 m_l_take (aCons (mVar 0) (aCons (mC (.int j)) aNil))) ⟨l, M⟩) Q := by
  rw [e_bin, w_bnd, e_c, w_ok, e_pur, w_bnd]
  refine w_call2 m_l_take 0 _ l M sv (.p (.int j)) _ h0 rfl (wp_takeX h (by omega) fun r M1 d1 _ b1 => ?_)
  have b1 := b1 h1
  exact ⟨_, _, rfl, k (1 + r) M1 d1 (by omega)⟩
theorem wp_args {n : Nat} {sv : DV} {R M : List O} {l : List (Option DV)} {e : Bool} {P : DV → List O → Prop} (h0 : gv l 0 = some sv) (h1 : gv l 1 = some (.p (.bl e))) (h8 : 8 < l.length) (hR : R.all (closed (n + R.length)) = true) (h : Dx n sv R M) (k : ∀ as M', Dx n sv R M' → AsOk as → P (.p (encAs as)) M') :
    wpB (mLc (mRng rng1D (aCons (mBin dAdd2 (mC (.int 1)) (mCallB 2 m_l_take (aCons (mVar 0) (aCons (mC (.int 4)) aNil)))) aNil)) [8] (gN 8) tYesM (mCallB 2 m_l_argument (aCons (mVar 0) (aCons (mVar 1) aNil))) ⟨l, M⟩) P := by
  refine wp_lc (wp_rng1 (wp_1p h0 (by decide) (by decide) h fun r M1 d1 hr => ⟨r, rfl, rng_ok (by omega) (by omega), ?_⟩))
  obtain ⟨ys, M', e2, i2, r2, l2⟩ := compL_draw (l := wipeL l [8]) (g := gN 8) (e := mCallB 2 m_l_argument (aCons (mVar 0) (aCons (mVar 1) aNil))) (Inv := Dx n sv R) (R := fun y => ∃ a, y = encA a ∧ Aok a) (DL.intsFrom 0 r.toNat) [] M1 d1 (by simp) (by simp; omega) (fun d _ M2 d2 => by
    refine ⟨_, rfl, ?_⟩
    have g0 : gv ((l.set 8 none).set 8 (some d)) 0 = some sv := by rw [gv_set, if_neg (by decide), gv_set, if_neg (by decide)]; exact h0
    have g1' : gv ((l.set 8 none).set 8 (some d)) 1 = some (.p (.bl e)) := by rw [gv_set, if_neg (by decide), gv_set, if_neg (by decide)]; exact h1
    exact w_call2 m_l_argument 0 (mVar 1) _ M2 sv (.p (.bl e)) _ g0 (var_run 1 _ M2 _ g1') (wp_argument hR d2 fun a M3 d3 ha => ⟨_, rfl, ⟨a, rfl, ha⟩, d3⟩))
  obtain ⟨as, rfl, has⟩ := list_of r2
  refine ⟨_, M', e2, k as M' i2 ⟨?_, has⟩⟩
  simp at l2; omega
theorem wp_only {n : Nat} {sv : DV} {R M : List O} {l : List (Option DV)} {e : Bool} {P : DV → List O → Prop} (h0 : gv l 0 = some sv) (h1 : gv l 1 = some (.p (.bl e))) (h8 : 8 < l.length) (h : Dx n sv R M) (k : ∀ vs M', Dx n sv R M' → Aok (.many vs) → P (.p (.lst (vs.map enc))) M') :
    wpB (mLc (mRng rng1D (aCons (mBin dAdd2 (mC (.int 1)) (mCallB 2 m_l_take (aCons (mVar 0) (aCons (mC (.int 5)) aNil)))) aNil)) [8] (gN 8) tYesM (mIx (disp .lst (aCons (mCallB 1 m_l_clean (aCons (mVar 0) aNil)) (aCons (mCallB 1 m_l_value (aCons (mVar 0) aNil)) aNil))) (mCB (g1 dInt) (aCons (mVar 1) aNil))) ⟨l, M⟩) P := by
  refine wp_lc (wp_rng1 (wp_1p h0 (by decide) (by decide) h fun r M1 d1 hr => ⟨r, rfl, rng_ok (by omega) (by omega), ?_⟩))
  obtain ⟨ys, M', e2, i2, r2, l2⟩ := compL_draw (l := wipeL l [8]) (g := gN 8) (e := mIx (disp .lst (aCons (mCallB 1 m_l_clean (aCons (mVar 0) aNil)) (aCons (mCallB 1 m_l_value (aCons (mVar 0) aNil)) aNil))) (mCB (g1 dInt) (aCons (mVar 1) aNil))) (Inv := Dx n sv R) (R := fun y => ∃ v, y = enc v ∧ Vok v) (DL.intsFrom 0 r.toNat) [] M1 d1 (by simp) (by simp; omega) (fun d _ M2 d2 => by
    refine ⟨_, rfl, ?_⟩
    have g0 : gv ((l.set 8 none).set 8 (some d)) 0 = some sv := by rw [gv_set, if_neg (by decide), gv_set, if_neg (by decide)]; exact h0
    have g1' : gv ((l.set 8 none).set 8 (some d)) 1 = some (.p (.bl e)) := by rw [gv_set, if_neg (by decide), gv_set, if_neg (by decide)]; exact h1
    exact wp_pick2 g0 d2 (fun M3 d3 => int_e _ e g1' d3) fun v M3 d3 hv => ⟨_, rfl, ⟨v, rfl, hv⟩, d3⟩)
  obtain ⟨vs, rfl, hvs⟩ := list_of r2
  refine ⟨_, M', e2, k vs M' i2 ⟨?_, hvs⟩⟩
  show vs.length ≤ 6
  simp at l2; omega
/-- the state of the def that draws the calls -/
abbrev S9 (sv : DV) (e : Bool) (n : Nat) (x3 x4 x5 x6 x7 : Option DV) (M : List O) : S := ⟨[some sv, some (.p (.bl e)), some (.o n), x3, x4, x5, x6, x7, none], M⟩
theorem app_call {n : Nat} {sv : DV} {e : Bool} {cs : List Cl} {x4 x5 x6 x7 : Option DV} {M : List O} {c : String} {me : EM} {P : Fl → S → Prop} (h : Dx n sv [cO cs] M) (hl : cs.length < 1000)
    (hm : wpB (me (S9 sv e n (some (.p (.str (Str.ofString c)))) x4 x5 x6 x7 M)) fun d M2 => ∃ as, d = .p (encAs as) ∧ Dx n sv [cO cs] M2 ∧ ∀ M3, Dx n sv [.lst ((cs.map encC).map .p ++ [.p (.tup [.str (Str.ofString c), encAs as])])] M3 → P .nx (S9 sv e n (some (.p (.str (Str.ofString c)))) x4 x5 x6 x7 M3)) :
    wpS (sExpr (mMth "list" gApp (mVar 2) (aCons (disp .tup (aCons (mVar 3) (aCons me aNil))) aNil)) (S9 sv e n (some (.p (.str (Str.ofString c)))) x4 x5 x6 x7 M)) P := by
  have g : ∀ {M'}, Dx n sv [cO cs] M' → M'[n]? = some (cO cs) := fun d => by have := d.get 0; simpa using this
  obtain ⟨d, M2, e2, as, rfl, d2, k⟩ := hm
  refine app_wp 2 n _ _ _ _ rfl ⟨_, g h⟩ ⟨.p (.tup [.str (Str.ofString c), encAs as]), M2, ?_, _, g d2, by simp; omega, k _ ?_⟩
  · rw [e_disp, e_bnd, e_aCons, e_bnd, var_run 3 _ M _ rfl]
    simp only [e_aCons, e_bnd, e2]
    simp
  · have := d2.set 0 (.lst ((cs.map encC).map .p ++ [.p (.tup [.str (Str.ofString c), encAs as])]))
    simpa using this
theorem base_ok : ∀ k ∈ N8, ∀ as, OkC k k as := fun k hk as => by
  simp only [N8, List.mem_cons, List.not_mem_nil, or_false] at hk
  rcases hk with h | h | h | h | h | h | h | h <;> subst h
  · exact .num _ _ (by decide)
  · exact .num _ _ (by decide)
  · exact .num _ _ (by decide)
  · exact .num _ _ (by decide)
  · exact .num _ _ (by decide)
  · exact .log _ _ (.inl rfl)
  · exact .log _ _ (.inr rfl)
  · exact .join _
/-- a loop over names, each with its call -/
theorem name_loop {n : Nat} {sv : DV} {e : Bool} {x4 x5 x6 x7 : Option DV} {b : SM} (ok : String → Prop) (ns : List String) (cs : List Cl) (x3 : Option DV) (M : List O) {P : Fl → S → Prop}
    (hb : ∀ c cs M, ok c → cs.length < 1000 → Dx n sv [cO cs] M → wpS (b (S9 sv e n (some (.p (.str (Str.ofString c)))) x4 x5 x6 x7 M)) fun f s => f = .nx ∧ ∃ z M', s = S9 sv e n (some (.p (.str (Str.ofString c)))) x4 x5 x6 x7 M' ∧ okC z ∧ Dx n sv [cO (cs ++ [z])] M')
    (hn : ∀ c ∈ ns, ok c) (hl : cs.length + ns.length < 1000) (h : Dx n sv [cO cs] M) (hc : ∀ z ∈ cs, okC z)
    (k : ∀ cs' x3 M', Dx n sv [cO cs'] M' → (∀ z ∈ cs', okC z) → cs'.length = cs.length + ns.length → P .nx (S9 sv e n x3 x4 x5 x6 x7 M')) :
    wpS (loopS (gN 3) b ((ns.map fun c => D.str (Str.ofString c)).map .p) (S9 sv e n x3 x4 x5 x6 x7 M)) P := by
  have lp := w_loopN (g := gN 3) (b := b) (R := fun _ _ => False) (Inv := fun m s => ∃ cs' x3 M', cs'.length = m ∧ (∀ z ∈ cs', okC z) ∧ s = S9 sv e n x3 x4 x5 x6 x7 M' ∧ Dx n sv [cO cs'] M') ((ns.map fun c => D.str (Str.ofString c)).map .p) cs.length (S9 sv e n x3 x4 x5 x6 x7 M) ⟨cs, x3, M, rfl, hc, rfl, h⟩ (by
    rintro d hd m h1 h2 s ⟨cs', x3, M', rfl, hc', rfl, d'⟩
    rw [List.map_map] at hd
    obtain ⟨c, hcn, rfl⟩ := List.mem_map.mp hd
    rw [List.length_map, List.length_map] at h2
    refine ⟨_, rfl, wpS.imp (hb c cs' M' (hn c hcn) (by omega) d') fun f s hf => ?_⟩
    obtain ⟨rfl, z, M2, rfl, hz, d2⟩ := hf
    refine .inl ⟨rfl, cs' ++ [z], _, M2, by simp, fun u hu => ?_, rfl, d2⟩
    rcases List.mem_append.mp hu with q | q
    · exact hc' u q
    · rw [List.mem_singleton.mp q]; exact hz)
  refine wpS.imp lp fun f s hf => ?_
  rcases hf with ⟨rfl, cs', x3, M', hl', hc', rfl, d'⟩ | ⟨_, _, q⟩
  · refine k cs' x3 M' d' hc' ?_
    rw [hl']; simp
  · exact q.elim
noncomputable def lp8 : SM := (sExpr (mMth "list" gApp (mVar 2) (aCons (disp .tup (aCons (mVar 3) (aCons (mLc (mRng rng1D (aCons (mBin dAdd2 (mC (.int 1)) (mCallB 2 m_l_take (aCons (mVar 0) (aCons (mC (.int 4)) aNil)))) aNil)) [8] (gN 8) tYesM (mCallB 2 m_l_argument (aCons (mVar 0) (aCons (mVar 1) aNil)))) aNil))) aNil)))
theorem lp8_step {n : Nat} {sv : DV} {e : Bool} {x4 x5 x6 x7 : Option DV} (c : String) (cs : List Cl) (M : List O) (hc : c ∈ N8) (hl : cs.length < 1000) (h : Dx n sv [cO cs] M) : wpS (lp8 (S9 sv e n (some (.p (.str (Str.ofString c)))) x4 x5 x6 x7 M)) fun f s => f = .nx ∧ ∃ z M', s = S9 sv e n (some (.p (.str (Str.ofString c)))) x4 x5 x6 x7 M' ∧ okC z ∧ Dx n sv [cO (cs ++ [z])] M' :=
  app_call h hl (wp_args rfl rfl (by simp) (cO_closed cs _) h fun as M2 d2 ha => ⟨as, rfl, d2, fun M3 d3 => ⟨rfl, ⟨c, c, as⟩, M3, rfl, ⟨ha, base_ok c hc as⟩, by simpa [cO, encC] using d3⟩⟩)
noncomputable def lp1 (i : Nat) : SM := (sExpr (mMth "list" gApp (mVar 2) (aCons (disp .tup (aCons (mVar 3) (aCons (disp .lst (aCons (mVar i) aNil)) aNil))) aNil)))
theorem lst1 (i : Nat) (l : List (Option DV)) (M : List O) (x : D) (h : gv l i = some (.p x)) : disp .lst (aCons (mVar i) aNil) ⟨l, M⟩ = some (.ok (.p (.lst [x])) M) := by
  simp [e_bnd, h]
theorem lp1_step {n : Nat} {sv : DV} {e : Bool} {x4 x5 x6 x7 : Option DV} (i : Nat) (a : Arg) (c k : String) (cs : List Cl) (M : List O) (hi : gv [some sv, some (.p (.bl e)), some (.o n), (some (.p (.str (Str.ofString c)))), x4, x5, x6, x7, none] i = some (.p (encA a))) (ha : Aok a) (hc : OkC c k [a]) (hl : cs.length < 1000) (h : Dx n sv [cO cs] M) : wpS (lp1 i (S9 sv e n (some (.p (.str (Str.ofString c)))) x4 x5 x6 x7 M)) fun f s => f = .nx ∧ ∃ z M', s = S9 sv e n (some (.p (.str (Str.ofString c)))) x4 x5 x6 x7 M' ∧ okC z ∧ Dx n sv [cO (cs ++ [z])] M' :=
  app_call h hl ⟨_, M, lst1 i _ M _ hi, [a], rfl, h, fun M3 d3 => ⟨rfl, ⟨c, k, [a]⟩, M3, rfl, ⟨⟨by show 1 ≤ 4; decide, fun b hb => by rw [List.mem_singleton.mp hb]; exact ha⟩, hc⟩, by simpa [cO, encC] using d3⟩⟩
theorem relK {r : String} (h : r ∈ ["RSUM", "RCOUNT", "RAVG", "RMIN", "RMAX"]) : ∃ k, (r, k) ∈ R5 := by
  simp only [List.mem_cons, List.not_mem_nil, or_false] at h
  rcases h with h | h | h | h | h <;> subst h
  · exact ⟨"SUM", by decide⟩
  · exact ⟨"COUNT", by decide⟩
  · exact ⟨"AVG", by decide⟩
  · exact ⟨"MIN", by decide⟩
  · exact ⟨"MAX", by decide⟩
end Law
namespace Law
open PySem L2 DL
theorem strs8 (l : List (Option DV)) (M : List O) : mItD itL (disp .lst (aCons (mC (.str (PySem.Str.ofString "SUM"))) (aCons (mC (.str (PySem.Str.ofString "COUNT"))) (aCons (mC (.str (PySem.Str.ofString "AVG"))) (aCons (mC (.str (PySem.Str.ofString "MIN"))) (aCons (mC (.str (PySem.Str.ofString "MAX"))) (aCons (mC (.str (PySem.Str.ofString "AND"))) (aCons (mC (.str (PySem.Str.ofString "OR"))) (aCons (mC (.str (PySem.Str.ofString "JOIN"))) aNil))))))))) ⟨l, M⟩ = some (.ok ((N8.map fun c => D.str (Str.ofString c)).map .p) M) := by
  simp [e_bnd, N8]
theorem strs5 (l : List (Option DV)) (M : List O) : mItD itL (disp .lst (aCons (mC (.str (PySem.Str.ofString "RSUM"))) (aCons (mC (.str (PySem.Str.ofString "RCOUNT"))) (aCons (mC (.str (PySem.Str.ofString "RAVG"))) (aCons (mC (.str (PySem.Str.ofString "RMIN"))) (aCons (mC (.str (PySem.Str.ofString "RMAX"))) aNil)))))) ⟨l, M⟩ = some (.ok ((["RSUM", "RCOUNT", "RAVG", "RMIN", "RMAX"].map fun c => D.str (Str.ofString c)).map .p) M) := by
  simp [e_bnd]
theorem strs3 (l : List (Option DV)) (M : List O) : mItD itL (disp .lst (aCons (mC (.str (PySem.Str.ofString "NOT"))) (aCons (mC (.str (PySem.Str.ofString "LEN"))) (aCons (mC (.str (PySem.Str.ofString "ABS"))) aNil)))) ⟨l, M⟩ = some (.ok ((["NOT", "LEN", "ABS"].map fun c => D.str (Str.ofString c)).map .p) M) := by
  simp [e_bnd]
theorem w_forI (it : IM) (g : GM) (b K : SM) (l : List (Option DV)) (M : List O) (ds : List DV) (P : Fl → S → Prop) (h1 : it ⟨l, M⟩ = some (.ok ds M)) (h : wpS (loopS g b ds ⟨l, M⟩) (andS K P)) : wpS (sSeq (sFor it g b) K ⟨l, M⟩) P := w_forT it g b K _ P ⟨ds, M, h1, h⟩
noncomputable def cntE : EM := (disp .tup (aCons (mC (.str (PySem.Str.ofString "num"))) (aCons (mBin dMul (mC (.int 10000)) (mBin dSub (mCallB 2 m_l_take (aCons (mVar 0) (aCons (mC (.int 14)) aNil))) (mC (.int 7)))) aNil)))
theorem cnt_help (me : EM) (l : List (Option DV)) (M M2 : List O) (r : Int) (e : me ⟨l, M⟩ = some (.ok (.p (.int r)) M2)) : mBin dMul (mC (.int 10000)) (mBin dSub me (mC (.int 7))) ⟨l, M⟩ = some (.ok (.p (.int (10000 * (r - 7)))) M2) := by
  have e1 : dSub (.int r) (.int 7) = some (.int (r - 7)) := rfl
  have e2 : dMul (.int 10000) (.int (r - 7)) = some (.int (10000 * (r - 7))) := mul_eq (mulKl _)
  generalize 10000 * (r - 7) = u at *
  generalize r - 7 = w at *
  simp [e_bnd, e, e1, e2]
theorem sec_help (me : EM) (l : List (Option DV)) (M M2 : List O) (z y : D) (h6 : gv l 6 = some (.p z)) (e : me ⟨l, M⟩ = some (.ok (.p y) M2)) : disp .lst (aCons (mVar 6) (aCons (mVar 6) (aCons me aNil))) ⟨l, M⟩ = some (.ok (.p (.lst [z, z, y])) M2) := by
  simp [e_bnd, e, h6]
theorem wp_cnt {n : Nat} {sv : DV} {R M : List O} {l : List (Option DV)} {P : DV → List O → Prop} (h0 : gv l 0 = some sv) (h : Dx n sv R M) (k : ∀ (i : Int) M', Dx n sv R M' → Vok (.num i) → P (.p (enc (.num i))) M') : wpB (cntE ⟨l, M⟩) P := by
  unfold cntE
  refine wp_tup2 ?_
  have st : wpB (mCallB 2 m_l_take (aCons (mVar 0) (aCons (mC (.int 14)) aNil)) ⟨l, M⟩) fun d M2 => ∃ r : Int, d = .p (.int r) ∧ (0 ≤ r ∧ r < 14) ∧ Dx n sv R M2 :=
    w_call2 m_l_take 0 _ l M sv (.p (.int 14)) _ h0 rfl (wp_takeX h (by decide) fun r M1 d1 _ b1 => ⟨r, rfl, b1 (by decide), d1⟩)
  obtain ⟨d, M2, e, r, rfl, hr, d2⟩ := st
  exact ⟨.p (.int (10000 * (r - 7))), M2, cnt_help _ l M M2 r e, _, rfl, k _ M2 d2 ⟨by omega, by omega⟩⟩
noncomputable def secE : EM := (disp .tup (aCons (mC (.str (PySem.Str.ofString "one"))) (aCons (mIx (disp .lst (aCons (mVar 6) (aCons (mVar 6) (aCons (mCallB 1 m_l_value (aCons (mVar 0) aNil)) aNil)))) (mCallB 2 m_l_take (aCons (mVar 0) (aCons (mC (.int 3)) aNil)))) aNil)))
theorem at_3 (x y : D) (r : Int) (h : 0 ≤ r ∧ r < 3) : ∃ z, atI [x, x, y] r = some z ∧ (z = x ∨ z = y) := by
  have : r = 0 ∨ r = 1 ∨ r = 2 := by omega
  rcases this with q | q | q <;> subst q
  · exact ⟨x, atI0 _ _, .inl rfl⟩
  · exact ⟨x, atI1 _ _ _, .inl rfl⟩
  · exact ⟨y, at2 _ _ _ _, .inr rfl⟩
theorem wp_sec {n : Nat} {sv : DV} {R M : List O} {l : List (Option DV)} {i : Int} {P : DV → List O → Prop} (h0 : gv l 0 = some sv) (h6 : gv l 6 = some (.p (enc (.num i)))) (hi : Vok (.num i)) (h : Dx n sv R M) (k : ∀ v M', Dx n sv R M' → Vok v → P (.p (encA (.one v))) M') : wpB (secE ⟨l, M⟩) P := by
  unfold secE
  refine wp_tup2 (wp_ix ?_)
  have st : wpB (mCallB 1 m_l_value (aCons (mVar 0) aNil) ⟨l, M⟩) fun d M2 => ∃ v, d = .p (enc v) ∧ Vok v ∧ Dx n sv R M2 :=
    w_call1 m_l_value 0 l M sv _ h0 (wp_valueX h fun v M1 d1 hv => ⟨v, rfl, hv, d1⟩)
  obtain ⟨d, M2, e, v, rfl, hv, d2⟩ := st
  refine ⟨.p (.lst [enc (.num i), enc (.num i), enc v]), M2, sec_help _ l M M2 _ _ h6 e, _, rfl, ?_⟩
  · refine w_call2 m_l_take 0 _ l M2 sv (.p (.int 3)) _ h0 rfl (wp_takeX d2 (by decide) fun r M3 d3 _ b3 => ?_)
    obtain ⟨z, hz, hc⟩ := at_3 (enc (.num i)) (enc v) r (b3 (by decide))
    rcases hc with rfl | rfl
    · exact ⟨r, _, rfl, hz, _, rfl, k (.num i) M3 d3 hi⟩
    · exact ⟨r, _, rfl, hz, _, rfl, k v M3 d3 hv⟩
theorem aok1 {v : Vl} (h : Vok v) : Aok (.one v) := ⟨by show 1 ≤ 6; decide, fun u hu => by rw [List.mem_singleton.mp hu]; exact h⟩
theorem okC2 {k : String} (h : k = "LEFT" ∨ k = "ROUND") {a b : Vl} (ha : Vok a) (hb : Vok b) : okC ⟨k, k, [.one a, .one b]⟩ := ⟨⟨by show 2 ≤ 4; decide, fun x hx => by
  rcases List.mem_cons.mp hx with q | q
  · rw [q]; exact aok1 ha
  · rw [List.mem_singleton.mp q]; exact aok1 hb⟩, .two k a b h⟩
noncomputable def lastE : EM := (mBin dAdd2 (mFrz (mVar 2)) (disp .lst (aCons (disp .tup (aCons (mC (.str (PySem.Str.ofString "LEFT"))) (aCons (disp .lst (aCons (mVar 5) (aCons (mVar 7) aNil))) aNil))) (aCons (disp .tup (aCons (mC (.str (PySem.Str.ofString "ROUND"))) (aCons (disp .lst (aCons (mVar 5) (aCons (mVar 7) aNil))) aNil))) aNil))))
def twoC (a b : Vl) : List Cl := [⟨"LEFT", "LEFT", [.one a, .one b]⟩, ⟨"ROUND", "ROUND", [.one a, .one b]⟩]
theorem last_run (n : Nat) (l : List (Option DV)) (M : List O) (cs : List Cl) (a b : Vl) (h2 : gv l 2 = some (.o n)) (hM : M[n]? = some (cO cs)) (h5 : gv l 5 = some (.p (encA (.one a)))) (h7 : gv l 7 = some (.p (encA (.one b)))) (hl : cs.length < 1000) :
    lastE ⟨l, M⟩ = some (.ok (.p (.lst ((cs ++ twoC a b).map encC))) (M.set n .gone)) := by
  have f := frz_run 2 n l M (cs.map encC) h2 hM
  have e : (cs ++ twoC a b).map encC = cs.map encC ++ [.tup [.str (Str.ofString "LEFT"), .lst [encA (.one a), encA (.one b)]], .tup [.str (Str.ofString "ROUND"), .lst [encA (.one a), encA (.one b)]]] := by rw [List.map_append]; rfl
  have hl' : (cs.map encC).length + 2 ≤ 1000000 := by rw [List.length_map]; omega
  rw [e]
  generalize encA (.one a) = za at *
  generalize encA (.one b) = zb at *
  generalize cs.map encC = zs at *
  have e2 : dAdd2 (.lst zs) (.lst [.tup [.str (Str.ofString "LEFT"), .lst [za, zb]], .tup [.str (Str.ofString "ROUND"), .lst [za, zb]]]) = some (.lst (zs ++ [.tup [.str (Str.ofString "LEFT"), .lst [za, zb]], .tup [.str (Str.ofString "ROUND"), .lst [za, zb]]])) := by
    rw [e_add2L]; exact if_pos hl'
  unfold lastE
  rw [e_bin, e_bnd, f]
  simp [-e_add2L, e_bnd, h5, h7, e2]
end Law
namespace Law
open PySem L2 DL
theorem calls2_eq : b_l_calls_2 = sSeq (sFor (mItD itL (disp .lst (aCons (mC (.str (PySem.Str.ofString "SUM"))) (aCons (mC (.str (PySem.Str.ofString "COUNT"))) (aCons (mC (.str (PySem.Str.ofString "AVG"))) (aCons (mC (.str (PySem.Str.ofString "MIN"))) (aCons (mC (.str (PySem.Str.ofString "MAX"))) (aCons (mC (.str (PySem.Str.ofString "AND"))) (aCons (mC (.str (PySem.Str.ofString "OR"))) (aCons (mC (.str (PySem.Str.ofString "JOIN"))) aNil)))))))))) (gN 3) lp8) b_l_calls_3 := rfl
theorem calls4_eq : b_l_calls_4 = sSeq (sFor (mItD itL (disp .lst (aCons (mC (.str (PySem.Str.ofString "RSUM"))) (aCons (mC (.str (PySem.Str.ofString "RCOUNT"))) (aCons (mC (.str (PySem.Str.ofString "RAVG"))) (aCons (mC (.str (PySem.Str.ofString "RMIN"))) (aCons (mC (.str (PySem.Str.ofString "RMAX"))) aNil))))))) (gN 3) (lp1 4)) b_l_calls_5 := rfl
theorem calls6_eq : b_l_calls_6 = sSeq (sFor (mItD itL (disp .lst (aCons (mC (.str (PySem.Str.ofString "NOT"))) (aCons (mC (.str (PySem.Str.ofString "LEN"))) (aCons (mC (.str (PySem.Str.ofString "ABS"))) aNil))))) (gN 3) (lp1 5)) b_l_calls_7 := rfl
theorem calls7_eq : b_l_calls_7 = sSeq (sAsg cntE (gN 6)) b_l_calls_8 := rfl
theorem calls8_eq : b_l_calls_8 = sSeq (sAsg secE (gN 7)) b_l_calls_9 := rfl
theorem calls9_eq : b_l_calls_9 = sRet lastE := rfl
section
variable {n : Nat} {sv : DV} {e : Bool} {P : Fl → S → Prop}
theorem st_2 {M : List O} (h : Dx n sv [cO []] M) (k : ∀ cs x3 M', Dx n sv [cO cs] M' → (∀ z ∈ cs, okC z) → cs.length = 8 → wpS (b_l_calls_3 (S9 sv e n x3 none none none none M')) P) : wpS (b_l_calls_2 (S9 sv e n none none none none none M)) P := by
  rw [calls2_eq]
  refine w_forI _ (gN 3) lp8 b_l_calls_3 _ _ _ _ (strs8 _ _) ?_
  refine name_loop (fun c => c ∈ N8) N8 [] none M (fun c cs M hc hl h => lp8_step c cs M hc hl h) (fun c hc => hc) (by decide) h (by intro z hz; cases hz) fun cs1 x3 M2 d3 hc1 hl1 => ?_
  rw [w_andN]
  exact k cs1 x3 M2 d3 hc1 hl1
theorem st_3 {M : List O} {x3 : Option DV} {cs : List Cl} (h : Dx n sv [cO cs] M) (k : ∀ vs M', Dx n sv [cO cs] M' → Aok (.many vs) → wpS (b_l_calls_4 (S9 sv e n x3 (some (.p (encA (.many vs)))) none none none M')) P) : wpS (b_l_calls_3 (S9 sv e n x3 none none none none M)) P := by
  unfold b_l_calls_3
  refine w_asgT _ 4 _ _ _ (wp_tup2 (wp_only rfl rfl (by simp) h fun vs M3 d4 hv => ⟨_, rfl, ?_⟩))
  exact k vs M3 d4 hv
theorem st_4 {M : List O} {x3 : Option DV} {vs : List Vl} {cs : List Cl} (h : Dx n sv [cO cs] M) (hc : ∀ z ∈ cs, okC z) (hl : cs.length = 8) (hv : Aok (.many vs)) (k : ∀ cs x3 M', Dx n sv [cO cs] M' → (∀ z ∈ cs, okC z) → cs.length = 13 → wpS (b_l_calls_5 (S9 sv e n x3 (some (.p (encA (.many vs)))) none none none M')) P) : wpS (b_l_calls_4 (S9 sv e n x3 (some (.p (encA (.many vs)))) none none none M)) P := by
  rw [calls4_eq]
  refine w_forI _ (gN 3) (lp1 4) b_l_calls_5 _ _ _ _ (strs5 _ _) ?_
  refine name_loop (fun c => ∃ k, (c, k) ∈ R5) ["RSUM", "RCOUNT", "RAVG", "RMIN", "RMAX"] cs x3 M (fun c cs M hc hl h => by
    obtain ⟨k, hk⟩ := hc
    exact lp1_step 4 (.many vs) c k cs M rfl hv (.rel c k _ hk) hl h) (fun c hc => relK hc) (by rw [hl]; decide) h hc fun cs2 x3 M4 d5 hc2 hl2 => ?_
  rw [w_andN]
  exact k cs2 x3 M4 d5 hc2 (by rw [hl2, hl]; rfl)
theorem st_5 {M : List O} {x3 x4 : Option DV} {cs : List Cl} (h : Dx n sv [cO cs] M) (k : ∀ v M', Dx n sv [cO cs] M' → Vok v → wpS (b_l_calls_6 (S9 sv e n x3 x4 (some (.p (encA (.one v)))) none none M')) P) : wpS (b_l_calls_5 (S9 sv e n x3 x4 none none none M)) P := by
  unfold b_l_calls_5
  refine w_asgT _ 5 _ _ _ (wp_tup2 (w_call1 m_l_value 0 _ _ sv _ rfl (wp_valueX h fun v1 M5 d6 hv1 => ⟨_, rfl, ?_⟩)))
  exact k v1 M5 d6 hv1
theorem st_6 {M : List O} {x3 x4 : Option DV} {v : Vl} {cs : List Cl} (h : Dx n sv [cO cs] M) (hc : ∀ z ∈ cs, okC z) (hl : cs.length = 13) (hv : Vok v) (k : ∀ cs x3 M', Dx n sv [cO cs] M' → (∀ z ∈ cs, okC z) → cs.length = 16 → wpS (b_l_calls_7 (S9 sv e n x3 x4 (some (.p (encA (.one v)))) none none M')) P) : wpS (b_l_calls_6 (S9 sv e n x3 x4 (some (.p (encA (.one v)))) none none M)) P := by
  rw [calls6_eq]
  refine w_forI _ (gN 3) (lp1 5) b_l_calls_7 _ _ _ _ (strs3 _ _) ?_
  refine name_loop (fun c => c = "NOT" ∨ c = "LEN" ∨ c = "ABS") ["NOT", "LEN", "ABS"] cs x3 M (fun c cs M hc hl h => lp1_step 5 (.one v) c c cs M rfl (aok1 hv) (.one c v hc) hl h) (fun c hc => by simpa using hc) (by rw [hl]; decide) h hc fun cs3 x3 M6 d7 hc3 hl3 => ?_
  rw [w_andN]
  exact k cs3 x3 M6 d7 hc3 (by rw [hl3, hl]; rfl)
theorem st_7 {M : List O} {x3 x4 : Option DV} {v1 : Vl} {cs : List Cl} (h : Dx n sv [cO cs] M) (k : ∀ i v2 M', Dx n sv [cO cs] M' → Vok v2 → wpS (b_l_calls_9 (S9 sv e n x3 x4 (some (.p (encA (.one v1)))) (some (.p (enc (.num i)))) (some (.p (encA (.one v2)))) M')) P) : wpS (b_l_calls_7 (S9 sv e n x3 x4 (some (.p (encA (.one v1)))) none none M)) P := by
  rw [calls7_eq]
  refine w_asgT cntE 6 _ _ _ (wp_cnt rfl h fun i M7 d8 hi => ?_)
  show wpS (b_l_calls_8 (S9 sv e n x3 x4 (some (.p (encA (.one v1)))) (some (.p (enc (.num i)))) none M7)) _
  rw [calls8_eq]
  refine w_asgT secE 7 _ _ _ (wp_sec rfl rfl hi d8 fun v2 M8 d9 hv2 => ?_)
  exact k i v2 M8 d9 hv2
end
theorem wp_calls {n : Nat} {sv : DV} {M : List O} {P : DV → List O → Prop} (h : Dx n sv [] M) (k : ∀ (cs : List Cl) (M' : List O), Dx n sv [] M' → (∀ c ∈ cs, okC c) → cs.length ≤ 100 → P (.p (.lst (cs.map encC))) M') : wpB (m_l_calls [sv] M) P := by
  have hML : M.length = n := h.len
  unfold m_l_calls
  rw [w_runB]
  show wpS (b_l_calls ⟨[some sv, none, none, none, none, none, none, none, none], M⟩) _
  unfold b_l_calls
  refine w_asgT _ 1 _ _ _ ((wp_isz _ 3 (by decide) rfl h).imp fun d M1 hd => ?_)
  obtain ⟨e, rfl, d1⟩ := hd
  unfold b_l_calls_1
  refine w_asgE _ 2 _ _ _ _ _ (show dispO aNil ⟨[some sv, some (.p (.bl e)), none, none, none, none, none, none, none], M1⟩ = some (.ok (.o M1.length) (M1 ++ [.lst []])) from by simp [e_bnd]) ?_
  have d2 : Dx n sv [cO []] (M1 ++ [.lst []]) := d1.app (.lst [])
  have hn : M1.length = n := d1.len
  rw [hn]
  refine st_2 d2 fun cs1 x3 M2 d3 hc1 hl1 => ?_
  refine st_3 d3 fun vs M3 d4 hv => ?_
  refine st_4 d4 hc1 hl1 hv fun cs2 x3 M4 d5 hc2 hl2 => ?_
  refine st_5 d5 fun v1 M5 d6 hv1 => ?_
  refine st_6 d6 hc2 hl2 hv1 fun cs3 x3 M6 d7 hc3 hl => ?_
  refine st_7 d7 fun i v2 M8 d9 hv2 => ?_
  have g : M8[n]? = some (cO cs3) := by have := d9.get 0; simpa using this
  rw [calls9_eq]
  refine w_retT lastE _ _ ⟨_, _, last_run n _ M8 cs3 v1 v2 rfl g rfl rfl (by omega), ?_⟩
  show P _ (dropM M.length _ (M8.set n .gone))
  have d10 : Dx n sv ([] ++ [.gone]) (M8.set n .gone) := by have := d9.set 0 .gone; simpa using this
  refine k _ _ (d10.drop rfl hML) (fun c hc => ?_) (by rw [List.length_append, hl]; show 16 + 2 ≤ 100; decide)
  rcases List.mem_append.mp hc with q | q
  · exact hc3 c q
  · unfold twoC at q
    rcases List.mem_cons.mp q with q | q
    · rw [q]; exact okC2 (.inl rfl) hv1 hv2
    · rw [List.mem_singleton.mp q]; exact okC2 (.inr rfl) hv1 hv2
end Law
namespace Law
open PySem L2 DL
/-! the law -/
theorem ks_le {c : Cl} (h : okC c) : (Str.ofString c.r).length ≤ 6 := by
  obtain ⟨r, k, as⟩ := c
  obtain ⟨_, hk⟩ := h
  show (Str.ofString r).length ≤ 6
  rw [DL.ks_len]
  cases hk with
  | num k as h => simp only [N5, List.mem_cons, List.not_mem_nil, or_false] at h; rcases h with h | h | h | h | h <;> subst h <;> decide
  | rel r k as h =>
    simp only [R5, List.mem_cons, Prod.mk.injEq, List.not_mem_nil, or_false] at h
    rcases h with ⟨h, _⟩ | ⟨h, _⟩ | ⟨h, _⟩ | ⟨h, _⟩ | ⟨h, _⟩ <;> subst h <;> decide
  | log k as h => rcases h with h | h <;> subst h <;> decide
  | join as => decide
  | one k a h => rcases h with h | h | h <;> subst h <;> decide
  | two k a b h => rcases h with h | h <;> subst h <;> decide
theorem sm_str (k : String) (h : k.toList.length ≤ 10) : Sm 0 700 (.str (Str.ofString k)) := Sm.str (strOk_of k) (by rw [DL.ks_len]; omega)
theorem sm_enc {v : Vl} (h : Vok v) : Sm 1 1500 (enc v) := by
  have two : ∀ (k : String) (x : D), k.toList.length ≤ 10 → Sm 0 700 x → Sm 1 1500 (.tup [.str (Str.ofString k), x]) := fun k x hk hx => Sm.tup (n := 0) (w := 700) (fun d hd => by
    rcases List.mem_cons.mp hd with q | q
    · rw [q]; exact sm_str k hk
    · rw [List.mem_singleton.mp q]; exact hx) (by simp)
  cases v with
  | non => exact Sm.non (by decide)
  | num n => exact two "num" _ (by decide) (Sm.int (by have := h.1; have := h.2; omega) (by decide))
  | text l => exact two "text" _ (by decide) (Sm.str (strOk_tx l h.2) (by rw [tx_len]; have := h.1; omega))
  | bool b => exact two "bool" _ (by decide) (Sm.bl (by decide))
  | err k => exact two "error" _ (by decide) (sm_str k h)
theorem sm_arg {a : Arg} (h : Aok a) : Sm 3 12000 (encA a) := by
  have two : ∀ (k : String) (x : D), k.toList.length ≤ 10 → Sm 2 10000 x → Sm 3 12000 (.tup [.str (Str.ofString k), x]) := fun k x hk hx => (by
    obtain ⟨h1, h2, h3, h4⟩ := sm_str k hk
    obtain ⟨g1, g2, g3, g4⟩ := hx
    refine ⟨by simp [g1], by simp; omega, ?_, ?_⟩
    · show (showD (.str (Str.ofString k)) && (showD x && true)) = true
      rw [h3, g3]; rfl
    · show (DL.rb (.str (Str.ofString k)) + 2 + (DL.rb x + 2 + 0)) + 3 ≤ 12000
      omega)
  cases a with
  | one v => exact two "one" _ (by decide) ((sm_enc (h.2 v List.mem_cons_self)).mono (by decide) (by decide))
  | many l =>
    refine two "many" _ (by decide) (Sm.lst (n := 1) (w := 1500) (fun d hd => ?_) ?_)
    · obtain ⟨v, hv, rfl⟩ := List.mem_map.mp hd
      exact sm_enc (h.2 v hv)
    · have : l.length ≤ 6 := h.1
      rw [List.length_map]; omega
theorem sm_args {as : List Arg} (h : AsOk as) : Sm 4 60000 (encAs as) := by
  refine Sm.lst (n := 3) (w := 12000) (fun d hd => ?_) ?_
  · obtain ⟨a, ha, rfl⟩ := List.mem_map.mp hd
    exact sm_arg (h.2 a ha)
  · have := h.1
    rw [List.length_map]; omega
theorem repr_args {as : List Arg} (h : AsOk as) : ∃ t, dRepr (encAs as) = some t ∧ eqD t t = some true :=
  ⟨_, (sm_args h).repr (by decide) (by decide), by rw [e_eqSS]; simp⟩
noncomputable def rE (Ps : List Addr) : EM := (mOr (mBin dNe (mCB (g1 dRepr) (aCons (mVar 5) aNil)) (mCB (g1 dRepr) (aCons (mCallA 2 m_l_called (aCons (mVar 2) (aCons (mVar 3) aNil))) aNil))) (mBin dNe (mCB (g1 dRepr) (aCons (mVar 3) aNil)) (mVar 4)))
noncomputable def rE2 (f : MA) : EM := (mAnd (mBin dEq (mSlE (mVar 2) pNone (pSome (mC (.int 1)))) (mC (.str (PySem.Str.ofString "R")))) (mAnd (mBin dNe (mVar 2) (mC (.str (PySem.Str.ofString "ROUND")))) (mBin dNe (mVar 5) (mCallA 2 f (aCons (mSlE (mVar 2) (pSome (mC (.int 1))) pNone) (aCons (mVar 3) aNil))))))
noncomputable def body (Ps : List Addr) : SM := (sSeq (sAsg (mCB (g1 dRepr) (aCons (mVar 3) aNil)) (gN 4))
  (sSeq (sAsg (mCallA 2 (m_apply_function Ps) (aCons (mVar 2) (aCons (mVar 3) aNil))) (gN 5))
  (sSeq (sIf (rE Ps) (sRet (mC (.bl false))) sNil)
  (sIf (rE2 (m_apply_function Ps)) (sRet (mC (.bl false))) sNil))))
theorem law1_eq (Ps : List Addr) : b_law_1 Ps = sSeq (sFor (mItD itL (mCallB 1 m_l_calls (aCons (mVar 1) aNil))) (gT 2 (gsCons (gN 2) (gsCons (gN 3) gsNil))) (body Ps)) (b_law_2 Ps) := rfl
theorem rE_run (Ps : List Addr) (fl : MA) (l : List (Option DV)) (M : List O) (k a p q t u : D) (h2 : gv l 2 = some (.p k)) (h3 : gv l 3 = some (.p a)) (h4 : gv l 4 = some (.p u)) (h5 : gv l 5 = some (.p p)) (e1 : fl [k, a] = some (.ok q)) (e2 : dRepr p = some t) (e3 : dRepr q = some t) (e4 : eqD t t = some true) (e5 : dRepr a = some u) (e6 : eqD u u = some true) :
    (mOr (mBin dNe (mCB (g1 dRepr) (aCons (mVar 5) aNil)) (mCB (g1 dRepr) (aCons (mCallA 2 fl (aCons (mVar 2) (aCons (mVar 3) aNil))) aNil))) (mBin dNe (mCB (g1 dRepr) (aCons (mVar 3) aNil)) (mVar 4))) ⟨l, M⟩ = some (.ok (.p (.bl false)) M) := by
  simp [e_bnd, h2, h3, h4, h5, e1, e2, e3, e4, e5, e6]
theorem sl1 (x : Str) (c : Nat) (r : List Nat) (h : x = tx (c :: r)) (hr : r.length ≤ 100) : slE (.str x) none (some 1) = some (.str (tx [c])) := by
  rw [h, e_slS, tx_len, if_pos (by simp; omega), cutS_to _ _ (by decide)]; rfl
theorem rE2_no (f : MA) (k : String) (c : Nat) (r : List Nat) (h : Str.ofString k = tx (c :: r)) (hc : c ≠ 82) (hr : r.length ≤ 100) (l : List (Option DV)) (M : List O) (h2 : gv l 2 = some (.p (.str (Str.ofString k)))) : rE2 f ⟨l, M⟩ = some (.ok (.p (.bl false)) M) := by
  have e := sl1 _ c r h hr
  unfold rE2
  simp [-e_slS, e_bnd, h2, e, u_R, hc]
theorem rE2_round (f : MA) (l : List (Option DV)) (M : List O) (h2 : gv l 2 = some (.p (.str (Str.ofString "ROUND")))) : rE2 f ⟨l, M⟩ = some (.ok (.p (.bl false)) M) := by
  have h : Str.ofString "ROUND" = tx [82, 79, 85, 78, 68] := by rw [tx_ofString]; rfl
  have e := sl1 _ 82 [79, 85, 78, 68] h (by decide)
  unfold rE2
  simp [-e_slS, e_bnd, h2, e, u_R]
theorem rE2_rel (f : MA) (r : String) (l : List Nat) (k : Str) (h : Str.ofString r = tx (82 :: l)) (hk : k = tx l) (hl : l.length ≤ 100) (hn : r ≠ "ROUND") (L : List (Option DV)) (M : List O) (a p : D) (h2 : gv L 2 = some (.p (.str (Str.ofString r)))) (h3 : gv L 3 = some (.p a)) (h5 : gv L 5 = some (.p p)) (e1 : f [.str k, a] = some (.ok p)) (e2 : eqD p p = some true) : rE2 f ⟨L, M⟩ = some (.ok (.p (.bl false)) M) := by
  have e := sl1 _ 82 l h hl
  have e3 := sl_one r l h hl
  rw [← hk] at e3
  unfold rE2
  simp [-e_slS, e_bnd, h2, h3, h5, e, e3, u_R, hn, e1, e2]
theorem body_run {Fa : List Addr} (hF : CFa Fa) (c : Cl) (hc : okC c) (x0 x1 x4 x5 : Option DV) (M : List O) : ∃ y4 y5, body Fa ⟨[x0, x1, some (.p (.str (Str.ofString c.r))), some (.p (encAs c.as)), x4, x5], M⟩ = some (.nx, ⟨[x0, x1, some (.p (.str (Str.ofString c.r))), some (.p (encAs c.as)), y4, y5], M⟩) := by
  obtain ⟨r, k, as⟩ := c
  obtain ⟨ha, hk⟩ := hc
  have ha : AsOk as := ha
  have hk : OkC r k as := hk
  obtain ⟨u, u1, u2⟩ := repr_args ha
  obtain ⟨t, t1, t2, t3, t4⟩ := res_two ha hk
  have e1 := apply_spec hF r k as ha hk
  have e2 := called_spec r k as ha hk
  have e6 : ∃ f : MA, f = m_apply_function Fa := ⟨_, rfl⟩
  have hE2 : rE2 (m_apply_function Fa) ⟨[x0, x1, some (.p (.str (Str.ofString r))), some (.p (encAs as)), some (.p u), some (.p (res k_WRONG_VALUE k as))], M⟩ = some (.ok (.p (.bl false)) M) := by
    have no : ∀ k, k ∈ ["SUM", "COUNT", "AVG", "MIN", "MAX", "AND", "OR", "JOIN", "NOT", "LEN", "ABS", "LEFT"] → ∀ (L : List (Option DV)), gv L 2 = some (.p (.str (Str.ofString k))) → rE2 (m_apply_function Fa) ⟨L, M⟩ = some (.ok (.p (.bl false)) M) := fun k hk L hL => by
      obtain ⟨c, l, q1, q2, q3⟩ := nonR hk
      exact rE2_no _ k c l q1 q2 q3 L M hL
    cases hk with
    | num k as h => exact no r (by simp only [N5, List.mem_cons, List.not_mem_nil, or_false] at h; rcases h with q | q | q | q | q <;> subst q <;> simp) _ rfl
    | rel r k as h =>
      obtain ⟨l, q1, q2, q3, q4, q5⟩ := rname h
      exact rE2_rel (m_apply_function Fa) r l _ q1 q2 q3 q4 _ M _ _ rfl rfl rfl (apply_spec hF k k as ha (.num k as q5)) t4
    | log k as h => exact no r (by rcases h with rfl | rfl <;> simp) _ rfl
    | join as => exact no "JOIN" (by simp) _ rfl
    | one k a h => exact no r (by rcases h with rfl | rfl | rfl <;> simp) _ rfl
    | two k a b h =>
      rcases h with rfl | rfl
      · exact no "LEFT" (by simp) _ rfl
      · exact rE2_round _ _ M rfl
  have hE : rE Fa ⟨[x0, x1, some (.p (.str (Str.ofString r))), some (.p (encAs as)), some (.p u), some (.p (res k_WRONG_VALUE k as))], M⟩ = some (.ok (.p (.bl false)) M) :=
    rE_run Fa m_l_called _ M _ _ _ _ t u rfl rfl rfl rfl e2 t1 t2 t3 u1 u2
  refine ⟨some (.p u), some (.p (res k_WRONG_VALUE k as)), ?_⟩
  unfold body
  have q1 : mCB (g1 dRepr) (aCons (mVar 3) aNil) ⟨[x0, x1, some (.p (.str (Str.ofString r))), some (.p (encAs as)), x4, x5], M⟩ = some (.ok (.p u) M) := by
    generalize encAs as = z at *
    simp [e_bnd, u1]
  rw [seq_asg _ (gN 4) _ _ ⟨[x0, x1, some (.p (.str (Str.ofString r))), some (.p (encAs as)), some (.p u), x5], M⟩ _ M q1 rfl]
  rw [seq_asg _ (gN 5) _ _ ⟨[x0, x1, some (.p (.str (Str.ofString r))), some (.p (encAs as)), some (.p u), some (.p (res k_WRONG_VALUE k as))], M⟩ _ M (cA2 (m_apply_function Fa) (mVar 2) (mVar 3) _ M _ _ _ rfl rfl e1) rfl]
  rw [if_no _ _ _ hE, sif_f _ _ _ _ M hE2]
  rfl
theorem law_ok (Fa : List Addr) (ns : List Int) (hC : CFa Fa) (hl : ns.length ≤ 63) (hb : ∀ z ∈ ns, Builtin.Int.intBits z ≤ 1048576) : runA 6 (b_law Fa) [.scr (ns.map .int)] = some (.ok (.bl true)) := by
  obtain ⟨n, sv, M0, es, d0⟩ := state_spec ns hl
  apply wpA.eq
  rw [w_runA]
  show wpS (b_law Fa ⟨[some (.p (.scr (ns.map .int))), none, none, none, none, none], []⟩) _
  unfold b_law
  refine w_asgT _ 1 _ _ _ (w_call1 m_l_state 0 _ _ (.p (.scr (ns.map .int))) _ rfl ⟨_, _, es, ?_⟩)
  show wpS (b_law_1 Fa ⟨[some (.p (.scr (ns.map .int))), some sv, none, none, none, none], M0⟩) _
  rw [law1_eq]
  refine w_forT _ _ _ _ _ _ ?_
  have hit : wpB (mItD itL (mCallB 1 m_l_calls (aCons (mVar 1) aNil)) ⟨[some (.p (.scr (ns.map .int))), some sv, none, none, none, none], M0⟩) fun ds M => ∃ cs : List Cl, ds = (cs.map encC).map .p ∧ ∀ c ∈ cs, okC c := by
    rw [e_itD, w_bnd]
    refine w_call1 m_l_calls 1 _ _ sv _ rfl (wp_calls (Dx.of d0) fun cs M1 _ hc _ => ?_)
    exact ⟨(cs.map encC).map .p, M1, rfl, cs, rfl, hc⟩
  refine hit.imp fun ds M1 hd => ?_
  obtain ⟨cs, rfl, hc⟩ := hd
  refine wpS.imp (w_loop (Inv := fun s => ∃ x2 x3 x4 x5, s = ⟨[some (.p (.scr (ns.map .int))), some sv, x2, x3, x4, x5], M1⟩) (R := fun _ _ => False) _ _ ⟨none, none, none, none, rfl⟩ fun d hd s hs => ?_) fun f s2 hf => ?_
  · obtain ⟨x2, x3, x4, x5, rfl⟩ := hs
    rw [List.map_map] at hd
    obtain ⟨c, hcm, rfl⟩ := List.mem_map.mp hd
    obtain ⟨y4, y5, e⟩ := body_run hC c (hc c hcm) (some (.p (.scr (ns.map .int)))) (some sv) x4 x5 M1
    exact ⟨_, rfl, ⟨_, _, e, rfl, .inl ⟨rfl, _, _, _, _, rfl⟩⟩⟩
  · rcases hf with ⟨rfl, x2, x3, x4, x5, rfl⟩ | ⟨v, _, q⟩
    · rw [w_andN]
      exact ⟨_, _, ret_run (mC (.bl true)) _ _ M1 rfl, rfl, rfl⟩
    · exact q.elim
end Law

open PySem PySem.W PyProof.Rows in
set_option maxRecDepth 100000 in
set_option maxHeartbeats 0 in
theorem PySem.Challenge.cw_labelgrid_k10_functions_on_values_holds : PySem.Challenge.rw_labelgrid_k10_functions_on_values.Holds := by
  w_on; o_law; k_head; (case hw => w_witness2)
  k_fill
  refine DL.walk_dlV (l := PySem.Challenge.rw_labelgrid_k10_functions_on_values) (k := 5) (x := "law") (qual := "law") (st := Law.s_law) (N := Law.n_law) (m := Law.b_law) (C := Law.CFa) rfl rfl ⟨rfl, by decide, by decide⟩ (fun w h Y => PySem.W.kIn_of Y) Law.sc_law ?F Law.law_ok
  case F =>
    intro w mg fa h KX G hmg
    refine' Law.all_mk KX G hmg ?a0 ?l0 ?c0 ?k0 ?a1 ?l1 ?c1 ?k1 ?a2 ?l2 ?c2 ?k2 ?a3 ?l3 ?c3 ?k3 ?a4 ?l4 ?c4 ?k4 ?a5 ?l5 ?c5 ?k5 ?a6 ?l6 ?c6 ?k6 ?a7 ?l7 ?c7 ?k7 ?a8 ?l8 ?c8 ?k8 ?a9 ?l9 ?c9 ?k9 ?a10 ?l10 ?c10 ?k10 ?a11 ?l11 ?c11 ?k11 ?a12 ?l12 ?c12 ?k12 ?a13 ?l13 ?c13 ?k13 ?a14 ?l14 ?c14 ?k14 ?a15 ?l15 ?c15 ?k15 ?a16 ?l16 ?c16 ?k16 ?a17 ?l17 ?c17 ?k17 ?a18 ?l18 ?c18 ?k18 ?a19 ?l19 ?c19 ?k19 ?a20 ?l20 ?c20 ?k20 ?a21 ?l21 ?c21 ?k21 ?a22 ?l22 ?c22 ?k22 ?a23 ?l23 ?c23 ?k23 ?a24 ?l24 ?c24 ?k24 ?a25 ?l25 ?c25 ?k25 ?a26 ?l26 ?c26 ?k26 ?a27 ?l27 ?c27 ?k27 ?a28 ?l28 ?c28 ?k28 ?a29 ?l29 ?c29 ?k29 ?a30 ?l30 ?c30 ?k30 ?a31 ?l31 ?c31 ?k31 ?a32 ?l32 ?c32 ?k32 ?a33 ?l33 ?c33 ?k33 ?a34 ?l34 ?c34 ?k34 ?a35 ?l35 ?c35 ?k35 ?a36 ?l36 ?c36 ?k36 ?a37 ?l37 ?c37 ?k37 ?a38 ?l38 ?c38 ?k38 ?a39 ?l39 ?c39 ?k39 ?a40 ?l40 ?c40 ?k40 ?a41 ?l41 ?c41 ?k41 ?a42 ?l42 ?c42 ?k42 ?a43 ?l43 ?c43 ?k43 ?a44 ?l44 ?c44 ?k44 ?g_UNIT ?g_PLACES ?g_LONGEST_TEXT ?g_WRONG_VALUE ?l_WRONG_VALUE ?g_MOST ?g_LEAST_PLACES ?g_MOST_PLACES ?g_RELEASED ?l_RELEASED ?g_NUMERIC ?l_NUMERIC ?kl_NUMERIC ?i_NUMERIC_0 ?i_NUMERIC_1 ?i_NUMERIC_2 ?i_NUMERIC_3 ?i_NUMERIC_4 ?lo_NUMERIC ?mi_NUMERIC_0 ?mi_NUMERIC_1 ?mi_NUMERIC_2 ?mi_NUMERIC_3 ?mi_NUMERIC_4 ?mi_NUMERIC_5 ?mi_NUMERIC_6 ?mi_NUMERIC_7 ?g_SINGLE ?l_SINGLE ?kl_SINGLE ?i_SINGLE_0 ?i_SINGLE_1 ?i_SINGLE_2 ?lo_SINGLE ?mi_SINGLE_0 ?mi_SINGLE_1 ?g_DOUBLE ?l_DOUBLE ?kl_DOUBLE ?i_DOUBLE_0 ?i_DOUBLE_1 ?z_abs ?z_all ?z_any ?z_int ?z_len ?z_list ?z_max ?z_min ?z_range ?z_repr ?z_sorted ?z_str ?z_sum ?nd
    (case a0 => k_is)
    (case l0 => k_is)
    (case c0 => k_is)
    (case k0 => k_is)
    (case a1 => k_is)
    (case l1 => k_is)
    (case c1 => k_is)
    (case k1 => k_is)
    (case a2 => k_is)
    (case l2 => k_is)
    (case c2 => k_is)
    (case k2 => k_is)
    (case a3 => k_is)
    (case l3 => k_is)
    (case c3 => k_is)
    (case k3 => k_is)
    (case a4 => k_is)
    (case l4 => k_is)
    (case c4 => k_is)
    (case k4 => k_is)
    (case a5 => k_is)
    (case l5 => k_is)
    (case c5 => k_is)
    (case k5 => k_is)
    (case a6 => k_is)
    (case l6 => k_is)
    (case c6 => k_is)
    (case k6 => k_is)
    (case a7 => k_is)
    (case l7 => k_is)
    (case c7 => k_is)
    (case k7 => k_is)
    (case a8 => k_is)
    (case l8 => k_is)
    (case c8 => k_is)
    (case k8 => k_is)
    (case a9 => k_is)
    (case l9 => k_is)
    (case c9 => k_is)
    (case k9 => k_is)
    (case a10 => k_is)
    (case l10 => k_is)
    (case c10 => k_is)
    (case k10 => k_is)
    (case a11 => k_is)
    (case l11 => k_is)
    (case c11 => k_is)
    (case k11 => k_is)
    (case a12 => k_is)
    (case l12 => k_is)
    (case c12 => k_is)
    (case k12 => k_is)
    (case a13 => k_is)
    (case l13 => k_is)
    (case c13 => k_is)
    (case k13 => k_is)
    (case a14 => k_is)
    (case l14 => k_is)
    (case c14 => k_is)
    (case k14 => k_is)
    (case a15 => k_is)
    (case l15 => k_is)
    (case c15 => k_is)
    (case k15 => k_is)
    (case a16 => k_is)
    (case l16 => k_is)
    (case c16 => k_is)
    (case k16 => k_is)
    (case a17 => k_is)
    (case l17 => k_is)
    (case c17 => k_is)
    (case k17 => k_is)
    (case a18 => k_is)
    (case l18 => k_is)
    (case c18 => k_is)
    (case k18 => k_is)
    (case a19 => k_is)
    (case l19 => k_is)
    (case c19 => k_is)
    (case k19 => k_is)
    (case a20 => k_is)
    (case l20 => k_is)
    (case c20 => k_is)
    (case k20 => k_is)
    (case a21 => k_is)
    (case l21 => k_is)
    (case c21 => k_is)
    (case k21 => k_is)
    (case a22 => k_is)
    (case l22 => k_is)
    (case c22 => k_is)
    (case k22 => k_is)
    (case a23 => k_is)
    (case l23 => k_is)
    (case c23 => k_is)
    (case k23 => k_is)
    (case a24 => k_is)
    (case l24 => k_is)
    (case c24 => k_is)
    (case k24 => k_is)
    (case a25 => k_is)
    (case l25 => k_is)
    (case c25 => k_is)
    (case k25 => k_is)
    (case a26 => k_is)
    (case l26 => k_is)
    (case c26 => k_is)
    (case k26 => k_is)
    (case a27 => k_is)
    (case l27 => k_is)
    (case c27 => k_is)
    (case k27 => k_is)
    (case a28 => k_is)
    (case l28 => k_is)
    (case c28 => k_is)
    (case k28 => k_is)
    (case a29 => k_is)
    (case l29 => k_is)
    (case c29 => k_is)
    (case k29 => k_is)
    (case a30 => k_is)
    (case l30 => k_is)
    (case c30 => k_is)
    (case k30 => k_is)
    (case a31 => k_is)
    (case l31 => k_is)
    (case c31 => k_is)
    (case k31 => k_is)
    (case a32 => k_is)
    (case l32 => k_is)
    (case c32 => k_is)
    (case k32 => k_is)
    (case a33 => k_is)
    (case l33 => k_is)
    (case c33 => k_is)
    (case k33 => k_is)
    (case a34 => k_is)
    (case l34 => k_is)
    (case c34 => k_is)
    (case k34 => k_is)
    (case a35 => k_is)
    (case l35 => k_is)
    (case c35 => k_is)
    (case k35 => k_is)
    (case a36 => k_is)
    (case l36 => k_is)
    (case c36 => k_is)
    (case k36 => k_is)
    (case a37 => k_is)
    (case l37 => k_is)
    (case c37 => k_is)
    (case k37 => k_is)
    (case a38 => k_is)
    (case l38 => k_is)
    (case c38 => k_is)
    (case k38 => k_is)
    (case a39 => k_is)
    (case l39 => k_is)
    (case c39 => k_is)
    (case k39 => k_is)
    (case a40 => k_is)
    (case l40 => k_is)
    (case c40 => k_is)
    (case k40 => k_is)
    (case a41 => k_is)
    (case l41 => k_is)
    (case c41 => k_is)
    (case k41 => k_is)
    (case a42 => k_is)
    (case l42 => k_is)
    (case c42 => k_is)
    (case k42 => k_is)
    (case a43 => k_is)
    (case l43 => k_is)
    (case c43 => k_is)
    (case k43 => k_is)
    (case a44 => k_is)
    (case l44 => k_is)
    (case c44 => k_is)
    (case k44 => k_is)
    (case g_UNIT => k_is)
    (case g_PLACES => k_is)
    (case g_LONGEST_TEXT => k_is)
    (case g_WRONG_VALUE => k_is)
    (case l_WRONG_VALUE => k_is)
    (case g_MOST => k_is)
    (case g_LEAST_PLACES => k_is)
    (case g_MOST_PLACES => k_is)
    (case g_RELEASED => k_is)
    (case l_RELEASED => k_is)
    (case g_NUMERIC => k_is)
    (case l_NUMERIC => k_is)
    (case kl_NUMERIC => exact ⟨⟨_, _, rfl, rfl⟩, ⟨_, _, rfl, rfl⟩, ⟨_, _, rfl, rfl⟩, ⟨_, _, rfl, rfl⟩, ⟨_, _, rfl, rfl⟩, trivial⟩)
    (case i_NUMERIC_0 => k_is)
    (case i_NUMERIC_1 => k_is)
    (case i_NUMERIC_2 => k_is)
    (case i_NUMERIC_3 => k_is)
    (case i_NUMERIC_4 => k_is)
    (case lo_NUMERIC => first | rfl | decide | kernel_rfl)
    (case mi_NUMERIC_0 => k_is)
    (case mi_NUMERIC_1 => k_is)
    (case mi_NUMERIC_2 => k_is)
    (case mi_NUMERIC_3 => k_is)
    (case mi_NUMERIC_4 => k_is)
    (case mi_NUMERIC_5 => k_is)
    (case mi_NUMERIC_6 => k_is)
    (case mi_NUMERIC_7 => k_is)
    (case g_SINGLE => k_is)
    (case l_SINGLE => k_is)
    (case kl_SINGLE => exact ⟨⟨_, _, rfl, rfl⟩, ⟨_, _, rfl, rfl⟩, ⟨_, _, rfl, rfl⟩, trivial⟩)
    (case i_SINGLE_0 => k_is)
    (case i_SINGLE_1 => k_is)
    (case i_SINGLE_2 => k_is)
    (case lo_SINGLE => first | rfl | decide | kernel_rfl)
    (case mi_SINGLE_0 => k_is)
    (case mi_SINGLE_1 => k_is)
    (case g_DOUBLE => k_is)
    (case l_DOUBLE => k_is)
    (case kl_DOUBLE => exact ⟨⟨_, _, rfl, rfl⟩, ⟨_, _, rfl, rfl⟩, trivial⟩)
    (case i_DOUBLE_0 => k_is)
    (case i_DOUBLE_1 => k_is)
    (case z_abs => k_is)
    (case z_all => k_is)
    (case z_any => k_is)
    (case z_int => k_is)
    (case z_len => k_is)
    (case z_list => k_is)
    (case z_max => k_is)
    (case z_min => k_is)
    (case z_range => k_is)
    (case z_repr => k_is)
    (case z_sorted => k_is)
    (case z_str => k_is)
    (case z_sum => k_is)
    (case nd => decide +kernel)

