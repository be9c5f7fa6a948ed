import PyProof.Rows.All
import Wide.All
import OpenK.AllK
import Wide.FinOn
import HandS.ForMost
import HandS.ForExc
import HandS.Lambda
import HandS.Nested
import HandS.Wide
import HandS.Comp
import HandS.IsInst
import HandS.EndBits
import HandS.Text
import HandS.StrMore
import HandS.FStr
import HandS.Replace
import HandS.Deep
import HandS.RaiseMore
import PyProof.StrOps2
import PyProof.Rows.StrPadFill
import PyProof.StrLawsTight
import PyProof.StrLawsChain
import PyProof.Rows.StrItems
import PyProof.Rows.StrCut
import PyProof.Rows.StrPadWhole
import KE.IntTextLaws
import PyProof.ReprRoads
import PyProof.ReprLen
import PyProof.Rows.StrReprFit
import HandS.Style
import PyProof.Rows.RuleB_bool
import PyProof.Rows.SeqMore
import HandS.Dict
import HandS.More
import KE.SortKeyHeap
import HandS.ExcValue
import HandS.SortKw
import HandS.Sort
import HandS.EndTab
import HandS.HeadWalk
import HandS.WideBits
import HandS.RevRange
import HandS.Iter
import HandS.Conv
import KE.SortData
import KE.KNestM
import KE.IntBitsLaws
import PySem.Challenge.RW_labelgrid_k30_rights_on_ranges
set_option Elab.async false
set_option linter.all false
set_option autoImplicit false
set_option maxRecDepth 100000
set_option maxHeartbeats 4000000
namespace DL
open PySem L2
/-! data, values with objects of one's own, objects -/
inductive D where
  | non | bl (b : Bool) | int (i : Int) | str (s : Str)
  | tup (xs : List D) | ktup (xs : List D) | lst (xs : List D) | klst (xs : List D) | dK (kvs : List (Key × D)) | dT (kvs : List (List Key × D)) | fn (a : Addr) | scr (xs : List D) | ty (n : String) | rng (lo hi : Int)
inductive DV where
  | p (d : D) | o (n : Nat)
inductive O where
  | lst (xs : List DV) | dK (kvs : List (Key × DV)) | dT (kvs : List (List Key × DV)) | ins (C : Addr) (fs : List (Str × DV)) | tbl (P : Addr) (q : Str) | gone
inductive Rs (α : Type) where
  | ok (v : α) (M : List O) | ex (c : Addr) (fs : List (Str × D)) (M : List O)
structure S where
  l : List (Option DV)
  m : List O
mutual
inductive Rep (K : PySem.W.Frag) (Z : Hp) : V → D → Prop
  | non : Rep K Z .non .non
  | bl (b : Bool) : Rep K Z (.bl b) (.bl b)
  | int (i : Int) : Rep K Z (.int i) (.int i)
  | str (x : Str) : Rep K Z (.str x) (.str x)
  | lst {a : Addr} {xs : List V} {ds : List D} : Rd Z a (.lst xs) → RepA K Z xs ds → Rep K Z (.ref a) (.lst ds)
  | tup {a : Addr} {xs : List V} {ds : List D} : Z a = some (.tup xs) → RepA K Z xs ds → Rep K Z (.ref a) (.tup ds)
  | ktup {a : Addr} {xs : List V} {ds : List D} : SqT K Z a xs → RepA K Z xs ds → Rep K Z (.ref a) (.ktup ds)
  | klst {a : Addr} {xs : List V} {ds : List D} : SqL K Z a xs → RepA K Z xs ds → Rep K Z (.ref a) (.klst ds)
  | dK {a : Addr} {ks : List (Key × V)} {ds : List (Key × D)} : Z a = some (.dK ks) → RepK K Z ks ds → Rep K Z (.ref a) (.dK ds)
  | dT {a : Addr} {ks : List (List Key × V)} {ds : List (List Key × D)} : Z a = some (.dT ks) → RepT K Z ks ds → Rep K Z (.ref a) (.dT ds)
  | fn (a : Addr) : Rep K Z (.ref a) (.fn a)
  | ty (n : String) : Rep K Z (.ty n) (.ty n)
  | rng {a : Addr} {lo hi : Int} : Z a = some (.rng lo hi) → Rep K Z (.ref a) (.rng lo hi)
  | scr {a : Addr} {xs : List V} {ds : List D} : SqL K Z a xs → RepA K Z xs ds → Rep K Z (.ref a) (.scr ds)
inductive RepA (K : PySem.W.Frag) (Z : Hp) : List V → List D → Prop
  | nil : RepA K Z [] []
  | cons {v : V} {vs : List V} {d : D} {ds : List D} : Rep K Z v d → RepA K Z vs ds → RepA K Z (v :: vs) (d :: ds)
inductive RepK (K : PySem.W.Frag) (Z : Hp) : List (Key × V) → List (Key × D) → Prop
  | nil : RepK K Z [] []
  | cons {k : Key} {v : V} {vs : List (Key × V)} {d : D} {ds : List (Key × D)} : Rep K Z v d → RepK K Z vs ds → RepK K Z ((k, v) :: vs) ((k, d) :: ds)
inductive RepT (K : PySem.W.Frag) (Z : Hp) : List (List Key × V) → List (List Key × D) → Prop
  | nil : RepT K Z [] []
  | cons {k : List Key} {v : V} {vs : List (List Key × V)} {d : D} {ds : List (List Key × D)} : Rep K Z v d → RepT K Z vs ds → RepT K Z ((k, v) :: vs) ((k, d) :: ds)
end
theorem same_l {K : PySem.W.Frag} {H H' : Hp} {a : Addr} {xs : List V} (e : Same H H') (h : SqL K H a xs) : SqL K H' a xs := e.seq h
theorem same_rd {H H' : Hp} {a : Addr} {u : HO} (e : Same H H') (h : Rd H a u) : Rd H' a u := by
  rcases h with h | ⟨o, h⟩
  · exact .inl (e a _ h)
  · exact .inr ⟨o, e a _ h⟩
theorem sqt {K : PySem.W.Frag} {H H' : Hp} {a : Addr} {xs : List V} (e : Same H H') (h : H a = some (.tup xs)) : SqT K H' a xs := .inl (.inl (e a _ h))
theorem same_t {K : PySem.W.Frag} {H H' : Hp} {a : Addr} {xs : List V} (e : Same H H') (h : SqT K H a xs) : SqT K H' a xs := by
  rcases h with (h | ⟨o, h⟩) | h
  · exact .inl (.inl (e a _ h))
  · exact .inl (.inr ⟨o, e a _ h⟩)
  · exact .inr h
section
variable {K : PySem.W.Frag} {Z Z' H H' : Hp}
mutual
theorem Rep.mono (e : Same Z Z') : ∀ {v : V} {d : D}, Rep K Z v d → Rep K Z' v d
  | _, _, .non => .non
  | _, _, .bl b => .bl b
  | _, _, .int i => .int i
  | _, _, .str x => .str x
  | _, _, .lst h r => .lst (same_rd e h) (RepA.mono e r)
  | _, _, .tup h r => .tup (e _ _ h) (RepA.mono e r)
  | _, _, .ktup h r => .ktup (same_t e h) (RepA.mono e r)
  | _, _, .klst h r => .klst (same_l e h) (RepA.mono e r)
  | _, _, .dK h r => .dK (e _ _ h) (RepK.mono e r)
  | _, _, .dT h r => .dT (e _ _ h) (RepT.mono e r)
  | _, _, .fn a => .fn a
  | _, _, .ty n => .ty n
  | _, _, .rng h => .rng (e _ _ h)
  | _, _, .scr h r => .scr (same_l e h) (RepA.mono e r)
theorem RepA.mono (e : Same Z Z') : ∀ {v : List V} {d : List D}, RepA K Z v d → RepA K Z' v d
  | _, _, .nil => .nil
  | _, _, .cons h r => .cons (Rep.mono e h) (RepA.mono e r)
theorem RepK.mono (e : Same Z Z') : ∀ {v : List (Key × V)} {d : List (Key × D)}, RepK K Z v d → RepK K Z' v d
  | _, _, .nil => .nil
  | _, _, .cons h r => .cons (Rep.mono e h) (RepK.mono e r)
theorem RepT.mono (e : Same Z Z') : ∀ {v : List (List Key × V)} {d : List (List Key × D)}, RepT K Z v d → RepT K Z' v d
  | _, _, .nil => .nil
  | _, _, .cons h r => .cons (Rep.mono e h) (RepT.mono e r)
end
theorem RepA.length : ∀ {v : List V} {d : List D}, RepA K Z v d → v.length = d.length
  | _, _, .nil => rfl
  | _, _, .cons _ r => by rw [List.length_cons, List.length_cons, RepA.length r]
theorem RepA.get : ∀ {v : List V} {d : List D} {i : Nat} {x : D}, RepA K Z v d → d[i]? = some x → ∃ u, v[i]? = some u ∧ Rep K Z u x
  | _, _, _, _, .nil, e => by simp at e
  | _, _, 0, _, .cons h _, e => by simp at e; subst e; exact ⟨_, rfl, h⟩
  | _, _, i + 1, x, .cons _ r, e => by
    obtain ⟨u, h1, h2⟩ := RepA.get (i := i) (x := x) r (by simpa using e)
    exact ⟨u, by simpa using h1, h2⟩
theorem RepA.get' : ∀ {v : List V} {d : List D} {i : Nat} {u : V}, RepA K Z v d → v[i]? = some u → ∃ x, d[i]? = some x ∧ Rep K Z u x
  | _, _, _, _, .nil, e => by simp at e
  | _, _, 0, _, .cons h _, e => by simp at e; subst e; exact ⟨_, rfl, h⟩
  | _, _, i + 1, x, .cons _ r, e => by
    obtain ⟨u, h1, h2⟩ := RepA.get' (i := i) (u := x) r (by simpa using e)
    exact ⟨u, by simpa using h1, h2⟩
theorem RepA.append : ∀ {v w : List V} {d f : List D}, RepA K Z v d → RepA K Z w f → RepA K Z (v ++ w) (d ++ f)
  | _, _, _, _, .nil, s => s
  | _, _, _, _, .cons h r, s => .cons h (RepA.append r s)
theorem RepA.take : ∀ {v : List V} {d : List D} (n : Nat), RepA K Z v d → RepA K Z (v.take n) (d.take n)
  | _, _, 0, _ => .nil
  | _, _, _ + 1, .nil => .nil
  | _, _, n + 1, .cons h r => .cons h (RepA.take n r)
theorem RepA.drop : ∀ {v : List V} {d : List D} (n : Nat), RepA K Z v d → RepA K Z (v.drop n) (d.drop n)
  | _, _, 0, h => h
  | _, _, _ + 1, .nil => .nil
  | _, _, n + 1, .cons _ r => RepA.drop n r
/-! values with objects of one's own -/
def RepV (K : PySem.W.Frag) (Z : Hp) (I : List Addr) (v : V) : DV → Prop
  | .p d => Rep K Z v d
  | .o n => ∃ a, I[n]? = some a ∧ v = .ref a
abbrev RepVs (K : PySem.W.Frag) (Z : Hp) (I : List Addr) : List V → List DV → Prop := Paired (RepV K Z I)
theorem paired_len {α β : Type} {F : α → β → Prop} : ∀ {xs : List α} {ys : List β}, Paired F xs ys → xs.length = ys.length
  | _, _, .nil => rfl
  | _, _, .cons _ r => by rw [List.length_cons, List.length_cons, paired_len r]
theorem paired_get {α β : Type} {F : α → β → Prop} : ∀ {xs : List α} {ys : List β} {i : Nat} {y : β}, Paired F xs ys → ys[i]? = some y → ∃ x, xs[i]? = some x ∧ F x y
  | _, _, _, _, .nil, e => by simp at e
  | _, _, 0, _, .cons h _, e => by simp at e; subst e; exact ⟨_, rfl, h⟩
  | _, _, i + 1, x, .cons _ r, e => by
    obtain ⟨u, h1, h2⟩ := paired_get (i := i) (y := x) r (by simpa using e)
    exact ⟨u, by simpa using h1, h2⟩
theorem paired_set {α β : Type} {F : α → β → Prop} {x : α} {y : β} (h : F x y) : ∀ {xs : List α} {ys : List β} (i : Nat), Paired F xs ys → Paired F (xs.set i x) (ys.set i y)
  | _, _, _, .nil => .nil
  | _, _, 0, .cons _ r => .cons h r
  | _, _, i + 1, .cons q r => .cons q (paired_set h i r)
theorem paired_app {α β : Type} {F : α → β → Prop} : ∀ {xs zs : List α} {ys ws : List β}, Paired F xs ys → Paired F zs ws → Paired F (xs ++ zs) (ys ++ ws)
  | _, _, _, _, .nil, s => s
  | _, _, _, _, .cons h r, s => .cons h (paired_app r s)
theorem paired_imp {α β : Type} {F G : α → β → Prop} (k : ∀ a b, F a b → G a b) : ∀ {xs : List α} {ys : List β}, Paired F xs ys → Paired G xs ys
  | _, _, .nil => .nil
  | _, _, .cons h r => .cons (k _ _ h) (paired_imp k r)
def FRel (K : PySem.W.Frag) (Z : Hp) (I : List Addr) {κ : Type} (p : κ × V) (q : κ × DV) : Prop := p.1 = q.1 ∧ RepV K Z I p.2 q.2
def RepO (K : PySem.W.Frag) (Z : Hp) (I : List Addr) (H : Hp) (a : Addr) : O → Prop
  | .lst ds => ∃ xs, H a = some (.lst xs) ∧ RepVs K Z I xs ds
  | .dK ds => ∃ ks, H a = some (.dK ks) ∧ Paired (FRel K Z I) ks ds
  | .dT ds => ∃ ks, H a = some (.dT ks) ∧ Paired (FRel K Z I) ks ds
  | .ins C fs => ∃ dx vs, H a = some (.ins C dx vs) ∧ Paired (FRel K Z I) vs fs
  | .tbl P q => a = P ∧ ∃ ps : Array Value, H a = some (.tbl ps) ∧ TriplesOk ps.toList ∧ ∀ (pos : Pos) (cv : Value), codeAmong pos ps.toList = some cv → ∃ c, cv = .ref c ∧ Z c = some (LamX.CodeO c q)
  | .gone => True
structure Wf (K : PySem.W.Frag) (Z H : Hp) (I : List Addr) (M : List O) : Prop where
  sub : Same Z H
  len : I.length = M.length
  nd : I.Nodup
  tr : ∀ a ∈ I, H a ≠ none
  ob : ∀ (n : Nat) (a : Addr) (o : O), I[n]? = some a → M[n]? = some o → o ≠ .gone → Z a = none ∧ RepO K Z I H a o
structure Ext (Z H : Hp) (I : List Addr) (Z' H' : Hp) (I' : List Addr) : Prop where
  z : Same Z Z'
  i : ∃ t, I' = I ++ t
  fr : ∀ a o, H a = some o → a ∉ I → H' a = some o
  nw : ∀ a ∈ I', a ∈ I ∨ H a = none
  zn : ∀ a, Z' a ≠ none → Z a ≠ none ∨ H a = none ∨ a ∈ I
  tr : ∀ a, H a ≠ none → H' a ≠ none
end
theorem Ext.refl {Z H : Hp} {I : List Addr} : Ext Z H I Z H I := ⟨Same.refl Z, ⟨[], by simp⟩, fun _ _ h _ => h, fun _ h => .inl h, fun _ h => .inl h, fun _ h => h⟩
theorem Ext.mem {Z H Z1 H1 : Hp} {I I1 : List Addr} (a : Ext Z H I Z1 H1 I1) {b : Addr} (h : b ∈ I) : b ∈ I1 := by
  obtain ⟨t, rfl⟩ := a.i
  exact List.mem_append_left _ h
theorem Ext.trans {Z H Z1 H1 Z2 H2 : Hp} {I I1 I2 : List Addr} (a : Ext Z H I Z1 H1 I1) (b : Ext Z1 H1 I1 Z2 H2 I2) : Ext Z H I Z2 H2 I2 where
  z := a.z.trans b.z
  i := by
    obtain ⟨t, e⟩ := a.i
    obtain ⟨u, f⟩ := b.i
    exact ⟨t ++ u, by rw [f, e, List.append_assoc]⟩
  fr := fun c o h n => b.fr c o (a.fr c o h n) fun m => by
    rcases a.nw c m with k | k
    · exact n k
    · rw [h] at k; cases k
  nw := fun c m => by
    rcases b.nw c m with k | k
    · exact a.nw c k
    · right
      cases e : H c with
      | none => rfl
      | some o => exact absurd k (a.tr c (by rw [e]; simp))
  zn := fun c h => by
    rcases b.zn c h with k | k | k
    · exact a.zn c k
    · right; left
      cases e : H c with
      | none => rfl
      | some o => exact absurd k (a.tr c (by rw [e]; simp))
    · rcases a.nw c k with q | q
      · exact .inr (.inr q)
      · exact .inr (.inl q)
  tr := fun c h => b.tr c (a.tr c h)
section
variable {K : PySem.W.Frag} {Z H Z' H' : Hp} {I I' : List Addr}
theorem RepV.mono (e : Ext Z H I Z' H' I') {v : V} : ∀ {d : DV}, RepV K Z I v d → RepV K Z' I' v d
  | .p _, h => Rep.mono e.z h
  | .o n, ⟨a, h, q⟩ => by
    obtain ⟨t, rfl⟩ := e.i
    exact ⟨a, by rw [List.getElem?_append_left (List.getElem?_eq_some_iff.mp h).1]; exact h, q⟩
theorem RepV.mono' (z : Same Z Z') {v : V} : ∀ {d : DV}, RepV K Z I v d → RepV K Z' I v d
  | .p _, h => Rep.mono z h
  | .o _, h => h
/-- a pure step: nothing of one's own is touched -/
structure ExtP (Z H Z' H' : Hp) : Prop where
  z : Same Z Z'
  h : Same H H'
  sub : Same Z' H'
  zn : ∀ a, Z' a ≠ none → Z a ≠ none ∨ H a = none
theorem ExtP.refl (h : Same Z H) : ExtP Z H Z H := ⟨Same.refl _, Same.refl _, h, fun _ h => .inl h⟩
theorem ExtP.trans {Z2 H2 : Hp} (a : ExtP Z H Z' H') (b : ExtP Z' H' Z2 H2) : ExtP Z H Z2 H2 := ⟨a.z.trans b.z, a.h.trans b.h, b.sub, fun c h => by
  rcases b.zn c h with k | k
  · exact a.zn c k
  · exact .inr (a.h.free k)⟩
theorem none_of {Z H : Hp} (s : Same Z H) {p : Addr} (h : H p = none) : Z p = none := s.free h
theorem same_upd {H : Hp} {p : Addr} {o : HO} (h : H p = none) : Same H (upd H p o) := fun a u e => by
  rw [upd_ne (ne_of_none e h)]; exact e
theorem ExtP.new {p : Addr} {o : HO} (s : Same Z H) (h : H p = none) : ExtP Z H (upd Z p o) (upd H p o) := by
  refine ⟨same_upd (none_of s h), same_upd h, fun a u e => ?_, fun a e => ?_⟩
  · by_cases q : a = p
    · subst q; rw [upd_same] at e ⊢; exact e
    · rw [upd_ne q] at e ⊢; exact s a u e
  · by_cases q : a = p
    · subst q; exact .inr h
    · rw [upd_ne q] at e; exact .inl e
theorem RepO.mono {a : Addr} (z : Same Z Z') (ha : H' a = H a) : ∀ {o : O}, RepO K Z I H a o → RepO K Z' I H' a o
  | .lst _, ⟨xs, h, r⟩ => ⟨xs, ha.trans h, paired_imp (fun _ _ q => RepV.mono' z q) r⟩
  | .dK _, ⟨xs, h, r⟩ => ⟨xs, ha.trans h, paired_imp (fun _ _ q => ⟨q.1, RepV.mono' z q.2⟩) r⟩
  | .dT _, ⟨xs, h, r⟩ => ⟨xs, ha.trans h, paired_imp (fun _ _ q => ⟨q.1, RepV.mono' z q.2⟩) r⟩
  | .ins _ _, ⟨dx, xs, h, r⟩ => ⟨dx, xs, ha.trans h, paired_imp (fun _ _ q => ⟨q.1, RepV.mono' z q.2⟩) r⟩
  | .tbl _ _, ⟨e, ps, h, t, r⟩ => ⟨e, ps, ha.trans h, t, fun pos cv hc => by
      obtain ⟨c, h1, h2⟩ := r pos cv hc
      exact ⟨c, h1, z _ _ h2⟩⟩
  | .gone, _ => trivial
theorem same_eq {H H' : Hp} (e : Same H H') {a : Addr} (h : H a ≠ none) : H' a = H a := by
  cases q : H a with
  | none => exact absurd q h
  | some o => exact e a o q
theorem Wf.extP {M : List O} (w : Wf K Z H I M) (e : ExtP Z H Z' H') : Wf K Z' H' I M where
  sub := e.sub
  len := w.len
  nd := w.nd
  tr := fun a h => by rw [same_eq e.h (w.tr a h)]; exact w.tr a h
  ob := fun n a o h1 h2 h3 => by
    obtain ⟨q1, q2⟩ := w.ob n a o h1 h2 h3
    have ha := w.tr a (List.mem_of_getElem? h1)
    refine ⟨?_, q2.mono e.z (same_eq e.h ha)⟩
    cases q : Z' a with
    | none => rfl
    | some u =>
      rcases e.zn a (by rw [q]; simp) with k | k
      · exact absurd q1 k
      · exact absurd k ha
theorem ExtP.ext {M : List O} (w : Wf K Z H I M) (e : ExtP Z H Z' H') : Ext Z H I Z' H' I := ⟨e.z, ⟨[], by simp⟩, fun a o h _ => e.h a o h, fun _ h => .inl h, fun a h => (e.zn a h).imp_right .inl, fun a h => by rw [same_eq e.h h]; exact h⟩
/-! ### slots -/
structure RepS (K : PySem.W.Frag) (Z : Hp) (I : List Addr) (σ : St) (l : List (Option DV)) : Prop where
  len : σ.length = l.length
  at_ : ∀ (i : Nat) (dv : DV), l[i]? = some (some dv) → ∃ v, σ[i]? = some (some v) ∧ RepV K Z I v dv
theorem RepS.mono {σ : St} {l : List (Option DV)} (r : RepS K Z I σ l) (e : Ext Z H I Z' H' I') : RepS K Z' I' σ l := ⟨r.len, fun i dv h => by
  obtain ⟨v, h1, h2⟩ := r.at_ i dv h
  exact ⟨v, h1, h2.mono e⟩⟩
theorem RepS.set {σ : St} {l : List (Option DV)} (r : RepS K Z I σ l) {v : V} {dv : DV} (h : RepV K Z I v dv) (i : Nat) : RepS K Z I (σ.set i (some v)) (l.set i (some dv)) := by
  refine ⟨by simpa using r.len, fun j dw e => ?_⟩
  by_cases q : i = j
  · subst q
    by_cases b : i < l.length
    · rw [List.getElem?_set_self b] at e
      cases e
      exact ⟨v, by rw [List.getElem?_set_self (by rw [r.len]; exact b)], h⟩
    · rw [List.getElem?_eq_none (by simpa using b)] at e; cases e
  · rw [List.getElem?_set_ne q] at e ⊢
    exact r.at_ j dw e
/-! ### what is wanted -/
def ExcAt (K : PySem.W.Frag) (Z H : Hp) (d : Option Addr) (fs : List (Str × D)) : Prop :=
  (d = none ∧ fs = []) ∨ ∃ a vs, d = some a ∧ H a = some (.xd vs) ∧ Paired (fun (p : Str × V) (q : Str × D) => p.1 = q.1 ∧ Rep K Z p.2 q.2) vs fs
def PostX (K : PySem.W.Frag) (W : WX) (Z H : Hp) (I : List Addr) (σ : St) (M' : List O) (c : Addr) (fs : List (Str × D)) : Prop :=
  ∀ d Z' H' I', Wf K Z' H' I' M' → Ext Z H I Z' H' I' → ExcAt K Z' H' d fs → (∀ a, d = some a → H a = none ∧ a ∉ I') → W (.ref c) d σ H'
theorem PostX.mono {W : WX} {σ : St} {M' : List O} {c : Addr} {fs : List (Str × D)} {Z1 H1 : Hp} {I1 : List Addr} (e : Ext Z H I Z1 H1 I1) (h : PostX K W Z H I σ M' c fs) : PostX K W Z1 H1 I1 σ M' c fs :=
  fun d Z' H' I' w x a n => h d Z' H' I' w (e.trans x) a fun b q => ⟨by
    cases z : H b with
    | none => rfl
    | some o => exact absurd (n b q).1 (e.tr b (by rw [z]; simp)), (n b q).2⟩
def PostR {α β : Type} (K : PySem.W.Frag) (W : WX) (R : Hp → List Addr → β → α → Prop) (Z H : Hp) (I : List Addr) (σ : St) (Q : β → Hp → Prop) : Rs α → Prop
  | .ok a M' => ∀ b Z' H' I', Wf K Z' H' I' M' → Ext Z H I Z' H' I' → R Z' I' b a → Q b H'
  | .ex c fs M' => PostX K W Z H I σ M' c fs
theorem PostR.mono {α β : Type} {W : WX} {R : Hp → List Addr → β → α → Prop} {σ : St} {Q : β → Hp → Prop} {Z1 H1 : Hp} {I1 : List Addr} (e : Ext Z H I Z1 H1 I1) : ∀ {r : Rs α}, PostR K W R Z H I σ Q r → PostR K W R Z1 H1 I1 σ Q r
  | .ok _ _, h => fun b Z' H' I' w x q => h b Z' H' I' w (e.trans x) q
  | .ex _ _ _, h => PostX.mono e h
theorem PostR.x {α β : Type} {W : WX} {R : Hp → List Addr → β → α → Prop} {σ : St} {Q : β → Hp → Prop} {r : Rs α} (h : PostR K W R Z H I σ Q r) (c : Addr) (fs : List (Str × D)) (M : List O) (e : r = .ex c fs M) : PostX K W Z H I σ M c fs := by
  subst e; exact h
abbrev Mi (α : Type) := S → Option (Rs α)
structure Sound {α β : Type} (K : PySem.W.Frag) (W : WX) (R : Hp → List Addr → β → α → Prop) (t : St → Hp → (β → Hp → Prop) → Prop) (m : Mi α) : Prop where
  ok : ∀ (σ : St) (H : Hp) (s : S) (Z : Hp) (I : List Addr) (r : Rs α) (Q : β → Hp → Prop), Wf K Z H I s.m → RepS K Z I σ s.l → m s = some r → PostR K W R Z H I σ Q r → t σ H Q
def bnd {α γ : Type} (m : Mi α) (k : α → Mi γ) : Mi γ := fun s => match m s with
  | some (.ok v M) => k v ⟨s.l, M⟩
  | some (.ex c f M) => some (.ex c f M)
  | none => none
theorem Sound.bnd {α β γ : Type} {W : WX} {R : Hp → List Addr → β → α → Prop} {t : St → Hp → (β → Hp → Prop) → Prop} {m : Mi α} (h : Sound K W R t m) {σ : St} {s : S} {k : α → Mi γ} {r : Rs γ} {Q : β → Hp → Prop}
    (w : Wf K Z H I s.m) (rs : RepS K Z I σ s.l) (e : DL.bnd m k s = some r) (hx : ∀ c fs M, r = .ex c fs M → PostX K W Z H I σ M c fs)
    (hk : ∀ a b M' Z' H' I', Wf K Z' H' I' M' → RepS K Z' I' σ s.l → Ext Z H I Z' H' I' → R Z' I' b a → k a ⟨s.l, M'⟩ = some r → Q b H') : t σ H Q := by
  unfold DL.bnd at e
  cases q : m s with
  | none => rw [q] at e; cases e
  | some r0 =>
    rw [q] at e
    cases r0 with
    | ok v M => exact h.ok σ H s Z I _ Q w rs q fun b Z' H' I' w' x' r' => hk v b M Z' H' I' w' (rs.mono x') x' r' e
    | ex c f M =>
      obtain rfl := Option.some.inj e
      exact h.ok σ H s Z I _ Q w rs q (hx c f M rfl)
abbrev EM := Mi DV
abbrev AM := Mi (List DV)
structure DE (K : PySem.W.Frag) (X : Cx) (W : WX) (e : Expr) (t : TE) (m : EM) : Prop where
  k : X.K = K
  pe : PE X e t
  so : Sound K W (RepV K) t m
def RepB (_ : Hp) (_ : List Addr) (b : Bool) (d : DV) : Prop := d = .p (.bl b)
structure DT (K : PySem.W.Frag) (X : Cx) (W : WX) (e : Expr) (t : TT) (m : EM) : Prop where
  k : X.K = K
  pt : PT X e t
  so : Sound K W RepB t m
structure DW (K : PySem.W.Frag) (X : Cx) (W : WX) (e : Expr) (t : TT) (m : EM) : Prop where
  k : X.K = K
  pw : PW X e t
  so : Sound K W RepB t m
structure DA (K : PySem.W.Frag) (X : Cx) (W : WX) (es : List Expr) (t : TA) (m : AM) : Prop where
  k : X.K = K
  pa : PA X es t
  so : Sound K W (RepVs K) t m
/-- statements -/
inductive Fl where
  | nx | rt (v : DV) | bk | ct | ex (c : Addr) (fs : List (Str × D))
abbrev SM := S → Option (Fl × S)
def PostS (K : PySem.W.Frag) (W : WX) (Z H : Hp) (I : List Addr) (D : Ends) : Fl × S → Prop
  | (.nx, s') => ∀ σ' Z' H' I', Wf K Z' H' I' s'.m → RepS K Z' I' σ' s'.l → Ext Z H I Z' H' I' → D.nx σ' H'
  | (.rt dv, s') => ∀ v Z' H' I', Wf K Z' H' I' s'.m → Ext Z H I Z' H' I' → RepV K Z' I' v dv → D.rt v H'
  | (.bk, s') => ∀ σ' Z' H' I', Wf K Z' H' I' s'.m → RepS K Z' I' σ' s'.l → Ext Z H I Z' H' I' → D.bk σ' H'
  | (.ct, s') => ∀ σ' Z' H' I', Wf K Z' H' I' s'.m → RepS K Z' I' σ' s'.l → Ext Z H I Z' H' I' → D.ct σ' H'
  | (.ex c fs, s') => ∀ σ' d Z' H' I', Wf K Z' H' I' s'.m → RepS K Z' I' σ' s'.l → Ext Z H I Z' H' I' → ExcAt K Z' H' d fs → (∀ a, d = some a → H a = none ∧ a ∉ I') → W (.ref c) d σ' H'
structure SoundS (K : PySem.W.Frag) (W : WX) (t : TS) (m : SM) : Prop where
  ok : ∀ (σ : St) (H : Hp) (s : S) (Z : Hp) (I : List Addr) (r : Fl × S) (D : Ends), Wf K Z H I s.m → RepS K Z I σ s.l → m s = some r → PostS K W Z H I D r → t D σ H
structure DS (K : PySem.W.Frag) (X : Cx) (W : WX) (st : Stmt) (t : TS) (m : SM) : Prop where
  k : X.K = K
  ps : PS X st t
  so : SoundS K W t m
structure DSs (K : PySem.W.Frag) (X : Cx) (W : WX) (st : List Stmt) (t : TS) (m : SM) : Prop where
  k : X.K = K
  ps : PSs X st t
  so : SoundS K W t m
end
end DL
namespace DL
open PySem L2
section
variable {K : PySem.W.Frag} {X : Cx} {W : WX} {e a b c : Expr} {pos : Pos}
/-! ### names, constants -/
def gv (l : List (Option DV)) (i : Nat) : Option DV := match l[i]? with
  | some (some d) => some d
  | _ => none
def mVar (i : Nat) : EM := fun s => match gv s.l i with
  | some d => some (.ok d s.m)
  | none => none
theorem gv_some {l : List (Option DV)} {i : Nat} {d : DV} (h : gv l i = some d) : l[i]? = some (some d) := by
  unfold gv at h
  split at h
  · cases h; assumption
  · cases h
theorem so_var {i : Nat} : Sound K W (RepV K) (tVar i) (mVar i) := ⟨fun σ H s Z I r Q w rs e p => by
  unfold mVar at e
  split at e
  · rename_i d hd
    obtain rfl := Option.some.inj e
    obtain ⟨v, h1, h2⟩ := rs.at_ i d (gv_some hd)
    exact ⟨v, h1, p v Z H I w Ext.refl h2⟩
  · cases e⟩
def mC (d : D) : EM := fun s => some (.ok (.p d) s.m)
theorem so_c {v : V} {d : D} (h : ∀ Z, Rep K Z v d) : Sound K W (RepV K) (tC v) (mC d) := ⟨fun σ H s Z I r Q w rs e p => by
  obtain rfl := Option.some.inj e
  exact p v Z H I w Ext.refl (h Z)⟩
theorem de_var (i : Nat) {x : Str} (k : X.K = K := by rfl) (hN : X.N[i]? = some x := by rfl) (hv : Vis X.env.scope x := by first | exact Or.inl rfl | exact Or.inr (Or.inl rfl) | exact Or.inr (Or.inr rfl)) (hd : (x == ("__debug__" : Str)) = false := by decide)
    (hcd : (x == ("__classdict__" : Str)) = false := by decide) : DE K X W (.Name x pos) (tVar i) (mVar i) := ⟨k, pe_var hN hv hd hcd, so_var⟩
theorem de_int {i : Int} {j} (k : X.K = K := by rfl) : DE K X W (.Constant (.int i) j pos) (tC (.int i)) (mC (.int i)) := ⟨k, pe_int, so_c fun _ => .int i⟩
theorem de_bl {i : Bool} {j} (k : X.K = K := by rfl) : DE K X W (.Constant (.bool i) j pos) (tC (.bl i)) (mC (.bl i)) := ⟨k, pe_bl, so_c fun _ => .bl i⟩
theorem de_non {j} (k : X.K = K := by rfl) : DE K X W (.Constant .none j pos) (tC .non) (mC .non) := ⟨k, pe_non, so_c fun _ => .non⟩
theorem de_str {x : Str} {j} (k : X.K = K := by rfl) : DE K X W (.Constant (.str x) j pos) (tC (.str x)) (mC (.str x)) := ⟨k, pe_str, so_c fun _ => .str x⟩
/-- a constant of the top: its value u, what it is -/
theorem de_glob {x : Str} {v : V} {u : Value} {d : D} (hm : X.mg x = some u) (r : RelV v u) (h : ∀ Z, Rep K Z v d) (k : X.K = K := by rfl) (hg : Gl X x := by rfl) (hd : (x == ("__debug__" : Str)) = false := by decide) :
    DE K X W (.Name x pos) (tC v) (mC d) := ⟨k, pe_glob hg hm r hd, so_c h⟩
/-! ### operations on data -/
def pur {γ : Type} (k : D → Mi γ) : DV → Mi γ
  | .p d, s => k d s
  | .o _, _ => none
/-- the value of an operation: at the heap as it is, or with new objects -/
def PostP (K : PySem.W.Frag) (Z H : Hp) (d : D) (Q : VK) : Prop := ∀ v Z' H', ExtP Z H Z' H' → Rep K Z' v d → Q v H'
def ret (o : Option D) : EM := fun s => match o with
  | some d => some (.ok (.p d) s.m)
  | none => none
theorem PostP.of {Z H : Hp} {I : List Addr} {σ : St} {Q : VK} {d : D} {M : List O} (w : Wf K Z H I M) (p : PostR K W (RepV K) Z H I σ Q (.ok (.p d) M)) : PostP K Z H d Q :=
  fun v Z' H' x r => p v Z' H' I (w.extP x) (x.ext w) r
structure OpD (K : PySem.W.Frag) (X : Cx) (f : Value → Value → Sem Value) (r : R2) (g : D → D → Option D) : Prop where
  op : X.K = K → OpR X f r
  ok : ∀ (x y : V) (d e c : D) (Z H : Hp) (Q : VK), Same Z H → Rep K Z x d → Rep K Z y e → g d e = some c → PostP K Z H c Q → r x y H Q
def mBin (g : D → D → Option D) (m n : EM) : EM := bnd m (pur fun d => bnd n (pur fun e => ret (g d e)))
theorem so_bin {r : R2} {g : D → D → Option D} {ta tb : TE} {m n : EM} (h : ∀ (x y : V) (d e c : D) (Z H : Hp) (Q : VK), Same Z H → Rep K Z x d → Rep K Z y e → g d e = some c → PostP K Z H c Q → r x y H Q)
    (ha : Sound K W (RepV K) ta m) (hb : Sound K W (RepV K) tb n) : Sound K W (RepV K) (tOp r ta tb) (mBin g m n) := ⟨fun σ H s Z I r0 Q w rs e p => by
  refine ha.bnd w rs e (p.x) fun d v M1 Z1 H1 I1 w1 rs1 x1 q1 e1 => ?_
  cases d with
  | o n => cases e1
  | p d =>
  have p1 := p.mono x1
  refine hb.bnd (s := ⟨s.l, M1⟩) w1 rs1 e1 (p1.x) fun d2 v2 M2 Z2 H2 I2 w2 rs2 x2 q2 e2 => ?_
  cases d2 with
  | o n => cases e2
  | p d2 =>
  have p2 := p1.mono x2
  have e3 : ret (g d d2) ⟨s.l, M2⟩ = some r0 := e2
  unfold ret at e3
  cases q : g d d2 with
  | none => rw [q] at e3; cases e3
  | some c =>
    rw [q] at e3
    obtain rfl := Option.some.inj e3
    exact h v v2 d d2 c Z2 H2 Q w2.sub (Rep.mono x2.z q1) q2 q (PostP.of w2 p2)⟩
theorem de_bin {op : Operator} {r : R2} {g : D → D → Option D} {ta tb : TE} {m n : EM} (h : OpD K X (binaryOp op) r g) (ha : DE K X W a ta m) (hb : DE K X W b tb n) : DE K X W (.BinOp a op b pos) (tOp r ta tb) (mBin g m n) :=
  ⟨ha.k, pe_op (h.op ha.k) ha.pe hb.pe, so_bin h.ok ha.so hb.so⟩
theorem de_cmp {op : CmpOp} {r : R2} {g : D → D → Option D} {ta tb : TE} {m n : EM} (h : OpD K X (compareOp op) r g) (ha : DE K X W a ta m) (hb : DE K X W b tb n) (hm : behindInMarks op b = false := by first | exact nomark _ | rfl) : DE K X W (.Compare a [op] [b] pos) (tOp r ta tb) (mBin g m n) :=
  ⟨ha.k, pe_cmpR (h.op ha.k) ha.pe hb.pe hm, so_bin h.ok ha.so hb.so⟩
theorem so_test {t : TE} {m : EM} (h : Sound K W (RepV K) t m) (hb : ∀ s r, m s = some r → ∀ v M, r = .ok v M → ∃ b, v = .p (.bl b)) : Sound K W RepB (tTest t) m := ⟨fun σ H s Z I r Q w rs e p => by
  refine h.ok σ H s Z I r _ w rs e ?_
  cases r with
  | ex c fs M => exact p
  | ok v M =>
    obtain ⟨b, rfl⟩ := hb s _ e v M rfl
    intro v Z' H' I' w' x' r'
    cases r'
    exact ⟨b, rfl, p b Z' H' I' w' x' rfl⟩⟩
/-- a result that is a truth -/
def boolD (g : D → D → Option D) : Prop := ∀ d e c, g d e = some c → ∃ b, c = .bl b
theorem bnd_ok {α γ : Type} {m : Mi α} {k : α → Mi γ} {s : S} {v : γ} {M : List O} (e : bnd m k s = some (.ok v M)) : ∃ a M1, m s = some (.ok a M1) ∧ k a ⟨s.l, M1⟩ = some (.ok v M) := by
  unfold bnd at e
  cases q : m s with
  | none => rw [q] at e; cases e
  | some r0 =>
    rw [q] at e
    cases r0 with
    | ok a M1 => exact ⟨a, M1, rfl, e⟩
    | ex c f M1 => cases e
theorem pur_ok {γ : Type} {k : D → Mi γ} {v : DV} {s : S} {r : Rs γ} (e : pur k v s = some r) : ∃ d, v = .p d ∧ k d s = some r := by
  cases v with
  | p d => exact ⟨d, rfl, e⟩
  | o n => cases e
theorem ret_ok {o : Option D} {s : S} {r : Rs DV} (e : ret o s = some r) : ∃ d, o = some d ∧ r = .ok (.p d) s.m := by
  cases o with
  | none => cases e
  | some d => exact ⟨d, rfl, (Option.some.inj e).symm⟩
theorem mBin_bool {g : D → D → Option D} {m n : EM} (hg : boolD g) (s : S) (r : Rs DV) (e : mBin g m n s = some r) (v : DV) (M : List O) (hr : r = .ok v M) : ∃ b, v = .p (.bl b) := by
  subst hr
  obtain ⟨a, M1, _, e⟩ := bnd_ok e
  obtain ⟨d, _, e⟩ := pur_ok e
  obtain ⟨a2, M2, _, e⟩ := bnd_ok e
  obtain ⟨d2, _, e⟩ := pur_ok e
  obtain ⟨c, q, e⟩ := ret_ok e
  cases e
  obtain ⟨b, rfl⟩ := hg _ _ _ q
  exact ⟨b, rfl⟩
theorem dt_cmp {op : CmpOp} {r : R2} {g : D → D → Option D} {ta tb : TE} {m n : EM} (h : OpD K X (compareOp op) r g) (hg : boolD g) (ha : DE K X W a ta m) (hb : DE K X W b tb n) (hm : behindInMarks op b = false := by first | exact nomark _ | rfl) : DT K X W (.Compare a [op] [b] pos) (tTest (tOp r ta tb)) (mBin g m n) :=
  ⟨ha.k, pt_cmpR (h.op ha.k) ha.pe hb.pe hm, so_test (so_bin h.ok ha.so hb.so) (mBin_bool hg)⟩
/-! the ints -/
def dI (g : Int → Int → Option D) : D → D → Option D
  | .int i, .int j => g i j
  | _, _ => none
theorem ok_rI {C : Int → Int → Prop} {h : Int → Int → V} {g : Int → Int → Option D} (hc : ∀ i j c, g i j = some c → C i j ∧ ∀ Z, Rep K Z (h i j) c) : ∀ (x y : V) (d e c : D) (Z H : Hp) (Q : VK), Same Z H → Rep K Z x d → Rep K Z y e → dI g d e = some c → PostP K Z H c Q → rI C h x y H Q := by
  intro x y d e c Z H Q s hx hy hg p
  unfold dI at hg
  split at hg
  · cases hx; cases hy
    obtain ⟨h1, h2⟩ := hc _ _ _ hg
    exact ⟨_, _, rfl, rfl, h1, p _ Z H (ExtP.refl s) (h2 Z)⟩
  · cases hg
theorem ok_rI0 {h : Int → Int → V} {g : Int → Int → Option D} (hc : ∀ i j c, g i j = some c → ∀ Z, Rep K Z (h i j) c) : ∀ (x y : V) (d e c : D) (Z H : Hp) (Q : VK), Same Z H → Rep K Z x d → Rep K Z y e → dI g d e = some c → PostP K Z H c Q → rI0 h x y H Q := by
  intro x y d e c Z H Q s hx hy hg p
  unfold dI at hg
  split at hg
  · cases hx; cases hy
    exact ⟨_, _, rfl, rfl, p _ Z H (ExtP.refl s) (hc _ _ _ hg Z)⟩
  · cases hg
abbrev dIi (g : Int → Int → Int) : D → D → Option D := dI fun i j => some (.int (g i j))
abbrev dIb (g : Int → Int → Bool) : D → D → Option D := dI fun i j => some (.bl (g i j))
def dAdd : D → D → Option D
  | .int i, .int j => some (.int (i + j))
  | .str x, .str y => if x.length + y.length ≤ 1000000 then some (.str (x ++ y)) else none
  | _, _ => none
theorem size_le {n : Nat} (h : n ≤ 1000000) : n ≤ sizeLine := Nat.le_trans h (by decide)
theorem size_lt {n : Nat} (h : n ≤ 1000000) : n < sizeLine := Nat.lt_of_le_of_lt h (by decide)
theorem od_add : OpD K X (binaryOp .Add) (fun x y H Q => rI0 (fun i j => .int (i + j)) x y H Q ∨ ∃ i j, x = .str i ∧ y = .str j ∧ i.length + j.length ≤ sizeLine ∧ Q (.str (i ++ j)) H) dAdd where
  op := fun _ pins s σ H x y v u Q I rx ry h => by
    rcases h with h | h
    · exact op_add pins s σ H x y v u Q I rx ry h
    · exact op_add_str pins s σ H x y v u Q I rx ry h
  ok := by
    intro x y d e c Z H Q s hx hy hg p
    unfold dAdd at hg
    split at hg
    · cases hx; cases hy; cases hg
      exact .inl ⟨_, _, rfl, rfl, p _ Z H (ExtP.refl s) (.int _)⟩
    · split at hg
      · rename_i hl
        cases hx; cases hy; cases hg
        exact .inr ⟨_, _, rfl, rfl, size_le hl, p _ Z H (ExtP.refl s) (.str _)⟩
      · cases hg
    · cases hg
theorem od_sub : OpD K X (binaryOp .Sub) (rI0 fun i j => .int (i - j)) (dIi fun i j => i - j) := ⟨fun _ => op_sub, ok_rI0 fun i j c h Z => by cases h; exact .int _⟩
def mulOk (i j : Int) : Bool := decide (-(2 ^ 64) < i ∧ i < 2 ^ 64) || decide (-(2 ^ 64) < j ∧ j < 2 ^ 64)
theorem od_mul : OpD K X (binaryOp .Mult) (rI CMul fun i j => .int (i * j)) (dI fun i j => if mulOk i j = true then some (.int (i * j)) else none) := ⟨fun _ => op_mul, ok_rI fun i j c h => by
  split at h
  · rename_i hc
    cases h
    refine ⟨?_, fun _ => .int _⟩
    unfold mulOk at hc
    simp only [Bool.or_eq_true, decide_eq_true_eq] at hc
    exact hc
  · cases h⟩
end
end DL
namespace DL
open PySem L2
section
variable {K : PySem.W.Frag} {X : Cx} {W : WX} {e a b c : Expr} {pos : Pos}
/-! ### more ints -/
theorem od_fdiv : OpD K X (binaryOp .FloorDiv) (rI CDivW fun i j => .int (i / j)) (dI fun i j => if 0 < j ∧ j < 18446744073709551616 then some (.int (i / j)) else none) := ⟨fun _ => op_fdivW, ok_rI fun i j c h => by
  split at h
  · rename_i hc
    cases h
    exact ⟨wide_div hc.1 (b := 64) (by have : (2 : Nat) ^ 64 = 18446744073709551616 := by decide
                                       omega) (by decide) (by decide), fun _ => .int _⟩
  · cases h⟩
theorem od_mod : OpD K X (binaryOp .Mod) (rI (fun _ j => 0 < j) fun i j => .int (i % j)) (dI fun i j => if 0 < j then some (.int (i % j)) else none) := ⟨fun _ => op_mod, ok_rI fun i j c h => by
  split at h
  · rename_i hc; cases h; exact ⟨hc, fun _ => .int _⟩
  · cases h⟩
theorem od_lt : OpD K X (compareOp .Lt) (rI0 fun i j => .bl (decide (i < j))) (dIb fun i j => decide (i < j)) := ⟨fun _ => op_lt, ok_rI0 fun i j c h Z => by cases h; exact .bl _⟩
theorem od_le : OpD K X (compareOp .LtE) (rI0 fun i j => .bl (decide (i ≤ j))) (dIb fun i j => decide (i ≤ j)) := ⟨fun _ => op_le, ok_rI0 fun i j c h Z => by cases h; exact .bl _⟩
theorem od_gt : OpD K X (compareOp .Gt) (rI0 fun i j => .bl (decide (j < i))) (dIb fun i j => decide (j < i)) := ⟨fun _ => op_gt, ok_rI0 fun i j c h Z => by cases h; exact .bl _⟩
theorem od_ge : OpD K X (compareOp .GtE) (rI0 fun i j => .bl (decide (j ≤ i))) (dIb fun i j => decide (j ≤ i)) := ⟨fun _ => op_ge, ok_rI0 fun i j c h Z => by cases h; exact .bl _⟩
theorem bool_dIb {g : Int → Int → Bool} : boolD (dIb g) := fun d e c h => by
  unfold dIb dI at h
  split at h
  · exact ⟨_, (Option.some.inj h).symm⟩
  · cases h
/-! ### one value in -/
def mUn (g : D → Option D) (m : EM) : EM := bnd m (pur fun d => ret (g d))
theorem so_un {r : V → Hp → VK → Prop} {g : D → Option D} {ta : TE} {m : EM} (h : ∀ (x : V) (d c : D) (Z H : Hp) (Q : VK), Same Z H → Rep K Z x d → g d = some c → PostP K Z H c Q → r x H Q)
    (ha : Sound K W (RepV K) ta m) : Sound K W (RepV K) (tUn r ta) (mUn g m) := ⟨fun σ H s Z I r0 Q w rs e p => by
  refine ha.bnd w rs e (p.x) fun d v M1 Z1 H1 I1 w1 rs1 x1 q1 e1 => ?_
  obtain ⟨d, rfl, e1⟩ := pur_ok e1
  obtain ⟨c, q, rfl⟩ := ret_ok e1
  exact h v d c Z1 H1 Q w1.sub q1 q (PostP.of w1 (p.mono x1))⟩
theorem de_neg {ta : TE} {m : EM} (ha : DE K X W a ta m) : DE K X W (.UnaryOp .USub a pos) (tUn (rU fun i => .int (-i)) ta) (mUn (fun d => match d with | .int i => some (.int (-i)) | _ => none) m) :=
  ⟨ha.k, pe_un un_neg ha.pe, so_un (fun x d c Z H Q s hx hg p => by
    split at hg
    · cases hx; cases hg; exact ⟨_, rfl, p _ Z H (ExtP.refl s) (.int _)⟩
    · cases hg) ha.so⟩
/-! ### is None -/
def isN : D → Bool
  | .non => true
  | _ => false
theorem rep_isN {Z : Hp} {x : V} {d : D} (h : Rep K Z x d) : decide (x = .non) = isN d := by
  cases h <;> rfl
def isNV : DV → Bool
  | .p d => isN d
  | .o _ => false
theorem repV_isN {Z : Hp} {I : List Addr} {x : V} {d : DV} (h : RepV K Z I x d) : decide (x = .non) = isNV d := by
  cases d with
  | p d => exact rep_isN h
  | o n => obtain ⟨a, _, rfl⟩ := h; rfl
def mIsN (m : EM) : EM := bnd m fun d s => some (.ok (.p (.bl (isNV d))) s.m)
def mNotN (m : EM) : EM := bnd m fun d s => some (.ok (.p (.bl (!isNV d))) s.m)
theorem so_isN {ta : TE} {m : EM} (ha : Sound K W (RepV K) ta m) : Sound K W (RepV K) (tIsN ta) (mIsN m) := ⟨fun σ H s Z I r0 Q w rs e p => by
  refine ha.bnd w rs e (p.x) fun d v M1 Z1 H1 I1 w1 rs1 x1 q1 e1 => ?_
  obtain rfl := Option.some.inj e1
  rw [repV_isN q1]
  exact p _ Z1 H1 I1 w1 x1 (.bl _)⟩
theorem so_notN {ta : TE} {m : EM} (ha : Sound K W (RepV K) ta m) : Sound K W (RepV K) (tNotN ta) (mNotN m) := ⟨fun σ H s Z I r0 Q w rs e p => by
  refine ha.bnd w rs e (p.x) fun d v M1 Z1 H1 I1 w1 rs1 x1 q1 e1 => ?_
  obtain rfl := Option.some.inj e1
  rw [repV_isN q1]
  exact p _ Z1 H1 I1 w1 x1 (.bl _)⟩
theorem so_B {t : TE} {m : EM} (h : Sound K W (RepV K) t m) (hb : ∀ s r, m s = some r → ∀ v M, r = .ok v M → ∃ b, v = .p (.bl b)) : Sound K W RepB (tB t) m := so_test h hb
theorem mIsN_bool {m : EM} (s : S) (r : Rs DV) (e : mIsN m s = some r) (v : DV) (M : List O) (hr : r = .ok v M) : ∃ b, v = .p (.bl b) := by
  subst hr
  obtain ⟨a, M1, _, e⟩ := bnd_ok e
  cases e; exact ⟨_, rfl⟩
theorem mNotN_bool {m : EM} (s : S) (r : Rs DV) (e : mNotN m s = some r) (v : DV) (M : List O) (hr : r = .ok v M) : ∃ b, v = .p (.bl b) := by
  subst hr
  obtain ⟨a, M1, _, e⟩ := bnd_ok e
  cases e; exact ⟨_, rfl⟩
theorem de_isN {ta : TE} {m : EM} {j} {pos' : Pos} (ha : DE K X W a ta m) : DE K X W (.Compare a [.Is] [.Constant .none j pos'] pos) (tIsN ta) (mIsN m) := ⟨ha.k, pe_cmp (pc_isN ha.pe), so_isN ha.so⟩
theorem de_notN {ta : TE} {m : EM} {j} {pos' : Pos} (ha : DE K X W a ta m) : DE K X W (.Compare a [.IsNot] [.Constant .none j pos'] pos) (tNotN ta) (mNotN m) := ⟨ha.k, pe_cmp (pc_notN ha.pe), so_notN ha.so⟩
theorem dt_isN {ta : TE} {m : EM} {j} {pos' : Pos} (ha : DE K X W a ta m) : DT K X W (.Compare a [.Is] [.Constant .none j pos'] pos) (tB (tIsN ta)) (mIsN m) := ⟨ha.k, pt_cmp (pc_isN ha.pe), so_B (so_isN ha.so) mIsN_bool⟩
theorem dt_notN {ta : TE} {m : EM} {j} {pos' : Pos} (ha : DE K X W a ta m) : DT K X W (.Compare a [.IsNot] [.Constant .none j pos'] pos) (tB (tNotN ta)) (mNotN m) := ⟨ha.k, pt_cmp (pc_notN ha.pe), so_B (so_notN ha.so) mNotN_bool⟩
/-! ### truth -/
def truD : D → Option Bool
  | .non => some false
  | .bl b => some b
  | .int i => some (i != 0)
  | .str y => if y.length ≤ 1000000 then some (!(y.length == 0)) else none
  | .lst xs => some (!xs.isEmpty)
  | .tup xs => some (!xs.isEmpty)
  | .ktup xs => some (!xs.isEmpty)
  | .klst xs => some (!xs.isEmpty)
  | _ => none
def truO : Option O → Option Bool
  | some (.lst xs) => some (!xs.isEmpty)
  | some (.dK xs) => some (!xs.isEmpty)
  | _ => none
def truM (M : List O) : DV → Option Bool
  | .p d => truD d
  | .o n => truO M[n]?
def mTru (m : EM) : EM := bnd m fun d s => match truM s.m d with
  | some b => some (.ok (.p (.bl b)) s.m)
  | none => none
theorem isEmpty_len {α β : Type} {xs : List α} {ys : List β} (h : xs.length = ys.length) : xs.isEmpty = ys.isEmpty := by
  cases xs <;> cases ys <;> first | rfl | cases h
theorem truV_of {Z H : Hp} {I : List Addr} {M : List O} {x : V} {d : DV} {b : Bool} (w : Wf K Z H I M) (h : RepV K Z I x d) (e : truM M d = some b) : TruV K x H b := by
  cases d with
  | o n =>
    obtain ⟨a, ha, rfl⟩ := h
    have e : truO M[n]? = some b := e
    cases q : M[n]? with
    | none => rw [q] at e; cases e
    | some o =>
      rw [q] at e
      cases o with
      | lst xs =>
        obtain ⟨_, ys, h1, h2⟩ := w.ob n a _ ha q (by intro z; cases z)
        cases e
        exact .inl ⟨ys, SqL.of h1, by rw [isEmpty_len (paired_len h2)]⟩
      | dK xs =>
        obtain ⟨_, ys, h1, h2⟩ := w.ob n a _ ha q (by intro z; cases z)
        cases e
        exact .inr (.inr ⟨ys, h1, by rw [isEmpty_len (paired_len h2)]⟩)
      | _ => cases e
  | p d =>
    have h : Rep K Z x d := h
    have e : truD d = some b := e
    cases h with
    | non => cases e; rfl
    | bl k => cases e; rfl
    | int i => cases e; rfl
    | str y =>
      have e : (if y.length ≤ 1000000 then some (!(y.length == 0)) else none) = some b := e
      split at e
      · rename_i hl
        cases e
        refine ⟨size_le hl, ?_⟩
        cases hz : y.length with
        | zero => rfl
        | succ n =>
          have : ¬ ((n : Int) + 1 = 0) := by omega
          simp [this]
      · cases e
    | lst h1 h2 => cases e; exact .inl ⟨_, .inl (same_rd w.sub h1), by rw [isEmpty_len h2.length]⟩
    | tup h1 h2 => cases e; exact .inr (.inl ⟨_, sqt w.sub h1, by rw [isEmpty_len h2.length]⟩)
    | ktup h1 h2 => cases e; exact .inr (.inl ⟨_, same_t w.sub h1, by rw [isEmpty_len h2.length]⟩)
    | klst h1 h2 => cases e; exact .inl ⟨_, same_l w.sub h1, by rw [isEmpty_len h2.length]⟩
    | dK _ _ => cases e
    | dT _ _ => cases e
    | fn _ => cases e
    | scr _ _ => cases e
    | ty _ => cases e
    | rng _ => cases e
theorem dt_tru {ta : TE} {m : EM} (ha : DE K X W a ta m) (he : ∀ whole, isTrue a X.env whole = (do let v ← whole; standAt a.pos; holding [v] (truthy v)) := by intro _; rfl) : DT K X W a (fun σ H Q => ta σ H fun x H' => ∃ k, TruV K x H' k ∧ Q k H') (mTru m) := by
  refine ⟨ha.k, ?_, ⟨fun σ H s Z I r0 Q w rs e p => ?_⟩⟩
  · rw [← ha.k]; exact pt_truth ha.pe he
  refine ha.so.bnd w rs e (p.x) fun d v M1 Z1 H1 I1 w1 rs1 x1 q1 e1 => ?_
  have e1 : (match truM M1 d with | some b => some (Rs.ok (DV.p (.bl b)) M1) | none => none) = some r0 := e1
  cases q : truM M1 d with
  | none => rw [q] at e1; cases e1
  | some k =>
    rw [q] at e1
    obtain rfl := Option.some.inj e1
    exact ⟨k, truV_of w1 q1 q, p k Z1 H1 I1 w1 x1 rfl⟩
/-! ### and, or, not, if-else -/
def ifM {γ : Type} (n k : Mi γ) : DV → Mi γ
  | .p (.bl true), s => n s
  | .p (.bl false), s => k s
  | _, _ => none
def fls : EM := fun s => some (.ok (.p (.bl false)) s.m)
def tru : EM := fun s => some (.ok (.p (.bl true)) s.m)
def mAnd (m n : EM) : EM := bnd m (ifM n fls)
def mOr (m n : EM) : EM := bnd m (ifM tru n)
def mNot (m : EM) : EM := bnd m (ifM fls tru)
def mIf (c m n : EM) : EM := bnd c (ifM m n)
theorem so_and {t u : TT} {m n : EM} (ha : Sound K W RepB t m) (hb : Sound K W RepB u n) : Sound K W RepB (tAnd t u) (mAnd m n) := ⟨fun σ H s Z I r0 Q w rs e p => by
  refine ha.bnd w rs e (p.x) fun d v M1 Z1 H1 I1 w1 rs1 x1 q1 e1 => ?_
  cases (show d = .p (.bl v) from q1)
  cases v with
  | true => exact hb.ok σ H1 ⟨s.l, M1⟩ Z1 I1 r0 Q w1 rs1 e1 (p.mono x1)
  | false => cases e1; exact p false Z1 H1 I1 w1 x1 rfl⟩
theorem so_or {t u : TT} {m n : EM} (ha : Sound K W RepB t m) (hb : Sound K W RepB u n) : Sound K W RepB (tOr t u) (mOr m n) := ⟨fun σ H s Z I r0 Q w rs e p => by
  refine ha.bnd w rs e (p.x) fun d v M1 Z1 H1 I1 w1 rs1 x1 q1 e1 => ?_
  cases (show d = .p (.bl v) from q1)
  cases v with
  | false => exact hb.ok σ H1 ⟨s.l, M1⟩ Z1 I1 r0 Q w1 rs1 e1 (p.mono x1)
  | true => cases e1; exact p true Z1 H1 I1 w1 x1 rfl⟩
theorem so_not {t : TT} {m : EM} (ha : Sound K W RepB t m) : Sound K W RepB (tNot t) (mNot m) := ⟨fun σ H s Z I r0 Q w rs e p => by
  refine ha.bnd w rs e (p.x) fun d v M1 Z1 H1 I1 w1 rs1 x1 q1 e1 => ?_
  cases (show d = .p (.bl v) from q1)
  cases v with
  | false => cases e1; exact p true Z1 H1 I1 w1 x1 rfl
  | true => cases e1; exact p false Z1 H1 I1 w1 x1 rfl⟩
theorem dw_and1 {t : TT} {m : EM} (ha : DT K X W a t m) : DW K X W (.BoolOp .And [a] pos) t m := ⟨ha.k, pw_and1 ha.pt, ha.so⟩
theorem dw_or1 {t : TT} {m : EM} (ha : DT K X W a t m) : DW K X W (.BoolOp .Or [a] pos) t m := ⟨ha.k, pw_or1 ha.pt, ha.so⟩
theorem dw_and {t u : TT} {m n : EM} {rest : List Expr} (ha : DT K X W a t m) (hb : DW K X W (.BoolOp .And (b :: rest) pos) u n) : DW K X W (.BoolOp .And (a :: b :: rest) pos) (tAnd t u) (mAnd m n) := ⟨ha.k, pw_and ha.pt hb.pw, so_and ha.so hb.so⟩
theorem dw_or {t u : TT} {m n : EM} {rest : List Expr} (ha : DT K X W a t m) (hb : DW K X W (.BoolOp .Or (b :: rest) pos) u n) : DW K X W (.BoolOp .Or (a :: b :: rest) pos) (tOr t u) (mOr m n) := ⟨ha.k, pw_or ha.pt hb.pw, so_or ha.so hb.so⟩
theorem dt_w {t : TT} {m : EM} (h : DW K X W a t m) : DT K X W a t m := ⟨h.k, h.pw.pt, h.so⟩
theorem dt_not {t : TT} {m : EM} (h : DT K X W a t m) : DT K X W (.UnaryOp .Not a pos) (tNot t) (mNot m) := ⟨h.k, pt_not h.pt, so_not h.so⟩
/-- as values -/
theorem so_andV {t u : TE} {m n : EM} (ha : Sound K W (RepV K) t m) (hb : Sound K W (RepV K) u n) : Sound K W (RepV K) (tAndV t u) (mAnd m n) := ⟨fun σ H s Z I r0 Q w rs e p => by
  refine ha.bnd w rs e (p.x) fun d v M1 Z1 H1 I1 w1 rs1 x1 q1 e1 => ?_
  unfold ifM at e1
  split at e1
  · cases q1; exact ⟨true, rfl, by rw [if_pos rfl]; exact hb.ok σ H1 ⟨s.l, M1⟩ Z1 I1 r0 Q w1 rs1 e1 (p.mono x1)⟩
  · cases q1; cases e1; exact ⟨false, rfl, by rw [if_neg Bool.false_ne_true]; exact p _ Z1 H1 I1 w1 x1 (.bl _)⟩
  · cases e1⟩
theorem so_orV {t u : TE} {m n : EM} (ha : Sound K W (RepV K) t m) (hb : Sound K W (RepV K) u n) : Sound K W (RepV K) (tOrV t u) (mOr m n) := ⟨fun σ H s Z I r0 Q w rs e p => by
  refine ha.bnd w rs e (p.x) fun d v M1 Z1 H1 I1 w1 rs1 x1 q1 e1 => ?_
  unfold ifM at e1
  split at e1
  · cases q1; cases e1; exact ⟨true, rfl, by rw [if_pos rfl]; exact p _ Z1 H1 I1 w1 x1 (.bl _)⟩
  · cases q1; exact ⟨false, rfl, by rw [if_neg Bool.false_ne_true]; exact hb.ok σ H1 ⟨s.l, M1⟩ Z1 I1 r0 Q w1 rs1 e1 (p.mono x1)⟩
  · cases e1⟩
theorem so_notV {t : TE} {m : EM} (ha : Sound K W (RepV K) t m) : Sound K W (RepV K) (tNotV t) (mNot m) := ⟨fun σ H s Z I r0 Q w rs e p => by
  refine ha.bnd w rs e (p.x) fun d v M1 Z1 H1 I1 w1 rs1 x1 q1 e1 => ?_
  unfold ifM at e1
  split at e1
  · cases q1; cases e1; exact ⟨true, rfl, p _ Z1 H1 I1 w1 x1 (.bl _)⟩
  · cases q1; cases e1; exact ⟨false, rfl, p _ Z1 H1 I1 w1 x1 (.bl _)⟩
  · cases e1⟩
theorem de_one {op} {t : TE} {m : EM} (ha : DE K X W a t m) : DE K X W (.BoolOp op [a] pos) t m := ⟨ha.k, pe_one ha.pe, ha.so⟩
theorem de_and {t u : TE} {m n : EM} {rest : List Expr} (ha : DE K X W a t m) (hb : DE K X W (.BoolOp .And (b :: rest) pos) u n) : DE K X W (.BoolOp .And (a :: b :: rest) pos) (tAndV t u) (mAnd m n) := ⟨ha.k, pe_and ha.pe hb.pe, so_andV ha.so hb.so⟩
theorem de_or {t u : TE} {m n : EM} {rest : List Expr} (ha : DE K X W a t m) (hb : DE K X W (.BoolOp .Or (b :: rest) pos) u n) : DE K X W (.BoolOp .Or (a :: b :: rest) pos) (tOrV t u) (mOr m n) := ⟨ha.k, pe_or ha.pe hb.pe, so_orV ha.so hb.so⟩
theorem de_not {t : TE} {m : EM} (h : DE K X W a t m) : DE K X W (.UnaryOp .Not a pos) (tNotV t) (mNot m) := ⟨h.k, pe_not h.pe, so_notV h.so⟩
theorem so_ifE {t : TT} {ta tb : TE} {m n k : EM} (hc : Sound K W RepB t m) (ha : Sound K W (RepV K) ta n) (hb : Sound K W (RepV K) tb k) : Sound K W (RepV K) (tIf t ta tb) (mIf m n k) := ⟨fun σ H s Z I r0 Q w rs e p => by
  refine hc.bnd w rs e (p.x) fun d v M1 Z1 H1 I1 w1 rs1 x1 q1 e1 => ?_
  cases (show d = .p (.bl v) from q1)
  cases v with
  | true => exact ha.ok σ H1 ⟨s.l, M1⟩ Z1 I1 r0 Q w1 rs1 e1 (p.mono x1)
  | false => exact hb.ok σ H1 ⟨s.l, M1⟩ Z1 I1 r0 Q w1 rs1 e1 (p.mono x1)⟩
theorem de_ifE {t : TT} {ta tb : TE} {m n k : EM} (hc : DT K X W c t m) (ha : DE K X W a ta n) (hb : DE K X W b tb k) : DE K X W (.IfExp c a b pos) (tIf t ta tb) (mIf m n k) := ⟨hc.k, pe_ifExp hc.pt ha.pe hb.pe, so_ifE hc.so ha.so hb.so⟩
/-- a value that is a truth, as a test -/
def asB (m : EM) : EM := bnd m (ifM tru fls)
theorem dt_val {t : TE} {m : EM} (h : DE K X W a t m) (he : ∀ whole, isTrue a X.env whole = (do let v ← whole; standAt a.pos; holding [v] (truthy v)) := by intro _; rfl) : DT K X W a (tB t) (asB m) := ⟨h.k, pt_val h.pe he, ⟨fun σ H s Z I r0 Q w rs e p => by
  refine h.so.bnd w rs e (p.x) fun d v M1 Z1 H1 I1 w1 rs1 x1 q1 e1 => ?_
  unfold ifM at e1
  split at e1
  · cases q1; cases e1; exact ⟨true, rfl, p true Z1 H1 I1 w1 x1 rfl⟩
  · cases q1; cases e1; exact ⟨false, rfl, p false Z1 H1 I1 w1 x1 rfl⟩
  · cases e1⟩⟩
/-! ### a chain of two comparisons -/
def mChain (g h : D → D → Option D) (m n k : EM) : EM := bnd m (pur fun d => bnd n (pur fun e => bnd (ret (g d e)) (ifM (bnd k (pur fun f => ret (h e f))) fls)))
theorem so_chain {r r' : R2} {g h : D → D → Option D} {ta tb tc : TE} {m n k : EM} (hg : ∀ (x y : V) (d e c : D) (Z H : Hp) (Q : VK), Same Z H → Rep K Z x d → Rep K Z y e → g d e = some c → PostP K Z H c Q → r x y H Q)
    (hh : ∀ (x y : V) (d e c : D) (Z H : Hp) (Q : VK), Same Z H → Rep K Z x d → Rep K Z y e → h d e = some c → PostP K Z H c Q → r' x y H Q)
    (ha : Sound K W (RepV K) ta m) (hb : Sound K W (RepV K) tb n) (hc : Sound K W (RepV K) tc k) : Sound K W (RepV K) (tChain r r' ta tb tc) (mChain g h m n k) := ⟨fun σ H s Z I r0 Q w rs e p => by
  refine ha.bnd w rs e (p.x) fun d v M1 Z1 H1 I1 w1 rs1 x1 q1 e1 => ?_
  obtain ⟨d, rfl, e1⟩ := pur_ok e1
  have p1 := p.mono x1
  refine hb.bnd (s := ⟨s.l, M1⟩) w1 rs1 e1 (p1.x) fun d2 v2 M2 Z2 H2 I2 w2 rs2 x2 q2 e2 => ?_
  obtain ⟨d2, rfl, e2⟩ := pur_ok e2
  have p2 := p1.mono x2
  cases hq : g d d2 with
  | none =>
    have e2 : bnd (ret (g d d2)) (ifM (bnd k (pur fun f => ret (h d2 f))) fls) ⟨s.l, M2⟩ = some r0 := e2
    rw [hq] at e2; cases e2
  | some c =>
    have e2 : bnd (ret (g d d2)) (ifM (bnd k (pur fun f => ret (h d2 f))) fls) ⟨s.l, M2⟩ = some r0 := e2
    rw [hq] at e2
    have e2 : ifM (bnd k (pur fun f => ret (h d2 f))) fls (.p c) ⟨s.l, M2⟩ = some r0 := e2
    refine hg v v2 d d2 c Z2 H2 _ w2.sub (Rep.mono x2.z q1) q2 hq fun v3 Z3 H3 x3 q3 => ?_
    have w3 := w2.extP x3
    have y3 := x3.ext w2
    have p3 := p2.mono y3
    have rs3 := rs2.mono y3
    unfold ifM at e2
    split at e2
    · rename_i hz
      cases hz
      cases q3
      refine ⟨true, rfl, ?_⟩
      rw [if_pos rfl]
      refine hc.bnd (s := ⟨s.l, M2⟩) w3 rs3 e2 (p3.x) fun d4 v4 M4 Z4 H4 I4 w4 rs4 x4 q4 e4 => ?_
      obtain ⟨d4, rfl, e4⟩ := pur_ok e4
      obtain ⟨c, q, rfl⟩ := ret_ok e4
      exact hh v2 v4 d2 d4 c Z4 H4 Q w4.sub (Rep.mono x4.z (Rep.mono x3.z q2)) q4 q (PostP.of w4 (p3.mono x4))
    · rename_i hz
      cases hz
      cases q3
      cases e2
      refine ⟨false, rfl, ?_⟩
      rw [if_neg Bool.false_ne_true]
      exact p3 _ Z3 H3 I2 w3 Ext.refl (.bl _)
    · cases e2⟩
theorem de_chain {op op' : CmpOp} {r r' : R2} {g h : D → D → Option D} {ta tb tc : TE} {m n k : EM} (hg : OpD K X (compareOp op) r g) (hh : OpD K X (compareOp op') r' h) (ha : DE K X W a ta m) (hb : DE K X W b tb n) (hc : DE K X W c tc k)
    (hm : lastMarks [op, op'] [b, c] = false := by with_unfolding_all rfl) : DE K X W (.Compare a [op, op'] [b, c] pos) (tChain r r' ta tb tc) (mChain g h m n k) :=
  ⟨ha.k, pe_chain (hg.op ha.k) (hh.op ha.k) ha.pe hb.pe hc.pe hm, so_chain hg.ok hh.ok ha.so hb.so hc.so⟩
theorem mChain_bool {g h : D → D → Option D} {m n k : EM} (hb : boolD h) (s : S) (r : Rs DV) (e : mChain g h m n k s = some r) (v : DV) (M : List O) (hr : r = .ok v M) : ∃ b, v = .p (.bl b) := by
  subst hr
  obtain ⟨a, M1, _, e⟩ := bnd_ok e
  obtain ⟨d, _, e⟩ := pur_ok e
  obtain ⟨a2, M2, _, e⟩ := bnd_ok e
  obtain ⟨d2, _, e⟩ := pur_ok e
  obtain ⟨a3, M3, _, e⟩ := bnd_ok e
  unfold ifM at e
  split at e
  · obtain ⟨a4, M4, _, e⟩ := bnd_ok e
    obtain ⟨d4, _, e⟩ := pur_ok e
    obtain ⟨c, q, e⟩ := ret_ok e
    cases e
    obtain ⟨b, rfl⟩ := hb _ _ _ q
    exact ⟨b, rfl⟩
  · cases e; exact ⟨_, rfl⟩
  · cases e
theorem dt_chain {op op' : CmpOp} {r r' : R2} {g h : D → D → Option D} {ta tb tc : TE} {m n k : EM} (hg : OpD K X (compareOp op) r g) (hh : OpD K X (compareOp op') r' h) (hbo : boolD h) (ha : DE K X W a ta m) (hb : DE K X W b tb n) (hc : DE K X W c tc k)
    (hm : lastMarks [op, op'] [b, c] = false := by with_unfolding_all rfl) : DT K X W (.Compare a [op, op'] [b, c] pos) (tTest (tChain r r' ta tb tc)) (mChain g h m n k) :=
  ⟨ha.k, pt_chain (hg.op ha.k) (hh.op ha.k) ha.pe hb.pe hc.pe hm, so_test (so_chain hg.ok hh.ok ha.so hb.so hc.so) (mChain_bool hbo)⟩
end
end DL
namespace DL
open PySem L2
section
variable {K : PySem.W.Frag} {Z H Z' H' : Hp} {I I' : List Addr} {M : List O}
/-! ### the store's steps -/
theorem RepO.ext {a : Addr} (x : Ext Z H I Z' H' I') (ha : H' a = H a) : ∀ {o : O}, RepO K Z I H a o → RepO K Z' I' H' a o
  | .lst _, ⟨xs, h, r⟩ => ⟨xs, ha.trans h, paired_imp (fun _ _ q => RepV.mono x q) r⟩
  | .dK _, ⟨xs, h, r⟩ => ⟨xs, ha.trans h, paired_imp (fun _ _ q => ⟨q.1, RepV.mono x q.2⟩) r⟩
  | .dT _, ⟨xs, h, r⟩ => ⟨xs, ha.trans h, paired_imp (fun _ _ q => ⟨q.1, RepV.mono x q.2⟩) r⟩
  | .ins _ _, ⟨dx, xs, h, r⟩ => ⟨dx, xs, ha.trans h, paired_imp (fun _ _ q => ⟨q.1, RepV.mono x q.2⟩) r⟩
  | .tbl _ _, ⟨e, ps, h, t, r⟩ => ⟨e, ps, ha.trans h, t, fun pos cv hc => by
      obtain ⟨c, h1, h2⟩ := r pos cv hc
      exact ⟨c, h1, x.z _ _ h2⟩⟩
  | .gone, _ => trivial
theorem ext_new {p : Addr} {o : HO} (s : Same Z H) (h : H p = none) : Ext Z H I Z (upd H p o) (I ++ [p]) where
  z := Same.refl _
  i := ⟨[p], rfl⟩
  fr := fun a u e _ => by rw [upd_ne (ne_of_none e h)]; exact e
  nw := fun a m => by
    rcases List.mem_append.mp m with k | k
    · exact .inl k
    · rw [List.mem_singleton.mp k]; exact .inr h
  zn := fun a e => .inl e
  tr := fun a e => by
    rw [upd_ne (fun q => e (by rw [q]; exact h))]; exact e
theorem Wf.newO (w : Wf K Z H I M) {p : Addr} {ho : HO} {o : O} (hp : H p = none) (r : RepO K Z (I ++ [p]) (upd H p ho) p o) : Wf K Z (upd H p ho) (I ++ [p]) (M ++ [o]) where
  sub := fun a u e => by rw [upd_ne (ne_of_none (w.sub a u e) hp)]; exact w.sub a u e
  len := by rw [List.length_append, List.length_append, w.len]; rfl
  nd := by
    refine List.nodup_append.mpr ⟨w.nd, by simp, fun a ha b hb => ?_⟩
    rw [List.mem_singleton.mp hb]
    intro q
    exact w.tr a ha (by rw [q]; exact hp)
  tr := fun a m => by
    rcases List.mem_append.mp m with k | k
    · rw [upd_ne (fun q => w.tr a k (by rw [q]; exact hp))]; exact w.tr a k
    · rw [List.mem_singleton.mp k, upd_same]; simp
  ob := fun n a o' h1 h2 h3 => by
    by_cases hn : n < I.length
    · rw [List.getElem?_append_left hn] at h1
      rw [List.getElem?_append_left (by rw [← w.len]; exact hn)] at h2
      obtain ⟨q1, q2⟩ := w.ob n a o' h1 h2 h3
      exact ⟨q1, q2.ext (ext_new w.sub hp) (upd_ne fun q => w.tr a (List.mem_of_getElem? h1) (by rw [q]; exact hp))⟩
    · have e1 : n = I.length := by
        have := (List.getElem?_eq_some_iff.mp h1).1
        rw [List.length_append, List.length_singleton] at this
        omega
      subst e1
      rw [List.getElem?_append_right (Nat.le_refl _), Nat.sub_self] at h1
      rw [List.getElem?_append_right (by rw [w.len]; exact Nat.le_refl _), w.len, Nat.sub_self] at h2
      cases h1
      cases h2
      exact ⟨none_of w.sub hp, r⟩
theorem ext_set {a : Addr} {ho : HO} (ha : a ∈ I) : Ext Z H I Z (upd H a ho) I where
  z := Same.refl _
  i := ⟨[], by simp⟩
  fr := fun b u e n => by rw [upd_ne (fun q => n (by rw [q]; exact ha))]; exact e
  nw := fun _ m => .inl m
  zn := fun _ e => .inl e
  tr := fun b e => by
    by_cases q : b = a
    · rw [q, upd_same]; simp
    · rw [upd_ne q]; exact e
theorem Wf.setO (w : Wf K Z H I M) {n : Nat} {a : Addr} {ho : HO} {o o' : O} (ha : I[n]? = some a) (hm : M[n]? = some o) (hg : o ≠ .gone) (r : RepO K Z I (upd H a ho) a o') : Wf K Z (upd H a ho) I (M.set n o') where
  sub := fun b u e => by
    have q := (w.ob n a o ha hm hg).1
    rw [upd_ne (fun z => by rw [z, q] at e; cases e)]; exact w.sub b u e
  len := by rw [List.length_set]; exact w.len
  nd := w.nd
  tr := fun b m => (ext_set (Z := Z) (I := I) (List.mem_of_getElem? ha)).tr b (w.tr b m)
  ob := fun j b u h1 h2 h3 => by
    by_cases q : n = j
    · subst q
      rw [ha] at h1; cases h1
      rw [List.getElem?_set_self (List.getElem?_eq_some_iff.mp hm).1] at h2
      cases h2
      exact ⟨(w.ob n a o ha hm hg).1, r⟩
    · rw [List.getElem?_set_ne q] at h2
      obtain ⟨q1, q2⟩ := w.ob j b u h1 h2 h3
      refine ⟨q1, q2.ext (ext_set (List.mem_of_getElem? ha)) (upd_ne fun z => ?_)⟩
      obtain ⟨l1, e1⟩ := List.getElem?_eq_some_iff.mp ha
      obtain ⟨l2, e2⟩ := List.getElem?_eq_some_iff.mp h1
      exact q ((List.getElem_inj w.nd).mp (e1.trans (z.symm.trans e2.symm)))
def allP : List DV → Option (List D)
  | [] => some []
  | .p d :: r => (allP r).map (d :: ·)
  | .o _ :: _ => none
theorem allP_rep : ∀ {vs : List V} {ds : List DV} {xs : List D}, RepVs K Z I vs ds → allP ds = some xs → RepA K Z vs xs
  | _, [], _, .nil, e => by cases e; exact .nil
  | _, .p d :: r, _, .cons h t, e => by
    have e : (allP r).map (d :: ·) = some _ := e
    cases q : allP r with
    | none => rw [q] at e; cases e
    | some ys =>
      rw [q] at e; cases e
      exact .cons h (allP_rep t q)
  | _, .o n :: r, _, .cons h t, e => by cases e
theorem allP_map : ∀ {vs : List V} {xs : List D}, RepA K Z vs xs → RepVs K Z I vs (xs.map .p)
  | _, _, .nil => .nil
  | _, _, .cons h t => .cons h (allP_map t)
/-- one's own list is given up: from now on it stays -/
theorem ext_frz {n : Nat} {a : Addr} {ho : HO} (w : Wf K Z H I M) (ha : I[n]? = some a) (hz : Z a = none) (hh : H a = some ho) : Ext Z H I (upd Z a ho) H I where
  z := same_upd hz
  i := ⟨[], by simp⟩
  fr := fun _ _ e _ => e
  nw := fun _ m => .inl m
  zn := fun b e => by
    by_cases q : b = a
    · rw [q]; exact .inr (.inr (List.mem_of_getElem? ha))
    · rw [upd_ne q] at e; exact .inl e
  tr := fun _ e => e
theorem Wf.frz (w : Wf K Z H I M) {n : Nat} {a : Addr} {ho : HO} {o : O} (ha : I[n]? = some a) (hm : M[n]? = some o) (hg : o ≠ .gone) (hh : H a = some ho) : Wf K (upd Z a ho) H I (M.set n .gone) where
  sub := fun b u e => by
    by_cases q : b = a
    · rw [q, upd_same] at e; rw [q, hh]; exact e
    · rw [upd_ne q] at e; exact w.sub b u e
  len := by rw [List.length_set]; exact w.len
  nd := w.nd
  tr := w.tr
  ob := fun j b u h1 h2 h3 => by
    by_cases q : n = j
    · subst q
      rw [List.getElem?_set_self (List.getElem?_eq_some_iff.mp hm).1] at h2
      cases h2
      exact absurd rfl h3
    · rw [List.getElem?_set_ne q] at h2
      obtain ⟨q1, q2⟩ := w.ob j b u h1 h2 h3
      have hz := (w.ob n a o ha hm hg).1
      refine ⟨?_, q2.ext (ext_frz w ha hz hh) rfl⟩
      rw [upd_ne fun z => ?_]
      · exact q1
      obtain ⟨l1, e1⟩ := List.getElem?_eq_some_iff.mp ha
      obtain ⟨l2, e2⟩ := List.getElem?_eq_some_iff.mp h1
      exact q ((List.getElem_inj w.nd).mp (e1.trans (z.symm.trans e2.symm)))
end
section
variable {K : PySem.W.Frag} {X : Cx} {W : WX} {e a b c : Expr} {es : List Expr} {pos : Pos}
/-! ### argument lists, displays -/
def aNil : AM := fun s => some (.ok [] s.m)
def aCons (m : EM) (ms : AM) : AM := bnd m fun d => bnd ms fun ds s => some (.ok (d :: ds) s.m)
theorem so_aNil : Sound K W (RepVs K) tNil aNil := ⟨fun σ H s Z I r Q w rs e p => by
  obtain rfl := Option.some.inj e
  exact p [] Z H I w Ext.refl .nil⟩
theorem so_aCons {ta : TE} {tr : TA} {m : EM} {ms : AM} (ha : Sound K W (RepV K) ta m) (hr : Sound K W (RepVs K) tr ms) : Sound K W (RepVs K) (tCons ta tr) (aCons m ms) := ⟨fun σ H s Z I r0 Q w rs e p => by
  refine ha.bnd w rs e (p.x) fun d v M1 Z1 H1 I1 w1 rs1 x1 q1 e1 => ?_
  have p1 := p.mono x1
  refine hr.bnd (s := ⟨s.l, M1⟩) w1 rs1 e1 (p1.x) fun ds vs M2 Z2 H2 I2 w2 rs2 x2 q2 e2 => ?_
  obtain rfl := Option.some.inj e2
  exact p1 _ Z2 H2 I2 w2 x2 (.cons (q1.mono x2) q2)⟩
theorem da_nil (k : X.K = K := by rfl) : DA K X W [] tNil aNil := ⟨k, pa_nil, so_aNil⟩
theorem da_cons {ta : TE} {tr : TA} {m : EM} {ms : AM} (ha : DE K X W e ta m) (hr : DA K X W es tr ms) (hs : starEach (e :: es) X.env = (false, eval e X.env) :: starEach es X.env := by rfl) : DA K X W (e :: es) (tCons ta tr) (aCons m ms) :=
  ⟨ha.k, pa_cons ha.pe hr.pa hs, so_aCons ha.so hr.so⟩
def disp (g : List D → D) (ms : AM) : EM := bnd ms fun ds s => match allP ds with
  | some xs => if xs.length ≤ 1000000 then some (.ok (.p (g xs)) s.m) else none
  | none => none
theorem so_tup {t : TA} {ms : AM} (h : Sound K W (RepVs K) t ms) : Sound K W (RepV K) (tTup t) (disp .tup ms) := ⟨fun σ H s Z I r0 Q w rs e p => by
  refine h.bnd w rs e (p.x) fun ds vs M1 Z1 H1 I1 w1 rs1 x1 q1 e1 => ?_
  have e1 : (match allP ds with | some xs => if xs.length ≤ 1000000 then some (Rs.ok (DV.p (D.tup xs)) M1) else none | none => none) = some r0 := e1
  cases q : allP ds with
  | none => rw [q] at e1; cases e1
  | some xs =>
    rw [q] at e1
    have e1 : (if xs.length ≤ 1000000 then some (Rs.ok (DV.p (D.tup xs)) M1) else none) = some r0 := e1
    split at e1
    · rename_i hl
      obtain rfl := Option.some.inj e1
      have ra := allP_rep q1 q
      refine ⟨by rw [ra.length]; exact size_le hl, fun l hl => ?_⟩
      have y := ExtP.new (o := .tup vs) w1.sub hl
      exact (p.mono x1) _ _ _ I1 (w1.extP y) (y.ext w1) (.tup upd_same (ra.mono y.z))
    · cases e1⟩
theorem so_lst {t : TA} {ms : AM} (h : Sound K W (RepVs K) t ms) : Sound K W (RepV K) (tLst t) (disp .lst ms) := ⟨fun σ H s Z I r0 Q w rs e p => by
  refine h.bnd w rs e (p.x) fun ds vs M1 Z1 H1 I1 w1 rs1 x1 q1 e1 => ?_
  have e1 : (match allP ds with | some xs => if xs.length ≤ 1000000 then some (Rs.ok (DV.p (D.lst xs)) M1) else none | none => none) = some r0 := e1
  cases q : allP ds with
  | none => rw [q] at e1; cases e1
  | some xs =>
    rw [q] at e1
    have e1 : (if xs.length ≤ 1000000 then some (Rs.ok (DV.p (D.lst xs)) M1) else none) = some r0 := e1
    split at e1
    · rename_i hl
      obtain rfl := Option.some.inj e1
      have ra := allP_rep q1 q
      refine ⟨by rw [ra.length]; exact size_le hl, fun l hl => ?_⟩
      have y := ExtP.new (o := .lst vs) w1.sub hl
      exact (p.mono x1) _ _ _ I1 (w1.extP y) (y.ext w1) (.lst (.inl upd_same) (ra.mono y.z))
    · cases e1⟩
def dispO (ms : AM) : EM := bnd ms fun ds s => if ds.length ≤ 1000000 then some (.ok (.o s.m.length) (s.m ++ [.lst ds])) else none
theorem so_lstO {t : TA} {ms : AM} (h : Sound K W (RepVs K) t ms) : Sound K W (RepV K) (tLst t) (dispO ms) := ⟨fun σ H s Z I r0 Q w rs e p => by
  refine h.bnd w rs e (p.x) fun ds vs M1 Z1 H1 I1 w1 rs1 x1 q1 e1 => ?_
  have e1 : (if ds.length ≤ 1000000 then some (Rs.ok (DV.o M1.length) (M1 ++ [.lst ds])) else none) = some r0 := e1
  split at e1
  · rename_i hl
    obtain rfl := Option.some.inj e1
    refine ⟨by rw [paired_len q1]; exact size_le hl, fun l hp => ?_⟩
    have y := ext_new (I := I1) (o := .lst vs) w1.sub hp
    refine (p.mono x1) _ Z1 _ (I1 ++ [l]) (w1.newO hp ⟨vs, upd_same, paired_imp (fun _ _ q => RepV.mono y q) q1⟩) y ⟨l, ?_, rfl⟩
    rw [← w1.len, List.getElem?_append_right (Nat.le_refl _), Nat.sub_self]
    rfl
  · cases e1⟩
theorem de_tup {t : TA} {ms : AM} {x1} (h : DA K X W es t ms) : DE K X W (.Tuple es x1 pos) (tTup t) (disp .tup ms) := ⟨h.k, pe_tup h.pa, so_tup h.so⟩
theorem de_lst {t : TA} {ms : AM} (h : DA K X W es t ms) : DE K X W (.List es pos) (tLst t) (disp .lst ms) := ⟨h.k, pe_lst h.pa, so_lst h.so⟩
theorem de_lstO {t : TA} {ms : AM} (h : DA K X W es t ms) : DE K X W (.List es pos) (tLst t) (dispO ms) := ⟨h.k, pe_lst h.pa, so_lstO h.so⟩
/-! ### an item -/
def ixD : D → Int → Option D
  | .lst xs, i => atI xs i
  | .tup xs, i => atI xs i
  | .ktup xs, i => atI xs i
  | .klst xs, i => atI xs i
  | .str z, i => if z.length ≤ 1000000 then (atI z.cps.toList i).map fun c => .str ⟨#[c]⟩ else none
  | _, _ => none
def ixO : Option O → Int → Option DV
  | some (.lst xs), i => atI xs i
  | _, _ => none
def ixM (M : List O) : DV → Int → Option DV
  | .p d, i => (ixD d i).map .p
  | .o n, i => ixO M[n]? i
def mIx (m n : EM) : EM := bnd m fun d => bnd n (pur fun i s => match i with
  | .int i => match ixM s.m d i with
    | some c => some (.ok c s.m)
    | none => none
  | _ => none)
theorem atI_get {α : Type} {xs : List α} {i : Int} {x : α} (h : atI xs i = some x) : ∃ j, ixN xs.length i = some j ∧ xs[j]? = some x := by
  unfold atI at h
  cases q : ixN xs.length i with
  | none => rw [q] at h; cases h
  | some j => rw [q] at h; exact ⟨j, rfl, h⟩
theorem atI_rep {Z : Hp} {xs : List V} {ds : List D} {i : Int} {d : D} (r : RepA K Z xs ds) (h : atI ds i = some d) : ∃ v, atI xs i = some v ∧ Rep K Z v d := by
  obtain ⟨j, h1, h2⟩ := atI_get h
  obtain ⟨v, h3, h4⟩ := r.get h2
  exact ⟨v, by unfold atI; rw [r.length, h1]; exact h3, h4⟩
theorem atI_repV {Z : Hp} {I : List Addr} {xs : List V} {ds : List DV} {i : Int} {d : DV} (r : RepVs K Z I xs ds) (h : atI ds i = some d) : ∃ v, atI xs i = some v ∧ RepV K Z I v d := by
  obtain ⟨j, h1, h2⟩ := atI_get h
  obtain ⟨v, h3, h4⟩ := paired_get r h2
  exact ⟨v, by unfold atI; rw [paired_len r, h1]; exact h3, h4⟩
theorem ix_ok {Z H : Hp} {I : List Addr} {M : List O} {x : V} {d c : DV} {i : Int} {Q : VK} (w : Wf K Z H I M) (h : RepV K Z I x d) (e : ixM M d i = some c) (q : ∀ v, RepV K Z I v c → Q v H) : rIx K x (.int i) H Q := by
  cases d with
  | o n =>
    obtain ⟨a, ha, rfl⟩ := h
    have e : ixO M[n]? i = some c := e
    cases z : M[n]? with
    | none => rw [z] at e; cases e
    | some o =>
      rw [z] at e
      cases o with
      | lst xs =>
        obtain ⟨_, ys, h1, h2⟩ := w.ob n a _ ha z (by intro z; cases z)
        obtain ⟨v, h3, h4⟩ := atI_repV h2 e
        exact .inl ⟨_, ys, i, v, rfl, rfl, SqL.of h1, h3, q v h4⟩
      | _ => cases e
  | p d =>
    have h : Rep K Z x d := h
    have e : (ixD d i).map .p = some c := e
    cases z : ixD d i with
    | none => rw [z] at e; cases e
    | some c' =>
    rw [z] at e; cases e
    cases h with
    | lst h1 h2 =>
      obtain ⟨v, h3, h4⟩ := atI_rep h2 (show atI _ i = some c' from z)
      exact .inl ⟨_, _, i, v, rfl, rfl, .inl (same_rd w.sub h1), h3, q v h4⟩
    | tup h1 h2 =>
      obtain ⟨v, h3, h4⟩ := atI_rep h2 (show atI _ i = some c' from z)
      exact .inr (.inl ⟨_, _, i, v, rfl, rfl, sqt w.sub h1, h3, q v h4⟩)
    | ktup h1 h2 =>
      obtain ⟨v, h3, h4⟩ := atI_rep h2 (show atI _ i = some c' from z)
      exact .inr (.inl ⟨_, _, i, v, rfl, rfl, same_t w.sub h1, h3, q v h4⟩)
    | klst h1 h2 =>
      obtain ⟨v, h3, h4⟩ := atI_rep h2 (show atI _ i = some c' from z)
      exact .inl ⟨_, _, i, v, rfl, rfl, same_l w.sub h1, h3, q v h4⟩
    | str y =>
      have z : (if y.length ≤ 1000000 then (atI y.cps.toList i).map fun c => D.str ⟨#[c]⟩ else none) = some c' := z
      split at z
      · rename_i hl
        cases z2 : atI y.cps.toList i with
        | none => rw [z2] at z; cases z
        | some k =>
          rw [z2] at z; cases z
          exact .inr (.inr ⟨y, i, k, rfl, rfl, size_le hl, z2, q _ (.str _)⟩)
      · cases z
    | _ => cases z
theorem so_ix {ta tb : TE} {m n : EM} (ha : Sound K W (RepV K) ta m) (hb : Sound K W (RepV K) tb n) : Sound K W (RepV K) (tOp (rIx K) ta tb) (mIx m n) := ⟨fun σ H s Z I r0 Q w rs e p => by
  refine ha.bnd w rs e (p.x) fun d v M1 Z1 H1 I1 w1 rs1 x1 q1 e1 => ?_
  have p1 := p.mono x1
  refine hb.bnd (s := ⟨s.l, M1⟩) w1 rs1 e1 (p1.x) fun d2 v2 M2 Z2 H2 I2 w2 rs2 x2 q2 e2 => ?_
  obtain ⟨d2, rfl, e2⟩ := pur_ok e2
  have p2 := p1.mono x2
  cases d2 with
  | int i =>
    have e2 : (match ixM M2 d i with | some c => some (Rs.ok c M2) | none => none) = some r0 := e2
    cases q2
    cases z : ixM M2 d i with
    | none => rw [z] at e2; cases e2
    | some c =>
      rw [z] at e2; cases e2
      exact ix_ok w2 (q1.mono x2) z fun v r => p2 v Z2 H2 I2 w2 Ext.refl r
  | _ => cases e2⟩
theorem de_ix {ta tb : TE} {m n : EM} (ha : DE K X W a ta m) (hb : DE K X W b tb n) (hs : PlainIx b := by exact fun _ _ => rfl) : DE K X W (.Subscript a b pos) (tOp (rIx K) ta tb) (mIx m n) := by
  refine ⟨ha.k, ?_, so_ix ha.so hb.so⟩
  have h := pe_ix (X := X) (pos := pos) ix_seq ha.pe hb.pe hs
  rw [ha.k] at h
  exact h
/-! ### built-in calls -/
structure CallD (K : PySem.W.Frag) (X : Cx) (f : Value) (r : List V → Hp → VK → Prop) (g : List O → List DV → Option D) : Prop where
  op : X.K = K → CallR X f r
  ok : ∀ (vs : List V) (ds : List DV) (c : D) (Z H : Hp) (I : List Addr) (M : List O) (Q : VK), Wf K Z H I M → RepVs K Z I vs ds → g M ds = some c → PostP K Z H c Q → r vs H Q
def mCB (g : List O → List DV → Option D) (ms : AM) : EM := bnd ms fun ds s => ret (g s.m ds) s
theorem so_cb {r : List V → Hp → VK → Prop} {g : List O → List DV → Option D} {t : TA} {ms : AM} (h : ∀ (vs : List V) (ds : List DV) (c : D) (Z H : Hp) (I : List Addr) (M : List O) (Q : VK), Wf K Z H I M → RepVs K Z I vs ds → g M ds = some c → PostP K Z H c Q → r vs H Q)
    (ha : Sound K W (RepVs K) t ms) : Sound K W (RepV K) (tCB r t) (mCB g ms) := ⟨fun σ H s Z I r0 Q w rs e p => by
  refine ha.bnd w rs e (p.x) fun ds vs M1 Z1 H1 I1 w1 rs1 x1 q1 e1 => ?_
  obtain ⟨c, q, rfl⟩ := ret_ok e1
  exact h vs ds c Z1 H1 I1 M1 Q w1 q1 q (PostP.of w1 (p.mono x1))⟩
theorem de_callB {id : String} {r : List V → Hp → VK → Prop} {g : List O → List DV → Option D} {t : TA} {ms : AM} {x : Str} {p : Pos} (h : CallD K X (.builtin id) r g) (hm : X.mg x = none) (ha : DA K X W (e :: es) t ms) (hv : bootBuiltins x = some (.builtin id) := by decide +kernel) (hg : Gl X x := by rfl) (hn : x ≠ "__name__" := by decide) (hdb : (x == ("__debug__" : Str)) = false := by decide)
    (he : starEach (e :: es) X.env = (false, eval e X.env) :: starEach es X.env := by rfl) (hpl : (backTo pos (starEach es X.env)).any (·.1) = false := by rfl) : DE K X W (.Call (.Name x p) (e :: es) [] pos) (tCB r t) (mCB g ms) :=
  ⟨ha.k, pe_callB (h.op ha.k) hg hm hv ha.pa hn hdb he hpl, so_cb h.ok ha.so⟩
theorem de_callTy {T : String} {r : List V → Hp → VK → Prop} {g : List O → List DV → Option D} {t : TA} {ms : AM} {x : Str} {p : Pos} (h : CallD K X (.type T) r g) (hm : X.mg x = none) (ha : DA K X W (e :: es) t ms) (hv : bootBuiltins x = some (.type T) := by decide +kernel) (hg : Gl X x := by rfl) (hn : x ≠ "__name__" := by decide) (hdb : (x == ("__debug__" : Str)) = false := by decide)
    (he : starEach (e :: es) X.env = (false, eval e X.env) :: starEach es X.env := by rfl) (hpl : (backTo pos (starEach es X.env)).any (·.1) = false := by rfl) : DE K X W (.Call (.Name x p) (e :: es) [] pos) (tCB r t) (mCB g ms) :=
  ⟨ha.k, pe_callTy (h.op ha.k) hg hm hv ha.pa hn hdb he hpl, so_cb h.ok ha.so⟩
def g1 (g : D → Option D) : List O → List DV → Option D
  | _, [.p d] => g d
  | _, _ => none
theorem g1_ok {r : List V → Hp → VK → Prop} {g : D → Option D} (h : ∀ (x : V) (d c : D) (Z H : Hp) (Q : VK), Same Z H → Rep K Z x d → g d = some c → PostP K Z H c Q → r [x] H Q) :
    ∀ (vs : List V) (ds : List DV) (c : D) (Z H : Hp) (I : List Addr) (M : List O) (Q : VK), Wf K Z H I M → RepVs K Z I vs ds → g1 g M ds = some c → PostP K Z H c Q → r vs H Q := by
  intro vs ds c Z H I M Q w rv hg p
  unfold g1 at hg
  split at hg
  · cases rv with
    | cons h1 h2 =>
      cases h2
      exact h _ _ c Z H Q w.sub h1 hg p
  · cases hg
def dAbs : D → Option D
  | .int i => some (.int (if i < 0 then -i else i))
  | _ => none
theorem cd_abs : CallD K X (.builtin "abs") (fun xs H Q => ∃ i, xs = [.int i] ∧ Q (.int (if i < 0 then -i else i)) H) (g1 dAbs) := ⟨fun _ => call_abs, g1_ok fun x d c Z H Q s hx hg p => by
  unfold dAbs at hg
  split at hg
  · cases hx; cases hg; exact ⟨_, rfl, p _ Z H (ExtP.refl s) (.int _)⟩
  · cases hg⟩
def dInt : D → Option D
  | .int i => some (.int i)
  | .bl b => some (.int (if b then 1 else 0))
  | _ => none
theorem cd_int : CallD K X (.type "int") (fun xs H Q => (∃ i, xs = [.int i] ∧ Q (.int i) H) ∨ ∃ k, xs = [.bl k] ∧ Q (.int (if k then 1 else 0)) H) (g1 dInt) := ⟨fun _ => call_int1, g1_ok fun x d c Z H Q s hx hg p => by
  unfold dInt at hg
  split at hg
  · cases hx; cases hg; exact .inl ⟨_, rfl, p _ Z H (ExtP.refl s) (.int _)⟩
  · cases hx; cases hg; exact .inr ⟨_, rfl, p _ Z H (ExtP.refl s) (.int _)⟩
  · cases hg⟩
def lenD : D → Option Nat
  | .lst xs => some xs.length
  | .tup xs => some xs.length
  | .ktup xs => some xs.length
  | .klst xs => some xs.length
  | .str y => if y.length ≤ 1000000 then some y.length else none
  | _ => none
def lenO : Option O → Option Nat
  | some (.lst xs) => some xs.length
  | _ => none
def lenM (M : List O) : DV → Option Nat
  | .p d => lenD d
  | .o n => lenO M[n]?
def dLen : List O → List DV → Option D
  | M, [d] => Option.map (fun (n : Nat) => D.int (n : Int)) (lenM M d)
  | _, _ => none
theorem cd_len : CallD K X (.builtin "len") (fun xs H Q => ∃ x n, xs = [x] ∧ LenV K x H n ∧ Q (.int n) H) dLen := ⟨fun k => by rw [← k]; exact call_len, fun vs ds c Z H I M Q w rv hg p => by
  unfold dLen at hg
  split at hg
  · rename_i d
    cases rv with
    | cons h1 h2 =>
    cases h2
    cases z : lenM M d with
    | none => rw [z] at hg; cases hg
    | some n =>
      rw [z] at hg; cases hg
      refine ⟨_, n, rfl, ?_, p _ Z H (ExtP.refl w.sub) (.int _)⟩
      cases d with
      | o j =>
        obtain ⟨a, ha, rfl⟩ := h1
        have z : lenO M[j]? = some n := z
        cases y : M[j]? with
        | none => rw [y] at z; cases z
        | some o =>
          rw [y] at z
          cases o with
          | lst xs =>
            obtain ⟨_, ys, g1, g2⟩ := w.ob j a _ ha y (by intro z; cases z)
            cases z
            exact .inl ⟨ys, SqL.of g1, (paired_len g2).symm⟩
          | _ => cases z
      | p d =>
        have h1 : Rep K Z _ d := h1
        have z : lenD d = some n := z
        cases h1 with
        | lst g1 g2 => cases z; exact .inl ⟨_, .inl (same_rd w.sub g1), g2.length.symm⟩
        | tup g1 g2 => cases z; exact .inr ⟨_, sqt w.sub g1, g2.length.symm⟩
        | ktup g1 g2 => cases z; exact .inr ⟨_, same_t w.sub g1, g2.length.symm⟩
        | klst g1 g2 => cases z; exact .inl ⟨_, same_l w.sub g1, g2.length.symm⟩
        | str y =>
          have z : (if y.length ≤ 1000000 then some y.length else none) = some n := z
          split at z
          · rename_i hl
            cases z
            exact ⟨size_le hl, rfl⟩
          · cases z
        | _ => cases z
  · cases hg⟩
end
end DL
namespace DL
open PySem L2
/-! ### defs: by data alone (A), with objects of one's own (B) -/
inductive RD where
  | ok (d : D) | ex (c : Addr) (fs : List (Str × D))
abbrev MA := List D → Option RD
abbrev MB := List DV → Mi DV
def spA (K : PySem.W.Frag) (n : Nat) (f : MA) : Sp := fun vs H Q E => vs.length = n ∧ ∃ Z ds r, Same Z H ∧ RepA K Z vs ds ∧ f ds = some r ∧ (match r with
  | .ok d => PostP K Z H d Q
  | .ex c fs => ∀ d Z' H', ExtP Z H Z' H' → ExcAt K Z' H' d fs → (∀ a, d = some a → H a = none) → E (.ref c) d H')
def spB (K : PySem.W.Frag) (n : Nat) (f : List DV → List O → Option (Rs DV)) : Sp := fun vs H Q E => vs.length = n ∧ ∃ Z I M ds r, Wf K Z H I M ∧ RepVs K Z I vs ds ∧ f ds M = some r ∧ (match r with
  | .ok dv M' => ∀ v Z' H' I', Wf K Z' H' I' M' → Ext Z H I Z' H' I' → RepV K Z' I' v dv → Q v H'
  | .ex c fs M' => ∀ d Z' H' I', Wf K Z' H' I' M' → Ext Z H I Z' H' I' → ExcAt K Z' H' d fs → (∀ a, d = some a → H a = none ∧ a ∉ I') → E (.ref c) d H')
theorem spA_len {K : PySem.W.Frag} {n : Nat} {f : MA} : ∀ vs H Q E, spA K n f vs H Q E → vs.length = n := fun _ _ _ _ h => h.1
theorem spB_len {K : PySem.W.Frag} {n : Nat} {f : List DV → List O → Option (Rs DV)} : ∀ vs H Q E, spB K n f vs H Q E → vs.length = n := fun _ _ _ _ h => h.1
section
variable {K : PySem.W.Frag} {X : Cx} {W : WX} {e a b c : Expr} {es : List Expr} {pos : Pos}
/-! ### calls of defs -/
def mCallA (n : Nat) (f : MA) (ms : AM) : EM := bnd ms fun ds s => if ds.length = n then match allP ds with
  | some xs => match f xs with
    | some (.ok d) => some (.ok (.p d) s.m)
    | some (.ex c fs) => some (.ex c fs s.m)
    | none => none
  | none => none else none
def mCallB (n : Nat) (f : List DV → List O → Option (Rs DV)) (ms : AM) : EM := bnd ms fun ds s => if ds.length = n then f ds s.m else none
theorem so_callA {n : Nat} {f : MA} {t : TA} {ms : AM} (ha : Sound K W (RepVs K) t ms) : Sound K W (RepV K) (tCallS (spA K n f) (fun σ => WE W σ) t) (mCallA n f ms) := ⟨fun σ H s Z I r0 Q w rs e p => by
  refine ha.bnd w rs e (p.x) fun ds vs M1 Z1 H1 I1 w1 rs1 x1 q1 e1 => ?_
  have p1 := p.mono x1
  have e1 : (if ds.length = n then match allP ds with
    | some xs => match f xs with
      | some (.ok d) => some (Rs.ok (DV.p d) M1)
      | some (.ex c fs) => some (Rs.ex c fs M1)
      | none => none
    | none => none else none) = some r0 := e1
  split at e1
  · rename_i hl
    cases z : allP ds with
    | none => rw [z] at e1; cases e1
    | some xs =>
      rw [z] at e1
      have e1 : (match f xs with
        | some (.ok d) => some (Rs.ok (DV.p d) M1)
        | some (.ex c fs) => some (Rs.ex c fs M1)
        | none => none) = some r0 := e1
      have ra := allP_rep q1 z
      cases y : f xs with
      | none => rw [y] at e1; cases e1
      | some r =>
        rw [y] at e1
        refine ⟨by rw [paired_len q1]; exact hl, Z1, xs, r, w1.sub, ra, y, ?_⟩
        cases r with
        | ok d => cases e1; exact PostP.of w1 p1
        | ex c fs =>
          cases e1
          intro d Z2 H2 x2 ea na
          exact p1 d Z2 H2 I1 (w1.extP x2) (x2.ext w1) ea fun b q => ⟨na b q, fun m => w1.tr b m (na b q)⟩
  · cases e1⟩
theorem so_callB {n : Nat} {f : List DV → List O → Option (Rs DV)} {t : TA} {ms : AM} (ha : Sound K W (RepVs K) t ms) : Sound K W (RepV K) (tCallS (spB K n f) (fun σ => WE W σ) t) (mCallB n f ms) := ⟨fun σ H s Z I r0 Q w rs e p => by
  refine ha.bnd w rs e (p.x) fun ds vs M1 Z1 H1 I1 w1 rs1 x1 q1 e1 => ?_
  have p1 := p.mono x1
  have e1 : (if ds.length = n then f ds M1 else none) = some r0 := e1
  split at e1
  · rename_i hl
    refine ⟨by rw [paired_len q1]; exact hl, Z1, I1, M1, ds, r0, w1, q1, e1, ?_⟩
    cases r0 with
    | ok d M' => exact p1
    | ex c fs M' => exact p1
  · cases e1⟩
theorem de_callA {n k : Nat} {f : MA} {fa : Addr} {fd : FuncData} {ps : List Str} {t : TA} {ms : AM} {x : Str} {p : Pos} (F : FnOk X.prog X.w K X.mg X.base (L2.CX X.prog X.w) k fa fd ps (spA K n f)) (hr : Room k X.A) (tk : Takes X W) (hm : X.mg x = some (.ref fa)) (hk : PySem.W.keepIn K (.ref fa) = true) (hb : Binds K fd ps [])
    (ha : DA K X W (e :: es) t ms) (hg : Gl X x := by rfl) (hdb : (x == ("__debug__" : Str)) = false := by decide) (he : starEach (e :: es) X.env = (false, eval e X.env) :: starEach es X.env := by rfl) (hpl : (backTo pos (starEach es X.env)).any (·.1) = false := by rfl) :
    DE K X W (.Call (.Name x p) (e :: es) [] pos) (tCallS (spA K n f) (fun σ => WE W σ) t) (mCallA n f ms) := by
  have k := ha.k
  subst k
  exact ⟨rfl, pe_callS F hr hg hm hk hb (fun σ => passAt tk σ) ha.pa hdb he hpl, so_callA ha.so⟩
theorem de_callB' {n k : Nat} {f : List DV → List O → Option (Rs DV)} {fa : Addr} {fd : FuncData} {ps : List Str} {t : TA} {ms : AM} {x : Str} {p : Pos} (F : FnOk X.prog X.w K X.mg X.base (L2.CX X.prog X.w) k fa fd ps (spB K n f)) (hr : Room k X.A) (tk : Takes X W) (hm : X.mg x = some (.ref fa)) (hk : PySem.W.keepIn K (.ref fa) = true) (hb : Binds K fd ps [])
    (ha : DA K X W (e :: es) t ms) (hg : Gl X x := by rfl) (hdb : (x == ("__debug__" : Str)) = false := by decide) (he : starEach (e :: es) X.env = (false, eval e X.env) :: starEach es X.env := by rfl) (hpl : (backTo pos (starEach es X.env)).any (·.1) = false := by rfl) :
    DE K X W (.Call (.Name x p) (e :: es) [] pos) (tCallS (spB K n f) (fun σ => WE W σ) t) (mCallB n f ms) := by
  have k := ha.k
  subst k
  exact ⟨rfl, pe_callS F hr hg hm hk hb (fun σ => passAt tk σ) ha.pa hdb he hpl, so_callB ha.so⟩
/-! ### one's own list, given up -/
def mFrz (m : EM) : EM := bnd m fun d s => match d with
  | .p d => some (.ok (.p d) s.m)
  | .o n => match s.m[n]? with
    | some (.lst ds) => match allP ds with
      | some xs => some (.ok (.p (.lst xs)) (s.m.set n .gone))
      | none => none
    | _ => none
theorem so_frz {t : TE} {m : EM} (h : Sound K W (RepV K) t m) : Sound K W (RepV K) t (mFrz m) := ⟨fun σ H s Z I r0 Q w rs e p => by
  unfold mFrz bnd at e
  cases z : m s with
  | none => rw [z] at e; cases e
  | some r =>
    rw [z] at e
    refine h.ok σ H s Z I r Q w rs z ?_
    cases r with
    | ex c fs M => cases e; exact p
    | ok d M =>
      cases d with
      | p d => cases e; exact p
      | o n =>
        have e : (match M[n]? with
          | some (.lst ds) => match allP ds with
            | some xs => some (Rs.ok (DV.p (D.lst xs)) (M.set n .gone))
            | none => none
          | _ => none) = some r0 := e
        intro v Z' H' I' w' x' q'
        obtain ⟨a, ha, rfl⟩ := q'
        cases y : M[n]? with
        | none => rw [y] at e; cases e
        | some o =>
          rw [y] at e
          cases o with
          | lst ds =>
            have e : (match allP ds with
              | some xs => some (Rs.ok (DV.p (D.lst xs)) (M.set n .gone))
              | none => none) = some r0 := e
            cases u : allP ds with
            | none => rw [u] at e; cases e
            | some xs =>
              rw [u] at e; cases e
              obtain ⟨hz, ys, h1, h2⟩ := w'.ob n a _ ha y (by intro z; cases z)
              have x2 := ext_frz w' ha hz h1
              exact p _ _ _ I' (w'.frz ha y (by intro z; cases z) h1) (x'.trans x2) (.lst (.inl upd_same) ((allP_rep h2 u).mono x2.z))
          | _ => cases e⟩
theorem de_frz {t : TE} {m : EM} (h : DE K X W e t m) : DE K X W e t (mFrz m) := ⟨h.k, h.pe, so_frz h.so⟩
/-! ### statements -/
def liftS {α : Type} (m : Mi α) (k : α → SM) : SM := fun s => match m s with
  | some (.ok v M) => k v ⟨s.l, M⟩
  | some (.ex c f M) => some (.ex c f, ⟨s.l, M⟩)
  | none => none
theorem PostS.mono {Z H Z1 H1 : Hp} {I I1 : List Addr} {D : Ends} (x : Ext Z H I Z1 H1 I1) : ∀ {r : Fl × S}, PostS K W Z H I D r → PostS K W Z1 H1 I1 D r
  | (.nx, _), p => fun σ' Z' H' I' w r x' => p σ' Z' H' I' w r (x.trans x')
  | (.rt _, _), p => fun v Z' H' I' w x' r => p v Z' H' I' w (x.trans x') r
  | (.bk, _), p => fun σ' Z' H' I' w r x' => p σ' Z' H' I' w r (x.trans x')
  | (.ct, _), p => fun σ' Z' H' I' w r x' => p σ' Z' H' I' w r (x.trans x')
  | (.ex _ _, _), p => fun σ' d Z' H' I' w r x' ea na => p σ' d Z' H' I' w r (x.trans x') ea fun b q => ⟨by
      cases z : H b with
      | none => rfl
      | some o => exact absurd (na b q).1 (x.tr b (by rw [z]; simp)), (na b q).2⟩
theorem Sound.lift {α β : Type} {R : Hp → List Addr → β → α → Prop} {t : St → Hp → (β → Hp → Prop) → Prop} {m : Mi α} (h : Sound K W R t m) {σ : St} {H Z : Hp} {I : List Addr} {s : S} {k : α → SM} {r : Fl × S} {D : Ends} {Q : β → Hp → Prop}
    (w : Wf K Z H I s.m) (rs : RepS K Z I σ s.l) (e : liftS m k s = some r) (p : PostS K W Z H I D r)
    (hk : ∀ a b M' Z' H' I', Wf K Z' H' I' M' → RepS K Z' I' σ s.l → Ext Z H I Z' H' I' → R Z' I' b a → k a ⟨s.l, M'⟩ = some r → PostS K W Z' H' I' D r → Q b H') : t σ H Q := by
  unfold liftS at e
  cases q : m s with
  | none => rw [q] at e; cases e
  | some r0 =>
    rw [q] at e
    cases r0 with
    | ok v M => exact h.ok σ H s Z I _ Q w rs q fun b Z' H' I' w' x' r' => hk v b M Z' H' I' w' (rs.mono x') x' r' e (p.mono x')
    | ex c f M =>
      obtain rfl := Option.some.inj e
      exact h.ok σ H s Z I _ Q w rs q fun d Z' H' I' w' x' ea na => p σ d Z' H' I' w' (rs.mono x') x' ea na
def sNil : SM := fun s => some (.nx, s)
def sSeq (a b : SM) : SM := fun s => match a s with
  | some (.nx, s1) => b s1
  | r => r
theorem so_nil : SoundS K W tNext sNil := ⟨fun σ H s Z I r D w rs e p => by
  cases e; exact p σ Z H I w rs Ext.refl⟩
theorem so_seq {t u : TS} {m n : SM} (ha : SoundS K W t m) (hb : SoundS K W u n) : SoundS K W (tSeq t u) (sSeq m n) := ⟨fun σ H s Z I r D w rs e p => by
  unfold sSeq at e
  show t { D with nx := u D } σ H
  cases q : m s with
  | none => rw [q] at e; cases e
  | some r1 =>
    rw [q] at e
    obtain ⟨f, s1⟩ := r1
    cases f with
    | nx => exact ha.ok σ H s Z I _ _ w rs q fun σ' Z' H' I' w' rs' x' => hb.ok σ' H' s1 Z' I' r D w' rs' e (p.mono x')
    | rt v => cases e; exact ha.ok σ H s Z I _ _ w rs q p
    | bk => cases e; exact ha.ok σ H s Z I _ _ w rs q p
    | ct => cases e; exact ha.ok σ H s Z I _ _ w rs q p
    | ex c fs => cases e; exact ha.ok σ H s Z I _ _ w rs q p⟩
theorem dss_nil (k : X.K = K := by rfl) : DSs K X W [] tNext sNil := ⟨k, pss_nil, so_nil⟩
theorem dss_cons {st : Stmt} {rest : List Stmt} {t u : TS} {m n : SM} (ha : DS K X W st t m) (hb : DSs K X W rest u n) : DSs K X W (st :: rest) (tSeq t u) (sSeq m n) := ⟨ha.k, pss_cons ha.ps hb.ps, so_seq ha.so hb.so⟩
theorem dss_one {st : Stmt} {t : TS} {m : SM} (ha : DS K X W st t m) : DSs K X W [st] t m := ⟨ha.k, pss_one ha.ps, ha.so⟩
theorem ds_pass (k : X.K = K := by rfl) : DS K X W (.Pass pos) tNext sNil := ⟨k, ps_pass, so_nil⟩
def sBrk : SM := fun s => some (.bk, s)
def sCnt : SM := fun s => some (.ct, s)
theorem ds_break (k : X.K = K := by rfl) : DS K X W (.Break pos) tBreak sBrk := ⟨k, ps_break, ⟨fun σ H s Z I r D w rs e p => by
  cases e; exact p σ Z H I w rs Ext.refl⟩⟩
theorem ds_continue (k : X.K = K := by rfl) : DS K X W (.Continue pos) tCont sCnt := ⟨k, ps_continue, ⟨fun σ H s Z I r D w rs e p => by
  cases e; exact p σ Z H I w rs Ext.refl⟩⟩
theorem ds_doc {x : Str} {j} {pos' : Pos} (k : X.K = K := by rfl) : DS K X W (.Expr (.Constant (.str x) j pos) pos') tNext sNil := ⟨k, ps_doc, so_nil⟩
def sExpr (m : EM) : SM := liftS m fun _ s => some (.nx, s)
theorem ds_expr {te : TE} {m : EM} (h : DE K X W e te m) (hs : swapsWith e none pos.line X.env = pure false := by rfl) : DS K X W (.Expr e pos) (tDrop te) (sExpr m) := ⟨h.k, ps_expr h.pe hs, ⟨fun σ H s Z I r D w rs e p => by
  refine h.so.lift w rs e p fun d v M1 Z1 H1 I1 w1 rs1 x1 q1 e1 p1 => ?_
  cases e1; exact p1 σ Z1 H1 I1 w1 rs1 Ext.refl⟩⟩
def sRet (m : EM) : SM := liftS m fun d s => some (.rt d, s)
theorem ds_ret {te : TE} {m : EM} (h : DE K X W e te m) : DS K X W (.Return (some e) pos) (tRet te) (sRet m) := ⟨h.k, ps_ret h.pe, ⟨fun σ H s Z I r D w rs e p => by
  refine h.so.lift w rs e p fun d v M1 Z1 H1 I1 w1 rs1 x1 q1 e1 p1 => ?_
  cases e1; exact p1 v Z1 H1 I1 w1 Ext.refl q1⟩⟩
def sRetN : SM := fun s => some (.rt (.p .non), s)
theorem ds_retN (k : X.K = K := by rfl) : DS K X W (.Return none pos) tRetN sRetN := ⟨k, ps_retN, ⟨fun σ H s Z I r D w rs e p => by
  cases e; exact p .non Z H I w Ext.refl .non⟩⟩
def ifS (n k : SM) : DV → SM
  | .p (.bl true), s => n s
  | .p (.bl false), s => k s
  | _, _ => none
def sIf (c : EM) (m n : SM) : SM := liftS c (ifS m n)
theorem ds_if {x y : List Stmt} {tc : TT} {t u : TS} {k : EM} {m n : SM} (hc : DT K X W c tc k) (ha : DSs K X W x t m) (hb : DSs K X W y u n) : DS K X W (.If c x y pos) (tIfS tc t u) (sIf k m n) := ⟨hc.k, ps_if hc.pt ha.ps hb.ps, ⟨fun σ H s Z I r D w rs e p => by
  refine hc.so.lift w rs e p fun d v M1 Z1 H1 I1 w1 rs1 x1 q1 e1 p1 => ?_
  cases (show d = .p (.bl v) from q1)
  cases v with
  | true => exact ha.so.ok σ H1 ⟨s.l, M1⟩ Z1 I1 r D w1 rs1 e1 p1
  | false => exact hb.so.ok σ H1 ⟨s.l, M1⟩ Z1 I1 r D w1 rs1 e1 p1⟩⟩
/-! ### targets -/
theorem wipe_set {σ : St} {i : Nat} {x : Option V} : ∀ {vs : List Nat}, i ∈ vs → wipe (σ.set i x) vs = wipe σ vs
  | v :: vs, h => by
    show (wipe (σ.set i x) vs).set v none = (wipe σ vs).set v none
    by_cases q : i ∈ vs
    · rw [wipe_set q]
    · have e : v = i := by
        rcases List.mem_cons.mp h with k | k
        · exact k.symm
        · exact absurd k q
      subst e
      have c : ∀ ws : List Nat, v ∉ ws → wipe (σ.set v x) ws = (wipe σ ws).set v x := by
        intro ws
        induction ws with
        | nil => intro _; rfl
        | cons w ws ih =>
          intro hw
          rw [List.mem_cons, not_or] at hw
          show (wipe (σ.set v x) ws).set w none = ((wipe σ ws).set w none).set v x
          rw [ih hw.2, List.set_comm _ _ hw.1]
      rw [c vs q, List.set_set]
abbrev GM := DV → S → Option S
structure DG (K : PySem.W.Frag) (X : Cx) (tg : Expr) (g : TG) (m : GM) (ix : List Nat) : Prop where
  k : X.K = K
  pg : PG X tg g
  ok : ∀ (v : V) (dv : DV) (σ : St) (H : Hp) (s s' : S) (Z : Hp) (I : List Addr) (Q : St → Hp → Prop), Wf K Z H I s.m → RepS K Z I σ s.l → RepV K Z I v dv → m dv s = some s' →
    (∀ σ' Z' H' I', Wf K Z' H' I' s'.m → RepS K Z' I' σ' s'.l → Ext Z H I Z' H' I' → (∀ vs, (∀ i ∈ ix, i ∈ vs) → wipe σ' vs = wipe σ vs) → Q σ' H') → g v σ H Q
def gN (i : Nat) : GM := fun d s => some ⟨s.l.set i (some d), s.m⟩
theorem dg_name {i : Nat} {x : Str} (hN : X.N.Nodup) (k : X.K = K := by rfl) (hi : X.N[i]? = some x := by rfl) (hx : Loc X.env.scope x := by first | exact Or.inl rfl | exact Or.inr rfl) (hf : X.fn x = true ∨ X.env.scope.names.lookup x = some .local := by first | exact .inl rfl | exact .inr rfl) : DG K X (.Name x pos) (gName i) (gN i) [i] :=
  ⟨k, pg_name hN hi hx hf, fun v dv σ H s s' Z I Q w rs rv e q => by
    cases e; exact q _ Z H I w (rs.set rv i) Ext.refl fun vs hv => wipe_set (hv i (by simp))⟩
structure DGs (K : PySem.W.Frag) (X : Cx) (tg : List Expr) (g : TGs) (m : List DV → S → Option S) (ix : List Nat) : Prop where
  k : X.K = K
  pg : PGs X tg g
  ok : ∀ (v : List V) (dv : List DV) (σ : St) (H : Hp) (s s' : S) (Z : Hp) (I : List Addr) (Q : St → Hp → Prop), Wf K Z H I s.m → RepS K Z I σ s.l → RepVs K Z I v dv → m dv s = some s' →
    (∀ σ' Z' H' I', Wf K Z' H' I' s'.m → RepS K Z' I' σ' s'.l → Ext Z H I Z' H' I' → (∀ vs, (∀ i ∈ ix, i ∈ vs) → wipe σ' vs = wipe σ vs) → Q σ' H') → g v σ H Q
def gsNil : List DV → S → Option S
  | [], s => some s
  | _, _ => none
def gsCons (m : GM) (n : List DV → S → Option S) : List DV → S → Option S
  | d :: r, s => match m d s with
    | some s1 => n r s1
    | none => none
  | [], _ => none
theorem dgs_nil (k : X.K = K := by rfl) : DGs K X [] gNil gsNil [] := ⟨k, pgs_nil, fun v dv σ H s s' Z I Q w rs rv e q => by
  cases rv with
  | nil => cases e; exact ⟨rfl, q σ Z H I w rs Ext.refl fun _ _ => rfl⟩
  | cons _ _ => cases e⟩
theorem dgs_cons {tg : Expr} {tgs : List Expr} {t : TG} {u : TGs} {m : GM} {n : List DV → S → Option S} {i1 i2 : List Nat} (h1 : DG K X tg t m i1) (h2 : DGs K X tgs u n i2)
    (hs : (assignEach (tg :: tgs) X.env).map (·.2) = assign tg X.env :: (assignEach tgs X.env).map (·.2) := by rfl) : DGs K X (tg :: tgs) (gCons t u) (gsCons m n) (i1 ++ i2) := ⟨h1.k, pgs_cons h1.pg h2.pg hs, fun v dv σ H s s' Z I Q w rs rv e q => by
  cases rv with
  | nil => cases e
  | @cons _ d _ _ r1 r2 =>
    have e : (match m d s with | some s1 => n _ s1 | none => none) = some s' := e
    refine ⟨_, _, rfl, ?_⟩
    cases z : m d s with
    | none => rw [z] at e; cases e
    | some s1 =>
      rw [z] at e
      refine h1.ok _ d σ H s s1 Z I _ w rs r1 z fun σ' Z' H' I' w' rs' x' k' => ?_
      exact h2.ok _ _ σ' H' s1 s' Z' I' Q w' rs' (paired_imp (fun _ _ q => RepV.mono x' q) r2) e fun σ2 Z2 H2 I2 w2 rs2 x2 k2 => q σ2 Z2 H2 I2 w2 rs2 (x'.trans x2) fun vs hv =>
        (k2 vs fun i hi => hv i (List.mem_append_right _ hi)).trans (k' vs fun i hi => hv i (List.mem_append_left _ hi))⟩
def gT (n : Nat) (m : List DV → S → Option S) : GM := fun d s => match d with
  | .p (.tup xs) => if xs.length = n then m (xs.map .p) s else none
  | .p (.ktup xs) => if xs.length = n then m (xs.map .p) s else none
  | _ => none
theorem dg_tup {tgs : List Expr} {k : Nat} {t : TGs} {m : List DV → S → Option S} {n : Nat} {ix : List Nat} (hc : X.calm = true) (h : DGs K X tgs t m ix) (hn : (assignEach tgs X.env).length = n := by rfl) (hst : (assignEach tgs X.env).findIdx? (·.1) = none := by rfl) :
    DG K X (.Tuple tgs k pos) (gTup K n t) (gT n m) ix := by
  have kk := h.k
  subst kk
  refine ⟨rfl, pg_tup hc h.pg hn hst, fun v dv σ H s s' Z I Q w rs rv e q => ?_⟩
  cases dv with
  | o j => cases e
  | p d =>
    have rv : Rep X.K Z v d := rv
    cases rv with
    | tup h1 h2 =>
      rename_i a xs ds
      have e : (if ds.length = n then m (ds.map .p) s else none) = some s' := e
      split at e
      · rename_i hl
        exact ⟨a, xs, rfl, sqt w.sub h1, by rw [h2.length]; exact hl, h.ok _ _ σ H s s' Z I Q w rs (allP_map h2) e q⟩
      · cases e
    | ktup h1 h2 =>
      rename_i a xs ds
      have e : (if ds.length = n then m (ds.map .p) s else none) = some s' := e
      split at e
      · rename_i hl
        exact ⟨a, xs, rfl, same_t w.sub h1, by rw [h2.length]; exact hl, h.ok _ _ σ H s s' Z I Q w rs (allP_map h2) e q⟩
      · cases e
    | _ => cases e
def sAsg (m : EM) (g : GM) : SM := liftS m fun d s => match g d s with
  | some s1 => some (.nx, s1)
  | none => none
theorem ds_asg {tg : Expr} {te : TE} {g : TG} {m : EM} {gm : GM} {ix : List Nat} (he : DE K X W e te m) (hg : DG K X tg g gm ix) (hs : swapsWithSole [tg] e pos.line X.env = pure false := by rfl) (hw : swappedStores [tg] e X.env = pure none := by rfl)
    (h1 : (assignEach [tg] X.env).map (·.2) = [assign tg X.env] := by rfl) : DS K X W (.Assign [tg] e pos) (tAsg te g) (sAsg m gm) := ⟨he.k, ps_asg he.pe hg.pg hs hw h1, ⟨fun σ H s Z I r D w rs e p => by
  refine he.so.lift w rs e p fun d v M1 Z1 H1 I1 w1 rs1 x1 q1 e1 p1 => ?_
  have e1 : (match gm d ⟨s.l, M1⟩ with | some s1 => some (Fl.nx, s1) | none => none) = some r := e1
  cases z : gm d ⟨s.l, M1⟩ with
  | none => rw [z] at e1; cases e1
  | some s1 =>
    rw [z] at e1; cases e1
    exact hg.ok v d σ H1 ⟨s.l, M1⟩ s1 Z1 I1 _ w1 rs1 q1 z fun σ' Z' H' I' w' rs' x' _ => p1 σ' Z' H' I' w' rs' x'⟩⟩
theorem ds_set {i : Nat} {x : Str} {te : TE} {m : EM} {px : Pos} (hN : X.N.Nodup) (he : DE K X W e te m) (hi : X.N[i]? = some x := by rfl) (hx : Loc X.env.scope x := by first | exact Or.inl rfl | exact Or.inr rfl) (hf : X.fn x = true ∨ X.env.scope.names.lookup x = some .local := by first | exact .inl rfl | exact .inr rfl)
    (hs : swapsWithSole [.Name x px] e pos.line X.env = pure false := by rfl) (hw : swappedStores [.Name x px] e X.env = pure none := by rfl) (h1 : (assignEach [.Name x px] X.env).map (·.2) = [assign (.Name x px) X.env] := by rfl) : DS K X W (.Assign [.Name x px] e pos) (tAsg te (gName i)) (sAsg m (gN i)) :=
  ds_asg he (dg_name hN he.k hi hx hf) hs hw h1
/-- a, b = x, y -/
def sPar (i j : Nat) (ms : AM) : SM := liftS ms fun ds s => match ds with
  | [d, f] => some (.nx, ⟨(s.l.set i (some d)).set j (some f), s.m⟩)
  | _ => none
theorem ds_par {i j : Nat} {x y : Str} {ta : TA} {ms : AM} {px py pt : Pos} {kt k2} {pt2 : Pos} (hc : X.calm = true) (hN : X.N.Nodup) (ha : DA K X W [a, b] ta ms) (hi : X.N[i]? = some x := by rfl) (hj : X.N[j]? = some y := by rfl) (hij : i ≠ j := by decide)
    (hx : X.env.scope.names.lookup x = some .local := by rfl) (hy : X.env.scope.names.lookup y = some .local := by rfl)
    (hw : swappedStores [.Tuple [.Name x px, .Name y py] kt pt] (.Tuple [a, b] k2 pt2) X.env = pure (some [x, y]) := by rfl) (hs : swapsWithSole [.Tuple [.Name x px, .Name y py] kt pt] (.Tuple [a, b] k2 pt2) pos.line X.env = pure false := by rfl) :
    DS K X W (.Assign [.Tuple [.Name x px, .Name y py] kt pt] (.Tuple [a, b] k2 pt2) pos) (tPar i j ta) (sPar i j ms) := ⟨ha.k, ps_par hc hN hi hj hij hx hy ha.pa hw hs, ⟨fun σ H s Z I r D w rs e p => by
  refine ha.so.lift w rs e p fun ds vs M1 Z1 H1 I1 w1 rs1 x1 q1 e1 p1 => ?_
  cases q1 with
  | nil => cases e1
  | cons r1 q1 =>
  cases q1 with
  | nil => cases e1
  | cons r2 q1 =>
  cases q1 with
  | nil =>
    cases e1
    exact ⟨_, _, rfl, p1 _ Z1 H1 I1 w1 ((rs1.set r1 i).set r2 j) Ext.refl⟩
  | cons _ _ => cases e1⟩⟩
end
end DL
namespace DL
open PySem L2
section
variable {K : PySem.W.Frag} {X : Cx} {W : WX} {e a b c tg iter : Expr} {es : List Expr} {pos : Pos}
/-! ### what is walked -/
def ItOk (K : PySem.W.Frag) (Z0 : Hp) (I0 : List Addr) (J : It) (items : List DV) : Prop :=
  ∀ Z H I, Same Z0 Z → (∃ t, I = I0 ++ t) → Same Z H → ∀ i : Nat, (∀ d, items[i]? = some d → J.go i H ∧ ∀ x H', J.yld i H x H' → ∃ Z', ExtP Z H Z' H' ∧ RepV K Z' I x d) ∧ (items.length ≤ i → J.stop i H)
abbrev IM := Mi (List DV)
structure DI (K : PySem.W.Frag) (X : Cx) (W : WX) (tg iter : Expr) (wi : TI) (m : IM) : Prop where
  k : X.K = K
  pi : PI X tg iter wi
  so : Sound K W (ItOk K) wi m
def itD : D → Option (List DV)
  | .lst xs => some (xs.map .p)
  | .tup xs => some (xs.map .p)
  | .ktup xs => some (xs.map .p)
  | _ => none
def mItD (g : D → Option (List DV)) (m : EM) : IM := bnd m (pur fun d s => match g d with
  | some ds => some (.ok ds s.m)
  | none => none)
theorem so_itD {g : D → Option (List DV)} {te : TE} {m : EM} {r : V → Hp → (It → Hp → Prop) → Prop} (h : Sound K W (RepV K) te m) (hr : ∀ v d ds Z H I (R : It → Hp → Prop), Same Z H → Rep K Z v d → g d = some ds → (∀ J, ItOk K Z I J ds → R J H) → r v H R) :
    Sound K W (ItOk K) (fun σ H R => te σ H fun x H1 => r x H1 R) (mItD g m) := ⟨fun σ H s Z I r0 Q w rs e p => by
  refine h.bnd w rs e (p.x) fun d v M1 Z1 H1 I1 w1 rs1 x1 q1 e1 => ?_
  obtain ⟨d, rfl, e1⟩ := pur_ok e1
  have e1 : (match g d with | some ds => some (Rs.ok ds M1) | none => none) = some r0 := e1
  cases z : g d with
  | none => rw [z] at e1; cases e1
  | some ds =>
    rw [z] at e1; cases e1
    exact hr v d ds Z1 H1 I1 Q w1.sub q1 z fun J hJ => p J Z1 H1 I1 w1 x1 hJ⟩
def itL : D → Option (List DV)
  | .lst xs => some (xs.map .p)
  | .klst xs => some (xs.map .p)
  | .scr xs => some (xs.map .p)
  | _ => none
def itT : D → Option (List DV)
  | .tup xs => some (xs.map .p)
  | .ktup xs => some (xs.map .p)
  | _ => none
theorem getP {α : Type} {xs : List D} {i : Nat} {d : DV} (h : (xs.map DV.p)[i]? = some d) : ∃ y, xs[i]? = some y ∧ d = .p y := by
  rw [List.getElem?_map] at h
  cases q : xs[i]? with
  | none => rw [q] at h; cases h
  | some y => rw [q] at h; cases h; exact ⟨y, rfl, rfl⟩
theorem rd_inj_len {K : PySem.W.Frag} {Z : Hp} {vs : List V} {xs : List D} (r : RepA K Z vs xs) {i : Nat} {y : D} (h : xs[i]? = some y) : ∃ v, vs[i]? = some v ∧ Rep K Z v y := r.get h
theorem di_list {te : TE} {m : EM} (h : DE K X W iter te m) : DI K X W tg iter (iList K te) (mItD itL m) := by
  refine ⟨h.k, ?_, ?_⟩
  · rw [← h.k]; exact pi_list h.pe
  · refine so_itD (r := fun x H1 R => ∃ a, x = .ref a ∧ (∃ xs, SqL K H1 a xs) ∧ R (Itl K a) H1) h.so fun v d ds Z H I R s hd hg q => ?_
    cases hd with
    | lst h1 h2 =>
      rename_i a vs xs
      cases hg
      refine ⟨a, rfl, ⟨vs, .inl (same_rd s h1)⟩, q _ fun Z' H' I' z _ s' i => ⟨fun d hd => ?_, fun hl => ⟨vs, .inl (same_rd s' (same_rd z h1)), by rw [h2.length]; simpa using hl⟩⟩⟩
      obtain ⟨y, hy, rfl⟩ := getP (α := Unit) hd
      obtain ⟨v, hv, rv⟩ := h2.get hy
      refine ⟨⟨vs, v, .inl (same_rd s' (same_rd z h1)), hv⟩, fun x H2 hx => ?_⟩
      obtain ⟨rfl, hx⟩ := hx
      have := hx vs (.inl (same_rd s' (same_rd z h1)))
      rw [hv] at this
      cases this
      exact ⟨Z', ExtP.refl s', rv.mono z⟩
    | klst h1 h2 =>
      rename_i a vs xs
      cases hg
      refine ⟨a, rfl, ⟨vs, same_l s h1⟩, q _ fun Z' H' I' z _ s' i => ⟨fun d hd => ?_, fun hl => ⟨vs, same_l s' (same_l z h1), by rw [h2.length]; simpa using hl⟩⟩⟩
      obtain ⟨y, hy, rfl⟩ := getP (α := Unit) hd
      obtain ⟨v, hv, rv⟩ := h2.get hy
      refine ⟨⟨vs, v, same_l s' (same_l z h1), hv⟩, fun x H2 hx => ?_⟩
      obtain ⟨rfl, hx⟩ := hx
      have := hx vs (same_l s' (same_l z h1))
      rw [hv] at this
      cases this
      exact ⟨Z', ExtP.refl s', rv.mono z⟩
    | scr h1 h2 =>
      rename_i a vs xs
      cases hg
      refine ⟨a, rfl, ⟨vs, same_l s h1⟩, q _ fun Z' H' I' z _ s' i => ⟨fun d hd => ?_, fun hl => ⟨vs, same_l s' (same_l z h1), by rw [h2.length]; simpa using hl⟩⟩⟩
      obtain ⟨y, hy, rfl⟩ := getP (α := Unit) hd
      obtain ⟨v, hv, rv⟩ := h2.get hy
      refine ⟨⟨vs, v, same_l s' (same_l z h1), hv⟩, fun x H2 hx => ?_⟩
      obtain ⟨rfl, hx⟩ := hx
      have := hx vs (same_l s' (same_l z h1))
      rw [hv] at this
      cases this
      exact ⟨Z', ExtP.refl s', rv.mono z⟩
    | _ => cases hg
theorem di_tup {te : TE} {m : EM} (h : DE K X W iter te m) : DI K X W tg iter (iTup K te) (mItD itT m) := by
  refine ⟨h.k, ?_, ?_⟩
  · rw [← h.k]; exact pi_tup h.pe
  · refine so_itD (r := fun x H1 R => ∃ a, x = .ref a ∧ (∃ xs, SqT K H1 a xs) ∧ R (Itt K a) H1) h.so fun v d ds Z H I R s hd hg q => ?_
    cases hd with
    | tup h1 h2 =>
      rename_i a vs xs
      cases hg
      refine ⟨a, rfl, ⟨vs, sqt s h1⟩, q _ fun Z' H' I' z _ s' i => ⟨fun d hd => ?_, fun hl => ⟨vs, sqt s' (z _ _ h1), by rw [h2.length]; simpa using hl⟩⟩⟩
      obtain ⟨y, hy, rfl⟩ := getP (α := Unit) hd
      obtain ⟨v, hv, rv⟩ := h2.get hy
      refine ⟨⟨vs, v, sqt s' (z _ _ h1), hv⟩, fun x H2 hx => ?_⟩
      obtain ⟨rfl, hx⟩ := hx
      have := hx vs (sqt s' (z _ _ h1))
      rw [hv] at this
      cases this
      exact ⟨Z', ExtP.refl s', rv.mono z⟩
    | ktup h1 h2 =>
      rename_i a vs xs
      cases hg
      refine ⟨a, rfl, ⟨vs, same_t s h1⟩, q _ fun Z' H' I' z _ s' i => ⟨fun d hd => ?_, fun hl => ⟨vs, same_t s' (same_t z h1), by rw [h2.length]; simpa using hl⟩⟩⟩
      obtain ⟨y, hy, rfl⟩ := getP (α := Unit) hd
      obtain ⟨v, hv, rv⟩ := h2.get hy
      refine ⟨⟨vs, v, same_t s' (same_t z h1), hv⟩, fun x H2 hx => ?_⟩
      obtain ⟨rfl, hx⟩ := hx
      have := hx vs (same_t s' (same_t z h1))
      rw [hv] at this
      cases this
      exact ⟨Z', ExtP.refl s', rv.mono z⟩
    | _ => cases hg
def itS : D → Option (List DV)
  | .str x => some (x.cps.toList.map fun c => .p (.str ⟨#[c]⟩))
  | _ => none
theorem di_str {te : TE} {m : EM} (h : DE K X W iter te m) : DI K X W tg iter (iStr te) (mItD itS m) := by
  refine ⟨h.k, pi_str h.pe, ?_⟩
  refine so_itD (r := fun v H1 R => ∃ x, v = .str x ∧ R (Its x) H1) h.so fun v d ds Z H I R s hd hg q => ?_
  cases hd with
  | str x =>
    cases hg
    refine ⟨x, rfl, q _ fun Z' H' I' z _ s' i => ⟨fun d hd => ?_, fun hl => ?_⟩⟩
    · rw [List.getElem?_map] at hd
      cases hc : x.cps.toList[i]? with
      | none => rw [hc] at hd; cases hd
      | some c =>
        rw [hc] at hd; cases hd
        have hi : i < x.cps.size := by
          have := (List.getElem?_eq_some_iff.mp hc).1
          simpa using this
        refine ⟨hi, fun y H2 hy => ?_⟩
        obtain ⟨rfl, c', hc', rfl⟩ := hy
        have : c' = c := by
          have e1 : x.cps.toList[i]? = some c' := by simpa using hc'
          rw [hc] at e1
          exact (Option.some.inj e1).symm
        subst this
        exact ⟨Z', ExtP.refl s', .str _⟩
    · show x.cps.size ≤ i
      simpa using hl
  | _ => cases hg
def intsFrom (lo : Int) (n : Nat) : List DV := (List.range n).map fun (i : Nat) => .p (.int (lo + (i : Int)))
theorem itr_ok {Z : Hp} {I : List Addr} {lo : Int} {n : Nat} : ItOk K Z I (Itr lo n) (intsFrom lo n) := fun Z' H' I' z _ s' i => by
  refine ⟨fun d hd => ?_, fun hl => ?_⟩
  · unfold intsFrom at hd
    rw [List.getElem?_map] at hd
    cases q : (List.range n)[i]? with
    | none => rw [q] at hd; cases hd
    | some j =>
      rw [q] at hd
      have hi : i < n := by simpa using (List.getElem?_eq_some_iff.mp q).1
      have ej : j = i := by
        rw [List.getElem?_range hi] at q
        exact (Option.some.inj q).symm
      subst ej
      cases hd
      refine ⟨hi, fun x H2 hx => ?_⟩
      obtain ⟨rfl, rfl⟩ := hx
      exact ⟨Z', ExtP.refl s', .int _⟩
  · show n ≤ i
    simpa [intsFrom] using hl
def rngOk (i : Int) : Bool := decide (-4611686018427387904 ≤ i ∧ i < 4611686018427387904)
def rng1D : List DV → Option (List DV)
  | [.p (.int j)] => if rngOk j = true then some (intsFrom 0 j.toNat) else none
  | _ => none
def rng2D : List DV → Option (List DV)
  | [.p (.int i), .p (.int j)] => if rngOk i = true then if rngOk j = true then some (intsFrom i (j - i).toNat) else none else none
  | _ => none
def mRng (g : List DV → Option (List DV)) (ms : AM) : IM := bnd ms fun ds s => match g ds with
  | some xs => some (.ok xs s.m)
  | none => none
theorem rng_bound {i : Int} (h : rngOk i = true) : -(2 ^ 62) ≤ i ∧ i < 2 ^ 62 := by
  unfold rngOk at h
  simp only [decide_eq_true_eq] at h
  have : (2 : Int) ^ 62 = 4611686018427387904 := by decide
  omega
theorem so_rng {g : List DV → Option (List DV)} {ta : TA} {ms : AM} {r : List V → Hp → (It → Hp → Prop) → Prop} (h : Sound K W (RepVs K) ta ms) (hr : ∀ vs ds xs Z H I (R : It → Hp → Prop), RepVs K Z I vs ds → g ds = some xs → (∀ J, ItOk K Z I J xs → R J H) → r vs H R) :
    Sound K W (ItOk K) (fun σ H R => ta σ H fun vs H1 => r vs H1 R) (mRng g ms) := ⟨fun σ H s Z I r0 Q w rs e p => by
  refine h.bnd w rs e (p.x) fun ds vs M1 Z1 H1 I1 w1 rs1 x1 q1 e1 => ?_
  have e1 : (match g ds with | some xs => some (Rs.ok xs M1) | none => none) = some r0 := e1
  cases z : g ds with
  | none => rw [z] at e1; cases e1
  | some xs =>
    rw [z] at e1; cases e1
    exact hr vs ds xs Z1 H1 I1 Q q1 z fun J hJ => p J Z1 H1 I1 w1 x1 hJ⟩
theorem di_range1 {ta : TA} {ms : AM} {p : Pos} (hm : X.mg "range" = none) (h : DA K X W [a] ta ms) (hg : Gl X "range" := by rfl) (hs : starEach [a] X.env = [(false, eval a X.env)] := by rfl) : DI K X W tg (.Call (.Name "range" p) [a] [] pos) (iRng1 ta) (mRng rng1D ms) :=
  ⟨h.k, pi_range1 hg hm h.pa hs, so_rng (r := fun vs H1 R => ∃ j : Int, vs = [.int j] ∧ -(2 ^ 62) ≤ j ∧ j < 2 ^ 62 ∧ R (Itr 0 j.toNat) H1) h.so fun vs ds xs Z H I R rv z q => by
    unfold rng1D at z
    split at z
    · split at z
      · rename_i hb
        cases z
        cases rv with
        | cons g1 g2 =>
        cases g2
        cases g1
        obtain ⟨b1, b2⟩ := rng_bound hb
        exact ⟨_, rfl, b1, b2, q _ itr_ok⟩
      · cases z
    · cases z⟩
theorem di_range2 {ta : TA} {ms : AM} {p : Pos} (hm : X.mg "range" = none) (h : DA K X W [a, b] ta ms) (hg : Gl X "range" := by rfl) (hs : starEach [a, b] X.env = [(false, eval a X.env), (false, eval b X.env)] := by rfl) (hs2 : starEach [b] X.env = [(false, eval b X.env)] := by rfl) : DI K X W tg (.Call (.Name "range" p) [a, b] [] pos) (iRng2 ta) (mRng rng2D ms) :=
  ⟨h.k, pi_range2 hg hm h.pa hs hs2, so_rng (r := fun vs H1 R => ∃ i j : Int, vs = [.int i, .int j] ∧ (-(2 ^ 62) ≤ i ∧ i < 2 ^ 62 ∧ -(2 ^ 62) ≤ j ∧ j < 2 ^ 62) ∧ R (Itr i (j - i).toNat) H1) h.so fun vs ds xs Z H I R rv z q => by
    unfold rng2D at z
    split at z
    · split at z
      · rename_i hb
        split at z
        · rename_i hb2
          cases z
          cases rv with
          | cons g1 g2 =>
          cases g2 with
          | cons g2 g3 =>
          cases g3
          cases g1
          cases g2
          obtain ⟨b1, b2⟩ := rng_bound hb
          obtain ⟨b3, b4⟩ := rng_bound hb2
          exact ⟨_, _, rfl, ⟨b1, b2, b3, b4⟩, q _ itr_ok⟩
        · cases z
      · cases z
    · cases z⟩
/-! ### for -/
def loopS (g : GM) (body : SM) : List DV → SM
  | [], s => some (.nx, s)
  | d :: ds, s => match g d s with
    | none => none
    | some s1 => match body s1 with
      | none => none
      | some (.nx, s2) => loopS g body ds s2
      | some (.ct, s2) => loopS g body ds s2
      | some (.bk, s2) => some (.nx, s2)
      | some (.rt v, s2) => some (.rt v, s2)
      | some (.ex c f, s2) => some (.ex c f, s2)
def sFor (it : IM) (g : GM) (body : SM) : SM := liftS it fun ds => loopS g body ds
theorem ExtP.ext' {Z H Z' H' : Hp} {I : List Addr} {M : List O} (w : Wf K Z H I M) (e : ExtP Z H Z' H') : Ext Z H I Z' H' I := e.ext w
theorem ds_for {body : List Stmt} {wi : TI} {g : TG} {tb : TS} {it : IM} {gm : GM} {ix : List Nat} {mb : SM} (hp : PassesOwn (model X.prog X.w) X.A X.env X.xe) (hc : X.calm = true) (hi : DI K X W tg iter wi it) (hg : DG K X tg g gm ix) (hb : DSs K X W body tb mb)
    (hs : ∀ x, foldedSetIterable iter X.env x = pure x := by intro _; rfl) : DS K X W (.For tg iter body [] pos) (tFor wi g tb) (sFor it gm mb) := ⟨hi.k, ps_for hp hc hi.pi hg.pg hb.ps hs, ⟨fun σ H s Z I r D w rs e p => by
  refine hi.so.lift w rs e p fun ds J M1 Z1 H1 I1 w1 rs1 x1 q1 e1 p1 => ?_
  refine ⟨fun i m σ' H' => m = ds.length - i ∧ i ≤ ds.length ∧ ∃ Z' I' s', Wf K Z' H' I' s'.m ∧ RepS K Z' I' σ' s'.l ∧ Ext Z1 H1 I1 Z' H' I' ∧ loopS gm mb (ds.drop i) s' = some r, ⟨ds.length, by simp, Nat.zero_le _, Z1, I1, ⟨s.l, M1⟩, w1, rs1, Ext.refl, e1⟩, ?_⟩
  rintro i m σ' H' ⟨rfl, hi', Z', I', s', w', rs', x', e'⟩
  have Jo := q1 Z' H' I' x'.z x'.i w'.sub i
  by_cases hlt : i < ds.length
  · right
    have hd : ds[i]? = some ds[i] := by simp [hlt]
    obtain ⟨go, yl⟩ := Jo.1 _ hd
    rw [List.drop_eq_getElem_cons hlt] at e'
    refine ⟨go, fun σ2 H2 => ∃ Z2 I2 s2, Wf K Z2 H2 I2 s2.m ∧ RepS K Z2 I2 σ2 s2.l ∧ Ext Z1 H1 I1 Z2 H2 I2 ∧ loopS gm mb (ds.drop (i + 1)) s2 = some r,
      fun σ2 H2 h2 => ⟨ds.length - (i + 1), by omega, rfl, hlt, h2⟩, fun x H2 hx => ?_⟩
    obtain ⟨Z2, x2, rx⟩ := yl x H2 hx
    have w2 := w'.extP x2
    have y2 := x2.ext w'
    have e' : (match gm ds[i] s' with
      | none => none
      | some s1 => match mb s1 with
        | none => none
        | some (.nx, s2) => loopS gm mb (ds.drop (i + 1)) s2
        | some (.ct, s2) => loopS gm mb (ds.drop (i + 1)) s2
        | some (.bk, s2) => some (.nx, s2)
        | some (.rt v, s2) => some (.rt v, s2)
        | some (.ex c f, s2) => some (.ex c f, s2)) = some r := e'
    cases z : gm ds[i] s' with
    | none => rw [z] at e'; cases e'
    | some s1 =>
      rw [z] at e'
      refine hg.ok x ds[i] σ' H2 s' s1 Z2 I' _ w2 (rs'.mono y2) rx z fun σ3 Z3 H3 I3 w3 rs3 x3 _ => ?_
      have xx := (x'.trans y2).trans x3
      cases z2 : mb s1 with
      | none =>
        have e' : (match mb s1 with
          | none => none
          | some (.nx, s2) => loopS gm mb (ds.drop (i + 1)) s2
          | some (.ct, s2) => loopS gm mb (ds.drop (i + 1)) s2
          | some (.bk, s2) => some (.nx, s2)
          | some (.rt v, s2) => some (.rt v, s2)
          | some (.ex c f, s2) => some (.ex c f, s2)) = some r := e'
        rw [z2] at e'; cases e'
      | some fr =>
        have e' : (match mb s1 with
          | none => none
          | some (.nx, s2) => loopS gm mb (ds.drop (i + 1)) s2
          | some (.ct, s2) => loopS gm mb (ds.drop (i + 1)) s2
          | some (.bk, s2) => some (.nx, s2)
          | some (.rt v, s2) => some (.rt v, s2)
          | some (.ex c f, s2) => some (.ex c f, s2)) = some r := e'
        rw [z2] at e'
        obtain ⟨f, s2⟩ := fr
        have p3 := p1.mono xx
        refine hb.so.ok σ3 H3 s1 Z3 I3 _ _ w3 rs3 z2 ?_
        cases f with
        | nx => exact fun σ4 Z4 H4 I4 w4 rs4 x4 => ⟨Z4, I4, s2, w4, rs4, xx.trans x4, e'⟩
        | ct => exact fun σ4 Z4 H4 I4 w4 rs4 x4 => ⟨Z4, I4, s2, w4, rs4, xx.trans x4, e'⟩
        | bk => cases e'; exact p3
        | rt v => cases e'; exact p3
        | ex c fs => cases e'; exact p3
  · left
    have e0 : ds.drop i = [] := List.drop_eq_nil_of_le (by omega)
    rw [e0] at e'
    cases e'
    exact ⟨Jo.2 (by omega), (p1.mono x') σ' Z' H' I' w' rs' Ext.refl⟩⟩⟩
/-! ### while -/
def sWhile : Nat → EM → SM → SM
  | 0, _, _ => fun _ => none
  | n + 1, c, body => liftS c fun d s => match d with
    | .p (.bl true) => match body s with
      | none => none
      | some (.nx, s2) => sWhile n c body s2
      | some (.ct, s2) => sWhile n c body s2
      | some (.bk, s2) => some (.nx, s2)
      | some (.rt v, s2) => some (.rt v, s2)
      | some (.ex c f, s2) => some (.ex c f, s2)
    | .p (.bl false) => some (.nx, s)
    | _ => none
theorem ds_while {body : List Stmt} {tc : TT} {tb : TS} {c : Expr} {mc : EM} {mb : SM} (n : Nat) (hp : PassesOwn (model X.prog X.w) X.A X.env X.xe) (hc : DT K X W c tc mc) (hb : DSs K X W body tb mb) : DS K X W (.While c body [] pos) (tWhile tc tb) (sWhile n mc mb) := ⟨hc.k, ps_while hp hc.pt hb.ps, ⟨fun σ H s Z I r D w rs e p => by
  refine ⟨fun m σ' H' => ∃ Z' I' s', Wf K Z' H' I' s'.m ∧ RepS K Z' I' σ' s'.l ∧ Ext Z H I Z' H' I' ∧ sWhile m mc mb s' = some r, ⟨n, Z, I, s, w, rs, Ext.refl, e⟩, ?_⟩
  rintro m σ' H' ⟨Z', I', s', w', rs', x', e'⟩
  cases m with
  | zero => cases e'
  | succ m =>
    refine hc.so.lift w' rs' e' (p.mono x') fun d v M1 Z1 H1 I1 w1 rs1 x1 q1 e1 p1 => ?_
    cases (show d = .p (.bl v) from q1)
    cases v with
    | false =>
      rw [if_neg Bool.false_ne_true]
      cases e1
      exact p1 σ' Z1 H1 I1 w1 rs1 Ext.refl
    | true =>
      rw [if_pos rfl]
      have e1 : (match mb ⟨s'.l, M1⟩ with
        | none => none
        | some (.nx, s2) => sWhile m mc mb s2
        | some (.ct, s2) => sWhile m mc mb s2
        | some (.bk, s2) => some (.nx, s2)
        | some (.rt v, s2) => some (.rt v, s2)
        | some (.ex c f, s2) => some (.ex c f, s2)) = some r := e1
      refine ⟨fun σ2 H2 => ∃ Z2 I2 s2, Wf K Z2 H2 I2 s2.m ∧ RepS K Z2 I2 σ2 s2.l ∧ Ext Z H I Z2 H2 I2 ∧ sWhile m mc mb s2 = some r, fun σ2 H2 h2 => ⟨m, Nat.lt_succ_self m, h2⟩, ?_⟩
      cases z2 : mb ⟨s'.l, M1⟩ with
      | none => rw [z2] at e1; cases e1
      | some fr =>
        rw [z2] at e1
        obtain ⟨f, s2⟩ := fr
        refine hb.so.ok σ' H1 ⟨s'.l, M1⟩ Z1 I1 _ _ w1 rs1 z2 ?_
        cases f with
        | nx => exact fun σ4 Z4 H4 I4 w4 rs4 x4 => ⟨Z4, I4, s2, w4, rs4, (x'.trans x1).trans x4, e1⟩
        | ct => exact fun σ4 Z4 H4 I4 w4 rs4 x4 => ⟨Z4, I4, s2, w4, rs4, (x'.trans x1).trans x4, e1⟩
        | bk => cases e1; exact p1
        | rt v => cases e1; exact p1
        | ex c fs => cases e1; exact p1⟩⟩
end
end DL
namespace DL
open PySem L2
abbrev WF : WX := fun _ _ _ _ => False
section
variable {K : PySem.W.Frag} {X : Cx} {W : WX} {e a b c tg iter : Expr} {es : List Expr} {pos : Pos}
def wipeL (l : List (Option DV)) : List Nat → List (Option DV)
  | [] => l
  | v :: vs => (wipeL l vs).set v none
theorem RepS.wipe {Z : Hp} {I : List Addr} {σ : St} {l : List (Option DV)} (r : RepS K Z I σ l) : ∀ vs : List Nat, RepS K Z I (L2.wipe σ vs) (wipeL l vs)
  | [] => r
  | v :: vs => by
    have h := RepS.wipe r vs
    refine ⟨by show ((L2.wipe σ vs).set v none).length = ((wipeL l vs).set v none).length; simpa using h.len, fun i dv e => ?_⟩
    have e : ((wipeL l vs).set v none)[i]? = some (some dv) := e
    by_cases q : v = i
    · subst q
      by_cases b : v < (wipeL l vs).length
      · rw [List.getElem?_set_self b] at e; cases e
      · rw [List.getElem?_eq_none (by simpa using b)] at e; cases e
    · rw [List.getElem?_set_ne q] at e
      obtain ⟨u, h1, h2⟩ := h.at_ i dv e
      refine ⟨u, ?_, h2⟩
      show ((L2.wipe σ vs).set v none)[i]? = _
      rw [List.getElem?_set_ne q]; exact h1
theorem wipe_wipe {σ : St} : ∀ vs ws : List Nat, (∀ i ∈ vs, i ∈ ws) → L2.wipe (L2.wipe σ vs) ws = L2.wipe σ ws
  | [], _, _ => rfl
  | v :: vs, ws, h => by
    show L2.wipe ((L2.wipe σ vs).set v none) ws = _
    rw [wipe_set (h v (by simp))]
    exact wipe_wipe vs ws fun i hi => h i (by simp [hi])
/-- the block of a list comprehension: results that are data -/
def compL (l : List (Option DV)) (g : GM) (t e : EM) : List DV → List D → List O → Option (List D × List O)
  | [], acc, M => some (acc, M)
  | d :: ds, acc, M => match g d ⟨l, M⟩ with
    | none => none
    | some s1 => match t s1 with
      | some (.ok (.p (.bl true)) M1) => match e ⟨s1.l, M1⟩ with
        | some (.ok (.p y) M2) => if acc.length < 1000000 then compL l g t e ds (acc ++ [y]) M2 else none
        | _ => none
      | some (.ok (.p (.bl false)) M1) => compL l g t e ds acc M1
      | _ => none
def mLc (it : IM) (vs : List Nat) (g : GM) (t e : EM) : EM := bnd it fun ds s => match compL (wipeL s.l vs) g t e ds [] s.m with
  | some (acc, M) => some (.ok (.p (.lst acc)) M)
  | none => none
def mLcO (it : IM) (vs : List Nat) (g : GM) (t e : EM) : EM := bnd it fun ds s => match compL (wipeL s.l vs) g t e ds [] s.m with
  | some (acc, M) => some (.ok (.o M.length) (M ++ [.lst (acc.map .p)]))
  | none => none
/-- what is known of the new list at D while it is filled -/
structure Fill (K : PySem.W.Frag) (Z1 H1 : Hp) (I1 : List Addr) (D : Addr) (Z H : Hp) (I : List Addr) (M : List O) (acc : List V) (ad : List DL.D) : Prop where
  w : Wf K Z H I M
  x : Ext Z1 H1 I1 Z H I
  at_ : H D = some (.lst acc)
  nz : Z D = none
  ni : D ∉ I
  r : RepA K Z acc ad
theorem Fill.step {Z1 H1 Z H Z' H' : Hp} {I1 I I' : List Addr} {D : Addr} {M M' : List O} {acc : List V} {ad : List DL.D} (f : Fill K Z1 H1 I1 D Z H I M acc ad) (w : Wf K Z' H' I' M') (x : Ext Z H I Z' H' I') : Fill K Z1 H1 I1 D Z' H' I' M' acc ad where
  w := w
  x := f.x.trans x
  at_ := x.fr D _ f.at_ f.ni
  nz := by
    cases q : Z' D with
    | none => rfl
    | some o =>
      rcases x.zn D (by rw [q]; simp) with k | k | k
      · exact absurd f.nz k
      · rw [f.at_] at k; cases k
      · exact absurd k f.ni
  ni := fun m => by
    rcases x.nw D m with k | k
    · exact f.ni k
    · rw [f.at_] at k; cases k
  r := f.r.mono x.z
theorem Fill.put {Z1 H1 Z H : Hp} {I1 I : List Addr} {D : Addr} {M : List O} {acc : List V} {ad : List DL.D} (f : Fill K Z1 H1 I1 D Z H I M acc ad) (h0 : H1 D = none) {v : V} {d : DL.D} (r : Rep K Z v d) : Fill K Z1 H1 I1 D Z (upd H D (.lst (acc ++ [v]))) I M (acc ++ [v]) (ad ++ [d]) where
  w := ⟨fun a u e => by rw [upd_ne (fun q => by rw [q, f.nz] at e; cases e)]; exact f.w.sub a u e, f.w.len, f.w.nd, fun a m => by rw [upd_ne (fun q => f.ni (by rw [← q]; exact m))]; exact f.w.tr a m, fun n a o h1 h2 h3 => by
    obtain ⟨q1, q2⟩ := f.w.ob n a o h1 h2 h3
    exact ⟨q1, q2.mono (Same.refl _) (upd_ne fun q => f.ni (by rw [← q]; exact List.mem_of_getElem? h1))⟩⟩
  x := ⟨f.x.z, f.x.i, fun a o e n => by rw [upd_ne (ne_of_none e h0)]; exact f.x.fr a o e n, f.x.nw, f.x.zn, fun a e => by
    by_cases q : a = D
    · rw [q, upd_same]; simp
    · rw [upd_ne q]; exact f.x.tr a e⟩
  at_ := upd_same
  nz := f.nz
  ni := f.ni
  r := f.r.append (.cons r .nil)
theorem tLc_ok {wi : TI} {g : TG} {tt : TT} {te : TE} {vs : List Nat} {it : IM} {gm : GM} {ix : List Nat} {t em : EM} (hi : Sound K W (ItOk K) wi it)
    (hg : ∀ (v : V) (dv : DV) (σ : St) (H : Hp) (s s' : S) (Z : Hp) (I : List Addr) (Q : St → Hp → Prop), Wf K Z H I s.m → RepS K Z I σ s.l → RepV K Z I v dv → gm dv s = some s' →
      (∀ σ' Z' H' I', Wf K Z' H' I' s'.m → RepS K Z' I' σ' s'.l → Ext Z H I Z' H' I' → (∀ vs, (∀ i ∈ ix, i ∈ vs) → L2.wipe σ' vs = L2.wipe σ vs) → Q σ' H') → g v σ H Q) (hix : ∀ i ∈ ix, i ∈ vs)
    (ht : Sound K WF RepB tt t) (he : Sound K WF (RepV K) te em) {σ : St} {H : Hp} {s : S} {Z : Hp} {I : List Addr} {r : Rs DV} {Q : VK} {k : List D → List O → Rs DV} (w : Wf K Z H I s.m) (rs : RepS K Z I σ s.l)
    (e : bnd it (fun ds s => match compL (wipeL s.l vs) gm t em ds [] s.m with | some (acc, M) => some (k acc M) | none => none) s = some r) (px : ∀ c fs M, r = .ex c fs M → PostX K W Z H I σ M c fs)
    (hk : ∀ Z1 H1 I1 D Z' H' I' M acc ad, r = k ad M → H1 D = none → Ext Z H I Z1 H1 I1 → Fill K Z1 H1 I1 D Z' H' I' M acc ad → Q (.ref D) H') : tLc wi g tt te vs σ H Q := by
  refine hi.bnd w rs e px fun ds J M1 Z1 H1 I1 w1 rs1 x1 q1 e1 => ?_
  have e1 : (match compL (wipeL s.l vs) gm t em ds [] M1 with | some (acc, M) => some (k acc M) | none => none) = some r := e1
  cases zc : compL (wipeL s.l vs) gm t em ds [] M1 with
  | none => rw [zc] at e1; cases e1
  | some am =>
    rw [zc] at e1
    obtain ⟨ad, Mf⟩ := am
    have e1 : some (k ad Mf) = some r := e1
    intro D hD
    have f0 : Fill K Z1 H1 I1 D Z1 (upd H1 D (.lst [])) I1 M1 [] [] := by
      refine ⟨⟨fun a u q => by rw [upd_ne (ne_of_none (w1.sub a u q) hD)]; exact w1.sub a u q, w1.len, w1.nd, fun a m => by rw [upd_ne (fun q => w1.tr a m (by rw [q]; exact hD))]; exact w1.tr a m, fun n a o h1 h2 h3 => ?_⟩, ⟨Same.refl _, ⟨[], by simp⟩, fun a o q _ => by rw [upd_ne (ne_of_none q hD)]; exact q, fun _ m => .inl m, fun _ m => .inl m, fun a q => by rw [upd_ne (fun y => q (by rw [y]; exact hD))]; exact q⟩, upd_same, none_of w1.sub hD, fun m => w1.tr D m hD, .nil⟩
      obtain ⟨q1, q2⟩ := w1.ob n a o h1 h2 h3
      exact ⟨q1, q2.mono (Same.refl _) (upd_ne fun q => w1.tr a (List.mem_of_getElem? h1) (by rw [q]; exact hD))⟩
    refine ⟨fun i m H' => m = ds.length - i ∧ i ≤ ds.length ∧ ∃ Z' I' M acc bd, Fill K Z1 H1 I1 D Z' H' I' M acc bd ∧ compL (wipeL s.l vs) gm t em (ds.drop i) bd M = some (ad, Mf), ⟨ds.length, by simp, Nat.zero_le _, Z1, I1, M1, [], [], f0, zc⟩, ?_⟩
    rintro i m H' ⟨rfl, hil, Z', I', M, acc, bd, f, e'⟩
    have Jo := q1 Z' H' I' f.x.z f.x.i f.w.sub i
    by_cases hlt : i < ds.length
    · right
      have hd : ds[i]? = some ds[i] := by simp [hlt]
      obtain ⟨go, yl⟩ := Jo.1 _ hd
      rw [List.drop_eq_getElem_cons hlt] at e'
      refine ⟨go, fun H2 => ∃ Z2 I2 M2 acc2 bd2, Fill K Z1 H1 I1 D Z2 H2 I2 M2 acc2 bd2 ∧ compL (wipeL s.l vs) gm t em (ds.drop (i + 1)) bd2 M2 = some (ad, Mf),
        fun H2 h2 => ⟨ds.length - (i + 1), by omega, rfl, hlt, h2⟩, fun x H2 hx => ?_⟩
      obtain ⟨Z2, x2, rx⟩ := yl x H2 hx
      have f2 := f.step (f.w.extP x2) (x2.ext f.w)
      have rs2 : RepS K Z2 I' (L2.wipe σ vs) (wipeL s.l vs) := ((rs1.mono f2.x)).wipe vs
      unfold compL at e'
      cases zg : gm ds[i] ⟨wipeL s.l vs, M⟩ with
      | none => rw [zg] at e'; cases e'
      | some s1 =>
        rw [zg] at e'
        refine hg x ds[i] (L2.wipe σ vs) H2 ⟨wipeL s.l vs, M⟩ s1 Z2 I' _ f2.w rs2 rx zg fun σ3 Z3 H3 I3 w3 rs3 x3 k3 => ?_
        have f3 := f2.step w3 x3
        refine ⟨(k3 vs hix).trans (wipe_wipe vs vs fun _ h => h) , ?_⟩
        have e' : (match t s1 with
          | some (.ok (.p (.bl true)) M1) => match em ⟨s1.l, M1⟩ with
            | some (.ok (.p y) M2) => if bd.length < 1000000 then compL (wipeL s.l vs) gm t em (ds.drop (i + 1)) (bd ++ [y]) M2 else none
            | _ => none
          | some (.ok (.p (.bl false)) M1) => compL (wipeL s.l vs) gm t em (ds.drop (i + 1)) bd M1
          | _ => none) = some (ad, Mf) := e'
        cases zt : t s1 with
        | none => rw [zt] at e'; cases e'
        | some rt =>
          rw [zt] at e'
          refine ht.ok σ3 H3 s1 Z3 I3 rt _ w3 rs3 zt ?_
          cases rt with
          | ex c fs M4 => cases e'
          | ok d4 M4 =>
            intro b Z4 H4 I4 w4 x4 r4
            cases (show d4 = .p (.bl b) from r4)
            have f4 := f3.step w4 x4
            cases b with
            | false =>
              rw [if_neg Bool.false_ne_true]
              exact ⟨Z4, I4, M4, acc, bd, f4, e'⟩
            | true =>
              rw [if_pos rfl]
              have e' : (match em ⟨s1.l, M4⟩ with
                | some (.ok (.p y) M2) => if bd.length < 1000000 then compL (wipeL s.l vs) gm t em (ds.drop (i + 1)) (bd ++ [y]) M2 else none
                | _ => none) = some (ad, Mf) := e'
              cases ze : em ⟨s1.l, M4⟩ with
              | none => rw [ze] at e'; cases e'
              | some re =>
                rw [ze] at e'
                refine he.ok σ3 H4 ⟨s1.l, M4⟩ Z4 I4 re _ w4 (rs3.mono x4) ze ?_
                cases re with
                | ex c fs M5 => cases e'
                | ok d5 M5 =>
                  intro y Z5 H5 I5 w5 x5 r5
                  have f5 := f4.step w5 x5
                  cases d5 with
                  | o n => cases e'
                  | p d5 =>
                    have e' : (if bd.length < 1000000 then compL (wipeL s.l vs) gm t em (ds.drop (i + 1)) (bd ++ [d5]) M5 else none) = some (ad, Mf) := e'
                    split at e'
                    · rename_i hlen
                      refine ⟨acc, f5.at_, by rw [f5.r.length]; exact size_lt (Nat.le_of_lt hlen), ?_⟩
                      exact ⟨Z5, I5, M5, _, _, f5.put hD r5, e'⟩
                    · cases e'
    · left
      have e0 : ds.drop i = [] := List.drop_eq_nil_of_le (by omega)
      rw [e0] at e'
      cases e'
      exact ⟨Jo.2 (by omega), hk Z1 H1 I1 D Z' H' I' _ acc _ (Option.some.inj e1).symm hD x1 f⟩
theorem Fill.frz {Z1 H1 Z H : Hp} {I1 I : List Addr} {D : Addr} {M : List O} {acc : List V} {ad : List DL.D} (f : Fill K Z1 H1 I1 D Z H I M acc ad) (h0 : H1 D = none) : Wf K (upd Z D (.lst acc)) H I M ∧ Ext Z1 H1 I1 (upd Z D (.lst acc)) H I := by
  refine ⟨⟨fun a u e => ?_, f.w.len, f.w.nd, f.w.tr, fun n a o h1 h2 h3 => ?_⟩, ⟨f.x.z.trans (same_upd f.nz), f.x.i, f.x.fr, f.x.nw, fun a e => ?_, f.x.tr⟩⟩
  · by_cases q : a = D
    · rw [q, upd_same] at e; rw [q, f.at_]; exact e
    · rw [upd_ne q] at e; exact f.w.sub a u e
  · obtain ⟨q1, q2⟩ := f.w.ob n a o h1 h2 h3
    exact ⟨by rw [upd_ne fun q => f.ni (by rw [← q]; exact List.mem_of_getElem? h1)]; exact q1, q2.mono (same_upd f.nz) rfl⟩
  · by_cases q : a = D
    · rw [q]; exact .inr (.inl h0)
    · rw [upd_ne q] at e; exact f.x.zn a e
theorem Fill.own {Z1 H1 Z H : Hp} {I1 I : List Addr} {D : Addr} {M : List O} {acc : List V} {ad : List DL.D} (f : Fill K Z1 H1 I1 D Z H I M acc ad) (h0 : H1 D = none) : Wf K Z H (I ++ [D]) (M ++ [.lst (ad.map .p)]) ∧ Ext Z1 H1 I1 Z H (I ++ [D]) := by
  have x : Ext Z1 H1 I1 Z H (I ++ [D]) := by
    refine ⟨f.x.z, ?_, f.x.fr, fun a m => ?_, f.x.zn, f.x.tr⟩
    · obtain ⟨t, e⟩ := f.x.i
      exact ⟨t ++ [D], by rw [e, List.append_assoc]⟩
    · rcases List.mem_append.mp m with k | k
      · exact f.x.nw a k
      · rw [List.mem_singleton.mp k]; exact .inr h0
  have x2 : Ext Z H I Z H (I ++ [D]) ∨ True := .inr trivial
  refine ⟨⟨f.w.sub, by rw [List.length_append, List.length_append, f.w.len]; rfl, ?_, fun a m => ?_, fun n a o h1 h2 h3 => ?_⟩, x⟩
  · refine List.nodup_append.mpr ⟨f.w.nd, by simp, fun a ha b hb => ?_⟩
    rw [List.mem_singleton.mp hb]
    intro q
    exact f.ni (by rw [← q]; exact ha)
  · rcases List.mem_append.mp m with k | k
    · exact f.w.tr a k
    · rw [List.mem_singleton.mp k, f.at_]; simp
  · have up : ∀ {v : V} {d : DV}, RepV K Z I v d → RepV K Z (I ++ [D]) v d := fun {v d} h => by
      cases d with
      | p d => exact h
      | o j =>
        obtain ⟨b, hb, q⟩ := h
        exact ⟨b, by rw [List.getElem?_append_left (List.getElem?_eq_some_iff.mp hb).1]; exact hb, q⟩
    by_cases hn : n < I.length
    · rw [List.getElem?_append_left hn] at h1
      rw [List.getElem?_append_left (by rw [← f.w.len]; exact hn)] at h2
      obtain ⟨q1, q2⟩ := f.w.ob n a o h1 h2 h3
      refine ⟨q1, ?_⟩
      cases o with
      | lst _ => obtain ⟨xs, h, r⟩ := q2; exact ⟨xs, h, paired_imp (fun _ _ q => up q) r⟩
      | dK _ => obtain ⟨xs, h, r⟩ := q2; exact ⟨xs, h, paired_imp (fun _ _ q => ⟨q.1, up q.2⟩) r⟩
      | dT _ => obtain ⟨xs, h, r⟩ := q2; exact ⟨xs, h, paired_imp (fun _ _ q => ⟨q.1, up q.2⟩) r⟩
      | ins _ _ => obtain ⟨dx, xs, h, r⟩ := q2; exact ⟨dx, xs, h, paired_imp (fun _ _ q => ⟨q.1, up q.2⟩) r⟩
      | tbl _ _ => exact q2
      | gone => trivial
    · have e1 : n = I.length := by
        have := (List.getElem?_eq_some_iff.mp h1).1
        rw [List.length_append, List.length_singleton] at this
        omega
      subst e1
      rw [List.getElem?_append_right (Nat.le_refl _), Nat.sub_self] at h1
      rw [List.getElem?_append_right (by rw [f.w.len]; exact Nat.le_refl _), f.w.len, Nat.sub_self] at h2
      cases h1
      cases h2
      exact ⟨f.nz, acc, f.at_, allP_map f.r⟩
def tYesM : EM := tru
theorem so_yes : Sound K WF RepB tYes tYesM := ⟨fun σ H s Z I r Q w rs e p => by
  cases e; exact p true Z H I w Ext.refl rfl⟩
structure DPT (K : PySem.W.Frag) (X : Cx) (es : List Expr) (t : TT) (m : EM) : Prop where
  k : X.K = K
  pt : PTs X es t
  so : Sound K WF RepB t m
theorem dpt_nil (k : X.K = K := by rfl) : DPT K X [] tYes tYesM := ⟨k, pts_nil, so_yes⟩
theorem dpt_one {t : TT} {m : EM} (h : DT K X WF c t m) : DPT K X [c] t m := ⟨h.k, pts_one h.pt, h.so⟩
section
variable {elt : Expr} {ifs : List Expr} {scope : Scope} {own : List (Str × Nat)} {wi : TI} {g : TG} {tt : TT} {te : TE} {it : IM} {gm : GM} {ix : List Nat} {t em : EM}
theorem so_lc (hi : Sound K W (ItOk K) wi it) (hg : ∃ X' tg', DG K X' tg' g gm ix) (hix : ∀ i ∈ ix, i ∈ own.map (·.2)) (ht : Sound K WF RepB tt t) (he : Sound K WF (RepV K) te em) : Sound K W (RepV K) (tLc wi g tt te (own.map (·.2))) (mLc it (own.map (·.2)) gm t em) := ⟨fun σ H s Z I r Q w rs e p => by
  obtain ⟨X', tg', hg⟩ := hg
  refine tLc_ok hi hg.ok hix ht he (k := fun acc M => .ok (.p (.lst acc)) M) w rs e p.x fun Z1 H1 I1 D Z' H' I' M acc ad er h0 x1 f => ?_
  subst er
  obtain ⟨w', x'⟩ := f.frz h0
  exact p _ _ H' I' w' (x1.trans x') (.lst (.inl upd_same) (f.r.mono (same_upd f.nz)))⟩
theorem so_lcO (hi : Sound K W (ItOk K) wi it) (hg : ∃ X' tg', DG K X' tg' g gm ix) (hix : ∀ i ∈ ix, i ∈ own.map (·.2)) (ht : Sound K WF RepB tt t) (he : Sound K WF (RepV K) te em) : Sound K W (RepV K) (tLc wi g tt te (own.map (·.2))) (mLcO it (own.map (·.2)) gm t em) := ⟨fun σ H s Z I r Q w rs e p => by
  obtain ⟨X', tg', hg⟩ := hg
  refine tLc_ok hi hg.ok hix ht he (k := fun (acc : List D) M => Rs.ok (DV.o M.length) (M ++ [O.lst (acc.map DV.p)])) w rs e p.x fun Z1 H1 I1 D Z' H' I' M acc ad er h0 x1 f => ?_
  subst er
  obtain ⟨w', x'⟩ := f.own h0
  exact p _ _ H' _ w' (x1.trans x') ⟨D, by rw [← f.w.len, List.getElem?_append_right (Nat.le_refl _), Nat.sub_self]; rfl, rfl⟩⟩
theorem de_lc {vs : List Nat} (hN : X.N.Nodup) (hc : X.calm = true) (hi : DI K X W tg iter wi it) (ok : BlkOk X.N X.env.scope scope own)
    (hg : ∀ (s : Shared) (H : Hp) (C : Addr) (cl : List (Str × Addr)) (fp : List Addr), DG K (X.blk s H scope (compEnvC scope cl C X.env) fp) tg g gm ix) (ht : ∀ (s : Shared) (H : Hp) (C : Addr) (cl : List (Str × Addr)) (fp : List Addr), DPT K (X.blk s H scope (compEnvC scope cl C X.env) fp) ifs tt t)
    (he : ∀ (s : Shared) (H : Hp) (C : Addr) (cl : List (Str × Addr)) (fp : List Addr), DE K (X.blk s H scope (compEnvC scope cl C X.env) fp) WF elt te em) (hix : ∀ i ∈ ix, i ∈ own.map (·.2) := by decide) (hs : ∀ x, foldedSetIterable iter X.env x = pure x := by intro _; rfl) (hv : own.map (·.2) = vs := by rfl) :
    DE K X W (.ListComp elt [⟨tg, iter, ifs, 0⟩] scope pos) (tLc wi g tt te vs) (mLc it vs gm t em) := by
  subst hv
  exact ⟨hi.k, pe_lc hc hN hi.pi ok (fun s H C cl fp => (hg s H C cl fp).pg) (fun s H C cl fp => (ht s H C cl fp).pt) (fun s H C cl fp => (he s H C cl fp).pe) hs,
    so_lc hi.so ⟨_, _, hg {} (fun _ => none) 0 [] []⟩ hix (ht {} (fun _ => none) 0 [] []).so (he {} (fun _ => none) 0 [] []).so⟩
theorem de_lcO {vs : List Nat} (hN : X.N.Nodup) (hc : X.calm = true) (hi : DI K X W tg iter wi it) (ok : BlkOk X.N X.env.scope scope own)
    (hg : ∀ (s : Shared) (H : Hp) (C : Addr) (cl : List (Str × Addr)) (fp : List Addr), DG K (X.blk s H scope (compEnvC scope cl C X.env) fp) tg g gm ix) (ht : ∀ (s : Shared) (H : Hp) (C : Addr) (cl : List (Str × Addr)) (fp : List Addr), DPT K (X.blk s H scope (compEnvC scope cl C X.env) fp) ifs tt t)
    (he : ∀ (s : Shared) (H : Hp) (C : Addr) (cl : List (Str × Addr)) (fp : List Addr), DE K (X.blk s H scope (compEnvC scope cl C X.env) fp) WF elt te em) (hix : ∀ i ∈ ix, i ∈ own.map (·.2) := by decide) (hs : ∀ x, foldedSetIterable iter X.env x = pure x := by intro _; rfl) (hv : own.map (·.2) = vs := by rfl) :
    DE K X W (.ListComp elt [⟨tg, iter, ifs, 0⟩] scope pos) (tLc wi g tt te vs) (mLcO it vs gm t em) := by
  subst hv
  exact ⟨hi.k, pe_lc hc hN hi.pi ok (fun s H C cl fp => (hg s H C cl fp).pg) (fun s H C cl fp => (ht s H C cl fp).pt) (fun s H C cl fp => (he s H C cl fp).pe) hs,
    so_lcO hi.so ⟨_, _, hg {} (fun _ => none) 0 [] []⟩ hix (ht {} (fun _ => none) 0 [] []).so (he {} (fun _ => none) 0 [] []).so⟩
end
end
end DL
namespace DL
open PySem L2
section
variable {K : PySem.W.Frag} {X : Cx} {W : WX} {e a b c tg iter : Expr} {es : List Expr} {pos : Pos}
section
variable {elt : Expr} {ifs : List Expr} {scope : Scope} {own : List (Str × Nat)} {wi : TI} {g : TG} {tt : TT} {te : TE} {it : IM} {gm : GM} {ix : List Nat} {t em : EM}
theorem so_asg {te : TE} {g : TG} {m : EM} {gm : GM} {ix : List Nat} {X' : Cx} {tg' : Expr} (he : Sound K W (RepV K) te m) (hg : DG K X' tg' g gm ix) : SoundS K W (tAsg te g) (sAsg m gm) := ⟨fun σ H s Z I r D w rs e p => by
  refine he.lift w rs e p fun d v M1 Z1 H1 I1 w1 rs1 x1 q1 e1 p1 => ?_
  have e1 : (match gm d ⟨s.l, M1⟩ with | some s1 => some (Fl.nx, s1) | none => none) = some r := e1
  cases z : gm d ⟨s.l, M1⟩ with
  | none => rw [z] at e1; cases e1
  | some s1 =>
    rw [z] at e1; cases e1
    exact hg.ok v d σ H1 ⟨s.l, M1⟩ s1 Z1 I1 _ w1 rs1 q1 z fun σ' Z' H' I' w' rs' x' _ => p1 σ' Z' H' I' w' rs' x'⟩
theorem ds_setLc {i : Nat} {vs : List Nat} {y : Str} {py spos : Pos} (hN : X.N.Nodup) (hc : X.calm = true) (hi : DI K X W tg iter wi it) (ok : BlkOk X.N X.env.scope scope own)
    (hg : ∀ (s : Shared) (H : Hp) (C : Addr) (cl : List (Str × Addr)) (fp : List Addr), DG K (X.blk s H scope (compEnvC scope cl C X.env) fp) tg g gm ix) (ht : ∀ (s : Shared) (H : Hp) (C : Addr) (cl : List (Str × Addr)) (fp : List Addr), DPT K (X.blk s H scope (compEnvC scope cl C X.env) fp) ifs tt t)
    (he : ∀ (s : Shared) (H : Hp) (C : Addr) (cl : List (Str × Addr)) (fp : List Addr), DE K (X.blk s H scope (compEnvC scope cl C X.env) fp) WF elt te em) (hy : X.N[i]? = some y := by rfl) (hyl : X.env.scope.names.lookup y = some .local := by rfl)
    (hsw : swapsWith (.ListComp elt [⟨tg, iter, ifs, 0⟩] scope pos) (some (.Name y py)) spos.line X.env = pure true := by exact sw_true rfl rfl rfl (by decide +kernel)) (hix : ∀ i ∈ ix, i ∈ own.map (·.2) := by decide) (hs : ∀ x, foldedSetIterable iter X.env x = pure x := by intro _; rfl) (hv : own.map (·.2) = vs := by rfl) :
    DS K X W (.Assign [.Name y py] (.ListComp elt [⟨tg, iter, ifs, 0⟩] scope pos) spos) (tAsg (tLc wi g tt te vs) (gName i)) (sAsg (mLc it vs gm t em) (gN i)) := by
  subst hv
  exact ⟨hi.k, ps_setLc hc hN hy hyl hsw hi.pi ok (fun s H C cl fp => (hg s H C cl fp).pg) (fun s H C cl fp => (ht s H C cl fp).pt) (fun s H C cl fp => (he s H C cl fp).pe) hs,
    so_asg (so_lc hi.so ⟨_, _, hg {} (fun _ => none) 0 [] []⟩ hix (ht {} (fun _ => none) 0 [] []).so (he {} (fun _ => none) 0 [] []).so) (dg_name hN hi.k hy (.inl hyl) (.inr hyl) : DG K X (.Name y py) _ _ _)⟩
theorem ds_setLcO {i : Nat} {vs : List Nat} {y : Str} {py spos : Pos} (hN : X.N.Nodup) (hc : X.calm = true) (hi : DI K X W tg iter wi it) (ok : BlkOk X.N X.env.scope scope own)
    (hg : ∀ (s : Shared) (H : Hp) (C : Addr) (cl : List (Str × Addr)) (fp : List Addr), DG K (X.blk s H scope (compEnvC scope cl C X.env) fp) tg g gm ix) (ht : ∀ (s : Shared) (H : Hp) (C : Addr) (cl : List (Str × Addr)) (fp : List Addr), DPT K (X.blk s H scope (compEnvC scope cl C X.env) fp) ifs tt t)
    (he : ∀ (s : Shared) (H : Hp) (C : Addr) (cl : List (Str × Addr)) (fp : List Addr), DE K (X.blk s H scope (compEnvC scope cl C X.env) fp) WF elt te em) (hy : X.N[i]? = some y := by rfl) (hyl : X.env.scope.names.lookup y = some .local := by rfl)
    (hsw : swapsWith (.ListComp elt [⟨tg, iter, ifs, 0⟩] scope pos) (some (.Name y py)) spos.line X.env = pure true := by exact sw_true rfl rfl rfl (by decide +kernel)) (hix : ∀ i ∈ ix, i ∈ own.map (·.2) := by decide) (hs : ∀ x, foldedSetIterable iter X.env x = pure x := by intro _; rfl) (hv : own.map (·.2) = vs := by rfl) :
    DS K X W (.Assign [.Name y py] (.ListComp elt [⟨tg, iter, ifs, 0⟩] scope pos) spos) (tAsg (tLc wi g tt te vs) (gName i)) (sAsg (mLcO it vs gm t em) (gN i)) := by
  subst hv
  exact ⟨hi.k, ps_setLc hc hN hy hyl hsw hi.pi ok (fun s H C cl fp => (hg s H C cl fp).pg) (fun s H C cl fp => (ht s H C cl fp).pt) (fun s H C cl fp => (he s H C cl fp).pe) hs,
    so_asg (so_lcO hi.so ⟨_, _, hg {} (fun _ => none) 0 [] []⟩ hix (ht {} (fun _ => none) 0 [] []).so (he {} (fun _ => none) 0 [] []).so) (dg_name hN hi.k hy (.inl hyl) (.inr hyl) : DG K X (.Name y py) _ _ _)⟩
end
/-! ### o[i] = v at a list of one's own -/
def setL (m : List O) (n : Nat) (i : Int) (d : DV) : Option (List O) := match m[n]? with
  | some (.lst ds) => match ixN ds.length i with
    | some j => some (m.set n (.lst (ds.set j d)))
    | none => none
  | _ => none
def gSetK (d x : DV) (y : D) : EM := fun s => match x, y with
  | .o n, .int j => match setL s.m n j d with
    | some M => some (.ok (.p .non) M)
    | none => none
  | _, _ => none
def gSet (o i : EM) : GM := fun d s => match bnd o (fun x => bnd i (pur (gSetK d x))) s with
  | some (.ok _ M) => some ⟨s.l, M⟩
  | _ => none
theorem dg_set {o i : Expr} {to ti : TE} {mo mi : EM} (ho : DE K X WF o to mo) (hi : DE K X WF i ti mi) (ha : ∀ v, assign (.Subscript o i pos) X.env v = (do
      let ov ← holding [v] (eval o X.env)
      let iv ← holding [v, ov] (eval i X.env)
      standAt pos
      holding [v, ov, iv] (setItem ov iv v)
      release [v, ov, iv] []) := by intro _; rfl) : DG K X (.Subscript o i pos) (gSub to ti rSetL) (gSet mo mi) [] :=
  ⟨ho.k, pg_sub ho.pe hi.pe set_list ha, fun v dv σ H s s' Z I Q w rs rv e q => by
    unfold gSet at e
    cases z : bnd mo (fun x => bnd mi (pur (gSetK dv x))) s with
    | none => rw [z] at e; cases e
    | some r0 =>
      rw [z] at e
      cases r0 with
      | ex c fs M => cases e
      | ok d0 M0 =>
        cases e
        refine ho.so.bnd w rs z (fun c fs M h => by cases h) fun x ov M1 Z1 H1 I1 w1 rs1 x1 q1 e1 => ?_
        refine hi.so.bnd (s := ⟨s.l, M1⟩) w1 rs1 e1 (fun c fs M h => by cases h) fun y iv M2 Z2 H2 I2 w2 rs2 x2 q2 e2 => ?_
        obtain ⟨y, rfl, e2⟩ := pur_ok e2
        cases x with
        | p d => cases e2
        | o n =>
          cases y with
          | int j =>
            have e2 : (match setL M2 n j dv with | some M => some (Rs.ok (DV.p .non) M) | none => none) = some (Rs.ok d0 M0) := e2
            obtain ⟨a, ha', rfl⟩ := q1.mono x2
            cases q2
            cases y : setL M2 n j dv with
            | none => rw [y] at e2; cases e2
            | some M3 =>
              rw [y] at e2
              obtain rfl : M3 = M0 := by cases e2; rfl
              unfold setL at y
              cases y1 : M2[n]? with
              | none => rw [y1] at y; cases y
              | some ob =>
                rw [y1] at y
                cases ob with
                | lst ds =>
                  have y : (match ixN ds.length j with | some j => some (M2.set n (.lst (ds.set j dv))) | none => none) = some M3 := y
                  cases y2 : ixN ds.length j with
                  | none => rw [y2] at y; cases y
                  | some k =>
                    rw [y2] at y; cases y
                    obtain ⟨_, xs, h1, h2⟩ := w2.ob n a _ ha' y1 (by intro z; cases z)
                    have y3 := ext_set (Z := Z2) (H := H2) (ho := .lst (xs.set k v)) (List.mem_of_getElem? ha')
                    have rv2 : RepV K Z2 I2 v dv := RepV.mono (x1.trans x2) rv
                    refine ⟨a, xs, j, k, rfl, rfl, h1, by rw [paired_len h2]; exact y2, ?_⟩
                    exact q σ Z2 _ I2 (w2.setO (o' := .lst (ds.set k dv)) ha' y1 (by intro z; cases z) ⟨_, upd_same, paired_set rv2 k h2⟩) (rs2.mono y3) ((x1.trans x2).trans y3) fun _ _ => rfl
                | _ => cases y
          | _ => cases e2⟩
/-! ### methods of built-in types -/
def tyOk (T : String) (M : List O) : DV → Bool
  | .p (.str _) => T == "str"
  | .p (.lst _) => T == "list"
  | .p (.klst _) => T == "list"
  | .p (.dK _) => T == "dict"
  | .p (.dT _) => T == "dict"
  | .o n => match M[n]? with
    | some (.lst _) => T == "list"
    | some (.dK _) => T == "dict"
    | some (.dT _) => T == "dict"
    | _ => false
  | _ => false
theorem ty_of {T : String} {Z H : Hp} {I : List Addr} {M : List O} {x : V} {d : DV} (w : Wf K Z H I M) (h : RepV K Z I x d) (e : tyOk T M d = true) : tyV K T x H := by
  cases d with
  | o n =>
    obtain ⟨a, ha, rfl⟩ := h
    unfold tyOk at e
    simp only at e
    cases z : M[n]? with
    | none => rw [z] at e; cases e
    | some o =>
      rw [z] at e
      cases o with
      | lst ds =>
        obtain ⟨_, xs, h1, _⟩ := w.ob n a _ ha z (by intro z; cases z)
        exact .inl ⟨by simpa using e, xs, SqL.of h1⟩
      | dK ds =>
        obtain ⟨_, xs, h1, _⟩ := w.ob n a _ ha z (by intro z; cases z)
        exact .inr (.inr (.inl ⟨by simpa using e, .inl ⟨xs, h1⟩⟩))
      | dT ds =>
        obtain ⟨_, xs, h1, _⟩ := w.ob n a _ ha z (by intro z; cases z)
        exact .inr (.inr (.inl ⟨by simpa using e, .inr ⟨xs, h1⟩⟩))
      | _ => cases e
  | p d =>
    have h : Rep K Z x d := h
    cases h with
    | str y => exact (by simpa [tyOk] using e : T = "str")
    | lst h1 h2 => exact .inl ⟨by simpa [tyOk] using e, _, .inl (same_rd w.sub h1)⟩
    | klst h1 h2 => exact .inl ⟨by simpa [tyOk] using e, _, same_l w.sub h1⟩
    | dK h1 h2 => exact .inr (.inr (.inl ⟨by simpa [tyOk] using e, .inl ⟨_, w.sub _ _ h1⟩⟩))
    | dT h1 h2 => exact .inr (.inr (.inl ⟨by simpa [tyOk] using e, .inr ⟨_, w.sub _ _ h1⟩⟩))
    | _ => cases e
abbrev MtG := DV → List DV → EM
structure MthD (K : PySem.W.Frag) (X : Cx) (id : String) (r : V → List V → Hp → VK → Prop) (g : MtG) : Prop where
  op : X.K = K → MtR X id r
  ok : ∀ (W : WX) (σ : St) (x : V) (d : DV) (vs : List V) (ds : List DV) (Z H : Hp) (I : List Addr) (s : S) (r0 : Rs DV) (Q : VK), Wf K Z H I s.m → RepV K Z I x d → RepVs K Z I vs ds → g d ds s = some r0 → PostR K W (RepV K) Z H I σ Q r0 → r x vs H Q
def mMth (T : String) (g : MtG) (o : EM) (ms : AM) : EM := bnd o fun d s => if tyOk T s.m d = true then bnd ms (fun ds => g d ds) s else none
theorem so_mth {T : String} {r : V → List V → Hp → VK → Prop} {g : MtG} {to : TE} {t : TA} {mo : EM} {ms : AM}
    (h : ∀ (W : WX) (σ : St) (x : V) (d : DV) (vs : List V) (ds : List DV) (Z H : Hp) (I : List Addr) (s : S) (r0 : Rs DV) (Q : VK), Wf K Z H I s.m → RepV K Z I x d → RepVs K Z I vs ds → g d ds s = some r0 → PostR K W (RepV K) Z H I σ Q r0 → r x vs H Q)
    (ho : Sound K W (RepV K) to mo) (ha : Sound K W (RepVs K) t ms) : Sound K W (RepV K) (tBM K T r to t) (mMth T g mo ms) := ⟨fun σ H s Z I r0 Q w rs e p => by
  refine ho.bnd w rs e p.x fun d v M1 Z1 H1 I1 w1 rs1 x1 q1 e1 => ?_
  have e1 : (if tyOk T M1 d = true then bnd ms (fun ds => g d ds) ⟨s.l, M1⟩ else none) = some r0 := e1
  split at e1
  · rename_i hty
    have p1 := p.mono x1
    refine ⟨ty_of w1 q1 hty, ha.bnd (s := ⟨s.l, M1⟩) w1 rs1 e1 p1.x fun ds vs M2 Z2 H2 I2 w2 rs2 x2 q2 e2 => ?_⟩
    exact h W σ v d vs ds Z2 H2 I2 ⟨s.l, M2⟩ r0 Q w2 (q1.mono x2) q2 e2 (p1.mono x2)
  · cases e1⟩
theorem de_mth {T id : String} {r : V → List V → Hp → VK → Prop} {g : MtG} {o : Expr} {name : Str} {apos cpos : Pos} {to : TE} {t : TA} {mo : EM} {ms : AM} (h : MthD K X id r g) (ho : DE K X W o to mo) (ha : DA K X W (e :: es) t ms) (pa : PlainAttrs T) (slot : Slot T name id) (hty : typeOf (.builtin id) = pure (.type "method_descriptor"))
    (hs : starEach (e :: es) X.env = (false, eval e X.env) :: starEach es X.env := by rfl) (hpl : (backTo cpos (starEach es X.env)).any (·.1) = false := by rfl)
    (hbase : attributeBase o name X.env (eval o X.env) = eval o X.env := by rfl) (hfew : ((((backTo cpos (starEach (e :: es) X.env)).all fun x => !x.1) && (backToKw cpos (keywordEach [] X.env)).all fun x => x.1.isSome) && decide (((e :: es).length + ([] : List Keyword).length + if ([] : List Keyword).isEmpty = true then 0 else 1) < 30)) = true := by rfl)
    (hline : (apos.endLine == cpos.line) = true := by rfl) : DE K X W (.Call (.Attribute o name apos) (e :: es) [] cpos) (tBM K T r to t) (mMth T g mo ms) := by
  refine ⟨ho.k, ?_, so_mth h.ok ho.so ha.so⟩
  have q := pe_bm (X := X) (cpos := cpos) (apos := apos) pa slot hty (h.op ho.k) ho.pe ha.pa (hbase := hbase) (hfew := hfew) (hline := hline) (hs := hs) (hplain := hpl)
  rw [ho.k] at q
  exact q
/-- data in, data out -/
def gP (g : D → List D → Option D) : MtG := fun d ds s => match d with
  | .p d => match allP ds with
    | some xs => ret (g d xs) s
    | none => none
  | .o _ => none
theorem gP_ok {r : V → List V → Hp → VK → Prop} {g : D → List D → Option D} (h : ∀ (x : V) (d : D) (vs : List V) (ds : List D) (c : D) (Z H : Hp) (Q : VK), Same Z H → Rep K Z x d → RepA K Z vs ds → g d ds = some c → PostP K Z H c Q → r x vs H Q) :
    ∀ (W : WX) (σ : St) (x : V) (d : DV) (vs : List V) (ds : List DV) (Z H : Hp) (I : List Addr) (s : S) (r0 : Rs DV) (Q : VK), Wf K Z H I s.m → RepV K Z I x d → RepVs K Z I vs ds → gP g d ds s = some r0 → PostR K W (RepV K) Z H I σ Q r0 → r x vs H Q := by
  intro W σ x d vs ds Z H I s r0 Q w hx hv e p
  cases d with
  | o n => cases e
  | p d =>
    have e : (match allP ds with | some xs => ret (g d xs) s | none => none) = some r0 := e
    cases q : allP ds with
    | none => rw [q] at e; cases e
    | some xs =>
      rw [q] at e
      obtain ⟨c, hc, rfl⟩ := ret_ok e
      exact h x d vs xs c Z H Q w.sub hx (allP_rep hv q) hc (PostP.of w p)
def gApp : MtG := fun d ds s => match d, ds with
  | .o n, [y] => match s.m[n]? with
    | some (.lst xs) => if xs.length < 1000000 then some (.ok (.p .non) (s.m.set n (.lst (xs ++ [y])))) else none
    | _ => none
  | _, _ => none
theorem md_app : MthD K X "list.append" rAppend gApp := ⟨fun _ => mt_append, fun W σ x d vs ds Z H I s r0 Q w hx hv e p => by
  unfold gApp at e
  split at e
  · rename_i n y
    obtain ⟨a, ha, rfl⟩ := hx
    cases hv with
    | cons h1 h2 =>
    cases h2
    split at e
    · rename_i xs hm
      split at e
      · rename_i hl
        cases e
        obtain ⟨_, ys, g1, g2⟩ := w.ob n a _ ha hm (by intro z; cases z)
        refine ⟨a, ys, _, rfl, rfl, g1, by rw [paired_len g2]; exact size_lt (Nat.le_of_lt hl), ?_⟩
        exact p _ Z _ I (w.setO ha hm (by intro z; cases z) ⟨_, upd_same, paired_app g2 (.cons h1 .nil)⟩) (ext_set (List.mem_of_getElem? ha)) .non
      · cases e
    · cases e
  · cases e⟩
/-! ### defs -/
def slotsOf (n : Nat) (ds : List DV) : List (Option DV) := ds.map some ++ List.replicate (n - ds.length) none
theorem start_rep {Z : Hp} {I : List Addr} {N : List Str} {vs : List V} {ds : List DV} (r : RepVs K Z I vs ds) : RepS K Z I (L2.start N vs) (slotsOf N.length ds) := by
  have hl := paired_len r
  refine ⟨by unfold L2.start slotsOf; simp [hl], fun i dv e => ?_⟩
  unfold slotsOf at e
  unfold L2.start
  by_cases hi : i < ds.length
  · rw [List.getElem?_append_left (by simpa using hi), List.getElem?_map] at e
    cases q : ds[i]? with
    | none => rw [q] at e; cases e
    | some d =>
      rw [q] at e
      cases e
      obtain ⟨v, h1, h2⟩ := paired_get r q
      exact ⟨v, by rw [List.getElem?_append_left (by simpa [hl] using hi), List.getElem?_map, h1]; rfl, h2⟩
  · rw [List.getElem?_append_right (by simpa using hi), List.getElem?_replicate] at e
    split at e <;> cases e
def runA (n : Nat) (m : SM) : MA := fun ds => match m ⟨slotsOf n (ds.map .p), []⟩ with
  | some (.nx, _) => some (.ok .non)
  | some (.rt (.p d), _) => some (.ok d)
  | some (.ex c fs, _) => some (.ex c fs)
  | _ => none
def ltO (k : Nat) : DV → Bool
  | .p _ => true
  | .o n => decide (n < k)
def closed (k : Nat) : O → Bool
  | .lst xs => xs.all (ltO k)
  | .dK xs => xs.all fun p => ltO k p.2
  | .dT xs => xs.all fun p => ltO k p.2
  | .ins _ xs => xs.all fun p => ltO k p.2
  | .tbl _ _ => true
  | .gone => true
def dropM (k : Nat) (d : DV) (M : List O) : List O := if (ltO k d && (M.take k).all (closed k)) = true then M.take k else M
def runB (n : Nat) (m : SM) : List DV → List O → Option (Rs DV) := fun ds M => match m ⟨slotsOf n ds, M⟩ with
  | some (.nx, s) => some (.ok (.p .non) (dropM M.length (.p .non) s.m))
  | some (.rt d, s) => some (.ok d (dropM M.length d s.m))
  | some (.ex c fs, s) => some (.ex c fs (dropM M.length (.p .non) s.m))
  | _ => none
theorem repV_take {Z : Hp} {I t : List Addr} {v : V} {d : DV} (h : RepV K Z (I ++ t) v d) (l : ltO I.length d = true) : RepV K Z I v d := by
  cases d with
  | p d => exact h
  | o n =>
    obtain ⟨a, ha, e⟩ := h
    have l : n < I.length := by simpa [ltO] using l
    exact ⟨a, by rw [List.getElem?_append_left l] at ha; exact ha, e⟩
theorem paired_all {α β : Type} {F G : α → β → Prop} {p : β → Bool} (k : ∀ a b, F a b → p b = true → G a b) : ∀ {xs : List α} {ys : List β}, Paired F xs ys → ys.all p = true → Paired G xs ys
  | _, _, .nil, _ => .nil
  | _, _, .cons h r, e => by
    rw [List.all_cons, Bool.and_eq_true] at e
    exact .cons (k _ _ h e.1) (paired_all k r e.2)
theorem wf_take {Z H : Hp} {I t : List Addr} {M : List O} (w : Wf K Z H (I ++ t) M) (l : (M.take I.length).all (closed I.length) = true) : Wf K Z H I (M.take I.length) where
  sub := w.sub
  len := by
    have := w.len
    rw [List.length_append] at this
    rw [List.length_take]; omega
  nd := (List.nodup_append.mp w.nd).1
  tr := fun a m => w.tr a (List.mem_append_left _ m)
  ob := fun n a o h1 h2 h3 => by
    have hn := (List.getElem?_eq_some_iff.mp h1).1
    have cl : closed I.length o = true := List.all_eq_true.mp l o (List.mem_of_getElem? h2)
    rw [List.getElem?_take_of_lt hn] at h2
    obtain ⟨q1, q2⟩ := w.ob n a o (by rw [List.getElem?_append_left hn]; exact h1) h2 h3
    refine ⟨q1, ?_⟩
    cases o with
    | lst ds => obtain ⟨xs, h, r⟩ := q2; exact ⟨xs, h, paired_all (p := ltO I.length) (fun _ _ q l => repV_take q l) r cl⟩
    | dK _ => obtain ⟨xs, h, r⟩ := q2; exact ⟨xs, h, paired_all (G := FRel K Z I) (p := fun p => ltO I.length p.2) (fun a b q l => (⟨q.1, repV_take q.2 l⟩ : FRel K Z I a b)) r cl⟩
    | dT _ => obtain ⟨xs, h, r⟩ := q2; exact ⟨xs, h, paired_all (G := FRel K Z I) (p := fun p => ltO I.length p.2) (fun a b q l => (⟨q.1, repV_take q.2 l⟩ : FRel K Z I a b)) r cl⟩
    | ins _ _ => obtain ⟨dx, xs, h, r⟩ := q2; exact ⟨dx, xs, h, paired_all (G := FRel K Z I) (p := fun p => ltO I.length p.2) (fun a b q l => (⟨q.1, repV_take q.2 l⟩ : FRel K Z I a b)) r cl⟩
    | tbl _ _ => exact q2
    | gone => trivial
theorem drop_ok {Z H Z' H' : Hp} {I I' : List Addr} {M M' : List O} {v : V} {d : DV} (w0 : Wf K Z H I M) (w : Wf K Z' H' I' M') (x : Ext Z H I Z' H' I') (r : RepV K Z' I' v d) : ∃ I2, Wf K Z' H' I2 (dropM M.length d M') ∧ Ext Z H I Z' H' I2 ∧ RepV K Z' I2 v d ∧ ∀ a ∈ I2, a ∈ I' := by
  unfold dropM
  split
  · rename_i h
    rw [Bool.and_eq_true] at h
    obtain ⟨t, rfl⟩ := x.i
    rw [← w0.len] at h ⊢
    exact ⟨I, wf_take w h.2, ⟨x.z, ⟨[], by simp⟩, x.fr, fun a m => .inl m, x.zn, x.tr⟩, repV_take r h.1, fun a m => List.mem_append_left _ m⟩
  · exact ⟨I', w, x, r, fun _ m => m⟩
section
variable {P : Program} {w : World} {mg : Str → Option Value} {base : Heap} {x qual : Str} {st : Stmt} {f : Addr} {fd : FuncData} {N ps : List Str} {k : Nat}
abbrev WE0 (E : XK) : WX := fun cls d _ H => E cls d H
theorem fnA {m : SM} (F : Fun K x qual st f fd) (Sc : FnScope N ps (defScope st))
    (body : ∀ (cdv : Value) (A : Around) (outer : List Env) (s : Shared) (H : Hp) (E : XK), Room k (A.deeper (PyProof.Rows.envOfC qual (defScope st) s.heap.objs.size f cdv)) →
      ∃ t, DSs K (cxOf (L2.CX P w) P w K mg base N qual (defScope st) f cdv A outer s H E) (WE0 E) (defBody st) t m) : FnOk P w K mg base (L2.CX P w) (k + 1) f fd ps (spA K ps.length (runA N.length m)) := by
  refine F.okX Sc spA_len fun cdv A outer s H vs Q E hr h => ?_
  obtain ⟨hl, Z, ds, r, sub, rp, e, p⟩ := h
  obtain ⟨t, b⟩ := body cdv A outer s H E hr
  refine ⟨t, b.ps, ?_⟩
  have w0 : Wf K Z H [] [] := ⟨sub, rfl, List.nodup_nil, (by simp), fun n a o h => by simp at h⟩
  unfold runA at e
  cases z : m ⟨slotsOf N.length (ds.map .p), []⟩ with
  | none => rw [z] at e; cases e
  | some fs =>
    rw [z] at e
    obtain ⟨fl, s1⟩ := fs
    have xp : ∀ {Z' H' I'}, Wf K Z' H' I' s1.m → Ext Z H [] Z' H' I' → ExtP Z H Z' H' := fun {Z' H' I'} w' x' => ⟨x'.z, fun a o q => x'.fr a o q (by simp), w'.sub, fun a q => by
      rcases x'.zn a q with k | k | k
      · exact .inl k
      · exact .inr k
      · cases k⟩
    refine b.so.ok (L2.start N vs) H _ Z [] _ _ w0 (start_rep (allP_map rp)) z ?_
    cases fl with
    | nx => cases e; exact fun σ' Z' H' I' w' rs' x' => p _ Z' H' (xp w' x') .non
    | rt d =>
      cases d with
      | p d => cases e; exact fun v Z' H' I' w' x' r' => p v Z' H' (xp w' x') r'
      | o n => cases e
    | ex c fs => cases e; exact fun σ' d Z' H' I' w' rs' x' ea na => p d Z' H' (xp w' x') ea fun a q => (na a q).1
    | bk => cases e
    | ct => cases e
theorem fnB {m : SM} (F : Fun K x qual st f fd) (Sc : FnScope N ps (defScope st))
    (body : ∀ (cdv : Value) (A : Around) (outer : List Env) (s : Shared) (H : Hp) (E : XK), Room k (A.deeper (PyProof.Rows.envOfC qual (defScope st) s.heap.objs.size f cdv)) →
      ∃ t, DSs K (cxOf (L2.CX P w) P w K mg base N qual (defScope st) f cdv A outer s H E) (WE0 E) (defBody st) t m) : FnOk P w K mg base (L2.CX P w) (k + 1) f fd ps (spB K ps.length (runB N.length m)) := by
  refine F.okX Sc spB_len fun cdv A outer s H vs Q E hr h => ?_
  obtain ⟨hl, Z, I, M, ds, r, w0, rp, e, p⟩ := h
  obtain ⟨t, b⟩ := body cdv A outer s H E hr
  refine ⟨t, b.ps, ?_⟩
  unfold runB at e
  cases z : m ⟨slotsOf N.length ds, M⟩ with
  | none => rw [z] at e; cases e
  | some fs =>
    rw [z] at e
    obtain ⟨fl, s1⟩ := fs
    refine b.so.ok (L2.start N vs) H ⟨slotsOf N.length ds, M⟩ Z I _ _ w0 (start_rep rp) z ?_
    cases fl with
    | nx =>
      cases e
      intro σ' Z' H' I' w' rs' x'
      obtain ⟨I2, w2, x2, r2, _⟩ := drop_ok (d := .p .non) (v := .non) w0 w' x' (show Rep K Z' .non .non from .non)
      exact p _ Z' H' I2 w2 x2 r2
    | rt d =>
      cases e
      intro v Z' H' I' w' x' r'
      obtain ⟨I2, w2, x2, r2, _⟩ := drop_ok w0 w' x' r'
      exact p v Z' H' I2 w2 x2 r2
    | ex c fs =>
      cases e
      intro σ' d Z' H' I' w' rs' x' ea na
      obtain ⟨I2, w2, x2, _, h2⟩ := drop_ok (d := .p .non) (v := .non) w0 w' x' (show Rep K Z' .non .non from .non)
      exact p d Z' H' I2 w2 x2 ea fun a q => ⟨(na a q).1, fun m => (na a q).2 (h2 a m)⟩
    | bk => cases e
    | ct => cases e
end
end
end DL
namespace DL
open PySem L2
/-! ### equality of data -/
mutual
def toP : D → PyData
  | .non => .none
  | .bl b => .bool b
  | .int i => .int i
  | .str s => .str s
  | .lst xs => .list (toPs xs)
  | .klst xs => .list (toPs xs)
  | .tup xs => .tuple (toPs xs)
  | .ktup xs => .tuple (toPs xs)
  | .dK _ => .dict []
  | .dT _ => .dict []
  | .fn _ => .dict []
  | .scr _ => .dict []
  | .ty _ => .dict []
  | .rng _ _ => .dict []
def toPs : List D → List PyData
  | [] => []
  | d :: r => toP d :: toPs r
end
mutual
/-- the same, as == tells -/
def deq : D → D → Bool
  | .non, .non => true
  | .bl a, .bl b => a == b
  | .bl a, .int j => (if a then 1 else 0) == j
  | .int i, .bl b => i == (if b then 1 else 0)
  | .int i, .int j => i == j
  | .str x, .str y => x == y
  | .lst xs, .lst ys => deqs xs ys
  | .lst xs, .klst ys => deqs xs ys
  | .klst xs, .lst ys => deqs xs ys
  | .klst xs, .klst ys => deqs xs ys
  | .tup xs, .tup ys => deqs xs ys
  | .tup xs, .ktup ys => deqs xs ys
  | .ktup xs, .tup ys => deqs xs ys
  | .ktup xs, .ktup ys => deqs xs ys
  | _, _ => false
def deqs : List D → List D → Bool
  | [], [] => true
  | x :: xs, y :: ys => deq x y && deqs xs ys
  | _, _ => false
end
mutual
theorem deq_eqv : ∀ a b : D, PyData.eqv (toP a) (toP b) = deq a b
  | .lst xs, b => by
    cases b with
    | lst ys => exact deqs_eqv xs ys
    | klst ys => exact deqs_eqv xs ys
    | _ => rfl
  | .klst xs, b => by
    cases b with
    | lst ys => exact deqs_eqv xs ys
    | klst ys => exact deqs_eqv xs ys
    | _ => rfl
  | .tup xs, b => by
    cases b with
    | tup ys => exact deqs_eqv xs ys
    | ktup ys => exact deqs_eqv xs ys
    | _ => rfl
  | .ktup xs, b => by
    cases b with
    | tup ys => exact deqs_eqv xs ys
    | ktup ys => exact deqs_eqv xs ys
    | _ => rfl
  | .non, b => by cases b <;> rfl
  | .bl _, b => by cases b <;> rfl
  | .int _, b => by cases b <;> rfl
  | .str _, b => by cases b <;> rfl
  | .dK _, b => by cases b <;> rfl
  | .dT _, b => by cases b <;> rfl
  | .fn _, b => by cases b <;> rfl
  | .scr _, b => by cases b <;> rfl
  | .ty _, b => by cases b <;> rfl
  | .rng _ _, b => by cases b <;> rfl
theorem deqs_eqv : ∀ a b : List D, PyData.eqvAll (toPs a) (toPs b) = deqs a b
  | [], [] => rfl
  | x :: xs, y :: ys => by
    show (PyData.eqv (toP x) (toP y) && PyData.eqvAll (toPs xs) (toPs ys)) = (deq x y && deqs xs ys)
    rw [deq_eqv x y, deqs_eqv xs ys]
  | [], _ :: _ => rfl
  | _ :: _, [] => rfl
end
section
variable {K : PySem.W.Frag} {Z H : Hp}
mutual
theorem Rep.dp (s : Same Z H) : ∀ {v : V} {d : D}, Rep K Z v d → PyData.canLay0 (toP d) = true → Dp K H v (toP d)
  | _, _, .non, _ => .non
  | _, _, .bl b, _ => .bl b
  | _, _, .int i, _ => .int i
  | _, _, .str x, _ => .str x
  | _, _, .lst h r, e => .lst (.inl (same_rd s h)) (RepA.dp s r e)
  | _, _, .tup h r, e => .tup (sqt s h) (RepA.dp s r e)
  | _, _, .ktup h r, e => .tup (same_t s h) (RepA.dp s r e)
  | _, _, .klst h r, e => .lst (same_l s h) (RepA.dp s r e)
  | _, _, .dK _ _, e => by cases e
  | _, _, .dT _ _, e => by cases e
  | _, _, .fn _, e => by cases e
  | _, _, .scr _ _, e => by cases e
  | _, _, .ty _, e => by cases e
  | _, _, .rng _, e => by cases e
theorem RepA.dp (s : Same Z H) : ∀ {v : List V} {d : List D}, RepA K Z v d → PyData.canLayAll0 (toPs d) = true → DpAll K H v (toPs d)
  | _, _, .nil, _ => .nil
  | _, _, .cons h r, e => by
    have e : (PyData.canLay0 (toP _) && PyData.canLayAll0 (toPs _)) = true := e
    rw [Bool.and_eq_true] at e
    exact .cons (Rep.dp s h e.1) (RepA.dp s r e.2)
end
end
mutual
def okD : D → Bool
  | .non => true
  | .bl _ => true
  | .int _ => true
  | .str x => PyData.strOk x
  | .lst xs => okDs xs
  | .tup xs => okDs xs
  | .ktup xs => okDs xs
  | .klst xs => okDs xs
  | _ => false
def okDs : List D → Bool
  | [] => true
  | x :: xs => okD x && okDs xs
end
mutual
def depD : D → Nat
  | .lst xs => depDs xs + 1
  | .tup xs => depDs xs + 1
  | .ktup xs => depDs xs + 1
  | .klst xs => depDs xs + 1
  | _ => 0
def depDs : List D → Nat
  | [] => 0
  | x :: xs => max (depD x) (depDs xs)
end
mutual
theorem okD_can : ∀ d : D, okD d = true → PyData.canLay0 (toP d) = true
  | .non, _ => rfl
  | .bl _, _ => rfl
  | .int _, _ => rfl
  | .str x, h => h
  | .lst xs, h => okDs_can xs h
  | .tup xs, h => okDs_can xs h
  | .ktup xs, h => okDs_can xs h
  | .klst xs, h => okDs_can xs h
  | .dK _, h => by cases h
  | .dT _, h => by cases h
  | .fn _, h => by cases h
  | .scr _, h => by cases h
  | .ty _, h => by cases h
  | .rng _ _, h => by cases h
theorem okDs_can : ∀ d : List D, okDs d = true → PyData.canLayAll0 (toPs d) = true
  | [], _ => rfl
  | x :: xs, h => by
    have h : (okD x && okDs xs) = true := h
    rw [Bool.and_eq_true] at h
    show (PyData.canLay0 (toP x) && PyData.canLayAll0 (toPs xs)) = true
    rw [okD_can x h.1, okDs_can xs h.2]; rfl
end
mutual
theorem depD_dep : ∀ d : D, okD d = true → PyData.depth (toP d) = depD d
  | .non, _ => rfl
  | .bl _, _ => rfl
  | .int _, _ => rfl
  | .str x, _ => rfl
  | .lst xs, h => by show PyData.depthAll (toPs xs) + 1 = depDs xs + 1; rw [depDs_dep xs h]
  | .tup xs, h => by show PyData.depthAll (toPs xs) + 1 = depDs xs + 1; rw [depDs_dep xs h]
  | .ktup xs, h => by show PyData.depthAll (toPs xs) + 1 = depDs xs + 1; rw [depDs_dep xs h]
  | .klst xs, h => by show PyData.depthAll (toPs xs) + 1 = depDs xs + 1; rw [depDs_dep xs h]
  | .dK _, h => by cases h
  | .dT _, h => by cases h
  | .fn _, h => by cases h
  | .scr _, h => by cases h
  | .ty _, h => by cases h
  | .rng _ _, h => by cases h
theorem depDs_dep : ∀ d : List D, okDs d = true → PyData.depthAll (toPs d) = depDs d
  | [], _ => rfl
  | x :: xs, h => by
    have h : (okD x && okDs xs) = true := h
    rw [Bool.and_eq_true] at h
    show max (PyData.depth (toP x)) (PyData.depthAll (toPs xs)) = max (depD x) (depDs xs)
    rw [depD_dep x h.1, depDs_dep xs h.2]
end
def shp (d : D) : Bool := okD d && decide (depD d ≤ 64)
theorem shp_ok {d : D} (h : shp d = true) : SeqAt.shaped (toP d) = true := by
  unfold shp at h
  rw [Bool.and_eq_true] at h
  unfold SeqAt.shaped
  rw [okD_can d h.1, depD_dep d h.1, h.2]; rfl
/-- scalars are told apart at once; the rest has to be shaped -/
def scalD : D → D → Option Bool
  | .non, .non => some true
  | .non, .int _ => some false
  | .int _, .non => some false
  | .non, .bl _ => some false
  | .bl _, .non => some false
  | .non, .str _ => some false
  | .str _, .non => some false
  | .int i, .int j => some (i == j)
  | .bl i, .bl j => some (i == j)
  | .str x, .str y => some (x == y)
  | .int _, .str _ => some false
  | .str _, .int _ => some false
  | .bl _, .str _ => some false
  | .str _, .bl _ => some false
  | _, _ => none
def eqD (d e : D) : Option Bool := match scalD d e with
  | some b => some b
  | none => if (shp d && shp e) = true then some (deq d e) else none
def dEq (d e : D) : Option D := (eqD d e).map .bl
def dNe (d e : D) : Option D := (eqD d e).map fun b => .bl !b
theorem boolMap {α : Type} {o : Option α} {f : α → Bool} {c : D} (h : (o.map fun a => D.bl (f a)) = some c) : ∃ b, c = .bl b := by
  cases o with
  | none => cases h
  | some a => cases h; exact ⟨_, rfl⟩
theorem bool_dEq : boolD dEq := fun d e c h => boolMap (f := id) h
theorem bool_dNe : boolD dNe := fun d e c h => boolMap h
section
variable {K : PySem.W.Frag} {X : Cx}
theorem scal_ok {Z : Hp} {x y : V} {d e : D} {b : Bool} (hx : Rep K Z x d) (hy : Rep K Z y e) (h : scalD d e = some b) : scal x y = true ∧ decide (x = y) = b := by
  cases hx with
  | non => cases hy <;> cases h <;> exact ⟨rfl, rfl⟩
  | int i => cases hy with
    | int j => cases h; refine ⟨rfl, ?_⟩; by_cases q : i = j <;> simp [q]
    | non => cases h; exact ⟨rfl, rfl⟩
    | str _ => cases h; exact ⟨rfl, rfl⟩
    | _ => cases h
  | bl i => cases hy with
    | bl j => cases h; refine ⟨rfl, ?_⟩; by_cases q : i = j <;> simp [q]
    | non => cases h; exact ⟨rfl, rfl⟩
    | str _ => cases h; exact ⟨rfl, rfl⟩
    | _ => cases h
  | str i => cases hy with
    | str j => cases h; refine ⟨rfl, ?_⟩; by_cases q : i = j <;> simp [q]
    | non => cases h; exact ⟨rfl, rfl⟩
    | int _ => cases h; exact ⟨rfl, rfl⟩
    | bl _ => cases h; exact ⟨rfl, rfl⟩
    | _ => cases h
  | _ => cases hy <;> cases h
def rEqX (K : PySem.W.Frag) : R2 := fun x y H Q => rEq x y H Q ∨ rEqD K x y H Q
def rNeX (K : PySem.W.Frag) : R2 := fun x y H Q => rNe x y H Q ∨ rNeD K x y H Q
theorem shaped_can {d : D} (h : shp d = true) : PyData.canLay0 (toP d) = true := SeqAt.canLay_of_shaped (shp_ok h)
theorem od_eq (hu : X.A.units + 64 < cLine) : OpD K X (compareOp .Eq) (rEqX K) dEq where
  op := fun k pins s σ H x y v u Q I rx ry h => by
    subst k
    rcases h with h | h
    · exact op_eq pins s σ H x y v u Q I rx ry h
    · exact op_eqD hu pins s σ H x y v u Q I rx ry h
  ok := by
    intro x y d e c Z H Q s hx hy hg p
    unfold dEq eqD at hg
    cases z : scalD d e with
    | some b =>
      rw [z] at hg; cases hg
      obtain ⟨h1, h2⟩ := scal_ok hx hy z
      exact .inl ⟨h1, by rw [h2]; exact p _ Z H (ExtP.refl s) (.bl _)⟩
    | none =>
      rw [z] at hg
      have hg : (if (shp d && shp e) = true then some (deq d e) else none).map D.bl = some c := hg
      split at hg
      · rename_i hs
        cases hg
        rw [Bool.and_eq_true] at hs
        exact .inr ⟨_, _, hx.dp s (shaped_can hs.1), hy.dp s (shaped_can hs.2), shp_ok hs.1, shp_ok hs.2, by rw [deq_eqv]; exact p _ Z H (ExtP.refl s) (.bl _)⟩
      · cases hg
theorem od_ne (hu : X.A.units + 64 < cLine) : OpD K X (compareOp .NotEq) (rNeX K) dNe where
  op := fun k pins s σ H x y v u Q I rx ry h => by
    subst k
    rcases h with h | h
    · exact op_ne pins s σ H x y v u Q I rx ry h
    · exact op_neD hu pins s σ H x y v u Q I rx ry h
  ok := by
    intro x y d e c Z H Q s hx hy hg p
    unfold dNe eqD at hg
    cases z : scalD d e with
    | some b =>
      rw [z] at hg; cases hg
      obtain ⟨h1, h2⟩ := scal_ok hx hy z
      exact .inl ⟨h1, by rw [h2]; exact p _ Z H (ExtP.refl s) (.bl _)⟩
    | none =>
      rw [z] at hg
      have hg : (if (shp d && shp e) = true then some (deq d e) else none).map (fun b => D.bl !b) = some c := hg
      split at hg
      · rename_i hs
        cases hg
        rw [Bool.and_eq_true] at hs
        exact .inr ⟨_, _, hx.dp s (shaped_can hs.1), hy.dp s (shaped_can hs.2), shp_ok hs.1, shp_ok hs.2, by rw [deq_eqv]; exact p _ Z H (ExtP.refl s) (.bl _)⟩
      · cases hg
end
/-! ### slices -/
section
variable {K : PySem.W.Frag} {X : Cx} {W : WX} {e a b c : Expr} {es : List Expr} {pos : Pos}
def RepOI (_ : Hp) (_ : List Addr) (x y : Option Int) : Prop := x = y
abbrev PM := Mi (Option Int)
structure DP (K : PySem.W.Frag) (X : Cx) (W : WX) (e : Option Expr) (t : TO) (m : PM) : Prop where
  k : X.K = K
  po : PO X e t
  so : Sound K W RepOI t m
def pNone : PM := fun s => some (.ok none s.m)
def pSome (m : EM) : PM := bnd m (pur fun d s => match d with
  | .int i => some (.ok (some i) s.m)
  | _ => none)
theorem dp_none (k : X.K = K := by rfl) : DP K X W none tNoPart pNone := ⟨k, po_none, ⟨fun σ H s Z I r Q w rs e p => by
  cases e; exact p none Z H I w Ext.refl rfl⟩⟩
theorem dp_some {te : TE} {m : EM} (h : DE K X W e te m) : DP K X W (some e) (tPart te) (pSome m) := ⟨h.k, po_some h.pe, ⟨fun σ H s Z I r Q w rs e p => by
  refine h.so.bnd w rs e p.x fun d v M1 Z1 H1 I1 w1 rs1 x1 q1 e1 => ?_
  obtain ⟨d, rfl, e1⟩ := pur_ok e1
  cases d with
  | int i => cases q1; cases e1; exact ⟨i, rfl, p _ Z1 H1 I1 w1 x1 rfl⟩
  | _ => cases e1⟩⟩
def cutD {α : Type} (xs : List α) (lo hi : Option Int) : List α := (xs.drop (HT.sIx xs.length 0 lo)).take (HT.sIx xs.length xs.length hi - HT.sIx xs.length 0 lo)
def slD : D → Option Int → Option Int → Option D
  | .str z, l, u => if z.length ≤ 1000000 then some (.str (cutS z l u)) else none
  | .lst xs, l, u => some (.lst (cutD xs l u))
  | .scr xs, l, u => some (.lst (cutD xs l u))
  | .tup xs, l, u => if HT.sIx xs.length 0 l = 0 ∧ HT.sIx xs.length xs.length u = xs.length then some (.tup xs) else some (.tup (cutD xs l u))
  | _, _, _ => none
def mSl (m : EM) (l u : PM) : EM := bnd m (pur fun d => bnd l fun i => bnd u fun j => ret (slD d i j))
def rSl (K : PySem.W.Frag) : V → Option Int → Option Int → Hp → VK → Prop := fun x lo hi H Q => rSlS x lo hi H Q ∨ rSlL K x lo hi H Q ∨ (∃ a xs, x = .ref a ∧ SqT K H a xs ∧ ¬ (HT.sIx xs.length 0 lo = 0 ∧ HT.sIx xs.length xs.length hi = xs.length) ∧ ∀ p, H p = none → Q (.ref p) (upd H p (.tup (cutV xs lo hi))))
theorem RepA.cut {Z : Hp} {xs : List V} {ds : List D} (r : RepA K Z xs ds) (lo hi : Option Int) : RepA K Z (cutV xs lo hi) (cutD ds lo hi) := by
  unfold cutV cutD
  rw [r.length]
  exact (r.drop _).take _
theorem sl_any : SlR X (rSl X.K) := fun pins s σ H x v vl vu lo hi sl Q I rx hs pl pu h => by
  rcases h with h | h | h
  · exact sl_str pins s σ H x v vl vu lo hi sl Q I rx hs pl pu h
  · exact sl_list pins s σ H x v vl vu lo hi sl Q I rx hs pl pu h
  · exact sl_tup pins s σ H x v vl vu lo hi sl Q I rx hs pl pu h
theorem sl_ok {x : V} {d c : D} {lo hi : Option Int} {Z H : Hp} {Q : VK} (s : Same Z H) (hx : Rep K Z x d) (hg : slD d lo hi = some c) (p : PostP K Z H c Q) (nt : ∀ xs, d ≠ .tup xs) : rSl K x lo hi H Q := by
  cases hx with
  | str z =>
    have hg : (if z.length ≤ 1000000 then some (D.str (cutS z lo hi)) else none) = some c := hg
    split at hg
    · rename_i hl
      cases hg
      exact .inl ⟨z, rfl, size_le hl, p _ Z H (ExtP.refl s) (.str _)⟩
    · cases hg
  | lst h1 h2 =>
    cases hg
    exact .inr (.inl ⟨_, _, rfl, .inl (same_rd s h1), fun l hl => p _ _ _ (ExtP.new s hl) (.lst (.inl upd_same) ((h2.cut lo hi).mono (same_upd (none_of s hl))))⟩)
  | scr h1 h2 =>
    cases hg
    exact .inr (.inl ⟨_, _, rfl, same_l s h1, fun l hl => p _ _ _ (ExtP.new s hl) (.lst (.inl upd_same) ((h2.cut lo hi).mono (same_upd (none_of s hl))))⟩)
  | tup h1 h2 => exact absurd rfl (nt _)
  | _ => cases hg
/-- (tuples are not cut here) -/
def slE (d : D) (l u : Option Int) : Option D := match d with
  | .tup _ => none
  | d => slD d l u
theorem de_sl {te : TE} {tl th : TO} {m : EM} {ml mu : PM} {lo hi : Option Expr} {p2 : Pos} (h : DE K X W e te m) (hl : DP K X W lo tl ml) (hh : DP K X W hi th mu) : DE K X W (.Subscript e (.Slice lo hi none p2) pos) (tSl (rSl K) te tl th) (bnd m (pur fun d => bnd ml fun i => bnd mu fun j => ret (slE d i j))) := by
  refine ⟨h.k, ?_, ⟨fun σ H s Z I r0 Q w rs e p => ?_⟩⟩
  · have q := pe_slice (X := X) (pos := pos) (p2 := p2) sl_any h.pe hl.po hh.po
    rw [h.k] at q
    exact q
  · refine h.so.bnd w rs e p.x fun d v M1 Z1 H1 I1 w1 rs1 x1 q1 e1 => ?_
    obtain ⟨d, rfl, e1⟩ := pur_ok e1
    have p1 := p.mono x1
    refine hl.so.bnd (s := ⟨s.l, M1⟩) w1 rs1 e1 p1.x fun i i' M2 Z2 H2 I2 w2 rs2 x2 q2 e2 => ?_
    cases (show i' = i from q2)
    have p2 := p1.mono x2
    refine hh.so.bnd (s := ⟨s.l, M2⟩) w2 rs2 e2 p2.x fun j j' M3 Z3 H3 I3 w3 rs3 x3 q3 e3 => ?_
    cases (show j' = j from q3)
    obtain ⟨c, hc, rfl⟩ := ret_ok e3
    have hx : Rep K Z3 v d := Rep.mono x3.z (Rep.mono x2.z q1)
    unfold slE at hc
    split at hc
    · cases hc
    · rename_i hn
      exact sl_ok w3.sub hx hc (PostP.of w3 (p2.mono x3)) fun xs h => hn xs h
end
end DL
namespace DL
open PySem L2
section
variable {K : PySem.W.Frag} {X : Cx} {W : WX} {e a b c : Expr} {es : List Expr} {pos : Pos}
/-! ### isinstance -/
def tyName : D → Option String
  | .non => some "NoneType"
  | .bl _ => some "bool"
  | .int _ => some "int"
  | .str _ => some "str"
  | .lst _ => some "list"
  | .tup _ => some "tuple"
  | .ktup _ => some "tuple"
  | _ => none
theorem tyX_of {Z H : Hp} {x : V} {d : D} {n : String} (s : Same Z H) (h : Rep K Z x d) (e : tyName d = some n) : TyX K H x (.type n) := by
  cases h with
  | non => cases e; exact .base .non
  | bl b => cases e; exact .base (.bl b)
  | int b => cases e; exact .base (.int b)
  | str b => cases e; exact .base (.str b)
  | lst h1 h2 =>
    cases e
    rcases h1 with h1 | ⟨o, h1⟩
    · exact .base (.lst (s _ _ h1))
    · exact .base (.frz (s _ _ h1))
  | tup h1 h2 => cases e; exact .base (.tup (s _ _ h1))
  | ktup h1 h2 =>
    cases e
    rcases h1 with (h1 | ⟨o, h1⟩) | ⟨o, its, n, h1, h2, _⟩
    · exact .base (.tup (s _ _ h1))
    · exact .fTuple (s _ _ h1)
    · exact .kTuple h1 h2
  | _ => cases e
def dIsi : List O → List DV → Option D
  | _, [.p d, .p (.ty n)] => match tyName d with
    | some t => (kitB t n).map .bl
    | none => none
  | _, _ => none
theorem cd_isi : CallD K X (.builtin "isinstance") (rIsi K) dIsi := ⟨fun k => by rw [← k]; exact call_isi, fun vs ds c Z H I M Q w rv hg p => by
  unfold dIsi at hg
  split at hg
  · rename_i d n
    cases rv with
    | cons h1 h2 =>
    cases h2 with
    | cons h2 h3 =>
    cases h3
    split at hg
    · rename_i t ht
      cases z : kitB t n with
      | none => rw [z] at hg; cases hg
      | some r =>
        rw [z] at hg; cases hg
        cases h2
        exact ⟨_, _, .type t, .type n, r, rfl, .ty n, tyX_of w.sub h1 ht, kit_ty z, p _ Z H (ExtP.refl w.sub) (.bl _)⟩
    · cases hg
  · cases hg⟩
theorem de_bty {x : Str} {n : String} (hm : X.mg x = none) (hv : bootBuiltins x = some (.type n)) (k : X.K = K := by rfl) (hg : Gl X x := by rfl) (hn : x ≠ "__name__" := by decide) (hd : (x == ("__debug__" : Str)) = false := by decide) : DE K X W (.Name x pos) (tC (.ty n)) (mC (.ty n)) :=
  ⟨k, pe_bltn (v := .ty n) hg hm hv rfl hn hd, so_c fun _ => .ty n⟩
end
end DL
namespace DL
open PySem L2
abbrev dSub : D → D → Option D := dIi fun i j => i - j
abbrev dMul : D → D → Option D := dI fun i j => if mulOk i j = true then some (.int (i * j)) else none
abbrev dDiv : D → D → Option D := dI fun i j => if 0 < j ∧ j < 18446744073709551616 then some (.int (i / j)) else none
abbrev dMod : D → D → Option D := dI fun i j => if 0 < j then some (.int (i % j)) else none
abbrev dLt : D → D → Option D := dIb fun i j => decide (i < j)
abbrev dLe : D → D → Option D := dIb fun i j => decide (i ≤ j)
abbrev dGt : D → D → Option D := dIb fun i j => decide (j < i)
abbrev dGe : D → D → Option D := dIb fun i j => decide (j ≤ i)
def dNeg : D → Option D
  | .int i => some (.int (-i))
  | _ => none
theorem de_usub {K : PySem.W.Frag} {X : Cx} {W : WX} {a : Expr} {pos : Pos} {ta : TE} {m : EM} (ha : DE K X W a ta m) : DE K X W (.UnaryOp .USub a pos) (tUn (rU fun i => .int (-i)) ta) (mUn dNeg m) :=
  ⟨ha.k, pe_un un_neg ha.pe, so_un (fun x d c Z H Q s hx hg p => by
    unfold dNeg at hg
    split at hg
    · cases hx; cases hg; exact ⟨_, rfl, p _ Z H (ExtP.refl s) (.int _)⟩
    · cases hg) ha.so⟩
/-- a def of the top -/
structure Df (K : PySem.W.Frag) (mg : Str → Option Value) (nm : Str) (st : Stmt) (ps : List Str) where
  a : Addr
  fd : FuncData
  F : Fun K nm nm st a fd
  m : mg nm = some (.ref a)
  b : Binds K fd ps []
theorem intsRep {K : PySem.W.Frag} {Z : Hp} : ∀ ns : List Int, RepA K Z (ns.map V.int) (ns.map D.int)
  | [] => .nil
  | n :: r => .cons (.int n) (intsRep r)
theorem walk_dl {l : PySem.W.OpenLaw} {k : Nat} {q : Program} {loose : List Str} {XP : (Str → Option Value) → Heap → Prop} {YP : World → Heap → Prop} {d : DefRec} {K : Params → PySem.W.Frag} {f : MA} (hn : l.most = some 63) (hdf : d.params.defaults = []) (hr : Room k callerA)
    (hY : ∀ (w : World) (h : Heap), YP w h → (K w.params).In h)
    (F : ∀ (w : World) (mg : Str → Option Value) (fa : Addr) (h : Heap), (K w.params).In h → h.Ns mainGlobals mg → mg d.name = some (.ref fa) →
      ∃ fd : FuncData, (∀ (s : Shared) (u : Value), BindsTo s fd ⟨[u], []⟩ [("script", u)]) ∧ ∀ base : Heap, (K w.params).In base → base.Ns mainGlobals mg → FnOk l.prog w (K w.params) mg base (L2.CX l.prog w) k fa fd ["script"] (spA (K w.params) 1 f))
    (good : ∀ ns : List Int, ns.length ≤ 63 → (∀ z ∈ ns, Builtin.Int.intBits z ≤ 1048576) → f [.scr (ns.map .int)] = some (.ok (.bl true))) :
    PySem.W.WalkO q loose XP YP l.row.toRowW d [] (fun f vs => PySem.call f vs) :=
  walk_ofB (n := 63) (k := k) (x := "script") (CX := fun w => L2.CX l.prog w) (sp := fun w => spA (K w.params) 1 f) hn (by decide) hdf hr hY F
    (fun w H a ns hl hb ho hS => ⟨rfl, H, [.scr (ns.map .int)], .ok (.bl true), Same.refl _, .cons (.scr hS (intsRep ns)) .nil, good ns hl hb, fun v Z' H' x r => by cases r; rfl⟩)
    fun w H s e s' h => by
      obtain ⟨_, _, _, _, _, _, _, _, _, _, _, _, z⟩ := h
      exact z.elim
end DL
namespace DL
open PySem L2
/-- a constant of the top -/
structure GC (K : PySem.W.Frag) (mg : Str → Option Value) (x : Str) (d : D) where
  v : V
  u : Value
  m : mg x = some u
  r : RelV v u
  h : ∀ Z, Rep K Z v d
def gc_mk {K : PySem.W.Frag} {mg : Str → Option Value} {x : Str} {d : D} {v : V} {u : Value} (m : mg x = some u) (r : RelV v u) (h : ∀ Z, Rep K Z v d) : GC K mg x d := ⟨v, u, m, r, h⟩
theorem de_gc {K : PySem.W.Frag} {X : Cx} {W : WX} {x : Str} {d : D} {pos : Pos} {mg : Str → Option Value} (g : GC K mg x d) (hm : X.mg = mg := by rfl) (k : X.K = K := by rfl) (hg : Gl X x := by rfl) (hd : (x == ("__debug__" : Str)) = false := by decide) : DE K X W (.Name x pos) (tC g.v) (mC d) :=
  de_glob (by rw [hm]; exact g.m) g.r g.h k hg hd
def mSlE (m : EM) (l u : PM) : EM := bnd m (pur fun d => bnd l fun i => bnd u fun j => ret (slE d i j))
end DL
namespace DL
open PySem L2
/-! the mirror's equations -/
@[simp] theorem e_gv0 (x : Option DV) (r : List (Option DV)) : gv (x :: r) 0 = x := by unfold gv; cases x <;> rfl
@[simp] theorem e_gvS (x : Option DV) (r : List (Option DV)) (n : Nat) : gv (x :: r) (n + 1) = gv r n := by unfold gv; rfl
@[simp] theorem e_var (i : Nat) (s : S) : mVar i s = (match gv s.l i with | some d => some (.ok d s.m) | none => none) := rfl
@[simp] theorem e_c (d : D) (s : S) : mC d s = some (.ok (.p d) s.m) := rfl
theorem e_bnd {α γ : Type} (m : Mi α) (k : α → Mi γ) (s : S) : bnd m k s = (match m s with | some (.ok v M) => k v ⟨s.l, M⟩ | some (.ex c f M) => some (.ex c f M) | none => none) := rfl
@[simp] theorem e_pur {γ : Type} (k : D → Mi γ) (d : D) (s : S) : pur k (.p d) s = k d s := rfl
@[simp] theorem e_ret (d : D) (s : S) : ret (some d) s = some (.ok (.p d) s.m) := rfl
@[simp] theorem e_bin (g : D → D → Option D) (m n : EM) (s : S) : mBin g m n s = (bnd m (pur fun d => bnd n (pur fun e => ret (g d e)))) s := rfl
@[simp] theorem e_un (g : D → Option D) (m : EM) (s : S) : mUn g m s = (bnd m (pur fun d => ret (g d))) s := rfl
@[simp] theorem e_dI (g : Int → Int → Option D) (i j : Int) : dI g (.int i) (.int j) = g i j := rfl
@[simp] theorem e_addI (i j : Int) : dAdd (.int i) (.int j) = some (.int (i + j)) := rfl
@[simp] theorem e_addS (x y : Str) : dAdd (.str x) (.str y) = if x.length + y.length ≤ 1000000 then some (.str (x ++ y)) else none := rfl
@[simp] theorem e_neg (i : Int) : dNeg (.int i) = some (.int (-i)) := rfl
@[simp] theorem e_isN (m : EM) (s : S) : mIsN m s = (bnd m fun d s => some (.ok (.p (.bl (isNV d))) s.m)) s := rfl
@[simp] theorem e_notN (m : EM) (s : S) : mNotN m s = (bnd m fun d s => some (.ok (.p (.bl (!isNV d))) s.m)) s := rfl
@[simp] theorem e_isNVo (n : Nat) : isNV (.o n) = false := rfl
@[simp] theorem e_isNV0 : isNV (.p .non) = true := rfl
@[simp] theorem e_isNV1 (i : Int) : isNV (.p (.int i)) = false := rfl
@[simp] theorem e_isNV2 (i : Str) : isNV (.p (.str i)) = false := rfl
@[simp] theorem e_isNV3 (i : List D) : isNV (.p (.tup i)) = false := rfl
@[simp] theorem e_isNV4 (i : List D) : isNV (.p (.lst i)) = false := rfl
@[simp] theorem e_isNV5 (i : Bool) : isNV (.p (.bl i)) = false := rfl
@[simp] theorem e_tru (m : EM) (s : S) : mTru m s = (bnd m fun d s => match truM s.m d with | some b => some (.ok (.p (.bl b)) s.m) | none => none) s := rfl
@[simp] theorem e_truB (M : List O) (b : Bool) : truM M (.p (.bl b)) = some b := rfl
@[simp] theorem e_ifMt {γ : Type} (n k : Mi γ) (s : S) : ifM n k (.p (.bl true)) s = n s := rfl
@[simp] theorem e_ifMf {γ : Type} (n k : Mi γ) (s : S) : ifM n k (.p (.bl false)) s = k s := rfl
@[simp] theorem e_fls (s : S) : fls s = some (.ok (.p (.bl false)) s.m) := rfl
@[simp] theorem e_trus (s : S) : tru s = some (.ok (.p (.bl true)) s.m) := rfl
@[simp] theorem e_and (m n : EM) (s : S) : mAnd m n s = (bnd m (ifM n fls)) s := rfl
@[simp] theorem e_or (m n : EM) (s : S) : mOr m n s = (bnd m (ifM tru n)) s := rfl
@[simp] theorem e_not (m : EM) (s : S) : mNot m s = (bnd m (ifM fls tru)) s := rfl
@[simp] theorem e_ifE (c m n : EM) (s : S) : mIf c m n s = (bnd c (ifM m n)) s := rfl
@[simp] theorem e_chain (g h : D → D → Option D) (m n k : EM) (s : S) : mChain g h m n k s = (bnd m (pur fun d => bnd n (pur fun e => bnd (ret (g d e)) (ifM (bnd k (pur fun f => ret (h e f))) fls)))) s := rfl
@[simp] theorem e_aNil (s : S) : aNil s = some (.ok [] s.m) := rfl
@[simp] theorem e_aCons (m : EM) (ms : AM) (s : S) : aCons m ms s = (bnd m fun d => bnd ms fun ds s => some (.ok (d :: ds) s.m)) s := rfl
@[simp] theorem e_allP0 : allP [] = some [] := rfl
@[simp] theorem e_allP1 (d : D) (r : List DV) : allP (.p d :: r) = (allP r).map (d :: ·) := rfl
@[simp] theorem e_allPm (xs : List D) : allP (xs.map .p) = some xs := by
  induction xs with
  | nil => rfl
  | cons x r ih => show (allP (r.map .p)).map _ = _; rw [ih]; rfl
@[simp] theorem e_disp (g : List D → D) (ms : AM) (s : S) : disp g ms s = (bnd ms fun ds s => match allP ds with | some xs => if xs.length ≤ 1000000 then some (.ok (.p (g xs)) s.m) else none | none => none) s := rfl
@[simp] theorem e_dispO (ms : AM) (s : S) : dispO ms s = (bnd ms fun ds s => if ds.length ≤ 1000000 then some (.ok (.o s.m.length) (s.m ++ [.lst ds])) else none) s := rfl
def ixK (d : DV) (i : D) : EM := fun s => match i with
  | .int i => (match ixM s.m d i with
    | some c => some (.ok c s.m)
    | none => none)
  | _ => none
@[simp] theorem e_ix (m n : EM) (s : S) : mIx m n s = (bnd m fun d => bnd n (pur (ixK d))) s := rfl
@[simp] theorem e_ixK (d : DV) (i : Int) (s : S) : ixK d (.int i) s = (match ixM s.m d i with | some c => some (.ok c s.m) | none => none) := rfl
@[simp] theorem e_ixp (M : List O) (d : D) (i : Int) : ixM M (.p d) i = (ixD d i).map .p := rfl
@[simp] theorem e_ixo (M : List O) (n : Nat) (i : Int) : ixM M (.o n) i = ixO M[n]? i := rfl
@[simp] theorem e_ixl (xs : List D) (i : Int) : ixD (.lst xs) i = atI xs i := rfl
@[simp] theorem e_ixt (xs : List D) (i : Int) : ixD (.tup xs) i = atI xs i := rfl
@[simp] theorem e_ixO (xs : List DV) (i : Int) : ixO (some (.lst xs)) i = atI xs i := rfl
@[simp] theorem e_cb (g : List O → List DV → Option D) (ms : AM) (s : S) : mCB g ms s = (bnd ms fun ds s => ret (g s.m ds) s) s := rfl
@[simp] theorem e_g1 (g : D → Option D) (M : List O) (d : D) : g1 g M [.p d] = g d := rfl
@[simp] theorem e_abs (i : Int) : dAbs (.int i) = some (.int (if i < 0 then -i else i)) := rfl
@[simp] theorem e_int (i : Int) : dInt (.int i) = some (.int i) := rfl
@[simp] theorem e_intb (b : Bool) : dInt (.bl b) = some (.int (if b then 1 else 0)) := rfl
@[simp] theorem e_len (M : List O) (d : DV) : dLen M [d] = Option.map (fun (n : Nat) => D.int (n : Int)) (lenM M d) := rfl
@[simp] theorem e_lenp (M : List O) (d : D) : lenM M (.p d) = lenD d := rfl
@[simp] theorem e_leno (M : List O) (n : Nat) : lenM M (.o n) = lenO M[n]? := rfl
@[simp] theorem e_lenl (xs : List D) : lenD (.lst xs) = some xs.length := rfl
@[simp] theorem e_lent (xs : List D) : lenD (.tup xs) = some xs.length := rfl
@[simp] theorem e_lens (y : Str) : lenD (.str y) = if y.length ≤ 1000000 then some y.length else none := rfl
@[simp] theorem e_lenO (xs : List DV) : lenO (some (.lst xs)) = some xs.length := rfl
@[simp] theorem e_callA (n : Nat) (f : MA) (ms : AM) (s : S) : mCallA n f ms s = (bnd ms fun ds s => if ds.length = n then match allP ds with
  | some xs => match f xs with
    | some (.ok d) => some (.ok (.p d) s.m)
    | some (.ex c fs) => some (.ex c fs s.m)
    | none => none
  | none => none else none) s := rfl
@[simp] theorem e_callB (n : Nat) (f : List DV → List O → Option (Rs DV)) (ms : AM) (s : S) : mCallB n f ms s = (bnd ms fun ds s => if ds.length = n then f ds s.m else none) s := rfl
theorem e_lift {α : Type} (m : Mi α) (k : α → SM) (s : S) : liftS m k s = (match m s with | some (.ok v M) => k v ⟨s.l, M⟩ | some (.ex c f M) => some (.ex c f, ⟨s.l, M⟩) | none => none) := rfl
@[simp] theorem e_nil (s : S) : sNil s = some (.nx, s) := rfl
theorem e_seq (a b : SM) (s : S) : sSeq a b s = (match a s with | some (.nx, s1) => b s1 | r => r) := rfl
@[simp] theorem e_expr (m : EM) (s : S) : sExpr m s = (liftS m fun _ s => some (.nx, s)) s := rfl
@[simp] theorem e_sret (m : EM) (s : S) : sRet m s = (liftS m fun d s => some (.rt d, s)) s := rfl
@[simp] theorem e_ifSt (n k : SM) (s : S) : ifS n k (.p (.bl true)) s = n s := rfl
@[simp] theorem e_ifSf (n k : SM) (s : S) : ifS n k (.p (.bl false)) s = k s := rfl
@[simp] theorem e_sif (c : EM) (m n : SM) (s : S) : sIf c m n s = (liftS c (ifS m n)) s := rfl
@[simp] theorem e_gN (i : Nat) (d : DV) (s : S) : gN i d s = some ⟨s.l.set i (some d), s.m⟩ := rfl
@[simp] theorem e_asg (m : EM) (g : GM) (s : S) : sAsg m g s = (liftS m fun d s => match g d s with | some s1 => some (.nx, s1) | none => none) s := rfl
@[simp] theorem e_par (i j : Nat) (ms : AM) (s : S) : sPar i j ms s = (liftS ms fun ds s => match ds with | [d, f] => some (.nx, ⟨(s.l.set i (some d)).set j (some f), s.m⟩) | _ => none) s := rfl
@[simp] theorem e_loop0 (g : GM) (b : SM) (s : S) : loopS g b [] s = some (.nx, s) := rfl
@[simp] theorem e_for (it : IM) (g : GM) (b : SM) (s : S) : sFor it g b s = (liftS it fun ds => loopS g b ds) s := rfl
@[simp] theorem e_frz (m : EM) (s : S) : mFrz m s = (bnd m fun d s => match d with
  | .p d => some (.ok (.p d) s.m)
  | .o n => match s.m[n]? with
    | some (.lst ds) => match allP ds with
      | some xs => some (.ok (.p (.lst xs)) (s.m.set n .gone))
      | none => none
    | _ => none) s := rfl
theorem e_runA (n : Nat) (m : SM) (ds : List D) : runA n m ds = (match m ⟨slotsOf n (ds.map .p), []⟩ with
  | some (.nx, _) => some (.ok .non)
  | some (.rt (.p d), _) => some (.ok d)
  | some (.ex c fs, _) => some (.ex c fs)
  | _ => none) := rfl
theorem e_runB (n : Nat) (m : SM) (ds : List DV) (M : List O) : runB n m ds M = (match m ⟨slotsOf n ds, M⟩ with
  | some (.nx, s) => some (.ok (.p .non) (dropM M.length (.p .non) s.m))
  | some (.rt d, s) => some (.ok d (dropM M.length d s.m))
  | some (.ex c fs, s) => some (.ex c fs (dropM M.length (.p .non) s.m))
  | _ => none) := rfl
@[simp] theorem e_slots (n : Nat) (ds : List DV) : slotsOf n ds = ds.map some ++ List.replicate (n - ds.length) none := rfl
@[simp] theorem e_pNone (s : S) : pNone s = some (.ok none s.m) := rfl
@[simp] theorem e_pSome (m : EM) (s : S) : pSome m s = (bnd m (pur fun d s => match d with | .int i => some (.ok (some i) s.m) | _ => none)) s := rfl
@[simp] theorem e_slE (m : EM) (l u : PM) (s : S) : mSlE m l u s = (bnd m (pur fun d => bnd l fun i => bnd u fun j => ret (slE d i j))) s := rfl
@[simp] theorem e_itD (g : D → Option (List DV)) (m : EM) (s : S) : mItD g m s = (bnd m (pur fun d s => match g d with | some ds => some (.ok ds s.m) | none => none)) s := rfl
@[simp] theorem e_itL (xs : List D) : itL (.lst xs) = some (xs.map .p) := rfl
@[simp] theorem e_itT (xs : List D) : itT (.tup xs) = some (xs.map .p) := rfl
@[simp] theorem e_rng (g : List DV → Option (List DV)) (ms : AM) (s : S) : mRng g ms s = (bnd ms fun ds s => match g ds with | some xs => some (.ok xs s.m) | none => none) s := rfl
@[simp] theorem e_rng1 (j : Int) : rng1D [.p (.int j)] = if rngOk j = true then some (intsFrom 0 j.toNat) else none := rfl
@[simp] theorem e_rng2 (i j : Int) : rng2D [.p (.int i), .p (.int j)] = if rngOk i = true then if rngOk j = true then some (intsFrom i (j - i).toNat) else none else none := rfl
@[simp] theorem e_mth (T : String) (g : MtG) (o : EM) (ms : AM) (s : S) : mMth T g o ms s = (bnd o fun d s => if tyOk T s.m d = true then bnd ms (fun ds => g d ds) s else none) s := rfl
@[simp] theorem e_lc (it : IM) (vs : List Nat) (g : GM) (t e : EM) (s : S) : mLc it vs g t e s = (bnd it fun ds s => match compL (wipeL s.l vs) g t e ds [] s.m with | some (acc, M) => some (.ok (.p (.lst acc)) M) | none => none) s := rfl
@[simp] theorem e_lcO (it : IM) (vs : List Nat) (g : GM) (t e : EM) (s : S) : mLcO it vs g t e s = (bnd it fun ds s => match compL (wipeL s.l vs) g t e ds [] s.m with | some (acc, M) => some (.ok (.o M.length) (M ++ [.lst (acc.map .p)])) | none => none) s := rfl
@[simp] theorem e_wipe0 (l : List (Option DV)) : wipeL l [] = l := rfl
@[simp] theorem e_wipe1 (l : List (Option DV)) (v : Nat) (vs : List Nat) : wipeL l (v :: vs) = (wipeL l vs).set v none := rfl
@[simp] theorem e_yes (s : S) : tYesM s = some (.ok (.p (.bl true)) s.m) := rfl
@[simp] theorem e_eqD (d e : D) : dEq d e = (eqD d e).map .bl := rfl
@[simp] theorem e_neD (d e : D) : dNe d e = (eqD d e).map fun b => .bl !b := rfl
@[simp] theorem e_eqII (i j : Int) : eqD (.int i) (.int j) = some (decide (i = j)) := by show some (i == j) = _; rw [Bool.beq_eq_decide_eq]
@[simp] theorem e_eqSS (i j : Str) : eqD (.str i) (.str j) = some (decide (i = j)) := by
  show some (i == j) = _
  by_cases h : i = j <;> simp [h]
@[simp] theorem e_eqBB (i j : Bool) : eqD (.bl i) (.bl j) = some (decide (i = j)) := by show some (i == j) = _; rw [Bool.beq_eq_decide_eq]
@[simp] theorem e_eqNI (j : Int) : eqD .non (.int j) = some false := rfl
@[simp] theorem e_eqIN (j : Int) : eqD (.int j) .non = some false := rfl
@[simp] theorem e_eqNN : eqD .non .non = some true := rfl
@[simp] theorem mul2L (i : Int) : mulOk 2 i = true := by unfold mulOk; simp
end DL
namespace DL
open PySem L2
/-! the drawn numbers -/
def stateB : SM := (sSeq (sAsg (mLcO (mItD itL (mSlE (mVar 0) pNone (pSome (mC (.int 63))))) [2] (gN 2) tYesM (mCB (g1 dAbs) (aCons (mVar 2) aNil))) (gN 1))
  (sSeq (sIf (mBin dEq (mCB dLen (aCons (mVar 1) aNil)) (mC (.int 0))) (sAsg (dispO (aCons (mC (.int 0)) aNil)) (gN 1)) sNil)
  (sRet (dispO (aCons (mC (.int 0)) (aCons (mVar 1) aNil))))))
def stateM : List DV → List O → Option (Rs DV) := runB 3 stateB
def takeB : SM := (sSeq (sIf (mBin dLt (mVar 1) (mC (.int 1))) (sRet (mC (.int 0))) sNil)
  (sSeq (sAsg (mIx (mVar 0) (mC (.int 1))) (gN 2))
  (sSeq (sAsg (mBin dMod (mIx (mVar 0) (mC (.int 0))) (mCB dLen (aCons (mVar 2) aNil))) (gN 3))
  (sSeq (sAsg (mIx (mVar 2) (mVar 3)) (gN 4))
  (sSeq (sIf (mBin dGe (mVar 4) (mC (.int 1000000000000000000))) (sSeq (sAsg (mBin dDiv (mVar 4) (mVar 1)) (gSet (mVar 2) (mVar 3)))
  (sRet (mBin dMod (mVar 4) (mVar 1)))) sNil)
  (sSeq (sAsg (mBin dAdd (mIx (mVar 0) (mC (.int 0))) (mC (.int 1))) (gSet (mVar 0) (mC (.int 0))))
  (sSeq (sAsg (mBin dMod (mCB (g1 dInt) (aCons (mBin dAdd (mBin dMul (mVar 4) (mC (.int 48271))) (mBin dMul (mIx (mVar 0) (mC (.int 0))) (mC (.int 69621)))) aNil)) (mC (.int 2147483647))) (gN 5))
  (sSeq (sAsg (mBin dMod (mCB (g1 dInt) (aCons (mBin dAdd (mBin dMul (mVar 5) (mC (.int 16807))) (mBin dMul (mIx (mVar 0) (mC (.int 0))) (mC (.int 7919)))) aNil)) (mC (.int 1000000007))) (gN 5))
  (sRet (mBin dMod (mBin dDiv (mVar 5) (mC (.int 7))) (mVar 1)))))))))))
def takeM : List DV → List O → Option (Rs DV) := runB 6 takeB
structure Dr (n : Nat) (sv : DV) (M : List O) : Prop where
  len : M.length = n
  cl : M.all (closed n) = true
  ex : ∃ (k c : Nat) (i : Int) (cells : List Int), sv = .o k ∧ M[k]? = some (.lst [.p (.int i), .o c]) ∧ M[c]? = some (.lst (cells.map fun z => .p (.int z))) ∧ k ≠ c ∧ 0 ≤ i ∧ cells ≠ [] ∧ ∀ z ∈ cells, 0 ≤ z
theorem dropM_len {k : Nat} {d : DV} {M : List O} (h : M.length = k) : dropM k d M = M := by
  unfold dropM
  rw [List.take_of_length_le (by omega)]
  split <;> rfl
theorem dropM_app {k : Nat} {d : DL.D} {M g : List O} (h : M.length = k) (c : M.all (closed k) = true) : dropM k (.p d) (M ++ g) = M := by
  unfold dropM
  have e : (M ++ g).take k = M := by rw [← h, List.take_left]
  rw [e, c]
  rfl
theorem atI_nat' {α : Type} {xs : List α} {j : Int} {x : α} (h0 : 0 ≤ j) (h : xs[j.toNat]? = some x) : atI xs j = some x := by
  have hl := (List.getElem?_eq_some_iff.mp h).1
  unfold atI ixN
  rw [if_pos h0, if_pos (by omega)]
  exact h
theorem ixN_nat {n : Nat} {j : Int} (h0 : 0 ≤ j) (h : j < n) : ixN n j = some j.toNat := by
  unfold ixN
  rw [if_pos h0, if_pos h]
theorem atI0 {α : Type} (x : α) (xs : List α) : atI (x :: xs) 0 = some x := atI_nat' (by decide) rfl
theorem atI1 {α : Type} (x y : α) (xs : List α) : atI (x :: y :: xs) 1 = some y := atI_nat' (by decide) rfl
theorem all_set {p : O → Bool} {M : List O} {o : O} (h : M.all p = true) (ho : p o = true) (n : Nat) : (M.set n o).all p = true := by
  rw [List.all_eq_true] at h ⊢
  intro x hx
  rcases List.mem_or_eq_of_mem_set hx with h1 | h1
  · exact h x h1
  · rw [h1]; exact ho
theorem closed_ints (n : Nat) (cells : List Int) : closed n (.lst (cells.map fun z => .p (.int z))) = true := by
  show (cells.map fun z => DV.p (.int z)).all (ltO n) = true
  rw [List.all_map]
  exact List.all_eq_true.mpr fun _ _ => rfl
theorem set_map (cells : List Int) (j : Nat) (z : Int) : (cells.map fun z => DV.p (.int z)).set j (.p (.int z)) = (cells.set j z).map fun z => DV.p (.int z) := by
  rw [List.map_set]
theorem get_map {cells : List Int} {j : Nat} (h : j < cells.length) : (cells.map fun z => DV.p (.int z))[j]? = some (.p (.int cells[j])) := by
  rw [List.getElem?_map, List.getElem?_eq_getElem h]; rfl
theorem e_set (o i : EM) (d : DV) (s : S) : gSet o i d s = (match bnd o (fun x => bnd i (pur (gSetK d x))) s with | some (.ok _ M) => some ⟨s.l, M⟩ | _ => none) := rfl
theorem e_setK (d : DV) (n : Nat) (j : Int) (s : S) : gSetK d (.o n) (.int j) s = (match setL s.m n j d with | some M => some (.ok (.p .non) M) | none => none) := rfl
theorem setL_ok {M : List O} {n : Nat} {ds : List DV} {j : Int} {d : DV} (h : M[n]? = some (.lst ds)) (h0 : 0 ≤ j) (h1 : j < ds.length) : setL M n j d = some (M.set n (.lst (ds.set j.toNat d))) := by
  unfold setL
  rw [h]
  show (match ixN ds.length j with | some j => some (M.set n (.lst (ds.set j d))) | none => none) = _
  rw [ixN_nat h0 h1]
theorem mulOkR (i j : Int) (h : -18446744073709551616 < j) (h' : j < 18446744073709551616) : mulOk i j = true := by
  unfold mulOk
  have e : (2 : Int) ^ 64 = 18446744073709551616 := by decide
  simp only [e, Bool.or_eq_true, decide_eq_true_eq]
  exact .inr ⟨h, h'⟩
theorem take_spec {n : Nat} {sv : DV} {M : List O} (h : Dr n sv M) (most : Int) (hm : most < 18446744073709551616) : ∃ r M', takeM [sv, .p (.int most)] M = some (.ok (.p (.int r)) M') ∧ Dr n sv M' ∧ (most < 1 → r = 0) ∧ (1 ≤ most → 0 ≤ r ∧ r < most) := by
  obtain ⟨k, c, i, cells, rfl, hk, hc, kc, hi, ne, nn⟩ := h.ex
  by_cases h1 : most < 1
  · refine ⟨0, M, ?_, h, fun _ => rfl, fun h2 => by omega⟩
    simp [e_bnd, e_seq, e_lift, e_runA, e_runB, takeM, takeB, h1, dropM_len h.len, h.len]
  · have hl : 0 < cells.length := List.length_pos_iff.mpr ne
    have hl' : (0 : Int) < (cells.length : Int) := by omega
    have a0 : 0 ≤ i % (cells.length : Int) := Int.emod_nonneg _ (by omega)
    have a1 : i % (cells.length : Int) < (cells.length : Int) := Int.emod_lt_of_pos _ hl'
    have aN : (i % (cells.length : Int)).toNat < cells.length := by omega
    have hg := atI_nat' (xs := cells.map fun z => DV.p (.int z)) a0 (get_map aN)
    have cn : 0 ≤ cells[(i % (cells.length : Int)).toNat] := nn _ (List.getElem_mem aN)
    generalize hz : cells[(i % (cells.length : Int)).toNat] = z at hg cn
    have m0 : 0 < most := by omega
    by_cases h2 : 1000000000000000000 ≤ z
    · refine ⟨z % most, M.set c (.lst ((cells.set (i % (cells.length : Int)).toNat (z / most)).map fun z => .p (.int z))), ?_, ⟨by rw [List.length_set]; exact h.len, all_set h.cl (closed_ints n _) c, k, c, i, _, rfl, by rw [List.getElem?_set_ne kc.symm]; exact hk, by rw [List.getElem?_set_self (List.getElem?_eq_some_iff.mp hc).1], kc, hi, ?_, ?_⟩, fun h3 => absurd h3 h1, fun _ => ⟨Int.emod_nonneg _ (by omega), Int.emod_lt_of_pos _ m0⟩⟩
      · have hs := setL_ok (M := M) (n := c) (d := .p (.int (z / most))) hc a0 (by rw [List.length_map]; exact a1)
        simp [e_bnd, e_seq, e_lift, e_runA, e_runB, takeM, takeB, h1, hk, hc, atI0, atI1, hl, hl', hg, h2, e_set, e_setK, m0, hm, hs, h.len, dropM_len]
      · simpa using ne
      · intro y hy
        rcases List.mem_or_eq_of_mem_set hy with q | q
        · exact nn y q
        · rw [q]; exact Int.ediv_nonneg cn (by omega)
    · have hs := setL_ok (M := M) (n := k) (d := .p (.int (i + 1))) (j := 0) hk (by decide) (by simp)
      have hk' : (M.set k (.lst [DV.p (.int (i + 1)), .o c]))[k]? = some (.lst [.p (.int (i + 1)), .o c]) := by
        rw [List.getElem?_set_self (List.getElem?_eq_some_iff.mp hk).1]
      refine ⟨((((z * 48271 + (i + 1) * 69621) % 2147483647) * 16807 + (i + 1) * 7919) % 1000000007) / 7 % most, M.set k (.lst [.p (.int (i + 1)), .o c]), ?_, ⟨by rw [List.length_set]; exact h.len, all_set h.cl ?_ k, k, c, i + 1, cells, rfl, hk', by rw [List.getElem?_set_ne kc]; exact hc, kc, by omega, ne, nn⟩, fun h3 => absurd h3 h1, fun _ => ⟨Int.emod_nonneg _ (by omega), Int.emod_lt_of_pos _ m0⟩⟩
      · simp [e_bnd, e_seq, e_lift, e_runA, e_runB, takeM, takeB, h1, hk, hc, atI0, atI1, hl, hl', hg, h2, e_set, e_setK, m0, hm, hs, hk', h.len, dropM_len, mulOkR]
      · have := List.all_eq_true.mp h.cl _ (List.mem_of_getElem? hk)
        exact this
end DL
namespace DL
open PySem L2
theorem compL_fm {l : List (Option DV)} {g : GM} {t e : EM} {p : DV → Bool} {f : DV → D} {M : List O} : ∀ (ds : List DV) (acc : List D),
    (∀ d ∈ ds, ∃ s1 : S, g d ⟨l, M⟩ = some s1 ∧ t s1 = some (.ok (.p (.bl (p d))) M) ∧ (p d = true → e ⟨s1.l, M⟩ = some (.ok (.p (f d)) M))) → acc.length + ds.length ≤ 1000000 →
    compL l g t e ds acc M = some (acc ++ (ds.filter p).map f, M)
  | [], acc, _, _ => by simp [compL]
  | d :: ds, acc, h, hl => by
    obtain ⟨s1, h1, h2, h3⟩ := h d (by simp)
    have hl' : acc.length + (ds.length + 1) ≤ 1000000 := hl
    unfold compL
    rw [h1]
    dsimp only
    rw [h2]
    cases hp : p d with
    | true =>
      dsimp only
      rw [h3 hp]
      dsimp only
      rw [if_pos (by omega), compL_fm ds (acc ++ [f d]) (fun x hx => h x (by simp [hx])) (by simp; omega)]
      simp [hp]
    | false =>
      dsimp only
      rw [compL_fm ds acc (fun x hx => h x (by simp [hx])) (by omega)]
      simp [hp]
theorem compL_map {l : List (Option DV)} {g : GM} {t e : EM} {f : DV → D} {M : List O} (ds : List DV)
    (h : ∀ d ∈ ds, ∃ s1 : S, g d ⟨l, M⟩ = some s1 ∧ t s1 = some (.ok (.p (.bl true)) M) ∧ e ⟨s1.l, M⟩ = some (.ok (.p (f d)) M)) (hl : ds.length ≤ 1000000) : compL l g t e ds [] M = some (ds.map f, M) := by
  have q := compL_fm (p := fun _ => true) (f := f) ds [] (l := l) (g := g) (t := t) (e := e) (M := M) (fun d hd => by
    obtain ⟨s1, h1, h2, h3⟩ := h d hd
    exact ⟨s1, h1, h2, fun _ => h3⟩) (by simpa using hl)
  rw [q, List.filter_eq_self.mpr (fun _ _ => rfl)]
  rfl
theorem dropM_own {n : Nat} {M : List O} : dropM 0 (.o n) M = M := by simp [dropM, ltO]
theorem cut63 {α : Type} (xs : List α) (h : xs.length ≤ 63) : cutD xs none (some 63) = xs := by
  unfold cutD
  rw [HT.sIx_none, show (63 : Int) = ((63 : Nat) : Int) from rfl, HT.sIx_nat, List.drop_zero]
  exact List.take_of_length_le (by omega)
def iabs (i : Int) : Int := if i < 0 then -i else i
theorem state_spec (ns : List Int) (hl : ns.length ≤ 63) : ∃ n sv M, stateM [.p (.scr (ns.map .int))] [] = some (.ok sv M) ∧ Dr n sv M := by
  have hc : slE (.scr (ns.map D.int)) none (some 63) = some (.lst (ns.map D.int)) := by
    show some (D.lst (cutD (ns.map D.int) none (some 63))) = _
    rw [cut63 _ (by simpa using hl)]
  have hm : compL [some (.p (.scr (ns.map .int))), none, none] (gN 2) tYesM (mCB (g1 dAbs) (aCons (mVar 2) aNil)) ((ns.map D.int).map DV.p) [] [] = some ((ns.map iabs).map D.int, []) := by
    rw [compL_map (f := fun d => match d with | .p (.int i) => .int (iabs i) | _ => .non) ((ns.map D.int).map DV.p) (fun d hd => by
      rw [List.map_map] at hd
      obtain ⟨i, _, rfl⟩ := List.mem_map.mp hd
      exact ⟨_, rfl, rfl, by simp [e_bnd, iabs]⟩) (by simp; omega)]
    simp
  have e0 : (ns.map iabs).map D.int = [] → ns = [] := by simp
  by_cases he : ns = []
  · refine ⟨3, .o 2, [.lst [], .lst [.p (.int 0)], .lst [.p (.int 0), .o 1]], ?_, rfl, rfl, 2, 1, 0, [0], rfl, rfl, rfl, by decide, by decide, by simp, by simp⟩
    subst he
    simp [e_bnd, e_seq, e_lift, e_runA, e_runB, stateM, stateB, hc, hm, dropM_own]
    rfl
  · refine ⟨2, .o 1, [.lst ((ns.map iabs).map fun z => .p (.int z)), .lst [.p (.int 0), .o 0]], ?_, rfl, ?_, 1, 0, 0, ns.map iabs, rfl, rfl, rfl, by decide, by decide, by simpa using he, ?_⟩
    · generalize hA : (ns.map iabs) = A at hm
      have hA' : A ≠ [] := by rw [← hA]; simpa using he
      have hA2 : ¬ A.length = 0 := by
        intro h; exact hA' (List.length_eq_zero_iff.mp h)
      generalize hB : ns.map D.int = B at hm hc
      simp [e_bnd, e_seq, e_lift, e_runA, e_runB, stateM, stateB, hc, hm, dropM_own, hA', hA2]
    · show (closed 2 _ && _) = true
      rw [closed_ints]; rfl
    · intro z hz
      obtain ⟨i, _, rfl⟩ := List.mem_map.mp hz
      unfold iabs; split <;> omega
theorem at_mem {α : Type} {xs : List α} {j : Int} (h0 : 0 ≤ j) (h : j < xs.length) : ∃ x, atI xs j = some x ∧ x ∈ xs := by
  have hj : j.toNat < xs.length := by omega
  exact ⟨xs[j.toNat], atI_nat' h0 (List.getElem?_eq_getElem hj), List.getElem_mem hj⟩
theorem ints0 (lo : Int) : DL.intsFrom lo 0 = [] := rfl
theorem intsS (lo : Int) (n : Nat) : DL.intsFrom lo (n + 1) = .p (.int lo) :: DL.intsFrom (lo + 1) n := by
  unfold DL.intsFrom
  rw [List.range_succ_eq_map, List.map_cons, List.map_map]
  have e : lo + ((0 : Nat) : Int) = lo := by omega
  rw [e]
  congr 1
  refine List.map_congr_left fun i _ => ?_
  show DV.p (.int (lo + ((i + 1 : Nat) : Int))) = DV.p (.int (lo + 1 + (i : Int)))
  congr 2; omega
theorem loopS_cons {g : GM} {b : SM} {d : DV} {ds : List DV} {s : S} : loopS g b (d :: ds) s = (match g d s with
    | none => none
    | some s1 => match b s1 with
      | none => none
      | some (.nx, s2) => loopS g b ds s2
      | some (.ct, s2) => loopS g b ds s2
      | some (.bk, s2) => some (.nx, s2)
      | some (.rt v, s2) => some (.rt v, s2)
      | some (.ex c f, s2) => some (.ex c f, s2)) := rfl
end DL
namespace DL
open PySem L2
/-! going through a mirror step by step -/
def wpB {α : Type} (o : Option (Rs α)) (P : α → List O → Prop) : Prop := ∃ v M, o = some (.ok v M) ∧ P v M
def noX : Fl → Bool
  | .ex _ _ => false
  | _ => true
def wpS (o : Option (Fl × S)) (P : Fl → S → Prop) : Prop := ∃ f s, o = some (f, s) ∧ noX f = true ∧ P f s
def wpA (o : Option RD) (P : D → Prop) : Prop := ∃ d, o = some (.ok d) ∧ P d
@[simp] theorem w_ok {α : Type} (v : α) (M : List O) (P : α → List O → Prop) : wpB (some (.ok v M)) P ↔ P v M := ⟨fun ⟨_, _, e, h⟩ => by cases e; exact h, fun h => ⟨_, _, rfl, h⟩⟩
@[simp] theorem w_no {α : Type} (P : α → List O → Prop) : wpB none P ↔ False := ⟨fun ⟨_, _, e, h⟩ => (by cases e), fun h => False.elim h⟩
@[simp] theorem w_bnd {α γ : Type} (m : Mi α) (k : α → Mi γ) (s : S) (P : γ → List O → Prop) : wpB (bnd m k s) P ↔ wpB (m s) fun v M => wpB (k v ⟨s.l, M⟩) P := by
  constructor
  · rintro ⟨v, M, e, h⟩
    unfold bnd at e
    cases q : m s with
    | none => rw [q] at e; cases e
    | some r =>
      rw [q] at e
      cases r with
      | ok a M1 => exact ⟨a, M1, rfl, v, M, e, h⟩
      | ex c f M1 => cases e
  · rintro ⟨a, M1, e, v, M, e2, h⟩
    exact ⟨v, M, by unfold bnd; rw [e]; exact e2, h⟩
@[simp] theorem w_sok (f : Fl) (s : S) (P : Fl → S → Prop) : wpS (some (f, s)) P ↔ noX f = true ∧ P f s := ⟨fun ⟨_, _, e, h⟩ => by cases e; exact h, fun h => ⟨_, _, rfl, h⟩⟩
@[simp] theorem w_sno (P : Fl → S → Prop) : wpS none P ↔ False := ⟨fun ⟨_, _, e, h⟩ => (by cases e), fun h => False.elim h⟩
@[simp] theorem noX1 : noX .nx = true := rfl
@[simp] theorem noX2 (v : DV) : noX (.rt v) = true := rfl
@[simp] theorem noX3 : noX .bk = true := rfl
@[simp] theorem noX4 : noX .ct = true := rfl
/-- what follows a statement -/
def andS (b : SM) (P : Fl → S → Prop) : Fl → S → Prop
  | .nx, s => wpS (b s) P
  | f, s => P f s
@[simp] theorem w_andN (b : SM) (P : Fl → S → Prop) (s : S) : andS b P .nx s = wpS (b s) P := rfl
@[simp] theorem w_andR (b : SM) (P : Fl → S → Prop) (v : DV) (s : S) : andS b P (.rt v) s = P (.rt v) s := rfl
@[simp] theorem w_seq (a b : SM) (s : S) (P : Fl → S → Prop) : wpS (sSeq a b s) P ↔ wpS (a s) (andS b P) := by
  constructor
  · rintro ⟨f, s', e, n, h⟩
    unfold sSeq at e
    cases q : a s with
    | none => rw [q] at e; cases e
    | some r =>
      rw [q] at e
      obtain ⟨f1, s1⟩ := r
      refine ⟨f1, s1, rfl, ?_⟩
      cases f1 with
      | nx => exact ⟨rfl, f, s', e, n, h⟩
      | _ => cases e; exact ⟨n, h⟩
  · rintro ⟨f1, s1, e, n, h⟩
    cases f1 with
    | nx =>
      obtain ⟨f, s', e2, n, h⟩ := h
      exact ⟨f, s', by unfold sSeq; rw [e]; exact e2, n, h⟩
    | _ => exact ⟨_, s1, by unfold sSeq; rw [e], n, h⟩
@[simp] theorem w_lift {α : Type} (m : Mi α) (k : α → SM) (s : S) (P : Fl → S → Prop) : wpS (liftS m k s) P ↔ wpB (m s) fun v M => wpS (k v ⟨s.l, M⟩) P := by
  constructor
  · rintro ⟨f, s', e, n, h⟩
    unfold liftS at e
    cases q : m s with
    | none => rw [q] at e; cases e
    | some r =>
      rw [q] at e
      cases r with
      | ok a M1 => exact ⟨a, M1, rfl, f, s', e, n, h⟩
      | ex c f M1 => cases e; cases n
  · rintro ⟨a, M1, e, f, s', e2, n, h⟩
    exact ⟨f, s', by unfold liftS; rw [e]; exact e2, n, h⟩
def endB (k : Nat) (P : DV → List O → Prop) : Fl → S → Prop
  | .nx, s => P (.p .non) (dropM k (.p .non) s.m)
  | .rt d, s => P d (dropM k d s.m)
  | _, _ => False
@[simp] theorem w_endBn (k : Nat) (P : DV → List O → Prop) (s : S) : endB k P .nx s = P (.p .non) (dropM k (.p .non) s.m) := rfl
@[simp] theorem w_endBr (k : Nat) (P : DV → List O → Prop) (d : DV) (s : S) : endB k P (.rt d) s = P d (dropM k d s.m) := rfl
@[simp] theorem w_runB (n : Nat) (m : SM) (ds : List DV) (M : List O) (P : DV → List O → Prop) : wpB (runB n m ds M) P ↔ wpS (m ⟨slotsOf n ds, M⟩) (endB M.length P) := by
  constructor
  · rintro ⟨v, M1, e, h⟩
    rw [e_runB] at e
    cases q : m ⟨slotsOf n ds, M⟩ with
    | none => rw [q] at e; cases e
    | some r =>
      rw [q] at e
      obtain ⟨f1, s1⟩ := r
      cases f1 with
      | nx => cases e; exact ⟨_, _, rfl, rfl, h⟩
      | rt d => cases e; exact ⟨_, _, rfl, rfl, h⟩
      | _ => cases e
  · rintro ⟨f1, s1, e, n, h⟩
    cases f1 with
    | nx => exact ⟨_, _, by rw [e_runB, e], h⟩
    | rt d => exact ⟨_, _, by rw [e_runB, e], h⟩
    | _ => exact False.elim h
def endA (P : D → Prop) : Fl → S → Prop
  | .nx, s => P .non
  | .rt (.p d), s => P d
  | _, _ => False
@[simp] theorem w_endAn (P : D → Prop) (s : S) : endA P .nx s = P .non := rfl
@[simp] theorem w_endAr (P : D → Prop) (d : D) (s : S) : endA P (.rt (.p d)) s = P d := rfl
@[simp] theorem w_runA (n : Nat) (m : SM) (ds : List D) (P : D → Prop) : wpA (runA n m ds) P ↔ wpS (m ⟨slotsOf n (ds.map .p), []⟩) (endA P) := by
  constructor
  · rintro ⟨v, e, h⟩
    rw [e_runA] at e
    cases q : m ⟨slotsOf n (ds.map .p), []⟩ with
    | none => rw [q] at e; cases e
    | some r =>
      rw [q] at e
      obtain ⟨f1, s1⟩ := r
      cases f1 with
      | nx => cases e; exact ⟨_, _, rfl, rfl, h⟩
      | rt d =>
        cases d with
        | p d => cases e; exact ⟨_, _, rfl, rfl, h⟩
        | o n => cases e
      | _ => cases e
  · rintro ⟨f1, s1, e, n, h⟩
    cases f1 with
    | nx => exact ⟨_, by rw [e_runA, e], h⟩
    | rt d =>
      cases d with
      | p d => exact ⟨_, by rw [e_runA, e], h⟩
      | o n => exact False.elim h
    | _ => exact False.elim h
@[simp] theorem w_ifM {γ : Type} (n k : Mi γ) (b : Bool) (s : S) (P : γ → List O → Prop) : wpB (ifM n k (.p (.bl b)) s) P ↔ (b = true → wpB (n s) P) ∧ (b = false → wpB (k s) P) := by
  cases b
  · exact ⟨fun h => ⟨fun q => (by cases q), fun _ => h⟩, fun h => h.2 rfl⟩
  · exact ⟨fun h => ⟨fun _ => h, fun q => (by cases q)⟩, fun h => h.1 rfl⟩
@[simp] theorem w_ifS (n k : SM) (b : Bool) (s : S) (P : Fl → S → Prop) : wpS (ifS n k (.p (.bl b)) s) P ↔ (b = true → wpS (n s) P) ∧ (b = false → wpS (k s) P) := by
  cases b
  · exact ⟨fun h => ⟨fun q => (by cases q), fun _ => h⟩, fun h => h.2 rfl⟩
  · exact ⟨fun h => ⟨fun _ => h, fun q => (by cases q)⟩, fun h => h.1 rfl⟩
@[simp] theorem w_okA (d : D) (P : D → Prop) : wpA (some (.ok d)) P ↔ P d := ⟨fun ⟨_, e, h⟩ => by cases e; exact h, fun h => ⟨_, rfl, h⟩⟩
theorem wpB.imp {α : Type} {o : Option (Rs α)} {P Q : α → List O → Prop} (h : wpB o P) (k : ∀ v M, P v M → Q v M) : wpB o Q := by
  obtain ⟨v, M, e, p⟩ := h
  exact ⟨v, M, e, k v M p⟩
theorem wpA.imp {o : Option RD} {P Q : D → Prop} (h : wpA o P) (k : ∀ v, P v → Q v) : wpA o Q := by
  obtain ⟨v, e, p⟩ := h
  exact ⟨v, e, k v p⟩
theorem wpA.eq {o : Option RD} {d : D} (h : wpA o (· = d)) : o = some (.ok d) := by
  obtain ⟨v, e, p⟩ := h
  rw [e, p]
/-- a drawn number -/
theorem wp_take {n : Nat} {sv : DV} {M : List O} {most : Int} {P : DV → List O → Prop} (h : Dr n sv M) (hm : most < 18446744073709551616) (k : ∀ r M', Dr n sv M' → (most < 1 → r = 0) → (1 ≤ most → 0 ≤ r ∧ r < most) → P (.p (.int r)) M') : wpB (takeM [sv, .p (.int most)] M) P := by
  obtain ⟨r, M', e, d, b0, b⟩ := take_spec h most hm
  exact ⟨_, _, e, k r M' d b0 b⟩
end DL
namespace DL
open PySem L2
/-! texts that are written; comparing tuples -/
theorem char_inj {a b : Char} (h : a.toNat = b.toNat) : a = b := Char.toNat_inj.mp h
theorem map_toNat_inj : ∀ {a b : List Char}, a.map Char.toNat = b.map Char.toNat → a = b
  | [], [], _ => rfl
  | [], _ :: _, h => by cases h
  | _ :: _, [], h => by cases h
  | x :: a, y :: b, h => by
    injection h with h1 h2
    rw [char_inj h1, map_toNat_inj h2]
@[simp] theorem ofString_inj (a b : String) : (Str.ofString a = Str.ofString b) ↔ a = b := by
  constructor
  · intro h
    rw [Str.ofString_eq_toList, Str.ofString_eq_toList] at h
    injection h with h
    have h2 := congrArg Array.toList h
    exact String.toList_inj.mp (map_toNat_inj h2)
  · intro h; rw [h]
@[simp] theorem strOk_of (s : String) : PyData.strOk (Str.ofString s) = true := by
  rw [Str.ofString_eq_toList]
  unfold PyData.strOk
  rw [Array.all_eq_true]
  intro i hi
  simp
  have h := (s.toList[i]'(by simpa using hi)).valid
  rcases h with h | h
  · exact Nat.lt_of_lt_of_le h (by decide)
  · exact h.2
@[simp] theorem e_okN : okD .non = true := rfl
@[simp] theorem e_okI (i : Int) : okD (.int i) = true := rfl
@[simp] theorem e_okB (i : Bool) : okD (.bl i) = true := rfl
@[simp] theorem e_okS (i : Str) : okD (.str i) = PyData.strOk i := rfl
@[simp] theorem e_okL (i : List D) : okD (.lst i) = okDs i := rfl
@[simp] theorem e_okT (i : List D) : okD (.tup i) = okDs i := rfl
@[simp] theorem e_ok0 : okDs [] = true := rfl
@[simp] theorem e_ok1 (x : D) (r : List D) : okDs (x :: r) = (okD x && okDs r) := rfl
@[simp] theorem e_dpN : depD .non = 0 := rfl
@[simp] theorem e_dpI (i : Int) : depD (.int i) = 0 := rfl
@[simp] theorem e_dpB (i : Bool) : depD (.bl i) = 0 := rfl
@[simp] theorem e_dpS (i : Str) : depD (.str i) = 0 := rfl
@[simp] theorem e_dpL (i : List D) : depD (.lst i) = depDs i + 1 := rfl
@[simp] theorem e_dpT (i : List D) : depD (.tup i) = depDs i + 1 := rfl
@[simp] theorem e_dp0 : depDs [] = 0 := rfl
@[simp] theorem e_dp1 (x : D) (r : List D) : depDs (x :: r) = max (depD x) (depDs r) := rfl
@[simp] theorem e_shp (d : D) : shp d = (okD d && decide (depD d ≤ 64)) := rfl
@[simp] theorem e_eqTT (xs ys : List D) : eqD (.tup xs) (.tup ys) = if (shp (.tup xs) && shp (.tup ys)) = true then some (deqs xs ys) else none := rfl
@[simp] theorem e_eqLL (xs ys : List D) : eqD (.lst xs) (.lst ys) = if (shp (.lst xs) && shp (.lst ys)) = true then some (deqs xs ys) else none := rfl
@[simp] theorem e_eqTN (xs : List D) : eqD (.tup xs) .non = if (shp (.tup xs) && shp .non) = true then some false else none := rfl
@[simp] theorem e_eqNT (xs : List D) : eqD .non (.tup xs) = if (shp .non && shp (.tup xs)) = true then some false else none := rfl
@[simp] theorem e_deqII (i j : Int) : deq (.int i) (.int j) = decide (i = j) := by show (i == j) = _; rw [Bool.beq_eq_decide_eq]
@[simp] theorem e_deqSS (i j : Str) : deq (.str i) (.str j) = decide (i = j) := by
  show (i == j) = _
  by_cases h : i = j <;> simp [h]
@[simp] theorem e_deqBB (i j : Bool) : deq (.bl i) (.bl j) = decide (i = j) := by show (i == j) = _; rw [Bool.beq_eq_decide_eq]
@[simp] theorem e_deqNN : deq .non .non = true := rfl
@[simp] theorem e_deqTT (i j : List D) : deq (.tup i) (.tup j) = deqs i j := rfl
@[simp] theorem e_deqLL (i j : List D) : deq (.lst i) (.lst j) = deqs i j := rfl
@[simp] theorem e_deqIS (i : Int) (j : Str) : deq (.int i) (.str j) = false := rfl
@[simp] theorem e_deqSI (i : Int) (j : Str) : deq (.str j) (.int i) = false := rfl
@[simp] theorem e_deqNI (i : Int) : deq .non (.int i) = false := rfl
@[simp] theorem e_deqIN (i : Int) : deq (.int i) .non = false := rfl
@[simp] theorem e_deqNS (i : Str) : deq .non (.str i) = false := rfl
@[simp] theorem e_deqSN (i : Str) : deq (.str i) .non = false := rfl
@[simp] theorem e_deqNT (i : List D) : deq .non (.tup i) = false := rfl
@[simp] theorem e_deqTN (i : List D) : deq (.tup i) .non = false := rfl
@[simp] theorem e_deqs0 : deqs [] [] = true := rfl
@[simp] theorem e_deqs1 (x y : D) (xs ys : List D) : deqs (x :: xs) (y :: ys) = (deq x y && deqs xs ys) := rfl
@[simp] theorem e_deqs2 (x : D) (xs : List D) : deqs (x :: xs) [] = false := rfl
@[simp] theorem e_deqs3 (x : D) (xs : List D) : deqs [] (x :: xs) = false := rfl
@[simp] theorem e_isi (M : List O) (d : D) (n : String) : dIsi M [.p d, .p (.ty n)] = (match tyName d with | some t => (kitB t n).map .bl | none => none) := rfl
@[simp] theorem e_tyT (xs : List D) : tyName (.tup xs) = some "tuple" := rfl
@[simp] theorem kit_tt : kitB "tuple" "tuple" = some true := by decide +kernel
@[simp] theorem at0 {α : Type} (x : α) (xs : List α) : atI (x :: xs) 0 = some x := atI0 x xs
@[simp] theorem at1 {α : Type} (x y : α) (xs : List α) : atI (x :: y :: xs) 1 = some y := atI1 x y xs
end DL
namespace DL
open PySem L2
section
variable {K : PySem.W.Frag} {X : Cx} {W : WX} {e a b c : Expr} {es : List Expr} {pos : Pos}
/-! ### built-in calls on texts -/
def dStr : D → Option D
  | .int i => if i.natAbs.log2 < 1920 then some (.str (Str.ofString (toString i))) else none
  | .str x => some (.str x)
  | _ => none
theorem cd_str : CallD K X (.type "str") (fun xs H Q => (∃ i : Int, xs = [.int i] ∧ i.natAbs.log2 < 1920 ∧ Q (.str (toString i)) H) ∨ ∃ a, xs = [.str a] ∧ Q (.str a) H) (g1 dStr) := ⟨fun _ pins s σ H vs us Q I r h => by
    rcases h with h | h
    · exact call_str_int pins s σ H vs us Q I r h
    · exact SkE.call_str_str pins s σ H vs us Q I r h, g1_ok fun x d c Z H Q s hx hg p => by
  unfold dStr at hg
  split at hg
  · split at hg
    · rename_i hl
      cases hx; cases hg; exact .inl ⟨_, rfl, hl, p _ Z H (ExtP.refl s) (.str _)⟩
    · cases hg
  · cases hx; cases hg; exact .inr ⟨_, rfl, p _ Z H (ExtP.refl s) (.str _)⟩
  · cases hg⟩
def dIntS : D → Option D
  | .str x => if x.length ≤ 640 then (PySem.intText? x).map .int else none
  | _ => none
theorem cd_intS : CallD K X (.type "int") (fun xs H Q => ∃ a n, xs = [.str a] ∧ PySem.intText? a = some n ∧ a.length ≤ 640 ∧ Q (.int n) H) (g1 dIntS) := ⟨fun _ => call_int_str, g1_ok fun x d c Z H Q s hx hg p => by
  unfold dIntS at hg
  split at hg
  · rename_i y
    split at hg
    · rename_i hl
      cases q : PySem.intText? y with
      | none => rw [q] at hg; cases hg
      | some n => rw [q] at hg; cases hg; cases hx; exact ⟨_, _, rfl, q, hl, p _ Z H (ExtP.refl s) (.int _)⟩
    · cases hg
  · cases hg⟩
def allBl : List D → Option (List Bool)
  | [] => some []
  | .bl b :: r => (allBl r).map (b :: ·)
  | _ :: _ => none
theorem allBl_rep {Z : Hp} : ∀ {vs : List V} {ds : List D} {bs : List Bool}, RepA K Z vs ds → allBl ds = some bs → vs = bs.map V.bl
  | _, _, _, .nil, e => by cases e; rfl
  | _, _, _, .cons (d := d) (ds := ds) h r, e => by
    cases h with
    | bl b =>
      have e : (allBl ds).map (b :: ·) = some _ := e
      cases q : allBl ds with
      | none => rw [q] at e; cases e
      | some bs => rw [q] at e; cases e; rw [allBl_rep r q]; rfl
    | _ => cases e
def dAll : D → Option D
  | .lst ds => (allBl ds).map fun bs => .bl (bs.all id)
  | _ => none
def dAny : D → Option D
  | .lst ds => (allBl ds).map fun bs => .bl (bs.any id)
  | _ => none
theorem cd_all (hc : X.calm = true) : CallD K X (.builtin "all") (rAll K) (g1 dAll) := ⟨fun k => by rw [← k]; exact cr_all hc, g1_ok fun x d c Z H Q s hx hg p => by
  unfold dAll at hg
  split at hg
  · rename_i ds
    cases q : allBl ds with
    | none => rw [q] at hg; cases hg
    | some bs =>
      rw [q] at hg; cases hg
      cases hx with
      | lst h1 h2 => exact ⟨_, bs, rfl, by rw [← allBl_rep h2 q]; exact .inl (same_rd s h1), p _ Z H (ExtP.refl s) (.bl _)⟩
  · cases hg⟩
theorem cd_any (hc : X.calm = true) : CallD K X (.builtin "any") (rAny K) (g1 dAny) := ⟨fun k => by rw [← k]; exact cr_any hc, g1_ok fun x d c Z H Q s hx hg p => by
  unfold dAny at hg
  split at hg
  · rename_i ds
    cases q : allBl ds with
    | none => rw [q] at hg; cases hg
    | some bs =>
      rw [q] at hg; cases hg
      cases hx with
      | lst h1 h2 => exact ⟨_, bs, rfl, by rw [← allBl_rep h2 q]; exact .inl (same_rd s h1), p _ Z H (ExtP.refl s) (.bl _)⟩
  · cases hg⟩
def dMax2 : List O → List DV → Option D
  | _, [.p (.int i), .p (.int j)] => some (.int (if j > i then j else i))
  | _, _ => none
def dMin2 : List O → List DV → Option D
  | _, [.p (.int i), .p (.int j)] => some (.int (if j < i then j else i))
  | _, _ => none
theorem cd_max2 (hc : X.calm = true) : CallD K X (.builtin "max") (fun xs H Q => ∃ i j, xs = [.int i, .int j] ∧ Q (.int (if j > i then j else i)) H) dMax2 := ⟨fun _ => call_max2 hc, fun vs ds c Z H I M Q w rv hg p => by
  unfold dMax2 at hg
  split at hg
  · cases rv with
    | cons h1 h2 =>
    cases h2 with
    | cons h2 h3 =>
    cases h3; cases h1; cases h2; cases hg
    exact ⟨_, _, rfl, p _ Z H (ExtP.refl w.sub) (.int _)⟩
  · cases hg⟩
theorem cd_min2 (hc : X.calm = true) : CallD K X (.builtin "min") (fun xs H Q => ∃ i j, xs = [.int i, .int j] ∧ Q (.int (if j < i then j else i)) H) dMin2 := ⟨fun _ => call_min2 hc, fun vs ds c Z H I M Q w rv hg p => by
  unfold dMin2 at hg
  split at hg
  · cases rv with
    | cons h1 h2 =>
    cases h2 with
    | cons h2 h3 =>
    cases h3; cases h1; cases h2; cases hg
    exact ⟨_, _, rfl, p _ Z H (ExtP.refl w.sub) (.int _)⟩
  · cases hg⟩
/-! ### in, not in -/
theorem units65 {k : Nat} {A : Around} (r : Room k A) : A.units + 65 < cLine := by have := r.un; omega
def inS (i j : Str) : Bool := !(Builtin.Str.occurrences j i 0 j.length 1).isEmpty
def inD : D → D → Option Bool
  | .str i, .str j => some (inS i j)
  | d, .lst ds => if (shp d && shp (.lst ds)) = true then some (ds.any fun z => deq z d) else none
  | _, _ => none
def dIn (d e : D) : Option D := (inD d e).map .bl
def dNin (d e : D) : Option D := (inD d e).map fun b => .bl !b
theorem bool_dIn : boolD dIn := fun d e c h => boolMap (f := id) h
theorem bool_dNin : boolD dNin := fun d e c h => boolMap h
theorem any_eqv (d : D) : ∀ ds : List D, ((toPs ds).any fun z => PyData.eqv z (toP d)) = ds.any fun z => deq z d
  | [] => rfl
  | x :: xs => by
    show (PyData.eqv (toP x) (toP d) || _) = (deq x d || _)
    rw [deq_eqv x d]
    exact congrArg _ (any_eqv d xs)
theorem in_cases {d e : D} {b : Bool} (h : inD d e = some b) : (∃ i j, d = .str i ∧ e = .str j ∧ b = inS i j) ∨ ∃ ds, e = .lst ds ∧ shp d = true ∧ shp (.lst ds) = true ∧ b = ds.any fun z => deq z d := by
  unfold inD at h
  split at h
  · cases h; exact .inl ⟨_, _, rfl, rfl, rfl⟩
  · split at h
    · rename_i hs
      cases h
      rw [Bool.and_eq_true] at hs
      exact .inr ⟨_, rfl, hs.1, hs.2, rfl⟩
    · cases h
  · cases h
theorem od_in (hu : X.A.units + 65 < cLine) : OpD K X (compareOp .In) (fun x y H Q => (∃ i j, x = .str i ∧ y = .str j ∧ Q (.bl (!(Builtin.Str.occurrences j i 0 j.length 1).isEmpty)) H) ∨ rInD K x y H Q) dIn where
  op := fun k pins s σ H x y v u Q I rx ry h => by
    subst k
    rcases h with h | h
    · exact op_in_str pins s σ H x y v u Q I rx ry h
    · exact op_inD hu pins s σ H x y v u Q I rx ry h
  ok := by
    intro x y d e c Z H Q s hx hy hg p
    unfold dIn at hg
    cases z : inD d e with
    | none => rw [z] at hg; cases hg
    | some b =>
      rw [z] at hg; cases hg
      rcases in_cases z with ⟨i, j, rfl, rfl, rfl⟩ | ⟨ds, rfl, h1, h2, rfl⟩
      · cases hx; cases hy
        exact .inl ⟨_, _, rfl, rfl, p _ Z H (ExtP.refl s) (.bl _)⟩
      · exact .inr ⟨_, _, hx.dp s (shaped_can h1), hy.dp s (shaped_can h2), shp_ok h1, shp_ok h2, by rw [any_eqv]; exact p _ Z H (ExtP.refl s) (.bl _)⟩
theorem od_nin (hu : X.A.units + 65 < cLine) : OpD K X (compareOp .NotIn) (fun x y H Q => (∃ i j, x = .str i ∧ y = .str j ∧ Q (.bl (!(!(Builtin.Str.occurrences j i 0 j.length 1).isEmpty))) H) ∨ rNotInD K x y H Q) dNin where
  op := fun k pins s σ H x y v u Q I rx ry h => by
    subst k
    rcases h with h | h
    · exact op_notin_str pins s σ H x y v u Q I rx ry h
    · exact op_notInD hu pins s σ H x y v u Q I rx ry h
  ok := by
    intro x y d e c Z H Q s hx hy hg p
    unfold dNin at hg
    cases z : inD d e with
    | none => rw [z] at hg; cases hg
    | some b =>
      rw [z] at hg; cases hg
      rcases in_cases z with ⟨i, j, rfl, rfl, rfl⟩ | ⟨ds, rfl, h1, h2, rfl⟩
      · cases hx; cases hy
        exact .inl ⟨_, _, rfl, rfl, p _ Z H (ExtP.refl s) (.bl _)⟩
      · exact .inr ⟨_, _, hx.dp s (shaped_can h1), hy.dp s (shaped_can h2), shp_ok h1, shp_ok h2, by rw [any_eqv]; exact p _ Z H (ExtP.refl s) (.bl _)⟩
/-! ### a text times an int -/
def repS (x : Str) (n : Int) : Str := if n < 1 then Str.empty else if (n == 1 || x.length == 0) = true then x else ⟨(List.replicate n.toNat x.cps).foldl (· ++ ·) #[]⟩
def dMulS : D → D → Option D
  | .str x, .int n => if x.length = 1 ∧ -1000 ≤ n ∧ n ≤ 1000 then some (.str (repS x n)) else none
  | _, _ => none
theorem foldl_size (x : Array Nat) : ∀ (n : Nat) (acc : Array Nat), ((List.replicate n x).foldl (· ++ ·) acc).size = acc.size + n * x.size
  | 0, acc => by simp
  | n + 1, acc => by
    rw [List.replicate_succ, List.foldl_cons, foldl_size x n, Array.size_append, Nat.succ_mul]; omega
theorem od_mulS : OpD K X (binaryOp .Mult) (fun x y H Q => ∃ (z : Str) (n : Int), x = .str z ∧ y = .int n ∧ z.length = 1 ∧ -1000 ≤ n ∧ n ≤ 1000 ∧ Q (.str (repS z n)) H) dMulS where
  op := fun _ pins s σ H x y v u Q I rx ry h => by
    obtain ⟨z, n, rfl, rfl, hl, h1, h2, q⟩ := h
    obtain ⟨t, rfl⟩ := rx
    obtain ⟨t', rfl⟩ := ry
    refine PySem.P.mul_str ?_ ?_ ?_ ?_
    · have a1 : ¬ n < -(2 ^ 63 : Int) := by omega
      have a2 : ¬ n ≥ 2 ^ 63 := by omega
      rw [decide_eq_false a1, decide_eq_false a2]; rfl
    · intro a1 a2 a3
      rw [hl] at a3
      have b1 : (1 : Int) * n ≤ 2 ^ 63 - 1 := by omega
      have b2 := (Int.le_ediv_iff_mul_le (a := 1) (b := (2 ^ 63 - 1 : Int)) (by omega : 0 < n)).mpr b1
      exact absurd a3 (by show ¬ ((1 : Nat) : Int) > _; omega)
    · intro a1 a2
      rw [hl, Nat.one_mul]
      unfold PySem.Builtin.Str.tooLong
      exact decide_eq_false (by have : n.toNat ≤ 1000 := by omega
                                have : (1000 : Nat) ≤ sizeLine := by decide
                                omega)
    · unfold repS at q
      by_cases c1 : n < 1
      · rw [if_pos c1] at q ⊢
        exact ⟨by decide, .str _, H, I.tok _, ⟨_, rfl⟩, q⟩
      · rw [if_neg c1] at q ⊢
        split
        · rename_i c2; rw [if_pos c2] at q; exact ⟨.str _, H, I, ⟨_, rfl⟩, q⟩
        · rename_i c2; rw [if_neg c2] at q
          refine ⟨?_, .str _, H, I.tok _, ⟨_, rfl⟩, q⟩
          show Array.size _ ≤ _
          rw [foldl_size]
          have e1 : z.cps.size = 1 := hl
          have : (1000 : Nat) ≤ sizeLine := by decide
          rw [e1]; simp; omega
  ok := by
    intro x y d e c Z H Q s hx hy hg p
    unfold dMulS at hg
    split at hg
    · split at hg
      · rename_i hl
        cases hx; cases hy; cases hg
        exact ⟨_, _, rfl, rfl, hl.1, hl.2.1, hl.2.2, p _ Z H (ExtP.refl s) (.str _)⟩
      · cases hg
    · cases hg
/-! ### methods of texts -/
def dZfill : D → List D → Option D
  | .str x, [.int i] => if PadOk i = true then some (.str (Txt.zfill x i)) else none
  | _, _ => none
theorem repA1 {Z : Hp} {vs : List V} {d : D} (h : RepA K Z vs [d]) : ∃ v, vs = [v] ∧ Rep K Z v d := by
  cases h with
  | cons h1 h2 => cases h2; exact ⟨_, rfl, h1⟩
theorem repA2 {Z : Hp} {vs : List V} {d e : D} (h : RepA K Z vs [d, e]) : ∃ v u, vs = [v, u] ∧ Rep K Z v d ∧ Rep K Z u e := by
  cases h with
  | cons h1 h2 =>
    obtain ⟨u, rfl, h3⟩ := repA1 h2
    exact ⟨_, _, rfl, h1, h3⟩
theorem md_zfill : MthD K X "str.zfill" (fun x xs H Q => ∃ (a : Str) (i : Int), x = .str a ∧ xs = [.int i] ∧ PadOk i = true ∧ Q (.str (Txt.zfill a i)) H) (gP dZfill) := ⟨fun _ => mt_zfill, gP_ok fun x d vs ds c Z H Q s hx hv hg p => by
  unfold dZfill at hg
  split at hg
  · split at hg
    · rename_i hp
      obtain ⟨v, rfl, h1⟩ := repA1 hv
      cases hx; cases h1; cases hg
      exact ⟨_, _, rfl, rfl, hp, p _ Z H (ExtP.refl s) (.str _)⟩
    · cases hg
  · cases hg⟩
def dRstrip : D → List D → Option D
  | .str x, [.str y] => if x.length ≤ 1000000 then some (.str (Txt.rstripChars x y)) else none
  | _, _ => none
theorem md_rstrip : MthD K X "str.rstrip" (fun x xs H Q => ∃ a b, x = .str a ∧ xs = [.str b] ∧ a.length ≤ sizeLine ∧ Q (.str (Txt.rstripChars a b)) H) (gP dRstrip) := ⟨fun _ => mt_rstripChars, gP_ok fun x d vs ds c Z H Q s hx hv hg p => by
  unfold dRstrip at hg
  split at hg
  · split at hg
    · rename_i hp
      obtain ⟨v, rfl, h1⟩ := repA1 hv
      cases hx; cases h1; cases hg
      exact ⟨_, _, rfl, rfl, size_le hp, p _ Z H (ExtP.refl s) (.str _)⟩
    · cases hg
  · cases hg⟩
def dRmpre : D → List D → Option D
  | .str x, [.str y] => if x.length ≤ 1000000 then some (.str (Txt.removeprefix x y)) else none
  | _, _ => none
theorem md_rmpre : MthD K X "str.removeprefix" (fun x xs H Q => ∃ a b, x = .str a ∧ xs = [.str b] ∧ a.length ≤ sizeLine ∧ Q (.str (Txt.removeprefix a b)) H) (gP dRmpre) := ⟨fun _ => mt_removeprefix, gP_ok fun x d vs ds c Z H Q s hx hv hg p => by
  unfold dRmpre at hg
  split at hg
  · split at hg
    · rename_i hp
      obtain ⟨v, rfl, h1⟩ := repA1 hv
      cases hx; cases h1; cases hg
      exact ⟨_, _, rfl, rfl, size_le hp, p _ Z H (ExtP.refl s) (.str _)⟩
    · cases hg
  · cases hg⟩
def dPart : D → List D → Option D
  | .str x, [.str y] => if (y.length == 0) = false ∧ x.length ≤ 1000000 then some (.tup [.str (Txt.partition x y).1, .str (Txt.partition x y).2.1, .str (Txt.partition x y).2.2]) else none
  | _, _ => none
theorem md_part : MthD K X "str.partition" (fun x xs H Q => ∃ a b, x = .str a ∧ xs = [.str b] ∧ (b.length == 0) = false ∧ a.length ≤ sizeLine ∧
    ∀ p, H p = none → Q (.ref p) (upd H p (.tup [.str (Txt.partition a b).1, .str (Txt.partition a b).2.1, .str (Txt.partition a b).2.2]))) (gP dPart) := ⟨fun _ => mt_partition, gP_ok fun x d vs ds c Z H Q s hx hv hg p => by
  unfold dPart at hg
  split at hg
  · split at hg
    · rename_i hp
      obtain ⟨v, rfl, h1⟩ := repA1 hv
      cases hx; cases h1; cases hg
      exact ⟨_, _, rfl, rfl, hp.1, size_le hp.2, fun l hl => p _ _ _ (ExtP.new s hl) (.tup upd_same (.cons (.str _) (.cons (.str _) (.cons (.str _) .nil))))⟩
    · cases hg
  · cases hg⟩
theorem repA_strs {Z : Hp} : ∀ ys : List Str, RepA K Z (ys.map V.str) (ys.map D.str)
  | [] => .nil
  | y :: ys => .cons (.str y) (repA_strs ys)
def dSplit : D → List D → Option D
  | .str x, [.str y] => if (y.length == 0) = false ∧ x.length ≤ 1000000 then some (.lst ((Txt.split x y).map .str)) else none
  | _, _ => none
theorem md_split : MthD K X "str.split" (fun x xs H Q => ∃ a b, x = .str a ∧ xs = [.str b] ∧ (b.length == 0) = false ∧ a.length + 2 ≤ sizeLine ∧ rNewStrs (Txt.split a b) H Q) (gP dSplit) := ⟨fun _ => mt_split, gP_ok fun x d vs ds c Z H Q s hx hv hg p => by
  unfold dSplit at hg
  split at hg
  · split at hg
    · rename_i hp
      obtain ⟨v, rfl, h1⟩ := repA1 hv
      cases hx; cases h1; cases hg
      refine ⟨_, _, rfl, rfl, hp.1, ?_, fun l hl => p _ _ _ (ExtP.new s hl) (.lst (.inl upd_same) (repA_strs _))⟩
      have : (1000002 : Nat) ≤ sizeLine := by decide
      omega
    · cases hg
  · cases hg⟩
def allS : List D → Option (List Str)
  | [] => some []
  | .str x :: r => (allS r).map (x :: ·)
  | _ :: _ => none
theorem allS_rep {Z : Hp} : ∀ {vs : List V} {ds : List D} {bs : List Str}, RepA K Z vs ds → allS ds = some bs → vs = bs.map V.str
  | _, _, _, .nil, e => by cases e; rfl
  | _, _, _, .cons (d := d) (ds := ds) h r, e => by
    cases h with
    | str b =>
      have e : (allS ds).map (b :: ·) = some _ := e
      cases q : allS ds with
      | none => rw [q] at e; cases e
      | some bs => rw [q] at e; cases e; rw [allS_rep r q]; rfl
    | _ => cases e
def dJoin : D → List D → Option D
  | .str a, [.lst ds] => match allS ds with
    | some ys => if (ys.map (·.length)).sum + ys.length * a.length ≤ 16777216 then some (.str (Txt.join a ys)) else none
    | none => none
  | _, _ => none
theorem md_join : MthD K X "str.join" (fun x xs H Q => ∃ a p, ∃ ys : List Str, x = .str a ∧ xs = [.ref p] ∧ (SqL K H p (ys.map V.str) ∨ SqT K H p (ys.map V.str)) ∧
    (ys.map (·.length)).sum + ys.length * a.length ≤ 16777216 ∧ Q (.str (Txt.join a ys)) H) (gP dJoin) := ⟨fun k => by rw [← k]; exact mt_join, gP_ok fun x d vs ds c Z H Q s hx hv hg p => by
  unfold dJoin at hg
  split at hg
  · rename_i ds'
    cases q : allS ds' with
    | none => rw [q] at hg; cases hg
    | some ys =>
      rw [q] at hg
      simp only at hg
      split at hg
      · rename_i hp
        obtain ⟨v, rfl, h1⟩ := repA1 hv
        cases hx; cases hg
        cases h1 with
        | lst h1 h2 => exact ⟨_, _, ys, rfl, rfl, .inl (by rw [← allS_rep h2 q]; exact .inl (same_rd s h1)), hp, p _ Z H (ExtP.refl s) (.str _)⟩
      · cases hg
  · cases hg⟩
def dLjust : D → List D → Option D
  | .str x, [.int i, .str f] => if PadOk i = true ∧ f.length = 1 then some (.str (Txt.ljustF x i (f.cps.getD 0 0))) else none
  | _, _ => none
theorem md_ljust : MthD K X "str.ljust" (fun x xs H Q => ∃ (a : Str) (i : Int) (f : Str), x = .str a ∧ xs = [.int i, .str f] ∧ PadOk i = true ∧ f.length = 1 ∧ Q (.str (Txt.ljustF a i (f.cps.getD 0 0))) H) (gP dLjust) := ⟨fun _ pins s σ H x xs v us Q I rx rs h => by
    obtain ⟨a, i, f, rfl, rfl, hp, hf, q⟩ := h
    obtain ⟨t, rfl⟩ := rx
    cases rs with
    | cons r1 rs =>
    cases rs with
    | cons r2 rs =>
    cases rs
    obtain ⟨u, rfl⟩ := r1
    obtain ⟨z, rfl⟩ := r2
    exact PyProof.Rows.ljust_fill hp hf fun t' k => ⟨.str _, H, I.tok k, ⟨_, rfl⟩, q⟩, gP_ok fun x d vs ds c Z H Q s hx hv hg p => by
  unfold dLjust at hg
  split at hg
  · split at hg
    · rename_i hp
      obtain ⟨v, u, rfl, h1, h2⟩ := repA2 hv
      cases hx; cases h1; cases h2; cases hg
      exact ⟨_, _, _, rfl, rfl, hp.1, hp.2, p _ Z H (ExtP.refl s) (.str _)⟩
    · cases hg
  · cases hg⟩
def dIndex : D → List D → Option D
  | .str a, [.str b] => match Builtin.Str.occurrences a b 0 a.length 1 with
    | i :: _ => some (.int (i : Nat))
    | [] => none
  | _, _ => none
theorem md_index : MthD K X "str.index" (fun x xs H Q => ∃ a b i rest, x = .str a ∧ xs = [.str b] ∧ Builtin.Str.occurrences a b 0 a.length 1 = i :: rest ∧ Q (.int (i : Nat)) H) (gP dIndex) := ⟨fun _ => mt_sindex, gP_ok fun x d vs ds c Z H Q s hx hv hg p => by
  unfold dIndex at hg
  split at hg
  · rename_i a b
    cases q : Builtin.Str.occurrences a b 0 a.length 1 with
    | nil => rw [q] at hg; cases hg
    | cons i r =>
      rw [q] at hg; cases hg
      obtain ⟨v, rfl, h1⟩ := repA1 hv
      cases hx; cases h1
      exact ⟨_, _, i, r, rfl, rfl, q, p _ Z H (ExtP.refl s) (.int _)⟩
  · cases hg⟩
/-! ### f-strings -/
def dFmt : D → Option D
  | .int i => if i.natAbs.log2 < 1920 then some (.str (Str.ofString (toString i))) else none
  | .str y => if y.length ≤ 1000000 then some (.str y) else none
  | _ => none
def mFmt (m : EM) : EM := bnd m (pur fun d => ret (dFmt d))
theorem de_fmt {te : TE} {m : EM} (h : DE K X W e te m) : DE K X W (.FormattedValue e (-1) none pos) (tFmt te) (mFmt m) := ⟨h.k, pe_fmt h.pe, ⟨fun σ H s Z I r0 Q w rs e p => by
  refine h.so.bnd w rs e p.x fun d v M1 Z1 H1 I1 w1 rs1 x1 q1 e1 => ?_
  obtain ⟨d, rfl, e1⟩ := pur_ok e1
  obtain ⟨c, hc, rfl⟩ := ret_ok e1
  have p1 := PostP.of w1 (p.mono x1)
  unfold dFmt at hc
  split at hc
  · split at hc
    · rename_i hl
      cases q1; cases hc
      exact .inr ⟨_, rfl, hl, p1 _ Z1 H1 (ExtP.refl w1.sub) (.str _)⟩
    · cases hc
  · split at hc
    · rename_i hl
      cases q1; cases hc
      exact .inl ⟨_, rfl, size_le hl, p1 _ Z1 H1 (ExtP.refl w1.sub) (.str _)⟩
    · cases hc
  · cases hc⟩⟩
def RepStr (_ : Hp) (_ : List Addr) (x y : Str) : Prop := x = y
abbrev JM := Str → Mi Str
structure DJ (K : PySem.W.Frag) (X : Cx) (W : WX) (es : List Expr) (ts : List TE) (m : JM) : Prop where
  k : X.K = K
  pj : PJ X es ts
  so : ∀ acc, Sound K W RepStr (tJs ts acc) (m acc)
def jNil : JM := fun acc s => some (.ok acc s.m)
def jCons (m : EM) (r : JM) : JM := fun acc => bnd m (pur fun d => match d with
  | .str y => fun s => if acc.length + y.length ≤ 1000000 then r (acc ++ y) s else none
  | _ => fun _ => none)
theorem len_app (x y : Str) : (x ++ y).length = x.length + y.length := by
  show (x.cps ++ y.cps).size = _
  rw [Array.size_append]; rfl
theorem dj_nil (k : X.K = K := by rfl) : DJ K X W [] [] jNil := ⟨k, .nil, fun acc => ⟨fun σ H s Z I r Q w rs e p => by
  cases e; exact p acc Z H I w Ext.refl rfl⟩⟩
theorem dj_cons {te : TE} {m : EM} {ts : List TE} {r : JM} (h : DE K X W e te m) (hr : DJ K X W es ts r) : DJ K X W (e :: es) (te :: ts) (jCons m r) := ⟨h.k, .cons h.pe hr.pj, fun acc => ⟨fun σ H s Z I r0 Q w rs e p => by
  refine h.so.bnd w rs e p.x fun d v M1 Z1 H1 I1 w1 rs1 x1 q1 e1 => ?_
  obtain ⟨d, rfl, e1⟩ := pur_ok e1
  cases d with
  | str y =>
    cases q1
    have e1 : (if acc.length + y.length ≤ 1000000 then r (acc ++ y) ⟨s.l, M1⟩ else none) = some r0 := e1
    split at e1
    · rename_i hl
      refine ⟨y, rfl, by rw [len_app]; exact size_le hl, (hr.so (acc ++ y)).ok σ H1 ⟨s.l, M1⟩ Z1 I1 r0 _ w1 rs1 e1 (p.mono x1)⟩
    · cases e1
  | _ => cases e1⟩⟩
def mJoined (r : JM) : EM := bnd (r Str.empty) fun y s => some (.ok (.p (.str y)) s.m)
theorem de_joined1 {te : TE} {m : EM} (h : DE K X W e te m) : DE K X W (.JoinedStr [e] pos) te m := ⟨h.k, pe_joined1 h.pe, h.so⟩
theorem de_joined {v1 v2 : Expr} {rest : List Expr} {ts : List TE} {r : JM} (h : DJ K X W (v1 :: v2 :: rest) ts r) : DE K X W (.JoinedStr (v1 :: v2 :: rest) pos) (fun σ H Q => tJs ts Str.empty σ H fun out H1 => Q (.str out) H1) (mJoined r) := ⟨h.k, pe_joined h.pj, ⟨fun σ H s Z I r0 Q w rs e p => by
  refine (h.so Str.empty).bnd w rs e p.x fun d v M1 Z1 H1 I1 w1 rs1 x1 q1 e1 => ?_
  cases (show v = d from q1)
  cases e1
  exact p _ Z1 H1 I1 w1 x1 (.str _)⟩⟩
end
end DL
namespace DL
open PySem L2
/-! ### texts as lists of their signs -/
def tx (l : List Nat) : Str := ⟨l.toArray⟩
@[simp] theorem tx_list (l : List Nat) : (tx l).cps.toList = l := List.toList_toArray
@[simp] theorem tx_len (l : List Nat) : (tx l).length = l.length := List.size_toArray
theorem tx_of (x : Str) : x = tx x.cps.toList := by
  cases x with
  | mk a => show Str.mk a = Str.mk a.toList.toArray; rw [Array.toArray_toList]
theorem eq_tx {x : Str} {l : List Nat} (h : x.cps.toList = l) : x = tx l := by rw [← h]; exact tx_of x
@[simp] theorem tx_inj (a b : List Nat) : tx a = tx b ↔ a = b := ⟨fun h => by have := congrArg (fun x : Str => x.cps.toList) h; simpa using this, fun h => by rw [h]⟩
@[simp] theorem tx_app (a b : List Nat) : tx a ++ tx b = tx (a ++ b) := by
  apply eq_tx
  show ((tx a).cps ++ (tx b).cps).toList = _
  rw [Array.toList_append, tx_list, tx_list]
@[simp] theorem tx_empty : Str.empty = tx [] := rfl
theorem tx_ofString (s : String) : Str.ofString s = tx (s.toList.map Char.toNat) := by
  rw [Str.ofString_eq_toList]; apply eq_tx; simp
theorem sub_tx (l : List Nat) (i j : Nat) : Builtin.Str.strSub (tx l) i j = tx ((l.take j).drop i) := by
  apply eq_tx
  show ((tx l).cps.extract i j).toList = _
  rw [Array.toList_extract, tx_list]
  rw [List.extract_eq_take_drop, List.drop_take]
@[simp] theorem in_tx (c : Nat) (l : List Nat) : inS (tx [c]) (tx l) = decide (c ∈ l) := by
  have h := StrLaws.found_one (tx l) c
  rw [tx_list] at h
  exact h
@[simp] theorem e_inSS (i j : Str) : inD (.str i) (.str j) = some (inS i j) := rfl
@[simp] theorem e_dIn (d e : D) : dIn d e = (inD d e).map .bl := rfl
@[simp] theorem e_dNin (d e : D) : dNin d e = (inD d e).map fun b => .bl !b := rfl
theorem at_one (l : List Nat) (c i : Nat) : StrLaws.At (tx l) (tx [c]) (tx l).length i ↔ l[i]? = some c := by
  have h := StrLaws.subAt_one (tx l) c i
  rw [tx_list] at h
  exact h
/-- the place of the first c -/
def idx (c : Nat) (l : List Nat) : Nat := (l.takeWhile (· != c)).length
theorem idx_first : ∀ {c i : Nat} {l : List Nat}, l[i]? = some c → (∀ k, k < i → ¬ l[k]? = some c) → i = idx c l
  | c, i, [], h, _ => by simp at h
  | c, 0, x :: l, h, _ => by
    simp at h; subst h
    unfold idx; simp
  | c, i + 1, x :: l, h, n => by
    have hx : x ≠ c := fun e => n 0 (by omega) (by simp [e])
    have := idx_first (c := c) (i := i) (l := l) (by simpa using h) fun k hk => by have := n (k + 1) (by omega); simpa using this
    unfold idx at this ⊢
    rw [List.takeWhile_cons]
    simp [hx, this]
theorem occ_tx (c : Nat) (l : List Nat) : Builtin.Str.occurrences (tx l) (tx [c]) 0 (tx l).length 1 = [] ∧ c ∉ l ∨ ∃ r, Builtin.Str.occurrences (tx l) (tx [c]) 0 (tx l).length 1 = idx c l :: r ∧ c ∈ l := by
  rcases StrLaws.occ_head (tx l) (tx [c]) 1 (Nat.le_refl 1) with ⟨h1, h2⟩ | ⟨i, r, h1, h2, h3⟩
  · refine .inl ⟨h1, fun hm => ?_⟩
    obtain ⟨i, hi⟩ := List.mem_iff_getElem?.mp hm
    exact h2 i ((at_one l c i).mpr hi)
  · have a := (at_one l c i).mp h2
    have e := idx_first a fun k hk q => h3 k hk ((at_one l c k).mpr q)
    exact .inr ⟨r, by rw [h1, e], List.mem_of_getElem? a⟩
theorem takeWhile_take (c : Nat) : ∀ l : List Nat, l.take (idx c l) = l.takeWhile (· != c)
  | [] => rfl
  | x :: l => by
    unfold idx
    rw [List.takeWhile_cons]
    by_cases h : x = c
    · simp [h]
    · simp [h]; exact takeWhile_take c l
theorem dropWhile_drop (c : Nat) : ∀ l : List Nat, l.drop (idx c l) = l.dropWhile (· != c)
  | [] => rfl
  | x :: l => by
    unfold idx
    rw [List.takeWhile_cons, List.dropWhile_cons]
    by_cases h : x = c
    · simp [h]
    · simp [h]; exact dropWhile_drop c l
def befC (c : Nat) (l : List Nat) : List Nat := l.takeWhile (· != c)
def aftC (c : Nat) (l : List Nat) : List Nat := (l.dropWhile (· != c)).tail
theorem part_tx (c : Nat) (l : List Nat) : Txt.partition (tx l) (tx [c]) = if c ∈ l then (tx (befC c l), tx [c], tx (aftC c l)) else (tx l, tx [], tx []) := by
  unfold Txt.partition
  rcases occ_tx c l with ⟨h, hm⟩ | ⟨r, h, hm⟩
  · rw [h, if_neg hm]; rfl
  · rw [h, if_pos hm]
    show (Builtin.Str.strSub (tx l) 0 (idx c l), tx [c], Builtin.Str.strSub (tx l) (idx c l + 1) (tx l).length) = _
    rw [sub_tx, sub_tx, tx_len, List.take_length, List.drop_zero, takeWhile_take, ← List.tail_drop, dropWhile_drop]
    rfl
theorem rmpre_tx (c : Nat) (l : List Nat) : Txt.removeprefix (tx l) (tx [c]) = tx (if l.head? = some c then l.tail else l) := by
  rw [StrLaws.removeprefix_eq]
  have h := at_one l c 0
  unfold StrLaws.At at h
  have e : (decide (0 + (tx [c]).length ≤ (tx l).length) && Builtin.Str.subAt (tx l) (tx [c]) 0) = decide (l.head? = some c) := by
    rw [Bool.eq_iff_iff, Bool.and_eq_true, decide_eq_true_eq, decide_eq_true_eq, h, List.head?_eq_getElem?]
  rw [e]
  by_cases q : l.head? = some c
  · rw [if_pos (decide_eq_true q), if_pos q]
    apply eq_tx
    rw [List.toList_toArray, tx_list, tx_len, tx_len]
    cases l with
    | nil => rfl
    | cons x l => simp
  · rw [if_neg (by simpa using q), if_neg q]
def rstripL (c : Nat) (l : List Nat) : List Nat := (l.reverse.dropWhile (· == c)).reverse
theorem take_rev (c : Nat) (l : List Nat) : l.take (l.length - (l.reverse.takeWhile (· == c)).length) = rstripL c l := by
  unfold rstripL
  have e := List.takeWhile_append_dropWhile (p := (· == c)) (l := l.reverse)
  have e2 := congrArg List.reverse e
  rw [List.reverse_append, List.reverse_reverse] at e2
  have hl := congrArg List.length e2
  rw [List.length_append, List.length_reverse, List.length_reverse] at hl
  generalize l.reverse.dropWhile (· == c) = a at e2 hl ⊢
  generalize l.reverse.takeWhile (· == c) = b at e2 hl ⊢
  rw [← e2, List.take_append_of_le_length (by simp <;> omega)]
  rw [List.take_of_length_le (by simp)]
theorem rstrip_tx (c : Nat) (l : List Nat) : Txt.rstripChars (tx l) (tx [c]) = tx (rstripL c l) := by
  unfold Txt.rstripChars
  rw [PyProof.Rows.stripBy_eq]
  have e : stripLo (tx [c]).cps.contains false (tx l) = 0 := rfl
  rw [e, sub_tx, List.drop_zero]
  unfold stripHi
  rw [if_pos rfl, tx_list, List.drop_zero, tx_len]
  have g : (tx [c]).cps.contains = (· == c) := by
    funext x
    rw [← Array.contains_toList, tx_list, Bool.eq_iff_iff]
    simp
  rw [g, take_rev]
theorem zfill_tx (l : List Nat) (i : Int) (h : ∀ c, l.head? = some c → c ≠ 43 ∧ c ≠ 45) : Txt.zfill (tx l) i = tx (List.replicate (i.toNat - l.length) 48 ++ l) := by
  unfold Txt.zfill
  rw [tx_len]
  split
  · rename_i q
    have e : i.toNat - l.length = 0 := by omega
    rw [e]; rfl
  · have e : zfilled (tx l) (i.toNat - l.length) = Builtin.Str.padded (tx l) (i.toNat - l.length) 0 48 := by
      unfold zfilled
      have g : (tx l).cps[0]? = l.head? := by
        rw [← Array.getElem?_toList, tx_list, List.head?_eq_getElem?]
      rw [g]
      cases l with
      | nil => rfl
      | cons x r =>
        have := h x rfl
        show (match some x with | some 43 | some 45 => _ | _ => _) = _
        split
        · rename_i q; cases q; exact absurd rfl this.1
        · rename_i q; cases q; exact absurd rfl this.2
        · rfl
    rw [e]
    apply eq_tx
    show (Array.replicate _ _ ++ (tx l).cps ++ Array.replicate _ _).toList = _
    rw [Array.toList_append, Array.toList_append, tx_list]
    simp
theorem ljust_tx (l : List Nat) (i : Int) (c : Nat) : Txt.ljustF (tx l) i c = tx (l ++ List.replicate (i.toNat - l.length) c) := by
  apply eq_tx
  rw [PyProof.Rows.ljustF_list, tx_list, tx_len]
theorem join_txt : ∀ ls : List (List Nat), Txt.join (tx []) (ls.map tx) = tx ls.flatten := by
  intro ls
  have e : Txt.join (tx []) (ls.map tx) = Str.join (tx []) (ls.map tx) := StrLaws.glued_eq_join _ _
  rw [e]
  clear e
  have : ∀ ls : List (List Nat), Str.join (tx []) (ls.map tx) = tx ls.flatten := by
    intro ls
    induction ls with
    | nil => rfl
    | cons a r ih =>
      cases r with
      | nil => simp [Str.join]
      | cons b r =>
        show tx a ++ tx [] ++ Str.join (tx []) ((b :: r).map tx) = _
        rw [ih]; simp
  exact this ls
theorem foldl_app (x : Array Nat) : ∀ (n : Nat) (acc : Array Nat), ((List.replicate n x).foldl (· ++ ·) acc).toList = acc.toList ++ (List.replicate n x.toList).flatten
  | 0, acc => by simp
  | n + 1, acc => by
    rw [List.replicate_succ, List.foldl_cons, foldl_app x n, Array.toList_append, List.replicate_succ, List.flatten_cons, List.append_assoc]
theorem flat_one (c : Nat) : ∀ n : Nat, (List.replicate n [c]).flatten = List.replicate n c
  | 0 => rfl
  | n + 1 => by rw [List.replicate_succ, List.flatten_cons, flat_one c n]; rfl
theorem rep_tx (c : Nat) (n : Int) : repS (tx [c]) n = tx (List.replicate n.toNat c) := by
  unfold repS
  split
  · rename_i h
    have : n.toNat = 0 := by omega
    rw [this]; rfl
  · split
    · rename_i h1 h2
      have : n = 1 := by simpa using h2
      subst this; rfl
    · apply eq_tx
      show ((List.replicate n.toNat (tx [c]).cps).foldl (· ++ ·) #[]).toList = _
      rw [foldl_app, tx_list, flat_one]; simp
/-- split at one sign -/
def splitL (c : Nat) : List Nat → List (List Nat)
  | [] => [[]]
  | x :: l => if x = c then [] :: splitL c l else match splitL c l with
    | p :: r => (x :: p) :: r
    | [] => [[x]]
theorem splitL_ne (c : Nat) : ∀ l, splitL c l ≠ []
  | [] => by simp [splitL]
  | x :: l => by
    unfold splitL
    split
    · simp
    · split <;> simp
theorem splitL_app (c : Nat) : ∀ (p l : List Nat), c ∉ p → splitL c (p ++ c :: l) = p :: splitL c l
  | [], l, _ => by simp [splitL]
  | x :: p, l, h => by
    have hx : x ≠ c := fun e => h (by simp [e])
    have ih := splitL_app c p l fun m => h (List.mem_cons_of_mem _ m)
    rw [List.cons_append, splitL, if_neg hx, ih]
theorem splitL_free (c : Nat) : ∀ (p : List Nat), c ∉ p → splitL c p = [p]
  | [], _ => rfl
  | x :: p, h => by
    have hx : x ≠ c := fun e => h (by simp [e])
    rw [splitL, if_neg hx, splitL_free c p fun m => h (List.mem_cons_of_mem _ m)]
theorem split_join (c : Nat) : ∀ (ps : List Str), ps ≠ [] → (∀ p ∈ ps, c ∉ p.cps.toList) → (splitL c (Str.join (tx [c]) ps).cps.toList).map tx = ps
  | [], h, _ => absurd rfl h
  | [p], _, h => by
    show (splitL c p.cps.toList).map tx = _
    rw [splitL_free c _ (h p (by simp))]
    simp [← tx_of]
  | p :: q :: r, _, h => by
    have ih := split_join c (q :: r) (by simp) fun z hz => h z (List.mem_cons_of_mem _ hz)
    show (splitL c (p ++ tx [c] ++ Str.join (tx [c]) (q :: r)).cps.toList).map tx = _
    have e : (p ++ tx [c] ++ Str.join (tx [c]) (q :: r)).cps.toList = p.cps.toList ++ c :: (Str.join (tx [c]) (q :: r)).cps.toList := by
      conv => lhs; rw [tx_of p, tx_of (Str.join (tx [c]) (q :: r)), tx_app, tx_app, tx_list]
      simp
    rw [e, splitL_app c _ _ (h p (by simp)), List.map_cons, ih, ← tx_of]
theorem split_tx (c : Nat) (l : List Nat) : Txt.split (tx l) (tx [c]) = (splitL c l).map tx := by
  have h1 := StrLaws.join_split (tx l) (tx [c])
  have h2 := StrLaws.split_free (tx l) c
  have h3 := PyProof.Rows.split_pos (tx l) (tx [c])
  have h4 := split_join c (Txt.split (tx l) (tx [c])) (by intro e; rw [e] at h3; simp at h3) h2
  rw [h1, tx_list] at h4
  exact h4.symm
/-! slices -/
theorem cutS_to (l : List Nat) (k : Int) (h : 0 ≤ k) : cutS (tx l) none (some k) = tx (l.take k.toNat) := by
  apply eq_tx
  unfold cutS
  rw [List.toList_toArray, tx_list, tx_len, HT.sIx_none, List.drop_zero, Nat.sub_zero]
  obtain ⟨n, rfl⟩ := Int.eq_ofNat_of_zero_le h
  rw [HT.sIx_nat, Int.toNat_natCast]
  by_cases q : n ≤ l.length
  · rw [Nat.min_eq_left q]
  · rw [Nat.min_eq_right (by omega), List.take_length, List.take_of_length_le (by omega)]
theorem cutS_from (l : List Nat) (k : Int) (h : 0 ≤ k) : cutS (tx l) (some k) none = tx (l.drop k.toNat) := by
  apply eq_tx
  unfold cutS
  rw [List.toList_toArray, tx_list, tx_len, HT.sIx_none]
  obtain ⟨n, rfl⟩ := Int.eq_ofNat_of_zero_le h
  rw [HT.sIx_nat, Int.toNat_natCast]
  by_cases q : n ≤ l.length
  · rw [Nat.min_eq_left q, List.take_of_length_le (by simp)]
  · rw [Nat.min_eq_right (by omega), List.drop_length, List.drop_of_length_le (by omega)]; simp
@[simp] theorem e_slS (z : Str) (lo hi : Option Int) : slE (.str z) lo hi = if z.length ≤ 1000000 then some (.str (cutS z lo hi)) else none := rfl
@[simp] theorem e_ixS (l : List Nat) (i : Int) : ixD (.str (tx l)) i = if l.length ≤ 1000000 then (atI l i).map fun c => .str (tx [c]) else none := by
  show (if (tx l).length ≤ 1000000 then (atI (tx l).cps.toList i).map fun c => D.str ⟨#[c]⟩ else none) = _
  rw [tx_len, tx_list]; rfl
/-! the digits of a number -/
def decs (n : Nat) : List Nat := (Nat.toDigits 10 n).map Char.toNat
theorem decs_lt {n : Nat} (h : n < 10) : decs n = [48 + n] := by
  unfold decs
  rw [Nat.toDigits_of_lt_base h]
  have : ∀ m, m < 10 → (Nat.digitChar m).toNat = 48 + m := by decide
  simp [this n h]
theorem decs_ge {n : Nat} (h : 10 ≤ n) : decs n = decs (n / 10) ++ [48 + n % 10] := by
  unfold decs
  rw [Nat.toDigits_of_base_le (by decide) h]
  have : ∀ m, m < 10 → (Nat.digitChar m).toNat = 48 + m := by decide
  simp [this (n % 10) (Nat.mod_lt _ (by decide))]
theorem ofInt_tx (n : Nat) : Str.ofString (toString (n : Int)) = tx (decs n) := by
  rw [tx_ofString]
  have e : toString (n : Int) = Nat.repr n := rfl
  rw [e, Nat.repr_eq_ofList_toDigits, String.toList_ofList]
  rfl
open NumText in
theorem decs_spec (n : Nat) : AllDigits (decs n) ∧ decs n ≠ [] ∧ digitsVal (decs n) = n ∧ (0 < n → (decs n).head? ≠ some 48) := by
  induction n using Nat.strongRecOn with
  | ind n ih =>
    by_cases h : n < 10
    · rw [decs_lt h]
      refine ⟨fun c hc => ?_, by simp, ?_, fun hp => ?_⟩
      · simp at hc; omega
      · show 0 * 10 + (48 + n - 48) = n; omega
      · simp; omega
    · have h : 10 ≤ n := by omega
      obtain ⟨a, b, c, d⟩ := ih (n / 10) (by omega)
      rw [decs_ge h]
      refine ⟨fun x hx => ?_, by simp, ?_, fun _ => ?_⟩
      · rw [List.mem_append] at hx
        rcases hx with hx | hx
        · exact a x hx
        · simp at hx; omega
      · unfold digitsVal at c ⊢
        rw [List.foldl_append, c]
        show n / 10 * 10 + (48 + n % 10 - 48) = n
        omega
      · have d := d (by omega)
        cases q : decs (n / 10) with
        | nil => exact absurd q b
        | cons x r => rw [q] at d; simpa using d
theorem decs_len : ∀ (k n : Nat), n < 10 ^ (k + 1) → (decs n).length ≤ k + 1
  | 0, n, h => by rw [decs_lt (by simpa using h)]; simp
  | k + 1, n, h => by
    by_cases q : n < 10
    · rw [decs_lt q]; simp
    · rw [decs_ge (by omega), List.length_append]
      have := decs_len k (n / 10) (by rw [Nat.pow_succ] at h; omega)
      simp; omega
theorem decs_len_ge : ∀ (k n : Nat), 10 ^ k ≤ n → k + 1 ≤ (decs n).length
  | 0, n, h => by
    have := (decs_spec n).2.1
    cases q : decs n with
    | nil => exact absurd q this
    | cons x r => simp
  | k + 1, n, h => by
    have h10 : 10 ≤ n := by
      have : 10 ^ 1 ≤ 10 ^ (k + 1) := Nat.pow_le_pow_right (by decide) (by omega)
      omega
    rw [decs_ge h10, List.length_append]
    have := decs_len_ge k (n / 10) (by rw [Nat.pow_succ] at h; omega)
    simp; omega
open NumText in
theorem int_tx {l : List Nat} (h : AllDigits l) (h1 : l ≠ []) (h2 : l.length ≤ 640) : PySem.intText? (tx l) = some ((digitsVal l : Nat) : Int) := by
  have := intText_digits (x := tx l) (by rw [tx_list]; exact h) (by rw [tx_list]; exact h1) (by rw [tx_len]; omega)
  rw [tx_list] at this
  exact this
def logOk (i : Int) : Bool := decide (i.natAbs.log2 < 1920)
def intS (i : Int) : Str := Str.ofString (toString i)
theorem intS_tx (n : Nat) : intS (n : Int) = tx (decs n) := ofInt_tx n
@[simp] theorem e_str (i : Int) : dStr (.int i) = if logOk i = true then some (.str (intS i)) else none := by
  show (if i.natAbs.log2 < 1920 then some (D.str (intS i)) else none) = _
  unfold logOk
  by_cases h : i.natAbs.log2 < 1920
  · rw [if_pos h, if_pos (decide_eq_true h)]
  · rw [if_neg h, if_neg (by simpa using h)]
@[simp] theorem e_intS (x : Str) : dIntS (.str x) = if x.length ≤ 640 then (PySem.intText? x).map .int else none := rfl
@[simp] theorem e_allL (ds : List D) : dAll (.lst ds) = (allBl ds).map fun bs => .bl (bs.all id) := rfl
theorem allBl_map (bs : List Bool) : allBl (bs.map .bl) = some bs := by
  induction bs with
  | nil => rfl
  | cons b r ih => show (allBl (r.map .bl)).map _ = _; rw [ih]; rfl
@[simp] theorem e_mulS (x : Str) (n : Int) : dMulS (.str x) (.int n) = if x.length = 1 ∧ -1000 ≤ n ∧ n ≤ 1000 then some (.str (repS x n)) else none := rfl
@[simp] theorem e_gP (g : D → List D → Option D) (d : D) (ds : List DV) (s : S) : gP g (.p d) ds s = (match allP ds with | some xs => ret (g d xs) s | none => none) := rfl
@[simp] theorem e_zfill (x : Str) (i : Int) : dZfill (.str x) [.int i] = if PadOk i = true then some (.str (Txt.zfill x i)) else none := rfl
@[simp] theorem e_rstrip (x y : Str) : dRstrip (.str x) [.str y] = if x.length ≤ 1000000 then some (.str (Txt.rstripChars x y)) else none := rfl
@[simp] theorem e_rmpre (x y : Str) : dRmpre (.str x) [.str y] = if x.length ≤ 1000000 then some (.str (Txt.removeprefix x y)) else none := rfl
@[simp] theorem e_part (x y : Str) : dPart (.str x) [.str y] = if (y.length == 0) = false ∧ x.length ≤ 1000000 then some (.tup [.str (Txt.partition x y).1, .str (Txt.partition x y).2.1, .str (Txt.partition x y).2.2]) else none := rfl
@[simp] theorem e_split (x y : Str) : dSplit (.str x) [.str y] = if (y.length == 0) = false ∧ x.length ≤ 1000000 then some (.lst ((Txt.split x y).map .str)) else none := rfl
@[simp] theorem e_join (a : Str) (ds : List D) : dJoin (.str a) [.lst ds] = (match allS ds with | some ys => if (ys.map (·.length)).sum + ys.length * a.length ≤ 16777216 then some (.str (Txt.join a ys)) else none | none => none) := rfl
theorem allS_map (ys : List Str) : allS (ys.map .str) = some ys := by
  induction ys with
  | nil => rfl
  | cons b r ih => show (allS (r.map .str)).map _ = _; rw [ih]; rfl
def sign1 (f : Str) : Nat := f.cps.getD 0 0
@[simp] theorem e_sign1 (c : Nat) : sign1 (tx [c]) = c := rfl
@[simp] theorem e_ljust (x : Str) (i : Int) (f : Str) : dLjust (.str x) [.int i, .str f] = if PadOk i = true ∧ f.length = 1 then some (.str (Txt.ljustF x i (sign1 f))) else none := rfl
theorem index_tx {c : Nat} {l : List Nat} (h : c ∈ l) : dIndex (.str (tx l)) [.str (tx [c])] = some (.int (idx c l : Nat)) := by
  unfold dIndex
  rcases occ_tx c l with ⟨_, hm⟩ | ⟨r, e, _⟩
  · exact absurd h hm
  · simp only [e]
@[simp] theorem e_fmt (m : EM) (s : S) : mFmt m s = (bnd m (pur fun d => ret (dFmt d))) s := rfl
@[simp] theorem e_fmtI (i : Int) : dFmt (.int i) = if logOk i = true then some (.str (intS i)) else none := e_str i
@[simp] theorem e_fmtS (y : Str) : dFmt (.str y) = if y.length ≤ 1000000 then some (.str y) else none := rfl
@[simp] theorem e_jNil (acc : Str) (s : S) : jNil acc s = some (.ok acc s.m) := rfl
def jK (r : JM) (acc : Str) (d : D) : Mi Str := match d with
  | .str y => fun s => if acc.length + y.length ≤ 1000000 then r (acc ++ y) s else none
  | _ => fun _ => none
@[simp] theorem e_jCons (m : EM) (r : JM) (acc : Str) (s : S) : jCons m r acc s = (bnd m (pur (jK r acc))) s := rfl
@[simp] theorem e_jK (r : JM) (acc y : Str) (s : S) : jK r acc (.str y) s = if acc.length + y.length ≤ 1000000 then r (acc ++ y) s else none := rfl
@[simp] theorem e_joined (r : JM) (s : S) : mJoined r s = (bnd (r Str.empty) fun y s => some (.ok (.p (.str y)) s.m)) s := rfl
theorem log_ok {n : Nat} (h : n ≤ 1000000000000000000) : n.log2 < 1920 := by
  by_cases q : n = 0
  · subst q; decide
  · exact Nat.lt_of_lt_of_le ((Nat.log2_lt q).mpr (Nat.lt_of_le_of_lt h (by decide : 1000000000000000000 < 2 ^ 64))) (by decide)
theorem logOk_of {i : Int} (h : i.natAbs ≤ 1000000000000000000) : logOk i = true := decide_eq_true (log_ok h)
theorem pad4 : PadOk 4 = true := by decide
@[simp] theorem e_itS (l : List Nat) : itS (.str (tx l)) = some (l.map fun c => .p (.str (tx [c]))) := by
  show some ((tx l).cps.toList.map _) = _
  rw [tx_list]; rfl
@[simp] theorem e_tyS (M : List O) (x : Str) : tyOk "str" M (.p (.str x)) = true := rfl
@[simp] theorem e_tyL (M : List O) (x : List D) : tyOk "list" M (.p (.lst x)) = true := rfl
@[simp] theorem e_gs0 (s : S) : gsNil [] s = some s := rfl
@[simp] theorem e_gs1 (m : GM) (n : List DV → S → Option S) (d : DV) (r : List DV) (s : S) : gsCons m n (d :: r) s = (match m d s with | some s1 => n r s1 | none => none) := rfl
@[simp] theorem e_gT (n : Nat) (m : List DV → S → Option S) (xs : List D) (s : S) : gT n m (.p (.tup xs)) s = if xs.length = n then m (xs.map .p) s else none := rfl
theorem pad_digits {l : List Nat} (k : Nat) (h : NumText.AllDigits l) : NumText.AllDigits (l ++ List.replicate k 48) := fun c hc => by
  rw [List.mem_append] at hc
  rcases hc with hc | hc
  · exact h c hc
  · have := List.eq_of_mem_replicate hc; omega
end DL
namespace DL
open PySem L2
/-! loops and comprehensions with what stays true -/
theorem wpS.imp {o : Option (Fl × S)} {P Q : Fl → S → Prop} (h : wpS o P) (k : ∀ f s, P f s → Q f s) : wpS o Q := by
  obtain ⟨f, s, e, n, p⟩ := h
  exact ⟨f, s, e, n, k f s p⟩
/-- a loop whose body goes on, or returns -/
theorem w_loop {g : GM} {b : SM} {Inv : S → Prop} {R : DV → S → Prop} : ∀ (ds : List DV) (s : S), Inv s →
    (∀ d ∈ ds, ∀ s, Inv s → ∃ s1, g d s = some s1 ∧ wpS (b s1) (fun f s2 => (f = .nx ∧ Inv s2) ∨ (∃ v, f = .rt v ∧ R v s2))) →
    wpS (loopS g b ds s) (fun f s2 => (f = .nx ∧ Inv s2) ∨ (∃ v, f = .rt v ∧ R v s2))
  | [], s, h, _ => by simp [h]
  | d :: ds, s, h, k => by
    obtain ⟨s1, h1, f, s2, e, n, p⟩ := k d (by simp) s h
    rw [loopS_cons, h1]
    dsimp only
    rw [e]
    rcases p with ⟨rfl, p⟩ | ⟨v, rfl, p⟩
    · exact w_loop ds s2 p fun x hx => k x (List.mem_cons_of_mem _ hx)
    · exact ⟨_, _, rfl, rfl, .inr ⟨v, rfl, p⟩⟩
/-- a comprehension that draws -/
theorem compL_draw {l : List (Option DV)} {g : GM} {e : EM} {Inv : List O → Prop} {R : D → Prop} : ∀ (ds : List DV) (acc : List D) (M : List O), Inv M → (∀ y ∈ acc, R y) → acc.length + ds.length ≤ 1000000 →
    (∀ d ∈ ds, ∀ M, Inv M → ∃ s1, g d ⟨l, M⟩ = some s1 ∧ wpB (e s1) (fun v M2 => ∃ y, v = .p y ∧ R y ∧ Inv M2)) →
    ∃ ys M', compL l g tYesM e ds acc M = some (ys, M') ∧ Inv M' ∧ (∀ y ∈ ys, R y) ∧ ys.length = acc.length + ds.length
  | [], acc, M, h, ha, _, _ => ⟨acc, M, rfl, h, ha, rfl⟩
  | d :: ds, acc, M, h, ha, hl, k => by
    obtain ⟨s1, h1, v, M2, e1, y, rfl, hy, h2⟩ := k d (by simp) M h
    have hl' : acc.length + (ds.length + 1) ≤ 1000000 := hl
    obtain ⟨ys, M', e2, i2, r2, l2⟩ := compL_draw ds (acc ++ [y]) M2 h2 (fun z hz => by
      rw [List.mem_append] at hz
      rcases hz with hz | hz
      · exact ha z hz
      · simp at hz; rw [hz]; exact hy) (by simp; omega) fun x hx => k x (List.mem_cons_of_mem _ hx)
    refine ⟨ys, M', ?_, i2, r2, by rw [l2]; simp; omega⟩
    unfold compL
    rw [h1]
    dsimp only
    have q : tYesM s1 = some (.ok (.p (.bl true)) s1.m) := rfl
    rw [q]
    dsimp only
    have q2 : e ⟨s1.l, s1.m⟩ = some (.ok (.p y) M2) := e1
    rw [q2]
    dsimp only
    rw [if_pos (by omega)]
    exact e2
end DL
namespace DL
open PySem L2
open PyProof.Rows (AllBare IntsAre)
/-! ### the law's own def, run by the caller itself: no repr is under way -/
section
variable {P : Program} {w : World} {K : PySem.W.Frag} {mg : Str → Option Value} {base : Heap} {x qual : Str} {st : Stmt} {f a : Addr} {fd : FuncData} {N : List Str} {k : Nat}
def Told (s₁ : Shared) (r : Result) (s' : Shared) : Prop := r = .ok (.ret (.bool true)) ∧ OldK s₁.heap s'.heap ∧ s'.os = s₁.os ∧ AllBare s'.gens
abbrev TopB (P : Program) (w : World) (K : PySem.W.Frag) (mg : Str → Option Value) (base : Heap) (N : List Str) (qual : Str) (st : Stmt) (f : Addr) (k : Nat) (m : SM) : Prop :=
  ∀ (cdv : Value) (s : Shared) (H : Hp) (E : XK), Room k (callerA.deeper (PyProof.Rows.envOfC qual (defScope st) s.heap.objs.size f cdv)) →
    ∃ t, DSs K (cxOf (L2.CX P w) P w K mg base N qual (defScope st) f cdv callerA [] s H E) (WE0 E) (defBody st) t m
/-- from the entry on -/
theorem run_top {m : SM} {s₁ : Shared} {H : Hp} {ns : List Int} {p : Str} (F : Fun K x qual st f fd) (Sc : FnScope N [p] (defScope st)) (hr : Room (k + 1) callerA) (body : TopB P w K mg base N qual st f k m)
    (e0 : Env0 P w K mg base callerA [] s₁ H) (hb : BindsTo s₁ fd ⟨[.ref a], []⟩ [(p, .ref a)]) (hS : SqL K H a (ns.map V.int)) (hO : Only H) (good : runA N.length m [.scr (ns.map .int)] = some (.ok (.bl true))) :
    codeAny (model P w) callerA (.call (.ref f) ⟨[.ref a], []⟩) (Told s₁) s₁ := by
  obtain ⟨oc, od, kV, doc, pm, an, cdv, ct, osl, rfl, lk, hcd⟩ := F.ex
  have inS : ∀ b o, base.get? b = some o → s₁.heap.get? b = some o := fun b o q => (e0.bs b o q).1
  have KS : K.In s₁.heap := e0.mod.kin.keeps inS
  have NL : s₁.heap.NoLimit := e0.mod.nolimit.keeps inS
  refine codeAny_mono (R := CR (L2.CX P w) [] P w H s₁ (fun v _ => v = V.bl true) (fun _ _ _ => False)) ?_ fun r s' h => ?_
  rotate_left
  · cases r with
    | error e =>
      obtain ⟨_, _, _, _, _, _, _, _, _, _, _, _, z⟩ := (show L2.CX P w [] H s₁ (fun _ _ _ => False) e s' from h)
      exact z.elim
    | ok fl =>
      cases fl with
      | ret u =>
        obtain ⟨v, H', os, bare, un, hok, rv, e⟩ := h
        have e : v = V.bl true := e
        subst e
        obtain rfl : u = Value.bool true := rv
        refine ⟨rfl, OldK.of_keep fun b o e => ?_, os, bare⟩
        rcases hO b with z | ⟨ob, xs, z⟩
        · exact un.keep b o e z (by intro q; exact absurd (show b ∈ ([] : List Addr) from q) (by simp)) (by simp)
        · obtain ⟨e1, _⟩ := e0.hok b _ z
          obtain ⟨e2, _⟩ := hok b _ (un.frzs b ob _ z)
          rw [e] at e1; cases e1
          exact e2
      | next => exact False.elim h
      | brk => exact False.elim h
      | cont => exact False.elim h
  -- the frame is made, the script bound
  refine PySem.codeAny_call_function hr.depth (KS _ _ lk) rfl Sc.co Sc.gen rfl (PySem.W.codeRec_of KS hcd) (hb _ _ _ _ ?_)
  refine PySem.wpAny_newFunctionEnv_cells Sc.kind (fun y hy => ?_) fun env he s2 made => ?_
  · obtain ⟨n, v⟩ := y
    rcases Sc.par n (List.of_mem_zip (l₁ := [p]) (l₂ := [Value.ref a]) hy).1 with q | q
    · exact .inl q
    · exact .inr ⟨q, PySem.W.cellsFrom_some _ _ _ (.inl q)⟩
  subst he
  refine ⟨NL.keeps made.toInCall.keep, PySem.codeAny_func ?_⟩
  obtain ⟨t, d⟩ := body cdv s₁ H (fun _ _ _ => False) (hr.deeper _)
  have I := inv_start (CX := L2.CX P w) (E := fun _ _ _ => False) Sc hr.hd e0 (vs := [.ref a]) rfl (.cons rfl .nil) made
  have q : t { nx := fun _ H' => (fun v (_ : Hp) => v = V.bl true) .non H', rt := fun v _ => v = V.bl true } (L2.start N [.ref a]) H := by
    have w0 : Wf K H H [] [] := ⟨Same.refl _, rfl, List.nodup_nil, (by simp), fun n a o h => by simp at h⟩
    unfold runA at good
    cases z : m ⟨slotsOf N.length ([D.scr (ns.map .int)].map .p), []⟩ with
    | none => rw [z] at good; cases good
    | some fs =>
      rw [z] at good
      obtain ⟨fl, s1⟩ := fs
      refine d.so.ok (L2.start N [.ref a]) H _ H [] _ _ w0 (start_rep (.cons (show RepV K H [] (.ref a) (.p (.scr (ns.map .int))) from Rep.scr hS (intsRep ns)) .nil)) z ?_
      cases fl with
      | nx => cases good
      | rt d =>
        cases d with
        | p d => cases good; exact fun v Z' H' I' w' x' r' => by cases r'; rfl
        | o n => cases good
      | ex c fs => cases good
      | bk => cases good
      | ct => cases good
  refine wpAny_mono (d.ps.run [] s2 (L2.start N [.ref a]) H _ I q) (fun fl s' h => ?_) fun e s' h => ?_
  · cases fl with
    | ret u =>
      obtain ⟨v, σ', H', J, rv, e⟩ := h
      exact ⟨v, H', J.os, J.bare, J.base, J.hok, rv, e⟩
    | next =>
      obtain ⟨σ', H', J, e⟩ := h
      cases e
    | brk =>
      obtain ⟨_, _, _, e⟩ := h
      exact False.elim e
    | cont =>
      obtain ⟨_, _, _, e⟩ := h
      exact False.elim e
  · exact h
/-- the entry: what is tracked is the script at most -/
theorem entry {H : Hp} {s₁ : Shared} {mb : Str → Option Value} {vs : List Value} (KX : K.In s₁.heap) (hns : s₁.heap.Ns mainGlobals mg) (hb : s₁.heap.Ns builtinsNs mb) (hbb : ∀ x : Str, x ≠ "__name__" → mb x = bootBuiltins x) (hlim : s₁.heap.NoLimit) (hg : s₁.gens = #[])
    (ha : s₁.heap.get? a = some { cls := .type "list", data := .seq vs.toArray }) (hok : HOk P w H s₁.heap) (one : ∀ b, H b ≠ none → b = a) (out : H a ≠ none → K.lookup a = none) :
    Env0 P w K mg (hidT s₁.heap H) callerA [] s₁ H ∧ K.In (hidT s₁.heap H) ∧ (hidT s₁.heap H).Ns mainGlobals mg := by
  have free : ∀ {b : Addr}, b ≠ a → H b = none := fun {b} n => by
    cases q : H b with
    | none => rfl
    | some u => exact absurd (one b (by rw [q]; simp)) n
  have kin : K.In (hidT s₁.heap H) := fun b o e => by
    refine hidT_get (KX b o e) ?_
    by_cases n : b = a
    · subst n
      cases q : H b with
      | none => rfl
      | some u => rw [out (by rw [q]; simp)] at e; cases e
    · exact free n
  have ns : ∀ {b : Addr} {m : Str → Option Value}, s₁.heap.Ns b m → (hidT s₁.heap H).Ns b m := fun {b m} h => by
    obtain ⟨o, es, ep, e, d, r⟩ := h
    refine ⟨o, es, ep, hidT_get e ?_, d, r⟩
    by_cases n : b = a
    · subst n
      rw [ha] at e; cases e
      have d' : Data.seq vs.toArray _ = Data.dict es ep := d
      cases d'
    · exact free n
  refine ⟨⟨rfl, ⟨kin, ns hns, ⟨mb, ns hb, hbb⟩, ?_⟩, fun b o e => of_hidT e, Nat.le_of_eq (hidT_size _ _), trivial, fun b q => absurd (show b ∈ ([] : List Addr) from q) (by simp), hok, .of_eq hg⟩, kin, ns hns⟩
  obtain ⟨mc, h1, h2⟩ := hlim
  exact ⟨mc, ns h1, h2⟩
theorem law_top {m : SM} {s₁ : Shared} {mb : Str → Option Value} {vs : List Value} {ns : List Int} {p : Str} (KX : K.In s₁.heap) (hns : s₁.heap.Ns mainGlobals mg) (hb : s₁.heap.Ns builtinsNs mb) (hbb : ∀ x : Str, x ≠ "__name__" → mb x = bootBuiltins x) (hlim : s₁.heap.NoLimit) (hg : s₁.gens = #[])
    (ha : s₁.heap.get? a = some { cls := .type "list", data := .seq vs.toArray }) (hi : IntsAre vs ns) (hl : ns.length ≤ sizeLine) (hr : Room (k + 1) callerA) (F : Fun K x qual st f fd) (Sc : FnScope N [p] (defScope st)) (hbind : ∀ (s : Shared) (u : Value), BindsTo s fd ⟨[u], []⟩ [(p, u)])
    (body : ∀ base : Heap, K.In base → base.Ns mainGlobals mg → TopB P w K mg base N qual st f k m) (good : runA N.length m [.scr (ns.map .int)] = some (.ok (.bl true))) :
    codeAny (model P w) callerA (.call (.ref f) ⟨[.ref a], []⟩) (Told s₁) s₁ := by
  have rv := vals_ints hi
  cases hk : K.lookup a with
  | some o =>
    have e := KX a o hk
    rw [ha] at e
    cases e
    obtain ⟨e0, k0, n0⟩ := entry (P := P) (w := w) (H := fun _ => none) KX hns hb hbb hlim hg ha (fun b u z => by have z' : (none : Option HO) = some u := z; cases z') (fun b z => absurd rfl z) (fun z => absurd rfl z)
    exact run_top F Sc hr (body _ k0 n0) e0 (hbind _ _) (.inr ⟨_, vs.toArray, _, hk, rfl, rfl, rfl, by rw [List.size_toArray, hi.length]; exact hl, by simpa using rv⟩) (fun _ => .inl rfl) good
  | none =>
    obtain ⟨e0, k0, n0⟩ := entry (P := P) (w := w) (H := fun b => if b = a then some (.frz { cls := .type "list", data := .seq vs.toArray } (.lst (ns.map V.int))) else none) KX hns hb hbb hlim hg ha (fun b u z => by
      by_cases n : b = a
      · have z' := (if_pos n).symm.trans z
        cases z'
        subst n
        exact ⟨ha, by rw [List.length_map]; exact hl, vs, _, rv, ha⟩
      · have z' := (if_neg n).symm.trans z
        cases z') (fun b z => by
      by_cases n : b = a
      · exact n
      · exact absurd (if_neg n) z) (fun _ => hk)
    refine run_top F Sc hr (body _ k0 n0) e0 (hbind _ _) (.inl (.inr ⟨{ cls := .type "list", data := .seq vs.toArray }, if_pos rfl⟩)) (fun b => ?_) good
    by_cases n : b = a
    · exact .inr ⟨_, _, if_pos n⟩
    · exact .inl (if_neg n)
end
theorem walk_dlG {l : PySem.W.OpenLaw} {k : Nat} {q : Program} {loose : List Str} {XP : (Str → Option Value) → Heap → Prop} {YP : World → Heap → Prop} {d : DefRec} {K : Params → PySem.W.Frag} {x qual : Str} {st : Stmt} {N : List Str} {m : SM} (hn : l.most = some 63) (hdf : d.params.defaults = []) (hr : Room (k + 1) callerA)
    (hY : ∀ (w : World) (h : Heap), YP w h → (K w.params).In h) (Sc : FnScope N ["script"] (defScope st))
    (F : ∀ (w : World) (mg : Str → Option Value) (fa : Addr) (h : Heap), (K w.params).In h → h.Ns mainGlobals mg → mg d.name = some (.ref fa) →
      ∃ fd : FuncData, Fun (K w.params) x qual st fa fd ∧ (∀ (s : Shared) (u : Value), BindsTo s fd ⟨[u], []⟩ [("script", u)]) ∧ ∀ base : Heap, (K w.params).In base → base.Ns mainGlobals mg → TopB l.prog w (K w.params) mg base N qual st fa k m)
    (good : ∀ ns : List Int, ns.length ≤ 63 → (∀ z ∈ ns, Builtin.Int.intBits z ≤ 1048576) → runA N.length m [.scr (ns.map .int)] = some (.ok (.bl true))) :
    PySem.W.WalkO q loose XP YP l.row.toRowW d [] (fun f vs => PySem.call f vs) := by
  refine Att.attach_callB hn hdf fun w s₀ s₁ mg mb fa o pm cd doc a vs ns G Y ho hd hcd hmg hobj hints hlen hbits hg => ?_
  have KX := hY w _ Y
  obtain ⟨fd, hF, hbind, body⟩ := F w mg fa _ KX G.T.g hmg
  exact law_top KX G.T.g G.T.b G.T.builtins G.T.nolimit hg hobj hints (Nat.le_trans hlen (by decide)) hr hF Sc hbind body (good ns hlen hbits)
end DL
namespace DL
open PySem L2
/-! ### repr of data -/
section
variable {K : PySem.W.Frag} {X : Cx} {W : WX} {e a b c : Expr} {es : List Expr} {pos : Pos}
def rReprT (K : PySem.W.Frag) : List V → Hp → VK → Prop := fun xs H Q => ∃ x d, xs = [x] ∧ Dp K H x d ∧ PyData.canLay0 d = true ∧ d.depth ≤ 64 ∧ d.showable = true ∧ d.shown.length ≤ sizeLine ∧ Q (.str d.shown) H
theorem call_reprT (hg : X.A.guards = some []) (hu : X.A.units + 66 < cLine) : CallR X (.builtin "repr") (rReprT X.K) := by
  intro pins s σ H xs us Q I rs h
  obtain ⟨x, d, rfl, hd, hc, hdep, hs, hz, q⟩ := h
  cases rs with
  | cons rx r =>
  cases r
  rename_i v
  have ref : ∀ (p : Addr), x = .ref p → wpAny (model X.prog X.w) X.A (call (.builtin "repr") [v]) (EP X pins σ Q) X.xe s := fun p e => by
    subst e
    obtain ⟨as, r1⟩ := Dp.reads I d _ v hd rx
    obtain rfl : v = Value.ref p := rx
    exact PySem.repr_of_reads' r1 hs (PyData.noDict_hsm (PyData.hasDict_of_canLay d hc)) hg (by omega) (fun _ _ q => q) (fun h' u tk hk => ⟨.str _, H, I.kept hk, ⟨_, rfl⟩, q⟩) hz
  cases hd with
  | non => obtain rfl : v = Value.none := rx; exact PySem.P.repr_of_none ⟨.str _, H, I.tok _, ⟨_, rfl⟩, q⟩
  | bl b => obtain rfl : v = Value.bool b := rx; exact PySem.P.repr_of_bool ⟨.str _, H, I.tok _, ⟨_, rfl⟩, by cases b <;> exact q⟩
  | int i =>
    obtain ⟨t, rfl⟩ := rx
    have hs' : decide (i.natAbs.log2 < 1920) = true := hs
    exact PySem.P.repr_of_int (of_decide_eq_true hs') ⟨.str _, H, I.tok _, ⟨_, rfl⟩, q⟩
  | str y => obtain ⟨t, rfl⟩ := rx; exact PySem.P.repr_of_str ⟨.str _, H, I.tok _, ⟨_, rfl⟩, q⟩ hz
  | lst h1 h2 => exact ref _ rfl
  | tup h1 h2 => exact ref _ rfl
mutual
def showD : D → Bool
  | .int i => logOk i
  | .lst xs => showDs xs
  | .tup xs => showDs xs
  | .ktup xs => showDs xs
  | .klst xs => showDs xs
  | .non => true
  | .bl _ => true
  | .str _ => true
  | _ => false
def showDs : List D → Bool
  | [] => true
  | x :: xs => showD x && showDs xs
end
/-! what a text of it has at most -/
mutual
def rb : D → Nat
  | .int i => (intS i).length
  | .str x => (reprText x).length
  | .lst xs => rbs xs + 3
  | .tup xs => rbs xs + 3
  | .ktup xs => rbs xs + 3
  | .klst xs => rbs xs + 3
  | _ => 5
def rbs : List D → Nat
  | [] => 0
  | x :: xs => rb x + 2 + rbs xs
end
mutual
theorem showD_ok : ∀ d : D, showD d = true → (toP d).showable = true
  | .non, _ => by simp [toP, PyData.showable]
  | .bl _, _ => by simp [toP, PyData.showable]
  | .int i, h => h
  | .str x, _ => by simp [toP, PyData.showable]
  | .lst xs, h => by
    show PyData.showable (.list (toPs xs)) = true
    simp only [PyData.showable]
    exact showDs_ok xs h
  | .tup xs, h => by
    show PyData.showable (.tuple (toPs xs)) = true
    simp only [PyData.showable]
    exact showDs_ok xs h
  | .klst xs, h => by
    show PyData.showable (.list (toPs xs)) = true
    simp only [PyData.showable]
    exact showDs_ok xs h
  | .ktup xs, h => by
    show PyData.showable (.tuple (toPs xs)) = true
    simp only [PyData.showable]
    exact showDs_ok xs h
  | .dK _, h => by cases h
  | .dT _, h => by cases h
  | .fn _, h => by cases h
  | .scr _, h => by cases h
  | .ty _, h => by cases h
  | .rng _ _, h => by cases h
theorem showDs_ok : ∀ d : List D, showDs d = true → PyData.showableAll (toPs d) = true
  | [], _ => by simp [toPs, PyData.showableAll]
  | x :: xs, h => by
    have h : (showD x && showDs xs) = true := h
    rw [Bool.and_eq_true] at h
    show PyData.showableAll (toP x :: toPs xs) = true
    simp only [PyData.showableAll]
    rw [showD_ok x h.1, showDs_ok xs h.2]; rfl
end
theorem none_len : (PyData.shown .none).length ≤ 5 := by decide +kernel
theorem bool_len (b : Bool) : (PyData.shown (.bool b)).length ≤ 5 := by cases b <;> decide +kernel
mutual
theorem rb_ok : ∀ d : D, okD d = true → (toP d).shown.length ≤ rb d
  | .non, _ => none_len
  | .bl b, _ => bool_len b
  | .int i, _ => by
    show (PyData.shown (.int i)).length ≤ (intS i).length
    simp only [PyData.shown]
    exact Nat.le_refl _
  | .str x, _ => by
    show (PyData.shown (.str x)).length ≤ (reprText x).length
    simp only [PyData.shown]
    exact Nat.le_refl _
  | .lst xs, h => by
    show (PyData.shown (.list (toPs xs))).length ≤ rbs xs + 3
    simp only [PyData.shown]
    have a := listText_len_le (PyData.shownAll (toPs xs))
    have b := rbs_ok xs h
    omega
  | .tup xs, h => by
    show (PyData.shown (.tuple (toPs xs))).length ≤ rbs xs + 3
    simp only [PyData.shown]
    have a := tupleText_len_le (PyData.shownAll (toPs xs))
    have b := rbs_ok xs h
    omega
  | .klst xs, h => by
    show (PyData.shown (.list (toPs xs))).length ≤ rbs xs + 3
    simp only [PyData.shown]
    have a := listText_len_le (PyData.shownAll (toPs xs))
    have b := rbs_ok xs h
    omega
  | .ktup xs, h => by
    show (PyData.shown (.tuple (toPs xs))).length ≤ rbs xs + 3
    simp only [PyData.shown]
    have a := tupleText_len_le (PyData.shownAll (toPs xs))
    have b := rbs_ok xs h
    omega
  | .dK _, h => by cases h
  | .dT _, h => by cases h
  | .fn _, h => by cases h
  | .scr _, h => by cases h
  | .ty _, h => by cases h
  | .rng _ _, h => by cases h
theorem rbs_ok : ∀ d : List D, okDs d = true → ((PyData.shownAll (toPs d)).map (·.length)).sum + 2 * (PyData.shownAll (toPs d)).length ≤ rbs d
  | [], _ => by
    have e : PyData.shownAll (toPs []) = [] := by show PyData.shownAll [] = []; simp only [PyData.shownAll]
    rw [e]; simp [rbs]
  | x :: xs, h => by
    have h : (okD x && okDs xs) = true := h
    rw [Bool.and_eq_true] at h
    have e : PyData.shownAll (toPs (x :: xs)) = (toP x).shown :: PyData.shownAll (toPs xs) := by show PyData.shownAll (toP x :: toPs xs) = _; simp only [PyData.shownAll]
    have a := rb_ok x h.1
    have b := rbs_ok xs h.2
    rw [e, List.map_cons, List.sum_cons, List.length_cons]
    show _ ≤ rb x + 2 + rbs xs
    omega
end
def reprD (d : D) : Str := (toP d).shown
def dRepr (d : D) : Option D := if (shp d && showD d) = true then if rb d ≤ 1000000 then some (.str (reprD d)) else none else none
theorem cd_repr (hg : X.A.guards = some []) (hu : X.A.units + 66 < cLine) : CallD K X (.builtin "repr") (rReprT K) (g1 dRepr) := ⟨fun k => by rw [← k]; exact call_reprT hg hu, g1_ok fun x d c Z H Q s hx hg p => by
  unfold dRepr at hg
  split at hg
  · rename_i h1
    split at hg
    · rename_i h2
      cases hg
      rw [Bool.and_eq_true] at h1
      have h0 := h1.1
      unfold shp at h0
      rw [Bool.and_eq_true, decide_eq_true_eq] at h0
      exact ⟨x, toP d, rfl, hx.dp s (shaped_can h1.1), shaped_can h1.1, by rw [depD_dep d h0.1]; exact h0.2, showD_ok d h1.2, Nat.le_trans (rb_ok d h0.1) (size_le h2), p _ Z H (ExtP.refl s) (.str _)⟩
    · cases hg
  · cases hg⟩
theorem units66 {k : Nat} {A : Around} (r : Room k A) : A.units + 66 < cLine := by have := r.un; omega
end
end DL
namespace DL
open PySem L2
section
variable {K : PySem.W.Frag} {X : Cx} {W : WX} {e a b c : Expr} {es : List Expr} {pos : Pos}
/-! ### order of ints, texts, truths -/
def lexS (x y : Str) : Bool := decide (x.cps.toList < y.cps.toList)
def b2n (b : Bool) : Int := if b then 1 else 0
def dLt2 : D → D → Option D
  | .int i, .int j => some (.bl (decide (i < j)))
  | .str x, .str y => some (.bl (lexS x y))
  | .bl p, .bl q => some (.bl (decide (b2n p < b2n q)))
  | _, _ => none
def dLe2 : D → D → Option D
  | .int i, .int j => some (.bl (decide (i ≤ j)))
  | .str x, .str y => some (.bl (!lexS y x))
  | .bl p, .bl q => some (.bl (decide (b2n p ≤ b2n q)))
  | _, _ => none
theorem bool_dLt2 : boolD dLt2 := fun d e c h => by
  unfold dLt2 at h
  split at h <;> first | (cases h; exact ⟨_, rfl⟩) | cases h
theorem bool_dLe2 : boolD dLe2 := fun d e c h => by
  unfold dLe2 at h
  split at h <;> first | (cases h; exact ⟨_, rfl⟩) | cases h
theorem op_lt_bl : OpR X (compareOp .Lt) (fun x y H Q => ∃ p q, x = .bl p ∧ y = .bl q ∧ Q (.bl (decide (b2n p < b2n q))) H) := by
  intro pins s σ H x y v u Q I rx ry h
  obtain ⟨p, r, rfl, rfl, q⟩ := h
  cases (show v = Value.bool p from rx)
  cases (show u = Value.bool r from ry)
  exact PyProof.Rows.lt_bool ⟨.bl _, H, I, rfl, by cases p <;> cases r <;> exact q⟩
theorem op_le_bl : OpR X (compareOp .LtE) (fun x y H Q => ∃ p q, x = .bl p ∧ y = .bl q ∧ Q (.bl (decide (b2n p ≤ b2n q))) H) := by
  intro pins s σ H x y v u Q I rx ry h
  obtain ⟨p, r, rfl, rfl, q⟩ := h
  cases (show v = Value.bool p from rx)
  cases (show u = Value.bool r from ry)
  exact PyProof.Rows.le_bool ⟨.bl _, H, I, rfl, by cases p <;> cases r <;> exact q⟩
theorem od_lt2 : OpD K X (compareOp .Lt) (fun x y H Q => rI0 (fun i j => .bl (decide (i < j))) x y H Q ∨ (∃ i j, x = .str i ∧ y = .str j ∧ Q (.bl (decide (i.cps.toList < j.cps.toList))) H) ∨ ∃ p q, x = .bl p ∧ y = .bl q ∧ Q (.bl (decide (b2n p < b2n q))) H) dLt2 where
  op := fun _ pins s σ H x y v u Q I rx ry h => by
    rcases h with h | h | h
    · exact op_lt pins s σ H x y v u Q I rx ry h
    · exact op_lt_str pins s σ H x y v u Q I rx ry h
    · exact op_lt_bl pins s σ H x y v u Q I rx ry h
  ok := by
    intro x y d e c Z H Q s hx hy hg p
    unfold dLt2 at hg
    split at hg
    · cases hx; cases hy; cases hg; exact .inl ⟨_, _, rfl, rfl, p _ Z H (ExtP.refl s) (.bl _)⟩
    · cases hx; cases hy; cases hg; exact .inr (.inl ⟨_, _, rfl, rfl, p _ Z H (ExtP.refl s) (.bl _)⟩)
    · cases hx; cases hy; cases hg; exact .inr (.inr ⟨_, _, rfl, rfl, p _ Z H (ExtP.refl s) (.bl _)⟩)
    · cases hg
theorem od_le2 : OpD K X (compareOp .LtE) (fun x y H Q => rI0 (fun i j => .bl (decide (i ≤ j))) x y H Q ∨ (∃ i j, x = .str i ∧ y = .str j ∧ Q (.bl (!decide (j.cps.toList < i.cps.toList))) H) ∨ ∃ p q, x = .bl p ∧ y = .bl q ∧ Q (.bl (decide (b2n p ≤ b2n q))) H) dLe2 where
  op := fun _ pins s σ H x y v u Q I rx ry h => by
    rcases h with h | h | h
    · exact op_le pins s σ H x y v u Q I rx ry h
    · exact op_le_str pins s σ H x y v u Q I rx ry h
    · exact op_le_bl pins s σ H x y v u Q I rx ry h
  ok := by
    intro x y d e c Z H Q s hx hy hg p
    unfold dLe2 at hg
    split at hg
    · cases hx; cases hy; cases hg; exact .inl ⟨_, _, rfl, rfl, p _ Z H (ExtP.refl s) (.bl _)⟩
    · cases hx; cases hy; cases hg; exact .inr (.inl ⟨_, _, rfl, rfl, p _ Z H (ExtP.refl s) (.bl _)⟩)
    · cases hx; cases hy; cases hg; exact .inr (.inr ⟨_, _, rfl, rfl, p _ Z H (ExtP.refl s) (.bl _)⟩)
    · cases hg
/-! ### is True, is False -/
def dIs : D → D → Option D
  | .bl p, .bl q => some (.bl (decide (p = q)))
  | _, _ => none
def dIsN : D → D → Option D
  | .bl p, .bl q => some (.bl (!decide (p = q)))
  | _, _ => none
theorem bool_dIs : boolD dIs := fun d e c h => by
  unfold dIs at h
  split at h <;> first | (cases h; exact ⟨_, rfl⟩) | cases h
theorem bool_dIsN : boolD dIsN := fun d e c h => by
  unfold dIsN at h
  split at h <;> first | (cases h; exact ⟨_, rfl⟩) | cases h
theorem od_is : OpD K X (compareOp .Is) rIsB dIs := ⟨fun _ => op_isBl, by
    intro x y d e c Z H Q s hx hy hg p
    unfold dIs at hg
    split at hg
    · cases hx; cases hy; cases hg; exact ⟨_, _, rfl, rfl, p _ Z H (ExtP.refl s) (.bl _)⟩
    · cases hg⟩
theorem od_isn : OpD K X (compareOp .IsNot) rNotB dIsN := ⟨fun _ => op_notBl, by
    intro x y d e c Z H Q s hx hy hg p
    unfold dIsN at hg
    split at hg
    · cases hx; cases hy; cases hg; exact ⟨_, _, rfl, rfl, p _ Z H (ExtP.refl s) (.bl _)⟩
    · cases hg⟩
/-! ### lists one behind the other -/
def rCatL (K : PySem.W.Frag) : R2 := fun x y H Q => ∃ l b xs zs, x = .ref l ∧ y = .ref b ∧ SqL K H l xs ∧ SqL K H b zs ∧ xs.length + zs.length ≤ sizeLine ∧ ∀ p, H p = none → Q (.ref p) (upd H p (.lst (xs ++ zs)))
theorem op_catL : OpR X (binaryOp .Add) (rCatL X.K) := by
  intro pins s σ H x y v u Q I rx ry h
  obtain ⟨l, b, xs, zs, rfl, rfl, hx, hy, hz, q⟩ := h
  obtain rfl : v = Value.ref l := rx
  obtain rfl : u = Value.ref b := ry
  obtain ⟨its, r, ⟨⟨cls, dd, data, sl⟩, n, ho, hc, hdn, hd⟩, _⟩ := I.list hx
  obtain ⟨its2, r2, ⟨⟨cls2, dd2, data2, sl2⟩, n2, ho2, hc2, hdn2, hd2⟩, _⟩ := I.list hy
  simp only at hc hd hdn hc2 hd2 hdn2
  subst hc hd hdn hc2 hd2 hdn2
  have hl := r.length
  have hl2 := r2.length
  refine concat_meets ⟨_, ho, rfl⟩ ⟨_, ho2, rfl⟩ noFill_list_add seq_list_add PySem.F.slot_list_add PySem.F.entry_list_add (PySem.F.args_list_add_2 _ _) (PyProof.Rows.list_addW l b its.toArray its2.toArray n n2 none none sl sl2 (by simp; omega)) ⟨ho, ho2, ?_⟩
  have e : its.toArray ++ its2.toArray = (its ++ its2).toArray := by simp
  rw [e]
  exact ⟨.ref _, _, I.lnew (t' := s.toks) (r.append r2) (by rw [List.length_append]; omega), rfl, q _ I.fresh⟩
def dAdd2 : D → D → Option D
  | .int i, .int j => some (.int (i + j))
  | .str x, .str y => if x.length + y.length ≤ 1000000 then some (.str (x ++ y)) else none
  | .lst x, .lst y => if x.length + y.length ≤ 1000000 then some (.lst (x ++ y)) else none
  | _, _ => none
theorem od_add2 : OpD K X (binaryOp .Add) (fun x y H Q => rI0 (fun i j => .int (i + j)) x y H Q ∨ (∃ i j, x = .str i ∧ y = .str j ∧ i.length + j.length ≤ sizeLine ∧ Q (.str (i ++ j)) H) ∨ rCatL K x y H Q) dAdd2 where
  op := fun k pins s σ H x y v u Q I rx ry h => by
    subst k
    rcases h with h | h | h
    · exact op_add pins s σ H x y v u Q I rx ry h
    · exact op_add_str pins s σ H x y v u Q I rx ry h
    · exact op_catL pins s σ H x y v u Q I rx ry h
  ok := by
    intro x y d e c Z H Q s hx hy hg p
    unfold dAdd2 at hg
    split at hg
    · cases hx; cases hy; cases hg
      exact .inl ⟨_, _, rfl, rfl, p _ Z H (ExtP.refl s) (.int _)⟩
    · split at hg
      · rename_i hl
        cases hx; cases hy; cases hg
        exact .inr (.inl ⟨_, _, rfl, rfl, size_le hl, p _ Z H (ExtP.refl s) (.str _)⟩)
      · cases hg
    · split at hg
      · rename_i hl
        cases hg
        cases hx with
        | lst h1 h2 =>
        cases hy with
        | lst h3 h4 =>
        exact .inr (.inr ⟨_, _, _, _, rfl, rfl, .inl (same_rd s h1), .inl (same_rd s h3), by rw [h2.length, h4.length]; exact size_le hl, fun l hl => p _ _ _ (ExtP.new s hl) (.lst (.inl upd_same) ((h2.append h4).mono (same_upd (none_of s hl))))⟩)
      · cases hg
    · cases hg
end
end DL
namespace DL
open PySem L2
section
variable {K : PySem.W.Frag} {X : Cx} {W : WX} {e a b c tg iter tg1 iter1 elt : Expr} {es : List Expr} {pos : Pos}
/-! ### a comprehension with two fors -/
theorem RepV.mono2 {Z Z' : Hp} {I I' : List Addr} (z : Same Z Z') (i : ∃ t, I' = I ++ t) {v : V} : ∀ {d : DV}, RepV K Z I v d → RepV K Z' I' v d
  | .p _, h => Rep.mono z h
  | .o n, ⟨a, h, q⟩ => by
    obtain ⟨t, rfl⟩ := i
    exact ⟨a, by rw [List.getElem?_append_left (List.getElem?_eq_some_iff.mp h).1]; exact h, q⟩
theorem RepS.mono2 {Z Z' : Hp} {I I' : List Addr} {σ : St} {l : List (Option DV)} (r : RepS K Z I σ l) (z : Same Z Z') (i : ∃ t, I' = I ++ t) : RepS K Z' I' σ l := ⟨r.len, fun n dv h => by
  obtain ⟨v, h1, h2⟩ := r.at_ n dv h
  exact ⟨v, h1, h2.mono2 z i⟩⟩
theorem ex_app {I1 I2 I3 : List Addr} (a : ∃ t, I2 = I1 ++ t) (b : ∃ t, I3 = I2 ++ t) : ∃ t, I3 = I1 ++ t := by
  obtain ⟨t, rfl⟩ := a
  obtain ⟨u, rfl⟩ := b
  exact ⟨t ++ u, by rw [List.append_assoc]⟩
abbrev HG (K : PySem.W.Frag) (g : TG) (gm : GM) (ix : List Nat) : Prop := ∀ (v : V) (dv : DV) (σ : St) (H : Hp) (s s' : S) (Z : Hp) (I : List Addr) (Q : St → Hp → Prop), Wf K Z H I s.m → RepS K Z I σ s.l → RepV K Z I v dv → gm dv s = some s' →
      (∀ σ' Z' H' I', Wf K Z' H' I' s'.m → RepS K Z' I' σ' s'.l → Ext Z H I Z' H' I' → (∀ vs, (∀ i ∈ ix, i ∈ vs) → L2.wipe σ' vs = L2.wipe σ vs) → Q σ' H') → g v σ H Q
/-- the loop within -/
theorem inner_ok {g1 : TG} {tt1 : TT} {te : TE} {vs1 : List Nat} {gm1 : GM} {ix1 : List Nat} {t1 em : EM} (hg : HG K g1 gm1 ix1) (hix : ∀ i ∈ ix1, i ∈ vs1) (ht : Sound K WF RepB tt1 t1) (he : Sound K WF (RepV K) te em)
    {Z1 H1 : Hp} {I1 : List Addr} {D : Addr} (hD : H1 D = none) {σ2 : St} {l2 : List (Option DV)} {Z4 H4 : Hp} {I4 : List Addr} {M4 : List O} {J1 : It} {ds1 : List DV} (q : ItOk K Z4 I4 J1 ds1) (rs : RepS K Z4 I4 σ2 l2)
    {acc : List V} {bd : List DL.D} (f : Fill K Z1 H1 I1 D Z4 H4 I4 M4 acc bd) {ad : List DL.D} {Mf : List O} (e : compL (wipeL l2 vs1) gm1 t1 em ds1 bd M4 = some (ad, Mf)) {Nx : Hp → Prop} (k : ∀ Z' H' I' acc', Fill K Z1 H1 I1 D Z' H' I' Mf acc' ad → Nx H') :
    ∃ W1 : Nat → Nat → Hp → Prop, (∃ m, W1 0 m H4) ∧ ∀ j k H, W1 j k H → (J1.stop j H ∧ Nx H) ∨ (J1.go j H ∧ ∃ Nx1 : Hp → Prop, (∀ H', Nx1 H' → ∃ k', k' < k ∧ W1 (j + 1) k' H') ∧ ∀ x H', J1.yld j H x H' → g1 x (L2.wipe σ2 vs1) H' fun σ3 H5 => L2.wipe σ3 vs1 = L2.wipe σ2 vs1 ∧ tt1 σ3 H5 fun b H6 =>
        if b = true then te σ3 H6 fun y H7 => ∃ acc, H7 D = some (.lst acc) ∧ acc.length < sizeLine ∧ Nx1 (upd H7 D (.lst (acc ++ [y]))) else Nx1 H6) := by
  refine ⟨fun i m H' => m = ds1.length - i ∧ i ≤ ds1.length ∧ ∃ Z' I' M acc bd, Fill K Z1 H1 I1 D Z' H' I' M acc bd ∧ Same Z4 Z' ∧ (∃ t, I' = I4 ++ t) ∧ compL (wipeL l2 vs1) gm1 t1 em (ds1.drop i) bd M = some (ad, Mf), ⟨ds1.length, by simp, Nat.zero_le _, Z4, I4, M4, acc, bd, f, Same.refl _, ⟨[], by simp⟩, e⟩, ?_⟩
  rintro i m H' ⟨rfl, hil, Z', I', M, acc, bd, f, sz, si, e'⟩
  have Jo := q Z' H' I' sz si f.w.sub i
  by_cases hlt : i < ds1.length
  · right
    have hd : ds1[i]? = some ds1[i] := by simp [hlt]
    obtain ⟨go, yl⟩ := Jo.1 _ hd
    rw [List.drop_eq_getElem_cons hlt] at e'
    refine ⟨go, fun H2 => ∃ Z2 I2 M2 acc2 bd2, Fill K Z1 H1 I1 D Z2 H2 I2 M2 acc2 bd2 ∧ Same Z4 Z2 ∧ (∃ t, I2 = I4 ++ t) ∧ compL (wipeL l2 vs1) gm1 t1 em (ds1.drop (i + 1)) bd2 M2 = some (ad, Mf),
      fun H2 h2 => ⟨ds1.length - (i + 1), by omega, rfl, hlt, h2⟩, fun x H2 hx => ?_⟩
    obtain ⟨Z2, x2, rx⟩ := yl x H2 hx
    have f2 := f.step (f.w.extP x2) (x2.ext f.w)
    have sz2 := sz.trans x2.z
    have rs2 : RepS K Z2 I' (L2.wipe σ2 vs1) (wipeL l2 vs1) := (rs.mono2 sz2 si).wipe vs1
    unfold compL at e'
    cases zg : gm1 ds1[i] ⟨wipeL l2 vs1, M⟩ with
    | none => rw [zg] at e'; cases e'
    | some s1 =>
      rw [zg] at e'
      refine hg x ds1[i] (L2.wipe σ2 vs1) H2 ⟨wipeL l2 vs1, M⟩ s1 Z2 I' _ f2.w rs2 rx zg fun σ3 Z3 H3 I3 w3 rs3 x3 k3 => ?_
      have f3 := f2.step w3 x3
      have sz3 := sz2.trans x3.z
      have si3 := ex_app si x3.i
      refine ⟨(k3 vs1 hix).trans (wipe_wipe vs1 vs1 fun _ h => h), ?_⟩
      have e' : (match t1 s1 with
        | some (.ok (.p (.bl true)) M1) => match em ⟨s1.l, M1⟩ with
          | some (.ok (.p y) M2) => if bd.length < 1000000 then compL (wipeL l2 vs1) gm1 t1 em (ds1.drop (i + 1)) (bd ++ [y]) M2 else none
          | _ => none
        | some (.ok (.p (.bl false)) M1) => compL (wipeL l2 vs1) gm1 t1 em (ds1.drop (i + 1)) bd M1
        | _ => none) = some (ad, Mf) := e'
      cases zt : t1 s1 with
      | none => rw [zt] at e'; cases e'
      | some rt =>
        rw [zt] at e'
        refine ht.ok σ3 H3 s1 Z3 I3 rt _ w3 rs3 zt ?_
        cases rt with
        | ex c fs M4 => cases e'
        | ok d4 M4 =>
          intro b Z5 H5 I5 w4 x4 r4
          cases (show d4 = .p (.bl b) from r4)
          have f4 := f3.step w4 x4
          have sz4 := sz3.trans x4.z
          have si4 := ex_app si3 x4.i
          cases b with
          | false =>
            rw [if_neg Bool.false_ne_true]
            exact ⟨Z5, I5, M4, acc, bd, f4, sz4, si4, e'⟩
          | true =>
            rw [if_pos rfl]
            have e' : (match em ⟨s1.l, M4⟩ with
              | some (.ok (.p y) M2) => if bd.length < 1000000 then compL (wipeL l2 vs1) gm1 t1 em (ds1.drop (i + 1)) (bd ++ [y]) M2 else none
              | _ => none) = some (ad, Mf) := e'
            cases ze : em ⟨s1.l, M4⟩ with
            | none => rw [ze] at e'; cases e'
            | some re =>
              rw [ze] at e'
              refine he.ok σ3 H5 ⟨s1.l, M4⟩ Z5 I5 re _ w4 (rs3.mono x4) ze ?_
              cases re with
              | ex c fs M5 => cases e'
              | ok d5 M5 =>
                intro y Z6 H6 I6 w5 x5 r5
                have f5 := f4.step w5 x5
                cases d5 with
                | o n => cases e'
                | p d5 =>
                  have e' : (if bd.length < 1000000 then compL (wipeL l2 vs1) gm1 t1 em (ds1.drop (i + 1)) (bd ++ [d5]) M5 else none) = some (ad, Mf) := e'
                  split at e'
                  · rename_i hlen
                    refine ⟨acc, f5.at_, by rw [f5.r.length]; exact size_lt (Nat.le_of_lt hlen), ?_⟩
                    exact ⟨Z6, I6, M5, _, _, f5.put hD r5, sz4.trans x5.z, ex_app si4 x5.i, e'⟩
                  · cases e'
  · left
    have e0 : ds1.drop i = [] := List.drop_eq_nil_of_le (by omega)
    rw [e0] at e'
    cases e'
    exact ⟨Jo.2 (by omega), k Z' H' I' acc f⟩
def compL2 (l : List (Option DV)) (g : GM) (t : EM) (it1 : IM) (g1 : GM) (t1 e : EM) (vs1 : List Nat) : List DV → List D → List O → Option (List D × List O)
  | [], acc, M => some (acc, M)
  | d :: ds, acc, M => match g d ⟨l, M⟩ with
    | none => none
    | some s1 => match t s1 with
      | some (.ok (.p (.bl true)) M1) => match it1 ⟨s1.l, M1⟩ with
        | some (.ok ds1 M2) => match compL (wipeL s1.l vs1) g1 t1 e ds1 acc M2 with
          | some (acc', M3) => compL2 l g t it1 g1 t1 e vs1 ds acc' M3
          | none => none
        | _ => none
      | some (.ok (.p (.bl false)) M1) => compL2 l g t it1 g1 t1 e vs1 ds acc M1
      | _ => none
def mLc2 (it : IM) (vs : List Nat) (g : GM) (t : EM) (it1 : IM) (vs1 : List Nat) (g1 : GM) (t1 e : EM) : EM := bnd it fun ds s => match compL2 (wipeL s.l vs) g t it1 g1 t1 e vs1 ds [] s.m with
  | some (acc, M) => some (.ok (.p (.lst acc)) M)
  | none => none
theorem tLc2_ok {wi wi1 : TI} {g g1 : TG} {tt tt1 : TT} {te : TE} {vs vs1 : List Nat} {it it1 : IM} {gm gm1 : GM} {ix ix1 : List Nat} {t t1 em : EM} (hi : Sound K W (ItOk K) wi it) (hg : HG K g gm ix) (hix : ∀ i ∈ ix, i ∈ vs) (ht : Sound K WF RepB tt t)
    (hi1 : Sound K WF (ItOk K) wi1 it1) (hg1 : HG K g1 gm1 ix1) (hix1 : ∀ i ∈ ix1, i ∈ vs1) (ht1 : Sound K WF RepB tt1 t1) (he : Sound K WF (RepV K) te em) {σ : St} {H : Hp} {s : S} {Z : Hp} {I : List Addr} {r : Rs DV} {Q : VK} {k : List D → List O → Rs DV} (w : Wf K Z H I s.m) (rs : RepS K Z I σ s.l)
    (e : bnd it (fun ds s => match compL2 (wipeL s.l vs) gm t it1 gm1 t1 em vs1 ds [] s.m with | some (acc, M) => some (k acc M) | none => none) s = some r) (px : ∀ c fs M, r = .ex c fs M → PostX K W Z H I σ M c fs)
    (hk : ∀ Z1 H1 I1 D Z' H' I' M acc ad, r = k ad M → H1 D = none → Ext Z H I Z1 H1 I1 → Fill K Z1 H1 I1 D Z' H' I' M acc ad → Q (.ref D) H') : tLc2 wi g tt wi1 g1 tt1 te vs vs1 σ H Q := by
  refine hi.bnd w rs e px fun ds J M1 Z1 H1 I1 w1 rs1 x1 q1 e1 => ?_
  have e1 : (match compL2 (wipeL s.l vs) gm t it1 gm1 t1 em vs1 ds [] M1 with | some (acc, M) => some (k acc M) | none => none) = some r := e1
  cases zc : compL2 (wipeL s.l vs) gm t it1 gm1 t1 em vs1 ds [] M1 with
  | none => rw [zc] at e1; cases e1
  | some am =>
    rw [zc] at e1
    obtain ⟨ad, Mf⟩ := am
    have e1 : some (k ad Mf) = some r := e1
    intro D hD
    have f0 : Fill K Z1 H1 I1 D Z1 (upd H1 D (.lst [])) I1 M1 [] [] := by
      refine ⟨⟨fun a u q => by rw [upd_ne (ne_of_none (w1.sub a u q) hD)]; exact w1.sub a u q, w1.len, w1.nd, fun a m => by rw [upd_ne (fun q => w1.tr a m (by rw [q]; exact hD))]; exact w1.tr a m, fun n a o h1 h2 h3 => ?_⟩, ⟨Same.refl _, ⟨[], by simp⟩, fun a o q _ => by rw [upd_ne (ne_of_none q hD)]; exact q, fun _ m => .inl m, fun _ m => .inl m, fun a q => by rw [upd_ne (fun y => q (by rw [y]; exact hD))]; exact q⟩, upd_same, none_of w1.sub hD, fun m => w1.tr D m hD, .nil⟩
      obtain ⟨q1, q2⟩ := w1.ob n a o h1 h2 h3
      exact ⟨q1, q2.mono (Same.refl _) (upd_ne fun q => w1.tr a (List.mem_of_getElem? h1) (by rw [q]; exact hD))⟩
    refine ⟨fun i m H' => m = ds.length - i ∧ i ≤ ds.length ∧ ∃ Z' I' M acc bd, Fill K Z1 H1 I1 D Z' H' I' M acc bd ∧ compL2 (wipeL s.l vs) gm t it1 gm1 t1 em vs1 (ds.drop i) bd M = some (ad, Mf), ⟨ds.length, by simp, Nat.zero_le _, Z1, I1, M1, [], [], f0, zc⟩, ?_⟩
    rintro i m H' ⟨rfl, hil, Z', I', M, acc, bd, f, e'⟩
    have Jo := q1 Z' H' I' f.x.z f.x.i f.w.sub i
    by_cases hlt : i < ds.length
    · right
      have hd : ds[i]? = some ds[i] := by simp [hlt]
      obtain ⟨go, yl⟩ := Jo.1 _ hd
      rw [List.drop_eq_getElem_cons hlt] at e'
      refine ⟨go, fun H2 => ∃ Z2 I2 M2 acc2 bd2, Fill K Z1 H1 I1 D Z2 H2 I2 M2 acc2 bd2 ∧ compL2 (wipeL s.l vs) gm t it1 gm1 t1 em vs1 (ds.drop (i + 1)) bd2 M2 = some (ad, Mf),
        fun H2 h2 => ⟨ds.length - (i + 1), by omega, rfl, hlt, h2⟩, fun x H2 hx => ?_⟩
      obtain ⟨Z2, x2, rx⟩ := yl x H2 hx
      have f2 := f.step (f.w.extP x2) (x2.ext f.w)
      have rs2 : RepS K Z2 I' (L2.wipe σ vs) (wipeL s.l vs) := ((rs1.mono f2.x)).wipe vs
      unfold compL2 at e'
      cases zg : gm ds[i] ⟨wipeL s.l vs, M⟩ with
      | none => rw [zg] at e'; cases e'
      | some s1 =>
        rw [zg] at e'
        refine hg x ds[i] (L2.wipe σ vs) H2 ⟨wipeL s.l vs, M⟩ s1 Z2 I' _ f2.w rs2 rx zg fun σ3 Z3 H3 I3 w3 rs3 x3 k3 => ?_
        have f3 := f2.step w3 x3
        refine ⟨(k3 vs hix).trans (wipe_wipe vs vs fun _ h => h), ?_⟩
        have e' : (match t s1 with
          | some (.ok (.p (.bl true)) M1) => match it1 ⟨s1.l, M1⟩ with
            | some (.ok ds1 M2) => match compL (wipeL s1.l vs1) gm1 t1 em ds1 bd M2 with
              | some (acc', M3) => compL2 (wipeL s.l vs) gm t it1 gm1 t1 em vs1 (ds.drop (i + 1)) acc' M3
              | none => none
            | _ => none
          | some (.ok (.p (.bl false)) M1) => compL2 (wipeL s.l vs) gm t it1 gm1 t1 em vs1 (ds.drop (i + 1)) bd M1
          | _ => none) = some (ad, Mf) := e'
        cases zt : t s1 with
        | none => rw [zt] at e'; cases e'
        | some rt =>
          rw [zt] at e'
          refine ht.ok σ3 H3 s1 Z3 I3 rt _ w3 rs3 zt ?_
          cases rt with
          | ex c fs M4 => cases e'
          | ok d4 M4 =>
            intro b Z4 H4 I4 w4 x4 r4
            cases (show d4 = .p (.bl b) from r4)
            have f4 := f3.step w4 x4
            cases b with
            | false =>
              rw [if_neg Bool.false_ne_true]
              exact ⟨Z4, I4, M4, acc, bd, f4, e'⟩
            | true =>
              rw [if_pos rfl]
              have e' : (match it1 ⟨s1.l, M4⟩ with
                | some (.ok ds1 M2) => match compL (wipeL s1.l vs1) gm1 t1 em ds1 bd M2 with
                  | some (acc', M3) => compL2 (wipeL s.l vs) gm t it1 gm1 t1 em vs1 (ds.drop (i + 1)) acc' M3
                  | none => none
                | _ => none) = some (ad, Mf) := e'
              cases zi : it1 ⟨s1.l, M4⟩ with
              | none => rw [zi] at e'; cases e'
              | some ri =>
                rw [zi] at e'
                refine hi1.ok σ3 H4 ⟨s1.l, M4⟩ Z4 I4 ri _ w4 (rs3.mono x4) zi ?_
                cases ri with
                | ex c fs M5 => cases e'
                | ok ds1 M5 =>
                  intro J1 Z5 H5 I5 w5 x5 q5
                  have f5 := f4.step w5 x5
                  have e' : (match compL (wipeL s1.l vs1) gm1 t1 em ds1 bd M5 with
                    | some (acc', M3) => compL2 (wipeL s.l vs) gm t it1 gm1 t1 em vs1 (ds.drop (i + 1)) acc' M3
                    | none => none) = some (ad, Mf) := e'
                  cases zl : compL (wipeL s1.l vs1) gm1 t1 em ds1 bd M5 with
                  | none => rw [zl] at e'; cases e'
                  | some am =>
                    rw [zl] at e'
                    obtain ⟨ad1, M6⟩ := am
                    have e' : compL2 (wipeL s.l vs) gm t it1 gm1 t1 em vs1 (ds.drop (i + 1)) ad1 M6 = some (ad, Mf) := e'
                    exact inner_ok hg1 hix1 ht1 he hD q5 ((rs3.mono x4).mono x5) f5 zl fun Z7 H7 I7 acc7 f7 => ⟨Z7, I7, M6, acc7, ad1, f7, e'⟩
    · left
      have e0 : ds.drop i = [] := List.drop_eq_nil_of_le (by omega)
      rw [e0] at e'
      cases e'
      exact ⟨Jo.2 (by omega), hk Z1 H1 I1 D Z' H' I' _ acc _ (Option.some.inj e1).symm hD x1 f⟩
section
variable {ifs ifs1 : List Expr} {scope : Scope} {own : List (Str × Nat)} {wi wi1 : TI} {g g1 : TG} {tt tt1 : TT} {te : TE} {it it1 : IM} {gm gm1 : GM} {ix ix1 : List Nat} {t t1 em : EM}
theorem so_lc2 {vs vs1 : List Nat} (hi : Sound K W (ItOk K) wi it) (hg : HG K g gm ix) (hix : ∀ i ∈ ix, i ∈ vs) (ht : Sound K WF RepB tt t) (hi1 : Sound K WF (ItOk K) wi1 it1) (hg1 : HG K g1 gm1 ix1) (hix1 : ∀ i ∈ ix1, i ∈ vs1) (ht1 : Sound K WF RepB tt1 t1) (he : Sound K WF (RepV K) te em) :
    Sound K W (RepV K) (tLc2 wi g tt wi1 g1 tt1 te vs vs1) (mLc2 it vs gm t it1 vs1 gm1 t1 em) := ⟨fun σ H s Z I r Q w rs e p => by
  refine tLc2_ok hi hg hix ht hi1 hg1 hix1 ht1 he (k := fun acc M => .ok (.p (.lst acc)) M) w rs e p.x fun Z1 H1 I1 D Z' H' I' M acc ad er h0 x1 f => ?_
  subst er
  obtain ⟨w', x'⟩ := f.frz h0
  exact p _ _ H' I' w' (x1.trans x') (.lst (.inl upd_same) (f.r.mono (same_upd f.nz)))⟩
theorem de_lc2 {vs vs1 : List Nat} (hN : X.N.Nodup) (hc : X.calm = true) (hi : DI K X W tg iter wi it) (ok : BlkOk X.N X.env.scope scope own)
    (hg : ∀ (s : Shared) (H : Hp) (C : Addr) (cl : List (Str × Addr)) (fp : List Addr), DG K (X.blk s H scope (compEnvC scope cl C X.env) fp) tg g gm ix) (ht : ∀ (s : Shared) (H : Hp) (C : Addr) (cl : List (Str × Addr)) (fp : List Addr), DPT K (X.blk s H scope (compEnvC scope cl C X.env) fp) ifs tt t)
    (hi1 : ∀ (s : Shared) (H : Hp) (C : Addr) (cl : List (Str × Addr)) (fp : List Addr), DI K (X.blk s H scope (compEnvC scope cl C X.env) fp) WF tg1 iter1 wi1 it1)
    (hg1 : ∀ (s : Shared) (H : Hp) (C : Addr) (cl : List (Str × Addr)) (fp : List Addr), DG K (X.blk s H scope (compEnvC scope cl C X.env) fp) tg1 g1 gm1 ix1) (ht1 : ∀ (s : Shared) (H : Hp) (C : Addr) (cl : List (Str × Addr)) (fp : List Addr), DPT K (X.blk s H scope (compEnvC scope cl C X.env) fp) ifs1 tt1 t1)
    (he : ∀ (s : Shared) (H : Hp) (C : Addr) (cl : List (Str × Addr)) (fp : List Addr), DE K (X.blk s H scope (compEnvC scope cl C X.env) fp) WF elt te em) (hix : ∀ i ∈ ix, i ∈ own.map (·.2) := by decide) (hix1 : ∀ i ∈ ix1, i ∈ vs1 := by decide) (hv1 : ∀ i ∈ vs1, i ∈ own.map (·.2) := by decide)
    (hs : ∀ x, foldedSetIterable iter X.env x = pure x := by intro _; rfl) (hs1 : ∀ env x, foldedSetIterable iter1 env x = pure x := by intro _ _; rfl) (hv : own.map (·.2) = vs := by rfl) :
    DE K X W (.ListComp elt [⟨tg, iter, ifs, 0⟩, ⟨tg1, iter1, ifs1, 0⟩] scope pos) (tLc2 wi g tt wi1 g1 tt1 te vs vs1) (mLc2 it vs gm t it1 vs1 gm1 t1 em) := by
  subst hv
  exact ⟨hi.k, pe_lc2 hc hN hi.pi ok hv1 (fun s H C cl fp => (hg s H C cl fp).pg) (fun s H C cl fp => (ht s H C cl fp).pt) (fun s H C cl fp => (hi1 s H C cl fp).pi) (fun s H C cl fp => (hg1 s H C cl fp).pg) (fun s H C cl fp => (ht1 s H C cl fp).pt) (fun s H C cl fp => (he s H C cl fp).pe) hs hs1,
    so_lc2 hi.so (hg {} (fun _ => none) 0 [] []).ok hix (ht {} (fun _ => none) 0 [] []).so (hi1 {} (fun _ => none) 0 [] []).so (hg1 {} (fun _ => none) 0 [] []).ok hix1 (ht1 {} (fun _ => none) 0 [] []).so (he {} (fun _ => none) 0 [] []).so⟩
theorem ds_setLc2 {i : Nat} {vs vs1 : List Nat} {y : Str} {py spos : Pos} (hN : X.N.Nodup) (hc : X.calm = true) (hi : DI K X W tg iter wi it) (ok : BlkOk X.N X.env.scope scope own)
    (hg : ∀ (s : Shared) (H : Hp) (C : Addr) (cl : List (Str × Addr)) (fp : List Addr), DG K (X.blk s H scope (compEnvC scope cl C X.env) fp) tg g gm ix) (ht : ∀ (s : Shared) (H : Hp) (C : Addr) (cl : List (Str × Addr)) (fp : List Addr), DPT K (X.blk s H scope (compEnvC scope cl C X.env) fp) ifs tt t)
    (hi1 : ∀ (s : Shared) (H : Hp) (C : Addr) (cl : List (Str × Addr)) (fp : List Addr), DI K (X.blk s H scope (compEnvC scope cl C X.env) fp) WF tg1 iter1 wi1 it1)
    (hg1 : ∀ (s : Shared) (H : Hp) (C : Addr) (cl : List (Str × Addr)) (fp : List Addr), DG K (X.blk s H scope (compEnvC scope cl C X.env) fp) tg1 g1 gm1 ix1) (ht1 : ∀ (s : Shared) (H : Hp) (C : Addr) (cl : List (Str × Addr)) (fp : List Addr), DPT K (X.blk s H scope (compEnvC scope cl C X.env) fp) ifs1 tt1 t1)
    (he : ∀ (s : Shared) (H : Hp) (C : Addr) (cl : List (Str × Addr)) (fp : List Addr), DE K (X.blk s H scope (compEnvC scope cl C X.env) fp) WF elt te em) (hy : X.N[i]? = some y := by rfl) (hyl : X.env.scope.names.lookup y = some .local := by rfl)
    (hsw : swapsWith (.ListComp elt [⟨tg, iter, ifs, 0⟩, ⟨tg1, iter1, ifs1, 0⟩] scope pos) (some (.Name y py)) spos.line X.env = pure true := by exact sw_true rfl rfl rfl (by decide +kernel)) (hix : ∀ i ∈ ix, i ∈ own.map (·.2) := by decide) (hix1 : ∀ i ∈ ix1, i ∈ vs1 := by decide) (hv1 : ∀ i ∈ vs1, i ∈ own.map (·.2) := by decide)
    (hs : ∀ x, foldedSetIterable iter X.env x = pure x := by intro _; rfl) (hs1 : ∀ env x, foldedSetIterable iter1 env x = pure x := by intro _ _; rfl) (hv : own.map (·.2) = vs := by rfl) :
    DS K X W (.Assign [.Name y py] (.ListComp elt [⟨tg, iter, ifs, 0⟩, ⟨tg1, iter1, ifs1, 0⟩] scope pos) spos) (tAsg (tLc2 wi g tt wi1 g1 tt1 te vs vs1) (gName i)) (sAsg (mLc2 it vs gm t it1 vs1 gm1 t1 em) (gN i)) := by
  subst hv
  exact ⟨hi.k, ps_setLc2 hc hN hy hyl hsw hi.pi ok hv1 (fun s H C cl fp => (hg s H C cl fp).pg) (fun s H C cl fp => (ht s H C cl fp).pt) (fun s H C cl fp => (hi1 s H C cl fp).pi) (fun s H C cl fp => (hg1 s H C cl fp).pg) (fun s H C cl fp => (ht1 s H C cl fp).pt) (fun s H C cl fp => (he s H C cl fp).pe) hs hs1,
    so_asg (so_lc2 hi.so (hg {} (fun _ => none) 0 [] []).ok hix (ht {} (fun _ => none) 0 [] []).so (hi1 {} (fun _ => none) 0 [] []).so (hg1 {} (fun _ => none) 0 [] []).ok hix1 (ht1 {} (fun _ => none) 0 [] []).so (he {} (fun _ => none) 0 [] []).so) (dg_name hN hi.k hy (.inl hyl) (.inr hyl) : DG K X (.Name y py) _ _ _)⟩
end
end
end DL
namespace DL
open PySem L2
/-- a tuple of the module -/
theorem rep_ktup {K : PySem.W.Frag} {a : Addr} {d : Option Addr} {its : Array Value} {z : Nat} {w : Array (Option Value)} {Z : Hp} {xs : List V} {ds : List D} (l : K.lookup a = some ⟨.type "tuple", d, .seq its z, w⟩) (hz : its.size ≤ sizeLine) (v : Vals xs its.toList) (r : RepA K Z xs ds) : Rep K Z (.ref a) (.ktup ds) :=
  .ktup (.inr ⟨_, its, z, l, rfl, rfl, hz, v⟩) r
end DL
namespace DL
open PySem L2
section
variable {K : PySem.W.Frag} {X : Cx} {W : WX} {e a b c : Expr} {es : List Expr} {pos : Pos}
/-! ### a dict of the module, keys texts -/
structure GD (K : PySem.W.Frag) (w : World) (mg : Str → Option Value) (x : Str) (kvs : List (Str × D)) where
  a : Addr
  m : mg x = some (.ref a)
  at_ : ∀ z d, kvs.lookup z = some d → ∃ v, KDct K w a z v ∧ ∀ Z, Rep K Z v d
def kdK (kvs : List (Str × D)) : D → EM
  | .str z => ret (kvs.lookup z)
  | _ => fun _ => none
def mKd (kvs : List (Str × D)) (m : EM) : EM := bnd m (pur (kdK kvs))
theorem de_kdix {mg : Str → Option Value} {w : World} {x : Str} {p : Pos} {kvs : List (Str × D)} {te : TE} {m : EM} (g : GD K w mg x kvs) (h : DE K X W e te m) (hm : X.mg = mg := by rfl) (hw : X.w = w := by rfl) (hg : Gl X x := by rfl) (hd : (x == ("__debug__" : Str)) = false := by decide) (hs : PlainIx e := by exact fun _ _ => rfl) :
    DE K X W (.Subscript (.Name x p) e pos) (tOp (rIxD K w) (tC (.ref g.a)) te) (mKd kvs m) := by
  subst hm hw
  refine ⟨h.k, ?_, ⟨fun σ H s Z I r0 Q w rs e1 p1 => ?_⟩⟩
  · have q := pe_ix (X := X) (pos := pos) ix_kdict (pe_glob (v := .ref g.a) (pos := p) hg g.m rfl hd) h.pe hs
    rw [h.k] at q
    exact q
  · show te σ H _
    refine h.so.bnd w rs e1 p1.x fun d v M1 Z1 H1 I1 w1 rs1 x1 q1 e2 => ?_
    obtain ⟨d, rfl, e2⟩ := pur_ok e2
    cases d with
    | str z =>
      cases q1
      obtain ⟨c, hc, rfl⟩ := ret_ok (show ret (kvs.lookup z) ⟨s.l, M1⟩ = some r0 from e2)
      obtain ⟨v, hv, hr⟩ := g.at_ z c hc
      exact ⟨g.a, z, v, rfl, rfl, hv, p1 v Z1 H1 I1 w1 x1 (hr Z1)⟩
    | _ => cases e2
/-! ### dicts with keys ints and texts -/
def keyD : D → Option Key
  | .int i => some (.inl i)
  | .str x => some (.inr x)
  | _ => none
def valD (kvs : List (Key × D)) (k : Key) : Option D := (kvs.find? fun kv => decide (kv.1 = k)).map (·.2)
theorem val_rep {Z : Hp} : ∀ {ks : List (Key × V)} {ds : List (Key × D)} (k : Key), RepK K Z ks ds → (valV ks k = none ∧ valD ds k = none) ∨ ∃ v d, valV ks k = some v ∧ valD ds k = some d ∧ Rep K Z v d
  | _, _, k, .nil => .inl ⟨rfl, rfl⟩
  | _, _, k, .cons (k := k0) (v := v) (vs := vs) (d := d) (ds := ds) h r => by
    by_cases q : k0 = k
    · exact .inr ⟨v, d, by simp [valV, q], by simp [valD, q], h⟩
    · have e1 : valV ((k0, v) :: vs) k = valV vs k := by simp [valV, q]
      have e2 : valD ((k0, d) :: ds) k = valD ds k := by simp [valD, q]
      rw [e1, e2]
      exact val_rep k r
theorem key_rep {Z : Hp} {v : V} {d : D} {k : Key} (h : Rep K Z v d) (e : keyD d = some k) : v = kV k := by
  unfold keyD at e
  split at e
  · cases h; cases e; rfl
  · cases h; cases e; rfl
  · cases e
def getD (d k : D) : Option (Option D) := match d with
  | .dK kvs => (keyD k).map (valD kvs)
  | _ => none
theorem get_ok {Z H : Hp} {x y : V} {d k : D} {o : Option D} (s : Same Z H) (hx : Rep K Z x d) (hy : Rep K Z y k) (e : getD d k = some o) : ∃ a r, x = .ref a ∧ DGet H a y r ∧ ((r = none ∧ o = none) ∨ ∃ v c, r = some v ∧ o = some c ∧ Rep K Z v c) := by
  unfold getD at e
  split at e
  · rename_i kvs
    cases q : keyD k with
    | none => rw [q] at e; cases e
    | some kk =>
      rw [q] at e; cases e
      cases hx with
      | dK h1 h2 =>
        refine ⟨_, _, rfl, .inl ⟨_, kk, .inl (s _ _ h1), key_rep hy q, rfl⟩, ?_⟩
        rcases val_rep kk h2 with ⟨a, b⟩ | ⟨v, c, a, b, r⟩
        · exact .inl ⟨a, b⟩
        · exact .inr ⟨v, c, a, b, r⟩
  · cases e
def dGetI (d k : D) : Option D := match getD d k with
  | some (some c) => some c
  | _ => none
theorem de_dget (hu : X.A.units + 1 < cLine) {td ty : TE} {m n : EM} (ha : DE K X W a td m) (hb : DE K X W b ty n) (hs : NoSl b := by exact fun _ _ => rfl) : DE K X W (.Subscript a b pos) (tDGet td ty) (mBin dGetI m n) := by
  refine ⟨ha.k, pe_dget hu ha.pe hb.pe hs, ⟨fun σ H s Z I r0 Q w rs e p => ?_⟩⟩
  refine ha.so.bnd w rs e p.x fun d v M1 Z1 H1 I1 w1 rs1 x1 q1 e1 => ?_
  obtain ⟨d, rfl, e1⟩ := pur_ok e1
  have p1 := p.mono x1
  refine hb.so.bnd (s := ⟨s.l, M1⟩) w1 rs1 e1 p1.x fun d2 v2 M2 Z2 H2 I2 w2 rs2 x2 q2 e2 => ?_
  obtain ⟨d2, rfl, e2⟩ := pur_ok e2
  obtain ⟨c, hc, rfl⟩ := ret_ok e2
  unfold dGetI at hc
  cases z : getD d d2 with
  | none => rw [z] at hc; cases hc
  | some o =>
    rw [z] at hc
    obtain ⟨ad, r, ex, g, k⟩ := get_ok w2.sub (Rep.mono x2.z q1) q2 z
    rcases k with ⟨_, rfl⟩ | ⟨u, c', rfl, rfl, hr⟩
    · cases hc
    · cases hc
      exact ⟨ad, u, ex, g, (p1.mono x2) u Z2 H2 I2 w2 Ext.refl hr⟩
end
end DL
namespace DL
open PySem L2
section
variable {K : PySem.W.Frag} {X : Cx} {W : WX} {pos : Pos}
theorem units1 {k : Nat} {A : Around} (r : Room k A) : A.units + 1 < cLine := by have := r.un; omega
theorem lk_nil {P : Str → D → Prop} : ∀ z e, List.lookup z ([] : List (Str × D)) = some e → P z e := fun z e h => by cases h
theorem lk_cons {P : Str → D → Prop} {k : Str} {d : D} {r : List (Str × D)} (h : P k d) (hr : ∀ z e, List.lookup z r = some e → P z e) : ∀ z e, List.lookup z ((k, d) :: r) = some e → P z e := fun z e q => by
  rw [List.lookup_cons] at q
  cases b : z == k with
  | true =>
    rw [b] at q
    cases q
    have e1 : z = k := by simpa using b
    rw [e1]; exact h
  | false => rw [b] at q; exact hr z e q
/-- {k: v, ..} of constants -/
theorem de_dictC {keys : List (Option Expr)} {values : List Expr} {trs : List (TE × TE)} {kvs : List (Key × V)} {ds : List (Key × D)} (h : PPs X pos keys values trs) (ht : ∀ (σ : St) (H : Hp) (Q : List (V × V) → Hp → Prop), Q (kvs.map fun kv => (kV kv.1, kv.2)) H → tPairs trs σ H Q) (hr : ∀ Z, RepK K Z kvs ds)
    (hm : mergeK [] kvs = kvs) (h15' : kvs.length ≤ 15) (hall : keys.all (·.isSome) = true := by rfl) (hl : keys.length = values.length := by rfl) (h0 : keys ≠ [] := by exact List.cons_ne_nil _ _) (h15 : keys.length ≤ 15 := by decide) (k : X.K = K := by rfl) : DE K X W (.Dict keys values pos) (tDisp trs) (mC (.dK ds)) :=
  ⟨k, pe_disp h hall hl h0 h15, ⟨fun σ H s Z I r Q w rs e p => by
    obtain rfl := Option.some.inj e
    intro l hp
    refine ht σ _ _ ⟨upd_same, kvs, rfl, h15', ?_⟩
    rw [hm]
    have e2 : upd (upd H l (.dK [])) l (.dK kvs) = upd H l (.dK kvs) := by
      funext b
      by_cases q : b = l
      · subst q; rw [upd_same, upd_same]
      · rw [upd_ne q, upd_ne q, upd_ne q]
    rw [e2]
    have y := ExtP.new (o := .dK kvs) w.sub hp
    exact p _ _ _ I (w.extP y) (y.ext w) (show Rep K (upd Z l (.dK kvs)) (.ref l) (.dK ds) from .dK upd_same (hr _))⟩⟩
end
end DL
namespace DL
open PySem L2 PySem.W
/-! ### sorted: the data -/
def tupNE : PyData → Bool
  | .tuple (_ :: _) => true
  | _ => false
def plainK : PyData → Bool
  | .none => false
  | .tuple _ => false
  | _ => true
def sortOk (ks : List PyData) : Bool := (ks.all tupNE || ks.all plainK) && ks.all fun d => ks.all fun e => alike d e
theorem sortOk_like {ks : List PyData} (h : sortOk ks = true) : AllAlike ks := by
  intro d hd e he
  unfold sortOk at h
  rw [Bool.and_eq_true] at h
  exact List.all_eq_true.mp (List.all_eq_true.mp h.2 d hd) e he
theorem sortOk_sortable {ks : List PyData} (h : sortOk ks = true) : Sortable ks := by
  unfold sortOk at h
  rw [Bool.and_eq_true, Bool.or_eq_true] at h
  rcases h.1 with q | q
  · refine .inl fun d hd => ?_
    have z := List.all_eq_true.mp q d hd
    unfold tupNE at z
    split at z
    · exact ⟨_, _, rfl⟩
    · cases z
  · refine .inr fun d hd => ?_
    have z := List.all_eq_true.mp q d hd
    refine ⟨fun e => ?_, fun xs e => ?_⟩ <;> subst e <;> cases z
noncomputable def sortBy (ds ks : List D) : List D := ((ds.zip ks).mergeSort (dataLe false fun p => toP p.2)).map (·.1)
def keysM (f : MA) : List D → Option (List D)
  | [] => some []
  | d :: r => match f [d] with
    | some (.ok k) => match keysM f r with
      | some ks => some (k :: ks)
      | none => none
    | _ => none
theorem keysM_len {f : MA} : ∀ {ds ks : List D}, keysM f ds = some ks → ks.length = ds.length
  | [], _, e => by cases e; rfl
  | d :: r, ks, e => by
    unfold keysM at e
    split at e
    · split at e
      · rename_i q
        cases e
        rw [List.length_cons, List.length_cons, keysM_len q]
      · cases e
    · cases e
theorem keysM_at {f : MA} : ∀ {ds ks : List D} {i : Nat} {d : D}, keysM f ds = some ks → ds[i]? = some d → ∃ k, ks[i]? = some k ∧ f [d] = some (.ok k)
  | [], _, i, d, _, h => by simp at h
  | d0 :: r, ks, i, d, e, h => by
    unfold keysM at e
    split at e
    · rename_i q0
      split at e
      · rename_i q
        cases e
        cases i with
        | zero => simp at h; subst h; exact ⟨_, rfl, q0⟩
        | succ i =>
          obtain ⟨k', h1, h2⟩ := keysM_at (i := i) q (by simpa using h)
          exact ⟨k', by simpa using h1, h2⟩
      · cases e
    · cases e
theorem toPs_map : ∀ ds : List D, toPs ds = ds.map toP
  | [] => rfl
  | d :: r => by show toP d :: toPs r = _; rw [toPs_map r]; rfl
section
variable {X : Cx} {pins : List (Addr × Obj)} {σ : St} {H : Hp} {s : Shared}
/-- an object of one's own, newer than the entry's heap, may be forgotten -/
theorem forget {a : Addr} {φ : Heap → Prop} (I : Inv X pins σ H s) (ha : H a = some (.ext φ)) (hn : X.s_0.heap.objs.size ≤ a) (hx : X.ex = []) :
    ∃ G : Heap, (∀ b o, G.get? b = some o → s.heap.get? b = some o) ∧ G.get? a = none ∧ Inv X pins σ (delH H a) { s with heap := G } := by
  have n0 : X.s_0.heap.get? a = none := Heap.get?_none_of_le hn
  have nb : X.base.get? a = none := Heap.get?_none_of_le (Nat.le_trans I.ok.bsz hn)
  let Y : Cx := { X with H_0 := delH X.H_0 a }
  have ok : Y.Ok := ⟨I.ok.mod, I.ok.kind, I.ok.glob, I.ok.blt, I.ok.above, I.ok.inj, I.ok.has, I.ok.cab, I.ok.hd, I.ok.frames, I.ok.stk, I.ok.exf, fun b o e => ⟨(I.ok.bs b o e).1, by
      show delH X.H_0 a b = none
      unfold delH
      split
      · rfl
      · exact (I.ok.bs b o e).2⟩, I.ok.bsz, I.ok.noex, I.ok.exfs, I.ok.funs, fun b hb => by
      show delH X.H_0 a b = none
      unfold delH
      split
      · rfl
      · exact I.ok.frf b hb⟩
  have ne : ∀ {b : Addr} {o : Obj}, X.s_0.heap.get? b = some o → b ≠ a := fun e z => by rw [z, n0] at e; cases e
  have J : Inv Y pins σ H s := ⟨ok, I.os, I.bare, ⟨fun b o e n h1 h2 => I.base.keep b o e ((delH_ne (H := X.H_0) (ne e)).symm.trans n) h1 h2, fun b o e n h1 h2 => I.base.slot b o e ((delH_ne (H := X.H_0) (ne e)).symm.trans n) h1 h2,
      fun b o e n h2 => I.base.free b o e ((delH_ne (H := X.H_0) (ne e)).symm.trans n) h2, fun b o e h2 => I.base.there b o e h2,
      fun b xs e => I.base.tups b xs (by
        by_cases z : b = a
        · rw [z] at e; rw [show Y.H_0 a = delH X.H_0 a a from rfl, delH_same] at e; cases e
        · exact (delH_ne (H := X.H_0) z).symm.trans e),
      fun b o u e => I.base.frzs b o u (by
        by_cases z : b = a
        · rw [z] at e; rw [show Y.H_0 a = delH X.H_0 a a from rfl, delH_same] at e; cases e
        · exact (delH_ne (H := X.H_0) z).symm.trans e),
      fun b ps e => I.base.tbls b ps (by
        by_cases z : b = a
        · rw [z] at e; rw [show Y.H_0 a = delH X.H_0 a a from rfl, delH_same] at e; cases e
        · exact (delH_ne (H := X.H_0) z).symm.trans e)⟩, I.loc, I.cell, I.free, I.freeC, I.pin, I.hok, I.len⟩
  obtain ⟨G, g1, g2, J2⟩ := J.untrack ha (fr0_none (show delH X.H_0 a a = none from delH_same)) hx
  refine ⟨G, g1, g2, ⟨I.ok, J2.os, J2.bare, ⟨fun b o e n h1 h2 => J2.base.keep b o e (by show delH X.H_0 a b = none; rw [delH_ne (ne e)]; exact n) h1 h2, fun b o e n h1 h2 => J2.base.slot b o e (by show delH X.H_0 a b = none; rw [delH_ne (ne e)]; exact n) h1 h2,
      fun b o e n h2 => J2.base.free b o e (by show delH X.H_0 a b = none; rw [delH_ne (ne e)]; exact n) h2, fun b o e h2 => J2.base.there b o e h2,
      fun b xs e => ?_, fun b o u e => ?_, fun b ps e => ?_⟩, J2.loc, J2.cell, J2.free, J2.freeC, J2.pin, J2.hok, J2.len⟩⟩
  · have z : b ≠ a := fun z => by
      have := I.base.tups b xs e
      rw [z, ha] at this; cases this
    exact J2.base.tups b xs (by show delH X.H_0 a b = _; rw [delH_ne z]; exact e)
  · have z : b ≠ a := fun z => by
      have := I.base.frzs b o u e
      rw [z, ha] at this; cases this
    exact J2.base.frzs b o u (by show delH X.H_0 a b = _; rw [delH_ne z]; exact e)
  · have z : b ≠ a := fun z => by
      obtain ⟨m, this⟩ := I.base.tbls b ps e
      rw [z, ha] at this; cases this
    exact J2.base.tbls b ps (by show delH X.H_0 a b = _; rw [delH_ne z]; exact e)
/-- one call of the key -/
theorem key_turn {k : Nat} {f : MA} {fa : Addr} {fd : FuncData} {ps : List Str} {A : Around} (F : FnOk X.prog X.w X.K X.mg X.base (L2.CX X.prog X.w) k fa fd ps (spA X.K 1 f)) (hb : Binds X.K fd ps []) (hr : Room k A) (I : Inv X pins σ H s)
    (he : Env0 X.prog X.w X.K X.mg X.base A X.stack s H) {v : V} {u : Value} {d c : D} {Z : Hp} (rv : RelV v u) (sz : Same Z H) (hv : Rep X.K Z v d) (hf : f [d] = some (.ok c)) :
    wpAny (model X.prog X.w) A (call (.ref fa) [u]) (EP X pins σ fun v' H' => ∃ Z', ExtP Z H Z' H' ∧ Rep X.K Z' v' c) (fun _ _ => False) s := by
  have hsp : spA X.K 1 f [v] H (fun v' H' => ∃ Z', ExtP Z H Z' H' ∧ Rep X.K Z' v' c) (fun _ _ _ => False) := ⟨rfl, Z, [d], .ok c, sz, .cons hv .nil, hf, fun v' Z' H' x r => ⟨Z', x, r⟩⟩
  have hl : ([u] ++ []).length = ps.length := F.len _ _ _ _ hsp
  refine wpAny_call (codeAny_mono (F.run A X.stack s H ⟨[u], []⟩ [u] [v] _ (fun _ _ _ => False) hr he (hb s [u] I.kIn hl) (.cons rv .nil) hsp) fun r s' hq => ?_)
  cases r with
  | error e =>
    obtain ⟨_, _, _, _, _, _, _, _, _, _, _, _, z⟩ := hq
    exact z
  | ok fl =>
    cases fl with
    | ret u => exact I.after hq
    | next => exact False.elim hq
    | brk => exact False.elim hq
    | cont => exact False.elim hq
end
end DL
namespace DL
open PySem L2 PySem.W
open PyProof.Rows (seqObj get?_update_seq listUpdate_at listItems_at seqEpoch_at size_push' ksk_rest ksk_fold ksk_tree ksk_t1)
def atS (a : Addr) (xs : Array Value) (n : Nat) : HO := .ext fun h => h.get? a = some (seqObj "list" xs n)
theorem atS_ok {P : Program} {w : World} {H : Hp} {h : Heap} {a : Addr} {xs : Array Value} {n : Nat} (e : h.get? a = some (seqObj "list" xs n)) : ObjOk P w H h a (atS a xs n) := ⟨e, ⟨_, e⟩, fun _ _ q k => k _ q⟩
theorem atS_at {P : Program} {w : World} {H : Hp} {h : Heap} {a : Addr} {xs : Array Value} {n : Nat} (ok : HOk P w H h) (e : H a = some (atS a xs n)) : h.get? a = some (seqObj "list" xs n) := (ok a _ e).1
theorem each_vals {R : Value → D × D → Prop} {K : PySem.W.Frag} {Z : Hp} (hR : ∀ u p, R u p → ∃ v, RelV v u ∧ Rep K Z v p.1) : ∀ {us : List Value} {ps : List (D × D)}, EachIs R us ps → ∃ vs, Vals vs us ∧ RepA K Z vs (ps.map (·.1))
  | _, _, .nil => ⟨[], .nil, .nil⟩
  | _, _, .cons h t => by
    obtain ⟨v, r1, r2⟩ := hR _ _ h
    obtain ⟨vs, q1, q2⟩ := each_vals hR t
    exact ⟨v :: vs, .cons r1 q1, .cons r2 q2⟩
theorem each_mk {K : PySem.W.Frag} {Z : Hp} : ∀ {us : List Value} {vs : List V} {ds ks : List D}, Vals vs us → RepA K Z vs ds → ks.length = ds.length → EachIs (fun u (p : D × D) => ∃ v, RelV v u ∧ Rep K Z v p.1) us (ds.zip ks)
  | _, _, _, [], .nil, .nil, _ => .nil
  | _, _, _, _ :: _, .nil, .nil, e => by simp at e
  | _, _, _, [], .cons _ _, .cons _ _, e => by simp at e
  | _, _, _, k :: ks, .cons r1 t1, .cons r2 t2, e => .cons ⟨_, r1, r2⟩ (each_mk t1 t2 (by simpa using e))
theorem each_reads {X : Cx} {pins : List (Addr × Obj)} {σ : St} {H Z : Hp} {s : Shared} (I : Inv X pins σ H s) (sz : Same Z H) : ∀ {us : List Value} {vs : List V} {ks : List D}, Vals vs us → RepA X.K Z vs ks → (∀ k ∈ ks, shp k = true) → EachIs (fun u d => ∃ as, Reads s.heap u d as) us (ks.map toP)
  | _, _, _, .nil, .nil, _ => .nil
  | _, _, _, .cons r1 t1, .cons (d := d) r2 t2, h => .cons (Dp.reads I (toP d) _ _ (r2.dp sz (shaped_can (h d List.mem_cons_self))) r1) (each_reads I sz t1 t2 fun k hk => h k (List.mem_cons_of_mem _ hk))
section
variable {X : Cx} {pins : List (Addr × Obj)} {σ : St} {H Z : Hp} {s : Shared}
structure Turn (X : Cx) (pins : List (Addr × Obj)) (σ : St) (Z H : Hp) (a kS : Addr) (e1 : Nat) (ks : List D) (j : Nat) (s' : Shared) : Prop where
  ex : ∃ (Hj Zj : Hp) (kA : Array Value) (e : Nat) (kvs : List V), Inv X pins σ Hj s' ∧ ExtP Z H Zj Hj ∧ Hj kS = some (atS kS kA e) ∧ Hj a = some (atS a #[] e1) ∧ Zj kS = none ∧ Zj a = none ∧ Vals kvs kA.toList ∧ RepA X.K Zj kvs (ks.take j)
theorem Same.outer {Z1 H1 : Hp} {a : Addr} {o : HO} (h : Same Z1 H1) (e : Z1 a = none) : Same Z1 (upd H1 a o) := fun b u q => by
  rw [upd_ne (ne_of_none q e)]; exact h b u q
/-- all turns, and what is behind them -/
theorem turns_ok {k : Nat} {f : MA} {fa : Addr} {fd : FuncData} {ps : List Str} {A : Around} {E : Value → Shared → Prop} (F : FnOk X.prog X.w X.K X.mg X.base (L2.CX X.prog X.w) k fa fd ps (spA X.K 1 f)) (hb : Binds X.K fd ps []) (hr : Room k A) (he : ∀ {H' : Hp} {s' : Shared}, Inv X pins σ H' s' → Env0 X.prog X.w X.K X.mg X.base A X.stack s' H')
    {a kS : Addr} {e1 : Nat} {us : List Value} {xs : List V} {ds ks : List D} (hka : kS ≠ a) (nS : H kS = none) (nA : H a = none) (rv : Vals xs us) (hx : RepA X.K Z xs ds) (hk : keysM f ds = some ks) (hZ : us.length ≤ sizeLine) (hst : X.s_0.heap.objs.size ≤ kS) (hex : X.ex = [])
    (hsp : ∀ k ∈ ks, shp k = true) (ok : sortOk (toPs ks) = true) (hu : ∀ k ∈ ks, A.units + (toP k).depth < cLine) {Q : VK} (p : PostP X.K Z H (.lst (sortBy ds ks)) Q) {P : PySem.Fin → Shared → Prop} (hP : ∀ s', EP X pins σ Q (.ref a) s' → P (.done (.ret .none)) s')
    (T : Turn X pins σ Z H a kS e1 ks 0 s) : wpAny (model X.prog X.w) A (ksk_rest a (.ref fa) false us.toArray e1 (.ref kS)) P E s := by
  have hkl := keysM_len hk
  have hxl := hx.length
  have hul : us.length = xs.length := rv.length.symm
  unfold ksk_rest
  refine wpAny_bind (wpAny_rule ?_)
  rw [List.forIn_toArray]
  refine wpAny_bind (ksk_fold (fun i s' => Turn X pins σ Z H a kS e1 ks i s') us 0 s T (fun j x s' hxj t => ?_) fun s' t => ?_)
  · rw [Nat.zero_add] at t ⊢
    obtain ⟨Hj, Zj, kA, e, kvs, I, xt, hS, hA, zS, zA, rk, rr⟩ := t.ex
    have hj : j < us.length := (List.getElem?_eq_some_iff.mp hxj).1
    obtain ⟨v, hv⟩ : ∃ v, xs[j]? = some v := ⟨_, List.getElem?_eq_getElem (by omega)⟩
    obtain ⟨d, hd, rd⟩ := hx.get' hv
    obtain ⟨u, hu1, ru⟩ := rv.get hv
    rw [hxj] at hu1
    cases hu1
    obtain ⟨c, hc, hf⟩ := keysM_at hk hd
    have hz : kA.size ≤ sizeLine := by
      have h1 : kA.size = kvs.length := by rw [L2.Vals.length rk]; simp
      have h2 := rr.length
      rw [List.length_take] at h2
      omega
    refine wpAny_bind (wpAny_attempt (wpAny_mono (key_turn F hb hr I (he I) ru xt.sub (rd.mono xt.z) hf) (fun w s2 hw => ?_) fun _ _ z => z.elim))
    obtain ⟨wv, Hn, I2, rw2, Zn, xn, rn⟩ := hw
    have hS2 := xn.h _ _ hS
    have hA2 := xn.h _ _ hA
    have zS2 : Zn kS = none := by
      cases q : Zn kS with
      | none => rfl
      | some o =>
        rcases xn.zn kS (by rw [q]; simp) with z | z
        · exact absurd zS z
        · rw [hS] at z; cases z
    have zA2 : Zn a = none := by
      cases q : Zn a with
      | none => rfl
      | some o =>
        rcases xn.zn a (by rw [q]; simp) with z | z
        · exact absurd zA z
        · rw [hA] at z; cases z
    have nk := atS_at I2.hok hS2
    have sb := Heap.SameBut.update s2.heap kS (Obj.mapSeq (·.push w))
    obtain ⟨c2, hc2⟩ : ∃ c2, (s2.heap.update kS (Obj.mapSeq (·.push w))).get? kS = some (seqObj "list" (kA.push w) c2) := ⟨_, get?_update_seq nk (·.push w)⟩
    try dsimp only
    refine wpAny_bind (listUpdate_at nk rfl ?_ hz (Nat.le_trans (Nat.le_of_eq (Array.size_push ..)) (Nat.succ_le_succ hz)))
    have I3 := I2.write (x := kS) (e := kS) (o := atS kS (kA.push w) c2) (t' := s2.toks) (by rw [hS2]; trivial) (.inl rfl) (fun b u' hne q => (sb.2 b hne).trans q) ⟨_, hc2⟩ (atS_ok hc2)
    refine wpAny_pure ⟨rfl, ⟨upd Hn kS (atS kS (kA.push w) c2), Zn, kA.push w, c2, kvs ++ [wv], I3, ?_, upd_same, by rw [upd_ne hka.symm]; exact hA2, zS2, zA2, ?_, ?_⟩⟩
    · have x2 := xt.trans xn
      exact ⟨x2.z, fun b u' q => by rw [upd_ne (ne_of_none q nS)]; exact x2.h b u' q, Same.outer x2.sub zS2, x2.zn⟩
    · have ea : (kA.push w).toList = kA.toList ++ [w] := by simp
      rw [ea]
      exact paired_app rk (.cons rw2 .nil)
    · have ek : ks.take (j + 1) = ks.take j ++ [c] := by rw [List.take_add_one, hc]; rfl
      rw [ek]
      exact (rr.mono xn.z).append (.cons rn .nil)
  · rw [Nat.zero_add] at t
    obtain ⟨Hj, Zj, kA, e, kvs, I, xt, hS, hA, zS, zA, rk, rr⟩ := t.ex
    rw [List.take_of_length_le (by omega)] at rr
    have nk := atS_at I.hok hS
    have na := atS_at I.hok hA
    obtain ⟨G, gk, gn, J⟩ := forget I hS hst hex
    try dsimp only
    refine wpAny_bind (listItems_at nk rfl ?_)
    have er := each_reads I xt.sub rk rr hsp
    have hal : AllAlike (ks.map toP) := by rw [← toPs_map]; exact sortOk_like ok
    have hso : Sortable (ks.map toP) := by rw [← toPs_map]; exact sortOk_sortable ok
    have hsz : kA.size = us.length := by
      have h1 : kA.size = kvs.length := by rw [L2.Vals.length rk]; simp
      have h2 := rr.length
      omega
    refine keyH_end (κ := dataKind s'.heap (ks.map toP)) (h₁ := G) (fun b o _ q => gk b o q) gn nk na hka (SortsAt.data er hal hso fun d hd => ?_) hsz hZ fun h' tk c kp n => ?_
    · obtain ⟨k0, hk0, rfl⟩ := List.mem_map.mp hd
      exact hu k0 hk0
    · have ko : KeyedOut false ((ds.zip ks).map fun p => toP p.2) us (PySem.W.sortVals (dataKind s'.heap (ks.map toP)) false kA.toList us) := by
        have e1 : (ds.zip ks).map (fun p => toP p.2) = ks.map toP := by
          rw [show (fun p : D × D => toP p.2) = toP ∘ Prod.snd from rfl, ← List.map_map, List.map_snd_zip (by omega)]
        rw [e1]
        exact ⟨s'.heap, kA.toList, hal, rfl, er⟩
      have eo := keyedOut_each (R := fun u (p : D × D) => ∃ v, RelV v u ∧ Rep X.K Zj v p.1) (fun p : D × D => toP p.2) ko (each_mk rv (hx.mono xt.z) hkl)
      obtain ⟨ov, o1, o2⟩ := each_vals (fun _ _ q => q) eo
      have hol : ov.length ≤ sizeLine := by
        have h1 := o2.length
        rw [List.length_map, List.length_mergeSort, List.length_zip] at h1
        omega
      have hAd : delH Hj kS a = some (atS a #[] e1) := by rw [delH_ne hka.symm]; exact hA
      have J2 := J.write (h' := h') (x := a) (e := a) (o := .lst ov) (t' := tk) (by rw [hAd]; trivial) (.inl rfl) (fun b u' hne q => kp b u' hne q) ⟨_, n⟩ ⟨hol, _, c, o1, n⟩
      refine hP _ ⟨.ref a, _, J2, rfl, p _ (upd Zj a (.lst ov)) _ ⟨?_, ?_, ?_, ?_⟩ (.lst (.inl upd_same) (o2.mono ?_))⟩
      · exact fun b u' q => by rw [upd_ne (ne_of_none (xt.z b u' q) zA)]; exact xt.z b u' q
      · exact fun b u' q => by rw [upd_ne (ne_of_none q nA), delH_ne (ne_of_none q nS)]; exact xt.h b u' q
      · intro b u' q
        by_cases z : b = a
        · rw [z, upd_same] at q ⊢; exact q
        · rw [upd_ne z] at q ⊢
          rw [delH_ne (ne_of_none q zS)]
          exact xt.sub b u' q
      · intro b q
        by_cases z : b = a
        · rw [z]; exact .inr nA
        · rw [upd_ne z] at q; exact xt.zn b q
      · exact fun b u' q => by rw [upd_ne (ne_of_none q zA)]; exact q
end
end DL
namespace DL
open PySem L2 PySem.W
open PyProof.Rows (seqObj get?_update_seq listUpdate_at listItems_at seqEpoch_at size_push' ksk_rest ksk_fold ksk_tree ksk_t1 ksk_s1 ksk_l1)
section
variable {X : Cx} {pins : List (Addr × Obj)} {σ : St} {H Z : Hp} {s : Shared}
/-- sorted(xs, key=f), f a def -/
theorem sortF_run {k : Nat} {f : MA} {fa : Addr} {fd : FuncData} {ps : List Str} (F : FnOk X.prog X.w X.K X.mg X.base (L2.CX X.prog X.w) k fa fd ps (spA X.K 1 f)) (hb : Binds X.K fd ps []) (hr : Room (k + 2) X.A) (hex : X.ex = []) (I : Inv X pins σ H s)
    {l : Addr} {xs : List V} {ds ks : List D} (sz : Same Z H) (hl : SqL X.K H l xs) (hx : RepA X.K Z xs ds) (hk : keysM f ds = some ks) (hsp : ∀ k ∈ ks, shp k = true) (ok : sortOk (toPs ks) = true) {Q : VK} (p : PostP X.K Z H (.lst (sortBy ds ks)) Q) :
    wpAny (model X.prog X.w) X.A (call (.builtin "sorted") [.ref l] [(Str.ofString "key", .ref fa)]) (EP X pins σ Q) X.xe s := by
  obtain ⟨us, rv, hL, hz⟩ := I.list hl
  have hz2 : us.length ≤ sizeLine := by rw [← rv.length]; exact hz
  refine sorted_of_sort hL.isList hz2 (ksk_s1 _ _) (fun _ => ksk_l1 _ _) fun E' => ?_
  rw [ksk_t1]
  let a : Addr := s.heap.objs.size + 1
  let h0 := copyHeap s.heap us
  have oa : h0.get? a = some (seqObj "list" us.toArray 0) := copyHeap_at s.heap us
  have la : a < h0.objs.size := Heap.lt_size oa
  obtain ⟨e1, oa1⟩ : ∃ e1, (h0.update a (Obj.mapSeq fun _ => (#[] : Array Value))).get? a = some (seqObj "list" #[] e1) := ⟨_, get?_update_seq oa fun _ => #[]⟩
  let h1 := (h0.update a (Obj.mapSeq fun _ => (#[] : Array Value))).push (seqObj "tuple" us.toArray 0)
  have s1 : h1.objs.size = h0.objs.size + 1 := by show ((h0.update a _).push _).objs.size = _; rw [size_push', Heap.size_update]
  have keep1 : ∀ b u, s.heap.get? b = some u → h1.get? b = some u := fun b u q => by
    have q0 : h0.get? b = some u := copyHeap_old q
    have nb : b ≠ a := Nat.ne_of_lt (Nat.lt_succ_of_lt (Heap.lt_size q))
    exact Heap.get?_push_of_some _ (by rw [Heap.get?_update_ne _ _ _ _ nb]; exact q0)
  have oa2 : h1.get? a = some (seqObj "list" #[] e1) := Heap.get?_push_of_some _ oa1
  have nA : H a = none := I.hok.fresh (Nat.le_succ _)
  have J1 := I.laid (h' := h1) (a := a) (o := atS a #[] e1) (t' := s.toks) keep1 (Nat.le_succ _) (atS_ok oa2)
  have nS1 : upd H a (atS a #[] e1) h1.objs.size = none := J1.hok.fresh (Nat.le_refl _)
  have hka : h1.objs.size ≠ a := by rw [s1]; exact Nat.ne_of_gt (Nat.lt_succ_of_lt la)
  have nS : H h1.objs.size = none := by rw [upd_ne hka] at nS1; exact nS1
  have oS : (h1.push (seqObj "list" #[] 0)).get? h1.objs.size = some (seqObj "list" #[] 0) := Heap.get?_push_size _ rfl
  have J2 := J1.laid (h' := h1.push (seqObj "list" #[] 0)) (a := h1.objs.size) (o := atS h1.objs.size #[] 0) (t' := s.toks) (fun b u q => Heap.get?_push_of_some _ q) (Nat.le_refl _) (atS_ok oS)
  have hst : X.s_0.heap.objs.size ≤ h1.objs.size := by
    have := I.sz
    have : s.heap.objs.size + 1 < h0.objs.size := la
    omega
  unfold ksk_tree
  refine wpAny_bind (listItems_at (s := { s with heap := h0 }) oa rfl ?_)
  refine wpAny_bind (listUpdate_at (s := { s with heap := h0 }) oa rfl ?_ (by rw [List.size_toArray]; exact hz2) (Nat.zero_le _))
  refine wpAny_bind (seqEpoch_at oa1 rfl ?_)
  refine wpAny_bind (wpAny_newTuple ?_ hz2)
  refine wpAny_bind (wpAny_newList ?_ (Nat.zero_le _))
  refine wpAny_holding ?_
  exact turns_ok (s := { s with heap := h1.push (seqObj "list" #[] 0) }) F hb (Room.in1 (Room.in1 hr)) (fun I' => I'.env0.in1.in1) hka nS nA rv hx hk hz2 hst hex hsp ok (fun k0 h0 => by
      have z := hsp k0 h0
      unfold shp at z
      rw [Bool.and_eq_true] at z
      have y := of_decide_eq_true z.2
      have := hr.un
      show X.A.units + 1 + 1 + (toP k0).depth < cLine
      have dd : (toP k0).depth = depD k0 := depD_dep k0 z.1
      rw [dd]
      omega) p (fun s' q => ⟨rfl, q⟩)
    ⟨_, Z, #[], 0, [], J2, ⟨Same.refl _, fun b u q => by rw [upd_ne (ne_of_none q nS), upd_ne (ne_of_none q nA)]; exact q, Same.outer (Same.outer sz (none_of sz nA)) (none_of sz nS), fun b q => .inl q⟩, upd_same, by rw [upd_ne hka.symm]; exact upd_same, none_of sz nS, none_of sz nA, .nil, by rw [List.take_zero]; exact .nil⟩
/-- the mirror -/
noncomputable def sortKD (f : MA) : D → Option D
  | .lst ds => match keysM f ds with
    | some ks => if (ks.all shp && sortOk (toPs ks)) = true then some (.lst (sortBy ds ks)) else none
    | none => none
  | _ => none
noncomputable def mSortK (f : MA) (m : EM) : EM := bnd m (pur fun d => ret (sortKD f d))
def rSortF (K : PySem.W.Frag) (fa : Addr) (f : MA) : List V → List V → Hp → VK → Prop := fun vs zs H Q => zs = [.ref fa] ∧ ∃ (x : V) (Z : Hp) (d c : D), vs = [x] ∧ Same Z H ∧ Rep K Z x d ∧ sortKD f d = some c ∧ PostP K Z H c Q
theorem cr_sortF {k : Nat} {f : MA} {fa : Addr} {fd : FuncData} {ps : List Str} (F : FnOk X.prog X.w X.K X.mg X.base (L2.CX X.prog X.w) k fa fd ps (spA X.K 1 f)) (hb : Binds X.K fd ps []) (hr : Room (k + 2) X.A) (hex : X.ex = []) :
    CallRK X (.builtin "sorted") [Str.ofString "key"] (rSortF X.K fa f) := by
  intro pins s σ H vs zs us ws Q I r rz h
  obtain ⟨rfl, x, Z, d, c, rfl, sz, hx, hd, p⟩ := h
  cases r with
  | cons r1 r2 =>
  cases r2
  cases rz with
  | cons z1 z2 =>
  cases z2
  cases z1
  unfold sortKD at hd
  split at hd
  · split at hd
    · rename_i ks hk
      split at hd
      · rename_i hc
        cases hd
        rw [Bool.and_eq_true] at hc
        cases hx with
        | lst h1 h2 =>
          cases r1
          exact sortF_run F hb hr hex I sz (.inl (same_rd sz h1)) h2 hk (fun k0 h0 => List.all_eq_true.mp hc.1 k0 h0) hc.2 p
      · cases hd
    · cases hd
  · cases hd
end
@[simp] theorem e_add2I (i j : Int) : dAdd2 (.int i) (.int j) = some (.int (i + j)) := rfl
@[simp] theorem e_add2S (x y : Str) : dAdd2 (.str x) (.str y) = if x.length + y.length ≤ 1000000 then some (.str (x ++ y)) else none := rfl
@[simp] theorem e_add2L (x y : List D) : dAdd2 (.lst x) (.lst y) = if x.length + y.length ≤ 1000000 then some (.lst (x ++ y)) else none := rfl
@[simp] theorem e_inDL (xs ys : List D) : inD (.tup xs) (.lst ys) = if (shp (.tup xs) && shp (.lst ys)) = true then some (ys.any fun z => deq z (.tup xs)) else none := rfl
@[simp] theorem e_sortK (f : MA) (m : EM) (s : S) : mSortK f m s = (bnd m (pur fun d => ret (sortKD f d))) s := rfl
theorem sortKD_eq {f : MA} {ds ks : List D} (h : keysM f ds = some ks) (h1 : ks.all shp = true) (h2 : sortOk (toPs ks) = true) : sortKD f (.lst ds) = some (.lst (sortBy ds ks)) := by
  unfold sortKD
  simp only [h]
  rw [h1, h2]; rfl
theorem keysM_map {f : MA} {g : D → D} : ∀ {ds : List D}, (∀ d ∈ ds, f [d] = some (.ok (g d))) → keysM f ds = some (ds.map g)
  | [], _ => rfl
  | d :: r, h => by
    unfold keysM
    rw [h d List.mem_cons_self]
    simp only
    rw [keysM_map fun x hx => h x (List.mem_cons_of_mem _ hx)]
    rfl
/-- pairs of ints as keys -/
theorem sortOk_ii {α : Type} (l : List α) (a b : α → Int) : sortOk (toPs (l.map fun x => D.tup [.int (a x), .int (b x)])) = true := by
  rw [toPs_map, List.map_map]
  unfold sortOk
  rw [Bool.and_eq_true, Bool.or_eq_true]
  refine ⟨.inl (List.all_eq_true.mpr fun d hd => ?_), List.all_eq_true.mpr fun d hd => List.all_eq_true.mpr fun e he => ?_⟩
  · obtain ⟨x, _, rfl⟩ := List.mem_map.mp hd; rfl
  · obtain ⟨x, _, rfl⟩ := List.mem_map.mp hd
    obtain ⟨y, _, rfl⟩ := List.mem_map.mp he
    simp [toP, toPs, alike, alikeAll]
theorem sortBy_same (ds ks : List D) (hl : ks.length = ds.length) (h : (ds.zip ks).Pairwise fun p q => dataLe false (fun p : D × D => toP p.2) p q = true) : sortBy ds ks = ds := by
  unfold sortBy
  rw [List.mergeSort_of_pairwise h, List.map_fst_zip (by omega)]
section
variable {K : PySem.W.Frag} {X : Cx} {W : WX} {e : Expr} {pos p p2 kp : Pos}
theorem de_sortK {k kk : Nat} {f : MA} {fa : Addr} {fd : FuncData} {ps : List Str} {x : Str} {te : TE} {m : EM} (F : FnOk X.prog X.w K X.mg X.base (L2.CX X.prog X.w) k fa fd ps (spA K 1 f)) (hr : Room kk X.A) (hkk : k + 2 ≤ kk) (hs : X.mg "sorted" = none) (hm : X.mg x = some (.ref fa)) (hb : Binds K fd ps []) (h : DE K X W e te m)
    (hgs : Gl X "sorted" := by rfl) (hg : Gl X x := by rfl) (hex : X.ex = [] := by rfl) (hdb : (x == ("__debug__" : Str)) = false := by decide)
    (hs1 : starEach [e] X.env = (false, eval e X.env) :: starEach [] X.env := by rfl) (he : backTo pos (starEach [e] X.env) = (false, eval e X.env) :: backTo pos (starEach [] X.env) := by rfl) (hpl : (backTo pos (starEach [e] X.env)).any (·.1) = false := by rfl)
    (hall : (backToKw pos (keywordEach [⟨some "key", .Name x p2, kp⟩] X.env)).all (·.1.isSome) = true := by rfl) (hnone : (backToKw pos (keywordEach [⟨some "key", .Name x p2, kp⟩] X.env)).any (·.1.isNone) = false := by rfl) (hks : (backToKw pos (keywordEach [⟨some "key", .Name x p2, kp⟩] X.env)).filterMap (·.1) = [Str.ofString "key"] := by rfl) :
    DE K X W (.Call (.Name "sorted" p) [e] [⟨some "key", .Name x p2, kp⟩] pos) (tCKw (rSortF K fa f) (tCons te tNil) (tCons (tC (.ref fa)) tNil)) (mSortK f m) := by
  have k0 := h.k
  subst k0
  refine ⟨rfl, pe_callBK (cr_sortF F hb (hr.mono hkk) hex) hgs hs rfl (pa_cons h.pe pa_nil hs1) (pk_cons (pe_glob (v := .ref fa) hg hm rfl hdb) pk_nil) (by decide) (by decide) he hpl hall hnone hks, ⟨fun σ H s Z I r0 Q w rs e1 p1 => ?_⟩⟩
  refine h.so.bnd w rs e1 p1.x fun d v M1 Z1 H1 I1 w1 rs1 x1 q1 e2 => ?_
  obtain ⟨d, rfl, e2⟩ := pur_ok e2
  obtain ⟨c, hc, rfl⟩ := ret_ok e2
  exact ⟨rfl, v, Z1, d, c, rfl, w1.sub, q1, hc, PostP.of w1 (p1.mono x1)⟩
end
end DL
namespace DL
open PySem L2
/-! ### dicts: one's own, and data; keys ints and texts, or tuples of them -/
section
variable {α κ : Type} [DecidableEq κ]
def valO (kvs : List (κ × α)) (k : κ) : Option α := (kvs.find? fun kv => decide (kv.1 = k)).map (·.2)
def putO (kvs : List (κ × α)) (k : κ) (v : α) : List (κ × α) :=
  if (kvs.any fun kv => decide (kv.1 = k)) = true then kvs.map (fun kv => if kv.1 = k then (kv.1, v) else kv) else kvs ++ [(k, v)]
def dropO (kvs : List (κ × α)) (k : κ) : List (κ × α) := kvs.filter fun kv => decide (kv.1 ≠ k)
end
def keysD : List D → Option (List Key)
  | [] => some []
  | d :: r => match keyD d, keysD r with
    | some k, some ks => some (k :: ks)
    | _, _ => none
def keyT : D → Option (List Key)
  | .tup xs => keysD xs
  | _ => none
section
variable {K : PySem.W.Frag} {X : Cx} {W : WX} {e a b c : Expr} {es : List Expr} {pos : Pos} {Z H : Hp} {I : List Addr} {M : List O}
theorem keys_rep : ∀ {vs : List V} {xs : List D} {ks : List Key}, RepA K Z vs xs → keysD xs = some ks → vs = ks.map kV
  | _, [], _, .nil, e => by cases e; rfl
  | _, d :: r, _, .cons h t, e => by
    have e : (match keyD d, keysD r with | some k, some ks => some (k :: ks) | _, _ => none) = some _ := e
    cases q : keyD d with
    | none => rw [q] at e; cases e
    | some k =>
      cases q2 : keysD r with
      | none => rw [q, q2] at e; cases e
      | some ks =>
        rw [q, q2] at e; cases e
        rw [key_rep h q, keys_rep t q2]; rfl
theorem keyT_rep {v : V} {d : D} {ks : List Key} (h : Rep K Z v d) (e : keyT d = some ks) : ∃ b, v = .ref b ∧ Z b = some (.tup (ks.map kV)) := by
  cases h with
  | tup h1 h2 => exact ⟨_, rfl, by rw [← keys_rep h2 (show keysD _ = some ks from e)]; exact h1⟩
  | _ => cases e
section
variable {κ : Type} [DecidableEq κ]
theorem valP_rep {ks : List (κ × V)} {ds : List (κ × DV)} (r : Paired (FRel K Z I) ks ds) (k : κ) : (valV ks k = none ∧ valO ds k = none) ∨ ∃ v d, valV ks k = some v ∧ valO ds k = some d ∧ RepV K Z I v d := by
  induction r with
  | nil => exact .inl ⟨rfl, rfl⟩
  | @cons p q ps qs h t ih =>
    obtain ⟨h1, h2⟩ := h
    by_cases z : p.1 = k
    · exact .inr ⟨p.2, q.2, by simp [valV, z], by simp [valO, ← h1, z], h2⟩
    · have e1 : valV (p :: ps) k = valV ps k := by simp [valV, z]
      have e2 : valO (q :: qs) k = valO qs k := by simp [valO, ← h1, z]
      rw [e1, e2]; exact ih
theorem anyP_rep {ks : List (κ × V)} {ds : List (κ × DV)} (r : Paired (FRel K Z I) ks ds) (k : κ) : (ks.any fun kv => decide (kv.1 = k)) = ds.any fun kv => decide (kv.1 = k) := by
  induction r with
  | nil => rfl
  | @cons p q ps qs h t ih => rw [List.any_cons, List.any_cons, ih, h.1]
theorem mapP_rep {ks : List (κ × V)} {ds : List (κ × DV)} (k : κ) {v : V} {d : DV} (h : RepV K Z I v d) (r : Paired (FRel K Z I) ks ds) : Paired (FRel K Z I) (ks.map (fun kv => if kv.1 = k then (kv.1, v) else kv)) (ds.map (fun kv => if kv.1 = k then (kv.1, d) else kv)) := by
  induction r with
  | nil => exact .nil
  | @cons p q ps qs g t ih =>
    refine .cons ?_ ih
    show FRel K Z I (if p.1 = k then (p.1, v) else p) (if q.1 = k then (q.1, d) else q)
    by_cases z : p.1 = k
    · rw [if_pos z, if_pos (g.1.symm.trans z)]; exact ⟨g.1, h⟩
    · rw [if_neg z, if_neg (fun y => z (g.1.trans y))]; exact g
theorem putP_rep {ks : List (κ × V)} {ds : List (κ × DV)} (r : Paired (FRel K Z I) ks ds) (k : κ) {v : V} {d : DV} (h : RepV K Z I v d) : Paired (FRel K Z I) (putK ks k v) (putO ds k d) := by
  unfold putK putO
  rw [anyP_rep r k]
  split
  · exact mapP_rep k h r
  · exact paired_app r (.cons ⟨rfl, h⟩ .nil)
theorem dropP_rep {ks : List (κ × V)} {ds : List (κ × DV)} (r : Paired (FRel K Z I) ks ds) (k : κ) : Paired (FRel K Z I) (dropK ks k) (dropO ds k) := by
  unfold dropK dropO
  induction r with
  | nil => exact .nil
  | @cons p q ps qs g t ih =>
    rw [List.filter_cons, List.filter_cons, g.1]
    split
    · exact .cons g ih
    · exact ih
end
theorem repK_paired {ks : List (Key × V)} : ∀ {ds : List (Key × D)}, RepK K Z ks ds → Paired (FRel K Z I) ks (ds.map fun p => (p.1, DV.p p.2))
  | _, .nil => .nil
  | _, .cons h r => .cons ⟨rfl, h⟩ (repK_paired r)
theorem repT_paired {ks : List (List Key × V)} : ∀ {ds : List (List Key × D)}, RepT K Z ks ds → Paired (FRel K Z I) ks (ds.map fun p => (p.1, DV.p p.2))
  | _, .nil => .nil
  | _, .cons h r => .cons ⟨rfl, h⟩ (repT_paired r)
/-- the dict that a value is -/
inductive Dc where
  | k (kvs : List (Key × DV)) | t (kvs : List (List Key × DV))
def dcM (M : List O) : DV → Option Dc
  | .p (.dK kvs) => some (.k (kvs.map fun p => (p.1, .p p.2)))
  | .p (.dT kvs) => some (.t (kvs.map fun p => (p.1, .p p.2)))
  | .o n => match M[n]? with
    | some (.dK kvs) => some (.k kvs)
    | some (.dT kvs) => some (.t kvs)
    | _ => none
  | _ => none
def RepDc (K : PySem.W.Frag) (Z H : Hp) (I : List Addr) (a : Addr) : Dc → Prop
  | .k ds => ∃ ks, H a = some (.dK ks) ∧ Paired (FRel K Z I) ks ds
  | .t ds => ∃ ks, H a = some (.dT ks) ∧ Paired (FRel K Z I) ks ds
theorem dc_rep {x : V} {d : DV} {c : Dc} (w : Wf K Z H I M) (h : RepV K Z I x d) (e : dcM M d = some c) : ∃ a, x = .ref a ∧ RepDc K Z H I a c := by
  cases d with
  | o n =>
    obtain ⟨a, ha, rfl⟩ := h
    unfold dcM at e
    cases z : M[n]? with
    | none => simp only [z] at e; cases e
    | some o =>
      simp only [z] at e
      cases o with
      | dK ds => cases e; obtain ⟨_, r⟩ := w.ob n a _ ha z (by intro z; cases z); exact ⟨a, rfl, r⟩
      | dT ds => cases e; obtain ⟨_, r⟩ := w.ob n a _ ha z (by intro z; cases z); exact ⟨a, rfl, r⟩
      | _ => cases e
  | p d =>
    have h : Rep K Z x d := h
    cases h with
    | dK h1 h2 => cases e; exact ⟨_, rfl, _, w.sub _ _ h1, repK_paired h2⟩
    | dT h1 h2 => cases e; exact ⟨_, rfl, _, w.sub _ _ h1, repT_paired h2⟩
    | _ => cases e
def getC : Dc → D → Option (Option DV)
  | .k kvs, k => (keyD k).map (valO kvs)
  | .t kvs, k => (keyT k).map (valO kvs)
theorem getC_rep {x : Addr} {y : V} {c : Dc} {k : D} {o : Option DV} (s : Same Z H) (h : RepDc K Z H I x c) (hy : Rep K Z y k) (e : getC c k = some o) : ∃ r, DGet H x y r ∧ ((r = none ∧ o = none) ∨ ∃ v d, r = some v ∧ o = some d ∧ RepV K Z I v d) := by
  cases c with
  | k ds =>
    obtain ⟨ks, h1, h2⟩ := h
    have e : (keyD k).map (valO ds) = some o := e
    cases q : keyD k with
    | none => rw [q] at e; cases e
    | some kk =>
      rw [q] at e; cases e
      refine ⟨_, .inl ⟨ks, kk, .inl h1, key_rep hy q, rfl⟩, ?_⟩
      exact valP_rep h2 kk
  | t ds =>
    obtain ⟨ks, h1, h2⟩ := h
    have e : (keyT k).map (valO ds) = some o := e
    cases q : keyT k with
    | none => rw [q] at e; cases e
    | some kk =>
      rw [q] at e; cases e
      obtain ⟨b, rfl, hb⟩ := keyT_rep hy q
      refine ⟨_, .inr ⟨ks, kk, b, .inl h1, rfl, s _ _ hb, rfl⟩, ?_⟩
      exact valP_rep h2 kk
def getM (M : List O) (d : DV) (k : D) : Option (Option DV) := match dcM M d with
  | some c => getC c k
  | none => none
theorem getM_rep {x y : V} {d : DV} {k : D} {o : Option DV} (w : Wf K Z H I M) (hx : RepV K Z I x d) (hy : Rep K Z y k) (e : getM M d k = some o) :
    ∃ a r, x = .ref a ∧ DGet H a y r ∧ ((r = none ∧ o = none) ∨ ∃ v d, r = some v ∧ o = some d ∧ RepV K Z I v d) := by
  unfold getM at e
  cases z : dcM M d with
  | none => simp only [z] at e; cases e
  | some c =>
    simp only [z] at e
    obtain ⟨ad, rfl, rc⟩ := dc_rep w hx z
    obtain ⟨r, g, k⟩ := getC_rep w.sub rc hy e
    exact ⟨ad, r, rfl, g, k⟩
/-- d[k] -/
def dgK (d : DV) (k : D) : EM := fun s => match getM s.m d k with
  | some (some v) => some (.ok v s.m)
  | _ => none
def mDget (m n : EM) : EM := bnd m fun d => bnd n (pur (dgK d))
theorem de_dgetG (hu : X.A.units + 1 < cLine) {td ty : TE} {m n : EM} (ha : DE K X W a td m) (hb : DE K X W b ty n) (hs : NoSl b := by exact fun _ _ => rfl) : DE K X W (.Subscript a b pos) (tDGet td ty) (mDget m n) := by
  refine ⟨ha.k, pe_dget hu ha.pe hb.pe hs, ⟨fun σ H s Z I r0 Q w rs e p => ?_⟩⟩
  refine ha.so.bnd w rs e p.x fun d v M1 Z1 H1 I1 w1 rs1 x1 q1 e1 => ?_
  have p1 := p.mono x1
  refine hb.so.bnd (s := ⟨s.l, M1⟩) w1 rs1 e1 p1.x fun d2 v2 M2 Z2 H2 I2 w2 rs2 x2 q2 e2 => ?_
  obtain ⟨d2, rfl, e2⟩ := pur_ok e2
  have e2 : (match getM M2 d d2 with | some (some v) => some (Rs.ok v M2) | _ => none) = some r0 := e2
  cases z : getM M2 d d2 with
  | none => rw [z] at e2; cases e2
  | some o =>
    rw [z] at e2
    obtain ⟨ad, r, rfl, g, k⟩ := getM_rep w2 (q1.mono x2) q2 z
    rcases k with ⟨_, rfl⟩ | ⟨u, c', rfl, rfl, hr⟩
    · cases e2
    · cases e2
      exact ⟨ad, u, rfl, g, (p1.mono x2) u Z2 H2 I2 w2 Ext.refl hr⟩
/-- k in d, k not in d -/
def dinK (neg : Bool) (k : D) (d : DV) : EM := fun s => match getM s.m d k with
  | some o => some (.ok (.p (.bl (if neg then !o.isSome else o.isSome))) s.m)
  | _ => none
def mDin (neg : Bool) (m n : EM) : EM := bnd m (pur fun k => bnd n (dinK neg k))
theorem so_din (neg : Bool) {ty td : TE} {m n : EM} (ha : Sound K W (RepV K) ty m) (hb : Sound K W (RepV K) td n) :
    Sound K W (RepV K) (fun σ H Q => ty σ H fun y H1 => td σ H1 fun x H2 => ∃ a o, x = .ref a ∧ DGet H2 a y o ∧ Q (.bl (if neg then !o.isSome else o.isSome)) H2) (mDin neg m n) := ⟨fun σ H s Z I r0 Q w rs e p => by
  refine ha.bnd w rs e p.x fun d v M1 Z1 H1 I1 w1 rs1 x1 q1 e1 => ?_
  obtain ⟨d, rfl, e1⟩ := pur_ok e1
  have p1 := p.mono x1
  refine hb.bnd (s := ⟨s.l, M1⟩) w1 rs1 e1 p1.x fun d2 v2 M2 Z2 H2 I2 w2 rs2 x2 q2 e2 => ?_
  have e2 : (match getM M2 d2 d with | some o => some (Rs.ok (DV.p (.bl (if neg then !o.isSome else o.isSome))) M2) | _ => none) = some r0 := e2
  cases z : getM M2 d2 d with
  | none => rw [z] at e2; cases e2
  | some o =>
    rw [z] at e2; cases e2
    obtain ⟨ad, r, rfl, g, k⟩ := getM_rep w2 q2 (Rep.mono x2.z q1) z
    refine ⟨ad, r, rfl, g, ?_⟩
    have er : r.isSome = o.isSome := by
      rcases k with ⟨rfl, rfl⟩ | ⟨u, c', rfl, rfl, hr⟩ <;> rfl
    rw [er]
    exact (p1.mono x2) _ Z2 H2 I2 w2 Ext.refl (.bl _)⟩
theorem mDin_bool {neg : Bool} {m n : EM} (s : S) (r : Rs DV) (e : mDin neg m n s = some r) (v : DV) (M : List O) (hr : r = .ok v M) : ∃ b, v = .p (.bl b) := by
  subst hr
  obtain ⟨a, M1, _, e⟩ := bnd_ok e
  obtain ⟨d, _, e⟩ := pur_ok e
  obtain ⟨a2, M2, _, e⟩ := bnd_ok e
  unfold dinK at e
  cases z : getM M2 a2 d with
  | none => simp only [z] at e; cases e
  | some o => simp only [z] at e; cases e; exact ⟨_, rfl⟩
theorem de_din (hu : X.A.units + 1 < cLine) {ty td : TE} {m n : EM} (ha : DE K X W a ty m) (hb : DE K X W b td n) (hm : behindInMarks .In b = false := by rfl) : DE K X W (.Compare a [.In] [b] pos) (tDIn ty td) (mDin false m n) := ⟨ha.k, pe_cmp (pc_din hu ha.pe hb.pe) hm, so_din false ha.so hb.so⟩
theorem de_dnin (hu : X.A.units + 1 < cLine) {ty td : TE} {m n : EM} (ha : DE K X W a ty m) (hb : DE K X W b td n) (hm : behindInMarks .NotIn b = false := by rfl) : DE K X W (.Compare a [.NotIn] [b] pos) (tDNotIn ty td) (mDin true m n) := ⟨ha.k, pe_cmp (pc_dnotin hu ha.pe hb.pe) hm, so_din true ha.so hb.so⟩
theorem dt_din (hu : X.A.units + 1 < cLine) {ty td : TE} {m n : EM} (ha : DE K X W a ty m) (hb : DE K X W b td n) (hm : behindInMarks .In b = false := by rfl) : DT K X W (.Compare a [.In] [b] pos) (tB (tDIn ty td)) (mDin false m n) := ⟨ha.k, pt_cmp (pc_din hu ha.pe hb.pe) hm, so_B (so_din false ha.so hb.so) mDin_bool⟩
theorem dt_dnin (hu : X.A.units + 1 < cLine) {ty td : TE} {m n : EM} (ha : DE K X W a ty m) (hb : DE K X W b td n) (hm : behindInMarks .NotIn b = false := by rfl) : DT K X W (.Compare a [.NotIn] [b] pos) (tB (tDNotIn ty td)) (mDin true m n) := ⟨ha.k, pt_cmp (pc_dnotin hu ha.pe hb.pe) hm, so_B (so_din true ha.so hb.so) mDin_bool⟩
/-- d[k] = v at a dict of one's own -/
def putM (M : List O) (n : Nat) (k : D) (v : DV) : Option (List O) := match M[n]? with
  | some (.dK ds) => match keyD k with
    | some kk => if ds.length < 1000000 then some (M.set n (.dK (putO ds kk v))) else none
    | none => none
  | some (.dT ds) => match keyT k with
    | some kk => if ds.length < 1000000 then some (M.set n (.dT (putO ds kk v))) else none
    | none => none
  | _ => none
def sPutK (v d : DV) (k : D) : SM := fun s => match d with
  | .o n => match putM s.m n k v with
    | some M => some (.nx, ⟨s.l, M⟩)
    | none => none
  | _ => none
def purS (k : D → SM) : DV → SM
  | .p d, s => k d s
  | .o _, _ => none
theorem purS_ok {k : D → SM} {v : DV} {s : S} {r : Fl × S} (e : purS k v s = some r) : ∃ d, v = .p d ∧ k d s = some r := by
  cases v with
  | p d => exact ⟨d, rfl, e⟩
  | o n => cases e
def sPut (mv md mk : EM) : SM := liftS mv fun v => liftS md fun d => liftS mk (purS fun k => sPutK v d k)
theorem put_rep {n : Nat} {a : Addr} {k : D} {y v : V} {dv : DV} {M' : List O} (w : Wf K Z H I M) (ha : I[n]? = some a) (hy : Rep K Z y k) (hv : RepV K Z I v dv) (e : putM M n k dv = some M') :
    ∃ H', DPut H a y v H' ∧ Wf K Z H' I M' ∧ Ext Z H I Z H' I := by
  unfold putM at e
  split at e
  · rename_i ds hm
    split at e
    · rename_i kk hk
      split at e
      · rename_i hl
        cases e
        obtain ⟨_, ks, h1, h2⟩ := w.ob n a _ ha hm (by intro z; cases z)
        refine ⟨_, .inl ⟨ks, kk, h1, key_rep hy hk, by rw [paired_len h2]; exact size_lt (Nat.le_of_lt hl), rfl⟩, w.setO ha hm (by intro z; cases z) ⟨_, upd_same, putP_rep h2 kk hv⟩, ext_set (List.mem_of_getElem? ha)⟩
      · cases e
    · cases e
  · rename_i ds hm
    split at e
    · rename_i kk hk
      split at e
      · rename_i hl
        cases e
        obtain ⟨_, ks, h1, h2⟩ := w.ob n a _ ha hm (by intro z; cases z)
        obtain ⟨b, rfl, hb⟩ := keyT_rep hy hk
        refine ⟨_, .inr ⟨ks, kk, b, h1, rfl, w.sub _ _ hb, by rw [paired_len h2]; exact size_lt (Nat.le_of_lt hl), rfl⟩, w.setO ha hm (by intro z; cases z) ⟨_, upd_same, putP_rep h2 kk hv⟩, ext_set (List.mem_of_getElem? ha)⟩
      · cases e
    · cases e
  · cases e
theorem ds_put (hu : X.A.units + 1 < cLine) {pos' : Pos} {o i v : Expr} {td ty tv : TE} {md mk mv : EM} (hv : DE K X W v tv mv) (ho : DE K X W o td md) (hi : DE K X W i ty mk) (hs : swapsWith v (some (.Subscript o i pos')) pos.line X.env = pure false := by rfl) :
    DS K X W (.Assign [.Subscript o i pos'] v pos) (sDPut td ty tv) (sPut mv md mk) := ⟨hv.k, ps_dput hu ho.pe hi.pe hv.pe hs, ⟨fun σ H s Z I r D w rs e p => by
  refine hv.so.lift w rs e p fun d v M1 Z1 H1 I1 w1 rs1 x1 q1 e1 p1 => ?_
  refine ho.so.lift (s := ⟨s.l, M1⟩) w1 rs1 e1 p1 fun d2 v2 M2 Z2 H2 I2 w2 rs2 x2 q2 e2 p2 => ?_
  refine hi.so.lift (s := ⟨s.l, M2⟩) w2 rs2 e2 p2 fun d3 v3 M3 Z3 H3 I3 w3 rs3 x3 q3 e3 p3 => ?_
  obtain ⟨d3, rfl, e3⟩ := purS_ok e3
  cases d2 with
  | p d => cases e3
  | o n =>
    have e3 : (match putM M3 n d3 d with | some M => some (Fl.nx, (⟨s.l, M⟩ : S)) | none => none) = some r := e3
    obtain ⟨a, ha, rfl⟩ := q2.mono x3
    cases z : putM M3 n d3 d with
    | none => rw [z] at e3; cases e3
    | some M4 =>
      rw [z] at e3; cases e3
      obtain ⟨H4, hp, w4, x4⟩ := put_rep w3 ha q3 (q1.mono (x2.trans x3)) z
      exact ⟨a, H4, rfl, hp, p3 σ Z3 H4 I3 w4 (rs3.mono x4) x4⟩⟩⟩
/-- {} of one's own -/
def mDnew (o : O) : EM := fun s => some (.ok (.o s.m.length) (s.m ++ [o]))
theorem de_dnewK (k : X.K = K := by rfl) : DE K X W (.Dict [] [] pos) tDNewK (mDnew (.dK [])) := ⟨k, pe_dnewK, ⟨fun σ H s Z I r Q w rs e p => by
  cases e
  intro l hp
  refine p _ Z _ (I ++ [l]) (w.newO hp ⟨[], upd_same, .nil⟩) (ext_new w.sub hp) ⟨l, ?_, rfl⟩
  rw [← w.len, List.getElem?_append_right (Nat.le_refl _), Nat.sub_self]; rfl⟩⟩
theorem de_dnewT (k : X.K = K := by rfl) : DE K X W (.Dict [] [] pos) tDNewT (mDnew (.dT [])) := ⟨k, pe_dnewT, ⟨fun σ H s Z I r Q w rs e p => by
  cases e
  intro l hp
  refine p _ Z _ (I ++ [l]) (w.newO hp ⟨[], upd_same, .nil⟩) (ext_new w.sub hp) ⟨l, ?_, rfl⟩
  rw [← w.len, List.getElem?_append_right (Nat.le_refl _), Nat.sub_self]; rfl⟩⟩
/-- d.get(k), d.get(k, x) -/
def rGet (x : V) (xs : List V) (H : Hp) (Q : VK) : Prop := (∃ a y o, x = .ref a ∧ xs = [y] ∧ DGet H a y o ∧ Q (o.getD .non) H) ∨ ∃ a y z o, x = .ref a ∧ xs = [y, z] ∧ DGet H a y o ∧ Q (o.getD z) H
theorem mt_get (hu : X.A.units + 1 < cLine) : MtR X "dict.get" rGet := by
  intro pins s σ H x xs v us Q I rx rxs h
  rcases h with ⟨a, y, o, rfl, rfl, g, q⟩ | ⟨a, y, z, o, rfl, rfl, g, q⟩
  · cases rx
    obtain ⟨u, rfl, ru⟩ := rxs.one
    exact d_get1 hu I g ru fun w' s' I' r => ⟨_, H, I', r, q⟩
  · cases rx
    cases rxs with
    | cons r1 r2 =>
      obtain ⟨u, rfl, ru⟩ := Vals.one r2
      exact d_get2 hu I g r1 ru fun w' s' I' r => ⟨_, H, I', r, q⟩
def gGet : MtG := fun d ds s => match ds with
  | [.p k] => match getM s.m d k with
    | some (some v) => some (.ok v s.m)
    | some none => some (.ok (.p .non) s.m)
    | none => none
  | [.p k, z] => match getM s.m d k with
    | some (some v) => some (.ok v s.m)
    | some none => some (.ok z s.m)
    | none => none
  | _ => none
theorem md_get (hu : X.A.units + 1 < cLine) : MthD K X "dict.get" rGet gGet := ⟨fun _ => mt_get hu, fun W σ x d vs ds Z H I s r0 Q w hx hv e p => by
  unfold gGet at e
  split at e
  · rename_i k
    cases hv with
    | cons h1 h2 =>
    cases h2
    cases z : getM s.m d k with
    | none => simp only [z] at e; cases e
    | some o =>
      simp only [z] at e
      obtain ⟨ad, r, rfl, g, kk⟩ := getM_rep w hx h1 z
      refine .inl ⟨ad, _, r, rfl, rfl, g, ?_⟩
      rcases kk with ⟨rfl, rfl⟩ | ⟨u, c', rfl, rfl, hr⟩
      · cases e; exact p _ Z H I w Ext.refl .non
      · cases e; exact p _ Z H I w Ext.refl hr
  · rename_i k y
    cases hv with
    | cons h1 h2 =>
    cases h2 with
    | cons h2 h3 =>
    cases h3
    cases z : getM s.m d k with
    | none => simp only [z] at e; cases e
    | some o =>
      simp only [z] at e
      obtain ⟨ad, r, rfl, g, kk⟩ := getM_rep w hx h1 z
      refine .inr ⟨ad, _, _, r, rfl, rfl, g, ?_⟩
      rcases kk with ⟨rfl, rfl⟩ | ⟨u, c', rfl, rfl, hr⟩
      · cases e; exact p _ Z H I w Ext.refl h2
      · cases e; exact p _ Z H I w Ext.refl hr
  · cases e⟩
/-! ### l.pop(i) of one's own -/
def gPopAt : MtG := fun d ds s => match d, ds with
  | .o n, [.p (.int 0)] => match s.m[n]? with
    | some (.lst (x :: xs)) => some (.ok x (s.m.set n (.lst xs)))
    | _ => none
  | _, _ => none
theorem md_popAt : MthD K X "list.pop" rPopAt gPopAt := ⟨fun _ => mt_popAt, fun W σ x d vs ds Z H I s r0 Q w hx hv e p => by
  unfold gPopAt at e
  split at e
  · rename_i n
    obtain ⟨a, ha, rfl⟩ := hx
    cases hv with
    | cons h1 h2 =>
    cases h2
    have h1 : Rep K Z _ (.int 0) := h1
    cases h1
    split at e
    · rename_i y xs hm
      cases e
      obtain ⟨_, ys, g1, g2⟩ := w.ob n a _ ha hm (by intro z; cases z)
      cases g2 with
      | cons g3 g4 =>
        rename_i u us
        refine ⟨a, u :: us, 0, 0, u, rfl, rfl, g1, by decide, by decide, by simp [seqIndex?], rfl, ?_⟩
        exact p u Z _ I (w.setO ha hm (by intro z; cases z) ⟨_, upd_same, g4⟩) (ext_set (List.mem_of_getElem? ha)) (RepV.mono (ext_set (Z := Z) (H := H) (ho := .lst us) (I := I) (List.mem_of_getElem? ha)) g3)
    · cases e
  · cases e⟩
/-! ### ranges as data -/
theorem cr_range1 : CallR X (.type "range") (fun vs H Q => ∃ j, vs = [V.int j] ∧ ∀ p, H p = none → Q (.ref p) (upd H p (.rng 0 j))) := by
  intro pins s σ H vs us Q I r h
  obtain ⟨j, rfl, q⟩ := h
  obtain ⟨u1, rfl, rj⟩ := r.one
  obtain ⟨t, rfl⟩ := rj
  refine call_range_1 ⟨.ref s.heap.objs.size, upd H s.heap.objs.size (.rng 0 j), I.laid (t' := s.toks + 1 + 1) (fun b o e => Heap.get?_push_of_some _ e) (Nat.le_refl _) ?_, rfl, q _ (I.hok.fresh (Nat.le_refl _))⟩
  exact ⟨s.toks, t, s.toks + 1, Heap.get?_push_size _ rfl⟩
def dRng1 : D → Option D
  | .int j => some (.rng 0 j)
  | _ => none
theorem cd_rng1 : CallD K X (.type "range") (fun vs H Q => ∃ j, vs = [V.int j] ∧ ∀ p, H p = none → Q (.ref p) (upd H p (.rng 0 j))) (g1 dRng1) := ⟨fun _ => cr_range1, g1_ok fun x d c Z H Q s hx hg p => by
  unfold dRng1 at hg
  split at hg
  · cases hx; cases hg
    exact ⟨_, rfl, fun q hq => p _ _ _ (ExtP.new s hq) (.rng upd_same)⟩
  · cases hg⟩
def dInR (neg : Bool) : D → D → Option D
  | .int i, .rng lo hi => some (.bl (if neg then !decide (lo ≤ i ∧ i < hi) else decide (lo ≤ i ∧ i < hi)))
  | _, _ => none
theorem bool_dInR {neg : Bool} : boolD (dInR neg) := fun d e c h => by
  unfold dInR at h
  split at h
  · exact ⟨_, (Option.some.inj h).symm⟩
  · cases h
theorem op_nin_rng : OpR X (compareOp .NotIn) (fun x y H Q => ∃ i a lo hi, x = V.int i ∧ y = V.ref a ∧ H a = some (.rng lo hi) ∧ Q (.bl (!decide (lo ≤ i ∧ i < hi))) H) := by
  intro pins s σ H x y v u Q I rx ry h
  obtain ⟨i, a, lo, hi, rfl, rfl, ha, q⟩ := h
  obtain ⟨k, rfl⟩ := rx
  obtain rfl : u = Value.ref a := ry
  obtain ⟨t1, t2, t3, ho⟩ := I.hok a _ ha
  show wpAny _ _ (do return Value.bool (!(← contains (Value.ref a) (Value.int i k)))) _ _ s
  refine wpAny_bind (wpAny_contains_slot (T := "range") ⟨_, ho, rfl⟩ F.slot_range_contains (call_meets F.slot_range_contains ⟨_, ho, rfl⟩ F.entry_range_contains (F.args_range_contains_2 _ _) (q_contains a lo hi i t1 t2 t3 k)
    ⟨ho, wpAny_truthy_bool (wpAny_pure ⟨.bl _, H, I, rfl, ?_⟩)⟩))
  rw [place1]
  exact q
theorem od_inR : OpD K X (compareOp .In) (fun x y H Q => ∃ i a lo hi, x = V.int i ∧ y = V.ref a ∧ H a = some (.rng lo hi) ∧ Q (.bl (decide (lo ≤ i ∧ i < hi))) H) (dInR false) := ⟨fun _ => op_in_rng, by
  intro x y d e c Z H Q s hx hy hg p
  unfold dInR at hg
  split at hg
  · cases hx
    cases hy with
    | rng h => cases hg; exact ⟨_, _, _, _, rfl, rfl, s _ _ h, p _ Z H (ExtP.refl s) (.bl _)⟩
  · cases hg⟩
theorem od_ninR : OpD K X (compareOp .NotIn) (fun x y H Q => ∃ i a lo hi, x = V.int i ∧ y = V.ref a ∧ H a = some (.rng lo hi) ∧ Q (.bl (!decide (lo ≤ i ∧ i < hi))) H) (dInR true) := ⟨fun _ => op_nin_rng, by
  intro x y d e c Z H Q s hx hy hg p
  unfold dInR at hg
  split at hg
  · cases hx
    cases hy with
    | rng h => cases hg; exact ⟨_, _, _, _, rfl, rfl, s _ _ h, p _ Z H (ExtP.refl s) (.bl _)⟩
  · cases hg⟩
/-! ### l.index(x), flat items -/
def flatD : D → Bool
  | .non => true
  | .bl _ => true
  | .int _ => true
  | .str _ => true
  | _ => false
def findJ (x : D) : List D → Nat → Option Nat
  | [], _ => none
  | y :: ys, j => if deq y x = true then some j else findJ x ys (j + 1)
def dLindex : D → List D → Option D
  | .lst ys, [x] => if flatD x = true ∧ ys.all flatD = true then (findJ x ys 0).map fun (j : Nat) => .int (j : Int) else none
  | .klst ys, [x] => if flatD x = true ∧ ys.all flatD = true then (findJ x ys 0).map fun (j : Nat) => .int (j : Int) else none
  | _, _ => none
theorem flat_rep {v : V} {d : D} (h : Rep K Z v d) (f : flatD d = true) : flatV v = true := by
  cases h <;> first | rfl | cases f
theorem flats_rep : ∀ {vs : List V} {ds : List D}, RepA K Z vs ds → ds.all flatD = true → vs.all flatV = true
  | _, _, .nil, _ => rfl
  | _, _, .cons h r, f => by
    rw [List.all_cons, Bool.and_eq_true] at f
    rw [List.all_cons, Bool.and_eq_true]
    exact ⟨flat_rep h f.1, flats_rep r f.2⟩
theorem eq_rep {v w : V} {d f : D} (h : Rep K Z v d) (g : Rep K Z w f) (fd : flatD d = true) (ff : flatD f = true) : eqV v w = deq d f := by
  cases h <;> first | cases fd | skip
  all_goals (cases g <;> first | cases ff | skip)
  all_goals first | rfl | (rename_i a b; cases a <;> cases b <;> rfl) | skip
theorem find_rep {x : V} {dx : D} (hx : Rep K Z x dx) (fx : flatD dx = true) : ∀ {vs : List V} {ds : List D} {j k : Nat}, RepA K Z vs ds → ds.all flatD = true → findJ dx ds j = some k →
    ∃ i z, k = j + i ∧ vs[i]? = some z ∧ eqV z x = true ∧ ∀ m z', m < i → vs[m]? = some z' → eqV z' x = false
  | _, _, _, _, .nil, _, e => by cases e
  | _, _, j, k, .cons (v := v) (vs := vs) (d := d) (ds := ds) h r, f, e => by
    rw [List.all_cons, Bool.and_eq_true] at f
    have e : (if deq d dx = true then some j else findJ dx ds (j + 1)) = some k := e
    by_cases q : deq d dx = true
    · rw [if_pos q] at e
      cases e
      exact ⟨0, v, rfl, rfl, by rw [eq_rep h hx f.1 fx]; exact q, fun m z' hm => absurd hm (Nat.not_lt_zero m)⟩
    · rw [if_neg q] at e
      obtain ⟨i, z, h1, h2, h3, h4⟩ := find_rep hx fx r f.2 e
      refine ⟨i + 1, z, by omega, by simpa using h2, h3, fun m z' hm hz => ?_⟩
      cases m with
      | zero =>
        cases hz
        rw [eq_rep h hx f.1 fx]; simpa using q
      | succ m => exact h4 m z' (by omega) (by simpa using hz)
theorem md_lindex : MthD K X "list.index" (rIndex K) (gP dLindex) := ⟨fun k => by rw [← k]; exact mt_index, gP_ok fun x d vs ds c Z H Q s hx hv e p => by
  unfold dLindex at e
  have main : ∀ {a : Addr} {xs : List V} {ys : List D} {y : D}, x = .ref a → SqL K H a xs → RepA K Z xs ys → RepA K Z vs [y] → (if flatD y = true ∧ ys.all flatD = true then (findJ y ys 0).map fun (j : Nat) => D.int (j : Int) else none) = some c → rIndex K x vs H Q := by
    intro a xs ys y ex hs ra rv e
    split at e
    · rename_i hf
      obtain ⟨j, hj, rfl⟩ := Option.map_eq_some_iff.mp e
      cases rv with
      | cons h1 h2 =>
      cases h2
      obtain ⟨i, z, e1, e2, e3, e4⟩ := find_rep h1 hf.1 ra hf.2 hj
      obtain rfl : j = i := by omega
      exact ⟨a, xs, _, j, z, ex, rfl, hs, flat_rep h1 hf.1, flats_rep ra hf.2, e2, e3, e4, p _ Z H (ExtP.refl s) (.int _)⟩
    · cases e
  split at e
  · cases hx with
    | lst h1 h2 => exact main rfl (.inl (same_rd s h1)) h2 hv e
  · cases hx with
    | klst h1 h2 => exact main rfl (same_l s h1) h2 hv e
  · cases e⟩
/-! ### from here on it stays: a name's own object is given up -/
def allKP {κ : Type} : List (κ × DV) → Option (List (κ × D))
  | [] => some []
  | (k, .p d) :: r => (allKP r).map ((k, d) :: ·)
  | (_, .o _) :: _ => none
theorem allKP_k : ∀ {ks : List (Key × V)} {ds : List (Key × DV)} {xs : List (Key × D)}, Paired (FRel K Z I) ks ds → allKP ds = some xs → RepK K Z ks xs
  | _, [], _, .nil, e => by cases e; exact .nil
  | (k', v) :: ks, (k, .p d) :: r, _, .cons h t, e => by
    have e : (allKP r).map ((k, d) :: ·) = some _ := e
    cases q : allKP r with
    | none => rw [q] at e; cases e
    | some ys =>
      rw [q] at e; cases e
      obtain ⟨h1, h2⟩ := h
      cases (show k' = k from h1)
      exact .cons h2 (allKP_k t q)
  | _, (_, .o _) :: _, _, .cons h t, e => by cases e
theorem allKP_t : ∀ {ks : List (List Key × V)} {ds : List (List Key × DV)} {xs : List (List Key × D)}, Paired (FRel K Z I) ks ds → allKP ds = some xs → RepT K Z ks xs
  | _, [], _, .nil, e => by cases e; exact .nil
  | (k', v) :: ks, (k, .p d) :: r, _, .cons h t, e => by
    have e : (allKP r).map ((k, d) :: ·) = some _ := e
    cases q : allKP r with
    | none => rw [q] at e; cases e
    | some ys =>
      rw [q] at e; cases e
      obtain ⟨h1, h2⟩ := h
      cases (show k' = k from h1)
      exact .cons h2 (allKP_t t q)
  | _, (_, .o _) :: _, _, .cons h t, e => by cases e
def frzO : O → Option D
  | .lst ds => (allP ds).map .lst
  | .dK ds => (allKP ds).map .dK
  | .dT ds => (allKP ds).map .dT
  | _ => none
def sFrz (i : Nat) : SM := fun s => match gv s.l i with
  | some (.o n) => match s.m[n]? with
    | some o => match frzO o with
      | some d => some (.nx, ⟨s.l.set i (some (.p d)), s.m.set n .gone⟩)
      | none => none
    | none => none
  | _ => none
theorem frz_rep {n : Nat} {a : Addr} {o : O} {d : D} (w : Wf K Z H I M) (ha : I[n]? = some a) (hm : M[n]? = some o) (e : frzO o = some d) : ∃ Z', Wf K Z' H I (M.set n .gone) ∧ Ext Z H I Z' H I ∧ Rep K Z' (.ref a) d := by
  cases o with
  | lst ds =>
    obtain ⟨xs, hx, rfl⟩ := Option.map_eq_some_iff.mp (show (allP ds).map D.lst = some d from e)
    obtain ⟨hz, ys, h1, h2⟩ := w.ob n a _ ha hm (by intro z; cases z)
    have x2 := ext_frz w ha hz h1
    exact ⟨_, w.frz ha hm (by intro z; cases z) h1, x2, .lst (.inl upd_same) ((allP_rep h2 hx).mono x2.z)⟩
  | dK ds =>
    obtain ⟨xs, hx, rfl⟩ := Option.map_eq_some_iff.mp (show (allKP ds).map D.dK = some d from e)
    obtain ⟨hz, ys, h1, h2⟩ := w.ob n a _ ha hm (by intro z; cases z)
    have x2 := ext_frz w ha hz h1
    exact ⟨_, w.frz ha hm (by intro z; cases z) h1, x2, .dK upd_same ((allKP_k h2 hx).mono x2.z)⟩
  | dT ds =>
    obtain ⟨xs, hx, rfl⟩ := Option.map_eq_some_iff.mp (show (allKP ds).map D.dT = some d from e)
    obtain ⟨hz, ys, h1, h2⟩ := w.ob n a _ ha hm (by intro z; cases z)
    have x2 := ext_frz w ha hz h1
    exact ⟨_, w.frz ha hm (by intro z; cases z) h1, x2, .dT upd_same ((allKP_t h2 hx).mono x2.z)⟩
  | _ => cases e
theorem so_sfrz (i : Nat) {t : TS} {m : SM} (h : SoundS K W t m) : SoundS K W t (sSeq (sFrz i) m) := ⟨fun σ H s Z I r D w rs e p => by
  unfold sSeq sFrz at e
  cases q : gv s.l i with
  | none => simp only [q] at e; cases e
  | some d =>
    cases d with
    | p d => simp only [q] at e; cases e
    | o n =>
      simp only [q] at e
      cases q2 : s.m[n]? with
      | none => simp only [q2] at e; cases e
      | some o =>
        simp only [q2] at e
        cases q3 : frzO o with
        | none => simp only [q3] at e; cases e
        | some d =>
          simp only [q3] at e
          obtain ⟨v, h1, a, ha, rfl⟩ := rs.at_ i _ (gv_some q)
          obtain ⟨Z', w', x', rp⟩ := frz_rep w ha q2 q3
          refine h.ok σ H _ Z' I r D w' ?_ e (p.mono x')
          have r1 := (rs.mono x').set (v := .ref a) (dv := .p d) rp i
          have e2 : σ.set i (some (V.ref a)) = σ := by
            obtain ⟨hl, he⟩ := List.getElem?_eq_some_iff.mp h1
            rw [← he, List.set_getElem_self]
          rw [e2] at r1
          exact r1⟩
theorem dss_frz (i : Nat) {sts : List Stmt} {t : TS} {m : SM} (h : DSs K X W sts t m) : DSs K X W sts t (sSeq (sFrz i) m) := ⟨h.k, h.ps, so_sfrz i h.so⟩
end
end DL
namespace DL
open PySem L2
/-! equations of DL31, and data that stand for values of a type -/
@[simp] theorem e_dget (m n : EM) (s : S) : mDget m n s = (bnd m fun d => bnd n (pur (dgK d))) s := rfl
@[simp] theorem e_dgK (d : DV) (k : D) (s : S) : dgK d k s = (match getM s.m d k with | some (some v) => some (.ok v s.m) | _ => none) := rfl
@[simp] theorem e_din (neg : Bool) (m n : EM) (s : S) : mDin neg m n s = (bnd m (pur fun k => bnd n (dinK neg k))) s := rfl
@[simp] theorem e_dinK (neg : Bool) (k : D) (d : DV) (s : S) : dinK neg k d s = (match getM s.m d k with | some o => some (.ok (.p (.bl (if neg then !o.isSome else o.isSome))) s.m) | _ => none) := rfl
@[simp] theorem e_put (mv md mk : EM) (s : S) : sPut mv md mk s = (liftS mv fun v => liftS md fun d => liftS mk (purS fun k => sPutK v d k)) s := rfl
@[simp] theorem e_purS (k : D → SM) (d : D) (s : S) : purS k (.p d) s = k d s := rfl
@[simp] theorem e_putK (v : DV) (n : Nat) (k : D) (s : S) : sPutK v (.o n) k s = (match putM s.m n k v with | some M => some (.nx, ⟨s.l, M⟩) | none => none) := rfl
@[simp] theorem e_dnew (o : O) (s : S) : mDnew o s = some (.ok (.o s.m.length) (s.m ++ [o])) := rfl
@[simp] theorem e_get1 (d : DV) (k : D) (s : S) : gGet d [.p k] s = (match getM s.m d k with | some (some v) => some (.ok v s.m) | some none => some (.ok (.p .non) s.m) | none => none) := rfl
@[simp] theorem e_get2 (d : DV) (k : D) (z : DV) (s : S) : gGet d [.p k, z] s = (match getM s.m d k with | some (some v) => some (.ok v s.m) | some none => some (.ok z s.m) | none => none) := rfl
@[simp] theorem e_popAt (n : Nat) (s : S) : gPopAt (.o n) [.p (.int 0)] s = (match s.m[n]? with | some (.lst (x :: xs)) => some (.ok x (s.m.set n (.lst xs))) | _ => none) := rfl
@[simp] theorem e_rngD (j : Int) : dRng1 (.int j) = some (.rng 0 j) := rfl
@[simp] theorem e_inR0 (i lo hi : Int) : dInR false (.int i) (.rng lo hi) = some (.bl (decide (lo ≤ i ∧ i < hi))) := rfl
@[simp] theorem e_inR1 (i lo hi : Int) : dInR true (.int i) (.rng lo hi) = some (.bl (!decide (lo ≤ i ∧ i < hi))) := rfl
@[simp] theorem e_sfrz (i : Nat) (s : S) : sFrz i s = (match gv s.l i with
  | some (.o n) => match s.m[n]? with
    | some o => match frzO o with
      | some d => some (.nx, ⟨s.l.set i (some (.p d)), s.m.set n .gone⟩)
      | none => none
    | none => none
  | _ => none) := rfl
@[simp] theorem e_frzL (xs : List DV) : frzO (.lst xs) = (allP xs).map .lst := rfl
@[simp] theorem e_lindex (ys : List D) (x : D) : dLindex (.lst ys) [x] = if flatD x = true ∧ ys.all flatD = true then (findJ x ys 0).map fun (j : Nat) => .int (j : Int) else none := rfl
@[simp] theorem e_flatI (i : Int) : flatD (.int i) = true := rfl
@[simp] theorem e_flatS (i : Str) : flatD (.str i) = true := rfl
@[simp] theorem e_tyOkP (M : List O) (xs : List D) : tyOk "list" M (.p (.lst xs)) = true := rfl
/-! equality -/
theorem scal_deq {d e : D} {b : Bool} (h : scalD d e = some b) : b = deq d e := by
  unfold scalD at h
  split at h <;> first | (cases h; rfl) | cases h
theorem eqD_deq {d e : D} {b : Bool} (h : eqD d e = some b) : b = deq d e := by
  unfold eqD at h
  split at h
  · rename_i h1; cases h; exact scal_deq h1
  · split at h
    · cases h; rfl
    · cases h
theorem eqD_shp {d e : D} (h1 : shp d = true) (h2 : shp e = true) : eqD d e = some (deq d e) := by
  unfold eqD
  split
  · rename_i h; rw [scal_deq h]
  · rw [h1, h2]; rfl
theorem inD_shp {d : D} {ds : List D} (h1 : shp d = true) (h2 : shp (.lst ds) = true) : inD d (.lst ds) = some (ds.any fun z => deq z d) := by
  have e : inD d (.lst ds) = if (shp d && shp (.lst ds)) = true then some (ds.any fun z => deq z d) else none := by cases d <;> rfl
  rw [e, h1, h2]; rfl
/-- values of a type, as data -/
class En (α : Type) [DecidableEq α] where
  en : α → D
  dq : ∀ a b, deq (en a) (en b) = decide (a = b)
  ok : ∀ a, okD (en a) = true
  dp : Nat
  dpl : ∀ a, depD (en a) ≤ dp
section
variable {α β : Type} [DecidableEq α] [DecidableEq β] [En α] [En β]
instance : En Int := ⟨.int, fun a b => by simp, fun _ => rfl, 0, fun _ => Nat.le_refl _⟩
instance : En Bool := ⟨.bl, fun a b => by simp, fun _ => rfl, 0, fun _ => Nat.le_refl _⟩
theorem deqs_en : ∀ l m : List α, deqs (l.map En.en) (m.map En.en) = decide (l = m)
  | [], [] => rfl
  | [], y :: ys => by simp
  | x :: xs, [] => by simp
  | x :: xs, y :: ys => by
    rw [List.map_cons, List.map_cons, e_deqs1, En.dq, deqs_en xs ys]
    by_cases h1 : x = y <;> by_cases h2 : xs = ys <;> simp [h1, h2]
theorem okDs_en : ∀ l : List α, okDs (l.map En.en) = true
  | [] => rfl
  | x :: xs => by rw [List.map_cons, e_ok1, En.ok, okDs_en xs]; rfl
theorem depDs_en : ∀ l : List α, depDs (l.map En.en) ≤ En.dp α
  | [] => Nat.zero_le _
  | x :: xs => by rw [List.map_cons, e_dp1]; exact Nat.max_le.mpr ⟨En.dpl x, depDs_en xs⟩
instance : En (α × β) := ⟨fun p => .tup [En.en p.1, En.en p.2], fun a b => by
    obtain ⟨a1, a2⟩ := a; obtain ⟨b1, b2⟩ := b
    by_cases h1 : a1 = b1 <;> by_cases h2 : a2 = b2 <;> simp [En.dq, h1, h2], fun a => by simp [En.ok], max (En.dp α) (En.dp β) + 1, fun a => by
    have h1 := En.dpl a.1; have h2 := En.dpl a.2
    simp; omega⟩
instance : En (List α) := ⟨fun l => .lst (l.map En.en), deqs_en, okDs_en, En.dp α + 1, fun l => Nat.succ_le_succ (depDs_en l)⟩
theorem shp_en (a : α) (h : En.dp α ≤ 64) : shp (En.en a) = true := by
  have := En.dpl a
  rw [e_shp, En.ok]; simp; omega
theorem eqD_en (a b : α) (h : En.dp α ≤ 64) : eqD (En.en a) (En.en b) = some (decide (a = b)) := by
  rw [eqD_shp (shp_en a h) (shp_en b h), En.dq]
theorem any_en (a : α) : ∀ l : List α, ((l.map En.en).any fun z => deq z (En.en a)) = decide (a ∈ l)
  | [] => rfl
  | x :: xs => by
    rw [List.map_cons, List.any_cons, En.dq, any_en a xs]
    by_cases h1 : x = a <;> by_cases h2 : a ∈ xs <;> simp [h1, h2, eq_comm]
    all_goals (intro h; exact absurd h.symm h1)
theorem inD_en (a : α) (l : List α) (h : En.dp α + 1 ≤ 64) : inD (En.en a) (.lst (l.map En.en)) = some (decide (a ∈ l)) := by
  rw [inD_shp (shp_en a (by omega)) (shp_en (α := List α) l h), any_en]
end
end DL
namespace DL
open PySem L2
/-! data whose text is short -/
theorem int_rb (i : Int) (h : i.natAbs ≤ 1000000000000000000) : rb (.int i) ≤ 100 := by
  have hl : i.natAbs.log2 < 64 := by
    by_cases h0 : i.natAbs = 0
    · rw [h0]; decide
    · exact (Nat.log2_lt h0).mpr (by omega)
  show (intS i).length ≤ 100
  have := int_text_length_le (k := 64) (by decide) hl
  unfold intS
  rw [ofString_length]
  omega
/-- data of depth n at most, whose text has w signs at most -/
structure Sm (n w : Nat) (d : D) : Prop where
  ok : okD d = true
  dp : depD d ≤ n
  sh : showD d = true
  rb : rb d ≤ w
theorem Sm.int {n w : Nat} {i : Int} (h : i.natAbs ≤ 1000000000000000000) (hw : 100 ≤ w) : Sm n w (.int i) := ⟨rfl, Nat.zero_le _, logOk_of h, Nat.le_trans (int_rb i h) hw⟩
theorem Sm.bl {n w : Nat} {i : Bool} (hw : 5 ≤ w) : Sm n w (.bl i) := ⟨rfl, Nat.zero_le _, rfl, hw⟩
theorem Sm.non {n w : Nat} (hw : 5 ≤ w) : Sm n w .non := ⟨rfl, Nat.zero_le _, rfl, hw⟩
theorem Sm.mono {n w n' w' : Nat} {d : D} (h : Sm n w d) (hn : n ≤ n') (hw : w ≤ w') : Sm n' w' d := ⟨h.ok, Nat.le_trans h.dp hn, h.sh, Nat.le_trans h.rb hw⟩
theorem sm_all {n w : Nat} : ∀ {ds : List D}, (∀ d ∈ ds, Sm n w d) → okDs ds = true ∧ depDs ds ≤ n ∧ showDs ds = true ∧ rbs ds ≤ (w + 2) * ds.length
  | [], _ => ⟨rfl, Nat.zero_le _, rfl, Nat.zero_le _⟩
  | d :: ds, h => by
    have h1 := h d (by simp)
    obtain ⟨a, b, c, e⟩ := sm_all (n := n) (w := w) (ds := ds) fun x hx => h x (List.mem_cons_of_mem _ hx)
    refine ⟨by rw [e_ok1, h1.ok, a]; rfl, by rw [e_dp1]; exact Nat.max_le.mpr ⟨h1.dp, b⟩, ?_, ?_⟩
    · show (showD d && showDs ds) = true
      rw [h1.sh, c]; rfl
    · show DL.rb d + 2 + rbs ds ≤ (w + 2) * (ds.length + 1)
      have := h1.rb
      rw [Nat.mul_succ]
      omega
theorem Sm.lst {n w v : Nat} {ds : List D} (h : ∀ d ∈ ds, Sm n w d) (hv : (w + 2) * ds.length + 3 ≤ v) : Sm (n + 1) v (.lst ds) := by
  obtain ⟨a, b, c, e⟩ := sm_all h
  exact ⟨a, Nat.succ_le_succ b, c, by show rbs ds + 3 ≤ v; omega⟩
theorem Sm.tup {n w v : Nat} {ds : List D} (h : ∀ d ∈ ds, Sm n w d) (hv : (w + 2) * ds.length + 3 ≤ v) : Sm (n + 1) v (.tup ds) := by
  obtain ⟨a, b, c, e⟩ := sm_all h
  exact ⟨a, Nat.succ_le_succ b, c, by show rbs ds + 3 ≤ v; omega⟩
theorem Sm.repr {n w : Nat} {d : D} (h : Sm n w d) (hn : n ≤ 64) (hw : w ≤ 1000000) : dRepr d = some (.str (reprD d)) := by
  unfold dRepr
  have hs : shp d = true := by
    rw [e_shp, h.ok]
    have := h.dp
    simp; omega
  have := h.rb
  rw [hs, h.sh, if_pos (by decide), if_pos (by omega)]
theorem Sm.str {n w : Nat} {s : Str} (h : PyData.strOk s = true) (hw : 10 * s.length + 2 ≤ w) : Sm n w (.str s) := by
  refine ⟨h, Nat.zero_le _, rfl, Nat.le_trans ?_ hw⟩
  refine StrLaws.reprText_len s fun c hc => ?_
  unfold PyData.strOk at h
  rw [← Array.all_toList, List.all_eq_true] at h
  have := of_decide_eq_true (h c hc)
  have e : (1114112 : Nat) ≤ 16 ^ 8 := by decide
  omega
theorem ks_len (k : String) : (Str.ofString k).length = k.toList.length := by rw [tx_ofString, tx_len, List.length_map]
mutual
theorem deq_refl : ∀ d : D, okD d = true → deq d d = true
  | .non, _ => rfl
  | .bl b, _ => by simp
  | .int i, _ => by simp
  | .str s, _ => by simp
  | .lst xs, h => deqs_refl xs h
  | .tup xs, h => deqs_refl xs h
  | .klst xs, h => deqs_refl xs h
  | .ktup xs, h => deqs_refl xs h
  | .dK _, h => by cases h
  | .dT _, h => by cases h
  | .fn _, h => by cases h
  | .scr _, h => by cases h
  | .ty _, h => by cases h
  | .rng _ _, h => by cases h
theorem deqs_refl : ∀ d : List D, okDs d = true → deqs d d = true
  | [], _ => rfl
  | x :: xs, h => by
    have h : (okD x && okDs xs) = true := h
    rw [Bool.and_eq_true] at h
    show (deq x x && deqs xs xs) = true
    rw [deq_refl x h.1, deqs_refl xs h.2]; rfl
end
theorem eqD_refl {d : D} (h : okD d = true) (h2 : depD d ≤ 64) : eqD d d = some true := by
  have hs : shp d = true := by rw [e_shp, h, decide_eq_true h2]; rfl
  rw [eqD_shp hs hs, deq_refl d h]
end DL
namespace DL
open PySem L2
section
variable {α κ : Type} [DecidableEq κ]
theorem valO_cons (p : κ × α) (r : List (κ × α)) (k : κ) : valO (p :: r) k = if p.1 = k then some p.2 else valO r k := by
  by_cases h : p.1 = k <;> simp [valO, h]
theorem valO_map (k j : κ) (v : α) : ∀ kvs : List (κ × α), valO (kvs.map fun kv => if kv.1 = k then (kv.1, v) else kv) j = (valO kvs j).map fun x => if j = k then v else x
  | [] => rfl
  | p :: r => by
    rw [List.map_cons, valO_cons, valO_cons, valO_map k j v r]
    by_cases h : p.1 = k
    · rw [if_pos h]
      by_cases e : p.1 = j
      · rw [if_pos e, if_pos e, Option.map_some, if_pos (e.symm.trans h)]
      · rw [if_neg e, if_neg e]
    · rw [if_neg h]
      by_cases e : p.1 = j
      · rw [if_pos e, if_pos e, Option.map_some, if_neg fun z => h (e.trans z)]
      · rw [if_neg e, if_neg e]
theorem valO_any (k : κ) : ∀ kvs : List (κ × α), (kvs.any fun kv => decide (kv.1 = k)) = (valO kvs k).isSome
  | [] => rfl
  | p :: r => by
    rw [List.any_cons, valO_cons, valO_any k r]
    by_cases h : p.1 = k <;> simp [h]
theorem valO_snoc (k j : κ) (v : α) : ∀ kvs : List (κ × α), valO kvs k = none → valO (kvs ++ [(k, v)]) j = if j = k then some v else valO kvs j
  | [], _ => by
    rw [List.nil_append, valO_cons]
    by_cases e : k = j
    · rw [if_pos e, if_pos e.symm]
    · rw [if_neg e, if_neg fun z => e z.symm]
  | p :: r, h => by
    rw [valO_cons] at h
    by_cases e : p.1 = k
    · rw [if_pos e] at h; cases h
    · rw [if_neg e] at h
      rw [List.cons_append, valO_cons, valO_cons, valO_snoc k j v r h]
      by_cases e2 : p.1 = j
      · rw [if_pos e2, if_pos e2, if_neg fun z => e (e2.trans z)]
      · rw [if_neg e2, if_neg e2]
theorem valO_put (kvs : List (κ × α)) (k j : κ) (v : α) : valO (putO kvs k v) j = if j = k then some v else valO kvs j := by
  unfold putO
  rw [valO_any]
  split
  · rename_i h
    rw [valO_map]
    by_cases e : j = k
    · subst e
      rw [if_pos rfl]
      obtain ⟨x, hx⟩ := Option.isSome_iff_exists.mp h
      rw [hx]; simp
    · rw [if_neg e]
      cases valO kvs j with
      | none => rfl
      | some x => simp [e]
  · rename_i h
    exact valO_snoc k j v kvs (by simpa using h)
theorem putO_len (kvs : List (κ × α)) (k : κ) (v : α) : (putO kvs k v).length ≤ kvs.length + 1 := by
  unfold putO; split <;> simp
end
theorem gv_set (l : List (Option DV)) (i j : Nat) (x : Option DV) : gv (l.set i x) j = if i = j then (if i < l.length then x else none) else gv l j := by
  unfold gv
  by_cases h : i = j
  · subst h
    rw [if_pos rfl]
    by_cases hl : i < l.length
    · rw [List.getElem?_set_self hl, if_pos hl]; cases x <;> rfl
    · rw [List.getElem?_eq_none (by simpa using hl), if_neg hl]
  · rw [List.getElem?_set_ne h, if_neg h]
end DL
namespace DL
open PySem L2
@[simp] theorem at2 {α : Type} (x y z : α) (xs : List α) : atI (x :: y :: z :: xs) 2 = some z := atI_nat' (by decide) rfl
@[simp] theorem at3 {α : Type} (x y z u : α) (xs : List α) : atI (x :: y :: z :: u :: xs) 3 = some u := atI_nat' (by decide) rfl
@[simp] theorem at4 {α : Type} (x y z u v : α) (xs : List α) : atI (x :: y :: z :: u :: v :: xs) 4 = some v := atI_nat' (by decide) rfl
@[simp] theorem at5 {α : Type} (x y z u v t : α) (xs : List α) : atI (x :: y :: z :: u :: v :: t :: xs) 5 = some t := atI_nat' (by decide) rfl
end DL
namespace DL
open PySem L2
theorem getM_T {M : List O} {n : Nat} {kvs : List (List Key × DV)} (h : M[n]? = some (.dT kvs)) (k : D) : getM M (.o n) k = (keyT k).map (valO kvs) := by
  unfold getM dcM; simp only [h]; rfl
theorem getM_K {M : List O} {n : Nat} {kvs : List (Key × DV)} (h : M[n]? = some (.dK kvs)) (k : D) : getM M (.o n) k = (keyD k).map (valO kvs) := by
  unfold getM dcM; simp only [h]; rfl
theorem putM_T {M : List O} {n : Nat} {kvs : List (List Key × DV)} (h : M[n]? = some (.dT kvs)) {k : D} {kk : List Key} (hk : keyT k = some kk) (hl : kvs.length < 1000000) (v : DV) : putM M n k v = some (M.set n (.dT (putO kvs kk v))) := by
  unfold putM; simp only [h, hk, if_pos hl]
theorem putM_K {M : List O} {n : Nat} {kvs : List (Key × DV)} (h : M[n]? = some (.dK kvs)) {k : D} {kk : Key} (hk : keyD k = some kk) (hl : kvs.length < 1000000) (v : DV) : putM M n k v = some (M.set n (.dK (putO kvs kk v))) := by
  unfold putM; simp only [h, hk, if_pos hl]
@[simp] theorem tyOk_dT {M : List O} {n : Nat} {kvs : List (List Key × DV)} (h : M[n]? = some (.dT kvs)) : tyOk "dict" M (.o n) = true := by
  unfold tyOk; simp only [h]; rfl
end DL
namespace DL
open PySem L2
/-- a loop, its turns counted -/
theorem w_loopN {g : GM} {b : SM} {Inv : Nat → S → Prop} {R : DV → S → Prop} : ∀ (ds : List DV) (n : Nat) (s : S), Inv n s →
    (∀ d ∈ ds, ∀ m, n ≤ m → m < n + ds.length → ∀ s, Inv m s → ∃ s1, g d s = some s1 ∧ wpS (b s1) (fun f s2 => (f = .nx ∧ Inv (m + 1) s2) ∨ (∃ v, f = .rt v ∧ R v s2))) →
    wpS (loopS g b ds s) (fun f s2 => (f = .nx ∧ Inv (n + ds.length) s2) ∨ (∃ v, f = .rt v ∧ R v s2))
  | [], n, s, h, _ => by simp; exact h
  | d :: ds, n, s, h, k => by
    obtain ⟨s1, h1, f, s2, e, nn, p⟩ := k d (by simp) n (Nat.le_refl _) (by simp) s h
    rw [loopS_cons, h1]
    dsimp only
    rw [e]
    rcases p with ⟨rfl, p⟩ | ⟨v, rfl, p⟩
    · have := w_loopN (R := R) ds (n + 1) s2 p fun x hx m h1 h2 => k x (List.mem_cons_of_mem _ hx) m (by omega) (by simp; omega)
      rw [show n + 1 + ds.length = n + (d :: ds).length by simp; omega] at this
      exact this
    · exact ⟨_, _, rfl, rfl, .inr ⟨v, rfl, p⟩⟩
/-- a comprehension whose test draws, too -/
theorem compL_drawT {l : List (Option DV)} {g : GM} {t e : EM} {Inv : List O → Prop} {R : D → Prop} : ∀ (ds : List DV) (acc : List D) (M : List O), Inv M → (∀ y ∈ acc, R y) → acc.length + ds.length ≤ 1000000 →
    (∀ d ∈ ds, ∀ M, Inv M → ∃ s1, g d ⟨l, M⟩ = some s1 ∧ wpB (t s1) (fun v M2 => ∃ b, v = .p (.bl b) ∧ Inv M2 ∧ (b = true → wpB (e ⟨s1.l, M2⟩) (fun v M3 => ∃ y, v = .p y ∧ R y ∧ Inv M3)))) →
    ∃ ys M', compL l g t e ds acc M = some (ys, M') ∧ Inv M' ∧ (∀ y ∈ ys, R y) ∧ ys.length ≤ acc.length + ds.length
  | [], acc, M, h, ha, _, _ => ⟨acc, M, rfl, h, ha, Nat.le_refl _⟩
  | d :: ds, acc, M, h, ha, hl, k => by
    obtain ⟨s1, h1, v, M2, e1, b, rfl, h2, h3⟩ := k d (by simp) M h
    have hl' : acc.length + (ds.length + 1) ≤ 1000000 := hl
    unfold compL
    rw [h1]
    dsimp only
    rw [e1]
    cases b with
    | false =>
      dsimp only
      obtain ⟨ys, M', e2, i2, r2, l2⟩ := compL_drawT (t := t) (e := e) ds acc M2 h2 ha (by omega) fun x hx => k x (List.mem_cons_of_mem _ hx)
      exact ⟨ys, M', e2, i2, r2, by simp; omega⟩
    | true =>
      dsimp only
      obtain ⟨w, M3, e3, y, rfl, hy, h4⟩ := h3 rfl
      rw [e3]
      dsimp only
      rw [if_pos (by omega)]
      obtain ⟨ys, M', e2, i2, r2, l2⟩ := compL_drawT (t := t) (e := e) ds (acc ++ [y]) M3 h4 (fun z hz => by
        rw [List.mem_append] at hz
        rcases hz with hz | hz
        · exact ha z hz
        · simp at hz; rw [hz]; exact hy) (by simp; omega) fun x hx => k x (List.mem_cons_of_mem _ hx)
      exact ⟨ys, M', e2, i2, r2, by simp at l2 ⊢; omega⟩
theorem list_of {α : Type} {f : α → D} {p : α → Prop} : ∀ {ys : List D}, (∀ y ∈ ys, ∃ a, y = f a ∧ p a) → ∃ l : List α, ys = l.map f ∧ ∀ a ∈ l, p a
  | [], _ => ⟨[], rfl, by simp⟩
  | y :: ys, h => by
    obtain ⟨a, rfl, ha⟩ := h y (by simp)
    obtain ⟨l, rfl, hl⟩ := list_of fun z hz => h z (List.mem_cons_of_mem _ hz)
    exact ⟨a :: l, rfl, fun b hb => by
      rcases List.mem_cons.mp hb with rfl | hb
      · exact ha
      · exact hl b hb⟩
theorem mem_intsFrom {d : DV} {lo : Int} {n : Nat} (h : d ∈ DL.intsFrom lo n) : ∃ i : Nat, i < n ∧ d = .p (.int (lo + i)) := by
  unfold DL.intsFrom at h
  obtain ⟨i, hi, rfl⟩ := List.mem_map.mp h
  exact ⟨i, List.mem_range.mp hi, rfl⟩
@[simp] theorem intsFrom_len (lo : Int) (n : Nat) : (DL.intsFrom lo n).length = n := by unfold DL.intsFrom; simp
end DL
namespace DL
open PySem L2
theorem list_of' {α : Type} {f : α → D} {ys : List D} (h : ∀ y ∈ ys, ∃ a, y = f a) : ∃ l : List α, ys = l.map f := by
  obtain ⟨l, e, _⟩ := list_of (f := f) (p := fun _ => True) (ys := ys) fun y hy => by
    obtain ⟨a, e⟩ := h y hy; exact ⟨a, e, trivial⟩
  exact ⟨l, e⟩
theorem wpB_some {α : Type} {o : Option (Rs α)} {v : α} {M : List O} {P : α → List O → Prop} (e : o = some (.ok v M)) (h : P v M) : wpB o P := ⟨v, M, e, h⟩
theorem wpS_some {o : Option (Fl × S)} {f : Fl} {s : S} {P : Fl → S → Prop} (e : o = some (f, s)) (hf : noX f = true) (h : P f s) : wpS o P := ⟨f, s, e, hf, h⟩
end DL
namespace DL
open PySem PySem.Spec PyProof.Rows L2 LamX NdefX
/-! ### lambdas: the object, its promise -/
def LamO (f : Addr) (F : NF) (body : Expr) : HO := .ext fun h => ∃ (od : Option Addr) (sl : Array (Option Value)) (pm ctv : Value), h.get? f = some (⟨.type "function", od, .func (PySem.W.kla_fn F.name F.qual F.params body F.scope F.cl pm (.ref F.c) ctv), sl⟩ : Obj)
theorem lamO_at {P : Program} {w : World} {H : Hp} {h : Heap} {f : Addr} {F : NF} {body : Expr} (hok : HOk P w H h) (e : H f = some (LamO f F body)) : ∃ (od : Option Addr) (sl : Array (Option Value)) (pm ctv : Value), h.get? f = some (⟨.type "function", od, .func (PySem.W.kla_fn F.name F.qual F.params body F.scope F.cl pm (.ref F.c) ctv), sl⟩ : Obj) :=
  (hok f _ e).1
section
variable {X : Cx} {pins : List (Addr × Obj)} {σ : L2.St} {H : Hp} {s : Shared}
theorem inv_lam {F : NF} {body : Expr} {o : Obj} {t' : Nat} {pm ctv : Value} (I : Inv X pins σ H s) (ho : o = PySem.W.kla_obj F.name F.qual F.params body F.scope F.cl pm F.c ctv) :
    Inv X pins σ (upd H s.heap.objs.size (LamO s.heap.objs.size F body)) { s with heap := s.heap.push o, toks := t' } := by
  subst ho
  refine I.laid (a := s.heap.objs.size) (fun b u e => Heap.get?_push_of_some _ e) (Nat.le_refl _) ?_
  have e : (s.heap.push (PySem.W.kla_obj F.name F.qual F.params body F.scope F.cl pm F.c ctv)).get? s.heap.objs.size = some (PySem.W.kla_obj F.name F.qual F.params body F.scope F.cl pm F.c ctv) := Heap.get?_push_size _ rfl
  exact ⟨⟨_, _, pm, ctv, e⟩, ⟨_, e⟩, fun h1 h2 ⟨od, sl, p, t, z⟩ st => ⟨od, sl, p, t, st _ z⟩⟩
/-- the lambda is made: its code object is new, or found in the table -/
theorem lam_make3 {nm : Str} {c P : Addr} {params : Arguments} {body : Expr} {scope : Scope} {pos : Pos} {E : Value → Shared → Prop} {Q : Value → Shared → Prop} {ps : Array Value} (I : Inv X pins σ H s) (TB : TabB X.base X.mg c P) (hcode : X.env.code = .ref c)
    (hn : nm = X.env.qual ++ "<lambda>") (hP : H P = some (.tbl ps)) (ht : TriplesOk ps.toList) (ha : ∀ (pos : Pos) (cv : Value), codeAmong pos ps.toList = some cv → ∃ c, cv = .ref c ∧ H c = some (CodeO c nm)) (hdef : defaultsOf params X.env = ([], [])) (hfree : ∀ y ∈ scope.names, y.2 = .free → ∃ c, X.env.cells.lookup y.1 = some c)
    (h : ∀ (f c' : Addr) (H1 : Hp) (s' : Shared) (ps' : Array Value), Inv X pins σ H1 s' → (∀ b o, b ≠ P → H b = some o → H1 b = some o) → (∀ b, H1 b = Option.none → H b = Option.none) → H1 P = some (.tbl ps') → TriplesOk ps'.toList →
      (∀ (pos : Pos) (cv : Value), codeAmong pos ps'.toList = some cv → codeAmong pos ps.toList = some cv ∨ cv = .ref c') → H f = none → f ≠ c' → (H c' = none ∨ ∃ pos, codeAmong pos ps.toList = some (.ref c')) → H1 f = some (LamO f ⟨"<lambda>", nm, params, [], scope, cloFrom X.env.cells scope.names [], c'⟩ body) → H1 c' = some (CodeO c' nm) → Q (.ref f) s') :
    wpAny (model X.prog X.w) X.A (eval (.Lambda params body scope pos) X.env) Q E s := by
  subst hn
  refine PySem.W.kla_eval hdef ?_
  have bP : s.heap.BuiltinsAt X.mg P := TB.bm.keeps I.bk
  have hP' : s.heap.get? P = some { cls := .none, data := .fields ps } := I.hok P _ hP
  cases hc : codeAmong pos ps.toList with
  | none =>
    refine PySem.W.kla_makeFunction (mg := X.mg) (c := c) (P := P) (ps := ps) (closure_ok hfree) I.ok.glob (I.mod.glob.keeps I.bk) hcode (TB.code.keeps I.bk) hP' ht hc TB.gP bP fun c' ctv h' tk hx hge hlt hrec htb => ?_
    obtain ⟨c2, oc, vs, t, e2, hoc, hd, hv⟩ := hrec
    cases e2
    have nC : H c' = none := I.hok.fresh hge
    have I1 := inv_table (t' := tk) (more := #[rawInt pos.line, rawInt pos.col, .ref c']) (h' := h') I hP (fun b o hb e => hx b o hb e) htb hge ⟨oc, vs, t, hoc, hd, hv⟩
    have nF := I1.hok.fresh (Nat.le_refl _)
    have I2 := inv_lam (F := ⟨"<lambda>", X.env.qual ++ "<lambda>", params, [], scope, cloFrom X.env.cells scope.names [], c'⟩) (body := body) (t' := tk) (pm := (X.mg "__name__").getD .none) (ctv := ctv) I1 rfl
    have eL : (ps ++ #[rawInt pos.line, rawInt pos.col, .ref c']).toList = ps.toList ++ [rawInt pos.line, rawInt pos.col, .ref c'] := by simp
    have nPf : P ≠ h'.objs.size := Nat.ne_of_lt (Heap.lt_size htb)
    refine h h'.objs.size c' _ _ (ps ++ #[rawInt pos.line, rawInt pos.col, .ref c']) I2 (fun b o hb e => ?_) (fun b e => upd_none (upd_none (upd_none e))) ?_ (by rw [eL]; exact PySem.TriplesOk_snoc _ _ _ _ ht) (fun p' cv hcv => ?_) (I.hok.fresh (Nat.le_trans hge (Nat.le_of_lt hlt))) (Nat.ne_of_gt hlt) (.inl nC) upd_same ?_
    · have nb : b ≠ h'.objs.size := fun z => by
        have := I.hok.fresh (Nat.le_trans hge (Nat.le_of_lt hlt))
        rw [← z] at this; rw [this] at e; cases e
      rw [upd_ne nb, upd_ne (ne_of_none e nC), upd_ne hb]; exact e
    · rw [upd_ne nPf, upd_ne (ne_of_none hP nC), upd_same]
    · rw [eL] at hcv
      exact among_app _ ht hcv
    · exact (upd_ne (Nat.ne_of_lt hlt)).trans upd_same
  | some cv =>
    obtain ⟨c', e, hco⟩ := ha pos cv hc
    subst e
    refine PySem.W.kla_makeFunctionHit (mg := X.mg) (c := c) (P := P) (ps := ps) (closure_ok hfree) I.ok.glob (I.mod.glob.keeps I.bk) hcode (TB.code.keeps I.bk) hP' ht hc bP fun ctv h' tk hx hsz => ?_
    have I1 : Inv X pins σ H { s with heap := h', toks := tk } := I.kept hx
    have nF : H h'.objs.size = none := I1.hok.fresh (Nat.le_refl _)
    have I2 := inv_lam (F := ⟨"<lambda>", X.env.qual ++ "<lambda>", params, [], scope, cloFrom X.env.cells scope.names [], c'⟩) (body := body) (t' := tk) (pm := (X.mg "__name__").getD .none) (ctv := ctv) I1 rfl
    refine h h'.objs.size c' _ _ ps I2 (fun b o hb e => ?_) (fun b e => upd_none e) ?_ ht (fun p' cv hcv => ?_) nF (fun z => by rw [z] at nF; rw [nF] at hco; cases hco) (.inr ⟨pos, hc⟩) upd_same ?_
    · exact (upd_ne (ne_of_none e nF)).trans e
    · exact (upd_ne (ne_of_none hP nF)).trans hP
    · exact .inl hcv
    · exact (upd_ne (ne_of_none hco nF)).trans hco
end
/-- the promise of the lambda F at f: sp ws, ws what its captured cells hold at the call -/
structure LOk (P : Program) (w : World) (K : PySem.W.Frag) (mg : Str → Option Value) (base : Heap) (CX : CXT) (k : Nat) (f : Addr) (F : NF) (body : Expr) (ps fr : List Str) (sp : List (Option V) → Sp) : Prop where
  len : ∀ ws vs H Q E, sp ws vs H Q E → vs.length = ps.length
  run : ∀ (A : Around) (outer : List Env) (s : Shared) (H : Hp) (us : List Value) (vs : List V) (ws : List (Option V)) (Q : VK) (E : XK), Room k A → Env0 P w K mg base A outer s H → H f = some (LamO f F body) → H F.c = some (CodeO F.c F.qual) →
    CellsAt F.cl fr ws s.heap H → Vals vs us → sp ws vs H Q E → codeAny (model P w) A (.call (.ref f) ⟨us, []⟩) (CR CX outer P w H s Q E) s
section
variable {CX : CXT} {P : Program} {w : World} {K : PySem.W.Frag} {mg : Str → Option Value} {base : Heap} {N ps fr : List Str} {F : NF} {f : Addr} {k j : Nat} {body : Expr} {sp : List (Option V) → Sp}
theorem lok_of (S : NScope N ps fr F.scope) (hb : ∀ (pm ctv : Value) (us : List Value), us.length = ps.length → bindArgs (PySem.W.kla_fn F.name F.qual F.params body F.scope F.cl pm (.ref F.c) ctv) ⟨us, []⟩ = pure (ps.zip us)) (len : ∀ ws vs H Q E, sp ws vs H Q E → vs.length = ps.length)
    (hbody : ∀ (A : Around) (outer : List Env) (s : Shared) (H : Hp) (vs : List V) (ws : List (Option V)) (Q : VK) (E : XK), Room k (A.deeper (envF F f s.heap.objs.size)) → ws.length = fr.length → sp ws vs H Q E →
      ∃ t, PE (ncx CX P w K mg base N F f A outer s H E) body t ∧ t (startF N vs ws) H Q) :
    LOk P w K mg base CX (k + 1) f F body ps fr sp := by
  refine ⟨len, fun A outer s H us vs ws Q E hr e0 hf hc C r hsp => ?_⟩
  have hl := len _ _ _ _ _ hsp
  have lim : s.heap.NoLimit := e0.mod.nolimit.keeps fun b o e => (e0.bs b o e).1
  obtain ⟨od, sl, pm, ctv, ho⟩ := lamO_at e0.hok hf
  refine PySem.W.kla_callFunE hr.depth ho rfl S.co S.gen rfl (codeO_at e0.hok hc) ?_
  rw [hb pm ctv us (by rw [← r.length]; exact hl)]
  refine wpAny_pure (wpAny_newFunctionEnv S.nocell (fun ⟨n, _⟩ hy => S.par n (List.of_mem_zip hy).1) (fun h₁ hns hsb => ⟨lim.fresh _ hsb, ?_⟩) S.kind)
  show codeAny _ _ (.expr body (envF F f s.heap.objs.size)) _ _
  have kp : ∀ b o, s.heap.get? b = some o → h₁.get? b = some o := fun b o e => hsb.extBut b o (Nat.ne_of_lt (Heap.lt_size e)) (Heap.get?_push_of_some _ e)
  obtain ⟨t, hte, hq⟩ := hbody A outer s H vs ws Q E (hr.deeper _) C.len hsp
  have I : Inv (ncx CX P w K mg base N F f A outer s H E) [] (startF N vs ws) H { s with heap := h₁, toks := s.toks + (ps.zip us).length } := inv_startN S hr.hd e0 hl r C hns kp
  refine PySem.W.kla_codeExpr (wpAny_mono (hte.run [] _ (startF N vs ws) H Q I hq) (fun v s' hs => ?_) fun e s' hs => hs)
  obtain ⟨w', H', J, rv, q⟩ := hs
  exact ⟨w', H', J.os, J.bare, J.base, J.hok, rv, q⟩
end
end DL
namespace DL
open PySem L2 PySem.W
open PyProof.Rows (seqObj get?_update_seq listUpdate_at listItems_at seqEpoch_at size_push' ksk_rest ksk_fold ksk_tree ksk_t1)
open PyProof.Rows (seqObj get?_update_seq listUpdate_at listItems_at seqEpoch_at size_push' ksk_rest ksk_fold ksk_tree ksk_t1 ksk_s1 ksk_l1)
section
variable {X : Cx} {pins : List (Addr × Obj)} {σ : St} {H Z : Hp} {s : Shared}
/-- all turns, and what is behind them -/
theorem turns_okL {f : MA} {fa : Addr} {A : Around} {E : Value → Shared → Prop} (ht : ∀ (Hj Zj : Hp) (s' : Shared) (v : V) (u0 : Value) (d c : D), Inv X pins σ Hj s' → ExtP Z H Zj Hj → RelV v u0 → Rep X.K Zj v d → f [d] = some (.ok c) → wpAny (model X.prog X.w) A (call (.ref fa) [u0]) (EP X pins σ fun v' H' => ∃ Z', ExtP Zj Hj Z' H' ∧ Rep X.K Z' v' c) (fun _ _ => False) s')
    {a kS : Addr} {e1 : Nat} {us : List Value} {xs : List V} {ds ks : List D} (hka : kS ≠ a) (nS : H kS = none) (nA : H a = none) (rv : Vals xs us) (hx : RepA X.K Z xs ds) (hk : keysM f ds = some ks) (hZ : us.length ≤ sizeLine) (hst : X.s_0.heap.objs.size ≤ kS) (hex : X.ex = [])
    (hsp : ∀ k ∈ ks, shp k = true) (ok : sortOk (toPs ks) = true) (hu : ∀ k ∈ ks, A.units + (toP k).depth < cLine) {Q : VK} (p : PostP X.K Z H (.lst (sortBy ds ks)) Q) {P : PySem.Fin → Shared → Prop} (hP : ∀ s', EP X pins σ Q (.ref a) s' → P (.done (.ret .none)) s')
    (T : Turn X pins σ Z H a kS e1 ks 0 s) : wpAny (model X.prog X.w) A (ksk_rest a (.ref fa) false us.toArray e1 (.ref kS)) P E s := by
  have hkl := keysM_len hk
  have hxl := hx.length
  have hul : us.length = xs.length := rv.length.symm
  unfold ksk_rest
  refine wpAny_bind (wpAny_rule ?_)
  rw [List.forIn_toArray]
  refine wpAny_bind (ksk_fold (fun i s' => Turn X pins σ Z H a kS e1 ks i s') us 0 s T (fun j x s' hxj t => ?_) fun s' t => ?_)
  · rw [Nat.zero_add] at t ⊢
    obtain ⟨Hj, Zj, kA, e, kvs, I, xt, hS, hA, zS, zA, rk, rr⟩ := t.ex
    have hj : j < us.length := (List.getElem?_eq_some_iff.mp hxj).1
    obtain ⟨v, hv⟩ : ∃ v, xs[j]? = some v := ⟨_, List.getElem?_eq_getElem (by omega)⟩
    obtain ⟨d, hd, rd⟩ := hx.get' hv
    obtain ⟨u, hu1, ru⟩ := rv.get hv
    rw [hxj] at hu1
    cases hu1
    obtain ⟨c, hc, hf⟩ := keysM_at hk hd
    have hz : kA.size ≤ sizeLine := by
      have h1 : kA.size = kvs.length := by rw [L2.Vals.length rk]; simp
      have h2 := rr.length
      rw [List.length_take] at h2
      omega
    refine wpAny_bind (wpAny_attempt (wpAny_mono (ht Hj Zj _ v _ d c I xt ru (rd.mono xt.z) hf) (fun w s2 hw => ?_) fun _ _ z => z.elim))
    obtain ⟨wv, Hn, I2, rw2, Zn, xn, rn⟩ := hw
    have hS2 := xn.h _ _ hS
    have hA2 := xn.h _ _ hA
    have zS2 : Zn kS = none := by
      cases q : Zn kS with
      | none => rfl
      | some o =>
        rcases xn.zn kS (by rw [q]; simp) with z | z
        · exact absurd zS z
        · rw [hS] at z; cases z
    have zA2 : Zn a = none := by
      cases q : Zn a with
      | none => rfl
      | some o =>
        rcases xn.zn a (by rw [q]; simp) with z | z
        · exact absurd zA z
        · rw [hA] at z; cases z
    have nk := atS_at I2.hok hS2
    have sb := Heap.SameBut.update s2.heap kS (Obj.mapSeq (·.push w))
    obtain ⟨c2, hc2⟩ : ∃ c2, (s2.heap.update kS (Obj.mapSeq (·.push w))).get? kS = some (seqObj "list" (kA.push w) c2) := ⟨_, get?_update_seq nk (·.push w)⟩
    try dsimp only
    refine wpAny_bind (listUpdate_at nk rfl ?_ hz (Nat.le_trans (Nat.le_of_eq (Array.size_push ..)) (Nat.succ_le_succ hz)))
    have I3 := I2.write (x := kS) (e := kS) (o := atS kS (kA.push w) c2) (t' := s2.toks) (by rw [hS2]; trivial) (.inl rfl) (fun b u' hne q => (sb.2 b hne).trans q) ⟨_, hc2⟩ (atS_ok hc2)
    refine wpAny_pure ⟨rfl, ⟨upd Hn kS (atS kS (kA.push w) c2), Zn, kA.push w, c2, kvs ++ [wv], I3, ?_, upd_same, by rw [upd_ne hka.symm]; exact hA2, zS2, zA2, ?_, ?_⟩⟩
    · have x2 := xt.trans xn
      exact ⟨x2.z, fun b u' q => by rw [upd_ne (ne_of_none q nS)]; exact x2.h b u' q, Same.outer x2.sub zS2, x2.zn⟩
    · have ea : (kA.push w).toList = kA.toList ++ [w] := by simp
      rw [ea]
      exact paired_app rk (.cons rw2 .nil)
    · have ek : ks.take (j + 1) = ks.take j ++ [c] := by rw [List.take_add_one, hc]; rfl
      rw [ek]
      exact (rr.mono xn.z).append (.cons rn .nil)
  · rw [Nat.zero_add] at t
    obtain ⟨Hj, Zj, kA, e, kvs, I, xt, hS, hA, zS, zA, rk, rr⟩ := t.ex
    rw [List.take_of_length_le (by omega)] at rr
    have nk := atS_at I.hok hS
    have na := atS_at I.hok hA
    obtain ⟨G, gk, gn, J⟩ := forget I hS hst hex
    try dsimp only
    refine wpAny_bind (listItems_at nk rfl ?_)
    have er := each_reads I xt.sub rk rr hsp
    have hal : AllAlike (ks.map toP) := by rw [← toPs_map]; exact sortOk_like ok
    have hso : Sortable (ks.map toP) := by rw [← toPs_map]; exact sortOk_sortable ok
    have hsz : kA.size = us.length := by
      have h1 : kA.size = kvs.length := by rw [L2.Vals.length rk]; simp
      have h2 := rr.length
      omega
    refine keyH_end (κ := dataKind s'.heap (ks.map toP)) (h₁ := G) (fun b o _ q => gk b o q) gn nk na hka (SortsAt.data er hal hso fun d hd => ?_) hsz hZ fun h' tk c kp n => ?_
    · obtain ⟨k0, hk0, rfl⟩ := List.mem_map.mp hd
      exact hu k0 hk0
    · have ko : KeyedOut false ((ds.zip ks).map fun p => toP p.2) us (PySem.W.sortVals (dataKind s'.heap (ks.map toP)) false kA.toList us) := by
        have e1 : (ds.zip ks).map (fun p => toP p.2) = ks.map toP := by
          rw [show (fun p : D × D => toP p.2) = toP ∘ Prod.snd from rfl, ← List.map_map, List.map_snd_zip (by omega)]
        rw [e1]
        exact ⟨s'.heap, kA.toList, hal, rfl, er⟩
      have eo := keyedOut_each (R := fun u (p : D × D) => ∃ v, RelV v u ∧ Rep X.K Zj v p.1) (fun p : D × D => toP p.2) ko (each_mk rv (hx.mono xt.z) hkl)
      obtain ⟨ov, o1, o2⟩ := each_vals (fun _ _ q => q) eo
      have hol : ov.length ≤ sizeLine := by
        have h1 := o2.length
        rw [List.length_map, List.length_mergeSort, List.length_zip] at h1
        omega
      have hAd : delH Hj kS a = some (atS a #[] e1) := by rw [delH_ne hka.symm]; exact hA
      have J2 := J.write (h' := h') (x := a) (e := a) (o := .lst ov) (t' := tk) (by rw [hAd]; trivial) (.inl rfl) (fun b u' hne q => kp b u' hne q) ⟨_, n⟩ ⟨hol, _, c, o1, n⟩
      refine hP _ ⟨.ref a, _, J2, rfl, p _ (upd Zj a (.lst ov)) _ ⟨?_, ?_, ?_, ?_⟩ (.lst (.inl upd_same) (o2.mono ?_))⟩
      · exact fun b u' q => by rw [upd_ne (ne_of_none (xt.z b u' q) zA)]; exact xt.z b u' q
      · exact fun b u' q => by rw [upd_ne (ne_of_none q nA), delH_ne (ne_of_none q nS)]; exact xt.h b u' q
      · intro b u' q
        by_cases z : b = a
        · rw [z, upd_same] at q ⊢; exact q
        · rw [upd_ne z] at q ⊢
          rw [delH_ne (ne_of_none q zS)]
          exact xt.sub b u' q
      · intro b q
        by_cases z : b = a
        · rw [z]; exact .inr nA
        · rw [upd_ne z] at q; exact xt.zn b q
      · exact fun b u' q => by rw [upd_ne (ne_of_none q zA)]; exact q
/-- sorted(xs, key=f), f a def -/
theorem sortL_run {f : MA} {fa : Addr} (ht : ∀ (Hj Zj : Hp) (s' : Shared) (v : V) (u0 : Value) (d c : D), Inv X pins σ Hj s' → ExtP Z H Zj Hj → RelV v u0 → Rep X.K Zj v d → f [d] = some (.ok c) → wpAny (model X.prog X.w) X.A.in1.in1 (call (.ref fa) [u0]) (EP X pins σ fun v' H' => ∃ Z', ExtP Zj Hj Z' H' ∧ Rep X.K Z' v' c) (fun _ _ => False) s') (hr : Room 2 X.A) (hex : X.ex = []) (I : Inv X pins σ H s)
    {l : Addr} {xs : List V} {ds ks : List D} (sz : Same Z H) (hl : SqL X.K H l xs) (hx : RepA X.K Z xs ds) (hk : keysM f ds = some ks) (hsp : ∀ k ∈ ks, shp k = true) (ok : sortOk (toPs ks) = true) {Q : VK} (p : PostP X.K Z H (.lst (sortBy ds ks)) Q) :
    wpAny (model X.prog X.w) X.A (call (.builtin "sorted") [.ref l] [(Str.ofString "key", .ref fa)]) (EP X pins σ Q) X.xe s := by
  obtain ⟨us, rv, hL, hz⟩ := I.list hl
  have hz2 : us.length ≤ sizeLine := by rw [← rv.length]; exact hz
  refine sorted_of_sort hL.isList hz2 (ksk_s1 _ _) (fun _ => ksk_l1 _ _) fun E' => ?_
  rw [ksk_t1]
  let a : Addr := s.heap.objs.size + 1
  let h0 := copyHeap s.heap us
  have oa : h0.get? a = some (seqObj "list" us.toArray 0) := copyHeap_at s.heap us
  have la : a < h0.objs.size := Heap.lt_size oa
  obtain ⟨e1, oa1⟩ : ∃ e1, (h0.update a (Obj.mapSeq fun _ => (#[] : Array Value))).get? a = some (seqObj "list" #[] e1) := ⟨_, get?_update_seq oa fun _ => #[]⟩
  let h1 := (h0.update a (Obj.mapSeq fun _ => (#[] : Array Value))).push (seqObj "tuple" us.toArray 0)
  have s1 : h1.objs.size = h0.objs.size + 1 := by show ((h0.update a _).push _).objs.size = _; rw [size_push', Heap.size_update]
  have keep1 : ∀ b u, s.heap.get? b = some u → h1.get? b = some u := fun b u q => by
    have q0 : h0.get? b = some u := copyHeap_old q
    have nb : b ≠ a := Nat.ne_of_lt (Nat.lt_succ_of_lt (Heap.lt_size q))
    exact Heap.get?_push_of_some _ (by rw [Heap.get?_update_ne _ _ _ _ nb]; exact q0)
  have oa2 : h1.get? a = some (seqObj "list" #[] e1) := Heap.get?_push_of_some _ oa1
  have nA : H a = none := I.hok.fresh (Nat.le_succ _)
  have J1 := I.laid (h' := h1) (a := a) (o := atS a #[] e1) (t' := s.toks) keep1 (Nat.le_succ _) (atS_ok oa2)
  have nS1 : upd H a (atS a #[] e1) h1.objs.size = none := J1.hok.fresh (Nat.le_refl _)
  have hka : h1.objs.size ≠ a := by rw [s1]; exact Nat.ne_of_gt (Nat.lt_succ_of_lt la)
  have nS : H h1.objs.size = none := by rw [upd_ne hka] at nS1; exact nS1
  have oS : (h1.push (seqObj "list" #[] 0)).get? h1.objs.size = some (seqObj "list" #[] 0) := Heap.get?_push_size _ rfl
  have J2 := J1.laid (h' := h1.push (seqObj "list" #[] 0)) (a := h1.objs.size) (o := atS h1.objs.size #[] 0) (t' := s.toks) (fun b u q => Heap.get?_push_of_some _ q) (Nat.le_refl _) (atS_ok oS)
  have hst : X.s_0.heap.objs.size ≤ h1.objs.size := by
    have := I.sz
    have : s.heap.objs.size + 1 < h0.objs.size := la
    omega
  unfold ksk_tree
  refine wpAny_bind (listItems_at (s := { s with heap := h0 }) oa rfl ?_)
  refine wpAny_bind (listUpdate_at (s := { s with heap := h0 }) oa rfl ?_ (by rw [List.size_toArray]; exact hz2) (Nat.zero_le _))
  refine wpAny_bind (seqEpoch_at oa1 rfl ?_)
  refine wpAny_bind (wpAny_newTuple ?_ hz2)
  refine wpAny_bind (wpAny_newList ?_ (Nat.zero_le _))
  refine wpAny_holding ?_
  exact turns_okL (s := { s with heap := h1.push (seqObj "list" #[] 0) }) ht hka nS nA rv hx hk hz2 hst hex hsp ok (fun k0 h0 => by
      have z := hsp k0 h0
      unfold shp at z
      rw [Bool.and_eq_true] at z
      have y := of_decide_eq_true z.2
      have := hr.un
      show X.A.units + 1 + 1 + (toP k0).depth < cLine
      have dd : (toP k0).depth = depD k0 := depD_dep k0 z.1
      rw [dd]
      omega) p (fun s' q => ⟨rfl, q⟩)
    ⟨_, Z, #[], 0, [], J2, ⟨Same.refl _, fun b u q => by rw [upd_ne (ne_of_none q nS), upd_ne (ne_of_none q nA)]; exact q, Same.outer (Same.outer sz (none_of sz nA)) (none_of sz nS), fun b q => .inl q⟩, upd_same, by rw [upd_ne hka.symm]; exact upd_same, none_of sz nS, none_of sz nA, .nil, by rw [List.take_zero]; exact .nil⟩
end
end DL
namespace DL
open PySem PySem.Spec L2 LamX NdefX
/-! ### sorted(e, key=lambda p: body) -/
def tLam (P : Addr) (nm : Str) (mk : Addr → NF) (body : Expr) : TE := fun σ H Q => ∃ ps : Array Value, H P = some (.tbl ps) ∧ TriplesOk ps.toList ∧ (∀ (pos : Pos) (cv : Value), codeAmong pos ps.toList = some cv → ∃ c, cv = .ref c ∧ H c = some (CodeO c nm)) ∧
  ∀ (f c' : Addr) (H1 : Hp) (ps' : Array Value), (∀ b o, b ≠ P → H b = some o → H1 b = some o) → (∀ b, H1 b = Option.none → H b = Option.none) → H1 P = some (.tbl ps') → TriplesOk ps'.toList →
    (∀ (pos : Pos) (cv : Value), codeAmong pos ps'.toList = some cv → codeAmong pos ps.toList = some cv ∨ cv = .ref c') → H f = none → f ≠ c' → (H c' = none ∨ ∃ pos, codeAmong pos ps.toList = some (.ref c')) → H1 f = some (LamO f (mk c') body) → H1 c' = some (CodeO c' nm) → Q (.ref f) H1
abbrev lamF (X : Cx) (nm : Str) (params : Arguments) (scope : Scope) (c' : Addr) : NF := ⟨"<lambda>", nm, params, [], scope, cloFrom X.env.cells scope.names [], c'⟩
theorem pe_lam {X : Cx} {nm : Str} {c P : Addr} {params : Arguments} {body : Expr} {scope : Scope} {pos : Pos} (TB : TabB X.base X.mg c P) (hcode : X.env.code = .ref c) (hn : nm = X.env.qual ++ "<lambda>") (hdef : defaultsOf params X.env = ([], []))
    (hfree : ∀ y ∈ scope.names, y.2 = .free → X.env.scope.names.lookup y.1 = some .cell ∨ X.env.scope.names.lookup y.1 = some .free) : PE X (.Lambda params body scope pos) (tLam P nm (lamF X nm params scope) body) := ⟨fun pins s σ H Q I h => by
  obtain ⟨ps, hP, ht, ha, h⟩ := h
  have hfr : ∀ y ∈ scope.names, y.2 = .free → ∃ c, X.env.cells.lookup y.1 = some c := fun y hy e => (hfree y hy e).elim (fun z => I.ok.has _ (.inl z)) fun z => I.ok.has _ (.inr z)
  exact lam_make3 I TB hcode hn hP ht ha hdef hfr fun f c' H1 s' ps' I1 k1 k2 k3 k4 k5 k6 k7 k8 k9 k10 => ⟨.ref f, H1, I1, rfl, h f c' H1 ps' k1 k2 k3 k4 k5 k6 k7 k8 k9 k10⟩⟩
def lamK (n : Nat) (em : EM) : MA := fun ds => match em ⟨slotsOf n (ds.map .p), []⟩ with
  | some (.ok (.p d) _) => some (.ok d)
  | _ => none
section
variable {P : Program} {w : World} {K : PySem.W.Frag} {mg : Str → Option Value} {base : Heap} {N : List Str} {p : Str} {F : NF} {f : Addr} {k : Nat} {body : Expr} {em : EM}
theorem lamA (S : NScope N [p] [] F.scope) (hb : ∀ (pm ctv : Value) (us : List Value), us.length = 1 → bindArgs (PySem.W.kla_fn F.name F.qual F.params body F.scope F.cl pm (.ref F.c) ctv) ⟨us, []⟩ = pure ([p].zip us))
    (hbody : ∀ (A : Around) (outer : List Env) (s : Shared) (H : Hp) (E : XK), Room k (A.deeper (envF F f s.heap.objs.size)) → ∃ t, DE K (ncx (L2.CX P w) P w K mg base N F f A outer s H E) WF body t em) :
    LOk P w K mg base (L2.CX P w) (k + 1) f F body [p] [] (fun _ => spA K 1 (lamK N.length em)) := by
  refine lok_of S hb (fun ws vs H Q E h => h.1) fun A outer s H vs ws Q E hr hl hsp => ?_
  obtain ⟨hl2, Z, ds, r, sub, rp, e, q⟩ := hsp
  obtain ⟨t, b⟩ := hbody A outer s H E hr
  refine ⟨t, b.pe, ?_⟩
  have w0 : Wf K Z H [] [] := ⟨sub, rfl, List.nodup_nil, (by simp), fun n a o h => by simp at h⟩
  obtain rfl : ws = [] := List.length_eq_zero_iff.mp hl
  have es : startF N vs [] = L2.start N vs := by unfold startF L2.start; simp
  rw [es]
  unfold lamK at e
  cases z : em ⟨slotsOf N.length (ds.map .p), []⟩ with
  | none => rw [z] at e; cases e
  | some r0 =>
    rw [z] at e
    cases r0 with
    | ex c fs M => cases e
    | ok d M =>
      cases d with
      | o n => cases e
      | p d =>
        cases e
        refine b.so.ok (L2.start N vs) H _ Z [] _ _ w0 (start_rep (allP_map rp)) z fun v Z' H' I' w' x' r' => ?_
        exact q v Z' H' ⟨x'.z, fun a o q => x'.fr a o q (by simp), w'.sub, fun a q => by
          rcases x'.zn a q with k | k | k
          · exact .inl k
          · exact .inr k
          · cases k⟩ r'
end
section
variable {X : Cx} {pins : List (Addr × Obj)} {σ : L2.St} {H : Hp} {s : Shared}
theorem lam_turn {k : Nat} {kf : MA} {f : Addr} {F : NF} {p : Str} {body : Expr} {A : Around} (Fn : LOk X.prog X.w X.K X.mg X.base (L2.CX X.prog X.w) k f F body [p] [] (fun _ => spA X.K 1 kf)) (hcl : F.cl = []) (hr : Room k A) (I : Inv X pins σ H s)
    (he : Env0 X.prog X.w X.K X.mg X.base A X.stack s H) (hf : H f = some (LamO f F body)) (hc : H F.c = some (CodeO F.c F.qual)) {v : V} {u : Value} {d c : D} {Z : Hp} (rv : RelV v u) (sz : Same Z H) (hv : Rep X.K Z v d) (hk : kf [d] = some (.ok c)) :
    wpAny (model X.prog X.w) A (call (.ref f) [u]) (EP X pins σ fun v' H' => ∃ Z', ExtP Z H Z' H' ∧ Rep X.K Z' v' c) (fun _ _ => False) s := by
  have hsp : spA X.K 1 kf [v] H (fun v' H' => ∃ Z', ExtP Z H Z' H' ∧ Rep X.K Z' v' c) (fun _ _ _ => False) := ⟨rfl, Z, [d], .ok c, sz, .cons hv .nil, hk, fun v' Z' H' x r => ⟨Z', x, r⟩⟩
  have C : CellsAt F.cl [] [] s.heap H := ⟨rfl, fun y c e => (by rw [hcl] at e; cases e), fun x y c e => (by rw [hcl] at e; cases e), fun i y e => (by simp at e)⟩
  refine wpAny_call (codeAny_mono (Fn.run A X.stack s H [u] [v] [] _ (fun _ _ _ => False) hr he hf hc C (.cons rv .nil) hsp) fun r s' hq => ?_)
  cases r with
  | error e =>
    obtain ⟨_, _, _, _, _, _, _, _, _, _, _, _, z⟩ := hq
    exact z
  | ok fl =>
    cases fl with
    | ret u => exact I.after hq
    | next => exact False.elim hq
    | brk => exact False.elim hq
    | cont => exact False.elim hq
end
def rSortL (K : PySem.W.Frag) (nm : Str) (mk : Addr → NF) (body : Expr) (kf : MA) : List V → List V → Hp → VK → Prop := fun vs zs H Q => ∃ (f c' : Addr) (x : V) (Z : Hp) (d c : D), zs = [.ref f] ∧ vs = [x] ∧ H f = some (LamO f (mk c') body) ∧ H c' = some (CodeO c' nm) ∧ Same Z H ∧ Rep K Z x d ∧ sortKD kf d = some c ∧ PostP K Z H c Q
section
variable {X : Cx}
theorem cr_sortL {k : Nat} {nm p : Str} {params : Arguments} {body : Expr} {scope : Scope} {kf : MA} (Fn : ∀ f c', LOk X.prog X.w X.K X.mg X.base (L2.CX X.prog X.w) k f (lamF X nm params scope c') body [p] [] (fun _ => spA X.K 1 kf)) (hcl : cloFrom X.env.cells scope.names [] = []) (hr : Room (k + 2) X.A) (hex : X.ex = []) :
    CallRK X (.builtin "sorted") [Str.ofString "key"] (rSortL X.K nm (lamF X nm params scope) body kf) := by
  intro pins s σ H vs zs us ws Q I r rz h
  obtain ⟨f, c', x, Z, d, c, rfl, rfl, hf, hc, sz, hx, hd, p⟩ := h
  cases r with
  | cons r1 r2 =>
  cases r2
  cases rz with
  | cons z1 z2 =>
  cases z2
  cases z1
  unfold sortKD at hd
  split at hd
  · split at hd
    · rename_i ks hk
      split at hd
      · rename_i hcc
        cases hd
        rw [Bool.and_eq_true] at hcc
        cases hx with
        | lst h1 h2 =>
          cases r1
          refine sortL_run (f := kf) (fun Hj Zj s' v u0 d0 c0 Ij xj rv rd hk0 => ?_) (hr.mono (by omega)) hex I sz (.inl (same_rd sz h1)) h2 hk (fun k0 h0 => List.all_eq_true.mp hcc.1 k0 h0) hcc.2 p
          exact lam_turn (Fn f c') hcl (Room.in1 (Room.in1 hr)) Ij (Ij.env0.in1.in1) (xj.h _ _ hf) (xj.h _ _ hc) rv xj.sub rd hk0
      · cases hd
    · cases hd
  · cases hd
end
def tblAt (M : List O) (i : Nat) (P : Addr) (nm : Str) : Bool := match M[i]? with
  | some (.tbl P' q) => decide (P' = P) && decide (q = nm)
  | _ => false
noncomputable def mSortL (i : Nat) (P : Addr) (nm : Str) (kf : MA) (m : EM) : EM := bnd m (pur fun d s => if tblAt s.m i P nm = true then ret (sortKD kf d) s else none)
theorem tbl_at {K : PySem.W.Frag} {Z H : Hp} {I : List Addr} {M : List O} {i : Nat} {P : Addr} {nm : Str} (w : Wf K Z H I M) (h : tblAt M i P nm = true) : I[i]? = some P ∧ M[i]? = some (.tbl P nm) := by
  unfold tblAt at h
  split at h
  · rename_i P' q e
    rw [Bool.and_eq_true, decide_eq_true_eq, decide_eq_true_eq] at h
    obtain ⟨rfl, rfl⟩ := h
    refine ⟨?_, e⟩
    have hl := (List.getElem?_eq_some_iff.mp e).1
    have hi : I[i]? = some (I[i]'(by rw [w.len]; exact hl)) := List.getElem?_eq_getElem (by rw [w.len]; exact hl)
    obtain ⟨_, r, _⟩ := w.ob i _ _ hi e (by intro z; cases z)
    rw [hi, r]
  · cases h
/-- a lambda is made: the heap behind it -/
theorem lam_wf {K : PySem.W.Frag} {Z H H1 : Hp} {I : List Addr} {M : List O} {i : Nat} {P f c' : Addr} {nm : Str} {ps ps' : Array Value} {F : NF} {body : Expr} (w : Wf K Z H I M) (hi : I[i]? = some P) (hm : M[i]? = some (.tbl P nm)) (hP : H P = some (.tbl ps)) (hz : ∀ (pos : Pos) (cv : Value), codeAmong pos ps.toList = some cv → ∃ c, cv = .ref c ∧ Z c = some (CodeO c nm))
    (k1 : ∀ b o, b ≠ P → H b = some o → H1 b = some o) (k2 : ∀ b, H1 b = Option.none → H b = Option.none) (k3 : H1 P = some (.tbl ps')) (k4 : TriplesOk ps'.toList) (k5 : ∀ (pos : Pos) (cv : Value), codeAmong pos ps'.toList = some cv → codeAmong pos ps.toList = some cv ∨ cv = .ref c') (k6 : H f = none) (k6' : f ≠ c')
    (k7 : H c' = none ∨ ∃ pos, codeAmong pos ps.toList = some (.ref c')) (k8 : H1 f = some (LamO f F body)) (k9 : H1 c' = some (CodeO c' nm)) : ∃ Z', Wf K Z' H1 I M ∧ Ext Z H I Z' H1 I ∧ Z' f = some (LamO f F body) ∧ Z' c' = some (CodeO c' nm) := by
  have hPi : P ∈ I := List.mem_of_getElem? hi
  have nfP : f ≠ P := fun z => by rw [z, hP] at k6; cases k6
  have zc : Z c' = none ∨ Z c' = some (CodeO c' nm) := by
    rcases k7 with k7 | ⟨pos, k7⟩
    · exact .inl (none_of w.sub k7)
    · obtain ⟨c, e, h⟩ := hz pos _ k7
      cases e; exact .inr h
  have ncP : c' ≠ P := fun z => by
    rw [z, k3] at k9
    exact codeO_ne (c := P) (q := nm) ps' (Option.some.inj k9).symm
  have zf : Z f = none := none_of w.sub k6
  let Z' : Hp := upd (upd Z c' (CodeO c' nm)) f (LamO f F body)
  have sZ : Same Z Z' := fun b o e => by
    show upd (upd Z c' (CodeO c' nm)) f (LamO f F body) b = some o
    rw [upd_ne (ne_of_none e zf)]
    by_cases q : b = c'
    · subst q
      rcases zc with z | z
      · rw [z] at e; cases e
      · rw [upd_same, ← e, z]
    · rw [upd_ne q]; exact e
  have sub : Same Z' H1 := fun b o e => by
    have e : upd (upd Z c' (CodeO c' nm)) f (LamO f F body) b = some o := e
    by_cases q : b = f
    · subst q; rw [upd_same] at e; rw [← e]; exact k8
    · rw [upd_ne q] at e
      by_cases q2 : b = c'
      · subst q2; rw [upd_same] at e; rw [← e]; exact k9
      · rw [upd_ne q2] at e
        refine k1 b o (fun z => ?_) (w.sub b o e)
        have := (w.ob i P _ hi hm (by intro z; cases z)).1
        rw [z, this] at e; cases e
  have fin : ∀ a, Z' a ≠ none → Z a ≠ none ∨ H a = none ∨ a ∈ I := fun a q => by
    have q : upd (upd Z c' (CodeO c' nm)) f (LamO f F body) a ≠ none := q
    by_cases z : a = f
    · rw [z]; exact .inr (.inl k6)
    · rw [upd_ne z] at q
      by_cases z2 : a = c'
      · rw [z2]
        rcases k7 with k7 | ⟨pos, k7⟩
        · exact .inr (.inl k7)
        · obtain ⟨c, e, h⟩ := hz pos _ k7
          cases e
          exact .inl (by rw [h]; simp)
      · rw [upd_ne z2] at q; exact .inl q
  have x : Ext Z H I Z' H1 I := ⟨sZ, ⟨[], by simp⟩, fun b o e n => k1 b o (fun z => n (by rw [z]; exact hPi)) e, fun _ h => .inl h, fin, fun b e q => e (k2 b q)⟩
  have znone : ∀ a ∈ I, Z a = none → Z' a = none := fun a ha e => by
    cases q : Z' a with
    | none => rfl
    | some o =>
      have q' : upd (upd Z c' (CodeO c' nm)) f (LamO f F body) a = some o := q
      have nf : a ≠ f := fun z => absurd k6 (by rw [← z]; exact w.tr a ha)
      rw [upd_ne nf] at q'
      by_cases z2 : a = c'
      · rcases k7 with k7 | ⟨pos, k7⟩
        · exact absurd k7 (by rw [← z2]; exact w.tr a ha)
        · obtain ⟨c, e2, h⟩ := hz pos _ k7
          cases e2
          rw [← z2, e] at h; cases h
      · rw [upd_ne z2, e] at q'; cases q'
  refine ⟨Z', ⟨sub, w.len, w.nd, fun a ha q => w.tr a ha (k2 a q), fun n a o h1 h2 h3 => ?_⟩, x, upd_same, ?_⟩
  · obtain ⟨q1, q2⟩ := w.ob n a o h1 h2 h3
    have hai : a ∈ I := List.mem_of_getElem? h1
    refine ⟨znone a hai q1, ?_⟩
    by_cases hn : n = i
    · subst hn
      rw [hi] at h1; cases h1
      rw [hm] at h2; cases h2
      refine ⟨rfl, ps', k3, k4, fun pos cv hcv => ?_⟩
      rcases k5 pos cv hcv with z | z
      · obtain ⟨c, e, h⟩ := hz pos cv z
        exact ⟨c, e, sZ _ _ h⟩
      · exact ⟨c', z, by show upd (upd Z c' (CodeO c' nm)) f (LamO f F body) c' = _; rw [upd_ne (Ne.symm k6'), upd_same]⟩
    · have naP : a ≠ P := fun z => by
        obtain ⟨l1, e1⟩ := List.getElem?_eq_some_iff.mp h1
        obtain ⟨l2, e2⟩ := List.getElem?_eq_some_iff.mp hi
        exact hn ((List.getElem_inj w.nd).mp (e1.trans (z.trans e2.symm)))
      refine q2.ext x ?_
      cases q : H a with
      | none => exact absurd q (w.tr a hai)
      | some u => exact k1 a u naP q
  · show upd (upd Z c' (CodeO c' nm)) f (LamO f F body) c' = _
    rw [upd_ne (Ne.symm k6'), upd_same]
section
variable {K : PySem.W.Frag} {X : Cx} {W : WX} {e : Expr} {pos p p2 kp lpos : Pos}
theorem de_sortL {k kk : Nat} {te : TE} {m em : EM} {params : Arguments} {body : Expr} {scope : Scope} {N : List Str} {x nm : Str} {c P : Addr} (i : Nat) (TB : TabB X.base X.mg c P) (hcode : X.env.code = .ref c) (hr : Room kk X.A) (hkk : k + 3 ≤ kk) (hs : X.mg "sorted" = none) (h : DE K X W e te m)
    (S : NScope N [x] [] scope) (hb : ∀ (cl : List (Str × Addr)) (c' : Addr) (pm ctv : Value) (us : List Value), us.length = 1 → bindArgs (PySem.W.kla_fn "<lambda>" nm params body scope cl pm (.ref c') ctv) ⟨us, []⟩ = pure ([x].zip us))
    (hbody : ∀ (f c' : Addr) (A : Around) (outer : List Env) (s : Shared) (H : Hp) (E : XK), Room k (A.deeper (envF (lamF X nm params scope c') f s.heap.objs.size)) → ∃ t, DE K (ncx (L2.CX X.prog X.w) X.prog X.w K X.mg X.base N (lamF X nm params scope c') f A outer s H E) WF body t em)
    (hn : nm = X.env.qual ++ "<lambda>" := by rfl) (hdef : defaultsOf params X.env = ([], []) := by rfl) (hcl : cloFrom X.env.cells scope.names [] = [] := by rfl) (hfree : ∀ y ∈ scope.names, y.2 = .free → X.env.scope.names.lookup y.1 = some .cell ∨ X.env.scope.names.lookup y.1 = some .free := by intro y hy e; simp at hy; rcases hy with rfl | hy <;> simp_all)
    (hgs : Gl X "sorted" := by rfl) (hex : X.ex = [] := by rfl)
    (hs1 : starEach [e] X.env = (false, eval e X.env) :: starEach [] X.env := by rfl) (he : backTo pos (starEach [e] X.env) = (false, eval e X.env) :: backTo pos (starEach [] X.env) := by rfl) (hpl : (backTo pos (starEach [e] X.env)).any (·.1) = false := by rfl)
    (hall : (backToKw pos (keywordEach [⟨some "key", .Lambda params body scope lpos, kp⟩] X.env)).all (·.1.isSome) = true := by rfl) (hnone : (backToKw pos (keywordEach [⟨some "key", .Lambda params body scope lpos, kp⟩] X.env)).any (·.1.isNone) = false := by rfl) (hks : (backToKw pos (keywordEach [⟨some "key", .Lambda params body scope lpos, kp⟩] X.env)).filterMap (·.1) = [Str.ofString "key"] := by rfl) :
    DE K X W (.Call (.Name "sorted" p) [e] [⟨some "key", .Lambda params body scope lpos, kp⟩] pos) (tCKw (rSortL K nm (lamF X nm params scope) body (lamK N.length em)) (tCons te tNil) (tCons (tLam P nm (lamF X nm params scope) body) tNil)) (mSortL i P nm (lamK N.length em) m) := by
  have k0 := h.k
  subst k0
  have Fn : ∀ f c', LOk X.prog X.w X.K X.mg X.base (L2.CX X.prog X.w) (k + 1) f (lamF X nm params scope c') body [x] [] (fun _ => spA X.K 1 (lamK N.length em)) := fun f c' => lamA S (hb _ c') (hbody f c')
  refine ⟨rfl, pe_callBK (cr_sortL Fn hcl (hr.mono hkk) hex) hgs hs rfl (pa_cons h.pe pa_nil hs1) (pk_cons (pe_lam TB hcode hn hdef hfree) pk_nil) (by decide) (by decide) he hpl hall hnone hks, ⟨fun σ H s Z I r0 Q w rs e1 p1 => ?_⟩⟩
  refine h.so.bnd w rs e1 p1.x fun d v M1 Z1 H1 I1 w1 rs1 x1 q1 e2 => ?_
  obtain ⟨d, rfl, e2⟩ := pur_ok e2
  have e2 : (if tblAt M1 i P nm = true then ret (sortKD (lamK N.length em) d) ⟨s.l, M1⟩ else none) = some r0 := e2
  split at e2
  · rename_i htb
    obtain ⟨c0, hc, rfl⟩ := ret_ok e2
    obtain ⟨hi, hm⟩ := tbl_at w1 htb
    obtain ⟨_, _, ps, hP, ht, hz⟩ := w1.ob i P _ hi hm (by intro z; cases z)
    refine ⟨ps, hP, ht, fun pos cv hcv => ?_, fun f c' H2 ps' k1 k2 k3 k4 k5 k6 k6' k7 k8 k9 => ?_⟩
    · obtain ⟨c1, e3, e4⟩ := hz pos cv hcv
      exact ⟨c1, e3, w1.sub _ _ e4⟩
    · obtain ⟨Z2, w2, x2, f2, c2⟩ := lam_wf w1 hi hm hP hz k1 k2 k3 k4 k5 k6 k6' k7 k8 k9
      exact ⟨f, c', v, Z2, d, c0, rfl, rfl, k8, k9, w2.sub, Rep.mono x2.z q1, hc, PostP.of w2 ((p1.mono x1).mono x2)⟩
  · cases e2
end
end DL
namespace DL
open PySem PySem.Spec PyProof.Rows L2 LamX NdefX
/-! ### the end of a law whose defs make lambdas: tables of code objects -/
def tbls : List Addr → List Str → List O
  | P :: Ps, q :: qs => .tbl P q :: tbls Ps qs
  | _, _ => []
theorem tbls_len : ∀ (Ps : List Addr) (qs : List Str), Ps.length = qs.length → (tbls Ps qs).length = Ps.length
  | [], _, _ => by cases ‹List Str› <;> rfl
  | _ :: _, [], h => by cases h
  | P :: Ps, q :: qs, h => by
    show (tbls Ps qs).length + 1 = Ps.length + 1
    rw [tbls_len Ps qs (by simpa using h)]
theorem tbls_at : ∀ {Ps : List Addr} {qs : List Str} {n : Nat} {b : Addr} {o : O}, Ps[n]? = some b → (tbls Ps qs)[n]? = some o → ∃ q, o = .tbl b q
  | [], _, _, _, _, h, _ => by simp at h
  | _ :: _, [], _, _, _, _, h => by simp [tbls] at h
  | P :: Ps, q :: qs, 0, b, o, h1, h2 => by
    simp at h1; simp [tbls] at h2
    exact ⟨q, by rw [← h1, h2]⟩
  | P :: Ps, q :: qs, n + 1, b, o, h1, h2 => tbls_at (Ps := Ps) (qs := qs) (n := n) (by simpa using h1) (by simpa [tbls] using h2)
section
variable {P : Program} {w : World} {K : PySem.W.Frag} {mg : Str → Option Value} {base : Heap} {x qual : Str} {st : Stmt} {f a : Addr} {fd : FuncData} {N : List Str} {k : Nat}
/-- from the entry on -/
theorem run_topT {m : SM} {cs : List (Addr × Addr)} {nms : List Str} {s₁ : Shared} {H : Hp} {ns : List Int} {p : Str} (F : Fun K x qual st f fd) (Sc : FnScope N [p] (defScope st)) (hr : Room (k + 1) callerA) (body : TopB P w K mg base N qual st f k m)
    (e0 : Env0 P w K mg base callerA [] s₁ H) (hb : BindsTo s₁ fd ⟨[.ref a], []⟩ [(p, .ref a)]) (hH : ∀ p ∈ cs, H p.2 = some (.tbl #[])) (hS : SqL K H a (ns.map V.int)) (hO : ∀ b, H b = none ∨ b ∈ cs.map (·.2) ∨ ∃ o xs, H b = some (.frz o (.lst xs))) (aT : a ∉ cs.map (·.2)) (hT : ∀ p ∈ cs, s₁.heap.get? p.2 = some { cls := .none, data := .fields #[] }) (C : ∀ p ∈ cs, PySem.W.CodeHd s₁.heap p.1 p.2) (nd : (cs.map (·.2)).Nodup) (hln : cs.length = nms.length) (good : ∃ s, m ⟨slotsOf N.length ([D.scr (ns.map .int)].map .p), tbls (cs.map (·.2)) nms⟩ = some (.rt (.p (.bl true)), s)) :
    codeAny (model P w) callerA (.call (.ref f) ⟨[.ref a], []⟩) (Told s₁) s₁ := by
  obtain ⟨oc, od, kV, doc, pm, an, cdv, ct, osl, rfl, lk, hcd⟩ := F.ex
  have inS : ∀ b o, base.get? b = some o → s₁.heap.get? b = some o := fun b o q => (e0.bs b o q).1
  have KS : K.In s₁.heap := e0.mod.kin.keeps inS
  have NL : s₁.heap.NoLimit := e0.mod.nolimit.keeps inS
  refine codeAny_mono (R := CR (L2.CX P w) [] P w H s₁ (fun v _ => v = V.bl true) (fun _ _ _ => False)) ?_ fun r s' h => ?_
  rotate_left
  · cases r with
    | error e =>
      obtain ⟨_, _, _, _, _, _, _, _, _, _, _, _, z⟩ := (show L2.CX P w [] H s₁ (fun _ _ _ => False) e s' from h)
      exact z.elim
    | ok fl =>
      cases fl with
      | ret u =>
        obtain ⟨v, H', os, bare, un, hok, rv, e⟩ := h
        have e : v = V.bl true := e
        subst e
        obtain rfl : u = Value.bool true := rv
        have key : ∀ b o, b ∉ cs.map (·.2) → s₁.heap.get? b = some o → s'.heap.get? b = some o := fun b o nb e => by
          rcases hO b with z | z | ⟨ob, xs, z⟩
          · exact un.keep b o e z (by intro q; exact absurd (show b ∈ ([] : List Addr) from q) (by simp)) (by simp)
          · exact absurd z nb
          · obtain ⟨e1, _⟩ := e0.hok b _ z
            obtain ⟨e2, _⟩ := hok b _ (un.frzs b ob _ z)
            rw [e] at e1; cases e1
            exact e2
        have grown : ∀ p ∈ cs, ∃ more : Array Value, s'.heap.get? p.2 = some { cls := .none, data := .fields more } := fun p hp => by
          obtain ⟨more, z⟩ := un.tbls p.2 #[] (hH p hp)
          exact ⟨_, hok p.2 _ z⟩
        refine ⟨rfl, ⟨fun b o e => ?_, fun b o e => ?_⟩, os, bare⟩
        · by_cases hb : b ∈ cs.map (·.2)
          · obtain ⟨p, hp, ep⟩ := List.mem_map.mp hb
            obtain ⟨more, hm⟩ := grown p hp
            rw [← ep] at e ⊢
            rw [hT p hp] at e
            cases e
            exact .inr (.inl ⟨((C p hp).tab (hT p hp)).isCodeTable, rfl, #[], more, rfl, by rw [Array.empty_append]; exact hm⟩)
          · exact .inl (key b o hb e)
        · by_cases hb : b ∈ cs.map (·.2)
          · obtain ⟨p, hp, ep⟩ := List.mem_map.mp hb
            obtain ⟨more, hm⟩ := grown p hp
            rw [← ep]
            exact ⟨_, hm⟩
          · exact ⟨o, key b o hb e⟩
      | next => exact False.elim h
      | brk => exact False.elim h
      | cont => exact False.elim h
  -- the frame is made, the script bound
  refine PySem.codeAny_call_function hr.depth (KS _ _ lk) rfl Sc.co Sc.gen rfl (PySem.W.codeRec_of KS hcd) (hb _ _ _ _ ?_)
  refine PySem.wpAny_newFunctionEnv_cells Sc.kind (fun y hy => ?_) fun env he s2 made => ?_
  · obtain ⟨n, v⟩ := y
    rcases Sc.par n (List.of_mem_zip (l₁ := [p]) (l₂ := [Value.ref a]) hy).1 with q | q
    · exact .inl q
    · exact .inr ⟨q, PySem.W.cellsFrom_some _ _ _ (.inl q)⟩
  subst he
  refine ⟨NL.keeps made.toInCall.keep, PySem.codeAny_func ?_⟩
  obtain ⟨t, d⟩ := body cdv s₁ H (fun _ _ _ => False) (hr.deeper _)
  have I := inv_start (CX := L2.CX P w) (E := fun _ _ _ => False) Sc hr.hd e0 (vs := [.ref a]) rfl (.cons rfl .nil) made
  have q : t { nx := fun _ H' => (fun v (_ : Hp) => v = V.bl true) .non H', rt := fun v _ => v = V.bl true } (L2.start N [.ref a]) H := by
    let Z0 : Hp := fun b => if b ∈ cs.map (·.2) then none else H b
    have w0 : Wf K Z0 H (cs.map (·.2)) (tbls (cs.map (·.2)) nms) := by
      refine ⟨fun b o e => ?_, by rw [tbls_len _ _ (by rw [List.length_map]; exact hln)], nd, fun b hb => ?_, fun n b o h1 h2 h3 => ?_⟩
      · have e : (if b ∈ cs.map (·.2) then none else H b) = some o := e
        split at e
        · cases e
        · exact e
      · obtain ⟨p, hp, rfl⟩ := List.mem_map.mp hb
        rw [hH p hp]; simp
      · have hb : b ∈ cs.map (·.2) := List.mem_of_getElem? h1
        refine ⟨if_pos hb, ?_⟩
        obtain ⟨p, hp, rfl⟩ := List.mem_map.mp hb
        obtain ⟨q, rfl⟩ := tbls_at h1 h2
        refine ⟨rfl, #[], hH p hp, trivial, fun pos cv z => ?_⟩
        have z : codeAmong pos [] = some cv := z
        simp [codeAmong] at z
    have hS0 : SqL K Z0 a (ns.map V.int) := by
      rcases hS with z | z
      · refine .inl ?_
        have ea : Z0 a = H a := if_neg aT
        unfold Rd at z ⊢
        rw [ea]; exact z
      · exact .inr z
    obtain ⟨s1, z⟩ := good
    refine d.so.ok (L2.start N [.ref a]) H _ Z0 (cs.map (·.2)) _ _ w0 (start_rep (.cons (show RepV K Z0 (cs.map (·.2)) (.ref a) (.p (.scr (ns.map .int))) from Rep.scr hS0 (intsRep ns)) .nil)) z ?_
    exact fun v Z' H' I' w' x' r' => by cases r'; rfl
  refine wpAny_mono (d.ps.run [] s2 (L2.start N [.ref a]) H _ I q) (fun fl s' h => ?_) fun e s' h => ?_
  · cases fl with
    | ret u =>
      obtain ⟨v, σ', H', J, rv, e⟩ := h
      exact ⟨v, H', J.os, J.bare, J.base, J.hok, rv, e⟩
    | next =>
      obtain ⟨σ', H', J, e⟩ := h
      cases e
    | brk =>
      obtain ⟨_, _, _, e⟩ := h
      exact False.elim e
    | cont =>
      obtain ⟨_, _, _, e⟩ := h
      exact False.elim e
  · exact h
theorem law_topT {m : SM} {s₁ : Shared} {mb : Str → Option Value} {cs : List (Addr × Addr)} {nms : List Str} {vs : List Value} {ns : List Int} {p : Str}
    (KX : K.In s₁.heap) (hns : s₁.heap.Ns mainGlobals mg) (hb : s₁.heap.Ns builtinsNs mb) (hbb : ∀ x : Str, x ≠ "__name__" → mb x = bootBuiltins x) (hlim : s₁.heap.NoLimit) (hg : s₁.gens = #[])
    (hT : ∀ p ∈ cs, s₁.heap.get? p.2 = some { cls := .none, data := .fields #[] }) (nT : ∀ p ∈ cs, K.lookup p.2 = none) (C : ∀ p ∈ cs, PySem.W.CodeHd s₁.heap p.1 p.2)
    (hbm : ∃ (bm : Addr) (ob : Obj), mg "__builtins__" = some (.ref bm) ∧ bm ≠ builtinsNs ∧ s₁.heap.get? bm = some ob ∧ ob.cls = .type "module" ∧ ob.dict = some builtinsNs ∧ ob.data = .plain)
    (ha : s₁.heap.get? a = some { cls := .type "list", data := .seq vs.toArray }) (hi : IntsAre vs ns) (hl : ns.length ≤ sizeLine) (hr : Room (k + 1) callerA) (nd : (cs.map (·.2)).Nodup) (hln : cs.length = nms.length)
    (F : Fun K x qual st f fd) (Sc : FnScope N [p] (defScope st)) (hbind : ∀ (s : Shared) (u : Value), BindsTo s fd ⟨[u], []⟩ [(p, u)]) (body : ∀ base : Heap, K.In base → base.Ns mainGlobals mg → (∀ p ∈ cs, TabB base mg p.1 p.2) → TopB P w K mg base N qual st f k m)
    (good : ∃ s, m ⟨slotsOf N.length ([D.scr (ns.map .int)].map .p), tbls (cs.map (·.2)) nms⟩ = some (.rt (.p (.bl true)), s)) :
    codeAny (model P w) callerA (.call (.ref f) ⟨[.ref a], []⟩) (Told s₁) s₁ := by
  have rv := vals_ints hi
  have lenV := hi.length
  have isT : ∀ b : Addr, b ∈ cs.map (·.2) → s₁.heap.get? b = some { cls := .none, data := .fields #[] } := fun b hb => by
    obtain ⟨p, hp, e⟩ := List.mem_map.mp hb
    rw [← e]
    exact hT p hp
  have aT : a ∉ cs.map (·.2) := fun z => by
    have q := isT a z
    rw [ha] at q
    have z' : Data.seq vs.toArray _ = Data.fields #[] := congrArg Obj.data (Option.some.inj q)
    cases z'
  have memT : ∀ p ∈ cs, p.2 ∈ cs.map (·.2) := fun p hp => List.mem_map.mpr ⟨p, hp, rfl⟩
  -- from an abstract heap in which nothing but the script and the tables may be tracked
  have core : ∀ H : Hp, (∀ p ∈ cs, H p.2 = some (.tbl #[])) → (∀ b, H b = none ∨ b ∈ cs.map (·.2) ∨ ∃ o xs, H b = some (.frz o (.lst xs))) → SqL K H a (ns.map V.int) → HOk P w H s₁.heap → (∀ b, H b ≠ none → b = a ∨ b ∈ cs.map (·.2)) → (H a ≠ none → K.lookup a = none) →
      codeAny (model P w) callerA (.call (.ref f) ⟨[.ref a], []⟩) (Told s₁) s₁ := by
    intro H hH hO hS hok hA hK
    have base_of : ∀ {b : Addr} {o : Obj}, s₁.heap.get? b = some o → H b = none → (hidT s₁.heap H).get? b = some o := fun e n => hidT_get e n
    have noD : ∀ {b : Addr} {o : Obj}, s₁.heap.get? b = some o → (∀ vs n, o.data ≠ .seq vs n) → o.data ≠ .fields #[] → H b = none := fun {b o} e h1 h2 => by
      cases q : H b with
      | none => rfl
      | some u =>
        rcases hA b (by rw [q]; simp) with e' | e'
        · rw [e', ha] at e
          cases e
          exact (h1 _ _ rfl).elim
        · rw [isT b e'] at e
          cases e
          exact (h2 rfl).elim
    have noA : ∀ {b : Addr} {o : Obj} {es : Array DictEntry} {ep : Nat}, s₁.heap.get? b = some o → o.data = .dict es ep → H b = none := fun {b o es ep} e d => by
      refine noD e (fun vs n z => ?_) fun z => ?_
      · rw [d] at z
        cases z
      · rw [d] at z
        cases z
    have nsK : ∀ {b : Addr} {m : Str → Option Value}, s₁.heap.Ns b m → (hidT s₁.heap H).Ns b m := fun {b m} ⟨o, es, ep, e, d, r⟩ => ⟨o, es, ep, base_of e (noA e d), d, r⟩
    have hKb : K.In (hidT s₁.heap H) := fun b o e => base_of (KX b o e) (by
      cases q : H b with
      | none => rfl
      | some u =>
        rcases hA b (by rw [q]; simp) with e' | e'
        · rw [e'] at e q
          rw [hK (by rw [q]; simp)] at e
          cases e
        · obtain ⟨p, hp, ep⟩ := List.mem_map.mp e'
          rw [← ep, nT p hp] at e
          cases e)
    have hM : L2.Mod K mg (hidT s₁.heap H) := ⟨hKb, nsK hns, ⟨mb, nsK hb, hbb⟩, let ⟨mc, h1, h2⟩ := hlim; ⟨mc, nsK h1, h2⟩⟩
    have TB : ∀ p ∈ cs, TabB (hidT s₁.heap H) mg p.1 p.2 := fun p hp => by
      have hTp := hT p hp
      refine ⟨?_, ?_, fun z => ?_⟩
      · obtain ⟨o, us, file, tf, flags, tg, inF, text, tt, e1, r1, r2, r3, r4, r5, r6, r7, r8, hne⟩ := C p hp
        refine ⟨o, us, file, tf, flags, tg, inF, text, tt, base_of e1 (noD e1 (fun vs n z => ?_) fun z => ?_), r1, r2, r3, r4, r5, r6, r7, r8, hne⟩
        · rw [r2] at z
          cases z
        · rw [r2] at z
          cases z
          simp at r3
      · obtain ⟨bm, ob, b1, b2, b3, b4, b5, b6⟩ := hbm
        have nG : bm ≠ mainGlobals := fun q => by
          obtain ⟨o, es, ep, e, hd, _⟩ := hns
          rw [q, e] at b3
          cases b3
          rw [hd] at b6
          cases b6
        have nP : bm ≠ p.2 := fun q => by
          rw [q, hTp] at b3
          cases b3
          cases b6
        refine ⟨bm, ob, b1, b2, nG, nP, base_of b3 (noD b3 (fun vs n z => ?_) fun z => ?_), b4, b5, b6⟩
        · rw [b6] at z
          cases z
        · rw [b6] at z
          cases z
      · obtain ⟨o, es, ep, e, hd, _⟩ := hns
        rw [z, hTp] at e
        cases e
        cases hd
    have e0 : Env0 P w K mg (hidT s₁.heap H) callerA [] s₁ H := ⟨rfl, hM, fun b o e => of_hidT e, Nat.le_of_eq (hidT_size _ _), trivial, fun b hb => absurd (show b ∈ ([] : List Addr) from hb) (by simp), hok, .of_eq hg⟩
    exact run_topT F Sc hr (body _ hKb (nsK hns) TB) e0 (hbind _ _) hH hS hO aT hT C nd hln good
  cases hk : K.lookup a with
  | some o =>
    have e := KX a o hk
    rw [ha] at e
    cases e
    refine core (fun b => if b ∈ cs.map (·.2) then some (.tbl #[]) else none) (fun p hp => if_pos (memT p hp)) (fun b => ?_) (.inr ⟨_, vs.toArray, _, hk, rfl, rfl, rfl, by rw [List.size_toArray, lenV]; exact hl, by simpa using rv⟩) (fun b u z => ?_) (fun b z => ?_) fun z => absurd (show (if a ∈ cs.map (·.2) then some (HO.tbl #[]) else none) = none from if_neg aT) z
    · by_cases hb : b ∈ cs.map (·.2)
      · exact .inr (.inl hb)
      · exact .inl (if_neg hb)
    · by_cases hb : b ∈ cs.map (·.2)
      · have z' := (if_pos hb).symm.trans z
        cases z'
        exact isT b hb
      · have z' := (if_neg hb).symm.trans z
        cases z'
    · by_cases hb : b ∈ cs.map (·.2)
      · exact .inr hb
      · exact absurd (if_neg hb) z
  | none =>
    refine core (fun b => if b = a then some (.frz { cls := .type "list", data := .seq vs.toArray } (.lst (ns.map V.int))) else if b ∈ cs.map (·.2) then some (.tbl #[]) else none) (fun p hp => (if_neg (show ¬ p.2 = a from fun z => aT (by rw [← z]; exact memT p hp))).trans (if_pos (memT p hp))) (fun b => ?_)
      (.inl (.inr ⟨{ cls := .type "list", data := .seq vs.toArray }, if_pos rfl⟩)) (fun b u z => ?_) (fun b z => ?_) fun _ => hk
    · by_cases hb : b = a
      · exact .inr (.inr ⟨_, _, if_pos hb⟩)
      · by_cases hb2 : b ∈ cs.map (·.2)
        · exact .inr (.inl hb2)
        · exact .inl ((if_neg hb).trans (if_neg hb2))
    · by_cases hb : b = a
      · have z' := (if_pos hb).symm.trans z
        cases z'
        rw [hb]
        exact ⟨ha, by rw [List.length_map]; exact hl, vs, _, rv, ha⟩
      · have z1 := (if_neg hb).symm.trans z
        by_cases hb2 : b ∈ cs.map (·.2)
        · have z' := (if_pos hb2).symm.trans z1
          cases z'
          exact isT b hb2
        · have z' := (if_neg hb2).symm.trans z1
          cases z'
    · by_cases hb : b = a
      · exact .inl hb
      · by_cases hb2 : b ∈ cs.map (·.2)
        · exact .inr hb2
        · exact absurd ((if_neg hb).trans (if_neg hb2)) z
end
theorem walk_dlT {l : PySem.W.OpenLaw} {k : Nat} {q : Program} {loose : List Str} {XP : (Str → Option Value) → Heap → Prop} {YP : World → Heap → Prop} {d : DefRec} {K : Params → PySem.W.Frag} {x qual : Str} {st : Stmt} {N : List Str} {m : List Addr → SM} {nms : List Str} (hn : l.most = some 63) (hdf : d.params.defaults = []) (hr : Room (k + 1) callerA)
    (hY : ∀ (w : World) (h : Heap), YP w h → (K w.params).In h) (Sc : FnScope N ["script"] (defScope st))
    (F : ∀ (w : World) (mg : Str → Option Value) (fa : Addr) (h : Heap), YP w h → (K w.params).In h → h.Ns mainGlobals mg → mg d.name = some (.ref fa) →
      ∃ (fd : FuncData) (cs : List (Addr × Addr)), (∀ p ∈ cs, h.get? p.2 = some { cls := .none, data := .fields #[] }) ∧ (∀ p ∈ cs, (K w.params).lookup p.2 = none) ∧ (∀ p ∈ cs, PySem.W.CodeHd h p.1 p.2) ∧ (cs.map (·.2)).Nodup ∧ cs.length = nms.length ∧
        Fun (K w.params) x qual st fa fd ∧ (∀ (s : Shared) (u : Value), BindsTo s fd ⟨[u], []⟩ [("script", u)]) ∧ ∀ base : Heap, (K w.params).In base → base.Ns mainGlobals mg → (∀ p ∈ cs, TabB base mg p.1 p.2) → TopB l.prog w (K w.params) mg base N qual st fa k (m (cs.map (·.2))))
    (good : ∀ (Ps : List Addr) (ns : List Int), Ps.length = nms.length → ns.length ≤ 63 → (∀ z ∈ ns, Builtin.Int.intBits z ≤ 1048576) → ∃ s, m Ps ⟨slotsOf N.length ([D.scr (ns.map .int)].map .p), tbls Ps nms⟩ = some (.rt (.p (.bl true)), s)) :
    PySem.W.WalkO q loose XP YP l.row.toRowW d [] (fun f vs => PySem.call f vs) := by
  refine Att.attach_callB hn hdf fun w s₀ s₁ mg mb fa o pm cd doc a vs ns G Y ho hd hcd hmg hobj hints hlen hbits hg => ?_
  have KX := hY w _ Y
  obtain ⟨fd, cs, hT, nT, C, nd, hln, hF, hbind, body⟩ := F w mg fa _ Y KX G.T.g hmg
  exact law_topT KX G.T.g G.T.b G.T.builtins G.T.nolimit hg hT nT C G.T.bmain hobj hints (Nat.le_trans hlen (by decide)) hr nd hln hF Sc hbind body (good (cs.map (·.2)) ns (by rw [List.length_map]; exact hln) hlen hbits)
/-! ### a def that makes lambdas: its code object is known -/
section
variable {P : Program} {w : World} {K : PySem.W.Frag} {mg : Str → Option Value} {base : Heap} {x qual : Str} {st : Stmt} {f : Addr} {fd : FuncData} {N ps : List Str} {k : Nat}
theorem Fun.okC {sp : Sp} (F : Fun K x qual st f fd) (S : FnScope N ps (defScope st)) (len : ∀ vs H Q E, sp vs H Q E → vs.length = ps.length)
    (hbody : ∀ (A : Around) (outer : List Env) (s : Shared) (H : Hp) (vs : List V) (Q : VK) (E : XK), Room k (A.deeper (envOfC qual (defScope st) s.heap.objs.size f fd.code)) → sp vs H Q E →
      ∃ t, PSs (cxOf (L2.CX P w) P w K mg base N qual (defScope st) f fd.code A outer s H E) (defBody st) t ∧ t { nx := fun _ H' => Q .non H', rt := Q } (start N vs) H) : FnOk P w K mg base (L2.CX P w) (k + 1) f fd ps sp := by
  obtain ⟨oc, od, kV, doc, pm, an, cdv, ct, osl, rfl, lk, hcd⟩ := F.ex
  exact fn_of lk hcd S len fun A outer s H vs Q E hr hsp => hbody A outer s H vs Q E hr hsp
theorem fnBC {m : SM} (F : Fun K x qual st f fd) (Sc : FnScope N ps (defScope st))
    (body : ∀ (A : Around) (outer : List Env) (s : Shared) (H : Hp) (E : XK), Room k (A.deeper (PyProof.Rows.envOfC qual (defScope st) s.heap.objs.size f fd.code)) →
      ∃ t, DSs K (cxOf (L2.CX P w) P w K mg base N qual (defScope st) f fd.code A outer s H E) (WE0 E) (defBody st) t m) : FnOk P w K mg base (L2.CX P w) (k + 1) f fd ps (spB K ps.length (runB N.length m)) := by
  refine Fun.okC F Sc spB_len fun A outer s H vs Q E hr h => ?_
  obtain ⟨hl, Z, I, M, ds, r, w0, rp, e, p⟩ := h
  obtain ⟨t, b⟩ := body A outer s H E hr
  refine ⟨t, b.ps, ?_⟩
  unfold runB at e
  cases z : m ⟨slotsOf N.length ds, M⟩ with
  | none => rw [z] at e; cases e
  | some fs =>
    rw [z] at e
    obtain ⟨fl, s1⟩ := fs
    refine b.so.ok (L2.start N vs) H ⟨slotsOf N.length ds, M⟩ Z I _ _ w0 (start_rep rp) z ?_
    cases fl with
    | nx =>
      cases e
      intro σ' Z' H' I' w' rs' x'
      obtain ⟨I2, w2, x2, r2, _⟩ := drop_ok (d := .p .non) (v := .non) w0 w' x' (show Rep K Z' .non .non from .non)
      exact p _ Z' H' I2 w2 x2 r2
    | rt d =>
      cases e
      intro v Z' H' I' w' x' r'
      obtain ⟨I2, w2, x2, r2, _⟩ := drop_ok w0 w' x' r'
      exact p v Z' H' I2 w2 x2 r2
    | ex c fs =>
      cases e
      intro σ' d Z' H' I' w' rs' x' ea na
      obtain ⟨I2, w2, x2, _, h2⟩ := drop_ok (d := .p .non) (v := .non) w0 w' x' (show Rep K Z' .non .non from .non)
      exact p d Z' H' I2 w2 x2 ea fun a q => ⟨(na a q).1, fun m => (na a q).2 (h2 a m)⟩
    | bk => cases e
    | ct => cases e
end
end DL
namespace DL
open PySem L2 PySem.W
/-! ### sorted(xs) of data -/
section
variable {X : Cx} {pins : List (Addr × Obj)} {σ : St} {H Z : Hp} {s : Shared}
theorem each_rep {K : PySem.W.Frag} {Z : Hp} : ∀ {us : List Value} {vs : List V} {ds : List D}, Vals vs us → RepA K Z vs ds → EachIs (fun u d => ∃ v, RelV v u ∧ Rep K Z v d) us ds
  | _, _, _, .nil, .nil => .nil
  | _, _, _, .cons r1 t1, .cons r2 t2 => .cons ⟨_, r1, r2⟩ (each_rep t1 t2)
theorem each_readsP (I : Inv X pins σ H s) (sz : Same Z H) : ∀ {us : List Value} {vs : List V} {ks : List D}, Vals vs us → RepA X.K Z vs ks → (∀ k ∈ ks, shp k = true) → EachIs (fun u d => ∃ as, Reads s.heap u (toP d) as) us ks
  | _, _, _, .nil, .nil, _ => .nil
  | _, _, _, .cons r1 t1, .cons (d := d) r2 t2, h => .cons (Dp.reads I (toP d) _ _ (r2.dp sz (shaped_can (h d List.mem_cons_self))) r1) (each_readsP I sz t1 t2 fun k hk => h k (List.mem_cons_of_mem _ hk))
theorem each_vals1 {K : PySem.W.Frag} {Z : Hp} : ∀ {us : List Value} {ps : List D}, EachIs (fun u d => ∃ v, RelV v u ∧ Rep K Z v d) us ps → ∃ vs, Vals vs us ∧ RepA K Z vs ps
  | _, _, .nil => ⟨[], .nil, .nil⟩
  | _, _, .cons h t => by
    obtain ⟨v, r1, r2⟩ := h
    obtain ⟨vs, q1, q2⟩ := each_vals1 t
    exact ⟨v :: vs, .cons r1 q1, .cons r2 q2⟩
noncomputable def sortL (ds : List D) : List D := ds.mergeSort (dataLe false toP)
noncomputable def dSort : D → Option D
  | .lst ds => if (ds.all shp && sortOk (toPs ds)) = true then some (.lst (sortL ds)) else none
  | _ => none
def rSortP (K : PySem.W.Frag) : List V → Hp → VK → Prop := fun vs H Q => ∃ (x : V) (Z : Hp) (d c : D), vs = [x] ∧ Same Z H ∧ Rep K Z x d ∧ dSort d = some c ∧ PostP K Z H c Q
theorem cr_sortP (hu : X.A.units + 67 < cLine) : CallR X (.builtin "sorted") (rSortP X.K) := by
  intro pins s σ H vs us Q I r h
  obtain ⟨x, Z, d, c, rfl, sz, hx, hd, p⟩ := h
  unfold dSort at hd
  split at hd
  · split at hd
    · rename_i ds hc
      cases hd
      rw [Bool.and_eq_true] at hc
      have hsp : ∀ k ∈ ds, shp k = true := fun k hk => List.all_eq_true.mp hc.1 k hk
      cases hx with
      | lst h1 h2 =>
        obtain ⟨its, rv, hl, hz⟩ := I.list (.inl (same_rd sz h1))
        rw [Vals.ref1 r]
        have hal : AllAlike (ds.map toP) := by rw [← toPs_map]; exact sortOk_like hc.2
        have hso : Sortable (ds.map toP) := by rw [← toPs_map]; exact sortOk_sortable hc.2
        refine sorted_data hl.isList (each_rep rv h2) (each_readsP I sz rv h2 hsp) hal hso (by rw [← h2.length]; exact hz) (fun b hb => ?_) fun out ho eo => ?_
        · have z := hsp b hb
          unfold shp at z
          rw [Bool.and_eq_true] at z
          have y := of_decide_eq_true z.2
          have dd : (toP b).depth = depD b := depD_dep b z.1
          rw [dd]; omega
        · obtain ⟨ov, o1, o2⟩ := each_vals1 eo
          obtain ⟨ep, he'⟩ := PyProof.Rows.sortedAll_at s.heap its out.toArray
          have hn : H (s.heap.objs.size + 1) = none := I.hok.fresh (Nat.le_succ _)
          have hlen : ov.length ≤ sizeLine := by rw [o1.length, ho, ← h2.length]; exact hz
          have xp := ExtP.new (o := .lst ov) sz hn
          exact ⟨.ref _, upd H (s.heap.objs.size + 1) (.lst ov), I.laid (t' := s.toks) (fun _ _ => PyProof.Rows.sortedAll_old) (Nat.le_succ _) ⟨hlen, out, ep, o1, he'⟩, rfl, p _ _ _ xp (.lst (.inl upd_same) (o2.mono xp.z))⟩
    · cases hd
  · cases hd
end
section
variable {K : PySem.W.Frag} {X : Cx} {W : WX} {e a b c tg : Expr} {es : List Expr} {pos : Pos}
theorem units67 {k : Nat} {A : Around} (r : Room k A) : A.units + 67 < cLine := by have := r.un; omega
theorem cd_sort (hu : X.A.units + 67 < cLine) : CallD K X (.builtin "sorted") (rSortP K) (g1 dSort) := ⟨fun k => by rw [← k]; exact cr_sortP hu, g1_ok fun x d c Z H Q s hx hg p => ⟨x, Z, d, c, rfl, s, hx, hg, p⟩⟩
/-! ### max(xs), min(xs) of ints -/
def intsD : List D → Option (List Int)
  | [] => some []
  | .int i :: r => (intsD r).map (i :: ·)
  | _ :: _ => none
theorem intsD_rep {Z : Hp} : ∀ {vs : List V} {ds : List D} {ns : List Int}, RepA K Z vs ds → intsD ds = some ns → vs = ns.map V.int
  | _, [], _, .nil, e => by cases e; rfl
  | _, .int i :: r, _, .cons h t, e => by
    have e : (intsD r).map (i :: ·) = some _ := e
    cases q : intsD r with
    | none => rw [q] at e; cases e
    | some ms => rw [q] at e; cases e; cases h; rw [intsD_rep t q]; rfl
  | _, .non :: _, _, .cons h t, e => by cases e
  | _, .bl _ :: _, _, .cons h t, e => by cases e
  | _, .str _ :: _, _, .cons h t, e => by cases e
  | _, .tup _ :: _, _, .cons h t, e => by cases e
  | _, .ktup _ :: _, _, .cons h t, e => by cases e
  | _, .lst _ :: _, _, .cons h t, e => by cases e
  | _, .klst _ :: _, _, .cons h t, e => by cases e
  | _, .dK _ :: _, _, .cons h t, e => by cases e
  | _, .dT _ :: _, _, .cons h t, e => by cases e
  | _, .fn _ :: _, _, .cons h t, e => by cases e
  | _, .scr _ :: _, _, .cons h t, e => by cases e
  | _, .ty _ :: _, _, .cons h t, e => by cases e
  | _, .rng _ _ :: _, _, .cons h t, e => by cases e
theorem intsD_map : ∀ ns : List Int, intsD (ns.map .int) = some ns
  | [] => rfl
  | n :: r => by show (intsD (r.map .int)).map (n :: ·) = _; rw [intsD_map r]; rfl
def maxI : List Int → Int
  | [] => 0
  | [x] => x
  | x :: r => if x < maxI r then maxI r else x
def minI : List Int → Int
  | [] => 0
  | [x] => x
  | x :: r => if minI r < x then minI r else x
theorem maxI_ge : ∀ (l : List Int) (y : Int), y ∈ l → y ≤ maxI l
  | [x], y, h => by simp at h; rw [h]; exact Int.le_refl _
  | x :: z :: r, y, h => by
    have ih := maxI_ge (z :: r)
    show y ≤ if x < maxI (z :: r) then maxI (z :: r) else x
    rcases List.mem_cons.mp h with h | h
    · subst h; split <;> omega
    · have := ih y h; split <;> omega
theorem maxI_mem : ∀ l : List Int, l ≠ [] → maxI l ∈ l
  | [x], _ => by simp [maxI]
  | x :: z :: r, _ => by
    have ih := maxI_mem (z :: r) (by simp)
    show (if x < maxI (z :: r) then maxI (z :: r) else x) ∈ _
    split
    · exact List.mem_cons_of_mem _ ih
    · simp
theorem minI_le : ∀ (l : List Int) (y : Int), y ∈ l → minI l ≤ y
  | [x], y, h => by simp at h; rw [h]; exact Int.le_refl _
  | x :: z :: r, y, h => by
    have ih := minI_le (z :: r)
    show (if minI (z :: r) < x then minI (z :: r) else x) ≤ y
    rcases List.mem_cons.mp h with h | h
    · subst h; split <;> omega
    · have := ih y h; split <;> omega
theorem minI_mem : ∀ l : List Int, l ≠ [] → minI l ∈ l
  | [x], _ => by simp [minI]
  | x :: z :: r, _ => by
    have ih := minI_mem (z :: r) (by simp)
    show (if minI (z :: r) < x then minI (z :: r) else x) ∈ _
    split
    · exact List.mem_cons_of_mem _ ih
    · simp
def dMaxL : D → Option D
  | .lst ds => match intsD ds with
    | some (n :: ns) => some (.int (maxI (n :: ns)))
    | _ => none
  | _ => none
def dMinL : D → Option D
  | .lst ds => match intsD ds with
    | some (n :: ns) => some (.int (minI (n :: ns)))
    | _ => none
  | _ => none
theorem cd_maxL (hc : X.calm = true) : CallD K X (.builtin "max") (rMax K) (g1 dMaxL) := ⟨fun k => by rw [← k]; exact cr_max hc, g1_ok fun x d c Z H Q s hx hg p => by
  unfold dMaxL at hg
  split at hg
  · split at hg
    · rename_i n ns q
      cases hg
      cases hx with
      | lst h1 h2 =>
        have e := intsD_rep h2 q
        refine ⟨_, n :: ns, rfl, by rw [← e]; exact .inl (same_rd s h1), by simp, fun m hm hy => ?_⟩
        have h3 := hy _ (maxI_mem (n :: ns) (by simp))
        have h4 := maxI_ge (n :: ns) m hm
        have : m = maxI (n :: ns) := by omega
        rw [this]; exact p _ Z H (ExtP.refl s) (.int _)
    · cases hg
  · cases hg⟩
theorem cd_minL (hc : X.calm = true) : CallD K X (.builtin "min") (rMin K) (g1 dMinL) := ⟨fun k => by rw [← k]; exact cr_min hc, g1_ok fun x d c Z H Q s hx hg p => by
  unfold dMinL at hg
  split at hg
  · split at hg
    · rename_i n ns q
      cases hg
      cases hx with
      | lst h1 h2 =>
        have e := intsD_rep h2 q
        refine ⟨_, n :: ns, rfl, by rw [← e]; exact .inl (same_rd s h1), by simp, fun m hm hy => ?_⟩
        have h3 := hy _ (minI_mem (n :: ns) (by simp))
        have h4 := minI_le (n :: ns) m hm
        have : m = minI (n :: ns) := by omega
        rw [this]; exact p _ Z H (ExtP.refl s) (.int _)
    · cases hg
  · cases hg⟩
/-! ### list(x): a new list -/
def dList : D → Option D
  | .lst xs => some (.lst xs)
  | .klst xs => some (.lst xs)
  | .tup xs => some (.lst xs)
  | .ktup xs => some (.lst xs)
  | _ => none
def dTuple : D → Option D
  | .lst xs => some (.tup xs)
  | .klst xs => some (.tup xs)
  | .tup xs => some (.tup xs)
  | .ktup xs => some (.ktup xs)
  | _ => none
theorem cd_list : CallD K X (.type "list") (fun xs H Q => ∃ p ys, xs = [.ref p] ∧ (SqL K H p ys ∨ SqT K H p ys) ∧ ∀ l, H l = none → Q (.ref l) (upd H l (.lst ys))) (g1 dList) := ⟨fun k => by rw [← k]; exact call_list_of, g1_ok fun x d c Z H Q s hx hg p => by
  have main : ∀ {a : Addr} {vs : List V} {ds : List D}, (SqL K H a vs ∨ SqT K H a vs) → RepA K Z vs ds → PostP K Z H (.lst ds) Q → ∃ p ys, [V.ref a] = [V.ref p] ∧ (SqL K H p ys ∨ SqT K H p ys) ∧ ∀ l, H l = none → Q (.ref l) (upd H l (.lst ys)) := fun h r p =>
    ⟨_, _, rfl, h, fun l hl => p _ _ _ (ExtP.new s hl) (.lst (.inl upd_same) (r.mono (ExtP.new s hl).z))⟩
  cases hx with
  | lst h1 h2 => cases hg; exact main (.inl (.inl (same_rd s h1))) h2 p
  | klst h1 h2 => cases hg; exact main (.inl (same_l s h1)) h2 p
  | tup h1 h2 => cases hg; exact main (.inr (sqt s h1)) h2 p
  | ktup h1 h2 => cases hg; exact main (.inr (same_t s h1)) h2 p
  | _ => cases hg⟩
theorem cd_tuple : CallD K X (.type "tuple") (fun xs H Q => ∃ p ys, xs = [.ref p] ∧ ((SqL K H p ys ∧ ∀ l, H l = none → Q (.ref l) (upd H l (.tup ys))) ∨ (SqT K H p ys ∧ Q (.ref p) H))) (g1 dTuple) := ⟨fun k => by rw [← k]; exact call_tuple_of, g1_ok fun x d c Z H Q s hx hg p => by
  cases hx with
  | lst h1 h2 => cases hg; exact ⟨_, _, rfl, .inl ⟨.inl (same_rd s h1), fun l hl => p _ _ _ (ExtP.new s hl) (.tup upd_same (h2.mono (ExtP.new s hl).z))⟩⟩
  | klst h1 h2 => cases hg; exact ⟨_, _, rfl, .inl ⟨same_l s h1, fun l hl => p _ _ _ (ExtP.new s hl) (.tup upd_same (h2.mono (ExtP.new s hl).z))⟩⟩
  | tup h1 h2 => cases hg; exact ⟨_, _, rfl, .inr ⟨sqt s h1, p _ Z H (ExtP.refl s) (.tup h1 h2)⟩⟩
  | ktup h1 h2 => cases hg; exact ⟨_, _, rfl, .inr ⟨same_t s h1, p _ Z H (ExtP.refl s) (.ktup h1 h2)⟩⟩
  | _ => cases hg⟩
/-! ### bits -/
def dShl : D → D → Option D := dI fun i j => if 0 ≤ j ∧ j ≤ 100000 ∧ Builtin.Int.intBits i ≤ 100000 then some (.int (i * 2 ^ j.toNat)) else none
def dBand : D → D → Option D := dIi Builtin.bitAnd
def dBor : D → D → Option D := dIi Builtin.bitOr
def dBxor : D → D → Option D := dIi Builtin.bitXor
theorem od_shl : OpD K X (binaryOp .LShift) (rI CShl fun i j => .int (i * 2 ^ j.toNat)) dShl := ⟨fun _ => op_shlW, ok_rI fun i j c h => by
  split at h
  · rename_i hc
    cases h
    refine ⟨⟨hc.1, ?_⟩, fun _ => .int _⟩
    have : (2 : Int) ^ 27 = 134217728 := by decide
    omega
  · cases h⟩
theorem od_band : OpD K X (binaryOp .BitAnd) (rI0 fun i j => .int (Builtin.bitAnd i j)) dBand := ⟨fun _ => op_and, ok_rI0 fun i j c h Z => by cases h; exact .int _⟩
theorem od_bor : OpD K X (binaryOp .BitOr) (rI0 fun i j => .int (Builtin.bitOr i j)) dBor := ⟨fun _ => op_or, ok_rI0 fun i j c h Z => by cases h; exact .int _⟩
theorem od_bxor : OpD K X (binaryOp .BitXor) (rI0 fun i j => .int (Builtin.bitXor i j)) dBxor := ⟨fun _ => op_xor, ok_rI0 fun i j c h Z => by cases h; exact .int _⟩
def dInv : D → Option D
  | .int i => some (.int (Builtin.bitNot i))
  | _ => none
theorem de_inv {ta : TE} {m : EM} (ha : DE K X W a ta m) : DE K X W (.UnaryOp .Invert a pos) (tUn (rU fun i => .int (Builtin.bitNot i)) ta) (mUn dInv m) :=
  ⟨ha.k, pe_un un_inv ha.pe, so_un (fun x d c Z H Q s hx hg p => by
    unfold dInv at hg
    split at hg
    · cases hx; cases hg; exact ⟨_, rfl, p _ Z H (ExtP.refl s) (.int _)⟩
    · cases hg) ha.so⟩
/-! ### enumerate, reversed(range(..)) -/
def enumD : List D → Nat → List DV
  | [], _ => []
  | d :: r, i => .p (.tup [.int (i : Nat), d]) :: enumD r (i + 1)
theorem enumD_get : ∀ {ds : List D} {j i : Nat} {x : DV}, (enumD ds j)[i]? = some x → ∃ d, ds[i]? = some d ∧ x = .p (.tup [.int ((j + i : Nat)), d])
  | [], _, _, _, h => by simp [enumD] at h
  | d :: r, j, 0, x, h => by simp [enumD] at h; exact ⟨d, rfl, h.symm⟩
  | d :: r, j, i + 1, x, h => by
    obtain ⟨d', h1, h2⟩ := enumD_get (ds := r) (j := j + 1) (i := i) (by simpa [enumD] using h)
    exact ⟨d', by simpa using h1, by rw [h2, Nat.add_assoc, Nat.add_comm 1 i]⟩
theorem enumD_len : ∀ (ds : List D) (j : Nat), (enumD ds j).length = ds.length
  | [], _ => rfl
  | d :: r, j => by show (enumD r (j + 1)).length + 1 = r.length + 1; rw [enumD_len r]
def enumG : List DV → Option (List DV)
  | [.p (.lst xs)] => some (enumD xs 0)
  | _ => none
def mEnum (ms : AM) : IM := bnd ms fun ds s => match enumG ds with
  | some xs => some (.ok xs s.m)
  | none => none
theorem di_enum {p tpos : Pos} {elts : List Expr} {kk : Nat} {ta : TA} {ms : AM} (hm : X.mg "enumerate" = none) (h : DA K X W [e] ta ms) (hg : Gl X "enumerate" := by rfl) (hs : starEach [e] X.env = [(false, eval e X.env)] := by rfl) :
    DI K X W (.Tuple elts kk tpos) (.Call (.Name "enumerate" p) [e] [] pos) (iEnum K ta) (mEnum ms) := by
  refine ⟨h.k, ?_, ⟨fun σ H s Z I r0 Q w rs e1 p1 => ?_⟩⟩
  · rw [← h.k]; exact pi_enum hg hm h.pa hs
  · refine h.so.bnd w rs e1 p1.x fun ds vs M1 Z1 H1 I1 w1 rs1 x1 q1 e2 => ?_
    have e2 : (match enumG ds with | some xs => some (Rs.ok xs M1) | none => none) = some r0 := e2
    cases z : enumG ds with
    | none => rw [z] at e2; cases e2
    | some out =>
    rw [z] at e2; cases e2
    unfold enumG at z
    split at z
    · rename_i xs
      cases z
      cases q1 with
      | cons g1 g2 =>
      cases g2
      have g1 : Rep K Z1 _ (.lst xs) := g1
      cases g1 with
      | lst h1 h2 =>
        rename_i a us
        refine ⟨a, us, rfl, .inl (same_rd w1.sub h1), p1 _ Z1 H1 I1 w1 x1 fun Z' H' I' z _ s' i => ⟨fun d hd => ?_, fun hl => ⟨us, .inl (same_rd s' (same_rd z h1)), by rw [h2.length]; rw [enumD_len] at hl; exact hl⟩⟩⟩
        obtain ⟨y, hy, rfl⟩ := enumD_get hd
        obtain ⟨v, hv, rv⟩ := h2.get hy
        have hq : SqL K H' a us := .inl (same_rd s' (same_rd z h1))
        refine ⟨⟨us, v, hq, hv⟩, fun x H2 hx => ?_⟩
        obtain ⟨T, u, rfl, hT, rfl, hu⟩ := hx
        have := hu us hq
        rw [hv] at this
        cases this
        have xp := ExtP.new (o := .tup [.int (i : Nat), v]) s' hT
        refine ⟨_, xp, .tup upd_same (.cons ?_ (.cons ((rv.mono z).mono xp.z) .nil))⟩
        rw [Nat.zero_add]; exact .int _
    · cases z
def downFrom (n : Nat) : List DV := (List.range n).map fun (i : Nat) => .p (.int ((n : Int) - 1 - (i : Int)))
def revG : D → Option (List DV)
  | .int n => if rngOk n = true then some (downFrom n.toNat) else none
  | _ => none
def mRev1 (m : EM) : IM := mItD revG m
theorem di_rev1 {p p2 rpos : Pos} (hm : X.mg "reversed" = none) (hm2 : X.mg "range" = none) {te : TE} {m : EM} (h : DE K X W a te m) (hg : Gl X "reversed" := by rfl) (hg2 : Gl X "range" := by rfl) (hs : starEach [.Call (.Name "range" p2) [a] [] rpos] X.env = (false, eval (.Call (.Name "range" p2) [a] [] rpos) X.env) :: starEach [] X.env := by rfl) (hs2 : starEach [a] X.env = (false, eval a X.env) :: starEach [] X.env := by rfl) :
    DI K X W tg (.Call (.Name "reversed" p) [.Call (.Name "range" p2) [a] [] rpos] [] pos) (iRevR (tRg1 te)) (mRev1 m) := by
  refine ⟨h.k, pi_revR hg hm (prg_1 hg2 hm2 h.pe hs2) hs, ⟨fun σ H s Z I r0 Q w rs e1 p1 => ?_⟩⟩
  refine h.so.bnd w rs e1 p1.x fun d v M1 Z1 H1 I1 w1 rs1 x1 q1 e2 => ?_
  obtain ⟨d, rfl, e2⟩ := pur_ok e2
  have e2 : (match revG d with | some ds => some (Rs.ok ds M1) | none => none) = some r0 := e2
  cases z : revG d with
  | none => rw [z] at e2; cases e2
  | some out =>
  rw [z] at e2; cases e2
  unfold revG at z
  clear e1 e2
  split at z
  · split at z
    · rename_i n hb
      cases z
      have q1 : Rep K Z1 v (.int n) := q1
      cases q1
      obtain ⟨b1, b2⟩ := rng_bound hb
      refine ⟨n, rfl, by decide, by decide, b1, b2, p1 _ Z1 H1 I1 w1 x1 fun Z' H' I' z _ s' i => ⟨fun d hd => ?_, fun hl => ?_⟩⟩
      · unfold downFrom at hd
        rw [List.getElem?_map] at hd
        cases q : (List.range n.toNat)[i]? with
        | none => rw [q] at hd; cases hd
        | some j =>
          rw [q] at hd
          have hi : i < n.toNat := by simpa using (List.getElem?_eq_some_iff.mp q).1
          have ej : j = i := by
            rw [List.getElem?_range hi] at q
            exact (Option.some.inj q).symm
          subst ej
          cases hd
          refine ⟨by show j < (n - 0).toNat; rw [Int.sub_zero]; exact hi, fun x H2 hx => ?_⟩
          obtain ⟨rfl, rfl⟩ := hx
          refine ⟨Z', ExtP.refl s', ?_⟩
          have e : (0 : Int) + (((n - 0).toNat : Nat) : Int) - 1 + (j : Nat) * (-1) = ((n.toNat : Nat) : Int) - 1 - (j : Int) := by rw [Int.sub_zero]; omega
          show Rep K Z' (.int _) (.int _)
          rw [e]; exact .int _
      · show (n - 0).toNat ≤ i
        rw [Int.sub_zero]
        simpa [downFrom] using hl
    · cases z
  · cases z
end
end DL
namespace DL
open PySem L2
/-- a list of the module -/
theorem rep_klst {K : PySem.W.Frag} {a : Addr} {its : Array Value} {z : Nat} {w : Array (Option Value)} {Z : Hp} {xs : List V} {ds : List D} (l : K.lookup a = some ⟨.type "list", none, .seq its z, w⟩) (hz : its.size ≤ sizeLine) (v : Vals xs its.toList) (r : RepA K Z xs ds) : Rep K Z (.ref a) (.klst ds) :=
  .klst (.inr ⟨_, its, z, l, rfl, rfl, rfl, hz, v⟩) r
/-- the name of the lambdas of a def -/
def lamq (x : Str) : Str := x ++ ".<locals>." ++ "<lambda>"
/-- the table of a code object of the written part -/
def codeTab (K : PySem.W.Frag) (c : Addr) : Addr := match K.lookup c with
  | some ⟨_, _, .fields vs, _⟩ => match (vs[11]? : Option Value) with
    | some (.ref P) => P
    | _ => 0
  | _ => 0
theorem tb_of {base : Heap} {mg : Str → Option Value} {cs : List (Addr × Addr)} {i : Nat} {c P : Addr} (hB : ∀ p ∈ cs, LamX.TabB base mg p.1 p.2) (h : cs[i]? = some (c, P)) : LamX.TabB base mg c ((cs.map (·.2)).getD i 0) := by
  have e : (cs.map (·.2)).getD i 0 = P := by
    rw [List.getD_eq_getElem?_getD, List.getElem?_map, h]; rfl
  rw [e]
  exact hB _ (List.mem_of_getElem? h)
end DL
namespace Law
open PySem L2 DL
def topS (i : Nat) : Stmt := PySem.Challenge.pw_labelgrid_k30_rights_on_ranges.main.body.getD i (.Pass ⟨0, 0, 0, 0⟩)
def k_RIGHTS : D := (.klst [(.str (PySem.Str.ofString "read")), (.str (PySem.Str.ofString "write")), (.str (PySem.Str.ofString "own"))])
def k_COLUMNS : D := (.int 26)
def lamNms : List Str := [lamq (PySem.Str.ofString "parts_by_rule")]
noncomputable def b_l_take : SM := (sSeq (sIf (mBin dLt (mVar 1) (mC (.int 1))) (sRet (mC (.int 0))) sNil)
  (sSeq (sAsg (mIx (mVar 0) (mC (.int 1))) (gN 2))
  (sSeq (sAsg (mBin dMod (mIx (mVar 0) (mC (.int 0))) (mCB dLen (aCons (mVar 2) aNil))) (gN 3))
  (sSeq (sAsg (mIx (mVar 2) (mVar 3)) (gN 4))
  (sSeq (sIf (mBin dGe (mVar 4) (mC (.int 1000000000000000000))) (sSeq (sAsg (mBin dDiv (mVar 4) (mVar 1)) (gSet (mVar 2) (mVar 3)))
  (sRet (mBin dMod (mVar 4) (mVar 1)))) sNil)
  (sSeq (sAsg (mBin dAdd (mIx (mVar 0) (mC (.int 0))) (mC (.int 1))) (gSet (mVar 0) (mC (.int 0))))
  (sSeq (sAsg (mBin dMod (mCB (g1 dInt) (aCons (mBin dAdd (mBin dMul (mVar 4) (mC (.int 48271))) (mBin dMul (mIx (mVar 0) (mC (.int 0))) (mC (.int 69621)))) aNil)) (mC (.int 2147483647))) (gN 5))
  (sSeq (sAsg (mBin dMod (mCB (g1 dInt) (aCons (mBin dAdd (mBin dMul (mVar 5) (mC (.int 16807))) (mBin dMul (mIx (mVar 0) (mC (.int 0))) (mC (.int 7919)))) aNil)) (mC (.int 1000000007))) (gN 5))
  (sRet (mBin dMod (mBin dDiv (mVar 5) (mC (.int 7))) (mVar 1)))))))))))
noncomputable def m_l_take : List DV → List O → Option (Rs DV) := runB 6 b_l_take
noncomputable def b_l_address : SM := (sRet (disp .tup (aCons (mIx (disp .lst (aCons (mC (.int 0)) (aCons (mC (.int 1)) (aCons (mC (.int 2)) (aCons (mC (.int 3)) (aCons (mC (.int 25)) aNil)))))) (mIx (disp .lst (aCons (mC (.int 0)) (aCons (mC (.int 0)) (aCons (mC (.int 1)) (aCons (mC (.int 1)) (aCons (mC (.int 2)) (aCons (mC (.int 2)) (aCons (mC (.int 3)) (aCons (mC (.int 4)) aNil))))))))) (mCallB 2 m_l_take (aCons (mVar 0) (aCons (mC (.int 8)) aNil))))) (aCons (mIx (disp .lst (aCons (mC (.int 0)) (aCons (mC (.int 1)) (aCons (mC (.int 2)) (aCons (mC (.int 3)) (aCons (mC (.int 98)) aNil)))))) (mIx (disp .lst (aCons (mC (.int 0)) (aCons (mC (.int 0)) (aCons (mC (.int 1)) (aCons (mC (.int 1)) (aCons (mC (.int 2)) (aCons (mC (.int 2)) (aCons (mC (.int 3)) (aCons (mC (.int 4)) aNil))))))))) (mCallB 2 m_l_take (aCons (mVar 0) (aCons (mC (.int 8)) aNil))))) aNil))))
noncomputable def m_l_address : List DV → List O → Option (Rs DV) := runB 1 b_l_address
noncomputable def b_l_near : SM := (sRet (disp .tup (aCons (mCallB 2 m_l_take (aCons (mVar 0) (aCons (mC (.int 3)) aNil))) (aCons (mCallB 2 m_l_take (aCons (mVar 0) (aCons (mC (.int 4)) aNil))) aNil))))
noncomputable def m_l_near : List DV → List O → Option (Rs DV) := runB 1 b_l_near
noncomputable def b_l_area : SM := (sSeq (sPar 1 2 (aCons (mCallB 1 m_l_near (aCons (mVar 0) aNil)) (aCons (mCallB 1 m_l_near (aCons (mVar 0) aNil)) aNil)))
  (sRet (disp .tup (aCons (disp .tup (aCons (mCB dMin2 (aCons (mIx (mVar 1) (mC (.int 0))) (aCons (mIx (mVar 2) (mC (.int 0))) aNil))) (aCons (mCB dMin2 (aCons (mIx (mVar 1) (mC (.int 1))) (aCons (mIx (mVar 2) (mC (.int 1))) aNil))) aNil))) (aCons (disp .tup (aCons (mCB dMax2 (aCons (mIx (mVar 1) (mC (.int 0))) (aCons (mIx (mVar 2) (mC (.int 0))) aNil))) (aCons (mCB dMax2 (aCons (mIx (mVar 1) (mC (.int 1))) (aCons (mIx (mVar 2) (mC (.int 1))) aNil))) aNil))) aNil)))))
noncomputable def m_l_area : List DV → List O → Option (Rs DV) := runB 3 b_l_area
noncomputable def b_l_cells : SM := (sSeq (sAsg (disp .lst aNil) (gN 1))
  (sSeq (sFor (mRng rng2D (aCons (mIx (mIx (mVar 0) (mC (.int 0))) (mC (.int 1))) (aCons (mBin dAdd2 (mIx (mIx (mVar 0) (mC (.int 1))) (mC (.int 1))) (mC (.int 1))) aNil))) (gN 2) (sAsg (mBin dAdd2 (mVar 1) (mLc (mRng rng2D (aCons (mIx (mIx (mVar 0) (mC (.int 0))) (mC (.int 0))) (aCons (mBin dAdd2 (mIx (mIx (mVar 0) (mC (.int 1))) (mC (.int 0))) (mC (.int 1))) aNil))) [3] (gN 3) tYesM (disp .tup (aCons (mVar 3) (aCons (mVar 2) aNil))))) (gN 1)))
  (sRet (mVar 1))))
noncomputable def m_l_cells : MA := runA 4 b_l_cells
noncomputable def b_l_has : SM := (sSeq (sAsg (mVar 0) (gT 2 (gsCons (gN 2) (gsCons (gN 3) gsNil))))
  (sRet (mAnd (mBin dLe (mIx (mVar 2) (mC (.int 0))) (mIx (mVar 1) (mC (.int 0)))) (mAnd (mBin dLe (mIx (mVar 1) (mC (.int 0))) (mIx (mVar 3) (mC (.int 0)))) (mAnd (mBin dLe (mIx (mVar 2) (mC (.int 1))) (mIx (mVar 1) (mC (.int 1)))) (mBin dLe (mIx (mVar 1) (mC (.int 1))) (mIx (mVar 3) (mC (.int 1)))))))))
noncomputable def m_l_has : MA := runA 4 b_l_has
noncomputable def b_l_last : SM := (sRet (mIx (mLc (mRng rng1D (aCons (mCB dLen (aCons (mVar 0) aNil)) aNil)) [2] (gN 2) (mTru (mCallA 2 m_l_has (aCons (mIx (mIx (mVar 0) (mVar 2)) (mC (.int 0))) (aCons (mVar 1) aNil)))) (mVar 2)) (mUn dNeg (mC (.int 1)))))
noncomputable def m_l_last : MA := runA 3 b_l_last
noncomputable def b_l_rule : SM := (sSeq (sAsg (mIx (mVar 0) (mC (.int 0))) (gN 2))
  (sSeq (sFor (mItD itL (mVar 0)) (gN 3) (sIf (mTru (mCallA 2 m_l_has (aCons (mIx (mVar 3) (mC (.int 0))) (aCons (mVar 1) aNil)))) (sAsg (mVar 3) (gN 2)) sNil))
  (sRet (mVar 2))))
noncomputable def m_l_rule : MA := runA 4 b_l_rule
noncomputable def b_l_on_all : SM := (sRet (mBin dEq (mCB dLen (aCons (mLc (mItD itL (mCallA 1 m_l_cells (aCons (mVar 3) aNil))) [4] (gN 4) (mBin dNin (mVar 1) (mIx (mCallA 2 m_l_rule (aCons (mVar 0) (aCons (mVar 4) aNil))) (mVar 2))) (mVar 4)) aNil)) (mC (.int 0))))
noncomputable def m_l_on_all : MA := runA 5 b_l_on_all
noncomputable def b_l_order : SM := (sSeq (sAsg (mCB (g1 dSort) (aCons (mLc (mItD itL (mVar 0)) [2] (gN 2) tYesM (disp .tup (aCons (mIx (mVar 2) (mC (.int 1))) (aCons (mIx (mVar 2) (mC (.int 0))) aNil)))) aNil)) (gN 1))
  (sRet (mLc (mItD itL (mVar 1)) [3, 4] (gT 2 (gsCons (gN 3) (gsCons (gN 4) gsNil))) tYesM (disp .tup (aCons (mVar 4) (aCons (mVar 3) aNil))))))
noncomputable def m_l_order : MA := runA 5 b_l_order
noncomputable def b_l_parts : SM := (sSeq (sAsg (disp .lst aNil) (gN 3))
  (sSeq (sFor (mItD itL (mVar 2)) (gT 2 (gsCons (gN 4) (gsCons (gN 5) gsNil))) (sSeq (sFor (mItD itL (mCallA 1 m_l_cells (aCons (mVar 4) aNil))) (gN 6) (sIf (mOr (mBin dNe (mIx (mVar 0) (mVar 5)) (mCallA 2 m_l_rule (aCons (mVar 0) (aCons (mVar 6) aNil)))) (mBin dNe (mVar 5) (mCallA 2 m_l_last (aCons (mVar 0) (aCons (mVar 6) aNil))))) (sRet (mC (.bl false))) sNil))
  (sAsg (mBin dAdd2 (mVar 3) (mCallA 1 m_l_cells (aCons (mVar 4) aNil))) (gN 3))))
  (sSeq (sAsg (mLc (mItD itL (mVar 2)) [4, 5] (gT 2 (gsCons (gN 4) (gsCons (gN 5) gsNil))) tYesM (mIx (mVar 4) (mC (.int 0)))) (gN 7))
  (sRet (mAnd (mBin dEq (mCB (g1 dSort) (aCons (mVar 3) aNil)) (mCB (g1 dSort) (aCons (mCallA 1 m_l_cells (aCons (mVar 1) aNil)) aNil))) (mBin dEq (mVar 7) (mCallA 1 m_l_order (aCons (mVar 7) aNil))))))))
noncomputable def m_l_parts : MA := runA 8 b_l_parts
noncomputable def b_l_users : SM := (sRet (mLc (mRng rng1D (aCons (mVar 1) aNil)) [2] (gN 2) (mBin dEq (mCallB 2 m_l_take (aCons (mVar 0) (aCons (mC (.int 2)) aNil))) (mC (.int 0))) (mVar 2)))
noncomputable def m_l_users : List DV → List O → Option (Rs DV) := runB 3 b_l_users
noncomputable def b_l_rules : SM := (sSeq (sAsg (disp .tup (aCons (disp .tup (aCons (mC (.int 0)) (aCons (mC (.int 0)) aNil))) (aCons (disp .tup (aCons (mC (.int 25)) (aCons (mC (.int 98)) aNil))) aNil))) (gN 3))
  (sSeq (sAsg (dispO (aCons (disp .tup (aCons (mVar 3) (aCons (mLc (mRng rng1D (aCons (mVar 1) aNil)) [7] (gN 7) (mBin dGt (mCallB 2 m_l_take (aCons (mVar 0) (aCons (mC (.int 4)) aNil))) (mC (.int 0))) (mVar 7)) (aCons (mCallB 2 m_l_users (aCons (mVar 0) (aCons (mVar 1) aNil))) (aCons (mCallB 2 m_l_users (aCons (mVar 0) (aCons (mVar 1) aNil))) aNil))))) aNil)) (gN 4))
  (sSeq (sFor (mRng rng1D (aCons (mCallB 2 m_l_take (aCons (mVar 0) (aCons (mBin dAdd (mVar 2) (mC (.int 1))) aNil))) aNil)) (gN 5) (sSeq (sAsg (mCallB 1 m_l_area (aCons (mVar 0) aNil)) (gN 6))
  (sSeq (sIf (mBin dEq (mCallB 2 m_l_take (aCons (mVar 0) (aCons (mC (.int 6)) aNil))) (mC (.int 0))) (sAsg (disp .tup (aCons (disp .tup (aCons (mC (.int 0)) (aCons (mC (.int 1)) aNil))) (aCons (disp .tup (aCons (mC (.int 25)) (aCons (mBin dAdd (mC (.int 2)) (mCallB 2 m_l_take (aCons (mVar 0) (aCons (mC (.int 97)) aNil)))) aNil))) aNil))) (gN 6)) sNil)
  (sExpr (mMth "list" gApp (mVar 4) (aCons (disp .tup (aCons (mVar 6) (aCons (mCallB 2 m_l_users (aCons (mVar 0) (aCons (mVar 1) aNil))) (aCons (mCallB 2 m_l_users (aCons (mVar 0) (aCons (mVar 1) aNil))) (aCons (mCallB 2 m_l_users (aCons (mVar 0) (aCons (mVar 1) aNil))) aNil))))) aNil))))))
  (sRet (mFrz (mVar 4))))))
noncomputable def m_l_rules : List DV → List O → Option (Rs DV) := runB 8 b_l_rules
noncomputable def b_l_state : SM := (sSeq (sAsg (mLcO (mItD itL (mSlE (mVar 0) pNone (pSome (mC (.int 63))))) [2] (gN 2) tYesM (mCB (g1 dAbs) (aCons (mVar 2) aNil))) (gN 1))
  (sSeq (sIf (mBin dEq (mCB dLen (aCons (mVar 1) aNil)) (mC (.int 0))) (sAsg (dispO (aCons (mC (.int 0)) aNil)) (gN 1)) sNil)
  (sRet (dispO (aCons (mC (.int 0)) (aCons (mVar 1) aNil))))))
noncomputable def m_l_state : List DV → List O → Option (Rs DV) := runB 3 b_l_state
noncomputable def b_users_with : SM := (sRet (mIx (mVar 0) (mBin dAdd (mMth "list" (gP dLindex) (mC k_RIGHTS) (aCons (mVar 1) aNil)) (mC (.int 1)))))
noncomputable def m_users_with : MA := runA 2 b_users_with
noncomputable def b_inside : SM := (sSeq (sAsg (mVar 1) (gT 2 (gsCons (gN 2) (gsCons (gN 3) gsNil))))
  (sRet (mAnd (mChain dLe dLe (mIx (mVar 2) (mC (.int 0))) (mIx (mVar 0) (mC (.int 0))) (mIx (mVar 3) (mC (.int 0)))) (mChain dLe dLe (mIx (mVar 2) (mC (.int 1))) (mIx (mVar 0) (mC (.int 1))) (mIx (mVar 3) (mC (.int 1)))))))
noncomputable def m_inside : MA := runA 4 b_inside
noncomputable def b_rule_at : SM := (sRet (mCB (g1 dMaxL) (aCons (mLc (mEnum (aCons (mVar 0) aNil)) [2, 3] (gT 2 (gsCons (gN 2) (gsCons (gN 3) gsNil))) (mTru (mCallA 2 m_inside (aCons (mVar 1) (aCons (mIx (mVar 3) (mC (.int 0))) aNil)))) (mVar 2)) aNil)))
noncomputable def m_rule_at : MA := runA 4 b_rule_at
noncomputable def b_allowed : SM := (sRet (mCB (g1 dList) (aCons (mCallA 2 m_users_with (aCons (mIx (mVar 0) (mCallA 2 m_rule_at (aCons (mVar 0) (aCons (mVar 2) aNil)))) (aCons (mVar 1) aNil))) aNil)))
noncomputable def m_allowed : MA := runA 3 b_allowed
noncomputable def b_index_of : SM := (sRet (mBin dAdd (mBin dMul (mIx (mVar 0) (mC (.int 1))) (mC k_COLUMNS)) (mIx (mVar 0) (mC (.int 0)))))
noncomputable def m_index_of : MA := runA 1 b_index_of
noncomputable def b_mask_of : SM := (sSeq (sAsg (mVar 0) (gT 2 (gsCons (gT 2 (gsCons (gN 1) (gsCons (gN 2) gsNil))) (gsCons (gT 2 (gsCons (gN 3) (gsCons (gN 4) gsNil))) gsNil))))
  (sSeq (sAsg (mBin dSub (mBin dShl (mC (.int 1)) (mBin dAdd (mBin dSub (mVar 3) (mVar 1)) (mC (.int 1)))) (mC (.int 1))) (gN 5))
  (sSeq (sAsg (mBin dDiv (mBin dSub (mBin dShl (mC (.int 1)) (mBin dMul (mC k_COLUMNS) (mBin dAdd (mBin dSub (mVar 4) (mVar 2)) (mC (.int 1))))) (mC (.int 1))) (mBin dSub (mBin dShl (mC (.int 1)) (mC k_COLUMNS)) (mC (.int 1)))) (gN 6))
  (sRet (mBin dShl (mBin dMul (mVar 6) (mVar 5)) (mCallA 1 m_index_of (aCons (disp .tup (aCons (mVar 1) (aCons (mVar 2) aNil))) aNil)))))))
noncomputable def m_mask_of : MA := runA 7 b_mask_of
noncomputable def b_refused_set : SM := (sSeq (sAsg (mC (.int 0)) (gN 3))
  (sSeq (sFor (mItD itL (mVar 0)) (gN 4) (sSeq (sAsg (mCallA 1 m_mask_of (aCons (mIx (mVar 4) (mC (.int 0))) aNil)) (gN 5))
  (sIf (mBin dIn (mVar 1) (mCallA 2 m_users_with (aCons (mVar 4) (aCons (mVar 2) aNil)))) (sAsg (mBin dBand (mVar 3) (mUn dInv (mVar 5))) (gN 3)) (sAsg (mBin dBor (mVar 3) (mVar 5)) (gN 3)))))
  (sRet (mVar 3))))
noncomputable def m_refused_set : MA := runA 6 b_refused_set
noncomputable def b_may_all : SM := (sRet (mBin dEq (mBin dBand (mCallA 3 m_refused_set (aCons (mVar 0) (aCons (mVar 1) (aCons (mVar 2) aNil)))) (mCallA 1 m_mask_of (aCons (mVar 3) aNil))) (mC (.int 0))))
noncomputable def m_may_all : MA := runA 4 b_may_all
noncomputable def b_allowed_all : SM := (sRet (mLc (mRng rng1D (aCons (mVar 3) aNil)) [4] (gN 4) (mTru (mCallA 4 m_may_all (aCons (mVar 0) (aCons (mVar 4) (aCons (mVar 1) (aCons (mVar 2) aNil)))))) (mVar 4)))
noncomputable def m_allowed_all : MA := runA 5 b_allowed_all
noncomputable def b_may : SM := (sRet (mBin dIn (mVar 1) (mCallA 3 m_allowed (aCons (mVar 0) (aCons (mVar 2) (aCons (mVar 3) aNil))))))
noncomputable def m_may : MA := runA 4 b_may
noncomputable def b_range_between : SM := (sSeq (sIf (mAnd (mBin dLe (mIx (mVar 0) (mC (.int 0))) (mIx (mVar 1) (mC (.int 0)))) (mBin dLe (mIx (mVar 0) (mC (.int 1))) (mIx (mVar 1) (mC (.int 1))))) (sRet (disp .tup (aCons (mVar 0) (aCons (mVar 1) aNil)))) sNil)
  (sRet (mC .non)))
noncomputable def m_range_between : MA := runA 2 b_range_between
noncomputable def b_common : SM := (sSeq (sAsg (disp .tup (aCons (mCB dMax2 (aCons (mIx (mIx (mVar 0) (mC (.int 0))) (mC (.int 0))) (aCons (mIx (mIx (mVar 1) (mC (.int 0))) (mC (.int 0))) aNil))) (aCons (mCB dMax2 (aCons (mIx (mIx (mVar 0) (mC (.int 0))) (mC (.int 1))) (aCons (mIx (mIx (mVar 1) (mC (.int 0))) (mC (.int 1))) aNil))) aNil))) (gN 2))
  (sSeq (sAsg (disp .tup (aCons (mCB dMin2 (aCons (mIx (mIx (mVar 0) (mC (.int 1))) (mC (.int 0))) (aCons (mIx (mIx (mVar 1) (mC (.int 1))) (mC (.int 0))) aNil))) (aCons (mCB dMin2 (aCons (mIx (mIx (mVar 0) (mC (.int 1))) (mC (.int 1))) (aCons (mIx (mIx (mVar 1) (mC (.int 1))) (mC (.int 1))) aNil))) aNil))) (gN 3))
  (sRet (mCallA 2 m_range_between (aCons (mVar 2) (aCons (mVar 3) aNil))))))
noncomputable def m_common : MA := runA 4 b_common
noncomputable def b_place_key : SM := (sRet (disp .tup (aCons (mIx (mVar 0) (mC (.int 1))) (aCons (mIx (mVar 0) (mC (.int 0))) aNil))))
noncomputable def m_place_key : MA := runA 1 b_place_key
noncomputable def b_without : SM := (sSeq (sAsg (mCallA 2 m_common (aCons (mVar 0) (aCons (mVar 1) aNil))) (gN 2))
  (sSeq (sIf (mIsN (mVar 2)) (sRet (disp .lst (aCons (mVar 0) aNil))) sNil)
  (sSeq (sAsg (mVar 0) (gT 2 (gsCons (gT 2 (gsCons (gN 3) (gsCons (gN 4) gsNil))) (gsCons (gT 2 (gsCons (gN 5) (gsCons (gN 6) gsNil))) gsNil))))
  (sSeq (sAsg (mVar 2) (gT 2 (gsCons (gT 2 (gsCons (gN 7) (gsCons (gN 8) gsNil))) (gsCons (gT 2 (gsCons (gN 9) (gsCons (gN 10) gsNil))) gsNil))))
  (sSeq (sAsg (disp .lst (aCons (disp .tup (aCons (disp .tup (aCons (mVar 3) (aCons (mVar 4) aNil))) (aCons (disp .tup (aCons (mVar 5) (aCons (mBin dSub (mVar 8) (mC (.int 1))) aNil))) aNil))) (aCons (disp .tup (aCons (disp .tup (aCons (mVar 3) (aCons (mBin dAdd (mVar 10) (mC (.int 1))) aNil))) (aCons (disp .tup (aCons (mVar 5) (aCons (mVar 6) aNil))) aNil))) (aCons (disp .tup (aCons (disp .tup (aCons (mVar 3) (aCons (mVar 8) aNil))) (aCons (disp .tup (aCons (mBin dSub (mVar 7) (mC (.int 1))) (aCons (mVar 10) aNil))) aNil))) (aCons (disp .tup (aCons (disp .tup (aCons (mBin dAdd (mVar 9) (mC (.int 1))) (aCons (mVar 8) aNil))) (aCons (disp .tup (aCons (mVar 5) (aCons (mVar 10) aNil))) aNil))) aNil))))) (gN 11))
  (sRet (mLc (mItD itL (mVar 11)) [12] (gN 12) (mNotN (mCallA 2 m_range_between (aCons (mIx (mVar 12) (mC (.int 0))) (aCons (mIx (mVar 12) (mC (.int 1))) aNil)))) (mVar 12))))))))
noncomputable def m_without : MA := runA 13 b_without
noncomputable def b_parts_by_rule_3 (Ps : List Addr) : SM := (sRet (mSortL 0 (Ps.getD 0 0) (lamq (PySem.Str.ofString "parts_by_rule")) (lamK 1 (mCallA 1 m_place_key (aCons (mIx (mIx (mVar 0) (mC (.int 0))) (mC (.int 0))) aNil))) (mFrz (mVar 2))))
noncomputable def b_parts_by_rule_2 (Ps : List Addr) : SM := (sSeq (sFor (mRev1 (mCB dLen (aCons (mVar 0) aNil))) (gN 4) (sSeq (sAsg (mIx (mIx (mVar 0) (mVar 4)) (mC (.int 0))) (gN 5))
  (sSeq (sFor (mItD itL (mVar 3)) (gN 6) (sSeq (sAsg (mCallA 2 m_common (aCons (mVar 6) (aCons (mVar 5) aNil))) (gN 7))
  (sIf (mNotN (mVar 7)) (sExpr (mMth "list" gApp (mVar 2) (aCons (disp .tup (aCons (mVar 7) (aCons (mVar 4) aNil))) aNil))) sNil)))
  (sAsg (mLc2 (mItD itL (mVar 3)) [6, 8] (gN 6) tYesM (mItD itL (mCallA 2 m_without (aCons (mVar 6) (aCons (mVar 5) aNil)))) [8] (gN 8) tYesM (mVar 8)) (gN 3))))) (b_parts_by_rule_3 Ps))
noncomputable def b_parts_by_rule_1 (Ps : List Addr) : SM := (sSeq (sAsg (disp .lst (aCons (mVar 1) aNil)) (gN 3)) (b_parts_by_rule_2 Ps))
noncomputable def b_parts_by_rule (Ps : List Addr) : SM := (sSeq (sAsg (dispO aNil) (gN 2)) (b_parts_by_rule_1 Ps))
noncomputable def m_parts_by_rule (Ps : List Addr) : List DV → List O → Option (Rs DV) := runB 9 (b_parts_by_rule Ps)
noncomputable def b_refused_parts (Ps : List Addr) : SM := (sRet (mLc (mItD itL (mCallB 2 (m_parts_by_rule Ps) (aCons (mVar 0) (aCons (mVar 3) aNil)))) [4, 5] (gT 2 (gsCons (gN 4) (gsCons (gN 5) gsNil))) (mBin dNin (mVar 1) (mCallA 2 m_users_with (aCons (mIx (mVar 0) (mVar 5)) (aCons (mVar 2) aNil)))) (mVar 4)))
noncomputable def m_refused_parts (Ps : List Addr) : List DV → List O → Option (Rs DV) := runB 6 (b_refused_parts Ps)
noncomputable def b_law_5 (Ps : List Addr) : SM := (sRet (mAnd (mBin dEq (mCB (g1 dRepr) (aCons (mVar 3) aNil)) (mVar 4)) (mBin dEq (mC k_RIGHTS) (disp .lst (aCons (mC (.str (PySem.Str.ofString "read"))) (aCons (mC (.str (PySem.Str.ofString "write"))) (aCons (mC (.str (PySem.Str.ofString "own"))) aNil)))))))
noncomputable def b_law_4 (Ps : List Addr) : SM := (sSeq (sFor (mRng rng1D (aCons (mC (.int 4)) aNil)) (gN 5) (sSeq (sAsg (mCallB 2 m_l_take (aCons (mVar 1) (aCons (mC (.int 3)) aNil))) (gN 6))
  (sSeq (sAsg (mIx (disp .lst (aCons (mC (.str (PySem.Str.ofString "read"))) (aCons (mC (.str (PySem.Str.ofString "write"))) (aCons (mC (.str (PySem.Str.ofString "own"))) aNil)))) (mVar 6)) (gN 7))
  (sSeq (sAsg (mCallB 1 m_l_address (aCons (mVar 1) aNil)) (gN 8))
  (sSeq (sAsg (mCallA 2 m_l_rule (aCons (mVar 3) (aCons (mVar 8) aNil))) (gN 9))
  (sSeq (sAsg (mCallB 2 m_l_take (aCons (mVar 1) (aCons (mVar 2) aNil))) (gN 10))
  (sSeq (sIf (mOr (mBin dNe (mCallA 2 m_rule_at (aCons (mVar 3) (aCons (mVar 8) aNil))) (mCallA 2 m_l_last (aCons (mVar 3) (aCons (mVar 8) aNil)))) (mBin dNe (mCallA 3 m_allowed (aCons (mVar 3) (aCons (mVar 7) (aCons (mVar 8) aNil)))) (mIx (mVar 9) (mBin dAdd2 (mC (.int 1)) (mVar 6))))) (sRet (mC (.bl false))) sNil)
  (sSeq (sIf (mBin dNe (mCB (g1 dRepr) (aCons (mCallA 4 m_may (aCons (mVar 3) (aCons (mVar 10) (aCons (mVar 7) (aCons (mVar 8) aNil))))) aNil)) (mCB (g1 dRepr) (aCons (mBin dIn (mVar 10) (mIx (mVar 9) (mBin dAdd2 (mC (.int 1)) (mVar 6)))) aNil))) (sRet (mC (.bl false))) sNil)
  (sSeq (sAsg (mCallB 1 m_l_area (aCons (mVar 1) aNil)) (gN 11))
  (sSeq (sIf (mNot (mTru (mCallA 3 m_l_parts (aCons (mVar 3) (aCons (mVar 11) (aCons (mCallB 2 (m_parts_by_rule Ps) (aCons (mVar 3) (aCons (mVar 11) aNil))) aNil)))))) (sRet (mC (.bl false))) sNil)
  (sSeq (sAsg (mLc (mRng rng1D (aCons (mVar 2) aNil)) [15] (gN 15) (mTru (mCallA 4 m_l_on_all (aCons (mVar 3) (aCons (mVar 15) (aCons (mBin dAdd2 (mC (.int 1)) (mVar 6)) (aCons (mVar 11) aNil)))))) (mVar 15)) (gN 12))
  (sSeq (sIf (mOr (mBin dNe (mCallA 4 m_allowed_all (aCons (mVar 3) (aCons (mVar 7) (aCons (mVar 11) (aCons (mVar 2) aNil))))) (mVar 12)) (mBin dNe (mCB (g1 dRepr) (aCons (mCallA 4 m_may_all (aCons (mVar 3) (aCons (mVar 10) (aCons (mVar 7) (aCons (mVar 11) aNil))))) aNil)) (mCB (g1 dRepr) (aCons (mBin dIn (mVar 10) (mVar 12)) aNil)))) (sRet (mC (.bl false))) sNil)
  (sSeq (sAsg (disp .lst aNil) (gN 13))
  (sSeq (sFor (mItD itL (mCallB 4 (m_refused_parts Ps) (aCons (mVar 3) (aCons (mVar 10) (aCons (mVar 7) (aCons (mVar 11) aNil)))))) (gN 14) (sAsg (mBin dAdd2 (mVar 13) (mCallA 1 m_l_cells (aCons (mVar 14) aNil))) (gN 13)))
  (sIf (mBin dNe (mCB (g1 dSort) (aCons (mVar 13) aNil)) (mCB (g1 dSort) (aCons (mLc (mItD itL (mCallA 1 m_l_cells (aCons (mVar 11) aNil))) [15] (gN 15) (mBin dNin (mVar 10) (mIx (mCallA 2 m_l_rule (aCons (mVar 3) (aCons (mVar 15) aNil))) (mBin dAdd2 (mC (.int 1)) (mVar 6)))) (mVar 15)) aNil))) (sRet (mC (.bl false))) sNil))))))))))))))) (b_law_5 Ps))
noncomputable def b_law_3 (Ps : List Addr) : SM := (sSeq (sAsg (mCB (g1 dRepr) (aCons (mVar 3) aNil)) (gN 4)) (b_law_4 Ps))
noncomputable def b_law_2 (Ps : List Addr) : SM := (sSeq (sAsg (mCallB 3 m_l_rules (aCons (mVar 1) (aCons (mVar 2) (aCons (mC (.int 4)) aNil)))) (gN 3)) (b_law_3 Ps))
noncomputable def b_law_1 (Ps : List Addr) : SM := (sSeq (sAsg (mBin dAdd2 (mC (.int 1)) (mCallB 2 m_l_take (aCons (mVar 1) (aCons (mC (.int 4)) aNil)))) (gN 2)) (b_law_2 Ps))
noncomputable def b_law (Ps : List Addr) : SM := (sSeq (sAsg (mCallB 1 m_l_state (aCons (mVar 0) aNil)) (gN 1)) (b_law_1 Ps))
noncomputable def m_law (Ps : List Addr) : MA := runA 16 (b_law Ps)
end Law
namespace Law
open PySem L2 DL
abbrev s_l_take : Stmt := topS 23
abbrev n_l_take : List Str := ["state", "most", "cells", "at", "cell", "mixed"]
theorem sc_l_take : FnScope n_l_take ["state", "most"] (defScope s_l_take) := ⟨rfl, rfl, rfl, by decide +kernel, rfl, by decide +kernel, by decide +kernel⟩
abbrev s_l_address : Stmt := topS 25
abbrev n_l_address : List Str := ["state"]
theorem sc_l_address : FnScope n_l_address ["state"] (defScope s_l_address) := ⟨rfl, rfl, rfl, by decide +kernel, rfl, by decide +kernel, by decide +kernel⟩
abbrev s_l_near : Stmt := topS 26
abbrev n_l_near : List Str := ["state"]
theorem sc_l_near : FnScope n_l_near ["state"] (defScope s_l_near) := ⟨rfl, rfl, rfl, by decide +kernel, rfl, by decide +kernel, by decide +kernel⟩
abbrev s_l_area : Stmt := topS 27
abbrev n_l_area : List Str := ["state", "one", "other"]
theorem sc_l_area : FnScope n_l_area ["state"] (defScope s_l_area) := ⟨rfl, rfl, rfl, by decide +kernel, rfl, by decide +kernel, by decide +kernel⟩
abbrev s_l_cells : Stmt := topS 35
abbrev n_l_cells : List Str := ["area", "found", "row", "column"]
theorem sc_l_cells : FnScope n_l_cells ["area"] (defScope s_l_cells) := ⟨rfl, rfl, rfl, by decide +kernel, rfl, by decide +kernel, by decide +kernel⟩
abbrev s_l_has : Stmt := topS 28
abbrev n_l_has : List Str := ["area", "address", "first", "last"]
theorem sc_l_has : FnScope n_l_has ["area", "address"] (defScope s_l_has) := ⟨rfl, rfl, rfl, by decide +kernel, rfl, by decide +kernel, by decide +kernel⟩
abbrev s_l_last : Stmt := topS 38
abbrev n_l_last : List Str := ["rules", "address", "index"]
theorem sc_l_last : FnScope n_l_last ["rules", "address"] (defScope s_l_last) := ⟨rfl, rfl, rfl, by decide +kernel, rfl, by decide +kernel, by decide +kernel⟩
abbrev s_l_rule : Stmt := topS 34
abbrev n_l_rule : List Str := ["rules", "address", "found", "rule"]
theorem sc_l_rule : FnScope n_l_rule ["rules", "address"] (defScope s_l_rule) := ⟨rfl, rfl, rfl, by decide +kernel, rfl, by decide +kernel, by decide +kernel⟩
abbrev s_l_on_all : Stmt := topS 36
abbrev n_l_on_all : List Str := ["rules", "user", "place", "area", "address"]
theorem sc_l_on_all : FnScope n_l_on_all ["rules", "user", "place", "area"] (defScope s_l_on_all) := ⟨rfl, rfl, rfl, by decide +kernel, rfl, by decide +kernel, by decide +kernel⟩
abbrev s_l_order : Stmt := topS 29
abbrev n_l_order : List Str := ["addresses", "pairs", "address", "row", "column"]
theorem sc_l_order : FnScope n_l_order ["addresses"] (defScope s_l_order) := ⟨rfl, rfl, rfl, by decide +kernel, rfl, by decide +kernel, by decide +kernel⟩
abbrev s_l_parts : Stmt := topS 37
abbrev n_l_parts : List Str := ["rules", "area", "parts", "cells", "part", "index", "address", "firsts"]
theorem sc_l_parts : FnScope n_l_parts ["rules", "area", "parts"] (defScope s_l_parts) := ⟨rfl, rfl, rfl, by decide +kernel, rfl, by decide +kernel, by decide +kernel⟩
abbrev s_l_users : Stmt := topS 32
abbrev n_l_users : List Str := ["state", "users", "user"]
theorem sc_l_users : FnScope n_l_users ["state", "users"] (defScope s_l_users) := ⟨rfl, rfl, rfl, by decide +kernel, rfl, by decide +kernel, by decide +kernel⟩
abbrev s_l_rules : Stmt := topS 33
abbrev n_l_rules : List Str := ["state", "users", "count", "whole", "rules", "k", "area", "user"]
theorem sc_l_rules : FnScope n_l_rules ["state", "users", "count"] (defScope s_l_rules) := ⟨rfl, rfl, rfl, by decide +kernel, rfl, by decide +kernel, by decide +kernel⟩
abbrev s_l_state : Stmt := topS 22
abbrev n_l_state : List Str := ["script", "cells", "cell"]
theorem sc_l_state : FnScope n_l_state ["script"] (defScope s_l_state) := ⟨rfl, rfl, rfl, by decide +kernel, rfl, by decide +kernel, by decide +kernel⟩
abbrev s_users_with : Stmt := topS 12
abbrev n_users_with : List Str := ["rule", "right"]
theorem sc_users_with : FnScope n_users_with ["rule", "right"] (defScope s_users_with) := ⟨rfl, rfl, rfl, by decide +kernel, rfl, by decide +kernel, by decide +kernel⟩
abbrev s_inside : Stmt := topS 3
abbrev n_inside : List Str := ["address", "area", "first", "last"]
theorem sc_inside : FnScope n_inside ["address", "area"] (defScope s_inside) := ⟨rfl, rfl, rfl, by decide +kernel, rfl, by decide +kernel, by decide +kernel⟩
abbrev s_rule_at : Stmt := topS 13
abbrev n_rule_at : List Str := ["rules", "address", "index", "rule"]
theorem sc_rule_at : FnScope n_rule_at ["rules", "address"] (defScope s_rule_at) := ⟨rfl, rfl, rfl, by decide +kernel, rfl, by decide +kernel, by decide +kernel⟩
abbrev s_allowed : Stmt := topS 14
abbrev n_allowed : List Str := ["rules", "right", "address"]
theorem sc_allowed : FnScope n_allowed ["rules", "right", "address"] (defScope s_allowed) := ⟨rfl, rfl, rfl, by decide +kernel, rfl, by decide +kernel, by decide +kernel⟩
abbrev s_index_of : Stmt := topS 8
abbrev n_index_of : List Str := ["address"]
theorem sc_index_of : FnScope n_index_of ["address"] (defScope s_index_of) := ⟨rfl, rfl, rfl, by decide +kernel, rfl, by decide +kernel, by decide +kernel⟩
abbrev s_mask_of : Stmt := topS 9
abbrev n_mask_of : List Str := ["area", "left", "top", "right", "bottom", "in_row", "starts"]
theorem sc_mask_of : FnScope n_mask_of ["area"] (defScope s_mask_of) := ⟨rfl, rfl, rfl, by decide +kernel, rfl, by decide +kernel, by decide +kernel⟩
abbrev s_refused_set : Stmt := topS 18
abbrev n_refused_set : List Str := ["rules", "user", "right", "refused", "rule", "cells"]
theorem sc_refused_set : FnScope n_refused_set ["rules", "user", "right"] (defScope s_refused_set) := ⟨rfl, rfl, rfl, by decide +kernel, rfl, by decide +kernel, by decide +kernel⟩
abbrev s_may_all : Stmt := topS 19
abbrev n_may_all : List Str := ["rules", "user", "right", "area"]
theorem sc_may_all : FnScope n_may_all ["rules", "user", "right", "area"] (defScope s_may_all) := ⟨rfl, rfl, rfl, by decide +kernel, rfl, by decide +kernel, by decide +kernel⟩
abbrev s_allowed_all : Stmt := topS 20
abbrev n_allowed_all : List Str := ["rules", "right", "area", "users", "user"]
theorem sc_allowed_all : FnScope n_allowed_all ["rules", "right", "area", "users"] (defScope s_allowed_all) := ⟨rfl, rfl, rfl, by decide +kernel, rfl, by decide +kernel, by decide +kernel⟩
abbrev s_may : Stmt := topS 15
abbrev n_may : List Str := ["rules", "user", "right", "address"]
theorem sc_may : FnScope n_may ["rules", "user", "right", "address"] (defScope s_may) := ⟨rfl, rfl, rfl, by decide +kernel, rfl, by decide +kernel, by decide +kernel⟩
abbrev s_range_between : Stmt := topS 1
abbrev n_range_between : List Str := ["first", "last"]
theorem sc_range_between : FnScope n_range_between ["first", "last"] (defScope s_range_between) := ⟨rfl, rfl, rfl, by decide +kernel, rfl, by decide +kernel, by decide +kernel⟩
abbrev s_common : Stmt := topS 4
abbrev n_common : List Str := ["area", "other", "first", "last"]
theorem sc_common : FnScope n_common ["area", "other"] (defScope s_common) := ⟨rfl, rfl, rfl, by decide +kernel, rfl, by decide +kernel, by decide +kernel⟩
abbrev s_place_key : Stmt := topS 2
abbrev n_place_key : List Str := ["address"]
theorem sc_place_key : FnScope n_place_key ["address"] (defScope s_place_key) := ⟨rfl, rfl, rfl, by decide +kernel, rfl, by decide +kernel, by decide +kernel⟩
abbrev s_without : Stmt := topS 5
abbrev n_without : List Str := ["area", "other", "shared", "left", "top", "right", "bottom", "near", "high", "far", "low", "parts", "part"]
theorem sc_without : FnScope n_without ["area", "other"] (defScope s_without) := ⟨rfl, rfl, rfl, by decide +kernel, rfl, by decide +kernel, by decide +kernel⟩
abbrev s_parts_by_rule : Stmt := topS 16
abbrev n_parts_by_rule : List Str := ["rules", "area", "parts", "left", "index", "place", "part", "shared", "piece"]
theorem sc_parts_by_rule : FnScope n_parts_by_rule ["rules", "area"] (defScope s_parts_by_rule) := ⟨rfl, rfl, rfl, by decide +kernel, rfl, by decide +kernel, by decide +kernel⟩
abbrev s_refused_parts : Stmt := topS 17
abbrev n_refused_parts : List Str := ["rules", "user", "right", "area", "part", "index"]
theorem sc_refused_parts : FnScope n_refused_parts ["rules", "user", "right", "area"] (defScope s_refused_parts) := ⟨rfl, rfl, rfl, by decide +kernel, rfl, by decide +kernel, by decide +kernel⟩
abbrev s_law : Stmt := topS 39
abbrev n_law : List Str := ["script", "state", "users", "rules", "kept", "turn", "place", "right", "address", "rule", "user", "area", "due", "cells", "part", "one"]
theorem sc_law : FnScope n_law ["script"] (defScope s_law) := ⟨rfl, rfl, rfl, by decide +kernel, rfl, by decide +kernel, by decide +kernel⟩
structure Tx (K : PySem.W.Frag) (w : World) (mg : Str → Option Value) where
  f__law_take : Df K mg "_law_take" s_l_take ["state", "most"]
  f__law_address : Df K mg "_law_address" s_l_address ["state"]
  f__law_near : Df K mg "_law_near" s_l_near ["state"]
  f__law_area : Df K mg "_law_area" s_l_area ["state"]
  f__law_cells : Df K mg "_law_cells" s_l_cells ["area"]
  f__law_has : Df K mg "_law_has" s_l_has ["area", "address"]
  f__law_last : Df K mg "_law_last" s_l_last ["rules", "address"]
  f__law_rule : Df K mg "_law_rule" s_l_rule ["rules", "address"]
  f__law_on_all : Df K mg "_law_on_all" s_l_on_all ["rules", "user", "place", "area"]
  f__law_order : Df K mg "_law_order" s_l_order ["addresses"]
  f__law_parts : Df K mg "_law_parts" s_l_parts ["rules", "area", "parts"]
  f__law_users : Df K mg "_law_users" s_l_users ["state", "users"]
  f__law_rules : Df K mg "_law_rules" s_l_rules ["state", "users", "count"]
  f__law_state : Df K mg "_law_state" s_l_state ["script"]
  f__users_with : Df K mg "_users_with" s_users_with ["rule", "right"]
  f_inside : Df K mg "inside" s_inside ["address", "area"]
  f_rule_at : Df K mg "rule_at" s_rule_at ["rules", "address"]
  f_allowed : Df K mg "allowed" s_allowed ["rules", "right", "address"]
  f_index_of : Df K mg "index_of" s_index_of ["address"]
  f_mask_of : Df K mg "mask_of" s_mask_of ["area"]
  f_refused_set : Df K mg "refused_set" s_refused_set ["rules", "user", "right"]
  f_may_all : Df K mg "may_all" s_may_all ["rules", "user", "right", "area"]
  f_allowed_all : Df K mg "allowed_all" s_allowed_all ["rules", "right", "area", "users"]
  f_may : Df K mg "may" s_may ["rules", "user", "right", "address"]
  f_range_between : Df K mg "range_between" s_range_between ["first", "last"]
  f_common : Df K mg "common" s_common ["area", "other"]
  f_place_key : Df K mg "place_key" s_place_key ["address"]
  f_without : Df K mg "without" s_without ["area", "other"]
  f_parts_by_rule : Df K mg "parts_by_rule" s_parts_by_rule ["rules", "area"]
  f_refused_parts : Df K mg "refused_parts" s_refused_parts ["rules", "user", "right", "area"]
  f_law : Df K mg "law" s_law ["script"]
  c_RIGHTS : GC K mg "RIGHTS" k_RIGHTS
  c_COLUMNS : GC K mg "COLUMNS" k_COLUMNS
  n_abs : mg "abs" = none
  n_enumerate : mg "enumerate" = none
  n_int : mg "int" = none
  n_len : mg "len" = none
  n_list : mg "list" = none
  n_max : mg "max" = none
  n_min : mg "min" = none
  n_range : mg "range" = none
  n_repr : mg "repr" = none
  n_reversed : mg "reversed" = none
  n_sorted : mg "sorted" = none
  cs : List (Addr × Addr)
  lam_parts_by_rule : ∃ c, f_parts_by_rule.fd.code = .ref c ∧ ∃ P, cs[0]? = some (c, P)
section
variable {P : Program} {w : World} {K : PySem.W.Frag} {mg : Str → Option Value} {base : Heap}
theorem ok_l_take (T : Tx K w mg) : FnOk P w K mg base (L2.CX P w) 1 T.f__law_take.a T.f__law_take.fd ["state", "most"] (spB K 2 m_l_take) := by
  refine fnB (N := n_l_take) T.f__law_take.F sc_l_take fun cdv A outer s H E hr => ?_
  have nd := sc_l_take.nd
  have tk := takes_of (X := cxOf (L2.CX P w) P w K mg base n_l_take "_law_take" (defScope s_l_take) T.f__law_take.a cdv A outer s H E) (E := E) rfl rfl rfl rfl
  exact ⟨_, (dss_cons (ds_if (dt_cmp od_lt bool_dIb (de_var 1) de_int) (dss_one (ds_ret de_int)) dss_nil)
  (dss_cons (ds_set (i := 2) nd (de_ix (de_var 0) de_int))
  (dss_cons (ds_set (i := 3) nd (de_bin od_mod (de_ix (de_var 0) de_int) (de_callB cd_len T.n_len (da_cons (de_var 2) da_nil))))
  (dss_cons (ds_set (i := 4) nd (de_ix (de_var 2) (de_var 3)))
  (dss_cons (ds_if (dt_cmp od_ge bool_dIb (de_var 4) de_int) (dss_cons (ds_asg (de_bin od_fdiv (de_var 4) (de_var 1)) (dg_set (de_var 2) (de_var 3)))
  (dss_one (ds_ret (de_bin od_mod (de_var 4) (de_var 1))))) dss_nil)
  (dss_cons (ds_asg (de_bin od_add (de_ix (de_var 0) de_int) de_int) (dg_set (de_var 0) de_int))
  (dss_cons (ds_set (i := 5) nd (de_bin od_mod (de_callTy cd_int T.n_int (da_cons (de_bin od_add (de_bin od_mul (de_var 4) de_int) (de_bin od_mul (de_ix (de_var 0) de_int) de_int)) da_nil)) de_int))
  (dss_cons (ds_set (i := 5) nd (de_bin od_mod (de_callTy cd_int T.n_int (da_cons (de_bin od_add (de_bin od_mul (de_var 5) de_int) (de_bin od_mul (de_ix (de_var 0) de_int) de_int)) da_nil)) de_int))
  (dss_one (ds_ret (de_bin od_mod (de_bin od_fdiv (de_var 5) de_int) (de_var 1))))))))))))⟩
theorem ok_l_address (T : Tx K w mg) : FnOk P w K mg base (L2.CX P w) 2 T.f__law_address.a T.f__law_address.fd ["state"] (spB K 1 m_l_address) := by
  refine fnB (N := n_l_address) T.f__law_address.F sc_l_address fun cdv A outer s H E hr => ?_
  have nd := sc_l_address.nd
  have tk := takes_of (X := cxOf (L2.CX P w) P w K mg base n_l_address "_law_address" (defScope s_l_address) T.f__law_address.a cdv A outer s H E) (E := E) rfl rfl rfl rfl
  exact ⟨_, (dss_one (ds_ret (de_tup (da_cons (de_ix (de_lst (da_cons de_int (da_cons de_int (da_cons de_int (da_cons de_int (da_cons de_int da_nil)))))) (de_ix (de_lst (da_cons de_int (da_cons de_int (da_cons de_int (da_cons de_int (da_cons de_int (da_cons de_int (da_cons de_int (da_cons de_int da_nil))))))))) (de_callB' ((ok_l_take T).mono (by decide)) hr tk T.f__law_take.m T.f__law_take.F.kp T.f__law_take.b (da_cons (de_var 0) (da_cons de_int da_nil))))) (da_cons (de_ix (de_lst (da_cons de_int (da_cons de_int (da_cons de_int (da_cons de_int (da_cons de_int da_nil)))))) (de_ix (de_lst (da_cons de_int (da_cons de_int (da_cons de_int (da_cons de_int (da_cons de_int (da_cons de_int (da_cons de_int (da_cons de_int da_nil))))))))) (de_callB' ((ok_l_take T).mono (by decide)) hr tk T.f__law_take.m T.f__law_take.F.kp T.f__law_take.b (da_cons (de_var 0) (da_cons de_int da_nil))))) da_nil)))))⟩
theorem ok_l_near (T : Tx K w mg) : FnOk P w K mg base (L2.CX P w) 2 T.f__law_near.a T.f__law_near.fd ["state"] (spB K 1 m_l_near) := by
  refine fnB (N := n_l_near) T.f__law_near.F sc_l_near fun cdv A outer s H E hr => ?_
  have nd := sc_l_near.nd
  have tk := takes_of (X := cxOf (L2.CX P w) P w K mg base n_l_near "_law_near" (defScope s_l_near) T.f__law_near.a cdv A outer s H E) (E := E) rfl rfl rfl rfl
  exact ⟨_, (dss_one (ds_ret (de_tup (da_cons (de_callB' ((ok_l_take T).mono (by decide)) hr tk T.f__law_take.m T.f__law_take.F.kp T.f__law_take.b (da_cons (de_var 0) (da_cons de_int da_nil))) (da_cons (de_callB' ((ok_l_take T).mono (by decide)) hr tk T.f__law_take.m T.f__law_take.F.kp T.f__law_take.b (da_cons (de_var 0) (da_cons de_int da_nil))) da_nil)))))⟩
theorem ok_l_area (T : Tx K w mg) : FnOk P w K mg base (L2.CX P w) 3 T.f__law_area.a T.f__law_area.fd ["state"] (spB K 1 m_l_area) := by
  refine fnB (N := n_l_area) T.f__law_area.F sc_l_area fun cdv A outer s H E hr => ?_
  have nd := sc_l_area.nd
  have tk := takes_of (X := cxOf (L2.CX P w) P w K mg base n_l_area "_law_area" (defScope s_l_area) T.f__law_area.a cdv A outer s H E) (E := E) rfl rfl rfl rfl
  exact ⟨_, (dss_cons (ds_par (i := 1) (j := 2) rfl nd (da_cons (de_callB' ((ok_l_near T).mono (by decide)) hr tk T.f__law_near.m T.f__law_near.F.kp T.f__law_near.b (da_cons (de_var 0) da_nil)) (da_cons (de_callB' ((ok_l_near T).mono (by decide)) hr tk T.f__law_near.m T.f__law_near.F.kp T.f__law_near.b (da_cons (de_var 0) da_nil)) da_nil)))
  (dss_one (ds_ret (de_tup (da_cons (de_tup (da_cons (de_callB (cd_min2 rfl) T.n_min (da_cons (de_ix (de_var 1) de_int) (da_cons (de_ix (de_var 2) de_int) da_nil))) (da_cons (de_callB (cd_min2 rfl) T.n_min (da_cons (de_ix (de_var 1) de_int) (da_cons (de_ix (de_var 2) de_int) da_nil))) da_nil))) (da_cons (de_tup (da_cons (de_callB (cd_max2 rfl) T.n_max (da_cons (de_ix (de_var 1) de_int) (da_cons (de_ix (de_var 2) de_int) da_nil))) (da_cons (de_callB (cd_max2 rfl) T.n_max (da_cons (de_ix (de_var 1) de_int) (da_cons (de_ix (de_var 2) de_int) da_nil))) da_nil))) da_nil))))))⟩
theorem ok_l_cells (T : Tx K w mg) : FnOk P w K mg base (L2.CX P w) 1 T.f__law_cells.a T.f__law_cells.fd ["area"] (spA K 1 m_l_cells) := by
  refine fnA (N := n_l_cells) T.f__law_cells.F sc_l_cells fun cdv A outer s H E hr => ?_
  have nd := sc_l_cells.nd
  have tk := takes_of (X := cxOf (L2.CX P w) P w K mg base n_l_cells "_law_cells" (defScope s_l_cells) T.f__law_cells.a cdv A outer s H E) (E := E) rfl rfl rfl rfl
  exact ⟨_, (dss_cons (ds_set (i := 1) nd (de_lst da_nil))
  (dss_cons (ds_for (passes_of rfl) rfl (di_range2 T.n_range (da_cons (de_ix (de_ix (de_var 0) de_int) de_int) (da_cons (de_bin od_add2 (de_ix (de_ix (de_var 0) de_int) de_int) de_int) da_nil))) (dg_name (i := 2) nd) (dss_one (ds_set (i := 1) nd (de_bin od_add2 (de_var 1) (de_lc nd rfl (di_range2 T.n_range (da_cons (de_ix (de_ix (de_var 0) de_int) de_int) (da_cons (de_bin od_add2 (de_ix (de_ix (de_var 0) de_int) de_int) de_int) da_nil))) (blkOk_by (own := [((PySem.Str.ofString "column"), 3)]) (N := n_l_cells) (sc := defScope s_l_cells) (by decide +kernel)) (fun _ _ _ _ _ => (dg_name (i := 3) nd)) (fun _ _ _ _ _ => dpt_nil) (fun _ _ _ _ _ => (de_tup (da_cons (de_var 3) (da_cons (de_var 2) da_nil)))))))))
  (dss_one (ds_ret (de_var 1)))))⟩
theorem ok_l_has (T : Tx K w mg) : FnOk P w K mg base (L2.CX P w) 1 T.f__law_has.a T.f__law_has.fd ["area", "address"] (spA K 2 m_l_has) := by
  refine fnA (N := n_l_has) T.f__law_has.F sc_l_has fun cdv A outer s H E hr => ?_
  have nd := sc_l_has.nd
  have tk := takes_of (X := cxOf (L2.CX P w) P w K mg base n_l_has "_law_has" (defScope s_l_has) T.f__law_has.a cdv A outer s H E) (E := E) rfl rfl rfl rfl
  exact ⟨_, (dss_cons (ds_asg (de_var 0) (dg_tup rfl (dgs_cons (dg_name (i := 2) nd) (dgs_cons (dg_name (i := 3) nd) dgs_nil))))
  (dss_one (ds_ret (de_and (de_cmp od_le (de_ix (de_var 2) de_int) (de_ix (de_var 1) de_int)) (de_and (de_cmp od_le (de_ix (de_var 1) de_int) (de_ix (de_var 3) de_int)) (de_and (de_cmp od_le (de_ix (de_var 2) de_int) (de_ix (de_var 1) de_int)) (de_one (de_cmp od_le (de_ix (de_var 1) de_int) (de_ix (de_var 3) de_int)))))))))⟩
theorem ok_l_last (T : Tx K w mg) : FnOk P w K mg base (L2.CX P w) 2 T.f__law_last.a T.f__law_last.fd ["rules", "address"] (spA K 2 m_l_last) := by
  refine fnA (N := n_l_last) T.f__law_last.F sc_l_last fun cdv A outer s H E hr => ?_
  have nd := sc_l_last.nd
  have tk := takes_of (X := cxOf (L2.CX P w) P w K mg base n_l_last "_law_last" (defScope s_l_last) T.f__law_last.a cdv A outer s H E) (E := E) rfl rfl rfl rfl
  exact ⟨_, (dss_one (ds_ret (de_ix (de_lc nd rfl (di_range1 T.n_range (da_cons (de_callB cd_len T.n_len (da_cons (de_var 0) da_nil)) da_nil)) (blkOk_by (own := [((PySem.Str.ofString "index"), 2)]) (N := n_l_last) (sc := defScope s_l_last) (by decide +kernel)) (fun _ _ _ _ _ => (dg_name (i := 2) nd)) (fun _ _ _ _ _ => (dpt_one (dt_tru (de_callA ((ok_l_has T).mono (by decide)) hr takes0 T.f__law_has.m T.f__law_has.F.kp T.f__law_has.b (da_cons (de_ix (de_ix (de_var 0) (de_var 2)) de_int) (da_cons (de_var 1) da_nil)))))) (fun _ _ _ _ _ => (de_var 2))) (de_usub de_int))))⟩
theorem ok_l_rule (T : Tx K w mg) : FnOk P w K mg base (L2.CX P w) 2 T.f__law_rule.a T.f__law_rule.fd ["rules", "address"] (spA K 2 m_l_rule) := by
  refine fnA (N := n_l_rule) T.f__law_rule.F sc_l_rule fun cdv A outer s H E hr => ?_
  have nd := sc_l_rule.nd
  have tk := takes_of (X := cxOf (L2.CX P w) P w K mg base n_l_rule "_law_rule" (defScope s_l_rule) T.f__law_rule.a cdv A outer s H E) (E := E) rfl rfl rfl rfl
  exact ⟨_, (dss_cons (ds_set (i := 2) nd (de_ix (de_var 0) de_int))
  (dss_cons (ds_for (passes_of rfl) rfl (di_list (de_var 0)) (dg_name (i := 3) nd) (dss_one (ds_if (dt_tru (de_callA ((ok_l_has T).mono (by decide)) hr tk T.f__law_has.m T.f__law_has.F.kp T.f__law_has.b (da_cons (de_ix (de_var 3) de_int) (da_cons (de_var 1) da_nil)))) (dss_one (ds_set (i := 2) nd (de_var 3))) dss_nil)))
  (dss_one (ds_ret (de_var 2)))))⟩
theorem ok_l_on_all (T : Tx K w mg) : FnOk P w K mg base (L2.CX P w) 3 T.f__law_on_all.a T.f__law_on_all.fd ["rules", "user", "place", "area"] (spA K 4 m_l_on_all) := by
  refine fnA (N := n_l_on_all) T.f__law_on_all.F sc_l_on_all fun cdv A outer s H E hr => ?_
  have nd := sc_l_on_all.nd
  have tk := takes_of (X := cxOf (L2.CX P w) P w K mg base n_l_on_all "_law_on_all" (defScope s_l_on_all) T.f__law_on_all.a cdv A outer s H E) (E := E) rfl rfl rfl rfl
  exact ⟨_, (dss_one (ds_ret (de_cmp (od_eq hr.units) (de_callB cd_len T.n_len (da_cons (de_lc nd rfl (di_list (de_callA ((ok_l_cells T).mono (by decide)) hr tk T.f__law_cells.m T.f__law_cells.F.kp T.f__law_cells.b (da_cons (de_var 3) da_nil))) (blkOk_by (own := [((PySem.Str.ofString "address"), 4)]) (N := n_l_on_all) (sc := defScope s_l_on_all) (by decide +kernel)) (fun _ _ _ _ _ => (dg_name (i := 4) nd)) (fun _ _ _ _ _ => (dpt_one (dt_cmp (od_nin (units65 hr)) bool_dNin (de_var 1) (de_ix (de_callA ((ok_l_rule T).mono (by decide)) hr takes0 T.f__law_rule.m T.f__law_rule.F.kp T.f__law_rule.b (da_cons (de_var 0) (da_cons (de_var 4) da_nil))) (de_var 2))))) (fun _ _ _ _ _ => (de_var 4))) da_nil)) de_int)))⟩
theorem ok_l_order (T : Tx K w mg) : FnOk P w K mg base (L2.CX P w) 1 T.f__law_order.a T.f__law_order.fd ["addresses"] (spA K 1 m_l_order) := by
  refine fnA (N := n_l_order) T.f__law_order.F sc_l_order fun cdv A outer s H E hr => ?_
  have nd := sc_l_order.nd
  have tk := takes_of (X := cxOf (L2.CX P w) P w K mg base n_l_order "_law_order" (defScope s_l_order) T.f__law_order.a cdv A outer s H E) (E := E) rfl rfl rfl rfl
  exact ⟨_, (dss_cons (ds_set (i := 1) nd (de_callB (cd_sort (units67 hr)) T.n_sorted (da_cons (de_lc nd rfl (di_list (de_var 0)) (blkOk_by (own := [((PySem.Str.ofString "address"), 2)]) (N := n_l_order) (sc := defScope s_l_order) (by decide +kernel)) (fun _ _ _ _ _ => (dg_name (i := 2) nd)) (fun _ _ _ _ _ => dpt_nil) (fun _ _ _ _ _ => (de_tup (da_cons (de_ix (de_var 2) de_int) (da_cons (de_ix (de_var 2) de_int) da_nil))))) da_nil)))
  (dss_one (ds_ret (de_lc nd rfl (di_list (de_var 1)) (blkOk_by (own := [((PySem.Str.ofString "row"), 3), ((PySem.Str.ofString "column"), 4)]) (N := n_l_order) (sc := defScope s_l_order) (by decide +kernel)) (fun _ _ _ _ _ => (dg_tup rfl (dgs_cons (dg_name (i := 3) nd) (dgs_cons (dg_name (i := 4) nd) dgs_nil)))) (fun _ _ _ _ _ => dpt_nil) (fun _ _ _ _ _ => (de_tup (da_cons (de_var 4) (da_cons (de_var 3) da_nil))))))))⟩
theorem ok_l_parts (T : Tx K w mg) : FnOk P w K mg base (L2.CX P w) 3 T.f__law_parts.a T.f__law_parts.fd ["rules", "area", "parts"] (spA K 3 m_l_parts) := by
  refine fnA (N := n_l_parts) T.f__law_parts.F sc_l_parts fun cdv A outer s H E hr => ?_
  have nd := sc_l_parts.nd
  have tk := takes_of (X := cxOf (L2.CX P w) P w K mg base n_l_parts "_law_parts" (defScope s_l_parts) T.f__law_parts.a cdv A outer s H E) (E := E) rfl rfl rfl rfl
  exact ⟨_, (dss_cons (ds_set (i := 3) nd (de_lst da_nil))
  (dss_cons (ds_for (passes_of rfl) rfl (di_list (de_var 2)) (dg_tup rfl (dgs_cons (dg_name (i := 4) nd) (dgs_cons (dg_name (i := 5) nd) dgs_nil))) (dss_cons (ds_for (passes_of rfl) rfl (di_list (de_callA ((ok_l_cells T).mono (by decide)) hr tk T.f__law_cells.m T.f__law_cells.F.kp T.f__law_cells.b (da_cons (de_var 4) da_nil))) (dg_name (i := 6) nd) (dss_one (ds_if (dt_w (dw_or (dt_cmp (od_ne hr.units) bool_dNe (de_ix (de_var 0) (de_var 5)) (de_callA ((ok_l_rule T).mono (by decide)) hr tk T.f__law_rule.m T.f__law_rule.F.kp T.f__law_rule.b (da_cons (de_var 0) (da_cons (de_var 6) da_nil)))) (dw_or1 (dt_cmp (od_ne hr.units) bool_dNe (de_var 5) (de_callA ((ok_l_last T).mono (by decide)) hr tk T.f__law_last.m T.f__law_last.F.kp T.f__law_last.b (da_cons (de_var 0) (da_cons (de_var 6) da_nil))))))) (dss_one (ds_ret de_bl)) dss_nil)))
  (dss_one (ds_set (i := 3) nd (de_bin od_add2 (de_var 3) (de_callA ((ok_l_cells T).mono (by decide)) hr tk T.f__law_cells.m T.f__law_cells.F.kp T.f__law_cells.b (da_cons (de_var 4) da_nil)))))))
  (dss_cons (ds_setLc (i := 7) nd rfl (di_list (de_var 2)) (blkOk_by (own := [((PySem.Str.ofString "part"), 4), ((PySem.Str.ofString "index"), 5)]) (N := n_l_parts) (sc := defScope s_l_parts) (by decide +kernel)) (fun _ _ _ _ _ => (dg_tup rfl (dgs_cons (dg_name (i := 4) nd) (dgs_cons (dg_name (i := 5) nd) dgs_nil)))) (fun _ _ _ _ _ => dpt_nil) (fun _ _ _ _ _ => (de_ix (de_var 4) de_int)))
  (dss_one (ds_ret (de_and (de_cmp (od_eq hr.units) (de_callB (cd_sort (units67 hr)) T.n_sorted (da_cons (de_var 3) da_nil)) (de_callB (cd_sort (units67 hr)) T.n_sorted (da_cons (de_callA ((ok_l_cells T).mono (by decide)) hr tk T.f__law_cells.m T.f__law_cells.F.kp T.f__law_cells.b (da_cons (de_var 1) da_nil)) da_nil))) (de_one (de_cmp (od_eq hr.units) (de_var 7) (de_callA ((ok_l_order T).mono (by decide)) hr tk T.f__law_order.m T.f__law_order.F.kp T.f__law_order.b (da_cons (de_var 7) da_nil))))))))))⟩
theorem ok_l_users (T : Tx K w mg) : FnOk P w K mg base (L2.CX P w) 2 T.f__law_users.a T.f__law_users.fd ["state", "users"] (spB K 2 m_l_users) := by
  refine fnB (N := n_l_users) T.f__law_users.F sc_l_users fun cdv A outer s H E hr => ?_
  have nd := sc_l_users.nd
  have tk := takes_of (X := cxOf (L2.CX P w) P w K mg base n_l_users "_law_users" (defScope s_l_users) T.f__law_users.a cdv A outer s H E) (E := E) rfl rfl rfl rfl
  exact ⟨_, (dss_one (ds_ret (de_lc nd rfl (di_range1 T.n_range (da_cons (de_var 1) da_nil)) (blkOk_by (own := [((PySem.Str.ofString "user"), 2)]) (N := n_l_users) (sc := defScope s_l_users) (by decide +kernel)) (fun _ _ _ _ _ => (dg_name (i := 2) nd)) (fun _ _ _ _ _ => (dpt_one (dt_cmp (od_eq hr.units) bool_dEq (de_callB' ((ok_l_take T).mono (by decide)) hr takes0 T.f__law_take.m T.f__law_take.F.kp T.f__law_take.b (da_cons (de_var 0) (da_cons de_int da_nil))) de_int))) (fun _ _ _ _ _ => (de_var 2)))))⟩
theorem ok_l_rules (T : Tx K w mg) : FnOk P w K mg base (L2.CX P w) 4 T.f__law_rules.a T.f__law_rules.fd ["state", "users", "count"] (spB K 3 m_l_rules) := by
  refine fnB (N := n_l_rules) T.f__law_rules.F sc_l_rules fun cdv A outer s H E hr => ?_
  have nd := sc_l_rules.nd
  have tk := takes_of (X := cxOf (L2.CX P w) P w K mg base n_l_rules "_law_rules" (defScope s_l_rules) T.f__law_rules.a cdv A outer s H E) (E := E) rfl rfl rfl rfl
  exact ⟨_, (dss_cons (ds_set (i := 3) nd (de_tup (da_cons (de_tup (da_cons de_int (da_cons de_int da_nil))) (da_cons (de_tup (da_cons de_int (da_cons de_int da_nil))) da_nil))))
  (dss_cons (ds_set (i := 4) nd (de_lstO (da_cons (de_tup (da_cons (de_var 3) (da_cons (de_lc nd rfl (di_range1 T.n_range (da_cons (de_var 1) da_nil)) (blkOk_by (own := [((PySem.Str.ofString "user"), 7)]) (N := n_l_rules) (sc := defScope s_l_rules) (by decide +kernel)) (fun _ _ _ _ _ => (dg_name (i := 7) nd)) (fun _ _ _ _ _ => (dpt_one (dt_cmp od_gt bool_dIb (de_callB' ((ok_l_take T).mono (by decide)) hr takes0 T.f__law_take.m T.f__law_take.F.kp T.f__law_take.b (da_cons (de_var 0) (da_cons de_int da_nil))) de_int))) (fun _ _ _ _ _ => (de_var 7))) (da_cons (de_callB' ((ok_l_users T).mono (by decide)) hr tk T.f__law_users.m T.f__law_users.F.kp T.f__law_users.b (da_cons (de_var 0) (da_cons (de_var 1) da_nil))) (da_cons (de_callB' ((ok_l_users T).mono (by decide)) hr tk T.f__law_users.m T.f__law_users.F.kp T.f__law_users.b (da_cons (de_var 0) (da_cons (de_var 1) da_nil))) da_nil))))) da_nil)))
  (dss_cons (ds_for (passes_of rfl) rfl (di_range1 T.n_range (da_cons (de_callB' ((ok_l_take T).mono (by decide)) hr tk T.f__law_take.m T.f__law_take.F.kp T.f__law_take.b (da_cons (de_var 0) (da_cons (de_bin od_add (de_var 2) de_int) da_nil))) da_nil)) (dg_name (i := 5) nd) (dss_cons (ds_set (i := 6) nd (de_callB' ((ok_l_area T).mono (by decide)) hr tk T.f__law_area.m T.f__law_area.F.kp T.f__law_area.b (da_cons (de_var 0) da_nil)))
  (dss_cons (ds_if (dt_cmp (od_eq hr.units) bool_dEq (de_callB' ((ok_l_take T).mono (by decide)) hr tk T.f__law_take.m T.f__law_take.F.kp T.f__law_take.b (da_cons (de_var 0) (da_cons de_int da_nil))) de_int) (dss_one (ds_set (i := 6) nd (de_tup (da_cons (de_tup (da_cons de_int (da_cons de_int da_nil))) (da_cons (de_tup (da_cons de_int (da_cons (de_bin od_add de_int (de_callB' ((ok_l_take T).mono (by decide)) hr tk T.f__law_take.m T.f__law_take.F.kp T.f__law_take.b (da_cons (de_var 0) (da_cons de_int da_nil)))) da_nil))) da_nil))))) dss_nil)
  (dss_one (ds_expr (de_mth md_app (de_var 4) (da_cons (de_tup (da_cons (de_var 6) (da_cons (de_callB' ((ok_l_users T).mono (by decide)) hr tk T.f__law_users.m T.f__law_users.F.kp T.f__law_users.b (da_cons (de_var 0) (da_cons (de_var 1) da_nil))) (da_cons (de_callB' ((ok_l_users T).mono (by decide)) hr tk T.f__law_users.m T.f__law_users.F.kp T.f__law_users.b (da_cons (de_var 0) (da_cons (de_var 1) da_nil))) (da_cons (de_callB' ((ok_l_users T).mono (by decide)) hr tk T.f__law_users.m T.f__law_users.F.kp T.f__law_users.b (da_cons (de_var 0) (da_cons (de_var 1) da_nil))) da_nil))))) da_nil) PySem.F.plainAttrs_list PySem.F.slot_list_append PySem.F.type_list_append))))))
  (dss_one (ds_ret (de_frz (de_var 4)))))))⟩
theorem ok_l_state (T : Tx K w mg) : FnOk P w K mg base (L2.CX P w) 1 T.f__law_state.a T.f__law_state.fd ["script"] (spB K 1 m_l_state) := by
  refine fnB (N := n_l_state) T.f__law_state.F sc_l_state fun cdv A outer s H E hr => ?_
  have nd := sc_l_state.nd
  have tk := takes_of (X := cxOf (L2.CX P w) P w K mg base n_l_state "_law_state" (defScope s_l_state) T.f__law_state.a cdv A outer s H E) (E := E) rfl rfl rfl rfl
  exact ⟨_, (dss_cons (ds_setLcO (i := 1) nd rfl (di_list (de_sl (de_var 0) dp_none (dp_some de_int))) (blkOk_by (own := [((PySem.Str.ofString "cell"), 2)]) (N := n_l_state) (sc := defScope s_l_state) (by decide +kernel)) (fun _ _ _ _ _ => (dg_name (i := 2) nd)) (fun _ _ _ _ _ => dpt_nil) (fun _ _ _ _ _ => (de_callB cd_abs T.n_abs (da_cons (de_var 2) da_nil))))
  (dss_cons (ds_if (dt_cmp (od_eq hr.units) bool_dEq (de_callB cd_len T.n_len (da_cons (de_var 1) da_nil)) de_int) (dss_one (ds_set (i := 1) nd (de_lstO (da_cons de_int da_nil)))) dss_nil)
  (dss_one (ds_ret (de_lstO (da_cons de_int (da_cons (de_var 1) da_nil)))))))⟩
theorem ok_users_with (T : Tx K w mg) : FnOk P w K mg base (L2.CX P w) 1 T.f__users_with.a T.f__users_with.fd ["rule", "right"] (spA K 2 m_users_with) := by
  refine fnA (N := n_users_with) T.f__users_with.F sc_users_with fun cdv A outer s H E hr => ?_
  have nd := sc_users_with.nd
  have tk := takes_of (X := cxOf (L2.CX P w) P w K mg base n_users_with "_users_with" (defScope s_users_with) T.f__users_with.a cdv A outer s H E) (E := E) rfl rfl rfl rfl
  exact ⟨_, (dss_one (ds_ret (de_ix (de_var 0) (de_bin od_add (de_mth md_lindex (de_gc T.c_RIGHTS) (da_cons (de_var 1) da_nil) PySem.F.plainAttrs_list PySem.F.slot_list_index PySem.F.type_list_index) de_int))))⟩
theorem ok_inside (T : Tx K w mg) : FnOk P w K mg base (L2.CX P w) 1 T.f_inside.a T.f_inside.fd ["address", "area"] (spA K 2 m_inside) := by
  refine fnA (N := n_inside) T.f_inside.F sc_inside fun cdv A outer s H E hr => ?_
  have nd := sc_inside.nd
  have tk := takes_of (X := cxOf (L2.CX P w) P w K mg base n_inside "inside" (defScope s_inside) T.f_inside.a cdv A outer s H E) (E := E) rfl rfl rfl rfl
  exact ⟨_, (dss_cons (ds_asg (de_var 1) (dg_tup rfl (dgs_cons (dg_name (i := 2) nd) (dgs_cons (dg_name (i := 3) nd) dgs_nil))))
  (dss_one (ds_ret (de_and (de_chain od_le od_le (de_ix (de_var 2) de_int) (de_ix (de_var 0) de_int) (de_ix (de_var 3) de_int)) (de_one (de_chain od_le od_le (de_ix (de_var 2) de_int) (de_ix (de_var 0) de_int) (de_ix (de_var 3) de_int)))))))⟩
theorem ok_rule_at (T : Tx K w mg) : FnOk P w K mg base (L2.CX P w) 2 T.f_rule_at.a T.f_rule_at.fd ["rules", "address"] (spA K 2 m_rule_at) := by
  refine fnA (N := n_rule_at) T.f_rule_at.F sc_rule_at fun cdv A outer s H E hr => ?_
  have nd := sc_rule_at.nd
  have tk := takes_of (X := cxOf (L2.CX P w) P w K mg base n_rule_at "rule_at" (defScope s_rule_at) T.f_rule_at.a cdv A outer s H E) (E := E) rfl rfl rfl rfl
  exact ⟨_, (dss_one (ds_ret (de_callB (cd_maxL rfl) T.n_max (da_cons (de_lc nd rfl (di_enum T.n_enumerate (da_cons (de_var 0) da_nil)) (blkOk_by (own := [((PySem.Str.ofString "index"), 2), ((PySem.Str.ofString "rule"), 3)]) (N := n_rule_at) (sc := defScope s_rule_at) (by decide +kernel)) (fun _ _ _ _ _ => (dg_tup rfl (dgs_cons (dg_name (i := 2) nd) (dgs_cons (dg_name (i := 3) nd) dgs_nil)))) (fun _ _ _ _ _ => (dpt_one (dt_tru (de_callA ((ok_inside T).mono (by decide)) hr takes0 T.f_inside.m T.f_inside.F.kp T.f_inside.b (da_cons (de_var 1) (da_cons (de_ix (de_var 3) de_int) da_nil)))))) (fun _ _ _ _ _ => (de_var 2))) da_nil))))⟩
theorem ok_allowed (T : Tx K w mg) : FnOk P w K mg base (L2.CX P w) 3 T.f_allowed.a T.f_allowed.fd ["rules", "right", "address"] (spA K 3 m_allowed) := by
  refine fnA (N := n_allowed) T.f_allowed.F sc_allowed fun cdv A outer s H E hr => ?_
  have nd := sc_allowed.nd
  have tk := takes_of (X := cxOf (L2.CX P w) P w K mg base n_allowed "allowed" (defScope s_allowed) T.f_allowed.a cdv A outer s H E) (E := E) rfl rfl rfl rfl
  exact ⟨_, (dss_one (ds_ret (de_callTy cd_list T.n_list (da_cons (de_callA ((ok_users_with T).mono (by decide)) hr tk T.f__users_with.m T.f__users_with.F.kp T.f__users_with.b (da_cons (de_ix (de_var 0) (de_callA ((ok_rule_at T).mono (by decide)) hr tk T.f_rule_at.m T.f_rule_at.F.kp T.f_rule_at.b (da_cons (de_var 0) (da_cons (de_var 2) da_nil)))) (da_cons (de_var 1) da_nil))) da_nil))))⟩
theorem ok_index_of (T : Tx K w mg) : FnOk P w K mg base (L2.CX P w) 1 T.f_index_of.a T.f_index_of.fd ["address"] (spA K 1 m_index_of) := by
  refine fnA (N := n_index_of) T.f_index_of.F sc_index_of fun cdv A outer s H E hr => ?_
  have nd := sc_index_of.nd
  have tk := takes_of (X := cxOf (L2.CX P w) P w K mg base n_index_of "index_of" (defScope s_index_of) T.f_index_of.a cdv A outer s H E) (E := E) rfl rfl rfl rfl
  exact ⟨_, (dss_one (ds_ret (de_bin od_add (de_bin od_mul (de_ix (de_var 0) de_int) (de_gc T.c_COLUMNS)) (de_ix (de_var 0) de_int))))⟩
theorem ok_mask_of (T : Tx K w mg) : FnOk P w K mg base (L2.CX P w) 2 T.f_mask_of.a T.f_mask_of.fd ["area"] (spA K 1 m_mask_of) := by
  refine fnA (N := n_mask_of) T.f_mask_of.F sc_mask_of fun cdv A outer s H E hr => ?_
  have nd := sc_mask_of.nd
  have tk := takes_of (X := cxOf (L2.CX P w) P w K mg base n_mask_of "mask_of" (defScope s_mask_of) T.f_mask_of.a cdv A outer s H E) (E := E) rfl rfl rfl rfl
  exact ⟨_, (dss_cons (ds_asg (de_var 0) (dg_tup rfl (dgs_cons (dg_tup rfl (dgs_cons (dg_name (i := 1) nd) (dgs_cons (dg_name (i := 2) nd) dgs_nil))) (dgs_cons (dg_tup rfl (dgs_cons (dg_name (i := 3) nd) (dgs_cons (dg_name (i := 4) nd) dgs_nil))) dgs_nil))))
  (dss_cons (ds_set (i := 5) nd (de_bin od_sub (de_bin od_shl de_int (de_bin od_add (de_bin od_sub (de_var 3) (de_var 1)) de_int)) de_int))
  (dss_cons (ds_set (i := 6) nd (de_bin od_fdiv (de_bin od_sub (de_bin od_shl de_int (de_bin od_mul (de_gc T.c_COLUMNS) (de_bin od_add (de_bin od_sub (de_var 4) (de_var 2)) de_int))) de_int) (de_bin od_sub (de_bin od_shl de_int (de_gc T.c_COLUMNS)) de_int)))
  (dss_one (ds_ret (de_bin od_shl (de_bin od_mul (de_var 6) (de_var 5)) (de_callA ((ok_index_of T).mono (by decide)) hr tk T.f_index_of.m T.f_index_of.F.kp T.f_index_of.b (da_cons (de_tup (da_cons (de_var 1) (da_cons (de_var 2) da_nil))) da_nil))))))))⟩
theorem ok_refused_set (T : Tx K w mg) : FnOk P w K mg base (L2.CX P w) 3 T.f_refused_set.a T.f_refused_set.fd ["rules", "user", "right"] (spA K 3 m_refused_set) := by
  refine fnA (N := n_refused_set) T.f_refused_set.F sc_refused_set fun cdv A outer s H E hr => ?_
  have nd := sc_refused_set.nd
  have tk := takes_of (X := cxOf (L2.CX P w) P w K mg base n_refused_set "refused_set" (defScope s_refused_set) T.f_refused_set.a cdv A outer s H E) (E := E) rfl rfl rfl rfl
  exact ⟨_, (dss_cons (ds_set (i := 3) nd de_int)
  (dss_cons (ds_for (passes_of rfl) rfl (di_list (de_var 0)) (dg_name (i := 4) nd) (dss_cons (ds_set (i := 5) nd (de_callA ((ok_mask_of T).mono (by decide)) hr tk T.f_mask_of.m T.f_mask_of.F.kp T.f_mask_of.b (da_cons (de_ix (de_var 4) de_int) da_nil)))
  (dss_one (ds_if (dt_cmp (od_in (units65 hr)) bool_dIn (de_var 1) (de_callA ((ok_users_with T).mono (by decide)) hr tk T.f__users_with.m T.f__users_with.F.kp T.f__users_with.b (da_cons (de_var 4) (da_cons (de_var 2) da_nil)))) (dss_one (ds_set (i := 3) nd (de_bin od_band (de_var 3) (de_inv (de_var 5))))) (dss_one (ds_set (i := 3) nd (de_bin od_bor (de_var 3) (de_var 5))))))))
  (dss_one (ds_ret (de_var 3)))))⟩
theorem ok_may_all (T : Tx K w mg) : FnOk P w K mg base (L2.CX P w) 4 T.f_may_all.a T.f_may_all.fd ["rules", "user", "right", "area"] (spA K 4 m_may_all) := by
  refine fnA (N := n_may_all) T.f_may_all.F sc_may_all fun cdv A outer s H E hr => ?_
  have nd := sc_may_all.nd
  have tk := takes_of (X := cxOf (L2.CX P w) P w K mg base n_may_all "may_all" (defScope s_may_all) T.f_may_all.a cdv A outer s H E) (E := E) rfl rfl rfl rfl
  exact ⟨_, (dss_one (ds_ret (de_cmp (od_eq hr.units) (de_bin od_band (de_callA ((ok_refused_set T).mono (by decide)) hr tk T.f_refused_set.m T.f_refused_set.F.kp T.f_refused_set.b (da_cons (de_var 0) (da_cons (de_var 1) (da_cons (de_var 2) da_nil)))) (de_callA ((ok_mask_of T).mono (by decide)) hr tk T.f_mask_of.m T.f_mask_of.F.kp T.f_mask_of.b (da_cons (de_var 3) da_nil))) de_int)))⟩
theorem ok_allowed_all (T : Tx K w mg) : FnOk P w K mg base (L2.CX P w) 5 T.f_allowed_all.a T.f_allowed_all.fd ["rules", "right", "area", "users"] (spA K 4 m_allowed_all) := by
  refine fnA (N := n_allowed_all) T.f_allowed_all.F sc_allowed_all fun cdv A outer s H E hr => ?_
  have nd := sc_allowed_all.nd
  have tk := takes_of (X := cxOf (L2.CX P w) P w K mg base n_allowed_all "allowed_all" (defScope s_allowed_all) T.f_allowed_all.a cdv A outer s H E) (E := E) rfl rfl rfl rfl
  exact ⟨_, (dss_one (ds_ret (de_lc nd rfl (di_range1 T.n_range (da_cons (de_var 3) da_nil)) (blkOk_by (own := [((PySem.Str.ofString "user"), 4)]) (N := n_allowed_all) (sc := defScope s_allowed_all) (by decide +kernel)) (fun _ _ _ _ _ => (dg_name (i := 4) nd)) (fun _ _ _ _ _ => (dpt_one (dt_tru (de_callA ((ok_may_all T).mono (by decide)) hr takes0 T.f_may_all.m T.f_may_all.F.kp T.f_may_all.b (da_cons (de_var 0) (da_cons (de_var 4) (da_cons (de_var 1) (da_cons (de_var 2) da_nil)))))))) (fun _ _ _ _ _ => (de_var 4)))))⟩
theorem ok_may (T : Tx K w mg) : FnOk P w K mg base (L2.CX P w) 4 T.f_may.a T.f_may.fd ["rules", "user", "right", "address"] (spA K 4 m_may) := by
  refine fnA (N := n_may) T.f_may.F sc_may fun cdv A outer s H E hr => ?_
  have nd := sc_may.nd
  have tk := takes_of (X := cxOf (L2.CX P w) P w K mg base n_may "may" (defScope s_may) T.f_may.a cdv A outer s H E) (E := E) rfl rfl rfl rfl
  exact ⟨_, (dss_one (ds_ret (de_cmp (od_in (units65 hr)) (de_var 1) (de_callA ((ok_allowed T).mono (by decide)) hr tk T.f_allowed.m T.f_allowed.F.kp T.f_allowed.b (da_cons (de_var 0) (da_cons (de_var 2) (da_cons (de_var 3) da_nil)))))))⟩
theorem ok_range_between (T : Tx K w mg) : FnOk P w K mg base (L2.CX P w) 1 T.f_range_between.a T.f_range_between.fd ["first", "last"] (spA K 2 m_range_between) := by
  refine fnA (N := n_range_between) T.f_range_between.F sc_range_between fun cdv A outer s H E hr => ?_
  have nd := sc_range_between.nd
  have tk := takes_of (X := cxOf (L2.CX P w) P w K mg base n_range_between "range_between" (defScope s_range_between) T.f_range_between.a cdv A outer s H E) (E := E) rfl rfl rfl rfl
  exact ⟨_, (dss_cons (ds_if (dt_w (dw_and (dt_cmp od_le bool_dIb (de_ix (de_var 0) de_int) (de_ix (de_var 1) de_int)) (dw_and1 (dt_cmp od_le bool_dIb (de_ix (de_var 0) de_int) (de_ix (de_var 1) de_int))))) (dss_one (ds_ret (de_tup (da_cons (de_var 0) (da_cons (de_var 1) da_nil))))) dss_nil)
  (dss_one (ds_ret de_non)))⟩
theorem ok_common (T : Tx K w mg) : FnOk P w K mg base (L2.CX P w) 2 T.f_common.a T.f_common.fd ["area", "other"] (spA K 2 m_common) := by
  refine fnA (N := n_common) T.f_common.F sc_common fun cdv A outer s H E hr => ?_
  have nd := sc_common.nd
  have tk := takes_of (X := cxOf (L2.CX P w) P w K mg base n_common "common" (defScope s_common) T.f_common.a cdv A outer s H E) (E := E) rfl rfl rfl rfl
  exact ⟨_, (dss_cons (ds_set (i := 2) nd (de_tup (da_cons (de_callB (cd_max2 rfl) T.n_max (da_cons (de_ix (de_ix (de_var 0) de_int) de_int) (da_cons (de_ix (de_ix (de_var 1) de_int) de_int) da_nil))) (da_cons (de_callB (cd_max2 rfl) T.n_max (da_cons (de_ix (de_ix (de_var 0) de_int) de_int) (da_cons (de_ix (de_ix (de_var 1) de_int) de_int) da_nil))) da_nil))))
  (dss_cons (ds_set (i := 3) nd (de_tup (da_cons (de_callB (cd_min2 rfl) T.n_min (da_cons (de_ix (de_ix (de_var 0) de_int) de_int) (da_cons (de_ix (de_ix (de_var 1) de_int) de_int) da_nil))) (da_cons (de_callB (cd_min2 rfl) T.n_min (da_cons (de_ix (de_ix (de_var 0) de_int) de_int) (da_cons (de_ix (de_ix (de_var 1) de_int) de_int) da_nil))) da_nil))))
  (dss_one (ds_ret (de_callA ((ok_range_between T).mono (by decide)) hr tk T.f_range_between.m T.f_range_between.F.kp T.f_range_between.b (da_cons (de_var 2) (da_cons (de_var 3) da_nil)))))))⟩
theorem ok_place_key (T : Tx K w mg) : FnOk P w K mg base (L2.CX P w) 1 T.f_place_key.a T.f_place_key.fd ["address"] (spA K 1 m_place_key) := by
  refine fnA (N := n_place_key) T.f_place_key.F sc_place_key fun cdv A outer s H E hr => ?_
  have nd := sc_place_key.nd
  have tk := takes_of (X := cxOf (L2.CX P w) P w K mg base n_place_key "place_key" (defScope s_place_key) T.f_place_key.a cdv A outer s H E) (E := E) rfl rfl rfl rfl
  exact ⟨_, (dss_one (ds_ret (de_tup (da_cons (de_ix (de_var 0) de_int) (da_cons (de_ix (de_var 0) de_int) da_nil)))))⟩
theorem ok_without (T : Tx K w mg) : FnOk P w K mg base (L2.CX P w) 3 T.f_without.a T.f_without.fd ["area", "other"] (spA K 2 m_without) := by
  refine fnA (N := n_without) T.f_without.F sc_without fun cdv A outer s H E hr => ?_
  have nd := sc_without.nd
  have tk := takes_of (X := cxOf (L2.CX P w) P w K mg base n_without "without" (defScope s_without) T.f_without.a cdv A outer s H E) (E := E) rfl rfl rfl rfl
  exact ⟨_, (dss_cons (ds_set (i := 2) nd (de_callA ((ok_common T).mono (by decide)) hr tk T.f_common.m T.f_common.F.kp T.f_common.b (da_cons (de_var 0) (da_cons (de_var 1) da_nil))))
  (dss_cons (ds_if (dt_isN (de_var 2)) (dss_one (ds_ret (de_lst (da_cons (de_var 0) da_nil)))) dss_nil)
  (dss_cons (ds_asg (de_var 0) (dg_tup rfl (dgs_cons (dg_tup rfl (dgs_cons (dg_name (i := 3) nd) (dgs_cons (dg_name (i := 4) nd) dgs_nil))) (dgs_cons (dg_tup rfl (dgs_cons (dg_name (i := 5) nd) (dgs_cons (dg_name (i := 6) nd) dgs_nil))) dgs_nil))))
  (dss_cons (ds_asg (de_var 2) (dg_tup rfl (dgs_cons (dg_tup rfl (dgs_cons (dg_name (i := 7) nd) (dgs_cons (dg_name (i := 8) nd) dgs_nil))) (dgs_cons (dg_tup rfl (dgs_cons (dg_name (i := 9) nd) (dgs_cons (dg_name (i := 10) nd) dgs_nil))) dgs_nil))))
  (dss_cons (ds_set (i := 11) nd (de_lst (da_cons (de_tup (da_cons (de_tup (da_cons (de_var 3) (da_cons (de_var 4) da_nil))) (da_cons (de_tup (da_cons (de_var 5) (da_cons (de_bin od_sub (de_var 8) de_int) da_nil))) da_nil))) (da_cons (de_tup (da_cons (de_tup (da_cons (de_var 3) (da_cons (de_bin od_add (de_var 10) de_int) da_nil))) (da_cons (de_tup (da_cons (de_var 5) (da_cons (de_var 6) da_nil))) da_nil))) (da_cons (de_tup (da_cons (de_tup (da_cons (de_var 3) (da_cons (de_var 8) da_nil))) (da_cons (de_tup (da_cons (de_bin od_sub (de_var 7) de_int) (da_cons (de_var 10) da_nil))) da_nil))) (da_cons (de_tup (da_cons (de_tup (da_cons (de_bin od_add (de_var 9) de_int) (da_cons (de_var 8) da_nil))) (da_cons (de_tup (da_cons (de_var 5) (da_cons (de_var 10) da_nil))) da_nil))) da_nil))))))
  (dss_one (ds_ret (de_lc nd rfl (di_list (de_var 11)) (blkOk_by (own := [((PySem.Str.ofString "part"), 12)]) (N := n_without) (sc := defScope s_without) (by decide +kernel)) (fun _ _ _ _ _ => (dg_name (i := 12) nd)) (fun _ _ _ _ _ => (dpt_one (dt_notN (de_callA ((ok_range_between T).mono (by decide)) hr takes0 T.f_range_between.m T.f_range_between.F.kp T.f_range_between.b (da_cons (de_ix (de_var 12) de_int) (da_cons (de_ix (de_var 12) de_int) da_nil)))))) (fun _ _ _ _ _ => (de_var 12))))))))))⟩
theorem ok_parts_by_rule (T : Tx K w mg) (hB : ∀ p ∈ T.cs, LamX.TabB base mg p.1 p.2) : FnOk P w K mg base (L2.CX P w) 5 T.f_parts_by_rule.a T.f_parts_by_rule.fd ["rules", "area"] (spB K 2 (m_parts_by_rule (T.cs.map (·.2)))) := by
  obtain ⟨c0, hcd, P0, hcs⟩ := T.lam_parts_by_rule
  refine fnBC (N := n_parts_by_rule) T.f_parts_by_rule.F sc_parts_by_rule fun A outer s H E hr => ?_
  have nd := sc_parts_by_rule.nd
  have tk := takes_of (X := cxOf (L2.CX P w) P w K mg base n_parts_by_rule "parts_by_rule" (defScope s_parts_by_rule) T.f_parts_by_rule.a T.f_parts_by_rule.fd.code A outer s H E) (E := E) rfl rfl rfl rfl
  exact ⟨_, (dss_cons (ds_set (i := 2) nd (de_lstO da_nil))
  (dss_cons (ds_set (i := 3) nd (de_lst (da_cons (de_var 1) da_nil)))
  (dss_cons (ds_for (passes_of rfl) rfl (di_rev1 T.n_reversed T.n_range (de_callB cd_len T.n_len (da_cons (de_var 0) da_nil))) (dg_name (i := 4) nd) (dss_cons (ds_set (i := 5) nd (de_ix (de_ix (de_var 0) (de_var 4)) de_int))
  (dss_cons (ds_for (passes_of rfl) rfl (di_list (de_var 3)) (dg_name (i := 6) nd) (dss_cons (ds_set (i := 7) nd (de_callA ((ok_common T).mono (by decide)) hr tk T.f_common.m T.f_common.F.kp T.f_common.b (da_cons (de_var 6) (da_cons (de_var 5) da_nil))))
  (dss_one (ds_if (dt_notN (de_var 7)) (dss_one (ds_expr (de_mth md_app (de_var 2) (da_cons (de_tup (da_cons (de_var 7) (da_cons (de_var 4) da_nil))) da_nil) PySem.F.plainAttrs_list PySem.F.slot_list_append PySem.F.type_list_append))) dss_nil))))
  (dss_one (ds_setLc2 (i := 3) nd rfl (di_list (de_var 3)) (blkOk_by (own := [((PySem.Str.ofString "part"), 6), ((PySem.Str.ofString "piece"), 8)]) (N := n_parts_by_rule) (sc := defScope s_parts_by_rule) (by decide +kernel)) (fun _ _ _ _ _ => (dg_name (i := 6) nd)) (fun _ _ _ _ _ => dpt_nil) (fun _ _ _ _ _ => (di_list (de_callA ((ok_without T).mono (by decide)) hr takes0 T.f_without.m T.f_without.F.kp T.f_without.b (da_cons (de_var 6) (da_cons (de_var 5) da_nil))))) (fun _ _ _ _ _ => (dg_name (i := 8) nd)) (fun _ _ _ _ _ => dpt_nil) (fun _ _ _ _ _ => (de_var 8)))))))
  (dss_one (ds_ret (de_sortL (k := 1) 0 (tb_of hB hcs) hcd hr (by decide) T.n_sorted (de_frz (de_var 2)) (NdefX.nscope_by (N := ["pair"]) (ps := ["pair"]) (fr := []) (by decide +kernel)) (fun _ _ _ _ us hl => match us, hl with | [_], _ => rfl) (fun _ _ _ _ _ _ _ hr => ⟨_, (de_callA ((ok_place_key T).mono (by decide)) hr takes0 T.f_place_key.m T.f_place_key.F.kp T.f_place_key.b (da_cons (de_ix (de_ix (de_var 0) de_int) de_int) da_nil))⟩)))))))⟩
theorem ok_refused_parts (T : Tx K w mg) (hB : ∀ p ∈ T.cs, LamX.TabB base mg p.1 p.2) : FnOk P w K mg base (L2.CX P w) 6 T.f_refused_parts.a T.f_refused_parts.fd ["rules", "user", "right", "area"] (spB K 4 (m_refused_parts (T.cs.map (·.2)))) := by
  refine fnB (N := n_refused_parts) T.f_refused_parts.F sc_refused_parts fun cdv A outer s H E hr => ?_
  have nd := sc_refused_parts.nd
  have tk := takes_of (X := cxOf (L2.CX P w) P w K mg base n_refused_parts "refused_parts" (defScope s_refused_parts) T.f_refused_parts.a cdv A outer s H E) (E := E) rfl rfl rfl rfl
  exact ⟨_, (dss_one (ds_ret (de_lc nd rfl (di_list (de_callB' ((ok_parts_by_rule T hB).mono (by decide)) hr tk T.f_parts_by_rule.m T.f_parts_by_rule.F.kp T.f_parts_by_rule.b (da_cons (de_var 0) (da_cons (de_var 3) da_nil)))) (blkOk_by (own := [((PySem.Str.ofString "part"), 4), ((PySem.Str.ofString "index"), 5)]) (N := n_refused_parts) (sc := defScope s_refused_parts) (by decide +kernel)) (fun _ _ _ _ _ => (dg_tup rfl (dgs_cons (dg_name (i := 4) nd) (dgs_cons (dg_name (i := 5) nd) dgs_nil)))) (fun _ _ _ _ _ => (dpt_one (dt_cmp (od_nin (units65 hr)) bool_dNin (de_var 1) (de_callA ((ok_users_with T).mono (by decide)) hr takes0 T.f__users_with.m T.f__users_with.F.kp T.f__users_with.b (da_cons (de_ix (de_var 0) (de_var 5)) (da_cons (de_var 2) da_nil)))))) (fun _ _ _ _ _ => (de_var 4)))))⟩
theorem top_law (T : Tx K w mg) (hB : ∀ p ∈ T.cs, LamX.TabB base mg p.1 p.2) : TopB P w K mg base n_law "law" s_law T.f_law.a 6 (b_law (T.cs.map (·.2))) := by
  intro cdv s H E hr
  have nd := sc_law.nd
  have tk := takes_of (X := cxOf (L2.CX P w) P w K mg base n_law "law" (defScope s_law) T.f_law.a cdv callerA [] s H E) (E := E) rfl rfl rfl rfl
  exact ⟨_, (dss_cons (ds_set (i := 1) nd (de_callB' ((ok_l_state T).mono (by decide)) hr tk T.f__law_state.m T.f__law_state.F.kp T.f__law_state.b (da_cons (de_var 0) da_nil)))
  (dss_cons (ds_set (i := 2) nd (de_bin od_add2 de_int (de_callB' ((ok_l_take T).mono (by decide)) hr tk T.f__law_take.m T.f__law_take.F.kp T.f__law_take.b (da_cons (de_var 1) (da_cons de_int da_nil)))))
  (dss_cons (ds_set (i := 3) nd (de_callB' ((ok_l_rules T).mono (by decide)) hr tk T.f__law_rules.m T.f__law_rules.F.kp T.f__law_rules.b (da_cons (de_var 1) (da_cons (de_var 2) (da_cons de_int da_nil)))))
  (dss_cons (ds_set (i := 4) nd (de_callB (cd_repr rfl (units66 hr)) T.n_repr (da_cons (de_var 3) da_nil)))
  (dss_cons (ds_for (passes_of rfl) rfl (di_range1 T.n_range (da_cons de_int da_nil)) (dg_name (i := 5) nd) (dss_cons (ds_set (i := 6) nd (de_callB' ((ok_l_take T).mono (by decide)) hr tk T.f__law_take.m T.f__law_take.F.kp T.f__law_take.b (da_cons (de_var 1) (da_cons de_int da_nil))))
  (dss_cons (ds_set (i := 7) nd (de_ix (de_lst (da_cons de_str (da_cons de_str (da_cons de_str da_nil)))) (de_var 6)))
  (dss_cons (ds_set (i := 8) nd (de_callB' ((ok_l_address T).mono (by decide)) hr tk T.f__law_address.m T.f__law_address.F.kp T.f__law_address.b (da_cons (de_var 1) da_nil)))
  (dss_cons (ds_set (i := 9) nd (de_callA ((ok_l_rule T).mono (by decide)) hr tk T.f__law_rule.m T.f__law_rule.F.kp T.f__law_rule.b (da_cons (de_var 3) (da_cons (de_var 8) da_nil))))
  (dss_cons (ds_set (i := 10) nd (de_callB' ((ok_l_take T).mono (by decide)) hr tk T.f__law_take.m T.f__law_take.F.kp T.f__law_take.b (da_cons (de_var 1) (da_cons (de_var 2) da_nil))))
  (dss_cons (ds_if (dt_w (dw_or (dt_cmp (od_ne hr.units) bool_dNe (de_callA ((ok_rule_at T).mono (by decide)) hr tk T.f_rule_at.m T.f_rule_at.F.kp T.f_rule_at.b (da_cons (de_var 3) (da_cons (de_var 8) da_nil))) (de_callA ((ok_l_last T).mono (by decide)) hr tk T.f__law_last.m T.f__law_last.F.kp T.f__law_last.b (da_cons (de_var 3) (da_cons (de_var 8) da_nil)))) (dw_or1 (dt_cmp (od_ne hr.units) bool_dNe (de_callA ((ok_allowed T).mono (by decide)) hr tk T.f_allowed.m T.f_allowed.F.kp T.f_allowed.b (da_cons (de_var 3) (da_cons (de_var 7) (da_cons (de_var 8) da_nil)))) (de_ix (de_var 9) (de_bin od_add2 de_int (de_var 6))))))) (dss_one (ds_ret de_bl)) dss_nil)
  (dss_cons (ds_if (dt_cmp (od_ne hr.units) bool_dNe (de_callB (cd_repr rfl (units66 hr)) T.n_repr (da_cons (de_callA ((ok_may T).mono (by decide)) hr tk T.f_may.m T.f_may.F.kp T.f_may.b (da_cons (de_var 3) (da_cons (de_var 10) (da_cons (de_var 7) (da_cons (de_var 8) da_nil))))) da_nil)) (de_callB (cd_repr rfl (units66 hr)) T.n_repr (da_cons (de_cmp (od_in (units65 hr)) (de_var 10) (de_ix (de_var 9) (de_bin od_add2 de_int (de_var 6)))) da_nil))) (dss_one (ds_ret de_bl)) dss_nil)
  (dss_cons (ds_set (i := 11) nd (de_callB' ((ok_l_area T).mono (by decide)) hr tk T.f__law_area.m T.f__law_area.F.kp T.f__law_area.b (da_cons (de_var 1) da_nil)))
  (dss_cons (ds_if (dt_not (dt_tru (de_callA ((ok_l_parts T).mono (by decide)) hr tk T.f__law_parts.m T.f__law_parts.F.kp T.f__law_parts.b (da_cons (de_var 3) (da_cons (de_var 11) (da_cons (de_callB' ((ok_parts_by_rule T hB).mono (by decide)) hr tk T.f_parts_by_rule.m T.f_parts_by_rule.F.kp T.f_parts_by_rule.b (da_cons (de_var 3) (da_cons (de_var 11) da_nil))) da_nil)))))) (dss_one (ds_ret de_bl)) dss_nil)
  (dss_cons (ds_setLc (i := 12) nd rfl (di_range1 T.n_range (da_cons (de_var 2) da_nil)) (blkOk_by (own := [((PySem.Str.ofString "one"), 15)]) (N := n_law) (sc := defScope s_law) (by decide +kernel)) (fun _ _ _ _ _ => (dg_name (i := 15) nd)) (fun _ _ _ _ _ => (dpt_one (dt_tru (de_callA ((ok_l_on_all T).mono (by decide)) hr takes0 T.f__law_on_all.m T.f__law_on_all.F.kp T.f__law_on_all.b (da_cons (de_var 3) (da_cons (de_var 15) (da_cons (de_bin od_add2 de_int (de_var 6)) (da_cons (de_var 11) da_nil)))))))) (fun _ _ _ _ _ => (de_var 15)))
  (dss_cons (ds_if (dt_w (dw_or (dt_cmp (od_ne hr.units) bool_dNe (de_callA ((ok_allowed_all T).mono (by decide)) hr tk T.f_allowed_all.m T.f_allowed_all.F.kp T.f_allowed_all.b (da_cons (de_var 3) (da_cons (de_var 7) (da_cons (de_var 11) (da_cons (de_var 2) da_nil))))) (de_var 12)) (dw_or1 (dt_cmp (od_ne hr.units) bool_dNe (de_callB (cd_repr rfl (units66 hr)) T.n_repr (da_cons (de_callA ((ok_may_all T).mono (by decide)) hr tk T.f_may_all.m T.f_may_all.F.kp T.f_may_all.b (da_cons (de_var 3) (da_cons (de_var 10) (da_cons (de_var 7) (da_cons (de_var 11) da_nil))))) da_nil)) (de_callB (cd_repr rfl (units66 hr)) T.n_repr (da_cons (de_cmp (od_in (units65 hr)) (de_var 10) (de_var 12)) da_nil)))))) (dss_one (ds_ret de_bl)) dss_nil)
  (dss_cons (ds_set (i := 13) nd (de_lst da_nil))
  (dss_cons (ds_for (passes_of rfl) rfl (di_list (de_callB' ((ok_refused_parts T hB).mono (by decide)) hr tk T.f_refused_parts.m T.f_refused_parts.F.kp T.f_refused_parts.b (da_cons (de_var 3) (da_cons (de_var 10) (da_cons (de_var 7) (da_cons (de_var 11) da_nil)))))) (dg_name (i := 14) nd) (dss_one (ds_set (i := 13) nd (de_bin od_add2 (de_var 13) (de_callA ((ok_l_cells T).mono (by decide)) hr tk T.f__law_cells.m T.f__law_cells.F.kp T.f__law_cells.b (da_cons (de_var 14) da_nil))))))
  (dss_one (ds_if (dt_cmp (od_ne hr.units) bool_dNe (de_callB (cd_sort (units67 hr)) T.n_sorted (da_cons (de_var 13) da_nil)) (de_callB (cd_sort (units67 hr)) T.n_sorted (da_cons (de_lc nd rfl (di_list (de_callA ((ok_l_cells T).mono (by decide)) hr tk T.f__law_cells.m T.f__law_cells.F.kp T.f__law_cells.b (da_cons (de_var 11) da_nil))) (blkOk_by (own := [((PySem.Str.ofString "one"), 15)]) (N := n_law) (sc := defScope s_law) (by decide +kernel)) (fun _ _ _ _ _ => (dg_name (i := 15) nd)) (fun _ _ _ _ _ => (dpt_one (dt_cmp (od_nin (units65 hr)) bool_dNin (de_var 10) (de_ix (de_callA ((ok_l_rule T).mono (by decide)) hr takes0 T.f__law_rule.m T.f__law_rule.F.kp T.f__law_rule.b (da_cons (de_var 3) (da_cons (de_var 15) da_nil))) (de_bin od_add2 de_int (de_var 6)))))) (fun _ _ _ _ _ => (de_var 15))) da_nil))) (dss_one (ds_ret de_bl)) dss_nil))))))))))))))))
  (dss_one (ds_ret (de_and (de_cmp (od_eq hr.units) (de_callB (cd_repr rfl (units66 hr)) T.n_repr (da_cons (de_var 3) da_nil)) (de_var 4)) (de_one (de_cmp (od_eq hr.units) (de_gc T.c_RIGHTS) (de_lst (da_cons de_str (da_cons de_str (da_cons de_str da_nil))))))))))))))⟩
end
theorem all_mk {l : PySem.W.OpenLaw} {w : World} {K : PySem.W.Frag} {h : Heap} {mg : Str → Option Value} {fa f0 f1 f2 f3 f4 f5 f6 f7 f8 f9 f10 f11 f12 f13 f14 f15 f16 f17 f18 f19 f20 f21 f22 f23 f24 f25 f26 f27 f28 f29 f30 cc28 : Addr} (X : K.In h) (G : h.Ns mainGlobals mg) (hfa : mg "law" = some (.ref fa))
    {od0 an0 od1 an1 od2 an2 od3 an3 od4 an4 od5 an5 od6 an6 od7 an7 od8 an8 od9 an9 od10 an10 od11 an11 od12 an12 od13 an13 od14 an14 od15 an15 od16 an16 od17 an17 od18 an18 od19 an19 od20 an20 od21 an21 od22 an22 od23 an23 od24 an24 od25 an25 od26 an26 od27 an27 od28 an28 od29 an29 od30 an30 : Option Addr} {sl0 sl1 sl2 sl3 sl4 sl5 sl6 sl7 sl8 sl9 sl10 sl11 sl12 sl13 sl14 sl15 sl16 sl17 sl18 sl19 sl20 sl21 sl22 sl23 sl24 sl25 sl26 sl27 sl28 sl29 sl30 : Array (Option Value)} {oc0 kV0 dc0 pm0 cd0 ct0 oc1 kV1 dc1 pm1 cd1 ct1 oc2 kV2 dc2 pm2 cd2 ct2 oc3 kV3 dc3 pm3 cd3 ct3 oc4 kV4 dc4 pm4 cd4 ct4 oc5 kV5 dc5 pm5 cd5 ct5 oc6 kV6 dc6 pm6 cd6 ct6 oc7 kV7 dc7 pm7 cd7 ct7 oc8 kV8 dc8 pm8 cd8 ct8 oc9 kV9 dc9 pm9 cd9 ct9 oc10 kV10 dc10 pm10 cd10 ct10 oc11 kV11 dc11 pm11 cd11 ct11 oc12 kV12 dc12 pm12 cd12 ct12 oc13 kV13 dc13 pm13 cd13 ct13 oc14 kV14 dc14 pm14 cd14 ct14 oc15 kV15 dc15 pm15 cd15 ct15 oc16 kV16 dc16 pm16 cd16 ct16 oc17 kV17 dc17 pm17 cd17 ct17 oc18 kV18 dc18 pm18 cd18 ct18 oc19 kV19 dc19 pm19 cd19 ct19 oc20 kV20 dc20 pm20 cd20 ct20 oc21 kV21 dc21 pm21 cd21 ct21 oc22 kV22 dc22 pm22 cd22 ct22 oc23 kV23 dc23 pm23 cd23 ct23 oc24 kV24 dc24 pm24 cd24 ct24 oc25 kV25 dc25 pm25 cd25 ct25 oc26 kV26 dc26 pm26 cd26 ct26 oc27 kV27 dc27 pm27 cd27 ct27 oc28 kV28 dc28 pm28 ct28 oc29 kV29 dc29 pm29 cd29 ct29 oc30 kV30 dc30 pm30 cd30 ct30 : Value} {t_RIGHTS_0 : Tok} {t_RIGHTS_1 : Tok} {t_RIGHTS_2 : Tok} {a_RIGHTS : Addr} {z_RIGHTS : Nat} {w_RIGHTS : Array (Option Value)} {t_COLUMNS : Tok}
        (a0 : PySem.W.nsIn K mainGlobals "_law_take" = some (some (.ref f0))) (l0 : K.lookup f0 = some ⟨oc0, od0, .func (PySem.W.fnOf "_law_take" "_law_take" (defArgs s_l_take) (defBody s_l_take) (defScope s_l_take) .none kV0 dc0 pm0 an0 cd0 ct0), sl0⟩) (c0 : PySem.W.codeIn K cd0 "_law_take" = true) (k0 : PySem.W.keepIn K (.ref f0) = true)
    (a1 : PySem.W.nsIn K mainGlobals "_law_address" = some (some (.ref f1))) (l1 : K.lookup f1 = some ⟨oc1, od1, .func (PySem.W.fnOf "_law_address" "_law_address" (defArgs s_l_address) (defBody s_l_address) (defScope s_l_address) .none kV1 dc1 pm1 an1 cd1 ct1), sl1⟩) (c1 : PySem.W.codeIn K cd1 "_law_address" = true) (k1 : PySem.W.keepIn K (.ref f1) = true)
    (a2 : PySem.W.nsIn K mainGlobals "_law_near" = some (some (.ref f2))) (l2 : K.lookup f2 = some ⟨oc2, od2, .func (PySem.W.fnOf "_law_near" "_law_near" (defArgs s_l_near) (defBody s_l_near) (defScope s_l_near) .none kV2 dc2 pm2 an2 cd2 ct2), sl2⟩) (c2 : PySem.W.codeIn K cd2 "_law_near" = true) (k2 : PySem.W.keepIn K (.ref f2) = true)
    (a3 : PySem.W.nsIn K mainGlobals "_law_area" = some (some (.ref f3))) (l3 : K.lookup f3 = some ⟨oc3, od3, .func (PySem.W.fnOf "_law_area" "_law_area" (defArgs s_l_area) (defBody s_l_area) (defScope s_l_area) .none kV3 dc3 pm3 an3 cd3 ct3), sl3⟩) (c3 : PySem.W.codeIn K cd3 "_law_area" = true) (k3 : PySem.W.keepIn K (.ref f3) = true)
    (a4 : PySem.W.nsIn K mainGlobals "_law_cells" = some (some (.ref f4))) (l4 : K.lookup f4 = some ⟨oc4, od4, .func (PySem.W.fnOf "_law_cells" "_law_cells" (defArgs s_l_cells) (defBody s_l_cells) (defScope s_l_cells) .none kV4 dc4 pm4 an4 cd4 ct4), sl4⟩) (c4 : PySem.W.codeIn K cd4 "_law_cells" = true) (k4 : PySem.W.keepIn K (.ref f4) = true)
    (a5 : PySem.W.nsIn K mainGlobals "_law_has" = some (some (.ref f5))) (l5 : K.lookup f5 = some ⟨oc5, od5, .func (PySem.W.fnOf "_law_has" "_law_has" (defArgs s_l_has) (defBody s_l_has) (defScope s_l_has) .none kV5 dc5 pm5 an5 cd5 ct5), sl5⟩) (c5 : PySem.W.codeIn K cd5 "_law_has" = true) (k5 : PySem.W.keepIn K (.ref f5) = true)
    (a6 : PySem.W.nsIn K mainGlobals "_law_last" = some (some (.ref f6))) (l6 : K.lookup f6 = some ⟨oc6, od6, .func (PySem.W.fnOf "_law_last" "_law_last" (defArgs s_l_last) (defBody s_l_last) (defScope s_l_last) .none kV6 dc6 pm6 an6 cd6 ct6), sl6⟩) (c6 : PySem.W.codeIn K cd6 "_law_last" = true) (k6 : PySem.W.keepIn K (.ref f6) = true)
    (a7 : PySem.W.nsIn K mainGlobals "_law_rule" = some (some (.ref f7))) (l7 : K.lookup f7 = some ⟨oc7, od7, .func (PySem.W.fnOf "_law_rule" "_law_rule" (defArgs s_l_rule) (defBody s_l_rule) (defScope s_l_rule) .none kV7 dc7 pm7 an7 cd7 ct7), sl7⟩) (c7 : PySem.W.codeIn K cd7 "_law_rule" = true) (k7 : PySem.W.keepIn K (.ref f7) = true)
    (a8 : PySem.W.nsIn K mainGlobals "_law_on_all" = some (some (.ref f8))) (l8 : K.lookup f8 = some ⟨oc8, od8, .func (PySem.W.fnOf "_law_on_all" "_law_on_all" (defArgs s_l_on_all) (defBody s_l_on_all) (defScope s_l_on_all) .none kV8 dc8 pm8 an8 cd8 ct8), sl8⟩) (c8 : PySem.W.codeIn K cd8 "_law_on_all" = true) (k8 : PySem.W.keepIn K (.ref f8) = true)
    (a9 : PySem.W.nsIn K mainGlobals "_law_order" = some (some (.ref f9))) (l9 : K.lookup f9 = some ⟨oc9, od9, .func (PySem.W.fnOf "_law_order" "_law_order" (defArgs s_l_order) (defBody s_l_order) (defScope s_l_order) .none kV9 dc9 pm9 an9 cd9 ct9), sl9⟩) (c9 : PySem.W.codeIn K cd9 "_law_order" = true) (k9 : PySem.W.keepIn K (.ref f9) = true)
    (a10 : PySem.W.nsIn K mainGlobals "_law_parts" = some (some (.ref f10))) (l10 : K.lookup f10 = some ⟨oc10, od10, .func (PySem.W.fnOf "_law_parts" "_law_parts" (defArgs s_l_parts) (defBody s_l_parts) (defScope s_l_parts) .none kV10 dc10 pm10 an10 cd10 ct10), sl10⟩) (c10 : PySem.W.codeIn K cd10 "_law_parts" = true) (k10 : PySem.W.keepIn K (.ref f10) = true)
    (a11 : PySem.W.nsIn K mainGlobals "_law_users" = some (some (.ref f11))) (l11 : K.lookup f11 = some ⟨oc11, od11, .func (PySem.W.fnOf "_law_users" "_law_users" (defArgs s_l_users) (defBody s_l_users) (defScope s_l_users) .none kV11 dc11 pm11 an11 cd11 ct11), sl11⟩) (c11 : PySem.W.codeIn K cd11 "_law_users" = true) (k11 : PySem.W.keepIn K (.ref f11) = true)
    (a12 : PySem.W.nsIn K mainGlobals "_law_rules" = some (some (.ref f12))) (l12 : K.lookup f12 = some ⟨oc12, od12, .func (PySem.W.fnOf "_law_rules" "_law_rules" (defArgs s_l_rules) (defBody s_l_rules) (defScope s_l_rules) .none kV12 dc12 pm12 an12 cd12 ct12), sl12⟩) (c12 : PySem.W.codeIn K cd12 "_law_rules" = true) (k12 : PySem.W.keepIn K (.ref f12) = true)
    (a13 : PySem.W.nsIn K mainGlobals "_law_state" = some (some (.ref f13))) (l13 : K.lookup f13 = some ⟨oc13, od13, .func (PySem.W.fnOf "_law_state" "_law_state" (defArgs s_l_state) (defBody s_l_state) (defScope s_l_state) .none kV13 dc13 pm13 an13 cd13 ct13), sl13⟩) (c13 : PySem.W.codeIn K cd13 "_law_state" = true) (k13 : PySem.W.keepIn K (.ref f13) = true)
    (a14 : PySem.W.nsIn K mainGlobals "_users_with" = some (some (.ref f14))) (l14 : K.lookup f14 = some ⟨oc14, od14, .func (PySem.W.fnOf "_users_with" "_users_with" (defArgs s_users_with) (defBody s_users_with) (defScope s_users_with) .none kV14 dc14 pm14 an14 cd14 ct14), sl14⟩) (c14 : PySem.W.codeIn K cd14 "_users_with" = true) (k14 : PySem.W.keepIn K (.ref f14) = true)
    (a15 : PySem.W.nsIn K mainGlobals "inside" = some (some (.ref f15))) (l15 : K.lookup f15 = some ⟨oc15, od15, .func (PySem.W.fnOf "inside" "inside" (defArgs s_inside) (defBody s_inside) (defScope s_inside) .none kV15 dc15 pm15 an15 cd15 ct15), sl15⟩) (c15 : PySem.W.codeIn K cd15 "inside" = true) (k15 : PySem.W.keepIn K (.ref f15) = true)
    (a16 : PySem.W.nsIn K mainGlobals "rule_at" = some (some (.ref f16))) (l16 : K.lookup f16 = some ⟨oc16, od16, .func (PySem.W.fnOf "rule_at" "rule_at" (defArgs s_rule_at) (defBody s_rule_at) (defScope s_rule_at) .none kV16 dc16 pm16 an16 cd16 ct16), sl16⟩) (c16 : PySem.W.codeIn K cd16 "rule_at" = true) (k16 : PySem.W.keepIn K (.ref f16) = true)
    (a17 : PySem.W.nsIn K mainGlobals "allowed" = some (some (.ref f17))) (l17 : K.lookup f17 = some ⟨oc17, od17, .func (PySem.W.fnOf "allowed" "allowed" (defArgs s_allowed) (defBody s_allowed) (defScope s_allowed) .none kV17 dc17 pm17 an17 cd17 ct17), sl17⟩) (c17 : PySem.W.codeIn K cd17 "allowed" = true) (k17 : PySem.W.keepIn K (.ref f17) = true)
    (a18 : PySem.W.nsIn K mainGlobals "index_of" = some (some (.ref f18))) (l18 : K.lookup f18 = some ⟨oc18, od18, .func (PySem.W.fnOf "index_of" "index_of" (defArgs s_index_of) (defBody s_index_of) (defScope s_index_of) .none kV18 dc18 pm18 an18 cd18 ct18), sl18⟩) (c18 : PySem.W.codeIn K cd18 "index_of" = true) (k18 : PySem.W.keepIn K (.ref f18) = true)
    (a19 : PySem.W.nsIn K mainGlobals "mask_of" = some (some (.ref f19))) (l19 : K.lookup f19 = some ⟨oc19, od19, .func (PySem.W.fnOf "mask_of" "mask_of" (defArgs s_mask_of) (defBody s_mask_of) (defScope s_mask_of) .none kV19 dc19 pm19 an19 cd19 ct19), sl19⟩) (c19 : PySem.W.codeIn K cd19 "mask_of" = true) (k19 : PySem.W.keepIn K (.ref f19) = true)
    (a20 : PySem.W.nsIn K mainGlobals "refused_set" = some (some (.ref f20))) (l20 : K.lookup f20 = some ⟨oc20, od20, .func (PySem.W.fnOf "refused_set" "refused_set" (defArgs s_refused_set) (defBody s_refused_set) (defScope s_refused_set) .none kV20 dc20 pm20 an20 cd20 ct20), sl20⟩) (c20 : PySem.W.codeIn K cd20 "refused_set" = true) (k20 : PySem.W.keepIn K (.ref f20) = true)
    (a21 : PySem.W.nsIn K mainGlobals "may_all" = some (some (.ref f21))) (l21 : K.lookup f21 = some ⟨oc21, od21, .func (PySem.W.fnOf "may_all" "may_all" (defArgs s_may_all) (defBody s_may_all) (defScope s_may_all) .none kV21 dc21 pm21 an21 cd21 ct21), sl21⟩) (c21 : PySem.W.codeIn K cd21 "may_all" = true) (k21 : PySem.W.keepIn K (.ref f21) = true)
    (a22 : PySem.W.nsIn K mainGlobals "allowed_all" = some (some (.ref f22))) (l22 : K.lookup f22 = some ⟨oc22, od22, .func (PySem.W.fnOf "allowed_all" "allowed_all" (defArgs s_allowed_all) (defBody s_allowed_all) (defScope s_allowed_all) .none kV22 dc22 pm22 an22 cd22 ct22), sl22⟩) (c22 : PySem.W.codeIn K cd22 "allowed_all" = true) (k22 : PySem.W.keepIn K (.ref f22) = true)
    (a23 : PySem.W.nsIn K mainGlobals "may" = some (some (.ref f23))) (l23 : K.lookup f23 = some ⟨oc23, od23, .func (PySem.W.fnOf "may" "may" (defArgs s_may) (defBody s_may) (defScope s_may) .none kV23 dc23 pm23 an23 cd23 ct23), sl23⟩) (c23 : PySem.W.codeIn K cd23 "may" = true) (k23 : PySem.W.keepIn K (.ref f23) = true)
    (a24 : PySem.W.nsIn K mainGlobals "range_between" = some (some (.ref f24))) (l24 : K.lookup f24 = some ⟨oc24, od24, .func (PySem.W.fnOf "range_between" "range_between" (defArgs s_range_between) (defBody s_range_between) (defScope s_range_between) .none kV24 dc24 pm24 an24 cd24 ct24), sl24⟩) (c24 : PySem.W.codeIn K cd24 "range_between" = true) (k24 : PySem.W.keepIn K (.ref f24) = true)
    (a25 : PySem.W.nsIn K mainGlobals "common" = some (some (.ref f25))) (l25 : K.lookup f25 = some ⟨oc25, od25, .func (PySem.W.fnOf "common" "common" (defArgs s_common) (defBody s_common) (defScope s_common) .none kV25 dc25 pm25 an25 cd25 ct25), sl25⟩) (c25 : PySem.W.codeIn K cd25 "common" = true) (k25 : PySem.W.keepIn K (.ref f25) = true)
    (a26 : PySem.W.nsIn K mainGlobals "place_key" = some (some (.ref f26))) (l26 : K.lookup f26 = some ⟨oc26, od26, .func (PySem.W.fnOf "place_key" "place_key" (defArgs s_place_key) (defBody s_place_key) (defScope s_place_key) .none kV26 dc26 pm26 an26 cd26 ct26), sl26⟩) (c26 : PySem.W.codeIn K cd26 "place_key" = true) (k26 : PySem.W.keepIn K (.ref f26) = true)
    (a27 : PySem.W.nsIn K mainGlobals "without" = some (some (.ref f27))) (l27 : K.lookup f27 = some ⟨oc27, od27, .func (PySem.W.fnOf "without" "without" (defArgs s_without) (defBody s_without) (defScope s_without) .none kV27 dc27 pm27 an27 cd27 ct27), sl27⟩) (c27 : PySem.W.codeIn K cd27 "without" = true) (k27 : PySem.W.keepIn K (.ref f27) = true)
    (a28 : PySem.W.nsIn K mainGlobals "parts_by_rule" = some (some (.ref f28))) (l28 : K.lookup f28 = some ⟨oc28, od28, .func (PySem.W.fnOf "parts_by_rule" "parts_by_rule" (defArgs s_parts_by_rule) (defBody s_parts_by_rule) (defScope s_parts_by_rule) .none kV28 dc28 pm28 an28 (.ref cc28) ct28), sl28⟩) (c28 : PySem.W.codeIn K (.ref cc28) "parts_by_rule" = true) (k28 : PySem.W.keepIn K (.ref f28) = true)
    (a29 : PySem.W.nsIn K mainGlobals "refused_parts" = some (some (.ref f29))) (l29 : K.lookup f29 = some ⟨oc29, od29, .func (PySem.W.fnOf "refused_parts" "refused_parts" (defArgs s_refused_parts) (defBody s_refused_parts) (defScope s_refused_parts) .none kV29 dc29 pm29 an29 cd29 ct29), sl29⟩) (c29 : PySem.W.codeIn K cd29 "refused_parts" = true) (k29 : PySem.W.keepIn K (.ref f29) = true)
    (a30 : PySem.W.nsIn K mainGlobals "law" = some (some (.ref f30))) (l30 : K.lookup f30 = some ⟨oc30, od30, .func (PySem.W.fnOf "law" "law" (defArgs s_law) (defBody s_law) (defScope s_law) .none kV30 dc30 pm30 an30 cd30 ct30), sl30⟩) (c30 : PySem.W.codeIn K cd30 "law" = true) (k30 : PySem.W.keepIn K (.ref f30) = true)
    (g_RIGHTS : PySem.W.nsIn K mainGlobals "RIGHTS" = some (some (.ref a_RIGHTS))) (l_RIGHTS : K.lookup a_RIGHTS = some ⟨.type "list", none, .seq #[(.str (PySem.Str.ofString "read") t_RIGHTS_0), (.str (PySem.Str.ofString "write") t_RIGHTS_1), (.str (PySem.Str.ofString "own") t_RIGHTS_2)] z_RIGHTS, w_RIGHTS⟩)
    (g_COLUMNS : PySem.W.nsIn K mainGlobals "COLUMNS" = some (some (.int 26 t_COLUMNS)))
    (z_abs : PySem.W.nsIn K mainGlobals "abs" = some none)
    (z_enumerate : PySem.W.nsIn K mainGlobals "enumerate" = some none)
    (z_int : PySem.W.nsIn K mainGlobals "int" = some none)
    (z_len : PySem.W.nsIn K mainGlobals "len" = some none)
    (z_list : PySem.W.nsIn K mainGlobals "list" = some none)
    (z_max : PySem.W.nsIn K mainGlobals "max" = some none)
    (z_min : PySem.W.nsIn K mainGlobals "min" = some none)
    (z_range : PySem.W.nsIn K mainGlobals "range" = some none)
    (z_repr : PySem.W.nsIn K mainGlobals "repr" = some none)
    (z_reversed : PySem.W.nsIn K mainGlobals "reversed" = some none)
    (z_sorted : PySem.W.nsIn K mainGlobals "sorted" = some none)
    (h28 : PySem.W.codeHdIn K cc28 (codeTab K cc28) = true) (u28 : K.lookup (codeTab K cc28) = none) (t28 : h.get? (codeTab K cc28) = some (PySem.W.tabObj #[])) :
    ∃ (fd : FuncData) (cs : List (Addr × Addr)), (∀ p ∈ cs, h.get? p.2 = some { cls := .none, data := .fields #[] }) ∧ (∀ p ∈ cs, K.lookup p.2 = none) ∧ (∀ p ∈ cs, PySem.W.CodeHd h p.1 p.2) ∧ (cs.map (·.2)).Nodup ∧ cs.length = lamNms.length ∧
      Fun K "law" "law" s_law fa fd ∧ (∀ (s : Shared) (v : Value), BindsTo s fd ⟨[v], []⟩ [("script", v)]) ∧ ∀ base : Heap, K.In base → base.Ns mainGlobals mg → (∀ p ∈ cs, LamX.TabB base mg p.1 p.2) → TopB l.prog w K mg base n_law "law" s_law fa 6 (b_law (cs.map (·.2))) := by
  have e := hfa.symm.trans (PySem.W.mg_of X G a30)
  cases e
  let T : Tx K w mg := {
    f__law_take := ⟨_, _, fun_mk (st := s_l_take) l0 c0 k0, PySem.W.mg_of X G a0, (fun_mk (st := s_l_take) l0 c0 k0).binds (ps := ["state", "most"]) fun _ _ _ _ _ _ us hl => match us, hl with | [_, _], _ => rfl⟩
    f__law_address := ⟨_, _, fun_mk (st := s_l_address) l1 c1 k1, PySem.W.mg_of X G a1, (fun_mk (st := s_l_address) l1 c1 k1).binds (ps := ["state"]) fun _ _ _ _ _ _ us hl => match us, hl with | [_], _ => rfl⟩
    f__law_near := ⟨_, _, fun_mk (st := s_l_near) l2 c2 k2, PySem.W.mg_of X G a2, (fun_mk (st := s_l_near) l2 c2 k2).binds (ps := ["state"]) fun _ _ _ _ _ _ us hl => match us, hl with | [_], _ => rfl⟩
    f__law_area := ⟨_, _, fun_mk (st := s_l_area) l3 c3 k3, PySem.W.mg_of X G a3, (fun_mk (st := s_l_area) l3 c3 k3).binds (ps := ["state"]) fun _ _ _ _ _ _ us hl => match us, hl with | [_], _ => rfl⟩
    f__law_cells := ⟨_, _, fun_mk (st := s_l_cells) l4 c4 k4, PySem.W.mg_of X G a4, (fun_mk (st := s_l_cells) l4 c4 k4).binds (ps := ["area"]) fun _ _ _ _ _ _ us hl => match us, hl with | [_], _ => rfl⟩
    f__law_has := ⟨_, _, fun_mk (st := s_l_has) l5 c5 k5, PySem.W.mg_of X G a5, (fun_mk (st := s_l_has) l5 c5 k5).binds (ps := ["area", "address"]) fun _ _ _ _ _ _ us hl => match us, hl with | [_, _], _ => rfl⟩
    f__law_last := ⟨_, _, fun_mk (st := s_l_last) l6 c6 k6, PySem.W.mg_of X G a6, (fun_mk (st := s_l_last) l6 c6 k6).binds (ps := ["rules", "address"]) fun _ _ _ _ _ _ us hl => match us, hl with | [_, _], _ => rfl⟩
    f__law_rule := ⟨_, _, fun_mk (st := s_l_rule) l7 c7 k7, PySem.W.mg_of X G a7, (fun_mk (st := s_l_rule) l7 c7 k7).binds (ps := ["rules", "address"]) fun _ _ _ _ _ _ us hl => match us, hl with | [_, _], _ => rfl⟩
    f__law_on_all := ⟨_, _, fun_mk (st := s_l_on_all) l8 c8 k8, PySem.W.mg_of X G a8, (fun_mk (st := s_l_on_all) l8 c8 k8).binds (ps := ["rules", "user", "place", "area"]) fun _ _ _ _ _ _ us hl => match us, hl with | [_, _, _, _], _ => rfl⟩
    f__law_order := ⟨_, _, fun_mk (st := s_l_order) l9 c9 k9, PySem.W.mg_of X G a9, (fun_mk (st := s_l_order) l9 c9 k9).binds (ps := ["addresses"]) fun _ _ _ _ _ _ us hl => match us, hl with | [_], _ => rfl⟩
    f__law_parts := ⟨_, _, fun_mk (st := s_l_parts) l10 c10 k10, PySem.W.mg_of X G a10, (fun_mk (st := s_l_parts) l10 c10 k10).binds (ps := ["rules", "area", "parts"]) fun _ _ _ _ _ _ us hl => match us, hl with | [_, _, _], _ => rfl⟩
    f__law_users := ⟨_, _, fun_mk (st := s_l_users) l11 c11 k11, PySem.W.mg_of X G a11, (fun_mk (st := s_l_users) l11 c11 k11).binds (ps := ["state", "users"]) fun _ _ _ _ _ _ us hl => match us, hl with | [_, _], _ => rfl⟩
    f__law_rules := ⟨_, _, fun_mk (st := s_l_rules) l12 c12 k12, PySem.W.mg_of X G a12, (fun_mk (st := s_l_rules) l12 c12 k12).binds (ps := ["state", "users", "count"]) fun _ _ _ _ _ _ us hl => match us, hl with | [_, _, _], _ => rfl⟩
    f__law_state := ⟨_, _, fun_mk (st := s_l_state) l13 c13 k13, PySem.W.mg_of X G a13, (fun_mk (st := s_l_state) l13 c13 k13).binds (ps := ["script"]) fun _ _ _ _ _ _ us hl => match us, hl with | [_], _ => rfl⟩
    f__users_with := ⟨_, _, fun_mk (st := s_users_with) l14 c14 k14, PySem.W.mg_of X G a14, (fun_mk (st := s_users_with) l14 c14 k14).binds (ps := ["rule", "right"]) fun _ _ _ _ _ _ us hl => match us, hl with | [_, _], _ => rfl⟩
    f_inside := ⟨_, _, fun_mk (st := s_inside) l15 c15 k15, PySem.W.mg_of X G a15, (fun_mk (st := s_inside) l15 c15 k15).binds (ps := ["address", "area"]) fun _ _ _ _ _ _ us hl => match us, hl with | [_, _], _ => rfl⟩
    f_rule_at := ⟨_, _, fun_mk (st := s_rule_at) l16 c16 k16, PySem.W.mg_of X G a16, (fun_mk (st := s_rule_at) l16 c16 k16).binds (ps := ["rules", "address"]) fun _ _ _ _ _ _ us hl => match us, hl with | [_, _], _ => rfl⟩
    f_allowed := ⟨_, _, fun_mk (st := s_allowed) l17 c17 k17, PySem.W.mg_of X G a17, (fun_mk (st := s_allowed) l17 c17 k17).binds (ps := ["rules", "right", "address"]) fun _ _ _ _ _ _ us hl => match us, hl with | [_, _, _], _ => rfl⟩
    f_index_of := ⟨_, _, fun_mk (st := s_index_of) l18 c18 k18, PySem.W.mg_of X G a18, (fun_mk (st := s_index_of) l18 c18 k18).binds (ps := ["address"]) fun _ _ _ _ _ _ us hl => match us, hl with | [_], _ => rfl⟩
    f_mask_of := ⟨_, _, fun_mk (st := s_mask_of) l19 c19 k19, PySem.W.mg_of X G a19, (fun_mk (st := s_mask_of) l19 c19 k19).binds (ps := ["area"]) fun _ _ _ _ _ _ us hl => match us, hl with | [_], _ => rfl⟩
    f_refused_set := ⟨_, _, fun_mk (st := s_refused_set) l20 c20 k20, PySem.W.mg_of X G a20, (fun_mk (st := s_refused_set) l20 c20 k20).binds (ps := ["rules", "user", "right"]) fun _ _ _ _ _ _ us hl => match us, hl with | [_, _, _], _ => rfl⟩
    f_may_all := ⟨_, _, fun_mk (st := s_may_all) l21 c21 k21, PySem.W.mg_of X G a21, (fun_mk (st := s_may_all) l21 c21 k21).binds (ps := ["rules", "user", "right", "area"]) fun _ _ _ _ _ _ us hl => match us, hl with | [_, _, _, _], _ => rfl⟩
    f_allowed_all := ⟨_, _, fun_mk (st := s_allowed_all) l22 c22 k22, PySem.W.mg_of X G a22, (fun_mk (st := s_allowed_all) l22 c22 k22).binds (ps := ["rules", "right", "area", "users"]) fun _ _ _ _ _ _ us hl => match us, hl with | [_, _, _, _], _ => rfl⟩
    f_may := ⟨_, _, fun_mk (st := s_may) l23 c23 k23, PySem.W.mg_of X G a23, (fun_mk (st := s_may) l23 c23 k23).binds (ps := ["rules", "user", "right", "address"]) fun _ _ _ _ _ _ us hl => match us, hl with | [_, _, _, _], _ => rfl⟩
    f_range_between := ⟨_, _, fun_mk (st := s_range_between) l24 c24 k24, PySem.W.mg_of X G a24, (fun_mk (st := s_range_between) l24 c24 k24).binds (ps := ["first", "last"]) fun _ _ _ _ _ _ us hl => match us, hl with | [_, _], _ => rfl⟩
    f_common := ⟨_, _, fun_mk (st := s_common) l25 c25 k25, PySem.W.mg_of X G a25, (fun_mk (st := s_common) l25 c25 k25).binds (ps := ["area", "other"]) fun _ _ _ _ _ _ us hl => match us, hl with | [_, _], _ => rfl⟩
    f_place_key := ⟨_, _, fun_mk (st := s_place_key) l26 c26 k26, PySem.W.mg_of X G a26, (fun_mk (st := s_place_key) l26 c26 k26).binds (ps := ["address"]) fun _ _ _ _ _ _ us hl => match us, hl with | [_], _ => rfl⟩
    f_without := ⟨_, _, fun_mk (st := s_without) l27 c27 k27, PySem.W.mg_of X G a27, (fun_mk (st := s_without) l27 c27 k27).binds (ps := ["area", "other"]) fun _ _ _ _ _ _ us hl => match us, hl with | [_, _], _ => rfl⟩
    f_parts_by_rule := ⟨_, _, fun_mk (st := s_parts_by_rule) l28 c28 k28, PySem.W.mg_of X G a28, (fun_mk (st := s_parts_by_rule) l28 c28 k28).binds (ps := ["rules", "area"]) fun _ _ _ _ _ _ us hl => match us, hl with | [_, _], _ => rfl⟩
    f_refused_parts := ⟨_, _, fun_mk (st := s_refused_parts) l29 c29 k29, PySem.W.mg_of X G a29, (fun_mk (st := s_refused_parts) l29 c29 k29).binds (ps := ["rules", "user", "right", "area"]) fun _ _ _ _ _ _ us hl => match us, hl with | [_, _, _, _], _ => rfl⟩
    f_law := ⟨_, _, fun_mk (st := s_law) l30 c30 k30, PySem.W.mg_of X G a30, (fun_mk (st := s_law) l30 c30 k30).binds (ps := ["script"]) fun _ _ _ _ _ _ us hl => match us, hl with | [_], _ => rfl⟩
    c_RIGHTS := gc_mk (v := (.ref a_RIGHTS)) (PySem.W.mg_of X G g_RIGHTS) rfl fun _ => (rep_klst (xs := [(.str (PySem.Str.ofString "read")), (.str (PySem.Str.ofString "write")), (.str (PySem.Str.ofString "own"))]) l_RIGHTS (by exact (by decide : 3 ≤ sizeLine)) (.cons ⟨_, rfl⟩ (.cons ⟨_, rfl⟩ (.cons ⟨_, rfl⟩ .nil))) (.cons (.str _) (.cons (.str _) (.cons (.str _) .nil))))
    c_COLUMNS := gc_mk (v := (.int 26)) (PySem.W.mg_of X G g_COLUMNS) ⟨_, rfl⟩ fun _ => (.int _)
    n_abs := PySem.W.mg_none_of X G z_abs
    n_enumerate := PySem.W.mg_none_of X G z_enumerate
    n_int := PySem.W.mg_none_of X G z_int
    n_len := PySem.W.mg_none_of X G z_len
    n_list := PySem.W.mg_none_of X G z_list
    n_max := PySem.W.mg_none_of X G z_max
    n_min := PySem.W.mg_none_of X G z_min
    n_range := PySem.W.mg_none_of X G z_range
    n_repr := PySem.W.mg_none_of X G z_repr
    n_reversed := PySem.W.mg_none_of X G z_reversed
    n_sorted := PySem.W.mg_none_of X G z_sorted
    cs := [(cc28, codeTab K cc28)]
    lam_parts_by_rule := ⟨cc28, rfl, _, rfl⟩ }
  exact ⟨PySem.W.fnOf "law" "law" (defArgs s_law) (defBody s_law) (defScope s_law) .none kV30 dc30 pm30 an30 cd30 ct30, [(cc28, codeTab K cc28)], (List.forall_mem_cons.mpr ⟨t28, (fun _ h => nomatch h)⟩), (List.forall_mem_cons.mpr ⟨u28, (fun _ h => nomatch h)⟩), (List.forall_mem_cons.mpr ⟨PySem.W.codeHd_of_K X h28, (fun _ h => nomatch h)⟩), (by simp), rfl, T.f_law.F, fun s v => .of_eq rfl, fun base _ _ hB => top_law T hB⟩
end Law
namespace Law
open PySem L2 DL
abbrev Ad := Int × Int
abbrev Ar := Ad × Ad
structure Rl where
  a : Ar
  r : List Int
  w : List Int
  o : List Int
deriving DecidableEq
instance enRl : En Rl := ⟨fun p => .tup [En.en p.a, En.en p.r, En.en p.w, En.en p.o], fun x y => by
    obtain ⟨a1, a2, a3, a4⟩ := x; obtain ⟨b1, b2, b3, b4⟩ := y
    by_cases h1 : a1 = b1 <;> by_cases h2 : a2 = b2 <;> by_cases h3 : a3 = b3 <;> by_cases h4 : a4 = b4 <;> simp [En.dq, h1, h2, h3, h4], fun a => by simp [En.ok], 4, fun a => by
    have h1 := En.dpl a.a; have h2 := En.dpl a.r; have h3 := En.dpl a.w; have h4 := En.dpl a.o
    have e1 : En.dp Ar = 2 := rfl
    have e2 : En.dp (List Int) = 1 := rfl
    simp; omega⟩
theorem en_int (i : Int) : (En.en i : D) = .int i := rfl
theorem en_pr {α β : Type} [DecidableEq α] [DecidableEq β] [En α] [En β] (x : α) (y : β) : (En.en (x, y) : D) = .tup [En.en x, En.en y] := rfl
theorem en_ls {α : Type} [DecidableEq α] [En α] (l : List α) : (En.en l : D) = .lst (l.map En.en) := rfl
theorem en_rl (p : Rl) : (En.en p : D) = .tup [En.en p.a, En.en p.r, En.en p.w, En.en p.o] := rfl
theorem en_ad (x : Ad) : (En.en x : D) = .tup [.int x.1, .int x.2] := rfl
theorem en_ar (x : Ar) : (En.en x : D) = .tup [.tup [.int x.1.1, .int x.1.2], .tup [.int x.2.1, .int x.2.2]] := rfl
def has (a : Ar) (x : Ad) : Bool := decide (a.1.1 ≤ x.1 ∧ x.1 ≤ a.2.1 ∧ a.1.2 ≤ x.2 ∧ x.2 ≤ a.2.2)
theorem bl4 (a b c d : Bool) : (if a = true then if b = true then if c = true then D.bl d else .bl false else .bl false else .bl false) = .bl (a && (b && (c && d))) := by cases a <;> cases b <;> cases c <;> rfl
theorem has_spec (a : Ar) (x : Ad) : m_l_has [En.en a, En.en x] = some (.ok (.bl (has a x))) := by
  obtain ⟨⟨p, q⟩, r, s⟩ := a; obtain ⟨u, v⟩ := x
  apply wpA.eq
  unfold has
  by_cases h1 : p ≤ u <;> by_cases h2 : u ≤ r <;> by_cases h3 : q ≤ v <;> by_cases h4 : v ≤ s <;>
  simp [m_l_has, b_l_has, en_ar, en_ad, h1, h2, h3, h4]
theorem inside_spec (a : Ar) (x : Ad) : m_inside [En.en x, En.en a] = some (.ok (.bl (has a x))) := by
  obtain ⟨⟨p, q⟩, r, s⟩ := a; obtain ⟨u, v⟩ := x
  apply wpA.eq
  unfold has
  by_cases h1 : p ≤ u <;> by_cases h2 : u ≤ r <;> by_cases h3 : q ≤ v <;> by_cases h4 : v ≤ s <;>
  simp [m_inside, b_inside, en_ar, en_ad, h1, h2, h3, h4]
/-! cells -/
def rowL : Int → Nat → Int → List Ad
  | _, 0, _ => []
  | c, n + 1, r => (c, r) :: rowL (c + 1) n r
def rowsL (c : Int) (nc : Nat) : Int → Nat → List Ad
  | _, 0 => []
  | r, n + 1 => rowL c nc r ++ rowsL c nc (r + 1) n
def cells (a : Ar) : List Ad := rowsL a.1.1 (a.2.1 + 1 - a.1.1).toNat a.1.2 (a.2.2 + 1 - a.1.2).toNat
theorem rowL_len : ∀ (n : Nat) (c r : Int), (rowL c n r).length = n
  | 0, _, _ => rfl
  | n + 1, c, r => by show (rowL (c + 1) n r).length + 1 = _; rw [rowL_len n]
theorem rowsL_len (c : Int) (nc : Nat) : ∀ (n : Nat) (r : Int), (rowsL c nc r n).length = n * nc
  | 0, _ => by simp [rowsL]
  | n + 1, r => by show (rowL c nc r ++ rowsL c nc (r + 1) n).length = _; rw [List.length_append, rowL_len, rowsL_len c nc n, Nat.succ_mul]; omega
theorem rowL_count (x : Ad) : ∀ (n : Nat) (c r : Int), (rowL c n r).count x = if x.2 = r ∧ c ≤ x.1 ∧ x.1 < c + n then 1 else 0
  | 0, c, r => by
    rw [if_neg (by omega)]; rfl
  | n + 1, c, r => by
    show ((c, r) :: rowL (c + 1) n r).count x = _
    rw [List.count_cons, rowL_count x n]
    obtain ⟨u, v⟩ := x
    have e : (((c, r) : Ad) == (u, v)) = decide (c = u ∧ r = v) := by
      rw [Bool.eq_iff_iff, beq_iff_eq, decide_eq_true_eq, Prod.mk.injEq]
    rw [e]
    simp only [decide_eq_true_eq]
    split <;> split <;> split <;> omega
theorem rowsL_count (x : Ad) (c : Int) (nc : Nat) : ∀ (n : Nat) (r : Int), (rowsL c nc r n).count x = if c ≤ x.1 ∧ x.1 < c + nc ∧ r ≤ x.2 ∧ x.2 < r + n then 1 else 0
  | 0, r => by
    rw [if_neg (by omega)]; rfl
  | n + 1, r => by
    show (rowL c nc r ++ rowsL c nc (r + 1) n).count x = _
    rw [List.count_append, rowL_count, rowsL_count x c nc n]
    split <;> split <;> split <;> omega
theorem cells_count (a : Ar) (x : Ad) : (cells a).count x = if has a x = true then 1 else 0 := by
  unfold cells has
  rw [rowsL_count]
  simp only [decide_eq_true_eq]
  split <;> split <;> omega
theorem cells_mem (a : Ar) (x : Ad) : x ∈ cells a ↔ has a x = true := by
  rw [← List.count_pos_iff, cells_count]
  split <;> simp_all
/-- no corner beyond the sheet -/
def okA (a : Ar) : Prop := 0 ≤ a.1.1 ∧ 0 ≤ a.1.2 ∧ a.2.1 < 26 ∧ a.2.2 < 99 ∧ a.1.1 ≤ 26 ∧ a.1.2 ≤ 99 ∧ -1 ≤ a.2.1 ∧ -1 ≤ a.2.2
theorem cells_len (a : Ar) (h : okA a) : (cells a).length ≤ 2574 := by
  unfold cells
  rw [rowsL_len]
  have h1 : (a.2.2 + 1 - a.1.2).toNat ≤ 99 := by have := h; unfold okA at this; omega
  have h2 : (a.2.1 + 1 - a.1.1).toNat ≤ 26 := by have := h; unfold okA at this; omega
  exact Nat.mul_le_mul h1 h2
theorem rng_ok {i : Int} (h : -1000000 ≤ i) (h2 : i ≤ 1000000) : rngOk i = true := by unfold rngOk; simp; omega
theorem compRow {l : List (Option DV)} {g : GM} {e : EM} {M : List O} (r : Int) (h : ∀ x, ∃ s1, g (.p (.int x)) ⟨l, M⟩ = some s1 ∧ s1.m = M ∧ e s1 = some (.ok (.p (En.en ((x, r) : Ad))) M)) : ∀ (n : Nat) (c : Int) (acc : List D), acc.length + n ≤ 1000000 → compL l g tYesM e (DL.intsFrom c n) acc M = some (acc ++ (rowL c n r).map En.en, M)
  | 0, c, acc, _ => by rw [ints0]; simp [compL, rowL]
  | n + 1, c, acc, hl => by
    rw [intsS]
    unfold compL
    obtain ⟨s1, h1, h2, h3⟩ := h c
    rw [h1]
    dsimp only
    have q : tYesM s1 = some (.ok (.p (.bl true)) s1.m) := rfl
    rw [q]
    dsimp only
    have q2 : e ⟨s1.l, s1.m⟩ = some (.ok (.p (En.en ((c, r) : Ad))) M) := h3
    rw [q2]
    dsimp only
    rw [if_pos (by omega), compRow r h n (c + 1) _ (by simp; omega)]
    simp [rowL]
theorem cells_loop (A : D) (a b c d : Int) (hA : A = .tup [.tup [.int a, .int b], .tup [.int c, .int d]]) (nc : Nat) (h1 : (c + 1 - a).toNat = nc) (ha : -1000 ≤ a) (ha2 : a ≤ 1000) (hc : -1000 ≤ c) (hc2 : c ≤ 1000) : ∀ (n : Nat) (r : Int) (acc : List Ad) (v2 : Option DV), acc.length + n * nc ≤ 1000000 → ∃ v2',
    loopS (gN 2) (sAsg (mBin dAdd2 (mVar 1) (mLc (mRng rng2D (aCons (mIx (mIx (mVar 0) (mC (.int 0))) (mC (.int 0))) (aCons (mBin dAdd2 (mIx (mIx (mVar 0) (mC (.int 1))) (mC (.int 0))) (mC (.int 1))) aNil))) [3] (gN 3) tYesM (disp .tup (aCons (mVar 3) (aCons (mVar 2) aNil))))) (gN 1)) (DL.intsFrom r n)
      ⟨[some (.p A), some (.p (.lst (acc.map En.en))), v2, none], []⟩ = some (.nx, ⟨[some (.p A), some (.p (.lst ((acc ++ rowsL a nc r n).map En.en))), v2', none], []⟩)
  | 0, r, acc, v4, _ => ⟨v4, by rw [ints0]; simp [rowsL]⟩
  | n + 1, r, acc, v4, hl => by
    have hl2 : acc.length + (n * nc + nc) ≤ 1000000 := by rw [Nat.succ_mul] at hl; exact hl
    obtain ⟨v4', ih⟩ := cells_loop A a b c d hA nc h1 ha ha2 hc hc2 n (r + 1) (acc ++ rowL a nc r) (some (.p (.int r))) (by rw [List.length_append, rowL_len]; omega)
    refine ⟨v4', ?_⟩
    rw [intsS, loopS_cons]
    have g1 := rng_ok (i := a) (by omega) (by omega)
    have g2 := rng_ok (i := c + 1) (by omega) (by omega)
    have e := compRow (l := [some (.p A), some (.p (.lst (acc.map En.en))), some (.p (.int r)), none]) (g := gN 3) (e := disp .tup (aCons (mVar 3) (aCons (mVar 2) aNil))) (M := []) r (fun x => ⟨_, rfl, rfl, by simp [e_bnd, en_ad]⟩) nc a [] (by simp; omega)
    have hr := rowL_len nc a r
    have hl3 : acc.length + (rowL a nc r).length ≤ 1000000 := by omega
    subst hA
    simp [e_bnd, e_lift, g1, g2, h1] at e ih ⊢
    rw [e]
    simp [hl3]
    rw [ih]
    simp [rowsL]
theorem cells_spec (a : Ar) (h : okA a) : m_l_cells [En.en a] = some (.ok (En.en (cells a))) := by
  obtain ⟨⟨p, q⟩, r, s⟩ := a
  have hh : 0 ≤ p ∧ 0 ≤ q ∧ r < 26 ∧ s < 99 ∧ p ≤ 26 ∧ q ≤ 99 ∧ -1 ≤ r ∧ -1 ≤ s := h
  have g1 := rng_ok (i := q) (by omega) (by omega)
  have g2 := rng_ok (i := s + 1) (by omega) (by omega)
  have hn : (s + 1 - q).toNat ≤ 1000 := by omega
  have hm : (r + 1 - p).toNat ≤ 1000 := by omega
  have hk := Nat.mul_le_mul hn hm
  obtain ⟨v4, e⟩ := cells_loop _ p q r s rfl _ rfl (by omega) (by omega) (by omega) (by omega) (s + 1 - q).toNat q [] none (by simp; omega)
  simp at e
  simp [e_bnd, e_seq, e_lift, e_runA, m_l_cells, b_l_cells, g1, g2, e, en_ar, en_ls, cells]
/-! two areas -/
def rb2 (x y : Ad) : Option Ar := if x.1 ≤ y.1 ∧ x.2 ≤ y.2 then some (x, y) else none
def enO {α : Type} [DecidableEq α] [En α] : Option α → D
  | some a => En.en a
  | none => .non
theorem rb2_spec (x y : Ad) : m_range_between [En.en x, En.en y] = some (.ok (enO (rb2 x y))) := by
  obtain ⟨p, q⟩ := x; obtain ⟨r, s⟩ := y
  apply wpA.eq
  unfold rb2
  by_cases h1 : p ≤ r <;> by_cases h2 : q ≤ s <;> simp [m_range_between, b_range_between, en_ar, en_ad, h1, h2, enO]
def iMax (a b : Int) : Int := if a < b then b else a
def iMin (a b : Int) : Int := if b < a then b else a
end Law
namespace Law
open PySem L2 DL
/-! the last rule at a cell -/
def pR (R : List Rl) (x : Ad) (i : Nat) : Bool := match R[i]? with
  | some r => has r.a x
  | none => false
def lastP (p : Nat → Bool) : Nat → Option Nat
  | 0 => none
  | n + 1 => if p n = true then some n else lastP p n
def idx (p : Nat → Bool) (n : Nat) : List Nat := (List.range n).filter p
theorem idx_last (p : Nat → Bool) : ∀ n, (idx p n).getLast? = lastP p n
  | 0 => rfl
  | n + 1 => by
    unfold idx lastP
    rw [List.range_succ, List.filter_append]
    by_cases h : p n = true
    · simp [h]
    · have := idx_last p n
      unfold idx at this
      simp [h, this]
theorem lastP_some (p : Nat → Bool) (j : Nat) : ∀ n, lastP p n = some j → j < n ∧ p j = true ∧ ∀ k, j < k → k < n → p k = false
  | 0, h => by cases h
  | n + 1, h => by
    unfold lastP at h
    split at h
    · cases h; rename_i q; exact ⟨by omega, q, fun k h1 h2 => by omega⟩
    · rename_i q
      obtain ⟨h1, h2, h3⟩ := lastP_some p j n h
      refine ⟨by omega, h2, fun k h4 h5 => ?_⟩
      by_cases e : k = n
      · rw [e]; simpa using q
      · exact h3 k h4 (by omega)
theorem lastP_ex (p : Nat → Bool) : ∀ n j, j < n → p j = true → ∃ i, lastP p n = some i
  | 0, _, h, _ => by omega
  | n + 1, j, h, hp => by
    unfold lastP
    by_cases q : p n = true
    · exact ⟨n, if_pos q⟩
    · rw [if_neg q]
      by_cases e : j = n
      · rw [e] at hp; exact absurd hp q
      · exact lastP_ex p n j (by omega) hp
def foldR (x : Ad) : List Rl → Rl → Rl
  | [], b => b
  | r :: l, b => foldR x l (if has r.a x = true then r else b)
theorem foldR_last (x : Ad) : ∀ (l : List Rl) (b : Rl), ((∀ i, pR l x i = false) ∧ foldR x l b = b) ∨ ∃ i, l[i]? = some (foldR x l b) ∧ pR l x i = true ∧ ∀ k, i < k → pR l x k = false
  | [], b => .inl ⟨fun i => by simp [pR], rfl⟩
  | r :: l, b => by
    have e0 : pR (r :: l) x 0 = has r.a x := by simp [pR]
    have eS : ∀ i, pR (r :: l) x (i + 1) = pR l x i := fun i => by simp [pR]
    rcases foldR_last x l (if has r.a x = true then r else b) with ⟨h1, h2⟩ | ⟨i, h1, h2, h3⟩
    · by_cases q : has r.a x = true
      · refine .inr ⟨0, ?_, e0.trans q, fun k hk => ?_⟩
        · show some r = some (foldR x l _)
          rw [h2, if_pos q]
        · obtain ⟨k, rfl⟩ : ∃ j, k = j + 1 := ⟨k - 1, by omega⟩
          rw [eS, h1]
      · refine .inl ⟨fun i => ?_, ?_⟩
        · cases i with
          | zero => rw [e0]; simpa using q
          | succ i => rw [eS, h1]
        · show foldR x l _ = b
          rw [h2, if_neg q]
    · refine .inr ⟨i + 1, h1, by rw [eS]; exact h2, fun k hk => ?_⟩
      obtain ⟨k, rfl⟩ : ∃ j, k = j + 1 := ⟨k - 1, by omega⟩
      rw [eS]; exact h3 k (by omega)
def rl0 : Rl := ⟨((0, 0), 0, 0), [], [], []⟩
def ru (R : List Rl) (x : Ad) : Rl := foldR x R (R.headD rl0)
def li (R : List Rl) (x : Ad) : Nat := (lastP (pR R x) R.length).getD 0
def Cov (R : List Rl) (x : Ad) : Prop := pR R x 0 = true
theorem Cov.lt {R : List Rl} {x : Ad} (h : Cov R x) : 0 < R.length := by
  cases R with
  | nil => cases h
  | cons r t => simp
theorem cov_last {R : List Rl} {x : Ad} (h : Cov R x) : lastP (pR R x) R.length = some (li R x) := by
  obtain ⟨i, e⟩ := lastP_ex (pR R x) R.length 0 h.lt h
  unfold li
  rw [e]; rfl
theorem pR_out {R : List Rl} {x : Ad} {k : Nat} (h : R.length ≤ k) : pR R x k = false := by
  unfold pR
  rw [List.getElem?_eq_none h]
theorem li_spec {R : List Rl} {x : Ad} (h : Cov R x) : li R x < R.length ∧ pR R x (li R x) = true ∧ ∀ k, li R x < k → pR R x k = false := by
  obtain ⟨h1, h2, h3⟩ := lastP_some _ _ _ (cov_last h)
  refine ⟨h1, h2, fun k hk => ?_⟩
  by_cases q : k < R.length
  · exact h3 k hk q
  · exact pR_out (by omega)
theorem li_uniq {R : List Rl} {x : Ad} (h : Cov R x) {i : Nat} (h2 : pR R x i = true) (h3 : ∀ k, i < k → pR R x k = false) : i = li R x := by
  obtain ⟨q1, q2, q3⟩ := li_spec h
  rcases Nat.lt_trichotomy i (li R x) with z | z | z
  · rw [h3 _ z] at q2; cases q2
  · exact z
  · rw [q3 _ z] at h2; cases h2
theorem ru_spec {R : List Rl} {x : Ad} (h : Cov R x) : R[li R x]? = some (ru R x) := by
  rcases foldR_last x R (R.headD rl0) with ⟨h1, _⟩ | ⟨i, h1, h2, h3⟩
  · have h : pR R x 0 = true := h
    rw [h1] at h; cases h
  · rw [← li_uniq h h2 h3]; exact h1
theorem at_last {α : Type} (xs : List α) : atI xs (-1) = xs.getLast? := by
  unfold atI ixN
  cases xs with
  | nil => rfl
  | cons x r =>
    rw [if_neg (by omega), if_pos (by simp; omega)]
    show (x :: r)[(((x :: r).length : Int) + -1).toNat]? = _
    rw [List.getLast?_eq_getElem?]
    congr 1
    simp only [List.length_cons]
    omega
def natD (i : Nat) : D := .int (i : Int)
def pdI (p : Nat → Bool) : DV → Bool
  | .p (.int i) => p i.toNat
  | .p (.tup [.int i, _]) => p i.toNat
  | _ => false
def fdI : DV → D
  | .p (.int i) => .int i
  | .p (.tup [.int i, _]) => .int i
  | _ => .non
theorem ints_idx (p : Nat → Bool) (n : Nat) : ((DL.intsFrom 0 n).filter (pdI p)).map fdI = (idx p n).map natD := by
  unfold DL.intsFrom idx
  rw [List.filter_map, List.map_map]
  have e1 : (pdI p ∘ fun (i : Nat) => DV.p (.int (0 + (i : Int)))) = p := by
    funext i
    show p (0 + (i : Int)).toNat = p i
    congr 1; omega
  rw [e1]
  refine List.map_congr_left fun i _ => ?_
  show D.int (0 + (i : Int)) = .int i
  congr 1; omega
theorem enum_idx' (p : Nat → Bool) : ∀ (ds : List D) (j : Nat), ((enumD ds j).filter (pdI p)).map fdI = ((List.range' j ds.length).filter p).map natD
  | [], j => rfl
  | d :: ds, j => by
    show ((DV.p (.tup [.int (j : Nat), d]) :: enumD ds (j + 1)).filter (pdI p)).map fdI = _
    rw [List.length_cons, List.range'_succ, List.filter_cons, List.filter_cons]
    have e : pdI p (DV.p (.tup [.int (j : Nat), d])) = p j := rfl
    rw [e]
    by_cases h : p j = true
    · rw [if_pos h, if_pos h, List.map_cons, List.map_cons, enum_idx' p ds (j + 1)]; rfl
    · rw [if_neg h, if_neg h, enum_idx' p ds (j + 1)]
theorem enum_idx (p : Nat → Bool) (ds : List D) : ((enumD ds 0).filter (pdI p)).map fdI = (idx p ds.length).map natD := by
  rw [enum_idx', ← List.range_eq_range']; rfl
theorem at_en {α : Type} [DecidableEq α] [En α] (l : List α) {i : Int} {x : α} (h0 : 0 ≤ i) (h : l[i.toNat]? = some x) : atI (l.map En.en) i = some (En.en x : D) := atI_nat' h0 (by rw [List.getElem?_map, h]; rfl)
theorem last_comp {R : List Rl} {x : Ad} (hl : R.length ≤ 1000) : compL [some (.p (En.en R)), some (.p (En.en x)), none] (gN 2) (mTru (mCallA 2 m_l_has (aCons (mIx (mIx (mVar 0) (mVar 2)) (mC (.int 0))) (aCons (mVar 1) aNil)))) (mVar 2) (DL.intsFrom 0 R.length) [] [] = some ((idx (pR R x) R.length).map natD, []) := by
  rw [compL_fm (p := pdI (pR R x)) (f := fdI) _ _ (fun d hd => ?_) (by simp; omega), ints_idx]
  · rfl
  obtain ⟨i, hi, rfl⟩ := mem_intsFrom hd
  refine ⟨_, rfl, ?_, fun _ => rfl⟩
  have hg : R[i]? = some R[i] := List.getElem?_eq_getElem hi
  have h2 := at_en R (i := 0 + (i : Int)) (by omega) (by rw [show (0 + (i : Int)).toNat = i by omega]; exact hg)
  have h3 := has_spec R[i].a x
  have h4 : pdI (pR R x) (DV.p (.int (0 + (i : Int)))) = has R[i].a x := by
    show pR R x (0 + (i : Int)).toNat = _
    rw [show (0 + (i : Int)).toNat = i by omega]
    unfold pR; rw [hg]
  rw [h4]
  generalize has R[i].a x = b at *
  generalize R[i] = r at *
  generalize 0 + (i : Int) = j at *
  rw [en_rl] at h2
  rw [en_ls]
  generalize R.map En.en = ds at *
  generalize (En.en r.a : D) = a at *
  generalize (En.en x : D) = y at *
  simp [e_bnd, h2, h3]
theorem rlenJ (i : Nat) (n : Nat) (j : Int) (d : D) (l : List (Option DV)) (M : List O) (h1 : mVar i ⟨l, M⟩ = some (.ok (.p d) M)) (h2 : dLen M [.p d] = some (.int j)) (g : rngOk j = true) (hj : j.toNat = n) : mRng rng1D (aCons (mCB dLen (aCons (mVar i) aNil)) aNil) ⟨l, M⟩ = some (.ok (DL.intsFrom 0 n) M) := by
  have e1 : mCB dLen (aCons (mVar i) aNil) ⟨l, M⟩ = some (.ok (.p (.int j)) M) := by
    rw [e_cb, e_bnd, e_aCons, e_bnd, h1]
    simp [e_bnd, h2, -e_len]
  rw [e_rng, e_bnd, e_aCons, e_bnd, e1]
  simp [e_bnd, g, hj]
theorem rlen (i : Nat) (n : Nat) (d : D) (l : List (Option DV)) (M : List O) (h1 : mVar i ⟨l, M⟩ = some (.ok (.p d) M)) (h2 : lenD d = some n) (g : n ≤ 1000000) : mRng rng1D (aCons (mCB dLen (aCons (mVar i) aNil)) aNil) ⟨l, M⟩ = some (.ok (DL.intsFrom 0 n) M) := by
  refine rlenJ i n (n : Int) d l M h1 ?_ (rng_ok (by omega) (by omega)) (Int.toNat_natCast n)
  rw [e_len, e_lenp, h2, Option.map_some]
theorem lcs (it : IM) (vs : List Nat) (g : GM) (t e : EM) (s : S) (ds : List DV) (xs : List D) (h : it s = some (.ok ds s.m)) (h2 : compL (wipeL s.l vs) g t e ds [] s.m = some (xs, s.m)) : mLc it vs g t e s = some (.ok (.p (.lst xs)) s.m) := by
  rw [e_lc, e_bnd, h]
  show (match compL (wipeL s.l vs) g t e ds [] s.m with | some (acc, M) => some (Rs.ok (DV.p (D.lst acc)) M) | none => none) = _
  rw [h2]
theorem ix_neg (m : EM) (s : S) (xs : List D) (z : D) (h : atI xs (-1) = some z) (e2 : m s = some (.ok (.p (.lst xs)) s.m)) : mIx m (mUn dNeg (mC (.int 1))) s = some (.ok (.p z) s.m) := by
  rw [e_ix, e_bnd, e2]
  have hneg : dNeg (.int 1) = some (.int (-1)) := rfl
  simp [e_bnd, hneg, h]
theorem runA_ret (n : Nat) (m : EM) (ds : List D) (z : D) (h : m ⟨slotsOf n (ds.map .p), []⟩ = some (.ok (.p z) [])) : runA n (sRet m) ds = some (.ok z) := by
  rw [e_runA, e_sret, e_lift, h]
theorem last_fin (ds xs : List D) (y z : D) (e : compL [some (.p (.lst ds)), some (.p y), none] (gN 2) (mTru (mCallA 2 m_l_has (aCons (mIx (mIx (mVar 0) (mVar 2)) (mC (.int 0))) (aCons (mVar 1) aNil)))) (mVar 2) (DL.intsFrom 0 ds.length) [] [] = some (xs, [])) (g : ds.length ≤ 1000000) (h : xs.getLast? = some z) : m_l_last [.lst ds, y] = some (.ok z) := by
  rw [← at_last] at h
  have e1 := rlen 0 ds.length (.lst ds) [some (.p (.lst ds)), some (.p y), none] [] rfl rfl g
  generalize DL.intsFrom 0 ds.length = rs at *
  have e2 := lcs _ [2] (gN 2) _ (mVar 2) ⟨[some (.p (.lst ds)), some (.p y), none], []⟩ rs xs e1 e
  exact runA_ret 3 _ [.lst ds, y] z (ix_neg _ _ xs z h e2)
theorem last_spec {R : List Rl} {x : Ad} (h : Cov R x) (hl : R.length ≤ 1000) : m_l_last [En.en R, En.en x] = some (.ok (.int (li R x))) := by
  refine last_fin (R.map En.en) ((idx (pR R x) R.length).map natD) _ _ ?_ (by rw [List.length_map]; omega) ?_
  · rw [List.length_map]; exact last_comp hl
  · rw [List.getLast?_map, idx_last, cov_last h]; rfl
end Law
namespace Law
open PySem L2 DL
theorem rule_loop (RD : D) (x : Ad) : ∀ (l : List Rl) (b : Rl) (v3 : Option DV), ∃ v3',
    loopS (gN 3) (sIf (mTru (mCallA 2 m_l_has (aCons (mIx (mVar 3) (mC (.int 0))) (aCons (mVar 1) aNil)))) (sAsg (mVar 3) (gN 2)) sNil) ((l.map En.en).map .p)
      ⟨[some (.p RD), some (.p (En.en x)), some (.p (En.en b)), v3], []⟩ = some (.nx, ⟨[some (.p RD), some (.p (En.en x)), some (.p (En.en (foldR x l b))), v3'], []⟩)
  | [], b, v3 => ⟨v3, rfl⟩
  | r :: l, b, v3 => by
    obtain ⟨v3', ih⟩ := rule_loop RD x l (if has r.a x = true then r else b) (some (.p (En.en r)))
    refine ⟨v3', ?_⟩
    show loopS _ _ (.p (En.en r) :: (l.map En.en).map .p) _ = _
    rw [loopS_cons]
    have h3 := has_spec r.a x
    show _ = some (Fl.nx, (⟨[some (.p RD), some (.p (En.en x)), some (.p (En.en (foldR x l (if has r.a x = true then r else b)))), v3'], []⟩ : S))
    rw [← ih]
    cases hb : has r.a x
    · rw [hb] at h3
      simp [e_bnd, e_lift, en_rl, h3] 
    · rw [hb] at h3
      simp [e_bnd, e_lift, en_rl, h3] 
theorem rule_spec {R : List Rl} {x : Ad} (h : R ≠ []) : m_l_rule [En.en R, En.en x] = some (.ok (En.en (ru R x))) := by
  cases R with
  | nil => exact absurd rfl h
  | cons r t =>
    obtain ⟨v3', e⟩ := rule_loop (En.en (r :: t)) x (r :: t) r none
    show _ = some (RD.ok (En.en (foldR x (r :: t) r)))
    generalize foldR x (r :: t) r = z at *
    rw [en_ls, List.map_cons] at *
    rw [List.map_cons] at e
    generalize (En.en r : D) = rd at *
    generalize t.map En.en = td at *
    generalize (En.en x : D) = xd at *
    generalize (En.en z : D) = zd at *
    simp [e_bnd, e_seq, e_lift, e_runA, m_l_rule, b_l_rule, atI0] at e ⊢
    rw [e]
    rfl
theorem at_comp {R : List Rl} {x : Ad} (hl : R.length ≤ 1000) : compL [some (.p (En.en R)), some (.p (En.en x)), none, none] (gT 2 (gsCons (gN 2) (gsCons (gN 3) gsNil))) (mTru (mCallA 2 m_inside (aCons (mVar 1) (aCons (mIx (mVar 3) (mC (.int 0))) aNil)))) (mVar 2) (enumD (R.map En.en) 0) [] [] = some ((idx (pR R x) R.length).map natD, []) := by
  rw [compL_fm (p := pdI (pR R x)) (f := fdI) _ _ (fun d hd => ?_) (by rw [enumD_len]; simp; omega), enum_idx, List.length_map]
  · rfl
  obtain ⟨i, hi⟩ := List.getElem?_of_mem hd
  obtain ⟨d', h1, rfl⟩ := enumD_get hi
  rw [List.getElem?_map] at h1
  cases hg : R[i]? with
  | none => rw [hg] at h1; cases h1
  | some r =>
  rw [hg] at h1
  cases h1
  have h3 := inside_spec r.a x
  have h4 : pdI (pR R x) (DV.p (.tup [.int ((0 + i : Nat) : Int), En.en r])) = has r.a x := by
    show pR R x (((0 + i : Nat) : Int)).toNat = _
    rw [show (((0 + i : Nat) : Int)).toNat = i by omega]
    unfold pR; rw [hg]
  rw [h4]
  have h5 : fdI (DV.p (.tup [.int ((0 + i : Nat) : Int), En.en r])) = .int ((0 + i : Nat) : Int) := rfl
  rw [h5]
  generalize has r.a x = b at *
  generalize ((0 + i : Nat) : Int) = j at *
  rw [en_rl]
  generalize (En.en R : D) = rd at *
  generalize (En.en r.a : D) = a at *
  generalize (En.en x : D) = y at *
  refine ⟨⟨[some (.p rd), some (.p y), some (.p (.int j)), some (.p (.tup [a, En.en r.r, En.en r.w, En.en r.o]))], []⟩, rfl, ?_, fun _ => rfl⟩
  simp [e_bnd, h3]
theorem maxI_idx (p : Nat → Bool) (n i : Nat) (h : lastP p n = some i) : dMaxL (.lst ((idx p n).map natD)) = some (.int i) := by
  have hne : (idx p n).map (fun (i : Nat) => (i : Int)) ≠ [] := by
    intro e
    rw [List.map_eq_nil_iff] at e
    rw [← idx_last, e] at h; cases h
  have e1 : (idx p n).map natD = ((idx p n).map (fun (i : Nat) => (i : Int))).map .int := by rw [List.map_map]; rfl
  have hm := maxI_mem _ hne
  have hg := maxI_ge ((idx p n).map (fun (i : Nat) => (i : Int)))
  obtain ⟨h1, h2, h3⟩ := lastP_some _ _ _ h
  have hi : (i : Int) ∈ (idx p n).map (fun (i : Nat) => (i : Int)) := List.mem_map.mpr ⟨i, List.mem_filter.mpr ⟨List.mem_range.mpr h1, h2⟩, rfl⟩
  obtain ⟨j, hj, ej⟩ := List.mem_map.mp hm
  have hj2 := List.mem_filter.mp hj
  have hle := hg _ hi
  have : j = i := by
    rcases Nat.lt_or_ge i j with q | q
    · have := h3 j q (List.mem_range.mp hj2.1)
      rw [this] at hj2; exact absurd hj2.2 (by decide)
    · omega
  rw [e1]
  unfold dMaxL
  simp only [intsD_map]
  cases hz : (idx p n).map (fun (i : Nat) => (i : Int)) with
  | nil => exact absurd hz hne
  | cons a l =>
    rw [hz] at ej
    dsimp only
    rw [← ej, this]
theorem rat_fin (ds xs : List D) (y z : D) (e : compL [some (.p (.lst ds)), some (.p y), none, none] (gT 2 (gsCons (gN 2) (gsCons (gN 3) gsNil))) (mTru (mCallA 2 m_inside (aCons (mVar 1) (aCons (mIx (mVar 3) (mC (.int 0))) aNil)))) (mVar 2) (enumD ds 0) [] [] = some (xs, [])) (h : dMaxL (.lst xs) = some z) : m_rule_at [.lst ds, y] = some (.ok z) := by
  have e1 : mEnum (aCons (mVar 0) aNil) ⟨[some (.p (.lst ds)), some (.p y), none, none], []⟩ = some (.ok (enumD ds 0) []) := rfl
  generalize enumD ds 0 = rs at *
  have e2 := lcs _ [2, 3] _ _ (mVar 2) ⟨[some (.p (.lst ds)), some (.p y), none, none], []⟩ rs xs e1 e
  refine runA_ret 4 _ [.lst ds, y] z ?_
  show mCB (g1 dMaxL) (aCons _ aNil) ⟨[some (.p (.lst ds)), some (.p y), none, none], []⟩ = _
  rw [e_cb, e_bnd, e_aCons, e_bnd, e2]
  simp [e_bnd, h]
theorem rat_spec {R : List Rl} {x : Ad} (h : Cov R x) (hl : R.length ≤ 1000) : m_rule_at [En.en R, En.en x] = some (.ok (.int (li R x))) :=
  rat_fin (R.map En.en) ((idx (pR R x) R.length).map natD) _ _ (at_comp hl) (maxI_idx _ _ _ (cov_last h))
/-! whom a rule lets -/
def us (r : Rl) : Nat → List Int
  | 0 => r.r
  | 1 => r.w
  | _ => r.o
def rS : Nat → Str
  | 0 => Str.ofString "read"
  | 1 => Str.ofString "write"
  | _ => Str.ofString "own"
theorem idx_rS : ∀ i, i ≤ 2 → dLindex k_RIGHTS [.str (rS i)] = some (.int i)
  | 0, _ => by kernel_rfl
  | 1, _ => by kernel_rfl
  | 2, _ => by kernel_rfl
  | n + 3, h => by omega
theorem us_at (r : Rl) : ∀ i : Nat, i ≤ 2 → atI [En.en r.a, En.en r.r, En.en r.w, (En.en r.o : D)] ((i : Int) + 1) = some (En.en (us r i))
  | 0, _ => rfl
  | 1, _ => rfl
  | 2, _ => rfl
  | n + 3, h => by omega
theorem users_spec (r : Rl) (i : Nat) (h : i ≤ 2) : m_users_with [En.en r, .str (rS i)] = some (.ok (En.en (us r i))) := by
  have e1 := idx_rS i h
  have e2 := us_at r i h
  rw [en_rl]
  have e3 : tyOk "list" [] (.p k_RIGHTS) = true := by simp [tyOk, k_RIGHTS]
  generalize (i : Int) = j at *
  generalize rS i = t at *
  simp [e_bnd, e_lift, e_runA, m_users_with, b_users_with, e1, e2, e3, gP]
end Law
namespace Law
open PySem L2 DL
theorem rl_at {R : List Rl} {x : Ad} (h : Cov R x) : atI (R.map En.en) ((li R x : Nat) : Int) = some (En.en (ru R x) : D) := at_en R (by omega) (by rw [Int.toNat_natCast]; exact ru_spec h)
theorem allowed_spec {R : List Rl} {x : Ad} (h : Cov R x) (hl : R.length ≤ 1000) (i : Nat) (hi : i ≤ 2) : m_allowed [En.en R, .str (rS i), En.en x] = some (.ok (En.en (us (ru R x) i))) := by
  have e1 := rat_spec h hl
  have e2 := rl_at h
  have e3 := users_spec (ru R x) i hi
  have e4 : dList (En.en (us (ru R x) i)) = some (En.en (us (ru R x) i)) := rfl
  generalize ((li R x : Nat) : Int) = j at *
  generalize (En.en (ru R x) : D) = rd at *
  generalize (En.en (us (ru R x) i) : D) = ud at *
  generalize rS i = t at *
  generalize (En.en x : D) = xd at *
  rw [en_ls] at e1 ⊢
  generalize R.map En.en = ds at *
  simp [e_bnd, e_lift, e_runA, m_allowed, b_allowed, e1, e2, e3, e4]
theorem may_spec {R : List Rl} {x : Ad} (h : Cov R x) (hl : R.length ≤ 1000) (i : Nat) (hi : i ≤ 2) (u : Int) : m_may [En.en R, .int u, .str (rS i), En.en x] = some (.ok (.bl (decide (u ∈ us (ru R x) i)))) := by
  have e1 := allowed_spec h hl i hi
  have e2 := inD_en u (us (ru R x) i) (by decide)
  rw [en_int] at e2
  rw [en_ls (us (ru R x) i)] at e1
  generalize (us (ru R x) i).map En.en = ud at *
  generalize (decide (u ∈ us (ru R x) i)) = b at *
  generalize rS i = t at *
  generalize (En.en x : D) = xd at *
  generalize (En.en R : D) = ds at *
  simp [e_bnd, e_lift, e_runA, m_may, b_may, e1, e2]
def cmn (a b : Ar) : Option Ar := rb2 (iMax a.1.1 b.1.1, iMax a.1.2 b.1.2) (iMin a.2.1 b.2.1, iMin a.2.2 b.2.2)
theorem common_spec (a b : Ar) : m_common [En.en a, En.en b] = some (.ok (enO (cmn a b))) := by
  obtain ⟨⟨p, q⟩, r, s⟩ := a; obtain ⟨⟨t, u⟩, v, w⟩ := b
  have e := rb2_spec (iMax p t, iMax q u) (iMin r v, iMin s w)
  unfold cmn
  dsimp only
  generalize enO (rb2 (iMax p t, iMax q u) (iMin r v, iMin s w)) = o at *
  simp only [en_ad] at e
  unfold iMax iMin at e
  simp [e_bnd, e_seq, e_lift, e_runA, m_common, b_common, en_ar, dMax2, dMin2, e]
def cuts (a c : Ar) : List Ar := [((a.1.1, a.1.2), (a.2.1, c.1.2 - 1)), ((a.1.1, c.2.2 + 1), (a.2.1, a.2.2)), ((a.1.1, c.1.2), (c.1.1 - 1, c.2.2)), ((c.2.1 + 1, c.1.2), (a.2.1, c.2.2))]
def wo (a b : Ar) : List Ar := match cmn a b with
  | none => [a]
  | some c => (cuts a c).filter fun p => (rb2 p.1 p.2).isSome
def pdW : DV → Bool
  | .p (.tup [.tup [.int a, .int b], .tup [.int c, .int d]]) => decide (a ≤ c ∧ b ≤ d)
  | _ => false
def unP : DV → D
  | .p d => d
  | _ => .non
theorem without_comp (s0 s1 s2 s3 s4 s5 s6 s7 s8 s9 s10 s11 s12 : Option DV) (ps : List Ar) (h : ps.length ≤ 1000) : compL [s0, s1, s2, s3, s4, s5, s6, s7, s8, s9, s10, s11, s12] (gN 12) (mNotN (mCallA 2 m_range_between (aCons (mIx (mVar 12) (mC (.int 0))) (aCons (mIx (mVar 12) (mC (.int 1))) aNil)))) (mVar 12) ((ps.map En.en).map .p) [] [] = some ((ps.filter fun p => (rb2 p.1 p.2).isSome).map En.en, []) := by
  rw [compL_fm (p := pdW) (f := unP) _ _ (fun d hd => ?_) (by simp; omega)]
  · rw [List.nil_append, List.map_map, List.filter_map, List.map_map]
    have : pdW ∘ (DV.p ∘ En.en) = fun (p : Ar) => (rb2 p.1 p.2).isSome := by
      funext p
      show decide _ = _
      unfold rb2
      by_cases h : p.1.1 ≤ p.2.1 ∧ p.1.2 ≤ p.2.2
      · rw [if_pos h]; exact decide_eq_true h
      · rw [if_neg h]; exact decide_eq_false h
    rw [this]
    rfl
  obtain ⟨z, hz, rfl⟩ := List.mem_map.mp hd
  obtain ⟨p, hp, rfl⟩ := List.mem_map.mp hz
  refine ⟨_, rfl, ?_, fun _ => rfl⟩
  have e := rb2_spec p.1 p.2
  have e3 : pdW (.p (En.en p)) = (rb2 p.1 p.2).isSome := by
    show decide _ = _
    unfold rb2
    by_cases h : p.1.1 ≤ p.2.1 ∧ p.1.2 ≤ p.2.2
    · rw [if_pos h]; exact decide_eq_true h
    · rw [if_neg h]; exact decide_eq_false h
  rw [e3]
  obtain ⟨p1, p2⟩ := p
  cases hr : rb2 p1 p2 with
  | none =>
    rw [hr] at e
    simp [e_bnd, en_pr p1 p2, e, enO]
  | some c =>
    rw [hr] at e
    obtain ⟨c1, c2⟩ := c
    simp [e_bnd, en_pr p1 p2, e, enO, en_pr c1 c2]
theorem without_spec (a b : Ar) : m_without [En.en a, En.en b] = some (.ok (En.en (wo a b))) := by
  have e := common_spec a b
  unfold wo
  apply wpA.eq
  cases hc : cmn a b with
  | none =>
    rw [hc] at e
    simp [m_without, b_without, e, enO, en_ls]
  | some c =>
    rw [hc] at e
    dsimp only
    have e2 := fun s0 s1 s2 s3 s4 s5 s6 s7 s8 s9 s10 s11 s12 => without_comp s0 s1 s2 s3 s4 s5 s6 s7 s8 s9 s10 s11 s12 (cuts a c) (by simp [cuts])
    rw [en_ls]
    generalize ((cuts a c).filter fun p => (rb2 p.1 p.2).isSome).map En.en = out at *
    obtain ⟨⟨p, q⟩, r, s⟩ := a
    obtain ⟨⟨t, u⟩, v, w⟩ := c
    generalize (En.en b : D) = bd at *
    simp only [en_ar, enO, cuts, List.map_cons, List.map_nil] at e e2
    simp [m_without, b_without, e, en_ar, e2]
end Law
namespace Law
open PySem L2 DL
/-! taking apart: counting cells -/
def cN (l : List Ar) (x : Ad) : Nat := (l.flatMap cells).count x
def ind (b : Bool) : Nat := if b = true then 1 else 0
theorem cN_nil (x : Ad) : cN [] x = 0 := rfl
theorem cN_cons (a : Ar) (l : List Ar) (x : Ad) : cN (a :: l) x = ind (has a x) + cN l x := by
  unfold cN ind
  rw [List.flatMap_cons, List.count_append, cells_count]
theorem cN_app (l m : List Ar) (x : Ad) : cN (l ++ m) x = cN l x + cN m x := by
  unfold cN
  rw [List.flatMap_append, List.count_append]
def ord (a : Ar) : Prop := a.1.1 ≤ a.2.1 ∧ a.1.2 ≤ a.2.2
theorem has_iff (a : Ar) (x : Ad) : has a x = true ↔ a.1.1 ≤ x.1 ∧ x.1 ≤ a.2.1 ∧ a.1.2 ≤ x.2 ∧ x.2 ≤ a.2.2 := by unfold has; exact decide_eq_true_iff
theorem rb2_ord (a : Ar) : (rb2 a.1 a.2).isSome = true ↔ ord a := by
  unfold rb2 ord
  split <;> simp_all
theorem cN_filter (x : Ad) : ∀ l : List Ar, cN (l.filter fun p => (rb2 p.1 p.2).isSome) x = cN l x
  | [] => rfl
  | a :: l => by
    rw [List.filter_cons]
    by_cases h : (rb2 a.1 a.2).isSome = true
    · rw [if_pos h, cN_cons, cN_cons, cN_filter x l]
    · rw [if_neg h, cN_cons, cN_filter x l]
      have : has a x = false := by
        rw [Bool.eq_false_iff]
        intro q
        rw [has_iff] at q
        exact h ((rb2_ord a).mpr ⟨by omega, by omega⟩)
      rw [this]
      show _ = 0 + _
      omega
theorem cmn_some {a b c : Ar} (h : cmn a b = some c) (x : Ad) : has c x = (has a x && has b x) := by
  unfold cmn rb2 at h
  split at h
  · cases h
    rw [Bool.eq_iff_iff, Bool.and_eq_true, has_iff, has_iff, has_iff]
    unfold iMax iMin
    dsimp only
    split <;> split <;> split <;> split <;> omega
  · cases h
theorem cmn_ord {a b c : Ar} (h : cmn a b = some c) : ord c := by
  unfold cmn rb2 at h
  split at h
  · rename_i q; cases h; exact q
  · cases h
theorem cmn_none {a b : Ar} (h : cmn a b = none) (x : Ad) : has a x = true → has b x = false := by
  intro q
  rw [Bool.eq_false_iff]
  intro q2
  rw [has_iff] at q q2
  unfold cmn rb2 at h
  split at h
  · cases h
  · rename_i z
    apply z
    unfold iMax iMin
    dsimp only
    constructor <;> split <;> split <;> omega
theorem ind_cases (b : Bool) : (b = true ∧ ind b = 1) ∨ (b = false ∧ ind b = 0) := by cases b <;> simp [ind]
theorem wo_count (a b : Ar) (x : Ad) : cN (wo a b) x = ind (has a x && !has b x) := by
  unfold wo
  cases h : cmn a b with
  | none =>
    dsimp only
    rw [cN_cons, cN_nil]
    cases q : has a x with
    | false => rfl
    | true => rw [cmn_none h x q]; rfl
  | some c =>
    dsimp only
    rw [cN_filter]
    have hc := cmn_some h x
    have ho := cmn_ord h
    have sub : a.1.1 ≤ c.1.1 ∧ a.1.2 ≤ c.1.2 ∧ c.2.1 ≤ a.2.1 ∧ c.2.2 ≤ a.2.2 := by
      unfold cmn rb2 at h
      split at h
      · cases h
        unfold iMax iMin
        dsimp only
        refine ⟨?_, ?_, ?_, ?_⟩ <;> split <;> omega
      · cases h
    have e : ind (has a x && !has b x) = ind (has a x && !has c x) := by
      rw [hc]; cases has a x <;> cases has b x <;> rfl
    rw [e]
    unfold cuts
    rw [cN_cons, cN_cons, cN_cons, cN_cons, cN_nil]
    unfold ord at ho
    have k : ∀ (p : Ar), (has p x = true ∧ ind (has p x) = 1) ∨ (has p x = false ∧ ind (has p x) = 0) := fun p => ind_cases _
    have hi := fun p => has_iff p x
    have hf : ∀ p : Ar, has p x = false ↔ ¬ (p.1.1 ≤ x.1 ∧ x.1 ≤ p.2.1 ∧ p.1.2 ≤ x.2 ∧ x.2 ≤ p.2.2) := fun p => by rw [← hi p, Bool.not_eq_true]
    obtain ⟨⟨p, q⟩, r, s⟩ := a
    obtain ⟨⟨t, u⟩, v, w⟩ := c
    obtain ⟨xx, yy⟩ := x
    dsimp only at *
    have ka := k ((p, q), r, s)
    have kc := k ((t, u), v, w)
    have k1 := k ((p, q), r, u - 1)
    have k2 := k ((p, w + 1), r, s)
    have k3 := k ((p, u), t - 1, w)
    have k4 := k ((v + 1, u), r, w)
    rw [hi, hf] at ka kc k1 k2 k3 k4
    dsimp only at ka kc k1 k2 k3 k4
    have kg : ind (has ((p, q), r, s) (xx, yy) && !has ((t, u), v, w) (xx, yy)) = ind (has ((p, q), r, s) (xx, yy)) * (1 - ind (has ((t, u), v, w) (xx, yy))) := by
      cases has ((p, q), r, s) (xx, yy) <;> cases has ((t, u), v, w) (xx, yy) <;> rfl
    rw [kg]
    rcases ka with ⟨a1, a2⟩ | ⟨a1, a2⟩ <;> rcases kc with ⟨c1, c2⟩ | ⟨c1, c2⟩ <;> rw [a2, c2] <;> omega
theorem wo_ord {a b : Ar} (h : ord a) : ∀ p ∈ wo a b, ord p := by
  intro p hp
  unfold wo at hp
  split at hp
  · rw [List.mem_singleton] at hp; rw [hp]; exact h
  · exact (rb2_ord p).mp (List.mem_filter.mp hp).2
theorem wo_len (a b : Ar) : (wo a b).length ≤ 4 := by
  unfold wo
  split
  · simp
  · exact Nat.le_trans (List.length_filter_le _ _) (by simp [cuts])
def lft (q : Ar) (l : List Ar) : List Ar := l.flatMap fun p => wo p q
def cms (q : Ar) (i : Int) (l : List Ar) : List (Ar × Int) := l.filterMap fun p => (cmn p q).map fun c => (c, i)
theorem lft_count (q : Ar) (x : Ad) : ∀ l, cN (lft q l) x = if has q x = true then 0 else cN l x
  | [] => by simp [lft, cN_nil]
  | p :: l => by
    have ih := lft_count q x l
    unfold lft at *
    rw [List.flatMap_cons, cN_app, ih, wo_count, cN_cons]
    cases has q x <;> cases has p x <;> simp [ind]
theorem cms_count (q : Ar) (i : Int) (x : Ad) : ∀ l, cN ((cms q i l).map (·.1)) x = if has q x = true then cN l x else 0
  | [] => by simp [cms, cN_nil]
  | p :: l => by
    have ih := cms_count q i x l
    unfold cms at *
    rw [List.filterMap_cons, cN_cons]
    cases h : cmn p q with
    | none =>
      simp only [Option.map_none]
      rw [ih]
      cases hq : has q x with
      | false => simp
      | true =>
        have : has p x = false := by
          cases hp : has p x with
          | false => rfl
          | true => rw [cmn_none h x hp] at hq; cases hq
        rw [this]; simp [ind]
    | some c =>
      simp only [Option.map_some]
      rw [List.map_cons, cN_cons, ih, cmn_some h x]
      cases has q x <;> cases has p x <;> simp [ind]
theorem cN_pos {l : List Ar} {x : Ad} : 0 < cN l x ↔ ∃ p ∈ l, has p x = true := by
  unfold cN
  rw [List.count_pos_iff, List.mem_flatMap]
  constructor
  · rintro ⟨p, h1, h2⟩; exact ⟨p, h1, (cells_mem p x).mp h2⟩
  · rintro ⟨p, h1, h2⟩; exact ⟨p, h1, (cells_mem p x).mpr h2⟩
def Ra (R : List Rl) (i : Nat) : Ar := ((R[i]?).getD rl0).a
theorem pR_Ra {R : List Rl} {i : Nat} (h : i < R.length) (x : Ad) : pR R x i = has (Ra R i) x := by
  unfold pR Ra
  rw [List.getElem?_eq_getElem h]; rfl
def goP (R : List Rl) : Nat → List Ar → List (Ar × Int) → List Ar × List (Ar × Int)
  | 0, l, out => (l, out)
  | i + 1, l, out => goP R i (lft (Ra R i) l) (out ++ cms (Ra R i) (i : Int) l)
structure GI (R : List Rl) (a : Ar) (i : Nat) (l : List Ar) (out : List (Ar × Int)) : Prop where
  cnt : ∀ x, cN (out.map (·.1)) x + cN l x = ind (has a x)
  lf : ∀ p ∈ l, ∀ x, has p x = true → ∀ k, i ≤ k → pR R x k = false
  ou : ∀ q ∈ out, ∃ j : Nat, q.2 = (j : Int) ∧ ∀ x, has q.1 x = true → pR R x j = true ∧ ∀ k, j < k → pR R x k = false
  lo : ∀ p ∈ l, ord p
  oo : ∀ q ∈ out, ord q.1
theorem mem_cms {q : Ar} {i : Int} {l : List Ar} {z : Ar × Int} (h : z ∈ cms q i l) : ∃ p ∈ l, cmn p q = some z.1 ∧ z.2 = i := by
  unfold cms at h
  obtain ⟨p, h1, h2⟩ := List.mem_filterMap.mp h
  cases hc : cmn p q with
  | none => rw [hc] at h2; cases h2
  | some c => rw [hc] at h2; cases h2; exact ⟨p, h1, hc, rfl⟩
theorem GI.step {R : List Rl} {a : Ar} {i : Nat} {l : List Ar} {out : List (Ar × Int)} (hi : i < R.length) (h : GI R a (i + 1) l out) : GI R a i (lft (Ra R i) l) (out ++ cms (Ra R i) (i : Int) l) := by
  refine ⟨fun x => ?_, fun p hp x hx k hk => ?_, fun q hq => ?_, fun p hp => ?_, fun q hq => ?_⟩
  · have := h.cnt x
    rw [List.map_append, cN_app, lft_count, cms_count]
    split <;> omega
  · have hc : 0 < cN (lft (Ra R i) l) x := cN_pos.mpr ⟨p, hp, hx⟩
    rw [lft_count] at hc
    split at hc
    · omega
    · rename_i hn
      rcases Nat.eq_or_lt_of_le hk with e | e
      · rw [← e, pR_Ra hi]; simpa using hn
      · obtain ⟨p', h1, h2⟩ := cN_pos.mp hc
        exact h.lf p' h1 x h2 k e
  · rcases List.mem_append.mp hq with hq | hq
    · exact h.ou q hq
    · obtain ⟨p, h1, h2, h3⟩ := mem_cms hq
      refine ⟨i, h3, fun x hx => ?_⟩
      rw [cmn_some h2 x, Bool.and_eq_true] at hx
      exact ⟨by rw [pR_Ra hi]; exact hx.2, fun k hk => h.lf p h1 x hx.1 k hk⟩
  · obtain ⟨p', h1, h2⟩ := List.mem_flatMap.mp hp
    exact wo_ord (h.lo p' h1) p h2
  · rcases List.mem_append.mp hq with hq | hq
    · exact h.oo q hq
    · obtain ⟨p, h1, h2, h3⟩ := mem_cms hq
      exact cmn_ord h2
theorem goP_GI {R : List Rl} {a : Ar} : ∀ (i : Nat) (l : List Ar) (out : List (Ar × Int)), i ≤ R.length → GI R a i l out → GI R a 0 (goP R i l out).1 (goP R i l out).2
  | 0, l, out, _, h => h
  | i + 1, l, out, hi, h => goP_GI i _ _ (by omega) (h.step (by omega))
theorem ord_len : ∀ {l : List Ar}, (∀ p ∈ l, ord p) → l.length ≤ (l.flatMap cells).length
  | [], _ => Nat.le_refl _
  | p :: l, h => by
    have ih := ord_len (l := l) fun q hq => h q (List.mem_cons_of_mem _ hq)
    have hp := h p List.mem_cons_self
    have : 0 < (cells p).length := List.length_pos_iff_exists_mem.mpr ⟨p.1, (cells_mem p p.1).mpr ((has_iff _ _).mpr (by unfold ord at hp; omega))⟩
    rw [List.flatMap_cons, List.length_append, List.length_cons]
    omega
theorem GI.perm {R : List Rl} {a : Ar} {i : Nat} {l : List Ar} {out : List (Ar × Int)} (h : GI R a i l out) : ((out.map (·.1)).flatMap cells ++ l.flatMap cells).Perm (cells a) := by
  rw [List.perm_iff_count]
  intro x
  rw [List.count_append, cells_count]
  exact h.cnt x
theorem GI.len {R : List Rl} {a : Ar} {i : Nat} {l : List Ar} {out : List (Ar × Int)} (h : GI R a i l out) (ha : okA a) : out.length + l.length ≤ 2574 := by
  have h1 := h.perm.length_eq
  have h2 := cells_len a ha
  have h3 := ord_len h.lo
  have h4 := ord_len (l := out.map (·.1)) fun p hp => by
    obtain ⟨q, hq, rfl⟩ := List.mem_map.mp hp
    exact h.oo q hq
  rw [List.length_append] at h1
  rw [List.length_map] at h4
  omega
/-- the parts of an area by rules, before they are sorted -/
def pbr (R : List Rl) (a : Ar) : List (Ar × Int) := (goP R R.length [a] []).2
theorem pbr_GI {R : List Rl} {a : Ar} (ha : ord a) : GI R a 0 (goP R R.length [a] []).1 (pbr R a) := by
  refine goP_GI _ _ _ (Nat.le_refl _) ⟨fun x => ?_, fun p hp x hx k hk => pR_out hk, fun q hq => (by cases hq), fun p hp => ?_, fun q hq => (by cases hq)⟩
  · rw [cN_cons]; show 0 + (ind (has a x) + 0) = _; omega
  · rw [List.mem_singleton] at hp; rw [hp]; exact ha
structure Pt (R : List Rl) (a : Ar) (out : List (Ar × Int)) : Prop where
  perm : ((out.map (·.1)).flatMap cells).Perm (cells a)
  last : ∀ q ∈ out, ∀ x, has q.1 x = true → q.2 = (li R x : Nat) ∧ has a x = true
  ord : ∀ q ∈ out, ord q.1
theorem pbr_pt {R : List Rl} {a : Ar} (ha : ord a) (hc : ∀ x, has a x = true → Cov R x) : Pt R a (pbr R a) := by
  have g := pbr_GI (R := R) ha
  have hz : ∀ x, cN (goP R R.length [a] []).1 x = 0 := fun x => by
    have h1 := g.cnt x
    rcases Nat.eq_zero_or_pos (cN (goP R R.length [a] []).1 x) with e | e
    · exact e
    · obtain ⟨p, h2, h3⟩ := cN_pos.mp e
      have h4 := g.lf p h2 x h3 0 (Nat.le_refl _)
      have h5 : has a x = true := by
        rcases ind_cases (has a x) with ⟨q, _⟩ | ⟨_, q⟩
        · exact q
        · omega
      have h6 : pR R x 0 = true := hc x h5
      rw [h4] at h6; cases h6
  refine ⟨?_, fun q hq x hx => ?_, g.oo⟩
  · rw [List.perm_iff_count]
    intro x
    rw [cells_count]
    have := g.cnt x
    rw [hz x] at this
    exact this
  · obtain ⟨j, e, h⟩ := g.ou q hq
    have h1 := g.cnt x
    have h2 : 0 < cN ((pbr R a).map (·.1)) x := cN_pos.mpr ⟨q.1, List.mem_map_of_mem hq, hx⟩
    have h5 : has a x = true := by
      rcases ind_cases (has a x) with ⟨q, _⟩ | ⟨_, q⟩
      · exact q
      · omega
    obtain ⟨h3, h4⟩ := h x hx
    exact ⟨by rw [e, li_uniq (hc x h5) h3 h4], h5⟩
end Law
namespace Law
open PySem L2 DL
noncomputable abbrev itW : IM := mItD itL (mCallA 2 m_without (aCons (mVar 6) (aCons (mVar 5) aNil)))
theorem lft_comp (s0 s1 s2 s3 s4 : Option DV) (q : Ar) (M : List O) : ∀ (l : List Ar) (s6 s7 s8 : Option DV) (acc : List D), acc.length + 4 * l.length ≤ 1000000 →
    compL2 [s0, s1, s2, s3, s4, some (.p (En.en q)), s6, s7, s8] (gN 6) tYesM itW (gN 8) tYesM (mVar 8) [8] ((l.map En.en).map .p) acc M = some (acc ++ (lft q l).map En.en, M)
  | [], s6, s7, s8, acc, _ => by simp [compL2, lft]
  | p :: l, s6, s7, s8, acc, h => by
    have hw := wo_len p q
    simp only [List.length_cons] at h
    have e := without_spec p q
    have e1 : itW ⟨[s0, s1, s2, s3, s4, some (.p (En.en q)), some (.p (En.en p)), s7, s8], M⟩ = some (.ok (((wo p q).map En.en).map .p) M) := by
      rw [en_ls] at e
      generalize (En.en p : D) = pd at *
      generalize (En.en q : D) = qd at *
      generalize (wo p q).map En.en = ws at *
      simp [e_bnd, e]
    have e2 : compL (wipeL [s0, s1, s2, s3, s4, some (.p (En.en q)), some (.p (En.en p)), s7, s8] [8]) (gN 8) tYesM (mVar 8) (((wo p q).map En.en).map .p) acc M = some (acc ++ (wo p q).map En.en, M) := by
      rw [compL_fm (p := fun _ => true) (f := unP) _ _ (fun d hd => ?_) (by simp; omega)]
      · rw [List.filter_eq_self.mpr fun _ _ => rfl, List.map_map]
        congr 3
        exact List.map_id' _
      · obtain ⟨z, hz, rfl⟩ := List.mem_map.mp hd
        exact ⟨_, rfl, rfl, fun _ => rfl⟩
    have ih := lft_comp s0 s1 s2 s3 s4 q M l s6 s7 s8 (acc ++ (wo p q).map En.en) (by simp; omega)
    show compL2 _ _ _ _ _ _ _ _ (.p (En.en p) :: (l.map En.en).map .p) acc M = _
    unfold compL2
    show (match itW ⟨[s0, s1, s2, s3, s4, some (.p (En.en q)), some (.p (En.en p)), s7, s8], M⟩ with
      | some (.ok ds1 M2) => match compL (wipeL [s0, s1, s2, s3, s4, some (.p (En.en q)), some (.p (En.en p)), s7, s8] [8]) (gN 8) tYesM (mVar 8) ds1 acc M2 with
          | some (acc', M3) => compL2 [s0, s1, s2, s3, s4, some (.p (En.en q)), s6, s7, s8] (gN 6) tYesM itW (gN 8) tYesM (mVar 8) [8] ((l.map En.en).map .p) acc' M3
          | none => none
      | _ => none) = _
    rw [e1]
    dsimp only
    rw [e2]
    dsimp only
    rw [ih]
    simp [lft]
noncomputable abbrev bodyC : SM := (sSeq (sAsg (mCallA 2 m_common (aCons (mVar 6) (aCons (mVar 5) aNil))) (gN 7))
  (sIf (mNotN (mVar 7)) (sExpr (mMth "list" gApp (mVar 2) (aCons (disp .tup (aCons (mVar 7) (aCons (mVar 4) aNil))) aNil))) sNil))
def outD (out : List (Ar × Int)) : O := .lst (out.map fun q => .p (En.en q))
theorem cms_loop (s0 s1 s3 s8 : Option DV) (q : Ar) (i : Int) (B : List O) : ∀ (l : List Ar) (out : List (Ar × Int)) (s6 s7 : Option DV), out.length + l.length ≤ 1000000 → ∃ s6' s7',
    loopS (gN 6) bodyC ((l.map En.en).map .p) ⟨[s0, s1, some (.o B.length), s3, some (.p (.int i)), some (.p (En.en q)), s6, s7, s8], B ++ [outD out]⟩
      = some (.nx, ⟨[s0, s1, some (.o B.length), s3, some (.p (.int i)), some (.p (En.en q)), s6', s7', s8], B ++ [outD (out ++ cms q i l)]⟩)
  | [], out, s6, s7, _ => ⟨s6, s7, by simp [cms]⟩
  | p :: l, out, s6, s7, h => by
    simp only [List.length_cons] at h
    have e := common_spec p q
    cases hc : cmn p q with
    | none =>
      obtain ⟨s6', s7', ih⟩ := cms_loop s0 s1 s3 s8 q i B l out (some (.p (En.en p))) (some (.p .non)) (by omega)
      refine ⟨s6', s7', ?_⟩
      show loopS _ _ (.p (En.en p) :: (l.map En.en).map .p) _ = _
      rw [loopS_cons]
      have e9 : cms q i (p :: l) = cms q i l := by unfold cms; rw [List.filterMap_cons, hc]; rfl
      rw [e9, ← ih]
      rw [hc] at e
      generalize (En.en p : D) = pd at *
      generalize (En.en q : D) = qd at *
      simp [e_bnd, e_lift, e_seq, e, enO, bodyC]
    | some c =>
      obtain ⟨s6', s7', ih⟩ := cms_loop s0 s1 s3 s8 q i B l (out ++ [(c, i)]) (some (.p (En.en p))) (some (.p (En.en c))) (by simp; omega)
      refine ⟨s6', s7', ?_⟩
      show loopS _ _ (.p (En.en p) :: (l.map En.en).map .p) _ = _
      rw [loopS_cons]
      have e9 : out ++ cms q i (p :: l) = (out ++ [(c, i)]) ++ cms q i l := by unfold cms; rw [List.filterMap_cons, hc, Option.map_some, List.append_assoc]; rfl
      rw [e9, ← ih]
      rw [hc] at e
      have g1 : (B ++ [outD out])[B.length]? = some (outD out) := by simp
      have g2 : (B ++ [outD out]).set B.length (.lst ((out.map fun q => DV.p (En.en q)) ++ [.p (En.en (c, i))])) = B ++ [outD (out ++ [(c, i)])] := by
        simp [outD]
      have g3 : (out.map fun q => DV.p (En.en q)).length < 1000000 := by simp; omega
      rw [en_pr c i, en_int] at g2
      have e' : m_common [En.en p, En.en q] = some (.ok (En.en c)) := e
      rw [en_pr c.1 c.2] at *
      generalize (En.en p : D) = pd at *
      generalize (En.en q : D) = qd at *
      generalize (En.en c.1 : D) = c1 at *
      generalize (En.en c.2 : D) = c2 at *
      unfold outD at g1 g2 ⊢
      generalize (out.map fun q => DV.p (En.en q)) = od at *
      simp [e_bnd, e_lift, e_seq, e', bodyC, gApp, tyOk, g1, g3, g2]
theorem down_succ (n : Nat) : downFrom (n + 1) = .p (.int n) :: downFrom n := by
  unfold downFrom
  rw [List.range_succ_eq_map, List.map_cons, List.map_map]
  congr 1
  · congr 2; omega
  · refine List.map_congr_left fun i _ => ?_
    show DV.p (.int _) = .p (.int _)
    congr 2; simp; omega
noncomputable abbrev bodyI : SM := (sSeq (sAsg (mIx (mIx (mVar 0) (mVar 4)) (mC (.int 0))) (gN 5))
  (sSeq (sFor (mItD itL (mVar 3)) (gN 6) bodyC)
  (sAsg (mLc2 (mItD itL (mVar 3)) [6, 8] (gN 6) tYesM itW [8] (gN 8) tYesM (mVar 8)) (gN 3))))
theorem go_loop (R : List Rl) (a : Ar) (ha : okA a) (s1 : Option DV) (B : List O) : ∀ (n : Nat) (l : List Ar) (out : List (Ar × Int)) (s4 s5 s6 s7 s8 : Option DV), n ≤ R.length → GI R a n l out → ∃ s3' s4' s5' s6' s7' s8',
    loopS (gN 4) bodyI (downFrom n) ⟨[some (.p (En.en R)), s1, some (.o B.length), some (.p (En.en l)), s4, s5, s6, s7, s8], B ++ [outD out]⟩
      = some (.nx, ⟨[some (.p (En.en R)), s1, some (.o B.length), s3', s4', s5', s6', s7', s8'], B ++ [outD (goP R n l out).2]⟩)
  | 0, l, out, s4, s5, s6, s7, s8, _, h => ⟨_, s4, s5, s6, s7, s8, rfl⟩
  | n + 1, l, out, s4, s5, s6, s7, s8, hn, h => by
    have hl := h.len ha
    have h2 := h.step (i := n) (by omega)
    obtain ⟨s6a, s7a, e1⟩ := cms_loop (some (.p (En.en R))) s1 (some (.p (En.en l))) s8 (Ra R n) (n : Int) B l out s6 s7 (by omega)
    have e2 := lft_comp (some (.p (En.en R))) s1 (some (.o B.length)) (some (.p (En.en l))) (some (.p (.int (n : Int)))) (Ra R n) (B ++ [outD (out ++ cms (Ra R n) (n : Int) l)]) l none s7a none [] (by simp; omega)
    obtain ⟨t3, t4, t5, t6, t7, t8, ih⟩ := go_loop R a ha s1 B n (lft (Ra R n) l) (out ++ cms (Ra R n) (n : Int) l) (some (.p (.int (n : Int)))) (some (.p (En.en (Ra R n)))) s6a s7a s8 (by omega) h2
    refine ⟨t3, t4, t5, t6, t7, t8, ?_⟩
    rw [down_succ, loopS_cons]
    have e0 : goP R (n + 1) l out = goP R n (lft (Ra R n) l) (out ++ cms (Ra R n) (n : Int) l) := rfl
    rw [e0, ← ih]
    have hr : R[n]? = some R[n] := List.getElem?_eq_getElem (by omega)
    have hR : Ra R n = R[n].a := by unfold Ra; rw [hr]; rfl
    have g0 := at_en R (i := (n : Int)) (x := R[n]) (by omega) (by rw [Int.toNat_natCast]; exact hr)
    rw [en_rl, ← hR] at g0
    generalize (n : Int) = j at *
    rw [en_ls R] at *
    generalize R.map En.en = Rd at *
    rw [en_ls l] at *
    rw [en_ls (lft (Ra R n) l)] at *
    generalize (lft (Ra R n) l).map En.en = l2 at *
    generalize l.map En.en = ld at *
    generalize outD (out ++ cms (Ra R n) j l) = o2 at *
    generalize outD out = o1 at *
    generalize (En.en (Ra R n) : D) = qd at *
    simp [e_bnd, e_lift, e_seq, g0, atI0] at e1 e2 ⊢
    rw [e1]
    simp [e_bnd, e_lift, e_seq, mLc2, e2]
end Law
namespace Law
open PySem L2 DL
/-! sorted -/
def lx {α : Type} (a b : α → Int) (p q : α) : Bool := decide (a p < a q ∨ (a p = a q ∧ b p ≤ b q))
theorem lx_iff {α : Type} {a b : α → Int} {p q : α} : lx a b p q = true ↔ a p < a q ∨ (a p = a q ∧ b p ≤ b q) := decide_eq_true_iff
theorem lx_pw {α : Type} (a b : α → Int) (l : List α) : (l.mergeSort (lx a b)).Pairwise fun p q => lx a b p q = true := by
  refine List.pairwise_mergeSort (fun x y z h1 h2 => ?_) (fun x y => ?_) l
  · rw [lx_iff] at *; omega
  · rw [Bool.or_eq_true, lx_iff, lx_iff]; omega
abbrev lxA : Ad → Ad → Bool := lx (fun x => x.1) (fun x => x.2)
theorem all_shp {α : Type} [DecidableEq α] [En α] (h : En.dp α ≤ 64) (l : List α) : (l.map En.en).all shp = true := by
  rw [List.all_eq_true]
  intro d hd
  obtain ⟨a, _, rfl⟩ := List.mem_map.mp hd
  exact shp_en a h
theorem dSort_ad (l : List Ad) : dSort (En.en l) = some (En.en (l.mergeSort lxA)) := by
  rw [en_ls, en_ls]
  unfold dSort
  have h1 := all_shp (α := Ad) (by decide) l
  have h2 : sortOk (toPs (l.map En.en)) = true := sortOk_ii l (fun x => x.1) (fun x => x.2)
  show (if ((l.map En.en).all shp && sortOk (toPs (l.map En.en))) = true then some (D.lst (sortL (l.map En.en))) else none) = _
  rw [h1, h2]
  show some (D.lst (sortL _)) = _
  unfold sortL
  have e := List.map_mergeSort (r := lxA) (s := PySem.W.dataLe false toP) (f := (En.en : Ad → D)) (l := l) fun p _ q _ => by
    have := congrFun (congrFun (PySem.W.dataLe_ii (fun x : Ad => x.1) (fun x => x.2)) p) q
    exact this.symm
  rw [e]
theorem ad_eq {x y : Ad} (h1 : x.1 = y.1) (h2 : x.2 = y.2) : x = y := Prod.ext h1 h2
theorem sort_perm {l m : List Ad} (h : l.Perm m) : l.mergeSort lxA = m.mergeSort lxA := by
  refine List.Perm.eq_of_pairwise (le := fun p q => lxA p q = true) (fun a b _ _ h1 h2 => ?_) (lx_pw _ _ l) (lx_pw _ _ m) (((List.mergeSort_perm l _).trans h).trans (List.mergeSort_perm m _).symm)
  rw [lx_iff] at h1 h2
  exact ad_eq (by omega) (by omega)
/-! the parts -/
def lxP : Ar × Int → Ar × Int → Bool := lx (fun q => q.1.1.2) (fun q => q.1.1.1)
noncomputable abbrev kfP : MA := lamK 1 (mCallA 1 m_place_key (aCons (mIx (mIx (mVar 0) (mC (.int 0))) (mC (.int 0))) aNil))
abbrev keyP (q : Ar × Int) : D := .tup [.int q.1.1.2, .int q.1.1.1]
theorem kfP_spec (q : Ar × Int) : kfP [En.en q] = some (.ok (keyP q)) := by
  obtain ⟨⟨⟨a, b⟩, c, d⟩, i⟩ := q
  have e : m_place_key [.tup [.int a, .int b]] = some (.ok (.tup [.int b, .int a])) := by
    apply wpA.eq
    simp [m_place_key, b_place_key]
  have e2 : (En.en ((((a, b), c, d), i) : Ar × Int) : D) = .tup [.tup [.tup [.int a, .int b], .tup [.int c, .int d]], .int i] := rfl
  rw [e2]
  have e3 : mCallA 1 m_place_key (aCons (mIx (mIx (mVar 0) (mC (.int 0))) (mC (.int 0))) aNil) ⟨slotsOf 1 ([D.tup [.tup [.tup [.int a, .int b], .tup [.int c, .int d]], .int i]].map .p), []⟩ = some (.ok (.p (.tup [.int b, .int a])) []) := by
    simp [e_bnd, e]
  unfold kfP lamK
  rw [e3]
theorem keys_map {f : MA} {g : Ar × Int → D} (h : ∀ q, f [En.en q] = some (.ok (g q))) : ∀ l : List (Ar × Int), keysM f (l.map En.en) = some (l.map g)
  | [] => rfl
  | q :: l => by
    rw [List.map_cons]
    unfold keysM
    rw [h q]
    simp only
    rw [keys_map h l]
    rfl
theorem sort_parts (l : List (Ar × Int)) : sortKD kfP (.lst (l.map En.en)) = some (.lst ((l.mergeSort lxP).map En.en)) := by
  rw [sortKD_eq (keys_map kfP_spec l) (by
    rw [List.all_eq_true]
    intro d hd
    obtain ⟨q, _, rfl⟩ := List.mem_map.mp hd
    rfl) (sortOk_ii l (fun q => q.1.1.2) (fun q => q.1.1.1))]
  unfold sortBy
  have ez : (l.map (En.en : Ar × Int → D)).zip (l.map keyP) = l.map fun q => (En.en q, keyP q) := by
    rw [List.zip_map']
  rw [ez]
  have e := List.map_mergeSort (r := lxP) (s := PySem.W.dataLe false fun p : D × D => toP p.2) (f := fun q : Ar × Int => ((En.en q, keyP q) : D × D)) (l := l) fun p _ q _ => by
    have := congrFun (congrFun (PySem.W.dataLe_ii (fun q : Ar × Int => q.1.1.2) (fun q => q.1.1.1)) p) q
    exact this.symm
  rw [← e, List.map_map]
  rfl
noncomputable def parts (R : List Rl) (a : Ar) : List (Ar × Int) := (pbr R a).mergeSort lxP
theorem allP_out (out : List (Ar × Int)) : allP (out.map fun q => DV.p (En.en q)) = some (out.map En.en) := by
  have e : (out.map fun q => DV.p (En.en q)) = (out.map (En.en : Ar × Int → D)).map .p := by rw [List.map_map]; rfl
  rw [e]; exact e_allPm _
theorem revJ (i : Nat) (n : Nat) (j : Int) (d : D) (l : List (Option DV)) (M : List O) (h1 : mVar i ⟨l, M⟩ = some (.ok (.p d) M)) (h2 : dLen M [.p d] = some (.int j)) (g : rngOk j = true) (hj : j.toNat = n) : mRev1 (mCB dLen (aCons (mVar i) aNil)) ⟨l, M⟩ = some (.ok (downFrom n) M) := by
  have e1 : mCB dLen (aCons (mVar i) aNil) ⟨l, M⟩ = some (.ok (.p (.int j)) M) := by
    rw [e_cb, e_bnd, e_aCons, e_bnd, h1]
    simp [e_bnd, h2, -e_len]
  have q3 : revG (.int j) = some (downFrom n) := by
    show (if rngOk j = true then some (downFrom j.toNat) else none) = _
    rw [if_pos g, hj]
  unfold mRev1
  rw [e_itD, e_bnd, e1]
  show (match revG (.int j) with | some ds => some (Rs.ok ds M) | none => none) = _
  rw [q3]
abbrev SP (R : List Rl) (a : Ar) (n : Nat) (t3 t4 t5 t6 t7 t8 : Option DV) (M : List O) : S := ⟨[some (.p (En.en R)), some (.p (En.en a)), some (.o n), t3, t4, t5, t6, t7, t8], M⟩
theorem parts1 {R : List Rl} {a : Ar} {n : Nat} {M : List O} (hl : R.length ≤ 1000) : mRev1 (mCB dLen (aCons (mVar 0) aNil)) (SP R a n (some (.p (En.en [a]))) none none none none none M) = some (.ok (downFrom R.length) M) := by
  refine revJ 0 R.length ((R.length : Nat) : Int) (En.en R) _ _ rfl ?_ (rng_ok (by omega) (by omega)) (Int.toNat_natCast R.length)
  rw [en_ls, e_len, e_lenp, e_lenl, Option.map_some, List.length_map]
theorem parts2 {R : List Rl} {a : Ar} {out : List (Ar × Int)} {Ps : List Addr} {B : List O} {t3 t4 t5 t6 t7 t8 : Option DV} (hB : B[0]? = some (.tbl (Ps.getD 0 0) (lamq (PySem.Str.ofString "parts_by_rule")))) : mSortL 0 (Ps.getD 0 0) (lamq (PySem.Str.ofString "parts_by_rule")) kfP (mFrz (mVar 2)) (SP R a B.length t3 t4 t5 t6 t7 t8 (B ++ [outD out])) = some (.ok (.p (En.en (out.mergeSort lxP))) (B ++ [.gone])) := by
  have h0 : 0 < B.length := (List.getElem?_eq_some_iff.mp hB).1
  have q1 : (B ++ [outD out])[B.length]? = some (outD out) := by simp
  have q2 : mFrz (mVar 2) (SP R a B.length t3 t4 t5 t6 t7 t8 (B ++ [outD out])) = some (.ok (.p (.lst (out.map En.en))) (B ++ [.gone])) := by
    have q3 := allP_out out
    have q4 : (B ++ [outD out]).set B.length .gone = B ++ [.gone] := by simp
    unfold outD at q1 q4 ⊢
    simp [e_bnd, q1, q3, q4]
  have q5 : tblAt (B ++ [.gone]) 0 (Ps.getD 0 0) (lamq (PySem.Str.ofString "parts_by_rule")) = true := by
    unfold tblAt
    rw [List.getElem?_append_left h0, hB]
    simp
  unfold mSortL
  rw [e_bnd, q2]
  show (if tblAt (B ++ [.gone]) 0 (Ps.getD 0 0) (lamq (PySem.Str.ofString "parts_by_rule")) = true then ret (sortKD kfP (.lst (out.map En.en))) ⟨_, B ++ [.gone]⟩ else none) = _
  rw [if_pos q5, sort_parts]
  rfl
theorem seq_asg (m : EM) (g : GM) (k : SM) (s s1 : S) (d : DV) (M : List O) (h1 : m s = some (.ok d M)) (h2 : g d ⟨s.l, M⟩ = some s1) : sSeq (sAsg m g) k s = k s1 := by
  rw [e_seq, e_asg, e_lift, h1]
  show (match (match g d ⟨s.l, M⟩ with | some s1 => some (Fl.nx, s1) | none => none) with | some (.nx, s1) => k s1 | r => r) = _
  rw [h2]
theorem parts3 {R : List Rl} {a : Ar} {Ps : List Addr} {B : List O} : b_parts_by_rule Ps ⟨slotsOf 9 [.p (En.en R), .p (En.en a)], B⟩ = b_parts_by_rule_2 Ps (SP R a B.length (some (.p (En.en [a]))) none none none none none (B ++ [outD []])) := by
  unfold b_parts_by_rule b_parts_by_rule_1
  have h1 : dispO aNil ⟨slotsOf 9 [.p (En.en R), .p (En.en a)], B⟩ = some (.ok (.o B.length) (B ++ [outD []])) := by
    rw [e_dispO, e_bnd, e_aNil]
    exact if_pos (Nat.zero_le _)
  rw [seq_asg (dispO aNil) (gN 2) _ _ ⟨[some (.p (En.en R)), some (.p (En.en a)), some (.o B.length), none, none, none, none, none, none], B ++ [outD []]⟩ _ _ h1 rfl]
  have h2 : disp .lst (aCons (mVar 1) aNil) ⟨[some (.p (En.en R)), some (.p (En.en a)), some (.o B.length), none, none, none, none, none, none], B ++ [outD []]⟩ = some (.ok (.p (En.en [a])) (B ++ [outD []])) := by
    have e0 : (En.en [a] : D) = .lst [En.en a] := rfl
    rw [e0]
    generalize (En.en a : D) = ad at *
    generalize (En.en R : D) = rd at *
    generalize B ++ [outD []] = M at *
    simp [e_bnd]
  rw [seq_asg (disp .lst (aCons (mVar 1) aNil)) (gN 3) _ _ _ _ _ h2 rfl]
  rfl
theorem seq_for (it : IM) (g : GM) (b k : SM) (s s1 : S) (ds : List DV) (r : Fl × S) (h1 : it s = some (.ok ds s.m)) (h2 : loopS g b ds s = some (.nx, s1)) (h3 : k s1 = some r) : sSeq (sFor it g b) k s = some r := by
  rw [e_seq, e_for, e_lift, h1]
  show (match loopS g b ds s with | some (.nx, s1) => k s1 | r => r) = _
  rw [h2]
  exact h3
theorem parts_spec {R : List Rl} {a : Ar} {Ps : List Addr} {B : List O} (hl : R.length ≤ 1000) (ha : okA a) (ho : ord a) (hB : B[0]? = some (.tbl (Ps.getD 0 0) (lamq (PySem.Str.ofString "parts_by_rule")))) (hc : B.all (closed B.length) = true) : m_parts_by_rule Ps [.p (En.en R), .p (En.en a)] B = some (.ok (.p (En.en (parts R a))) B) := by
  have g0 : GI R a R.length [a] [] := ⟨fun x => by rw [cN_cons]; show 0 + (ind (has a x) + 0) = _; omega, fun p hp x hx k hk => pR_out hk, fun q hq => (by cases hq), fun p hp => by rw [List.mem_singleton] at hp; rw [hp]; exact ho, fun q hq => (by cases hq)⟩
  obtain ⟨t3, t4, t5, t6, t7, t8, e⟩ := go_loop R a ha (some (.p (En.en a))) B R.length [a] [] none none none none none (Nat.le_refl _) g0
  have e3 : b_parts_by_rule_2 Ps (SP R a B.length (some (.p (En.en [a]))) none none none none none (B ++ [outD []])) = some (.rt (.p (En.en (parts R a))), SP R a B.length t3 t4 t5 t6 t7 t8 (B ++ [.gone])) := by
    refine seq_for _ _ _ _ _ _ _ _ (parts1 hl) e ?_
    unfold b_parts_by_rule_3
    rw [e_sret, e_lift, parts2 (R := R) (a := a) hB]
    rfl
  unfold m_parts_by_rule
  rw [e_runB, parts3, e3]
  show some (Rs.ok _ (dropM B.length (.p _) (B ++ [.gone]))) = _
  rw [dropM_app rfl hc]
end Law
namespace Law
open PySem L2 DL
theorem okA_sub {p a : Ar} (h : ord p) (hs : ∀ x, has p x = true → has a x = true) (ha : okA a) : okA p := by
  unfold ord at h
  have h1 := (has_iff a _).mp (hs p.1 ((has_iff p _).mpr (by omega)))
  have h2 := (has_iff a _).mp (hs p.2 ((has_iff p _).mpr (by omega)))
  unfold okA at *
  omega
noncomputable abbrev bodyT : SM := (sIf (mOr (mBin dNe (mIx (mVar 0) (mVar 5)) (mCallA 2 m_l_rule (aCons (mVar 0) (aCons (mVar 6) aNil)))) (mBin dNe (mVar 5) (mCallA 2 m_l_last (aCons (mVar 0) (aCons (mVar 6) aNil))))) (sRet (mC (.bl false))) sNil)
theorem t_step (f g : MA) (Rd : List D) (xd rd : D) (j : Int) (s1 s2 s3 s4 s7 : Option DV) (e1 : f [.lst Rd, xd] = some (.ok rd)) (e2 : g [.lst Rd, xd] = some (.ok (.int j))) (e3 : atI Rd j = some rd) (e4 : eqD rd rd = some true) : (sIf (mOr (mBin dNe (mIx (mVar 0) (mVar 5)) (mCallA 2 f (aCons (mVar 0) (aCons (mVar 6) aNil)))) (mBin dNe (mVar 5) (mCallA 2 g (aCons (mVar 0) (aCons (mVar 6) aNil))))) (sRet (mC (.bl false))) sNil) ⟨[some (.p (.lst Rd)), s1, s2, s3, s4, some (.p (.int j)), some (.p xd), s7], []⟩ = some (.nx, ⟨[some (.p (.lst Rd)), s1, s2, s3, s4, some (.p (.int j)), some (.p xd), s7], []⟩) := by
  simp [e_bnd, e_lift, e_seq, e1, e2, e3, e4]
theorem loop_step (g : GM) (b : SM) (d : DV) (ds : List DV) (s s1 s2 : S) (h1 : g d s = some s1) (h2 : b s1 = some (.nx, s2)) : loopS g b (d :: ds) s = loopS g b ds s2 := by
  rw [loopS_cons, h1]
  show (match b s1 with | none => none | some (.nx, s2) => loopS g b ds s2 | some (.ct, s2) => loopS g b ds s2 | some (.bk, s2) => some (.nx, s2) | some (.rt v, s2) => some (.rt v, s2) | some (.ex c f, s2) => some (.ex c f, s2)) = _
  rw [h2]
theorem t_loop {R : List Rl} (hl : R.length ≤ 1000) (s1 s2 s3 s4 s7 : Option DV) (j : Int) (l : List Ad) : ∀ (s6 : Option DV), (∀ x ∈ l, Cov R x ∧ j = (li R x : Nat)) → ∃ s6',
    loopS (gN 6) bodyT ((l.map En.en).map .p) ⟨[some (.p (En.en R)), s1, s2, s3, s4, some (.p (.int j)), s6, s7], []⟩ = some (.nx, ⟨[some (.p (En.en R)), s1, s2, s3, s4, some (.p (.int j)), s6', s7], []⟩) := by
  induction l with
  | nil => intro s6 _; exact ⟨s6, rfl⟩
  | cons x l ih =>
    intro s6 h
    obtain ⟨s6', ih⟩ := ih (some (.p (En.en x))) fun y hy => h y (List.mem_cons_of_mem _ hy)
    refine ⟨s6', ?_⟩
    obtain ⟨hc, hj⟩ := h x List.mem_cons_self
    have e1 := rule_spec (R := R) (x := x) (by intro z; rw [z] at hc; cases hc)
    have e2 := last_spec hc hl
    have e3 := rl_at hc
    rw [← hj] at e2 e3
    have e4 : eqD (En.en (ru R x)) (En.en (ru R x)) = some true := eqD_refl (En.ok _) (Nat.le_trans (En.dpl _) (by decide))
    have e5 := t_step m_l_rule m_l_last (R.map En.en) (En.en x) _ j s1 s2 s3 s4 s7 e1 e2 e3 e4
    have e6 := loop_step (gN 6) bodyT (.p (En.en x)) ((l.map En.en).map .p) ⟨[some (.p (.lst (R.map En.en))), s1, s2, s3, s4, some (.p (.int j)), s6, s7], []⟩ _ _ rfl e5
    exact e6.trans ih
noncomputable abbrev bodyU : SM := (sSeq (sFor (mItD itL (mCallA 1 m_l_cells (aCons (mVar 4) aNil))) (gN 6) bodyT)
  (sAsg (mBin dAdd2 (mVar 3) (mCallA 1 m_l_cells (aCons (mVar 4) aNil))) (gN 3)))
def fl (out : List (Ar × Int)) : List Ad := (out.map (·.1)).flatMap cells
theorem fl_cons (q : Ar × Int) (out : List (Ar × Int)) : fl (q :: out) = cells q.1 ++ fl out := by unfold fl; rw [List.map_cons, List.flatMap_cons]
theorem u_loop {R : List Rl} (hl : R.length ≤ 1000) (s1 s2 s7 : Option DV) : ∀ (out : List (Ar × Int)) (sp : List Ad) (s4 s5 s6 : Option DV), (∀ q ∈ out, okA q.1 ∧ ∀ x, has q.1 x = true → Cov R x ∧ q.2 = (li R x : Nat)) → sp.length + (fl out).length ≤ 1000000 → ∃ s4' s5' s6',
    loopS (gT 2 (gsCons (gN 4) (gsCons (gN 5) gsNil))) bodyU ((out.map En.en).map .p) ⟨[some (.p (En.en R)), s1, s2, some (.p (En.en sp)), s4, s5, s6, s7], []⟩ = some (.nx, ⟨[some (.p (En.en R)), s1, s2, some (.p (En.en (sp ++ fl out))), s4', s5', s6', s7], []⟩)
  | [], sp, s4, s5, s6, _, _ => ⟨s4, s5, s6, by simp [fl]⟩
  | q :: out, sp, s4, s5, s6, h, hn => by
    rw [fl_cons, List.length_append] at hn
    obtain ⟨s4', s5', s6', ih⟩ := u_loop hl s1 s2 s7 out (sp ++ cells q.1) (some (.p (En.en q.1))) (some (.p (.int q.2)))
      ((t_loop hl s1 s2 (some (.p (En.en sp))) (some (.p (En.en q.1))) s7 q.2 (cells q.1) s6 fun x hx => (h q List.mem_cons_self).2 x ((cells_mem _ _).mp hx)).choose)
      (fun p hp => h p (List.mem_cons_of_mem _ hp)) (by rw [List.length_append]; omega)
    have e1 := (t_loop hl s1 s2 (some (.p (En.en sp))) (some (.p (En.en q.1))) s7 q.2 (cells q.1) s6 fun x hx => (h q List.mem_cons_self).2 x ((cells_mem _ _).mp hx)).choose_spec
    generalize (t_loop hl s1 s2 (some (.p (En.en sp))) (some (.p (En.en q.1))) s7 q.2 (cells q.1) s6 fun x hx => (h q List.mem_cons_self).2 x ((cells_mem _ _).mp hx)).choose = w6 at *
    refine ⟨s4', s5', s6', ?_⟩
    have e2 := cells_spec q.1 (h q List.mem_cons_self).1
    show loopS _ _ (.p (En.en q) :: (out.map En.en).map .p) _ = _
    rw [loopS_cons, fl_cons, ← List.append_assoc, ← ih]
    have e0 : (En.en q : D) = .tup [En.en q.1, .int q.2] := rfl
    have e3 : ((sp.map En.en : List D).length + ((cells q.1).map (En.en : Ad → D)).length ≤ 1000000) := by rw [List.length_map, List.length_map]; omega
    rw [e0, en_ls (sp ++ cells q.1), List.map_append]
    rw [en_ls sp] at *
    rw [en_ls (cells q.1)] at *
    generalize (cells q.1).map (En.en : Ad → D) = cd at *
    generalize sp.map (En.en : Ad → D) = spd at *
    generalize (En.en R : D) = Rd at *
    generalize (En.en q.1 : D) = qd at *
    generalize q.2 = j at *
    simp [e_bnd, e_lift, e_seq, e2, bodyU] at e1 ⊢
    rw [e1]
    simp [e_bnd, e_lift, e_seq, e2, e3]
/-! the order of the first addresses -/
def swp (x : Ad) : Ad := (x.2, x.1)
theorem map_comp {α β : Type} [DecidableEq α] [En α] [DecidableEq β] [En β] {l : List (Option DV)} {g : GM} {e : EM} {M : List O} (f : α → β) (ds : List α) (h : ∀ a, ∃ s1 : S, g (.p (En.en a)) ⟨l, M⟩ = some s1 ∧ s1.m = M ∧ e s1 = some (.ok (.p (En.en (f a))) M)) (hl : ds.length ≤ 1000000) : compL l g tYesM e ((ds.map En.en).map .p) [] M = some ((ds.map f).map En.en, M) := by
  have main : ∀ (ds : List α) (acc : List D), acc.length + ds.length ≤ 1000000 → compL l g tYesM e ((ds.map En.en).map .p) acc M = some (acc ++ (ds.map f).map En.en, M) := by
    intro ds
    induction ds with
    | nil => intro acc _; simp [compL]
    | cons a ds ih =>
      intro acc hn
      simp only [List.length_cons] at hn
      obtain ⟨s1, h1, h2, h3⟩ := h a
      show compL _ _ _ _ (.p (En.en a) :: (ds.map En.en).map .p) acc M = _
      unfold compL
      rw [h1]
      have q : tYesM s1 = some (.ok (.p (.bl true)) s1.m) := rfl
      dsimp only
      rw [q]
      dsimp only
      have q2 : e ⟨s1.l, s1.m⟩ = some (.ok (.p (En.en (f a))) M) := h3
      rw [q2]
      dsimp only
      rw [if_pos (by omega), ih _ (by simp; omega)]
      simp
  have := main ds [] (by simpa using hl)
  simpa using this
theorem lcsD (i : Nat) (vs : List Nat) (g : GM) (e : EM) (l : List (Option DV)) (M : List O) (ds xs : List D) (h : gv l i = some (.p (.lst ds))) (h2 : compL (wipeL l vs) g tYesM e (ds.map .p) [] M = some (xs, M)) : mLc (mItD itL (mVar i)) vs g tYesM e ⟨l, M⟩ = some (.ok (.p (.lst xs)) M) := by
  refine lcs _ vs g _ e ⟨l, M⟩ (ds.map .p) xs ?_ h2
  simp [e_bnd, h]
theorem order_spec (l : List Ad) (hl : l.length ≤ 1000000) (hp : l.Pairwise fun p q => p.2 < q.2 ∨ (p.2 = q.2 ∧ p.1 ≤ q.1)) : m_l_order [En.en l] = some (.ok (En.en l)) := by
  have e1 := map_comp (l := [some (.p (En.en l)), none, none, none, none]) (g := gN 2) (e := disp .tup (aCons (mIx (mVar 2) (mC (.int 1))) (aCons (mIx (mVar 2) (mC (.int 0))) aNil))) (M := []) swp l (fun a => ⟨_, rfl, rfl, by simp [e_bnd, en_ad, swp]⟩) hl
  have e2 : dSort (En.en (l.map swp)) = some (En.en (l.map swp)) := by
    rw [dSort_ad, List.mergeSort_of_pairwise]
    rw [List.pairwise_map]
    refine hp.imp fun {p q} h => lx_iff.mpr h
  have e3 := map_comp (l := [some (.p (En.en l)), some (.p (En.en (l.map swp))), none, none, none]) (g := gT 2 (gsCons (gN 3) (gsCons (gN 4) gsNil))) (e := disp .tup (aCons (mVar 4) (aCons (mVar 3) aNil))) (M := []) swp (l.map swp) (fun a => ⟨⟨[some (.p (En.en l)), some (.p (En.en (l.map swp))), none, some (.p (.int a.1)), some (.p (.int a.2))], []⟩, rfl, rfl, by simp [e_bnd, en_ad, swp]⟩) (by simpa using hl)
  have e4 : (l.map swp).map swp = l := by
    rw [List.map_map]
    exact List.map_id' _
  rw [e4] at e3
  have f1 := lcsD 0 [2] (gN 2) _ [some (.p (En.en l)), none, none, none, none] [] (l.map En.en) _ rfl e1
  have f3 := lcsD 1 [3, 4] _ _ [some (.p (En.en l)), some (.p (En.en (l.map swp))), none, none, none] [] ((l.map swp).map En.en) _ rfl e3
  have f2 : mCB (g1 dSort) (aCons (mLc (mItD itL (mVar 0)) [2] (gN 2) tYesM (disp .tup (aCons (mIx (mVar 2) (mC (.int 1))) (aCons (mIx (mVar 2) (mC (.int 0))) aNil)))) aNil) ⟨[some (.p (En.en l)), none, none, none, none], []⟩ = some (.ok (.p (En.en (l.map swp))) []) := by
    rw [e_cb, e_bnd, e_aCons, e_bnd, f1]
    have e2 : dSort (.lst ((l.map swp).map En.en)) = some (En.en (l.map swp)) := e2
    generalize (l.map swp).map (En.en : Ad → D) = z at *
    simp [e_bnd, e2]
  unfold m_l_order b_l_order
  rw [e_runA]
  have f4 := seq_asg _ (gN 1) (sRet (mLc (mItD itL (mVar 1)) [3, 4] (gT 2 (gsCons (gN 3) (gsCons (gN 4) gsNil))) tYesM (disp .tup (aCons (mVar 4) (aCons (mVar 3) aNil))))) ⟨slotsOf 5 ([(En.en l : D)].map .p), []⟩ ⟨[some (.p (En.en l)), some (.p (En.en (l.map swp))), none, none, none], []⟩ _ _ f2 rfl
  rw [f4, e_sret, e_lift, f3]
  rfl
end Law
namespace Law
open PySem L2 DL
theorem parts_fin (f g : MA) (s0 s2 s4 s5 s6 : Option DV) (ad sp fd cd so : D) (e1 : f [ad] = some (.ok cd)) (e2 : g [fd] = some (.ok fd)) (e3 : dSort sp = some so) (e4 : dSort cd = some so) (e5 : eqD so so = some true) (e6 : eqD fd fd = some true) :
    mAnd (mBin dEq (mCB (g1 dSort) (aCons (mVar 3) aNil)) (mCB (g1 dSort) (aCons (mCallA 1 f (aCons (mVar 1) aNil)) aNil))) (mBin dEq (mVar 7) (mCallA 1 g (aCons (mVar 7) aNil))) ⟨[s0, some (.p ad), s2, some (.p sp), s4, s5, s6, some (.p fd)], []⟩ = some (.ok (.p (.bl true)) []) := by
  simp [e_bnd, e1, e2, e3, e4, e5, e6]
theorem lparts_spec {R : List Rl} {a : Ar} {out : List (Ar × Int)} (hl : R.length ≤ 1000) (ha : okA a) (hc : ∀ x, has a x = true → Cov R x) (h : Pt R a out) (hs : out.Pairwise fun p q => lxP p q = true) (hn : out.length ≤ 2574) : m_l_parts [En.en R, En.en a, En.en out] = some (.ok (.bl true)) := by
  have hlen := h.perm.length_eq
  have hcl := cells_len a ha
  obtain ⟨s4, s5, s6, e1⟩ := u_loop hl (some (.p (En.en a))) (some (.p (En.en out))) none out [] none none none (fun q hq => ⟨okA_sub (h.ord q hq) (fun x hx => (h.last q hq x hx).2) ha, fun x hx => ⟨hc x (h.last q hq x hx).2, (h.last q hq x hx).1⟩⟩) (by show 0 + (fl out).length ≤ _; unfold fl; omega)
  rw [List.nil_append] at e1
  have e2 := map_comp (l := [some (.p (En.en R)), some (.p (En.en a)), some (.p (En.en out)), some (.p (En.en (fl out))), none, none, s6, none]) (g := gT 2 (gsCons (gN 4) (gsCons (gN 5) gsNil))) (e := mIx (mVar 4) (mC (.int 0))) (M := []) (fun q : Ar × Int => q.1.1) out (fun q => ⟨⟨[some (.p (En.en R)), some (.p (En.en a)), some (.p (En.en out)), some (.p (En.en (fl out))), some (.p (En.en q.1)), some (.p (.int q.2)), s6, none], []⟩, rfl, rfl, by
    have e0 : (En.en q.1 : D) = .tup [En.en q.1.1, En.en q.1.2] := rfl
    rw [e0]
    generalize (En.en q.1.1 : D) = z1 at *
    generalize (En.en q.1.2 : D) = z2 at *
    generalize (En.en R : D) = z3 at *
    generalize (En.en a : D) = z4 at *
    generalize (En.en out : D) = z5 at *
    generalize (En.en (fl out) : D) = z6 at *
    simp [e_bnd, atI0]⟩) (by omega)
  have f2 := lcsD 2 [4, 5] _ _ [some (.p (En.en R)), some (.p (En.en a)), some (.p (En.en out)), some (.p (En.en (fl out))), s4, s5, s6, none] [] (out.map En.en) _ rfl e2
  have ho := order_spec (out.map fun q => q.1.1) (by rw [List.length_map]; omega) (by
    rw [List.pairwise_map]
    exact hs.imp fun {p q} z => lx_iff.mp z)
  have d1 := dSort_ad (fl out)
  have d2 := dSort_ad (cells a)
  rw [← sort_perm h.perm] at d2
  have q1 : eqD (En.en ((fl out).mergeSort lxA)) (En.en ((fl out).mergeSort lxA)) = some true := eqD_refl (En.ok _) (Nat.le_trans (En.dpl _) (by decide))
  have q2 : eqD (En.en (out.map fun q => q.1.1)) (En.en (out.map fun q => q.1.1)) = some true := eqD_refl (En.ok _) (Nat.le_trans (En.dpl _) (by decide))
  have e3 := parts_fin m_l_cells m_l_order (some (.p (En.en R))) (some (.p (En.en out))) s4 s5 s6 (En.en a) _ _ _ _ (cells_spec a ha) ho d1 d2 q1 q2
  unfold m_l_parts b_l_parts
  rw [e_runA]
  have w1 : disp .lst aNil ⟨slotsOf 8 (([En.en R, En.en a, En.en out] : List D).map .p), []⟩ = some (.ok (.p (.lst [])) []) := by
    rw [e_disp, e_bnd, e_aNil]
    exact if_pos (Nat.zero_le _)
  have it1 : mItD itL (mVar 2) ⟨[some (.p (En.en R)), some (.p (En.en a)), some (.p (En.en out)), some (.p (.lst [])), none, none, none, none], []⟩ = some (.ok ((out.map En.en).map .p) []) := rfl
  rw [seq_asg _ (gN 3) _ _ ⟨[some (.p (En.en R)), some (.p (En.en a)), some (.p (En.en out)), some (.p (.lst [])), none, none, none, none], []⟩ _ _ w1 rfl]
  have g4 : sRet (mAnd (mBin dEq (mCB (g1 dSort) (aCons (mVar 3) aNil)) (mCB (g1 dSort) (aCons (mCallA 1 m_l_cells (aCons (mVar 1) aNil)) aNil))) (mBin dEq (mVar 7) (mCallA 1 m_l_order (aCons (mVar 7) aNil)))) ⟨[some (.p (En.en R)), some (.p (En.en a)), some (.p (En.en out)), some (.p (En.en (fl out))), s4, s5, s6, some (.p (En.en (out.map fun q => q.1.1)))], []⟩ = some (.rt (.p (.bl true)), ⟨[some (.p (En.en R)), some (.p (En.en a)), some (.p (En.en out)), some (.p (En.en (fl out))), s4, s5, s6, some (.p (En.en (out.map fun q => q.1.1)))], []⟩) := by
    rw [e_sret, e_lift, e3]
  have g3 := (seq_asg _ (gN 7) _ _ ⟨[some (.p (En.en R)), some (.p (En.en a)), some (.p (En.en out)), some (.p (En.en (fl out))), s4, s5, s6, some (.p (En.en (out.map fun q => q.1.1)))], []⟩ _ _ f2 rfl).trans g4
  rw [seq_for _ _ bodyU _ ⟨[some (.p (En.en R)), some (.p (En.en a)), some (.p (En.en out)), some (.p (.lst [])), none, none, none, none], []⟩ _ _ _ it1 e1 g3]
theorem parts_ok {R : List Rl} {a : Ar} (hl : R.length ≤ 1000) (ha : okA a) (ho : ord a) (hc : ∀ x, has a x = true → Cov R x) : Pt R a (parts R a) ∧ (parts R a).length ≤ 2574 ∧ m_l_parts [En.en R, En.en a, En.en (parts R a)] = some (.ok (.bl true)) := by
  have p := pbr_pt ho hc
  have hp : (parts R a).Perm (pbr R a) := List.mergeSort_perm _ _
  have hn : (parts R a).length ≤ 2574 := by
    rw [hp.length_eq]
    have := (pbr_GI (R := R) ho).len ha
    omega
  have p2 : Pt R a (parts R a) := ⟨((hp.map (·.1)).flatMap_right cells).trans p.perm, fun q hq => p.last q (hp.mem_iff.mp hq), fun q hq => p.ord q (hp.mem_iff.mp hq)⟩
  exact ⟨p2, hn, lparts_spec hl ha hc p2 (lx_pw _ _ _) hn⟩
end Law
namespace Law
open PySem L2 DL
/-! bits -/
theorem bit_sub (N m : Nat) : ∀ k, (N - (N &&& m)).testBit k = (N.testBit k && !m.testBit k)
  | 0 => by
    rw [Nat.testBit_zero, Nat.testBit_zero, Nat.testBit_zero]
    have h1 : (N &&& m) % 2 = 1 ↔ N % 2 = 1 ∧ m % 2 = 1 := Nat.and_mod_two_eq_one
    have h2 : N &&& m ≤ N := Nat.and_le_left
    rw [Bool.eq_iff_iff, Bool.and_eq_true, decide_eq_true_eq, decide_eq_true_eq, Bool.not_eq_true', decide_eq_false_iff_not]
    omega
  | k + 1 => by
    rw [Nat.testBit_succ, Nat.testBit_succ, Nat.testBit_succ, ← bit_sub (N / 2) (m / 2) k]
    have h1 : (N &&& m) % 2 = 1 ↔ N % 2 = 1 ∧ m % 2 = 1 := Nat.and_mod_two_eq_one
    have h2 : N &&& m ≤ N := Nat.and_le_left
    have h3 : (N &&& m) / 2 = N / 2 &&& m / 2 := Nat.and_div_two
    rw [← h3]
    congr 1
    omega
theorem bor_nat (N m : Nat) : Builtin.bitOr (N : Int) (m : Int) = ((N ||| m : Nat) : Int) := by
  unfold Builtin.bitOr Builtin.bitAnd Builtin.bitNot
  have h1 : decide (0 ≤ -(N : Int) - 1) = false := by simp; omega
  have h2 : decide (0 ≤ -(m : Int) - 1) = false := by simp; omega
  rw [h1, h2]
  dsimp only
  have e1 : (-(-(N : Int) - 1) - 1).toNat = N := by omega
  have e2 : (-(-(m : Int) - 1) - 1).toNat = m := by omega
  rw [e1, e2]
  omega
theorem bandn_nat (N m : Nat) : Builtin.bitAnd (N : Int) (Builtin.bitNot (m : Int)) = ((N - (N &&& m) : Nat) : Int) := by
  unfold Builtin.bitAnd Builtin.bitNot
  have h1 : decide (0 ≤ (N : Int)) = true := by simp
  have h2 : decide (0 ≤ -(m : Int) - 1) = false := by simp; omega
  rw [h1, h2]
  dsimp only
  have e2 : (-(-(m : Int) - 1) - 1).toNat = m := by omega
  rw [e2, Int.toNat_natCast]
  have h2 : N &&& m ≤ N := Nat.and_le_left
  omega
theorem band_nat (N m : Nat) : Builtin.bitAnd (N : Int) (m : Int) = ((N &&& m : Nat) : Int) := by
  unfold Builtin.bitAnd
  have h1 : decide (0 ≤ (N : Int)) = true := by simp
  have h2 : decide (0 ≤ (m : Int)) = true := by simp
  rw [h1, h2]
  rfl
def rowsN (w : Nat) : Nat → Nat
  | 0 => 0
  | h + 1 => 2 ^ 26 * rowsN w h + (2 ^ w - 1)
theorem pw_lt {w : Nat} (h : w ≤ 26) : 2 ^ w - 1 < 2 ^ 26 := by
  have h1 : 2 ^ w ≤ 2 ^ 26 := Nat.pow_le_pow_right (by decide) h
  have h2 : 0 < 2 ^ w := Nat.pow_pos (by decide)
  omega
theorem rowsN_bit {w : Nat} (hw : w ≤ 26) : ∀ (h k : Nat), (rowsN w h).testBit k = decide (k / 26 < h ∧ k % 26 < w)
  | 0, k => by
    show Nat.testBit 0 k = _
    rw [Nat.zero_testBit]
    symm; rw [decide_eq_false_iff_not]; omega
  | h + 1, k => by
    show (2 ^ 26 * rowsN w h + (2 ^ w - 1)).testBit k = _
    rw [Nat.testBit_two_pow_mul_add _ (pw_lt hw), Nat.testBit_two_pow_sub_one, rowsN_bit hw h]
    split
    · rw [Bool.eq_iff_iff, decide_eq_true_eq, decide_eq_true_eq]; omega
    · rw [Bool.eq_iff_iff, decide_eq_true_eq, decide_eq_true_eq]; omega
def onesN : Nat → Nat
  | 0 => 0
  | h + 1 => 2 ^ 26 * onesN h + 1
theorem onesN_mul (w : Nat) : ∀ h, onesN h * (2 ^ w - 1) = rowsN w h
  | 0 => Nat.zero_mul _
  | h + 1 => by
    show (2 ^ 26 * onesN h + 1) * (2 ^ w - 1) = 2 ^ 26 * rowsN w h + (2 ^ w - 1)
    rw [← onesN_mul w h, Nat.add_mul, Nat.one_mul, Nat.mul_assoc]
theorem ones_ar (o a b : Nat) (h : a = b + 1) : (a * o + 1) * b + 1 = (o * b + 1) * a := by
  rw [Nat.add_mul, Nat.add_mul, Nat.one_mul, Nat.one_mul, Nat.mul_comm a o, Nat.mul_assoc, Nat.mul_assoc, Nat.mul_comm a b, h, Nat.add_assoc]
theorem onesN_eq : ∀ h, onesN h * 67108863 + 1 = 2 ^ (26 * h)
  | 0 => rfl
  | h + 1 => by
    have ih := onesN_eq h
    rw [show 26 * (h + 1) = 26 * h + 26 from Nat.mul_succ 26 h, Nat.pow_add, ← ih]
    have e0 : onesN (h + 1) = 2 ^ 26 * onesN h + 1 := rfl
    have e : (2 : Nat) ^ 26 = 67108864 := rfl
    rw [e0, e]
    exact ones_ar (onesN h) 67108864 67108863 rfl
def wA (a : Ar) : Nat := (a.2.1 + 1 - a.1.1).toNat
def hA (a : Ar) : Nat := (a.2.2 + 1 - a.1.2).toNat
def fA (a : Ar) : Nat := (26 * a.1.2 + a.1.1).toNat
def maskN (a : Ar) : Nat := rowsN (wA a) (hA a) * 2 ^ fA a
def cellK (k : Nat) : Ad := (((k % 26 : Nat) : Int), ((k / 26 : Nat) : Int))
theorem mask_bit {a : Ar} (ha : okA a) (ho : ord a) (k : Nat) : (maskN a).testBit k = has a (cellK k) := by
  unfold okA at ha
  unfold ord at ho
  unfold maskN
  rw [Nat.testBit_mul_two_pow, rowsN_bit (by unfold wA; omega)]
  rw [Bool.eq_iff_iff, Bool.and_eq_true, decide_eq_true_eq, decide_eq_true_eq, has_iff]
  unfold cellK wA hA fA
  dsimp only
  omega
/-! the program's mask -/
theorem shl_eq {i j : Int} (h0 : 0 ≤ j) (h1 : j ≤ 100000) (h2 : i.natAbs < 2 ^ 100000) : dShl (.int i) (.int j) = some (.int (i * 2 ^ j.toNat)) := by
  unfold dShl dI
  exact if_pos ⟨h0, h1, intBits_le_iff.mpr h2⟩
theorem shl_one {j : Int} (h0 : 0 ≤ j) (h1 : j ≤ 100000) : dShl (.int 1) (.int j) = some (.int ((2 ^ j.toNat : Nat) : Int)) := by
  rw [shl_eq h0 h1 (Nat.one_lt_two_pow (by decide)), Int.one_mul]
  congr 2
theorem mask_fin (ix : MA) (l t r b P Q ST MS of : Int) (e1 : dShl (.int 1) (.int (r - l + 1)) = some (.int P)) (e2 : dShl (.int 1) (.int (26 * (b - t + 1))) = some (.int Q)) (e3 : dShl (.int 1) (.int 26) = some (.int 67108864)) (e4 : dDiv (.int (Q - 1)) (.int 67108863) = some (.int ST)) (e5 : dMul (.int ST) (.int (P - 1)) = some (.int MS)) (e6 : ix [.tup [.int l, .int t]] = some (.ok (.int of))) (RES : Int) (e7 : dShl (.int MS) (.int of) = some (.int RES)) (e8 : dMul (.int 26) (.int (b - t + 1)) = some (.int (26 * (b - t + 1)))) :
    runA 7 (sSeq (sAsg (mVar 0) (gT 2 (gsCons (gT 2 (gsCons (gN 1) (gsCons (gN 2) gsNil))) (gsCons (gT 2 (gsCons (gN 3) (gsCons (gN 4) gsNil))) gsNil))))
  (sSeq (sAsg (mBin dSub (mBin dShl (mC (.int 1)) (mBin dAdd (mBin dSub (mVar 3) (mVar 1)) (mC (.int 1)))) (mC (.int 1))) (gN 5))
  (sSeq (sAsg (mBin dDiv (mBin dSub (mBin dShl (mC (.int 1)) (mBin dMul (mC (.int 26)) (mBin dAdd (mBin dSub (mVar 4) (mVar 2)) (mC (.int 1))))) (mC (.int 1))) (mBin dSub (mBin dShl (mC (.int 1)) (mC (.int 26))) (mC (.int 1)))) (gN 6))
  (sRet (mBin dShl (mBin dMul (mVar 6) (mVar 5)) (mCallA 1 ix (aCons (disp .tup (aCons (mVar 1) (aCons (mVar 2) aNil))) aNil))))))) [.tup [.tup [.int l, .int t], .tup [.int r, .int b]]] = some (.ok (.int RES)) := by
  have e9 : dSub (.int 67108864) (.int 1) = some (.int 67108863) := rfl
  have g1 : dSub (.int r) (.int l) = some (.int (r - l)) := rfl
  have g2 : dAdd (.int (r - l)) (.int 1) = some (.int (r - l + 1)) := rfl
  have g3 : dSub (.int P) (.int 1) = some (.int (P - 1)) := rfl
  have g4 : dSub (.int b) (.int t) = some (.int (b - t)) := rfl
  have g5 : dAdd (.int (b - t)) (.int 1) = some (.int (b - t + 1)) := rfl
  have g6 : dSub (.int Q) (.int 1) = some (.int (Q - 1)) := rfl
  generalize r - l + 1 = x1 at *
  generalize r - l = x0 at *
  generalize 26 * (b - t + 1) = x2 at *
  generalize b - t + 1 = x3 at *
  generalize b - t = x4 at *
  generalize P - 1 = x5 at *
  generalize Q - 1 = x6 at *
  generalize dShl = sh at *
  generalize dDiv = dv at *
  generalize dMul = ml at *
  generalize dSub = sb at *
  generalize dAdd = ad at *
  generalize (67108863 : Int) = n1 at *
  generalize (67108864 : Int) = n2 at *
  simp [e_bnd, e_seq, e_lift, e_runA, e1, e2, e3, e4, e5, e6, e7, e8, e9, g1, g2, g3, g4, g5, g6]
theorem index_spec (l t : Int) (h1 : 0 ≤ t) (h2 : t ≤ 1000) : m_index_of [.tup [.int l, .int t]] = some (.ok (.int (26 * t + l))) := by
  apply wpA.eq
  have : mulOk t 26 = true := mulOkR _ _ (by decide) (by decide)
  simp [m_index_of, b_index_of, k_COLUMNS, this, Int.mul_comm]
theorem mul_eq {i j : Int} (h : mulOk i j = true) : dMul (.int i) (.int j) = some (.int (i * j)) := if_pos h
theorem div_eq {i j : Int} (h : 0 < j ∧ j < 18446744073709551616) : dDiv (.int i) (.int j) = some (.int (i / j)) := if_pos h
theorem mask_spec {a : Ar} (ha : okA a) (ho : ord a) : m_mask_of [En.en a] = some (.ok (.int ((maskN a : Nat) : Int))) := by
  obtain ⟨⟨l, t⟩, r, b⟩ := a
  have ha' : 0 ≤ l ∧ 0 ≤ t ∧ r < 26 ∧ b < 99 ∧ l ≤ 26 ∧ t ≤ 99 ∧ -1 ≤ r ∧ -1 ≤ b := ha
  have ho' : l ≤ r ∧ t ≤ b := ho
  have ew : wA ((l, t), r, b) = (r - l + 1).toNat := by unfold wA; dsimp only; omega
  have eh : 26 * hA ((l, t), r, b) = (26 * (b - t + 1)).toNat := by unfold hA; dsimp only; omega
  have ef : fA ((l, t), r, b) = (26 * t + l).toNat := rfl
  have hw : wA ((l, t), r, b) ≤ 26 := by omega
  have pw := pw_lt hw
  have pp : 0 < 2 ^ wA ((l, t), r, b) := Nat.pow_pos (by decide)
  have p26 : (2 : Nat) ^ 26 = 67108864 := by decide
  have o1 := onesN_eq (hA ((l, t), r, b))
  have o2 := onesN_mul (wA ((l, t), r, b)) (hA ((l, t), r, b))
  have e1 := shl_one (j := r - l + 1) (by omega) (by omega)
  have e2 := shl_one (j := 26 * (b - t + 1)) (by omega) (by omega)
  rw [← ew] at e1
  rw [← eh] at e2
  have e3 : dShl (.int 1) (.int 26) = some (.int 67108864) := by
    rw [shl_one (by decide) (by decide)]
    rfl
  have hlt : rowsN (wA ((l, t), r, b)) (hA ((l, t), r, b)) < 2 ^ 100000 := by
    refine Nat.lt_pow_two_of_testBit _ fun i hi => ?_
    rw [rowsN_bit hw, decide_eq_false_iff_not]
    have : hA ((l, t), r, b) ≤ 99 := by unfold hA; dsimp only; omega
    omega
  have e7 := shl_eq (i := ((rowsN (wA ((l, t), r, b)) (hA ((l, t), r, b)) : Nat) : Int)) (j := 26 * t + l) (by omega) (by omega) (by rw [Int.natAbs_natCast]; exact hlt)
  have e4 : dDiv (.int (((2 ^ (26 * hA ((l, t), r, b)) : Nat) : Int) - 1)) (.int 67108863) = some (.int ((onesN (hA ((l, t), r, b)) : Nat) : Int)) := by
    rw [← o1]
    generalize onesN (hA ((l, t), r, b)) = o
    have z : (((o * 67108863 + 1 : Nat) : Int) - 1) = (o : Int) * 67108863 := by omega
    rw [z]
    have h1 : (o : Int) * 67108863 / 67108863 = o := Int.mul_ediv_cancel (o : Int) (b := 67108863) (by decide)
    rw [div_eq ⟨by decide, by decide⟩, h1]
  have e5 : dMul (.int ((onesN (hA ((l, t), r, b)) : Nat) : Int)) (.int (((2 ^ wA ((l, t), r, b) : Nat) : Int) - 1)) = some (.int ((rowsN (wA ((l, t), r, b)) (hA ((l, t), r, b)) : Nat) : Int)) := by
    rw [← o2]
    generalize onesN (hA ((l, t), r, b)) = o
    generalize 2 ^ wA ((l, t), r, b) = p at *
    have z : ((p : Int) - 1) = ((p - 1 : Nat) : Int) := by omega
    rw [z]
    have : mulOk (o : Int) ((p - 1 : Nat) : Int) = true := mulOkR _ _ (by omega) (by omega)
    generalize p - 1 = q at *
    rw [mul_eq this, Int.natCast_mul]
  have e8 : dMul (.int 26) (.int (b - t + 1)) = some (.int (26 * (b - t + 1))) := by
    have : mulOk 26 (b - t + 1) = true := mulOkR _ _ (by omega) (by omega)
    exact mul_eq this
  have := mask_fin m_index_of l t r b _ _ _ _ _ e1 e2 e3 e4 e5 (index_spec l t ha'.2.1 (by omega)) _ e7 e8
  refine (show m_mask_of [En.en (((l, t), r, b) : Ar)] = _ from this).trans ?_
  unfold maskN
  rw [ef, Int.natCast_mul, Int.natCast_pow]
  rfl
end Law
namespace Law
open PySem L2 DL
def stepN (u : Int) (i : Nat) (N : Nat) (r : Rl) : Nat := if u ∈ us r i then N - (N &&& maskN r.a) else N ||| maskN r.a
def okR (R : List Rl) : Prop := ∀ r ∈ R, okA r.a ∧ ord r.a
theorem step_run (f g : MA) (s0 : Option DV) (u N m N1 N2 : Int) (t ad ud x y z : D) (b : Bool) (e1 : f [ad] = some (.ok (.int m))) (e2 : g [.tup [ad, x, y, z], t] = some (.ok ud)) (e3 : inD (.int u) ud = some b) (e4 : Builtin.bitAnd N (Builtin.bitNot m) = N1) (e5 : Builtin.bitOr N m = N2) (s5 : Option DV) :
    (sSeq (sAsg (mCallA 1 f (aCons (mIx (mVar 4) (mC (.int 0))) aNil)) (gN 5)) (sIf (mBin dIn (mVar 1) (mCallA 2 g (aCons (mVar 4) (aCons (mVar 2) aNil)))) (sAsg (mBin dBand (mVar 3) (mUn dInv (mVar 5))) (gN 3)) (sAsg (mBin dBor (mVar 3) (mVar 5)) (gN 3)))) ⟨[s0, some (.p (.int u)), some (.p t), some (.p (.int N)), some (.p (.tup [ad, x, y, z])), s5], []⟩ = some (.nx, ⟨[s0, some (.p (.int u)), some (.p t), some (.p (.int (if b = true then N1 else N2))), some (.p (.tup [ad, x, y, z])), some (.p (.int m))], []⟩) := by
  have g1 : dInv (.int m) = some (.int (Builtin.bitNot m)) := rfl
  have g2 : dBand (.int N) (.int (Builtin.bitNot m)) = some (.int N1) := by rw [← e4]; rfl
  have g3 : dBor (.int N) (.int m) = some (.int N2) := by rw [← e5]; rfl
  cases b <;> simp [e_bnd, e_seq, e_lift, e1, e2, e3, g1, g2, g3, atI0]
theorem in_us (u : Int) (l : List Int) : inD (.int u) (En.en l : D) = some (decide (u ∈ l)) := inD_en u l (by decide)
theorem ref_loop {s0 : Option DV} (u : Int) (i : Nat) (hi : i ≤ 2) (l : List Rl) : ∀ (N : Nat) (s4 s5 : Option DV), okR l → ∃ s4' s5',
    loopS (gN 4) (sSeq (sAsg (mCallA 1 m_mask_of (aCons (mIx (mVar 4) (mC (.int 0))) aNil)) (gN 5)) (sIf (mBin dIn (mVar 1) (mCallA 2 m_users_with (aCons (mVar 4) (aCons (mVar 2) aNil)))) (sAsg (mBin dBand (mVar 3) (mUn dInv (mVar 5))) (gN 3)) (sAsg (mBin dBor (mVar 3) (mVar 5)) (gN 3)))) ((l.map En.en).map .p) ⟨[s0, some (.p (.int u)), some (.p (.str (rS i))), some (.p (.int (N : Int))), s4, s5], []⟩ = some (.nx, ⟨[s0, some (.p (.int u)), some (.p (.str (rS i))), some (.p (.int ((l.foldl (stepN u i) N : Nat) : Int))), s4', s5'], []⟩) := by
  induction l with
  | nil => intro N s4 s5 _; exact ⟨s4, s5, rfl⟩
  | cons r l ih =>
    intro N s4 s5 h
    have hr := h r List.mem_cons_self
    obtain ⟨s4', s5', ih⟩ := ih (stepN u i N r) (some (.p (En.en r))) (some (.p (.int ((maskN r.a : Nat) : Int)))) fun y hy => h y (List.mem_cons_of_mem _ hy)
    refine ⟨s4', s5', ?_⟩
    have e := step_run m_mask_of m_users_with s0 u N (maskN r.a : Nat) _ _ (.str (rS i)) (En.en r.a) (En.en (us r i)) (En.en r.r) (En.en r.w) (En.en r.o) _ (mask_spec hr.1 hr.2) (users_spec r i hi) (in_us u (us r i)) (bandn_nat N (maskN r.a)) (bor_nat N (maskN r.a)) s5
    have e2 : (if decide (u ∈ us r i) = true then ((N - (N &&& maskN r.a) : Nat) : Int) else ((N ||| maskN r.a : Nat) : Int)) = ((stepN u i N r : Nat) : Int) := by
      unfold stepN
      by_cases q : u ∈ us r i
      · rw [if_pos q, if_pos (decide_eq_true q)]
      · rw [if_neg q, if_neg (by rw [decide_eq_false q]; decide)]
    rw [e2] at e
    have e6 := loop_step (gN 4) _ (.p (En.en r)) ((l.map En.en).map .p) ⟨[s0, some (.p (.int u)), some (.p (.str (rS i))), some (.p (.int (N : Int))), s4, s5], []⟩ _ _ rfl e
    exact e6.trans ih
def refN (R : List Rl) (u : Int) (i : Nat) : Nat := R.foldl (stepN u i) 0
theorem refset_spec {R : List Rl} (hR : okR R) (u : Int) (i : Nat) (hi : i ≤ 2) : m_refused_set [En.en R, .int u, .str (rS i)] = some (.ok (.int (refN R u i : Nat))) := by
  obtain ⟨s4, s5, e⟩ := ref_loop (s0 := some (.p (En.en R))) u i hi R 0 none none hR
  unfold m_refused_set b_refused_set
  rw [e_runA]
  have e0 : mC (.int 0) ⟨slotsOf 6 (([En.en R, .int u, .str (rS i)] : List D).map .p), []⟩ = some (.ok (.p (.int 0)) []) := rfl
  rw [seq_asg _ (gN 3) _ _ ⟨[some (.p (En.en R)), some (.p (.int u)), some (.p (.str (rS i))), some (.p (.int 0)), none, none], []⟩ _ _ e0 rfl]
  have it1 : mItD itL (mVar 0) ⟨[some (.p (En.en R)), some (.p (.int u)), some (.p (.str (rS i))), some (.p (.int 0)), none, none], []⟩ = some (.ok ((R.map En.en).map .p) []) := rfl
  have e2 := seq_for _ (gN 4) _ (sRet (mVar 3)) ⟨[some (.p (En.en R)), some (.p (.int u)), some (.p (.str (rS i))), some (.p (.int 0)), none, none], []⟩ _ _ _ it1 e rfl
  rw [e2]
  rfl
/-! what the bits say -/
theorem fold_bit (u : Int) (i k : Nat) : ∀ (l : List Rl) (N : Nat) (b : Rl), okR l → N.testBit k = decide (u ∉ us b i) → (l.foldl (stepN u i) N).testBit k = decide (u ∉ us (foldR (cellK k) l b) i)
  | [], N, b, _, h => h
  | r :: l, N, b, hR, h => by
    have hr := hR r List.mem_cons_self
    refine fold_bit u i k l (stepN u i N r) _ (fun y hy => hR y (List.mem_cons_of_mem _ hy)) ?_
    have hm := mask_bit hr.1 hr.2 k
    unfold stepN
    by_cases q : u ∈ us r i
    · rw [if_pos q, bit_sub, hm, h]
      cases hh : has r.a (cellK k) <;> simp [q]
    · rw [if_neg q, Nat.testBit_or, hm, h]
      cases hh : has r.a (cellK k) <;> simp [q]
theorem ref_bit {R : List Rl} (hR : okR R) (u : Int) (i k : Nat) (hc : Cov R (cellK k)) : (refN R u i).testBit k = decide (u ∉ us (ru R (cellK k)) i) := by
  cases R with
  | nil => cases hc
  | cons r l =>
    have hr := hR r List.mem_cons_self
    have h0 : has r.a (cellK k) = true := hc
    show ((l.foldl (stepN u i) (stepN u i 0 r))).testBit k = decide (u ∉ us (foldR (cellK k) l (if has r.a (cellK k) = true then r else r)) i)
    rw [if_pos h0]
    refine fold_bit u i k l _ r (fun y hy => hR y (List.mem_cons_of_mem _ hy)) ?_
    have hm := mask_bit hr.1 hr.2 k
    rw [h0] at hm
    unfold stepN
    by_cases q : u ∈ us r i
    · rw [if_pos q, bit_sub, hm]; simp [q]
    · rw [if_neg q, Nat.testBit_or, hm]; simp [q]
def allU (R : List Rl) (a : Ar) (i : Nat) (u : Int) : Bool := (cells a).all fun x => decide (u ∈ us (ru R x) i)
theorem cellK_of {a : Ar} (ha : okA a) {x : Ad} (h : has a x = true) : cellK (26 * x.2.toNat + x.1.toNat) = x := by
  rw [has_iff] at h
  unfold okA at ha
  unfold cellK
  refine Prod.ext ?_ ?_
  · show (((26 * x.2.toNat + x.1.toNat) % 26 : Nat) : Int) = x.1; omega
  · show (((26 * x.2.toNat + x.1.toNat) / 26 : Nat) : Int) = x.2; omega
theorem ref_zero {R : List Rl} (hR : okR R) {a : Ar} (ha : okA a) (ho : ord a) (hc : ∀ x, has a x = true → Cov R x) (u : Int) (i : Nat) : decide (((refN R u i &&& maskN a : Nat) : Int) = 0) = allU R a i u := by
  rw [Bool.eq_iff_iff, decide_eq_true_eq]
  unfold allU
  rw [List.all_eq_true]
  constructor
  · intro h x hx
    have hx := (cells_mem a x).mp hx
    have hk := cellK_of ha hx
    generalize 26 * x.2.toNat + x.1.toNat = k at hk
    have h1 : refN R u i &&& maskN a = 0 := by omega
    have h2 : (refN R u i &&& maskN a).testBit k = false := by rw [h1]; exact Nat.zero_testBit k
    rw [Nat.testBit_and, mask_bit ha ho, hk, hx, ref_bit hR u i k (by rw [hk]; exact hc x hx), hk] at h2
    simpa using h2
  · intro h
    have h1 : refN R u i &&& maskN a = 0 := by
      refine Nat.eq_of_testBit_eq fun k => ?_
      rw [Nat.testBit_and, Nat.zero_testBit, mask_bit ha ho]
      cases hh : has a (cellK k) with
      | false => simp
      | true =>
        rw [ref_bit hR u i k (hc _ hh)]
        have := h (cellK k) ((cells_mem _ _).mpr hh)
        simpa using this
    rw [h1]; rfl
theorem mall_fin (f g : MA) (R t a : D) (u N m : Int) (e1 : f [R, .int u, t] = some (.ok (.int N))) (e2 : g [a] = some (.ok (.int m))) (Z : Int) (e3 : Builtin.bitAnd N m = Z) : runA 4 (sRet (mBin dEq (mBin dBand (mCallA 3 f (aCons (mVar 0) (aCons (mVar 1) (aCons (mVar 2) aNil)))) (mCallA 1 g (aCons (mVar 3) aNil))) (mC (.int 0)))) [R, .int u, t, a] = some (.ok (.bl (decide (Z = 0)))) := by
  have g2 : dBand (.int N) (.int m) = some (.int Z) := by rw [← e3]; rfl
  simp [e_bnd, e_seq, e_lift, e_runA, e1, e2, g2]
theorem may_all_spec {R : List Rl} (hR : okR R) {a : Ar} (ha : okA a) (ho : ord a) (hc : ∀ x, has a x = true → Cov R x) (u : Int) (i : Nat) (hi : i ≤ 2) : m_may_all [En.en R, .int u, .str (rS i), En.en a] = some (.ok (.bl (allU R a i u))) := by
  rw [← ref_zero hR ha ho hc]
  exact mall_fin m_refused_set m_mask_of (En.en R) (.str (rS i)) (En.en a) u _ _ (refset_spec hR u i hi) (mask_spec ha ho) _ (band_nat _ _)
/-! the law's own -/
theorem filter_comp {α β : Type} [DecidableEq α] [En α] [DecidableEq β] [En β] {l : List (Option DV)} {g : GM} {t e : EM} {M : List O} (f : α → β) (q : α → Bool) (ds : List α) (h : ∀ a ∈ ds, ∃ s1 : S, g (.p (En.en a)) ⟨l, M⟩ = some s1 ∧ s1.m = M ∧ t s1 = some (.ok (.p (.bl (q a))) M) ∧ e s1 = some (.ok (.p (En.en (f a))) M)) (hl : ds.length ≤ 1000000) : compL l g t e ((ds.map En.en).map .p) [] M = some (((ds.filter q).map f).map En.en, M) := by
  have main : ∀ (ds : List α) (acc : List D), (∀ a ∈ ds, ∃ s1 : S, g (.p (En.en a)) ⟨l, M⟩ = some s1 ∧ s1.m = M ∧ t s1 = some (.ok (.p (.bl (q a))) M) ∧ e s1 = some (.ok (.p (En.en (f a))) M)) → acc.length + ds.length ≤ 1000000 → compL l g t e ((ds.map En.en).map .p) acc M = some (acc ++ ((ds.filter q).map f).map En.en, M) := by
    intro ds
    induction ds with
    | nil => intro acc _ _; simp [compL]
    | cons a ds ih =>
      intro acc h hn
      simp only [List.length_cons] at hn
      obtain ⟨s1, h1, h2, h3, h4⟩ := h a List.mem_cons_self
      have ih := fun acc hn => ih acc (fun b hb => h b (List.mem_cons_of_mem _ hb)) hn
      show compL _ _ _ _ (.p (En.en a) :: (ds.map En.en).map .p) acc M = _
      unfold compL
      rw [h1]
      dsimp only
      rw [h3]
      cases hq : q a with
      | true =>
        dsimp only
        have q2 : e ⟨s1.l, M⟩ = some (.ok (.p (En.en (f a))) M) := by rw [← h2] at h4 ⊢; exact h4
        rw [q2]
        dsimp only
        rw [if_pos (by omega), ih _ (by simp; omega)]
        simp [hq]
      | false =>
        dsimp only
        rw [ih _ (by omega)]
        simp [hq]
  have := main ds [] h (by simpa using hl)
  simpa using this
theorem us_at1 (r : Rl) (i : Nat) (h : i ≤ 2) : atI [En.en r.a, En.en r.r, En.en r.w, (En.en r.o : D)] (1 + (i : Int)) = some (En.en (us r i)) := by
  rw [Int.add_comm]; exact us_at r i h
theorem nin_us (u : Int) (l : List Int) : dNin (.int u) (En.en l : D) = some (.bl (decide (u ∉ l))) := by
  have := in_us u l
  show (inD (.int u) (En.en l)).map (fun b => D.bl !b) = _
  rw [this, Option.map_some, decide_not]
theorem onall_test (f : MA) (Rd xd ad x y z ud : D) (u j : Int) (b : Bool) (e1 : f [Rd, xd] = some (.ok (.tup [x, y, z, ad]))) (e2 : atI [x, y, z, ad] j = some ud) (e3 : dNin (.int u) ud = some (.bl b)) (s3 : Option DV) : mBin dNin (mVar 1) (mIx (mCallA 2 f (aCons (mVar 0) (aCons (mVar 4) aNil))) (mVar 2)) ⟨[some (.p Rd), some (.p (.int u)), some (.p (.int j)), s3, some (.p xd)], []⟩ = some (.ok (.p (.bl b)) []) := by
  generalize dNin = nn at *
  simp [e_bnd, e1, e2, e3]
theorem onall_spec {R : List Rl} {a : Ar} (hne : R ≠ []) (ha : okA a) (u : Int) (i : Nat) (hi : i ≤ 2) : m_l_on_all [En.en R, .int u, .int (1 + (i : Int)), En.en a] = some (.ok (.bl (allU R a i u))) := by
  have hn := cells_len a ha
  have e := filter_comp (l := [some (.p (En.en R)), some (.p (.int u)), some (.p (.int (1 + (i : Int)))), some (.p (En.en a)), none]) (g := gN 4) (t := mBin dNin (mVar 1) (mIx (mCallA 2 m_l_rule (aCons (mVar 0) (aCons (mVar 4) aNil))) (mVar 2))) (e := mVar 4) (M := []) id (fun x => decide (u ∉ us (ru R x) i)) (cells a) (fun x hx => ⟨_, rfl, rfl, onall_test m_l_rule (En.en R) (En.en x) _ _ _ _ _ u _ _ (rule_spec hne) (us_at1 (ru R x) i hi) (nin_us _ _) _, rfl⟩) (by omega)
  rw [List.map_id] at e
  have it1 : mItD itL (mCallA 1 m_l_cells (aCons (mVar 3) aNil)) ⟨[some (.p (En.en R)), some (.p (.int u)), some (.p (.int (1 + (i : Int)))), some (.p (En.en a)), none], []⟩ = some (.ok (((cells a).map En.en).map .p) []) := by
    have e1 := cells_spec a ha
    rw [en_ls] at e1
    generalize (cells a).map (En.en : Ad → D) = c at *
    generalize m_l_cells = f at *
    simp [e_bnd, e1]
  have e2 := lcs _ [4] (gN 4) _ (mVar 4) ⟨[some (.p (En.en R)), some (.p (.int u)), some (.p (.int (1 + (i : Int)))), some (.p (En.en a)), none], []⟩ _ _ it1 e
  refine runA_ret 5 _ [En.en R, .int u, .int (1 + (i : Int)), En.en a] _ ?_
  have hv : allU R a i u = decide (((((cells a).filter fun x => decide (u ∉ us (ru R x) i)).length : Nat) : Int) = 0) := by
    rw [Bool.eq_iff_iff, decide_eq_true_eq]
    unfold allU
    rw [List.all_eq_true]
    constructor
    · intro h
      have : ((cells a).filter fun x => decide (u ∉ us (ru R x) i)) = [] := List.filter_eq_nil_iff.mpr fun x hx => by have := h x hx; simpa using this
      rw [this]; rfl
    · intro h x hx
      have h0 : ((cells a).filter fun x => decide (u ∉ us (ru R x) i)).length = 0 := by omega
      have := List.filter_eq_nil_iff.mp (List.length_eq_zero_iff.mp h0) x hx
      simpa using this
  rw [hv]
  generalize (cells a).filter (fun x => decide (u ∉ us (ru R x) i)) = F at *
  have h3 : dLen [] [.p (.lst (F.map En.en))] = some (.int ((F.length : Nat) : Int)) := by
    rw [e_len, e_lenp, e_lenl, Option.map_some, List.length_map]
  generalize ((F.length : Nat) : Int) = n at *
  generalize F.map (En.en : Ad → D) = fd at *
  show mBin dEq (mCB dLen (aCons _ aNil)) (mC (.int 0)) ⟨[some (.p (En.en R)), some (.p (.int u)), some (.p (.int (1 + (i : Int)))), some (.p (En.en a)), none], []⟩ = _
  rw [show ∀ (m n : EM) (s : S), mBin dEq m n s = bnd m (pur fun d => bnd n (pur fun e => ret (dEq d e))) s from fun _ _ _ => rfl, e_bnd, e_cb, e_bnd, e_aCons, e_bnd, e2]
  simp [e_bnd, h3, -e_len]
end Law
namespace Law
open PySem L2 DL
theorem take_eq : m_l_take = takeM := rfl
def intL (cells : List Int) : O := .lst (cells.map fun z => .p (.int z))
theorem take_raw {k c : Nat} {i : Int} {cells : List Int} {M : List O} (hk : M[k]? = some (.lst [.p (.int i), .o c])) (hc : M[c]? = some (intL cells)) (kc : k ≠ c) (hi : 0 ≤ i) (ne : cells ≠ []) (nn : ∀ z ∈ cells, 0 ≤ z) (most : Int) (hm : most < 18446744073709551616) : ∃ r M', takeM [.o k, .p (.int most)] M = some (.ok (.p (.int r)) M') ∧ (M' = M ∨ (∃ cells', M' = M.set c (intL cells') ∧ cells' ≠ [] ∧ ∀ z ∈ cells', 0 ≤ z) ∨ M' = M.set k (.lst [.p (.int (i + 1)), .o c])) ∧ (most < 1 → r = 0) ∧ (1 ≤ most → 0 ≤ r ∧ r < most) := by
  by_cases h1 : most < 1
  · refine ⟨0, M, ?_, .inl rfl, fun _ => rfl, fun h2 => by omega⟩
    simp [e_bnd, e_seq, e_lift, e_runA, e_runB, takeM, takeB, h1, dropM_len]
  · have hl : 0 < cells.length := List.length_pos_iff.mpr ne
    have hl' : (0 : Int) < (cells.length : Int) := by omega
    have a0 : 0 ≤ i % (cells.length : Int) := Int.emod_nonneg _ (by omega)
    have a1 : i % (cells.length : Int) < (cells.length : Int) := Int.emod_lt_of_pos _ hl'
    have aN : (i % (cells.length : Int)).toNat < cells.length := by omega
    have hg := atI_nat' (xs := cells.map fun z => DV.p (.int z)) a0 (get_map aN)
    have cn : 0 ≤ cells[(i % (cells.length : Int)).toNat] := nn _ (List.getElem_mem aN)
    generalize hz : cells[(i % (cells.length : Int)).toNat] = z at hg cn
    have m0 : 0 < most := by omega
    unfold intL at hc
    by_cases h2 : 1000000000000000000 ≤ z
    · refine ⟨z % most, M.set c (intL (cells.set (i % (cells.length : Int)).toNat (z / most))), ?_, .inr (.inl ⟨_, rfl, by simpa using ne, ?_⟩), fun h3 => absurd h3 h1, fun _ => ⟨Int.emod_nonneg _ (by omega), Int.emod_lt_of_pos _ m0⟩⟩
      · have hs := setL_ok (M := M) (n := c) (d := .p (.int (z / most))) hc a0 (by rw [List.length_map]; exact a1)
        unfold intL
        simp [e_bnd, e_seq, e_lift, e_runA, e_runB, takeM, takeB, h1, hk, hc, atI0, atI1, hl, hl', hg, h2, e_set, e_setK, m0, hm, hs, dropM_len]
      · intro y hy
        rcases List.mem_or_eq_of_mem_set hy with q | q
        · exact nn y q
        · rw [q]; exact Int.ediv_nonneg cn (by omega)
    · have hs := setL_ok (M := M) (n := k) (d := .p (.int (i + 1))) (j := 0) hk (by decide) (by simp)
      have hk' : (M.set k (.lst [DV.p (.int (i + 1)), .o c]))[k]? = some (.lst [.p (.int (i + 1)), .o c]) := by
        rw [List.getElem?_set_self (List.getElem?_eq_some_iff.mp hk).1]
      refine ⟨((((z * 48271 + (i + 1) * 69621) % 2147483647) * 16807 + (i + 1) * 7919) % 1000000007) / 7 % most, M.set k (.lst [.p (.int (i + 1)), .o c]), ?_, .inr (.inr rfl), fun h3 => absurd h3 h1, fun _ => ⟨Int.emod_nonneg _ (by omega), Int.emod_lt_of_pos _ m0⟩⟩
      simp [e_bnd, e_seq, e_lift, e_runA, e_runB, takeM, takeB, h1, hk, hc, atI0, atI1, hl, hl', hg, h2, e_set, e_setK, m0, hm, hs, hk', dropM_len, mulOkR]
/-- the drawn numbers, behind a table -/
structure DB (T : O) (n : Nat) (sv : DV) (B : List O) : Prop where
  len : B.length = n
  tb : B[0]? = some T
  cl : B.all (closed n) = true
  ex : ∃ (k c : Nat) (i : Int) (cells : List Int), sv = .o k ∧ k ≠ 0 ∧ c ≠ 0 ∧ B[k]? = some (.lst [.p (.int i), .o c]) ∧ B[c]? = some (intL cells) ∧ k ≠ c ∧ 0 ≤ i ∧ cells ≠ [] ∧ ∀ z ∈ cells, 0 ≤ z
theorem wp_t {T : O} {n : Nat} {sv : DV} {B Rr : List O} {most : Int} {P : DV → List O → Prop} (h : DB T n sv B) (hm : most < 18446744073709551616) (k : ∀ r B', DB T n sv B' → (most < 1 → r = 0) → (1 ≤ most → 0 ≤ r ∧ r < most) → P (.p (.int r)) (B' ++ Rr)) : wpB (m_l_take [sv, .p (.int most)] (B ++ Rr)) P := by
  obtain ⟨kk, c, i, cells, rfl, k0, c0, hk, hc, kc, hi, ne, nn⟩ := h.ex
  have lk := (List.getElem?_eq_some_iff.mp hk).1
  have lc := (List.getElem?_eq_some_iff.mp hc).1
  obtain ⟨r, M', e, d, b0, b⟩ := take_raw (M := B ++ Rr) (by rw [List.getElem?_append_left lk]; exact hk) (by rw [List.getElem?_append_left lc]; exact hc) kc hi ne nn most hm
  rw [take_eq]
  refine ⟨_, _, e, ?_⟩
  rcases d with rfl | ⟨cells', rfl, ne', nn'⟩ | rfl
  · exact k r B h b0 b
  · rw [List.set_append_left _ _ lc]
    exact k r _ ⟨by rw [List.length_set]; exact h.len, by rw [List.getElem?_set_ne c0]; exact h.tb, all_set h.cl (closed_ints n _) c, kk, c, i, cells', rfl, k0, c0, by rw [List.getElem?_set_ne kc.symm]; exact hk, by rw [List.getElem?_set_self lc], kc, hi, ne', nn'⟩ b0 b
  · rw [List.set_append_left _ _ lk]
    exact k r _ ⟨by rw [List.length_set]; exact h.len, by rw [List.getElem?_set_ne k0]; exact h.tb, all_set h.cl (show closed n (.lst [.p (.int (i + 1)), .o c]) = true from (List.all_eq_true.mp h.cl _ (List.mem_of_getElem? hk) : closed n (.lst [.p (.int i), .o c]) = true)) kk, kk, c, i + 1, cells, rfl, k0, c0, by rw [List.getElem?_set_self lk], by rw [List.getElem?_set_ne kc]; exact hc, kc, by omega, ne, nn⟩ b0 b
theorem state_eq : m_l_state = stateM := rfl
theorem state_T (P : Addr) (q : Str) (ns : List Int) (hl : ns.length ≤ 63) : ∃ n sv B, m_l_state [.p (.scr (ns.map .int))] [.tbl P q] = some (.ok sv B) ∧ DB (.tbl P q) n sv B := by
  rw [state_eq]
  have hc : slE (.scr (ns.map D.int)) none (some 63) = some (.lst (ns.map D.int)) := by
    show some (D.lst (cutD (ns.map D.int) none (some 63))) = _
    rw [cut63 _ (by simpa using hl)]
  have hm : compL [some (.p (.scr (ns.map .int))), none, none] (gN 2) tYesM (mCB (g1 dAbs) (aCons (mVar 2) aNil)) ((ns.map D.int).map DV.p) [] [.tbl P q] = some ((ns.map iabs).map D.int, [.tbl P q]) := by
    rw [compL_map (f := fun d => match d with | .p (.int i) => .int (iabs i) | _ => .non) ((ns.map D.int).map DV.p) (fun d hd => by
      rw [List.map_map] at hd
      obtain ⟨i, _, rfl⟩ := List.mem_map.mp hd
      exact ⟨_, rfl, rfl, by simp [e_bnd, iabs]⟩) (by simp; omega)]
    simp
  have e0 : (ns.map iabs).map D.int = [] → ns = [] := by simp
  have dr : ∀ (j : Nat) (M : List O), 1 ≤ j → dropM 1 (.o j) M = M := fun j M hj => by
    unfold dropM
    have : ltO 1 (.o j) = false := by simp [ltO]; omega
    rw [this]; rfl
  by_cases he : ns = []
  · refine ⟨4, .o 3, [.tbl P q, .lst [], .lst [.p (.int 0)], .lst [.p (.int 0), .o 2]], ?_, rfl, rfl, rfl, 3, 2, 0, [0], rfl, by decide, by decide, rfl, rfl, by decide, by decide, by simp, by simp⟩
    subst he
    simp [e_bnd, e_seq, e_lift, e_runA, e_runB, stateM, stateB, hc, hm, dr]
    rfl
  · refine ⟨3, .o 2, [.tbl P q, .lst ((ns.map iabs).map fun z => .p (.int z)), .lst [.p (.int 0), .o 1]], ?_, rfl, rfl, ?_, 2, 1, 0, ns.map iabs, rfl, by decide, by decide, rfl, rfl, by decide, by decide, by simpa using he, ?_⟩
    · generalize hA : (ns.map iabs) = A at hm
      have hA' : A ≠ [] := by rw [← hA]; simpa using he
      have hA2 : ¬ A.length = 0 := by
        intro h; exact hA' (List.length_eq_zero_iff.mp h)
      generalize hB : ns.map D.int = B at hm hc
      simp [e_bnd, e_seq, e_lift, e_runA, e_runB, stateM, stateB, hc, hm, dr, hA', hA2]
    · have := closed_ints 3 (ns.map iabs)
      simp only [List.all_cons, List.all_nil, this]
      rfl
    · intro z hz
      obtain ⟨y, _, rfl⟩ := List.mem_map.mp hz
      unfold iabs
      split <;> omega
end Law
namespace Law
open PySem L2 DL
theorem dropM_same {n : Nat} {d : DV} {B B' Rr : List O} (h : B.length = B'.length) : dropM (B.length + Rr.length) d (B' ++ Rr) = B' ++ Rr := dropM_len (by rw [List.length_append, h])
variable {T : O} {n : Nat} {sv : DV}
theorem wp_near {B Rr : List O} {P : DV → List O → Prop} (h : DB T n sv B) (k : ∀ (x : Ad) B', DB T n sv B' → 0 ≤ x.1 → x.1 < 3 → 0 ≤ x.2 → x.2 < 4 → P (.p (En.en x)) (B' ++ Rr)) : wpB (m_l_near [sv] (B ++ Rr)) P := by
  simp [m_l_near, b_l_near]
  refine wp_t h (by decide) fun r B1 d1 _ b1 => ?_
  refine wp_t d1 (by decide) fun r2 B2 d2 _ b2 => ?_
  have b1 := b1 (by decide)
  have b2 := b2 (by decide)
  simp
  rw [dropM_same (n := n) (by rw [h.len, d2.len])]
  exact k (r, r2) B2 d2 b1.1 b1.2 b2.1 b2.2
theorem atI_t (l : List Int) (j : Int) (h0 : 0 ≤ j) (h : j < l.length) : ∃ z ∈ l, atI (l.map D.int) j = some (.int z) := by
  have hj : j.toNat < l.length := by omega
  exact ⟨l[j.toNat], List.getElem_mem hj, atI_nat' h0 (by rw [List.getElem?_map, List.getElem?_eq_getElem hj]; rfl)⟩
theorem wp_address {B Rr : List O} {P : DV → List O → Prop} (h : DB T n sv B) (k : ∀ (x : Ad) B', DB T n sv B' → 0 ≤ x.1 → x.1 < 26 → 0 ≤ x.2 → x.2 < 99 → P (.p (En.en x)) (B' ++ Rr)) : wpB (m_l_address [sv] (B ++ Rr)) P := by
  simp [m_l_address, b_l_address]
  refine wp_t h (by decide) fun r B1 d1 _ b1 => ?_
  have b1 := b1 (by decide)
  obtain ⟨z1, h1, e1⟩ := atI_t [0, 0, 1, 1, 2, 2, 3, 4] r b1.1 b1.2
  have c1 : 0 ≤ z1 ∧ z1 < 5 := by
    simp at h1; omega
  obtain ⟨y1, h2, e2⟩ := atI_t [0, 1, 2, 3, 25] z1 c1.1 c1.2
  have c2 : 0 ≤ y1 ∧ y1 < 26 := by simp at h2; omega
  simp only [List.map_cons, List.map_nil] at e1 e2
  simp [e1, e2]
  refine wp_t d1 (by decide) fun r2 B2 d2 _ b2 => ?_
  have b2 := b2 (by decide)
  obtain ⟨z2, h3, e3⟩ := atI_t [0, 0, 1, 1, 2, 2, 3, 4] r2 b2.1 b2.2
  have c3 : 0 ≤ z2 ∧ z2 < 5 := by
    simp at h3; omega
  obtain ⟨y2, h4, e4⟩ := atI_t [0, 1, 2, 3, 98] z2 c3.1 c3.2
  have c4 : 0 ≤ y2 ∧ y2 < 99 := by simp at h4; omega
  simp only [List.map_cons, List.map_nil] at e3 e4
  simp [e3, e4]
  rw [dropM_same (n := n) (by rw [h.len, d2.len])]
  exact k (y1, y2) B2 d2 c2.1 c2.2 c4.1 c4.2
theorem wp_area {B Rr : List O} {P : DV → List O → Prop} (h : DB T n sv B) (k : ∀ (a : Ar) B', DB T n sv B' → okA a → ord a → P (.p (En.en a)) (B' ++ Rr)) : wpB (m_l_area [sv] (B ++ Rr)) P := by
  simp [m_l_area, b_l_area]
  refine wp_near h fun x B1 d1 x1 x2 x3 x4 => ?_
  refine wp_near d1 fun y B2 d2 y1 y2 y3 y4 => ?_
  obtain ⟨p, q⟩ := x
  obtain ⟨r, s⟩ := y
  dsimp only at *
  simp [en_ad, dMin2, dMax2]
  rw [dropM_same (n := n) (by rw [h.len, d2.len])]
  exact k ((if r < p then r else p, if s < q then s else q), (if p < r then r else p, if q < s then s else q)) B2 d2 (by unfold okA; dsimp only; refine ⟨?_, ?_, ?_, ?_, ?_, ?_, ?_, ?_⟩ <;> split <;> omega) (by unfold ord; dsimp only; constructor <;> split <;> split <;> omega)
/-- short lists of small numbers -/
def okL (l : List Int) : Prop := l.length ≤ 4 ∧ ∀ z ∈ l, 0 ≤ z ∧ z < 10
theorem pick_comp {B Rr : List O} (h : DB T n sv B) (lst : List (Option DV)) (i : Nat) (m : Int) (t : EM) (hm : m ≤ 4) (hv : ∀ z, gv (lst.set i (some (.p (.int z)))) i = some (.p (.int z)))
    (ht : ∀ (z : Int) (B : List O), DB T n sv B → wpB (t ⟨lst.set i (some (.p (.int z))), B ++ Rr⟩) fun v M => ∃ b B', v = .p (.bl b) ∧ M = B' ++ Rr ∧ DB T n sv B') :
    ∃ (l : List Int) (B' : List O), compL lst (gN i) t (mVar i) (DL.intsFrom 0 m.toNat) [] (B ++ Rr) = some (l.map .int, B' ++ Rr) ∧ DB T n sv B' ∧ okL l := by
  obtain ⟨ys, M', e, ⟨B', rfl, d⟩, r, hl⟩ := compL_drawT (l := lst) (g := gN i) (t := t) (e := mVar i) (Inv := fun M => ∃ B', M = B' ++ Rr ∧ DB T n sv B') (R := fun y => ∃ z : Int, y = .int z ∧ (0 ≤ z ∧ z < 10)) (DL.intsFrom 0 m.toNat) [] (B ++ Rr) ⟨B, rfl, h⟩ (by simp) (by simp; omega) fun d hd M hM => by
    obtain ⟨B1, rfl, d1⟩ := hM
    obtain ⟨j, hj, rfl⟩ := mem_intsFrom hd
    refine ⟨_, rfl, (ht _ B1 d1).imp fun v M hv2 => ?_⟩
    obtain ⟨b, B2, rfl, rfl, d2⟩ := hv2
    refine ⟨b, rfl, ⟨B2, rfl, d2⟩, fun _ => ?_⟩
    refine ⟨.p (.int (0 + (j : Int))), B2 ++ Rr, ?_, _, rfl, ⟨_, rfl, by omega⟩, B2, rfl, d2⟩
    show (match gv (lst.set i (some (.p (.int (0 + (j : Int)))))) i with | some d => some (Rs.ok d (B2 ++ Rr)) | none => none) = _
    rw [hv]
  obtain ⟨l, rfl, hp⟩ := list_of (f := D.int) r
  refine ⟨l, B', e, d, ?_, hp⟩
  simp at hl
  omega
theorem wp_users {B Rr : List O} {P : DV → List O → Prop} (h : DB T n sv B) (m : Int) (hm : 0 ≤ m ∧ m ≤ 4) (k : ∀ (l : List Int) B', DB T n sv B' → okL l → P (.p (En.en l)) (B' ++ Rr)) : wpB (m_l_users [sv, .p (.int m)] (B ++ Rr)) P := by
  obtain ⟨l, B', e, d, ok⟩ := pick_comp (Rr := Rr) h [some sv, some (.p (.int m)), none] 2 m (mBin dEq (mCallB 2 m_l_take (aCons (mVar 0) (aCons (mC (.int 2)) aNil))) (mC (.int 0))) hm.2 (fun z => rfl) fun z B1 d1 => by
    simp
    refine wp_t d1 (by decide) fun r B2 d2 _ b2 => ?_
    simp
    exact ⟨by omega, d2⟩
  have g := rng_ok (i := m) (by omega) (by omega)
  simp [m_l_users, b_l_users, g, e]
  rw [dropM_same (n := n) (by rw [h.len, d.len])]
  exact k l B' d ok
theorem wp_t0 {B : List O} {most : Int} {P : DV → List O → Prop} (h : DB T n sv B) (hm : most < 18446744073709551616) (k : ∀ r B', DB T n sv B' → (most < 1 → r = 0) → (1 ≤ most → 0 ≤ r ∧ r < most) → P (.p (.int r)) B') : wpB (m_l_take [sv, .p (.int most)] B) P := by
  have := wp_t (Rr := []) (P := P) h hm fun r B' d b0 b => by rw [List.append_nil]; exact k r B' d b0 b
  rwa [List.append_nil] at this
theorem wp_area0 {B : List O} {P : DV → List O → Prop} (h : DB T n sv B) (k : ∀ (a : Ar) B', DB T n sv B' → okA a → ord a → P (.p (En.en a)) B') : wpB (m_l_area [sv] B) P := by
  have := wp_area (Rr := []) (P := P) h fun r B' d b0 b => by rw [List.append_nil]; exact k r B' d b0 b
  rwa [List.append_nil] at this
theorem wp_address0 {B : List O} {P : DV → List O → Prop} (h : DB T n sv B) (k : ∀ (x : Ad) B', DB T n sv B' → 0 ≤ x.1 → x.1 < 26 → 0 ≤ x.2 → x.2 < 99 → P (.p (En.en x)) B') : wpB (m_l_address [sv] B) P := by
  have := wp_address (Rr := []) (P := P) h fun r B' d a b c e => by rw [List.append_nil]; exact k r B' d a b c e
  rwa [List.append_nil] at this
theorem wp_users0 {B : List O} {P : DV → List O → Prop} (h : DB T n sv B) (m : Int) (hm : 0 ≤ m ∧ m ≤ 4) (k : ∀ (l : List Int) B', DB T n sv B' → okL l → P (.p (En.en l)) B') : wpB (m_l_users [sv, .p (.int m)] B) P := by
  have := wp_users (Rr := []) (P := P) h m hm fun r B' d b => by rw [List.append_nil]; exact k r B' d b
  rwa [List.append_nil] at this
theorem pick_comp0 {B : List O} (h : DB T n sv B) (lst : List (Option DV)) (i : Nat) (m : Int) (t : EM) (hm : m ≤ 4) (hv : ∀ z, gv (lst.set i (some (.p (.int z)))) i = some (.p (.int z)))
    (ht : ∀ (z : Int) (B : List O), DB T n sv B → wpB (t ⟨lst.set i (some (.p (.int z))), B⟩) fun v M => ∃ b, v = .p (.bl b) ∧ DB T n sv M) :
    ∃ (l : List Int) (B' : List O), compL lst (gN i) t (mVar i) (DL.intsFrom 0 m.toNat) [] B = some (l.map .int, B') ∧ DB T n sv B' ∧ okL l := by
  have := pick_comp (Rr := []) h lst i m t hm hv fun z B d => by
    rw [List.append_nil]
    refine (ht z B d).imp fun v M ⟨b, e, d⟩ => ⟨b, M, e, by rw [List.append_nil], d⟩
  obtain ⟨l, B', e, d, o⟩ := this
  rw [List.append_nil, List.append_nil] at e
  exact ⟨l, B', e, d, o⟩
end Law
namespace Law
open PySem L2 DL
variable {T : O} {n : Nat} {sv : DV}
def okU (r : Rl) : Prop := okL r.r ∧ okL r.w ∧ okL r.o
def whole : Ar := ((0, 0), (25, 98))
structure okRs (R : List Rl) : Prop where
  a : okR R
  u : ∀ r ∈ R, okU r
  h : ∃ r t, R = r :: t ∧ r.a = whole
theorem okRs.snoc {R : List Rl} (h : okRs R) {r : Rl} (h1 : okA r.a ∧ ord r.a) (h2 : okU r) : okRs (R ++ [r]) := by
  refine ⟨fun x hx => ?_, fun x hx => ?_, ?_⟩
  · rcases List.mem_append.mp hx with q | q
    · exact h.a x q
    · rw [List.mem_singleton] at q; rw [q]; exact h1
  · rcases List.mem_append.mp hx with q | q
    · exact h.u x q
    · rw [List.mem_singleton] at q; rw [q]; exact h2
  · obtain ⟨r0, t, e, w⟩ := h.h
    exact ⟨r0, t ++ [r], by rw [e]; rfl, w⟩
theorem okRs.cov {R : List Rl} (h : okRs R) {x : Ad} (hx : 0 ≤ x.1 ∧ x.1 < 26 ∧ 0 ≤ x.2 ∧ x.2 < 99) : Cov R x := by
  obtain ⟨r, t, rfl, w⟩ := h.h
  show has r.a x = true
  rw [w, has_iff]
  unfold whole
  dsimp only
  omega
theorem okRs.covA {R : List Rl} (h : okRs R) {a : Ar} (ha : okA a) {x : Ad} (hx : has a x = true) : Cov R x := by
  rw [has_iff] at hx
  unfold okA at ha
  exact h.cov (by omega)
def rsO (R : List Rl) : O := .lst (R.map fun r => .p (En.en r))
noncomputable abbrev bodyR : SM := (sSeq (sAsg (mCallB 1 m_l_area (aCons (mVar 0) aNil)) (gN 6))
  (sSeq (sIf (mBin dEq (mCallB 2 m_l_take (aCons (mVar 0) (aCons (mC (.int 6)) aNil))) (mC (.int 0))) (sAsg (disp .tup (aCons (disp .tup (aCons (mC (.int 0)) (aCons (mC (.int 1)) aNil))) (aCons (disp .tup (aCons (mC (.int 25)) (aCons (mBin dAdd (mC (.int 2)) (mCallB 2 m_l_take (aCons (mVar 0) (aCons (mC (.int 97)) aNil)))) aNil))) aNil))) (gN 6)) sNil)
  (sExpr (mMth "list" gApp (mVar 4) (aCons (disp .tup (aCons (mVar 6) (aCons (mCallB 2 m_l_users (aCons (mVar 0) (aCons (mVar 1) aNil))) (aCons (mCallB 2 m_l_users (aCons (mVar 0) (aCons (mVar 1) aNil))) (aCons (mCallB 2 m_l_users (aCons (mVar 0) (aCons (mVar 1) aNil))) aNil))))) aNil)))))
theorem app_step {B Rr0 : List O} {R : List Rl} {P : Fl → S → Prop} {m : Int} {s2 s3 s5 s7 : Option DV} (hm : 0 ≤ m ∧ m ≤ 4) (hR : R.length ≤ 100) (a : Ar) (h : DB T n sv B) (k : ∀ B' r, DB T n sv B' → okU r → r.a = a → P .nx ⟨[some sv, some (.p (.int m)), s2, s3, some (.o n), s5, some (.p (En.en a)), s7], B' ++ [rsO (R ++ [r])]⟩) :
    wpS (sExpr (mMth "list" gApp (mVar 4) (aCons (disp .tup (aCons (mVar 6) (aCons (mCallB 2 m_l_users (aCons (mVar 0) (aCons (mVar 1) aNil))) (aCons (mCallB 2 m_l_users (aCons (mVar 0) (aCons (mVar 1) aNil))) (aCons (mCallB 2 m_l_users (aCons (mVar 0) (aCons (mVar 1) aNil))) aNil))))) aNil)) ⟨[some sv, some (.p (.int m)), s2, s3, some (.o n), s5, some (.p (En.en a)), s7], B ++ [rsO R]⟩) P := by
  have gt : ∀ B : List O, DB T n sv B → (B ++ [rsO R])[n]? = some (rsO R) := fun B h => by rw [← h.len]; simp
  have ty : ∀ B : List O, DB T n sv B → tyOk "list" (B ++ [rsO R]) (.o n) = true := fun B h => by
    have := gt B h
    unfold rsO at *
    simp [tyOk, this]
  have ty0 := ty B h
  simp [ty0]
  refine wp_users h m hm fun l1 B1 d1 k1 => ?_
  simp
  refine wp_users d1 m hm fun l2 B2 d2 k2 => ?_
  simp
  refine wp_users d2 m hm fun l3 B3 d3 k3 => ?_
  have g3 := gt B3 d3
  have st : (B3 ++ [rsO R]).set n (.lst ((R.map fun r => DV.p (En.en r)) ++ [.p (.tup [En.en a, En.en l1, En.en l2, En.en l3])])) = B3 ++ [rsO (R ++ [⟨a, l1, l2, l3⟩])] := by
    rw [← d3.len]
    simp [rsO, en_rl]
  have hl : (R.map fun r => DV.p (En.en r)).length < 1000000 := by simp; omega
  have kk := k B3 ⟨a, l1, l2, l3⟩ d3 ⟨k1, k2, k3⟩ rfl
  generalize B3 ++ [rsO (R ++ [⟨a, l1, l2, l3⟩])] = MM at *
  generalize hB3 : B3 ++ [rsO R] = M3 at *
  unfold rsO at g3
  generalize (R.map fun r => DV.p (En.en r)) = rd at *
  generalize (En.en l1 : D) = e1 at *
  generalize (En.en l2 : D) = e2 at *
  generalize (En.en l3 : D) = e3 at *
  generalize (En.en a : D) = e4 at *
  simp [gApp, g3, hl, st]
  exact kk
theorem rules_step {B : List O} {R : List Rl} {P : Fl → S → Prop} {m : Int} {s2 s3 s5 s6 s7 : Option DV} (hm : 0 ≤ m ∧ m ≤ 4) (hR : R.length ≤ 100) (h : DB T n sv B) (k : ∀ B' r s6', DB T n sv B' → okU r → okA r.a ∧ ord r.a → P .nx ⟨[some sv, some (.p (.int m)), s2, s3, some (.o n), s5, s6', s7], B' ++ [rsO (R ++ [r])]⟩) :
    wpS (bodyR ⟨[some sv, some (.p (.int m)), s2, s3, some (.o n), s5, s6, s7], B ++ [rsO R]⟩) P := by
  unfold bodyR
  rw [w_seq]
  have run : ∀ (a : Ar) (B1 : List O), DB T n sv B1 → okA a ∧ ord a → wpS (sExpr (mMth "list" gApp (mVar 4) (aCons (disp .tup (aCons (mVar 6) (aCons (mCallB 2 m_l_users (aCons (mVar 0) (aCons (mVar 1) aNil))) (aCons (mCallB 2 m_l_users (aCons (mVar 0) (aCons (mVar 1) aNil))) (aCons (mCallB 2 m_l_users (aCons (mVar 0) (aCons (mVar 1) aNil))) aNil))))) aNil)) ⟨[some sv, some (.p (.int m)), s2, s3, some (.o n), s5, some (.p (En.en a)), s7], B1 ++ [rsO R]⟩) P := fun a B1 d1 ha =>
    app_step (Rr0 := []) hm hR a d1 fun B' r d' u ra => k B' r _ d' u (by rw [ra]; exact ha)
  generalize (sExpr (mMth "list" gApp (mVar 4) (aCons (disp .tup (aCons (mVar 6) (aCons (mCallB 2 m_l_users (aCons (mVar 0) (aCons (mVar 1) aNil))) (aCons (mCallB 2 m_l_users (aCons (mVar 0) (aCons (mVar 1) aNil))) (aCons (mCallB 2 m_l_users (aCons (mVar 0) (aCons (mVar 1) aNil))) aNil))))) aNil))) = K at *
  simp
  refine wp_area h fun a B1 d1 a1 a2 => ?_
  refine wp_t d1 (by decide) fun r B2 d2 _ b2 => ?_
  simp
  refine ⟨fun _ => ?_, fun _ => ?_⟩
  · refine wp_t d2 (by decide) fun r3 B3 d3 _ b3 => ?_
    have b3 := b3 (by decide)
    simp
    exact run ((0, 1), (25, 2 + r3)) B3 d3 ⟨by unfold okA; dsimp only; omega, by unfold ord; dsimp only; omega⟩
  · exact run a B2 d2 ⟨a1, a2⟩
theorem rules_eq : b_l_rules = (sSeq (sAsg (disp .tup (aCons (disp .tup (aCons (mC (.int 0)) (aCons (mC (.int 0)) aNil))) (aCons (disp .tup (aCons (mC (.int 25)) (aCons (mC (.int 98)) aNil))) aNil))) (gN 3))
  (sSeq (sAsg (dispO (aCons (disp .tup (aCons (mVar 3) (aCons (mLc (mRng rng1D (aCons (mVar 1) aNil)) [7] (gN 7) (mBin dGt (mCallB 2 m_l_take (aCons (mVar 0) (aCons (mC (.int 4)) aNil))) (mC (.int 0))) (mVar 7)) (aCons (mCallB 2 m_l_users (aCons (mVar 0) (aCons (mVar 1) aNil))) (aCons (mCallB 2 m_l_users (aCons (mVar 0) (aCons (mVar 1) aNil))) aNil))))) aNil)) (gN 4))
  (sSeq (sFor (mRng rng1D (aCons (mCallB 2 m_l_take (aCons (mVar 0) (aCons (mBin dAdd (mVar 2) (mC (.int 1))) aNil))) aNil)) (gN 5) bodyR)
  (sRet (mFrz (mVar 4)))))) := rfl
theorem allP_rs (R : List Rl) : allP (R.map fun r => DV.p (En.en r)) = some (R.map En.en) := by
  have e : (R.map fun r => DV.p (En.en r)) = (R.map (En.en : Rl → D)).map .p := by rw [List.map_map]; rfl
  rw [e]; exact e_allPm _
theorem rules_first {B : List O} {P : Fl → S → Prop} {m : Int} (hm : 0 ≤ m ∧ m ≤ 4) (h : DB T n sv B) (K : SM) (k : ∀ B' r, DB T n sv B' → okU r → r.a = whole → wpS (K ⟨[some sv, some (.p (.int m)), some (.p (.int 4)), some (.p (En.en whole)), some (.o n), none, none, none], B' ++ [rsO [r]]⟩) P) :
    wpS ((sAsg (dispO (aCons (disp .tup (aCons (mVar 3) (aCons (mLc (mRng rng1D (aCons (mVar 1) aNil)) [7] (gN 7) (mBin dGt (mCallB 2 m_l_take (aCons (mVar 0) (aCons (mC (.int 4)) aNil))) (mC (.int 0))) (mVar 7)) (aCons (mCallB 2 m_l_users (aCons (mVar 0) (aCons (mVar 1) aNil))) (aCons (mCallB 2 m_l_users (aCons (mVar 0) (aCons (mVar 1) aNil))) aNil))))) aNil)) (gN 4)) ⟨[some sv, some (.p (.int m)), some (.p (.int 4)), some (.p (En.en whole)), none, none, none, none], B⟩) (andS K P) := by
  obtain ⟨l, B1, e, d1, k1⟩ := pick_comp0 h [some sv, some (.p (.int m)), some (.p (.int 4)), some (.p (En.en whole)), none, none, none, none] 7 m (mBin dGt (mCallB 2 m_l_take (aCons (mVar 0) (aCons (mC (.int 4)) aNil))) (mC (.int 0))) hm.2 (fun z => rfl) fun z B1 d1 => by
    simp
    refine wp_t0 d1 (by decide) fun r B2 d2 _ b2 => ?_
    simp
    exact ⟨by omega, d2⟩
  have g := rng_ok (i := m) (by omega) (by omega)
  generalize hw : (En.en whole : D) = wd at *
  simp [g, e]
  refine wp_users0 d1 m hm fun l2 B2 d2 k2 => ?_
  simp
  refine wp_users0 d2 m hm fun l3 B3 d3 k3 => ?_
  simp [d3.len]
  have kk := k B3 ⟨whole, l, l2, l3⟩ d3 ⟨k1, k2, k3⟩ rfl
  unfold rsO at kk
  rw [List.map_cons, List.map_nil, en_rl] at kk
  dsimp only at kk
  rw [hw] at kk
  exact kk
theorem wp_rules {B : List O} {P : DV → List O → Prop} {m : Int} (hm : 0 ≤ m ∧ m ≤ 4) (h : DB T n sv B) (k : ∀ (R : List Rl) B', DB T n sv B' → okRs R → R.length ≤ 6 → P (.p (En.en R)) B') : wpB (m_l_rules [sv, .p (.int m), .p (.int 4)] B) P := by
  unfold m_l_rules
  rw [rules_eq, w_runB, w_seq]
  have e1 : (sAsg (disp .tup (aCons (disp .tup (aCons (mC (.int 0)) (aCons (mC (.int 0)) aNil))) (aCons (disp .tup (aCons (mC (.int 25)) (aCons (mC (.int 98)) aNil))) aNil))) (gN 3)) ⟨slotsOf 8 [sv, .p (.int m), .p (.int 4)], B⟩ = some (.nx, ⟨[some sv, some (.p (.int m)), some (.p (.int 4)), some (.p (En.en whole)), none, none, none, none], B⟩) := by
    simp [e_lift, e_bnd, whole, en_ar]
  rw [e1, w_sok]
  refine ⟨rfl, ?_⟩
  rw [w_andN, w_seq]
  refine rules_first hm h _ fun B1 r d1 u1 w1 => ?_
  rw [w_seq, sFor, w_lift]
  have e2 : ∀ (Q : List DV → List O → Prop), (∀ (j : Int) B', DB T n sv B' → 0 ≤ j ∧ j < 5 → Q (DL.intsFrom 0 j.toNat) (B' ++ [rsO [r]])) → wpB (mRng rng1D (aCons (mCallB 2 m_l_take (aCons (mVar 0) (aCons (mBin dAdd (mVar 2) (mC (.int 1))) aNil))) aNil) ⟨[some sv, some (.p (.int m)), some (.p (.int 4)), some (.p (En.en whole)), some (.o n), none, none, none], B1 ++ [rsO [r]]⟩) Q := fun Q hQ => by
    simp
    refine wp_t d1 (by decide) fun j B2 d2 _ b2 => ?_
    have b2 := b2 (by decide)
    have g := rng_ok (i := j) (by omega) (by omega)
    simp [g]
    exact hQ j B2 d2 b2
  refine e2 _ fun j B2 d2 b2 => ?_
  have lp := w_loopN (g := gN 5) (b := bodyR) (R := fun _ _ => False) (Inv := fun i s => ∃ (R : List Rl) (B : List O) (s5 s6 : Option DV), R.length ≤ i ∧ okRs R ∧ DB T n sv B ∧ s = ⟨[some sv, some (.p (.int m)), some (.p (.int 4)), some (.p (En.en whole)), some (.o n), s5, s6, none], B ++ [rsO R]⟩) (DL.intsFrom 0 j.toNat) 1 ⟨[some sv, some (.p (.int m)), some (.p (.int 4)), some (.p (En.en whole)), some (.o n), none, none, none], B2 ++ [rsO [r]]⟩
    ⟨[r], B2, none, none, Nat.le_refl _, ⟨fun x hx => by
      rw [List.mem_singleton] at hx; rw [hx, w1]; exact ⟨by unfold okA whole; dsimp only; omega, by unfold ord whole; dsimp only; omega⟩, fun x hx => by rw [List.mem_singleton] at hx; rw [hx]; exact u1, r, [], rfl, w1⟩, d2, rfl⟩ (by
    rintro d hd i hi1 hi2 s ⟨R, B, s5, s6, hl, hok, hB, rfl⟩
    refine ⟨_, rfl, ?_⟩
    refine rules_step (s5 := some d) hm (by simp at hi2; omega) hB fun B' r s6' d' u ra => .inl ⟨rfl, R ++ [r], B', _, s6', by simp; omega, hok.snoc ra u, d', rfl⟩)
  refine wpS.imp lp fun f s hs => ?_
  rcases hs with ⟨rfl, R, B3, s5, s6, hl, hok, d3, rfl⟩ | ⟨_, _, hf⟩
  · have q1 : (B3 ++ [rsO R])[n]? = some (rsO R) := by rw [← d3.len]; simp
    have q2 : (B3 ++ [rsO R]).set n .gone = B3 ++ [.gone] := by rw [← d3.len]; simp
    have q3 := allP_rs R
    have kk := k R B3 d3 hok (by simp at hl; omega)
    have q4 : dropM B.length (.p (En.en R)) (B3 ++ [.gone]) = B3 := dropM_app (by rw [d3.len, h.len]) (by rw [h.len]; exact d3.cl)
    rw [en_ls] at kk q4
    rw [w_andN]
    generalize B3 ++ [.gone] = M4 at *
    generalize B3 ++ [rsO R] = M3 at *
    unfold rsO at q1
    generalize (R.map fun r => DV.p (En.en r)) = rd at *
    generalize R.map (En.en : Rl → D) = re at *
    generalize (En.en whole : D) = wd at *
    simp [q1, q3, q2, q4]
    exact kk
  · exact False.elim hf
end Law
namespace Law
open PySem L2 DL
theorem w_asgE (m : EM) (i : Nat) (K : SM) (s : S) (d : DV) (M : List O) (P : Fl → S → Prop) (h1 : m s = some (.ok d M)) (h2 : wpS (K ⟨s.l.set i (some d), M⟩) P) : wpS (sSeq (sAsg m (gN i)) K s) P := by
  rw [seq_asg m (gN i) K s ⟨s.l.set i (some d), M⟩ d M h1 rfl]
  exact h2
theorem w_asgT (m : EM) (i : Nat) (K : SM) (s : S) (P : Fl → S → Prop) (h : wpB (m s) fun d M => wpS (K ⟨s.l.set i (some d), M⟩) P) : wpS (sSeq (sAsg m (gN i)) K s) P := by
  obtain ⟨d, M, e, h⟩ := h
  exact w_asgE m i K s d M P e h
theorem w_ifE (c : EM) (a K : SM) (s : S) (M : List O) (P : Fl → S → Prop) (h1 : c s = some (.ok (.p (.bl false)) M)) (h2 : wpS (K ⟨s.l, M⟩) P) : wpS (sSeq (sIf c a sNil) K s) P := by
  have e : sIf c a sNil s = some (.nx, ⟨s.l, M⟩) := by
    rw [e_sif, e_lift, h1]
    rfl
  rw [e_seq, e]
  exact h2
theorem w_ifZ (c : EM) (a : SM) (s : S) (M : List O) (P : Fl → S → Prop) (h1 : c s = some (.ok (.p (.bl false)) M)) (h2 : P .nx ⟨s.l, M⟩) : wpS (sIf c a sNil s) P := by
  have e : sIf c a sNil s = some (.nx, ⟨s.l, M⟩) := by
    rw [e_sif, e_lift, h1]
    rfl
  rw [e]
  exact ⟨_, _, rfl, rfl, h2⟩
abbrev LS (s0 : Option DV) (sv : DV) (m : Int) (Rd : D) (s4 s5 s6 s7 s8 s9 s10 s11 s12 s13 s14 s15 : Option DV) : List (Option DV) := [s0, some sv, some (.p (.int m)), some (.p Rd), s4, s5, s6, s7, s8, s9, s10, s11, s12, s13, s14, s15]
section
variable {s0 s4 s5 s6 s7 s8 s9 s10 s11 s12 s13 s14 s15 : Option DV} {sv : DV} {m : Int} {Rd : D} {M : List O}
/-- the first test -/
theorem t1_run (fat flast fall : MA) (i : Int) (t xd rd z0 z1 z2 z3 ud j : D) (e1 : fat [Rd, xd] = some (.ok j)) (e2 : flast [Rd, xd] = some (.ok j)) (e3 : eqD j j = some true) (e4 : fall [Rd, t, xd] = some (.ok ud)) (e5 : atI [z0, z1, z2, z3] (1 + i) = some ud) (e6 : eqD ud ud = some true) :
    mOr (mBin dNe (mCallA 2 fat (aCons (mVar 3) (aCons (mVar 8) aNil))) (mCallA 2 flast (aCons (mVar 3) (aCons (mVar 8) aNil)))) (mBin dNe (mCallA 3 fall (aCons (mVar 3) (aCons (mVar 7) (aCons (mVar 8) aNil)))) (mIx (mVar 9) (mBin dAdd2 (mC (.int 1)) (mVar 6)))) ⟨LS s0 sv m Rd s4 s5 (some (.p (.int i))) (some (.p t)) (some (.p xd)) (some (.p (.tup [z0, z1, z2, z3]))) s10 s11 s12 s13 s14 s15, M⟩ = some (.ok (.p (.bl false)) M) := by
  simp [e_bnd, e1, e2, e3, e4, e5, e6]
theorem reprB (b : Bool) : ∃ z, dRepr (.bl b) = some z ∧ eqD z z = some true := by
  have := Sm.repr (Sm.bl (n := 0) (w := 5) (i := b) (Nat.le_refl _)) (by decide) (by decide)
  exact ⟨_, this, by rw [e_eqSS]; simp⟩
/-- the second -/
theorem t2_run (fmay : MA) (i u : Int) (t xd z0 z1 z2 z3 ud z : D) (b : Bool) (e1 : fmay [Rd, .int u, t, xd] = some (.ok (.bl b))) (e5 : atI [z0, z1, z2, z3] (1 + i) = some ud) (e6 : inD (.int u) ud = some b) (e7 : dRepr (.bl b) = some z) (e8 : eqD z z = some true) :
    mBin dNe (mCB (g1 dRepr) (aCons (mCallA 4 fmay (aCons (mVar 3) (aCons (mVar 10) (aCons (mVar 7) (aCons (mVar 8) aNil))))) aNil)) (mCB (g1 dRepr) (aCons (mBin dIn (mVar 10) (mIx (mVar 9) (mBin dAdd2 (mC (.int 1)) (mVar 6)))) aNil)) ⟨LS s0 sv m Rd s4 s5 (some (.p (.int i))) (some (.p t)) (some (.p xd)) (some (.p (.tup [z0, z1, z2, z3]))) (some (.p (.int u))) s11 s12 s13 s14 s15, M⟩ = some (.ok (.p (.bl false)) M) := by
  simp [e_bnd, e1, e5, e6, e7, e8]
/-- the third -/
theorem t3_run (fp : List DV → List O → Option (Rs DV)) (fl : MA) (ad pd : D) (e1 : fp [.p Rd, .p ad] M = some (.ok (.p pd) M)) (e2 : fl [Rd, ad, pd] = some (.ok (.bl true))) :
    mNot (mTru (mCallA 3 fl (aCons (mVar 3) (aCons (mVar 11) (aCons (mCallB 2 fp (aCons (mVar 3) (aCons (mVar 11) aNil))) aNil))))) ⟨LS s0 sv m Rd s4 s5 s6 s7 s8 s9 s10 (some (.p ad)) s12 s13 s14 s15, M⟩ = some (.ok (.p (.bl false)) M) := by
  simp [e_bnd, e1, e2]
/-- lists of numbers that pass -/
def okI (q : Int → Bool) (k : Nat) : List Int := ((List.range k).map fun (i : Nat) => (i : Int)).filter q
theorem ints_map (k : Nat) : DL.intsFrom 0 k = (((List.range k).map fun (i : Nat) => (i : Int)).map En.en).map DV.p := by
  unfold DL.intsFrom
  rw [List.map_map, List.map_map]
  refine List.map_congr_left fun i _ => ?_
  show DV.p (.int (0 + (i : Int))) = .p (.int (i : Int))
  congr 2; omega
theorem okI_mem (q : Int → Bool) (m : Int) (u : Int) (h0 : 0 ≤ u) (h : u < m) : decide (u ∈ okI q m.toNat) = q u := by
  rw [Bool.eq_iff_iff, decide_eq_true_eq]
  unfold okI
  rw [List.mem_filter, List.mem_map]
  constructor
  · exact fun h => h.2
  · exact fun hq => ⟨⟨u.toNat, List.mem_range.mpr (by omega), by omega⟩, hq⟩
theorem rng_m (m : Int) (i : Nat) (l : List (Option DV)) (M : List O) (h : gv l i = some (.p (.int m))) (h0 : 0 ≤ m ∧ m ≤ 4) : mRng rng1D (aCons (mVar i) aNil) ⟨l, M⟩ = some (.ok (DL.intsFrom 0 m.toNat) M) := by
  have g := rng_ok (i := m) (by omega) (by omega)
  simp [e_bnd, h, g]
theorem onall_comp (fon : MA) (i : Int) (ad : D) (q : Int → Bool) (h0 : 0 ≤ m ∧ m ≤ 4) (h : ∀ z : Int, fon [Rd, .int z, .int (1 + i), ad] = some (.ok (.bl (q z)))) :
    mLc (mRng rng1D (aCons (mVar 2) aNil)) [15] (gN 15) (mTru (mCallA 4 fon (aCons (mVar 3) (aCons (mVar 15) (aCons (mBin dAdd2 (mC (.int 1)) (mVar 6)) (aCons (mVar 11) aNil)))))) (mVar 15) ⟨LS s0 sv m Rd s4 s5 (some (.p (.int i))) s7 s8 s9 s10 (some (.p ad)) s12 s13 s14 none, M⟩ = some (.ok (.p (En.en (okI q m.toNat))) M) := by
  have e := filter_comp (l := LS s0 sv m Rd s4 s5 (some (.p (.int i))) s7 s8 s9 s10 (some (.p ad)) s12 s13 s14 none) (g := gN 15) (t := mTru (mCallA 4 fon (aCons (mVar 3) (aCons (mVar 15) (aCons (mBin dAdd2 (mC (.int 1)) (mVar 6)) (aCons (mVar 11) aNil)))))) (e := mVar 15) (M := M) id q ((List.range m.toNat).map fun (i : Nat) => (i : Int)) (fun z hz => ⟨_, rfl, rfl, by
    have := h z
    rw [en_int]
    simp [e_bnd, this], rfl⟩) (by simp; omega)
  rw [List.map_id, ← ints_map] at e
  exact lcs _ [15] (gN 15) _ (mVar 15) ⟨LS s0 sv m Rd s4 s5 (some (.p (.int i))) s7 s8 s9 s10 (some (.p ad)) s12 s13 s14 none, M⟩ _ _ (rng_m m 2 _ M rfl h0) e
theorem allall_fin (fm : MA) (t ad : D) (q : Int → Bool) (h0 : 0 ≤ m ∧ m ≤ 4) (h : ∀ z : Int, fm [Rd, .int z, t, ad] = some (.ok (.bl (q z)))) :
    runA 5 (sRet (mLc (mRng rng1D (aCons (mVar 3) aNil)) [4] (gN 4) (mTru (mCallA 4 fm (aCons (mVar 0) (aCons (mVar 4) (aCons (mVar 1) (aCons (mVar 2) aNil)))))) (mVar 4))) [Rd, t, ad, .int m] = some (.ok (En.en (okI q m.toNat))) := by
  have e := filter_comp (l := [some (.p Rd), some (.p t), some (.p ad), some (.p (.int m)), none]) (g := gN 4) (t := mTru (mCallA 4 fm (aCons (mVar 0) (aCons (mVar 4) (aCons (mVar 1) (aCons (mVar 2) aNil)))))) (e := mVar 4) (M := []) id q ((List.range m.toNat).map fun (i : Nat) => (i : Int)) (fun z hz => ⟨_, rfl, rfl, by
    have := h z
    rw [en_int]
    simp [e_bnd, this], rfl⟩) (by simp; omega)
  rw [List.map_id, ← ints_map] at e
  exact runA_ret 5 _ [Rd, t, ad, .int m] _ (lcs _ [4] (gN 4) _ (mVar 4) ⟨[some (.p Rd), some (.p t), some (.p ad), some (.p (.int m)), none], []⟩ _ _ (rng_m m 3 _ [] rfl h0) e)
/-- the fourth -/
theorem t4_run (fa fm : MA) (u : Int) (t ad ld z : D) (b : Bool) (e1 : fa [Rd, t, ad, .int m] = some (.ok ld)) (e2 : eqD ld ld = some true) (e3 : fm [Rd, .int u, t, ad] = some (.ok (.bl b))) (e6 : inD (.int u) ld = some b) (e7 : dRepr (.bl b) = some z) (e8 : eqD z z = some true) :
    mOr (mBin dNe (mCallA 4 fa (aCons (mVar 3) (aCons (mVar 7) (aCons (mVar 11) (aCons (mVar 2) aNil))))) (mVar 12)) (mBin dNe (mCB (g1 dRepr) (aCons (mCallA 4 fm (aCons (mVar 3) (aCons (mVar 10) (aCons (mVar 7) (aCons (mVar 11) aNil))))) aNil)) (mCB (g1 dRepr) (aCons (mBin dIn (mVar 10) (mVar 12)) aNil))) ⟨LS s0 sv m Rd s4 s5 s6 (some (.p t)) s8 s9 (some (.p (.int u))) (some (.p ad)) (some (.p ld)) s13 s14 s15, M⟩ = some (.ok (.p (.bl false)) M) := by
  simp [e_bnd, e1, e2, e3, e6, e7, e8]
/-- the fifth -/
theorem t5_run (m13 : D) (mc : EM) (so cd : D) (e1 : mc ⟨LS s0 sv m Rd s4 s5 s6 s7 s8 s9 s10 s11 s12 (some (.p m13)) s14 s15, M⟩ = some (.ok (.p cd) M)) (e2 : dSort m13 = some so) (e3 : dSort cd = some so) (e4 : eqD so so = some true) :
    mBin dNe (mCB (g1 dSort) (aCons (mVar 13) aNil)) (mCB (g1 dSort) (aCons mc aNil)) ⟨LS s0 sv m Rd s4 s5 s6 s7 s8 s9 s10 s11 s12 (some (.p m13)) s14 s15, M⟩ = some (.ok (.p (.bl false)) M) := by
  simp [e_bnd, e1, e2, e3, e4]
theorem add_step (fc : MA) (pd : D) (xs ys : List D) (e1 : fc [pd] = some (.ok (.lst ys))) (e2 : xs.length + ys.length ≤ 1000000) :
    (sAsg (mBin dAdd2 (mVar 13) (mCallA 1 fc (aCons (mVar 14) aNil))) (gN 13)) ⟨LS s0 sv m Rd s4 s5 s6 s7 s8 s9 s10 s11 s12 (some (.p (.lst xs))) (some (.p pd)) s15, M⟩ = some (.nx, ⟨LS s0 sv m Rd s4 s5 s6 s7 s8 s9 s10 s11 s12 (some (.p (.lst (xs ++ ys)))) (some (.p pd)) s15, M⟩) := by
  simp [e_bnd, e_lift, e1, e2]
theorem add_loop (ps : List Ar) : ∀ (acc : List Ad) (s14 : Option DV), (∀ p ∈ ps, okA p) → acc.length + (ps.flatMap cells).length ≤ 1000000 → ∃ s14',
    loopS (gN 14) (sAsg (mBin dAdd2 (mVar 13) (mCallA 1 m_l_cells (aCons (mVar 14) aNil))) (gN 13)) ((ps.map En.en).map .p) ⟨LS s0 sv m Rd s4 s5 s6 s7 s8 s9 s10 s11 s12 (some (.p (En.en acc))) s14 s15, M⟩ = some (.nx, ⟨LS s0 sv m Rd s4 s5 s6 s7 s8 s9 s10 s11 s12 (some (.p (En.en (acc ++ ps.flatMap cells)))) s14' s15, M⟩) := by
  induction ps with
  | nil => intro acc s14 _ _; exact ⟨s14, by simp⟩
  | cons p ps ih =>
    intro acc s14 h hn
    rw [List.flatMap_cons, List.length_append] at hn
    obtain ⟨s14', ih⟩ := ih (acc ++ cells p) (some (.p (En.en p))) (fun q hq => h q (List.mem_cons_of_mem _ hq)) (by rw [List.length_append]; omega)
    refine ⟨s14', ?_⟩
    have e := add_step (s0 := s0) (sv := sv) (m := m) (Rd := Rd) (s4 := s4) (s5 := s5) (s6 := s6) (s7 := s7) (s8 := s8) (s9 := s9) (s10 := s10) (s11 := s11) (s12 := s12) (s15 := s15) (M := M) m_l_cells (En.en p) (acc.map En.en) _ (cells_spec p (h p List.mem_cons_self)) (by rw [List.length_map, List.length_map]; omega)
    rw [← List.map_append] at e
    have e6 := loop_step (gN 14) _ (.p (En.en p)) ((ps.map En.en).map .p) ⟨LS s0 sv m Rd s4 s5 s6 s7 s8 s9 s10 s11 s12 (some (.p (En.en acc))) s14 s15, M⟩ _ _ rfl e
    rw [List.flatMap_cons, ← List.append_assoc]
    exact e6.trans ih
end
end Law
namespace Law
open PySem L2 DL
def qf (R : List Rl) (u : Int) (i : Nat) (q : Ar × Int) : Bool := decide (u ∉ us (ru R q.1.1) i)
theorem rp_test (g : MA) (Rs : List D) (u j : Int) (t rd ud : D) (b : Bool) (s3 s4 : Option DV) (M : List O) (e1 : atI Rs j = some rd) (e2 : g [rd, t] = some (.ok ud)) (e3 : dNin (.int u) ud = some (.bl b)) :
    mBin dNin (mVar 1) (mCallA 2 g (aCons (mIx (mVar 0) (mVar 5)) (aCons (mVar 2) aNil))) ⟨[some (.p (.lst Rs)), some (.p (.int u)), some (.p t), s3, s4, some (.p (.int j))], M⟩ = some (.ok (.p (.bl b)) M) := by
  generalize dNin = nn at *
  simp [e_bnd, e1, e2, e3]
theorem callB2 (f : List DV → List O → Option (Rs DV)) (i j : Nat) (l : List (Option DV)) (M : List O) (x y : D) (r : List D) (h1 : gv l i = some (.p x)) (h2 : gv l j = some (.p y)) (e : f [.p x, .p y] M = some (.ok (.p (.lst r)) M)) : mItD itL (mCallB 2 f (aCons (mVar i) (aCons (mVar j) aNil))) ⟨l, M⟩ = some (.ok (r.map .p) M) := by
  simp [e_bnd, h1, h2, e]
theorem runB_ret (n : Nat) (m : EM) (ds : List DV) (M : List O) (z : D) (h : m ⟨slotsOf n ds, M⟩ = some (.ok (.p z) M)) : runB n (sRet m) ds M = some (.ok (.p z) M) := by
  rw [e_runB, e_sret, e_lift, h]
  show some (Rs.ok (DV.p z) (dropM M.length (DV.p z) M)) = _
  rw [dropM_len rfl]
theorem refparts_spec {R : List Rl} {a : Ar} {Ps : List Addr} {B : List O} {T : O} (hl : R.length ≤ 1000) (hok : okRs R) (ha : okA a) (ho : ord a) (hB : B[0]? = some (.tbl (Ps.getD 0 0) (lamq (PySem.Str.ofString "parts_by_rule")))) (hc : B.all (closed B.length) = true) (u : Int) (i : Nat) (hi : i ≤ 2) :
    m_refused_parts Ps [.p (En.en R), .p (.int u), .p (.str (rS i)), .p (En.en a)] B = some (.ok (.p (En.en (((parts R a).filter (qf R u i)).map (·.1)))) B) := by
  have hcov : ∀ x, has a x = true → Cov R x := fun x hx => hok.covA ha hx
  obtain ⟨p, hn, _⟩ := parts_ok hl ha ho hcov
  have e1 := parts_spec (Ps := Ps) hl ha ho hB hc
  have it1 := callB2 (m_parts_by_rule Ps) 0 3 [some (.p (En.en R)), some (.p (.int u)), some (.p (.str (rS i))), some (.p (En.en a)), none, none] B _ _ ((parts R a).map En.en) rfl rfl e1
  have e2 := filter_comp (l := [some (.p (En.en R)), some (.p (.int u)), some (.p (.str (rS i))), some (.p (En.en a)), none, none]) (g := gT 2 (gsCons (gN 4) (gsCons (gN 5) gsNil))) (t := mBin dNin (mVar 1) (mCallA 2 m_users_with (aCons (mIx (mVar 0) (mVar 5)) (aCons (mVar 2) aNil)))) (e := mVar 4) (M := B) (fun q : Ar × Int => q.1) (qf R u i) (parts R a) (fun q hq => ⟨⟨[some (.p (En.en R)), some (.p (.int u)), some (.p (.str (rS i))), some (.p (En.en a)), some (.p (En.en q.1)), some (.p (.int q.2))], B⟩, rfl, rfl, by
    have h1 : has q.1 q.1.1 = true := (has_iff _ _).mpr (by have := p.ord q hq; unfold ord at this; omega)
    have h2 := p.last q hq q.1.1 h1
    have h3 := rl_at (hcov _ h2.2)
    rw [← h2.1] at h3
    exact rp_test m_users_with (R.map En.en) u q.2 _ _ _ _ _ _ B h3 (users_spec _ i hi) (nin_us u _), rfl⟩) (by omega)
  have e3 := lcs _ [4, 5] _ _ (mVar 4) ⟨[some (.p (En.en R)), some (.p (.int u)), some (.p (.str (rS i))), some (.p (En.en a)), none, none], B⟩ _ _ it1 e2
  exact runB_ret 6 _ [.p (En.en R), .p (.int u), .p (.str (rS i)), .p (En.en a)] B _ e3
theorem fl_filter (q : Ar × Int → Bool) (pr : Ad → Bool) : ∀ l : List (Ar × Int), (∀ z ∈ l, ∀ x ∈ cells z.1, pr x = q z) → fl (l.filter q) = (fl l).filter pr
  | [], _ => rfl
  | z :: l, h => by
    have ih := fl_filter q pr l fun y hy => h y (List.mem_cons_of_mem _ hy)
    have hz := h z List.mem_cons_self
    rw [fl_cons, List.filter_append, List.filter_cons, ← ih]
    cases hq : q z with
    | true =>
      have e : (cells z.1).filter pr = cells z.1 := List.filter_eq_self.mpr fun x hx => by rw [hz x hx, hq]
      rw [if_pos rfl, fl_cons, e]
    | false =>
      have e : (cells z.1).filter pr = [] := List.filter_eq_nil_iff.mpr fun x hx => by rw [hz x hx, hq]; decide
      rw [if_neg (by decide), e]
      rfl
theorem ref_perm {R : List Rl} {a : Ar} {l : List (Ar × Int)} (p : Pt R a l) (hcov : ∀ x, has a x = true → Cov R x) (u : Int) (i : Nat) : (fl (l.filter (qf R u i))).Perm ((cells a).filter fun x => decide (u ∉ us (ru R x) i)) := by
  rw [fl_filter (qf R u i) (fun x => decide (u ∉ us (ru R x) i)) l fun z hz x hx => by
    have hx := (cells_mem _ _).mp hx
    have h1 : has z.1 z.1.1 = true := (has_iff _ _).mpr (by have := p.ord z hz; unfold ord at this; omega)
    have h2 := p.last z hz _ h1
    have h3 := p.last z hz x hx
    have h4 := ru_spec (hcov _ h2.2)
    have h5 := ru_spec (hcov _ h3.2)
    have h6 : li R z.1.1 = li R x := by omega
    rw [h6, h5] at h4
    have h7 : ru R x = ru R z.1.1 := Option.some.inj h4
    unfold qf
    rw [h7]]
  exact p.perm.filter _
theorem lc_test (f : MA) (Rd xd z0 z1 z2 z3 ud : D) (u i m : Int) (b : Bool) {s0 s4 s5 s7 s8 s9 s11 s12 s13 s14 : Option DV} {sv : DV} {M : List O} (e1 : f [Rd, xd] = some (.ok (.tup [z0, z1, z2, z3]))) (e2 : atI [z0, z1, z2, z3] (1 + i) = some ud) (e3 : dNin (.int u) ud = some (.bl b)) :
    mBin dNin (mVar 10) (mIx (mCallA 2 f (aCons (mVar 3) (aCons (mVar 15) aNil))) (mBin dAdd2 (mC (.int 1)) (mVar 6))) ⟨LS s0 sv m Rd s4 s5 (some (.p (.int i))) s7 s8 s9 (some (.p (.int u))) s11 s12 s13 s14 (some (.p xd)), M⟩ = some (.ok (.p (.bl b)) M) := by
  generalize dNin = nn at *
  simp [e_bnd, e1, e2, e3]
theorem callA1 (f : MA) (i : Nat) (l : List (Option DV)) (M : List O) (x : D) (r : List D) (h1 : gv l i = some (.p x)) (e : f [x] = some (.ok (.lst r))) : mItD itL (mCallA 1 f (aCons (mVar i) aNil)) ⟨l, M⟩ = some (.ok (r.map .p) M) := by
  simp [e_bnd, h1, e]
theorem lc_spec {R : List Rl} {a : Ar} (hne : R ≠ []) (ha : okA a) (u m : Int) (i : Nat) (hi : i ≤ 2) {s0 s4 s5 s7 s8 s9 s12 s13 s14 s15 : Option DV} {sv : DV} {M : List O} :
    mLc (mItD itL (mCallA 1 m_l_cells (aCons (mVar 11) aNil))) [15] (gN 15) (mBin dNin (mVar 10) (mIx (mCallA 2 m_l_rule (aCons (mVar 3) (aCons (mVar 15) aNil))) (mBin dAdd2 (mC (.int 1)) (mVar 6)))) (mVar 15) ⟨LS s0 sv m (En.en R) s4 s5 (some (.p (.int (i : Int)))) s7 s8 s9 (some (.p (.int u))) (some (.p (En.en a))) s12 s13 s14 s15, M⟩ = some (.ok (.p (En.en ((cells a).filter fun x => decide (u ∉ us (ru R x) i)))) M) := by
  have hn := cells_len a ha
  have e := filter_comp (l := LS s0 sv m (En.en R) s4 s5 (some (.p (.int (i : Int)))) s7 s8 s9 (some (.p (.int u))) (some (.p (En.en a))) s12 s13 s14 none) (g := gN 15) (t := mBin dNin (mVar 10) (mIx (mCallA 2 m_l_rule (aCons (mVar 3) (aCons (mVar 15) aNil))) (mBin dAdd2 (mC (.int 1)) (mVar 6)))) (e := mVar 15) (M := M) id (fun x => decide (u ∉ us (ru R x) i)) (cells a) (fun x hx => ⟨_, rfl, rfl, lc_test m_l_rule (En.en R) (En.en x) _ _ _ _ _ u (i : Int) m _ (rule_spec hne) (us_at1 (ru R x) i hi) (nin_us _ _), rfl⟩) (by omega)
  rw [List.map_id] at e
  exact lcs _ [15] (gN 15) _ (mVar 15) ⟨LS s0 sv m (En.en R) s4 s5 (some (.p (.int (i : Int)))) s7 s8 s9 (some (.p (.int u))) (some (.p (En.en a))) s12 s13 s14 s15, M⟩ _ _ (callA1 m_l_cells 11 _ M (En.en a) ((cells a).map En.en) rfl (cells_spec a ha)) e
end Law
namespace Law
open PySem L2 DL
noncomputable abbrev turn (Ps : List Addr) : SM := (sSeq (sAsg (mCallB 2 m_l_take (aCons (mVar 1) (aCons (mC (.int 3)) aNil))) (gN 6))
  (sSeq (sAsg (mIx (disp .lst (aCons (mC (.str (PySem.Str.ofString "read"))) (aCons (mC (.str (PySem.Str.ofString "write"))) (aCons (mC (.str (PySem.Str.ofString "own"))) aNil)))) (mVar 6)) (gN 7))
  (sSeq (sAsg (mCallB 1 m_l_address (aCons (mVar 1) aNil)) (gN 8))
  (sSeq (sAsg (mCallA 2 m_l_rule (aCons (mVar 3) (aCons (mVar 8) aNil))) (gN 9))
  (sSeq (sAsg (mCallB 2 m_l_take (aCons (mVar 1) (aCons (mVar 2) aNil))) (gN 10))
  (sSeq (sIf (mOr (mBin dNe (mCallA 2 m_rule_at (aCons (mVar 3) (aCons (mVar 8) aNil))) (mCallA 2 m_l_last (aCons (mVar 3) (aCons (mVar 8) aNil)))) (mBin dNe (mCallA 3 m_allowed (aCons (mVar 3) (aCons (mVar 7) (aCons (mVar 8) aNil)))) (mIx (mVar 9) (mBin dAdd2 (mC (.int 1)) (mVar 6))))) (sRet (mC (.bl false))) sNil)
  (sSeq (sIf (mBin dNe (mCB (g1 dRepr) (aCons (mCallA 4 m_may (aCons (mVar 3) (aCons (mVar 10) (aCons (mVar 7) (aCons (mVar 8) aNil))))) aNil)) (mCB (g1 dRepr) (aCons (mBin dIn (mVar 10) (mIx (mVar 9) (mBin dAdd2 (mC (.int 1)) (mVar 6)))) aNil))) (sRet (mC (.bl false))) sNil)
  (sSeq (sAsg (mCallB 1 m_l_area (aCons (mVar 1) aNil)) (gN 11))
  (sSeq (sIf (mNot (mTru (mCallA 3 m_l_parts (aCons (mVar 3) (aCons (mVar 11) (aCons (mCallB 2 (m_parts_by_rule Ps) (aCons (mVar 3) (aCons (mVar 11) aNil))) aNil)))))) (sRet (mC (.bl false))) sNil)
  (sSeq (sAsg (mLc (mRng rng1D (aCons (mVar 2) aNil)) [15] (gN 15) (mTru (mCallA 4 m_l_on_all (aCons (mVar 3) (aCons (mVar 15) (aCons (mBin dAdd2 (mC (.int 1)) (mVar 6)) (aCons (mVar 11) aNil)))))) (mVar 15)) (gN 12))
  (sSeq (sIf (mOr (mBin dNe (mCallA 4 m_allowed_all (aCons (mVar 3) (aCons (mVar 7) (aCons (mVar 11) (aCons (mVar 2) aNil))))) (mVar 12)) (mBin dNe (mCB (g1 dRepr) (aCons (mCallA 4 m_may_all (aCons (mVar 3) (aCons (mVar 10) (aCons (mVar 7) (aCons (mVar 11) aNil))))) aNil)) (mCB (g1 dRepr) (aCons (mBin dIn (mVar 10) (mVar 12)) aNil)))) (sRet (mC (.bl false))) sNil)
  (sSeq (sAsg (disp .lst aNil) (gN 13))
  (sSeq (sFor (mItD itL (mCallB 4 (m_refused_parts Ps) (aCons (mVar 3) (aCons (mVar 10) (aCons (mVar 7) (aCons (mVar 11) aNil)))))) (gN 14) (sAsg (mBin dAdd2 (mVar 13) (mCallA 1 m_l_cells (aCons (mVar 14) aNil))) (gN 13)))
  (sIf (mBin dNe (mCB (g1 dSort) (aCons (mVar 13) aNil)) (mCB (g1 dSort) (aCons (mLc (mItD itL (mCallA 1 m_l_cells (aCons (mVar 11) aNil))) [15] (gN 15) (mBin dNin (mVar 10) (mIx (mCallA 2 m_l_rule (aCons (mVar 3) (aCons (mVar 15) aNil))) (mBin dAdd2 (mC (.int 1)) (mVar 6)))) (mVar 15)) aNil))) (sRet (mC (.bl false))) sNil))))))))))))))
theorem w_call2 (f : List DV → List O → Option (Rs DV)) (i : Nat) (me : EM) (l : List (Option DV)) (M : List O) (d e : DV) (Q : DV → List O → Prop) (h1 : gv l i = some d) (h2 : me ⟨l, M⟩ = some (.ok e M)) (h : wpB (f [d, e] M) Q) : wpB (mCallB 2 f (aCons (mVar i) (aCons me aNil)) ⟨l, M⟩) Q := by
  obtain ⟨v, M2, e1, q⟩ := h
  refine ⟨v, M2, ?_, q⟩
  simp [e_bnd, h1, h2, e1]
theorem w_call1 (f : List DV → List O → Option (Rs DV)) (i : Nat) (l : List (Option DV)) (M : List O) (d : DV) (Q : DV → List O → Prop) (h1 : gv l i = some d) (h : wpB (f [d] M) Q) : wpB (mCallB 1 f (aCons (mVar i) aNil) ⟨l, M⟩) Q := by
  obtain ⟨v, M2, e1, q⟩ := h
  refine ⟨v, M2, ?_, q⟩
  simp [e_bnd, h1, e1]
theorem callA2 (f : MA) (i j : Nat) (l : List (Option DV)) (M : List O) (x y d : D) (h1 : gv l i = some (.p x)) (h2 : gv l j = some (.p y)) (e : f [x, y] = some (.ok d)) : mCallA 2 f (aCons (mVar i) (aCons (mVar j) aNil)) ⟨l, M⟩ = some (.ok (.p d) M) := by
  simp [e_bnd, h1, h2, e]
theorem right_run (l : List (Option DV)) (M : List O) : ∀ i : Nat, i ≤ 2 → gv l 6 = some (.p (.int (i : Int))) → mIx (disp .lst (aCons (mC (.str (PySem.Str.ofString "read"))) (aCons (mC (.str (PySem.Str.ofString "write"))) (aCons (mC (.str (PySem.Str.ofString "own"))) aNil)))) (mVar 6) ⟨l, M⟩ = some (.ok (.p (.str (rS i))) M)
  | 0, _, h => by simp [e_bnd, h, atI0, rS]
  | 1, _, h => by simp [e_bnd, h, atI1, rS]
  | 2, _, h => by
    have : ∀ x y z : D, atI [x, y, z] 2 = some z := fun x y z => rfl
    simp [e_bnd, h, this, rS]
  | k + 3, hh, _ => by omega
theorem callB4 (f : List DV → List O → Option (Rs DV)) (l : List (Option DV)) (M : List O) (a b c e : D) (r : List D) (h1 : gv l 3 = some (.p a)) (h2 : gv l 10 = some (.p b)) (h3 : gv l 7 = some (.p c)) (h4 : gv l 11 = some (.p e)) (q : f [.p a, .p b, .p c, .p e] M = some (.ok (.p (.lst r)) M)) : mItD itL (mCallB 4 f (aCons (mVar 3) (aCons (mVar 10) (aCons (mVar 7) (aCons (mVar 11) aNil))))) ⟨l, M⟩ = some (.ok (r.map .p) M) := by
  simp [e_bnd, h1, h2, h3, h4, q]
theorem eq_en {α : Type} [DecidableEq α] [En α] (h : En.dp α ≤ 64) (a : α) : eqD (En.en a) (En.en a) = some true := eqD_refl (En.ok a) (Nat.le_trans (En.dpl a) h)
theorem w_forE (it : IM) (g : GM) (b K : SM) (s s1 : S) (ds : List DV) (P : Fl → S → Prop) (h1 : it s = some (.ok ds s.m)) (h2 : loopS g b ds s = some (.nx, s1)) (h3 : wpS (K s1) P) : wpS (sSeq (sFor it g b) K s) P := by
  obtain ⟨f, s2, e, nn, p⟩ := h3
  exact ⟨f, s2, seq_for it g b K s s1 ds _ h1 h2 e, nn, p⟩
theorem turn_ok {Ps : List Addr} {n : Nat} {sv : DV} {B : List O} {R : List Rl} {m : Int} {P : Fl → S → Prop} {s0 s4 s5 s6 s7 s8 s9 s10 s11 s12 s13 s14 : Option DV} (hm : 1 ≤ m ∧ m ≤ 4) (hok : okRs R) (hl : R.length ≤ 6) (h : DB (.tbl (Ps.getD 0 0) (lamq (PySem.Str.ofString "parts_by_rule"))) n sv B)
    (k : ∀ B' t6 t7 t8 t9 t10 t11 t12 t13 t14, DB (.tbl (Ps.getD 0 0) (lamq (PySem.Str.ofString "parts_by_rule"))) n sv B' → P .nx ⟨LS s0 sv m (En.en R) s4 s5 t6 t7 t8 t9 t10 t11 t12 t13 t14 none, B'⟩) :
    wpS (turn Ps ⟨LS s0 sv m (En.en R) s4 s5 s6 s7 s8 s9 s10 s11 s12 s13 s14 none, B⟩) P := by
  have hne : R ≠ [] := by obtain ⟨r, t, e, _⟩ := hok.h; rw [e]; exact List.cons_ne_nil _ _
  have hl' : R.length ≤ 1000 := by omega
  unfold turn
  refine w_asgT _ 6 _ _ _ (w_call2 m_l_take 1 _ _ _ sv (.p (.int 3)) _ rfl rfl (wp_t0 h (by decide) fun r B1 d1 _ b1 => ?_))
  have b1 := b1 (by decide)
  obtain ⟨i, rfl⟩ : ∃ i : Nat, r = (i : Int) := ⟨r.toNat, by omega⟩
  have hi : i ≤ 2 := by omega
  show wpS ((_ : SM) ⟨LS s0 sv m (En.en R) s4 s5 (some (.p (.int (i : Int)))) s7 s8 s9 s10 s11 s12 s13 s14 none, B1⟩) P
  refine w_asgE _ 7 _ _ _ _ _ (right_run _ _ i hi rfl) ?_
  show wpS ((_ : SM) ⟨LS s0 sv m (En.en R) s4 s5 (some (.p (.int (i : Int)))) (some (.p (.str (rS i)))) s8 s9 s10 s11 s12 s13 s14 none, B1⟩) P
  refine w_asgT _ 8 _ _ _ (w_call1 m_l_address 1 _ _ sv _ rfl (wp_address0 d1 fun x B2 d2 x1 x2 x3 x4 => ?_))
  show wpS ((_ : SM) ⟨LS s0 sv m (En.en R) s4 s5 (some (.p (.int (i : Int)))) (some (.p (.str (rS i)))) (some (.p (En.en x))) s9 s10 s11 s12 s13 s14 none, B2⟩) P
  have hc : Cov R x := hok.cov ⟨x1, x2, x3, x4⟩
  refine w_asgE _ 9 _ _ _ _ _ (callA2 m_l_rule 3 8 _ _ (En.en R) (En.en x) _ rfl rfl (rule_spec hne)) ?_
  show wpS ((_ : SM) ⟨LS s0 sv m (En.en R) s4 s5 (some (.p (.int (i : Int)))) (some (.p (.str (rS i)))) (some (.p (En.en x))) (some (.p (En.en (ru R x)))) s10 s11 s12 s13 s14 none, B2⟩) P
  refine w_asgT _ 10 _ _ _ (w_call2 m_l_take 1 _ _ _ sv (.p (.int m)) _ rfl rfl (wp_t0 d2 (by omega) fun u B3 d3 _ b3 => ?_))
  have b3 := b3 hm.1
  show wpS ((_ : SM) ⟨LS s0 sv m (En.en R) s4 s5 (some (.p (.int (i : Int)))) (some (.p (.str (rS i)))) (some (.p (En.en x))) (some (.p (En.en (ru R x)))) (some (.p (.int u))) s11 s12 s13 s14 none, B3⟩) P
  refine w_ifE _ _ _ _ B3 _ (t1_run m_rule_at m_l_last m_allowed (i : Int) (.str (rS i)) (En.en x) (En.en (ru R x)) (En.en (ru R x).a) (En.en (ru R x).r) (En.en (ru R x).w) (En.en (ru R x).o) _ _ (rat_spec hc hl') (last_spec hc hl') (eq_en (α := Int) (by decide) _) (allowed_spec hc hl' i hi) (us_at1 (ru R x) i hi) (eq_en (by decide) _)) ?_
  obtain ⟨z1, q1, q2⟩ := reprB (decide (u ∈ us (ru R x) i))
  refine w_ifE _ _ _ _ B3 _ (t2_run m_may (i : Int) u (.str (rS i)) (En.en x) (En.en (ru R x).a) (En.en (ru R x).r) (En.en (ru R x).w) (En.en (ru R x).o) _ _ _ (may_spec hc hl' i hi u) (us_at1 (ru R x) i hi) (in_us u _) q1 q2) ?_
  refine w_asgT _ 11 _ _ _ (w_call1 m_l_area 1 _ _ sv _ rfl (wp_area0 d3 fun a B4 d4 ha ho => ?_))
  show wpS ((_ : SM) ⟨LS s0 sv m (En.en R) s4 s5 (some (.p (.int (i : Int)))) (some (.p (.str (rS i)))) (some (.p (En.en x))) (some (.p (En.en (ru R x)))) (some (.p (.int u))) (some (.p (En.en a))) s12 s13 s14 none, B4⟩) P
  have hcov : ∀ x, has a x = true → Cov R x := fun x hx => hok.covA ha hx
  obtain ⟨pt, hn, lp⟩ := parts_ok hl' ha ho hcov
  have hcl : B4.all (closed B4.length) = true := by rw [d4.len]; exact d4.cl
  refine w_ifE _ _ _ _ B4 _ (t3_run (m_parts_by_rule Ps) m_l_parts (En.en a) _ (parts_spec hl' ha ho d4.tb hcl) lp) ?_
  refine w_asgE _ 12 _ _ _ _ _ (onall_comp m_l_on_all (i : Int) (En.en a) (allU R a i) ⟨by omega, hm.2⟩ fun z => onall_spec hne ha z i hi) ?_
  show wpS ((_ : SM) ⟨LS s0 sv m (En.en R) s4 s5 (some (.p (.int (i : Int)))) (some (.p (.str (rS i)))) (some (.p (En.en x))) (some (.p (En.en (ru R x)))) (some (.p (.int u))) (some (.p (En.en a))) (some (.p (En.en (okI (allU R a i) m.toNat)))) s13 s14 none, B4⟩) P
  obtain ⟨z2, q3, q4⟩ := reprB (allU R a i u)
  have q5 : inD (.int u) (En.en (okI (allU R a i) m.toNat)) = some (allU R a i u) := by rw [in_us, okI_mem _ _ _ b3.1 b3.2]
  refine w_ifE _ _ _ _ B4 _ (t4_run m_allowed_all m_may_all u (.str (rS i)) (En.en a) _ _ _ (allall_fin m_may_all (.str (rS i)) (En.en a) (allU R a i) ⟨by omega, hm.2⟩ fun z => may_all_spec hok.a ha ho hcov z i hi) (eq_en (by decide) _) (may_all_spec hok.a ha ho hcov u i hi) q5 q3 q4) ?_
  have w1 : disp .lst aNil ⟨LS s0 sv m (En.en R) s4 s5 (some (.p (.int (i : Int)))) (some (.p (.str (rS i)))) (some (.p (En.en x))) (some (.p (En.en (ru R x)))) (some (.p (.int u))) (some (.p (En.en a))) (some (.p (En.en (okI (allU R a i) m.toNat)))) s13 s14 none, B4⟩ = some (.ok (.p (En.en ([] : List Ad))) B4) := by
    rw [e_disp, e_bnd, e_aNil]
    exact if_pos (Nat.zero_le _)
  refine w_asgE _ 13 _ _ _ _ _ w1 ?_
  have it := callB4 (m_refused_parts Ps) (LS s0 sv m (En.en R) s4 s5 (some (.p (.int (i : Int)))) (some (.p (.str (rS i)))) (some (.p (En.en x))) (some (.p (En.en (ru R x)))) (some (.p (.int u))) (some (.p (En.en a))) (some (.p (En.en (okI (allU R a i) m.toNat)))) (some (.p (En.en ([] : List Ad)))) s14 none) B4 _ _ _ _ _ rfl rfl rfl rfl (refparts_spec (T := .gone) hl' hok ha ho d4.tb hcl u i hi)
  have rp := ref_perm pt hcov u i
  have hfl : (((parts R a).filter (qf R u i)).map (·.1)).flatMap cells = fl ((parts R a).filter (qf R u i)) := rfl
  have hln : ((((parts R a).filter (qf R u i)).map (·.1)).flatMap cells).length ≤ 2574 := by
    rw [hfl, rp.length_eq]
    exact Nat.le_trans (List.length_filter_le _ _) (cells_len a ha)
  obtain ⟨t14, al⟩ := add_loop (s0 := s0) (sv := sv) (m := m) (Rd := En.en R) (s4 := s4) (s5 := s5) (s6 := some (.p (.int (i : Int)))) (s7 := some (.p (.str (rS i)))) (s8 := some (.p (En.en x))) (s9 := some (.p (En.en (ru R x)))) (s10 := some (.p (.int u))) (s11 := some (.p (En.en a))) (s12 := some (.p (En.en (okI (allU R a i) m.toNat)))) (s15 := none) (M := B4) (((parts R a).filter (qf R u i)).map (·.1)) [] s14 (fun p hp => by
    obtain ⟨q, hq, rfl⟩ := List.mem_map.mp hp
    have hq := (List.mem_filter.mp hq).1
    exact okA_sub (pt.ord q hq) (fun x hx => (pt.last q hq x hx).2) ha) (by show 0 + _ ≤ _; omega)
  rw [List.nil_append] at al
  refine w_forE _ _ _ _ _ _ _ _ it al ?_
  have d1 := dSort_ad ((((parts R a).filter (qf R u i)).map (·.1)).flatMap cells)
  have d2 := dSort_ad ((cells a).filter fun x => decide (u ∉ us (ru R x) i))
  rw [← sort_perm rp] at d2
  refine w_ifZ _ _ _ B4 _ (t5_run _ _ _ _ (lc_spec hne ha u m i hi) d1 d2 (eq_en (by decide) _)) ?_
  exact k B4 _ _ _ _ _ _ _ _ _ d4
end Law
namespace Law
open PySem L2 DL
theorem sm_users {l : List Int} (h : okL l) : Sm 2 500 (En.en l) := by
  refine (Sm.lst (n := 0) (w := 100) (v := 500) (ds := l.map En.en) (fun d hd => ?_) (by rw [List.length_map]; have := h.1; omega)).mono (by decide) (Nat.le_refl _)
  obtain ⟨z, hz, rfl⟩ := List.mem_map.mp hd
  have := h.2 z hz
  exact Sm.int (by omega) (by decide)
theorem sm_ad {x : Ad} (h : x.1.natAbs ≤ 1000 ∧ x.2.natAbs ≤ 1000) : Sm 1 207 (En.en x) := by
  refine Sm.tup (n := 0) (w := 100) (ds := [.int x.1, .int x.2]) (fun d hd => ?_) (by simp)
  simp at hd
  rcases hd with rfl | rfl
  · exact Sm.int (by omega) (by decide)
  · exact Sm.int (by omega) (by decide)
theorem sm_ar {a : Ar} (h : okA a) : Sm 2 500 (En.en a) := by
  unfold okA at h
  refine Sm.tup (n := 1) (w := 207) (ds := [En.en a.1, En.en a.2]) (fun d hd => ?_) (by simp)
  simp at hd
  rcases hd with rfl | rfl
  · exact sm_ad (by omega)
  · exact sm_ad (by omega)
theorem sm_rule {r : Rl} (h : okA r.a) (u : okU r) : Sm 3 2100 (En.en r) := by
  refine Sm.tup (n := 2) (w := 500) (ds := [En.en r.a, En.en r.r, En.en r.w, En.en r.o]) (fun d hd => ?_) (by simp)
  simp at hd
  rcases hd with rfl | rfl | rfl | rfl
  · exact sm_ar h
  · exact sm_users u.1
  · exact sm_users u.2.1
  · exact sm_users u.2.2
theorem sm_rules {R : List Rl} (h : okRs R) (hl : R.length ≤ 6) : Sm 4 20000 (En.en R) := by
  refine Sm.lst (n := 3) (w := 2100) (ds := R.map En.en) (fun d hd => ?_) (by rw [List.length_map]; omega)
  obtain ⟨r, hr, rfl⟩ := List.mem_map.mp hd
  exact sm_rule (h.a r hr).1 (h.u r hr)
theorem rights_eq : eqD k_RIGHTS (.lst [.str (PySem.Str.ofString "read"), .str (PySem.Str.ofString "write"), .str (PySem.Str.ofString "own")]) = some true := by kernel_rfl
theorem w_call3 (f : List DV → List O → Option (Rs DV)) (i j : Nat) (x : D) (l : List (Option DV)) (M : List O) (d e : DV) (Q : DV → List O → Prop) (h1 : gv l i = some d) (h2 : gv l j = some e) (h : wpB (f [d, e, .p x] M) Q) : wpB (mCallB 3 f (aCons (mVar i) (aCons (mVar j) (aCons (mC x) aNil))) ⟨l, M⟩) Q := by
  obtain ⟨v, M2, e1, q⟩ := h
  refine ⟨v, M2, ?_, q⟩
  simp [e_bnd, h1, h2, e1]
theorem repr_run (l : List (Option DV)) (M : List O) (x z : D) (h1 : gv l 3 = some (.p x)) (h2 : dRepr x = some z) : mCB (g1 dRepr) (aCons (mVar 3) aNil) ⟨l, M⟩ = some (.ok (.p z) M) := by
  simp [e_bnd, h1, h2]
theorem end_run (l : List (Option DV)) (M : List O) (x z : D) (h1 : gv l 3 = some (.p x)) (h2 : dRepr x = some z) (h3 : gv l 4 = some (.p z)) (h4 : eqD z z = some true) :
    mAnd (mBin dEq (mCB (g1 dRepr) (aCons (mVar 3) aNil)) (mVar 4)) (mBin dEq (mC k_RIGHTS) (disp .lst (aCons (mC (.str (PySem.Str.ofString "read"))) (aCons (mC (.str (PySem.Str.ofString "write"))) (aCons (mC (.str (PySem.Str.ofString "own"))) aNil))))) ⟨l, M⟩ = some (.ok (.p (.bl true)) M) := by
  have e := rights_eq
  generalize k_RIGHTS = kk at *
  generalize PySem.Str.ofString "read" = a at *
  generalize PySem.Str.ofString "write" = b at *
  generalize PySem.Str.ofString "own" = c at *
  simp [e_bnd, h1, h2, h3, h4, e]
theorem law_ok (Ps : List Addr) (ns : List Int) (hp : Ps.length = lamNms.length) (hl : ns.length ≤ 63) (hb : ∀ z ∈ ns, Builtin.Int.intBits z ≤ 1048576) : ∃ s, b_law Ps ⟨slotsOf 16 ([D.scr (ns.map .int)].map .p), tbls Ps lamNms⟩ = some (.rt (.p (.bl true)), s) := by
  obtain ⟨P, rfl⟩ : ∃ P, Ps = [P] := by
    match Ps, hp with
    | [P], _ => exact ⟨P, rfl⟩
  have ht : tbls [P] lamNms = [.tbl P (lamq (PySem.Str.ofString "parts_by_rule"))] := rfl
  rw [ht]
  obtain ⟨n, sv, B0, e0, d0⟩ := state_T P (lamq (PySem.Str.ofString "parts_by_rule")) ns hl
  have hw : wpS (b_law [P] ⟨slotsOf 16 ([D.scr (ns.map .int)].map .p), [.tbl P (lamq (PySem.Str.ofString "parts_by_rule"))]⟩) (fun f s => f = .rt (.p (.bl true))) := by
    have hs : slotsOf 16 ([D.scr (ns.map .int)].map .p) = [some (.p (.scr (ns.map .int))), none, none, none, none, none, none, none, none, none, none, none, none, none, none, none] := rfl
    rw [hs]
    unfold b_law
    refine w_asgT _ 1 _ _ _ (w_call1 m_l_state 0 _ _ (.p (.scr (ns.map .int))) _ rfl ⟨_, _, e0, ?_⟩)
    unfold b_law_1
    refine w_asgT _ 2 _ _ _ ?_
    have st : wpB (mBin dAdd2 (mC (.int 1)) (mCallB 2 m_l_take (aCons (mVar 1) (aCons (mC (.int 4)) aNil))) ⟨[some (.p (.scr (ns.map .int))), some sv, none, none, none, none, none, none, none, none, none, none, none, none, none, none], B0⟩) (fun d M => ∃ m : Int, d = .p (.int m) ∧ (1 ≤ m ∧ m ≤ 4) ∧ DB (.tbl P (lamq (PySem.Str.ofString "parts_by_rule"))) n sv M) := by
      simp
      refine wp_t0 d0 (by decide) fun r B1 d1 _ b1 => ?_
      have b1 := b1 (by decide)
      simp
      exact ⟨⟨by omega, by omega⟩, d1⟩
    refine st.imp fun d B1 hd => ?_
    obtain ⟨m, rfl, hm, d1⟩ := hd
    unfold b_law_2
    refine w_asgT _ 3 _ _ _ (w_call3 m_l_rules 1 2 (.int 4) _ _ sv (.p (.int m)) _ rfl rfl (wp_rules ⟨by omega, hm.2⟩ d1 fun R B2 d2 hok hR => ?_))
    have hz := (sm_rules hok hR).repr (by decide) (by decide)
    have hzz : eqD (.str (reprD (En.en R))) (.str (reprD (En.en R))) = some true := by rw [e_eqSS]; simp
    generalize (D.str (reprD (En.en R))) = z at hz hzz
    unfold b_law_3
    refine w_asgE _ 4 _ _ _ _ _ (repr_run _ _ (En.en R) z rfl hz) ?_
    show wpS (b_law_4 [P] ⟨LS (some (.p (.scr (ns.map .int)))) sv m (En.en R) (some (.p z)) none none none none none none none none none none none, B2⟩) _
    have lp := w_loopN (g := gN 5) (b := turn [P]) (R := fun _ _ => False) (Inv := fun _ s => ∃ B s5 s6 s7 s8 s9 s10 s11 s12 s13 s14, DB (.tbl P (lamq (PySem.Str.ofString "parts_by_rule"))) n sv B ∧ s = ⟨LS (some (.p (.scr (ns.map .int)))) sv m (En.en R) (some (.p z)) s5 s6 s7 s8 s9 s10 s11 s12 s13 s14 none, B⟩) (DL.intsFrom 0 4) 0 ⟨LS (some (.p (.scr (ns.map .int)))) sv m (En.en R) (some (.p z)) none none none none none none none none none none none, B2⟩
      ⟨B2, none, none, none, none, none, none, none, none, none, none, d2, rfl⟩ (by
      rintro d hd _ _ _ s ⟨B, s5, s6, s7, s8, s9, s10, s11, s12, s13, s14, hB, rfl⟩
      refine ⟨⟨LS (some (.p (.scr (ns.map .int)))) sv m (En.en R) (some (.p z)) (some d) s6 s7 s8 s9 s10 s11 s12 s13 s14 none, B⟩, rfl, ?_⟩
      exact turn_ok hm hok hR hB fun B' t6 t7 t8 t9 t10 t11 t12 t13 t14 hB' => .inl ⟨rfl, B', _, t6, t7, t8, t9, t10, t11, t12, t13, t14, hB', rfl⟩)
    obtain ⟨f, s, e, nn, hs⟩ := lp
    rcases hs with ⟨rfl, B, s5, s6, s7, s8, s9, s10, s11, s12, s13, s14, hB, rfl⟩ | ⟨_, _, hf⟩
    · unfold b_law_4
      refine w_forE _ (gN 5) (turn [P]) _ _ _ _ _ rfl e ?_
      unfold b_law_5
      have er := end_run (LS (some (.p (.scr (ns.map .int)))) sv m (En.en R) (some (.p z)) s5 s6 s7 s8 s9 s10 s11 s12 s13 s14 none) B (En.en R) z rfl hz rfl hzz
      rw [e_sret, e_lift, er]
      exact ⟨_, _, rfl, rfl, rfl⟩
    · exact False.elim hf
  obtain ⟨f, s, e, _, rfl⟩ := hw
  exact ⟨s, e⟩
end Law

open PySem PySem.W PyProof.Rows in
set_option maxRecDepth 100000 in
set_option maxHeartbeats 0 in
theorem PySem.Challenge.cw_labelgrid_k30_rights_on_ranges_holds : PySem.Challenge.rw_labelgrid_k30_rights_on_ranges.Holds := by
  w_on; o_law; k_head; (case hw => w_witness2)
  k_fill
  refine DL.walk_dlT (l := PySem.Challenge.rw_labelgrid_k30_rights_on_ranges) (k := 6) (x := "law") (qual := "law") (st := Law.s_law) (N := Law.n_law) (m := Law.b_law) (nms := Law.lamNms) rfl rfl ⟨rfl, by decide, by decide⟩ (fun w h Y => PySem.W.km_in_of Y) Law.sc_law ?F Law.law_ok
  case F =>
    intro w mg fa h Y KX G hmg
    have hT := PySem.W.km_tabs_of Y
    refine' Law.all_mk KX G hmg ?a0 ?l0 ?c0 ?k0 ?a1 ?l1 ?c1 ?k1 ?a2 ?l2 ?c2 ?k2 ?a3 ?l3 ?c3 ?k3 ?a4 ?l4 ?c4 ?k4 ?a5 ?l5 ?c5 ?k5 ?a6 ?l6 ?c6 ?k6 ?a7 ?l7 ?c7 ?k7 ?a8 ?l8 ?c8 ?k8 ?a9 ?l9 ?c9 ?k9 ?a10 ?l10 ?c10 ?k10 ?a11 ?l11 ?c11 ?k11 ?a12 ?l12 ?c12 ?k12 ?a13 ?l13 ?c13 ?k13 ?a14 ?l14 ?c14 ?k14 ?a15 ?l15 ?c15 ?k15 ?a16 ?l16 ?c16 ?k16 ?a17 ?l17 ?c17 ?k17 ?a18 ?l18 ?c18 ?k18 ?a19 ?l19 ?c19 ?k19 ?a20 ?l20 ?c20 ?k20 ?a21 ?l21 ?c21 ?k21 ?a22 ?l22 ?c22 ?k22 ?a23 ?l23 ?c23 ?k23 ?a24 ?l24 ?c24 ?k24 ?a25 ?l25 ?c25 ?k25 ?a26 ?l26 ?c26 ?k26 ?a27 ?l27 ?c27 ?k27 ?a28 ?l28 ?c28 ?k28 ?a29 ?l29 ?c29 ?k29 ?a30 ?l30 ?c30 ?k30 ?g_RIGHTS ?l_RIGHTS ?g_COLUMNS ?z_abs ?z_enumerate ?z_int ?z_len ?z_list ?z_max ?z_min ?z_range ?z_repr ?z_reversed ?z_sorted ?h28 ?u28 ?t28
    (case a0 => k_is)
    (case l0 => k_is)
    (case c0 => k_is)
    (case k0 => k_is)
    (case a1 => k_is)
    (case l1 => k_is)
    (case c1 => k_is)
    (case k1 => k_is)
    (case a2 => k_is)
    (case l2 => k_is)
    (case c2 => k_is)
    (case k2 => k_is)
    (case a3 => k_is)
    (case l3 => k_is)
    (case c3 => k_is)
    (case k3 => k_is)
    (case a4 => k_is)
    (case l4 => k_is)
    (case c4 => k_is)
    (case k4 => k_is)
    (case a5 => k_is)
    (case l5 => k_is)
    (case c5 => k_is)
    (case k5 => k_is)
    (case a6 => k_is)
    (case l6 => k_is)
    (case c6 => k_is)
    (case k6 => k_is)
    (case a7 => k_is)
    (case l7 => k_is)
    (case c7 => k_is)
    (case k7 => k_is)
    (case a8 => k_is)
    (case l8 => k_is)
    (case c8 => k_is)
    (case k8 => k_is)
    (case a9 => k_is)
    (case l9 => k_is)
    (case c9 => k_is)
    (case k9 => k_is)
    (case a10 => k_is)
    (case l10 => k_is)
    (case c10 => k_is)
    (case k10 => k_is)
    (case a11 => k_is)
    (case l11 => k_is)
    (case c11 => k_is)
    (case k11 => k_is)
    (case a12 => k_is)
    (case l12 => k_is)
    (case c12 => k_is)
    (case k12 => k_is)
    (case a13 => k_is)
    (case l13 => k_is)
    (case c13 => k_is)
    (case k13 => k_is)
    (case a14 => k_is)
    (case l14 => k_is)
    (case c14 => k_is)
    (case k14 => k_is)
    (case a15 => k_is)
    (case l15 => k_is)
    (case c15 => k_is)
    (case k15 => k_is)
    (case a16 => k_is)
    (case l16 => k_is)
    (case c16 => k_is)
    (case k16 => k_is)
    (case a17 => k_is)
    (case l17 => k_is)
    (case c17 => k_is)
    (case k17 => k_is)
    (case a18 => k_is)
    (case l18 => k_is)
    (case c18 => k_is)
    (case k18 => k_is)
    (case a19 => k_is)
    (case l19 => k_is)
    (case c19 => k_is)
    (case k19 => k_is)
    (case a20 => k_is)
    (case l20 => k_is)
    (case c20 => k_is)
    (case k20 => k_is)
    (case a21 => k_is)
    (case l21 => k_is)
    (case c21 => k_is)
    (case k21 => k_is)
    (case a22 => k_is)
    (case l22 => k_is)
    (case c22 => k_is)
    (case k22 => k_is)
    (case a23 => k_is)
    (case l23 => k_is)
    (case c23 => k_is)
    (case k23 => k_is)
    (case a24 => k_is)
    (case l24 => k_is)
    (case c24 => k_is)
    (case k24 => k_is)
    (case a25 => k_is)
    (case l25 => k_is)
    (case c25 => k_is)
    (case k25 => k_is)
    (case a26 => k_is)
    (case l26 => k_is)
    (case c26 => k_is)
    (case k26 => k_is)
    (case a27 => k_is)
    (case l27 => k_is)
    (case c27 => k_is)
    (case k27 => k_is)
    (case a28 => k_is)
    (case l28 => k_is)
    (case c28 => k_is)
    (case k28 => k_is)
    (case a29 => k_is)
    (case l29 => k_is)
    (case c29 => k_is)
    (case k29 => k_is)
    (case a30 => k_is)
    (case l30 => k_is)
    (case c30 => k_is)
    (case k30 => k_is)
    (case g_RIGHTS => k_is)
    (case l_RIGHTS => k_is)
    (case g_COLUMNS => k_is)
    (case z_abs => k_is)
    (case z_enumerate => k_is)
    (case z_int => k_is)
    (case z_len => k_is)
    (case z_list => k_is)
    (case z_max => k_is)
    (case z_min => k_is)
    (case z_range => k_is)
    (case z_repr => k_is)
    (case z_reversed => k_is)
    (case z_sorted => k_is)
    (case h28 => kernel_rfl)
    (case u28 => kernel_rfl)
    (case t28 => exact hT _ (List.contains_iff_mem.mp (by kernel_rfl)))

