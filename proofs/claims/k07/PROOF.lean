import PyProof.Rows.All
import Wide.All
import OpenK.AllK
import Wide.FinOn
import HandS.ForMost
import HandS.ForExc
import HandS.Lambda
import HandS.Nested
import HandS.EndTab
import HandS.Wide
import HandS.Comp
import HandS.IsInst
import HandS.EndBits
import HandS.Text
import HandS.StrMore
import HandS.FStr
import HandS.Replace
import HandS.Deep
import HandS.RaiseMore
import PyProof.StrOps2
import PyProof.Rows.StrPadFill
import PyProof.StrLawsTight
import PyProof.StrLawsChain
import PyProof.Rows.StrItems
import PyProof.Rows.StrCut
import PyProof.Rows.StrPadWhole
import KE.IntTextLaws
import PyProof.ReprRoads
import PyProof.ReprLen
import PyProof.Rows.StrReprFit
import HandS.Style
import PyProof.Rows.RuleB_bool
import PyProof.Rows.SeqMore
import HandS.Dict
import HandS.More
import KE.SortKeyHeap
import HandS.ExcValue
import HandS.SortKw
import HandS.Sort
import HandS.HeadWalk
import HandS.WideBits
import HandS.RevRange
import HandS.Iter
import HandS.Conv
import KE.SortData
import KE.IntBitsLaws
import KE.DataMinMax
import ObjForm.LawKit
import HandS.CallLocal
import HandS.CallSlots
import HandS.WrittenGet
import HandS.ReplaceLit
import HandS.Exc
import HandS.ExcInit
import HandS.ExcField
import HandS.ExcIs
import HandS.ExcBuiltin
import KE.KExcIs
import KE.KxMul
import KE.KNestM
import PySem.Challenge.RW_labelgrid_k07_parts_calls_and_moves
set_option Elab.async false
set_option linter.all false
set_option autoImplicit false
set_option maxRecDepth 100000
set_option maxHeartbeats 4000000
namespace DL
open PySem L2
/-! data, values with objects of one's own, objects -/
/-- a lambda as it stands in the text; ix tells it apart from the others of its law -/
structure LamS where
  ix : Nat
  nm : Str
  params : Arguments
  body : Expr
  scope : Scope
  fr : List Str
def LamS.nf (L : LamS) (cl : List (Str × Addr)) (c : Addr) : NdefX.NF := ⟨"<lambda>", L.nm, L.params, [], L.scope, cl, c⟩
def LamO (f : Addr) (F : NdefX.NF) (body : Expr) : HO := .ext fun h => ∃ (od : Option Addr) (sl : Array (Option Value)) (pm ctv : Value), h.get? f = some (⟨.type "function", od, .func (PySem.W.kla_fn F.name F.qual F.params body F.scope F.cl pm (.ref F.c) ctv), sl⟩ : Obj)
def cellO (o : Obj) : HO := .frz o (.own 0)
/-- a closure stands at a: its captured cells are still, and hold vs -/
structure CloAt (Z : Hp) (L : LamS) (a c : Addr) (cl : List (Str × Addr)) (vs : List V) : Prop where
  fn : Z a = some (LamO a (L.nf cl c) L.body)
  code : Z c = some (LamX.CodeO c L.nm)
  all : ∀ (y : Str) (b : Addr), cl.lookup y = some b → ∃ o v, Z b = some (cellO o) ∧ o.data = .cell v
  inj : ∀ (x y : Str) (b : Addr), cl.lookup x = some b → cl.lookup y = some b → x = y
  len : vs.length = L.fr.length
  has : ∀ (i : Nat) (y : Str), L.fr[i]? = some y → ∃ b o v u, cl.lookup y = some b ∧ Z b = some (cellO o) ∧ o.data = .cell (some u) ∧ vs[i]? = some v ∧ RelV v u
theorem CloAt.mono {Z Z' : Hp} {L : LamS} {a c : Addr} {cl : List (Str × Addr)} {vs : List V} (h : CloAt Z L a c cl vs) (e : Same Z Z') : CloAt Z' L a c cl vs :=
  ⟨e _ _ h.fn, e _ _ h.code, fun y b q => (h.all y b q).imp fun o ⟨v, h1, h2⟩ => ⟨v, e _ _ h1, h2⟩, h.inj, h.len, fun i y q => by
    obtain ⟨b, o, v, u, h1, h2, h3, h4, h5⟩ := h.has i y q
    exact ⟨b, o, v, u, h1, e _ _ h2, h3, h4, h5⟩⟩
inductive D where
  | non | bl (b : Bool) | int (i : Int) | str (s : Str)
  | tup (xs : List D) | ktup (xs : List D) | lst (xs : List D) | klst (xs : List D) | dK (kvs : List (Key × D)) | dT (kvs : List (List Key × D)) | fn (a : Addr) | clo (L : LamS) (xs : List D) | scr (xs : List D) | ty (n : String) | rng (lo hi : Int)
inductive DV where
  | p (d : D) | o (n : Nat)
inductive O where
  | lst (xs : List DV) | dK (kvs : List (Key × DV)) | dT (kvs : List (List Key × DV)) | ins (C : Addr) (fs : List (Str × DV)) | tbl (P : Addr) (q : Str) | gone
inductive Rs (α : Type) where
  | ok (v : α) (M : List O) | ex (c : Addr) (fs : List (Str × D)) (M : List O)
structure S where
  l : List (Option DV)
  m : List O
mutual
inductive Rep (K : PySem.W.Frag) (Z : Hp) : V → D → Prop
  | non : Rep K Z .non .non
  | bl (b : Bool) : Rep K Z (.bl b) (.bl b)
  | int (i : Int) : Rep K Z (.int i) (.int i)
  | str (x : Str) : Rep K Z (.str x) (.str x)
  | lst {a : Addr} {xs : List V} {ds : List D} : Rd Z a (.lst xs) → RepA K Z xs ds → Rep K Z (.ref a) (.lst ds)
  | tup {a : Addr} {xs : List V} {ds : List D} : Z a = some (.tup xs) → RepA K Z xs ds → Rep K Z (.ref a) (.tup ds)
  | ktup {a : Addr} {xs : List V} {ds : List D} : SqT K Z a xs → RepA K Z xs ds → Rep K Z (.ref a) (.ktup ds)
  | klst {a : Addr} {xs : List V} {ds : List D} : SqL K Z a xs → RepA K Z xs ds → Rep K Z (.ref a) (.klst ds)
  | dK {a : Addr} {ks : List (Key × V)} {ds : List (Key × D)} : Z a = some (.dK ks) → RepK K Z ks ds → Rep K Z (.ref a) (.dK ds)
  | dT {a : Addr} {ks : List (List Key × V)} {ds : List (List Key × D)} : Z a = some (.dT ks) → RepT K Z ks ds → Rep K Z (.ref a) (.dT ds)
  | fn (a : Addr) : Rep K Z (.ref a) (.fn a)
  | clo {a c : Addr} {cl : List (Str × Addr)} {vs : List V} {L : LamS} {ds : List D} : CloAt Z L a c cl vs → RepA K Z vs ds → Rep K Z (.ref a) (.clo L ds)
  | ty (n : String) : Rep K Z (.ty n) (.ty n)
  | rng {a : Addr} {lo hi : Int} : Z a = some (.rng lo hi) → Rep K Z (.ref a) (.rng lo hi)
  | scr {a : Addr} {xs : List V} {ds : List D} : SqL K Z a xs → RepA K Z xs ds → Rep K Z (.ref a) (.scr ds)
inductive RepA (K : PySem.W.Frag) (Z : Hp) : List V → List D → Prop
  | nil : RepA K Z [] []
  | cons {v : V} {vs : List V} {d : D} {ds : List D} : Rep K Z v d → RepA K Z vs ds → RepA K Z (v :: vs) (d :: ds)
inductive RepK (K : PySem.W.Frag) (Z : Hp) : List (Key × V) → List (Key × D) → Prop
  | nil : RepK K Z [] []
  | cons {k : Key} {v : V} {vs : List (Key × V)} {d : D} {ds : List (Key × D)} : Rep K Z v d → RepK K Z vs ds → RepK K Z ((k, v) :: vs) ((k, d) :: ds)
inductive RepT (K : PySem.W.Frag) (Z : Hp) : List (List Key × V) → List (List Key × D) → Prop
  | nil : RepT K Z [] []
  | cons {k : List Key} {v : V} {vs : List (List Key × V)} {d : D} {ds : List (List Key × D)} : Rep K Z v d → RepT K Z vs ds → RepT K Z ((k, v) :: vs) ((k, d) :: ds)
end
theorem same_l {K : PySem.W.Frag} {H H' : Hp} {a : Addr} {xs : List V} (e : Same H H') (h : SqL K H a xs) : SqL K H' a xs := e.seq h
theorem same_rd {H H' : Hp} {a : Addr} {u : HO} (e : Same H H') (h : Rd H a u) : Rd H' a u := by
  rcases h with h | ⟨o, h⟩
  · exact .inl (e a _ h)
  · exact .inr ⟨o, e a _ h⟩
theorem sqt {K : PySem.W.Frag} {H H' : Hp} {a : Addr} {xs : List V} (e : Same H H') (h : H a = some (.tup xs)) : SqT K H' a xs := .inl (.inl (e a _ h))
theorem same_t {K : PySem.W.Frag} {H H' : Hp} {a : Addr} {xs : List V} (e : Same H H') (h : SqT K H a xs) : SqT K H' a xs := by
  rcases h with (h | ⟨o, h⟩) | h
  · exact .inl (.inl (e a _ h))
  · exact .inl (.inr ⟨o, e a _ h⟩)
  · exact .inr h
section
variable {K : PySem.W.Frag} {Z Z' H H' : Hp}
mutual
theorem Rep.mono (e : Same Z Z') : ∀ {v : V} {d : D}, Rep K Z v d → Rep K Z' v d
  | _, _, .non => .non
  | _, _, .bl b => .bl b
  | _, _, .int i => .int i
  | _, _, .str x => .str x
  | _, _, .lst h r => .lst (same_rd e h) (RepA.mono e r)
  | _, _, .tup h r => .tup (e _ _ h) (RepA.mono e r)
  | _, _, .ktup h r => .ktup (same_t e h) (RepA.mono e r)
  | _, _, .klst h r => .klst (same_l e h) (RepA.mono e r)
  | _, _, .dK h r => .dK (e _ _ h) (RepK.mono e r)
  | _, _, .dT h r => .dT (e _ _ h) (RepT.mono e r)
  | _, _, .fn a => .fn a
  | _, _, .clo h r => .clo (h.mono e) (RepA.mono e r)
  | _, _, .ty n => .ty n
  | _, _, .rng h => .rng (e _ _ h)
  | _, _, .scr h r => .scr (same_l e h) (RepA.mono e r)
theorem RepA.mono (e : Same Z Z') : ∀ {v : List V} {d : List D}, RepA K Z v d → RepA K Z' v d
  | _, _, .nil => .nil
  | _, _, .cons h r => .cons (Rep.mono e h) (RepA.mono e r)
theorem RepK.mono (e : Same Z Z') : ∀ {v : List (Key × V)} {d : List (Key × D)}, RepK K Z v d → RepK K Z' v d
  | _, _, .nil => .nil
  | _, _, .cons h r => .cons (Rep.mono e h) (RepK.mono e r)
theorem RepT.mono (e : Same Z Z') : ∀ {v : List (List Key × V)} {d : List (List Key × D)}, RepT K Z v d → RepT K Z' v d
  | _, _, .nil => .nil
  | _, _, .cons h r => .cons (Rep.mono e h) (RepT.mono e r)
end
theorem RepA.length : ∀ {v : List V} {d : List D}, RepA K Z v d → v.length = d.length
  | _, _, .nil => rfl
  | _, _, .cons _ r => by rw [List.length_cons, List.length_cons, RepA.length r]
theorem RepA.get : ∀ {v : List V} {d : List D} {i : Nat} {x : D}, RepA K Z v d → d[i]? = some x → ∃ u, v[i]? = some u ∧ Rep K Z u x
  | _, _, _, _, .nil, e => by simp at e
  | _, _, 0, _, .cons h _, e => by simp at e; subst e; exact ⟨_, rfl, h⟩
  | _, _, i + 1, x, .cons _ r, e => by
    obtain ⟨u, h1, h2⟩ := RepA.get (i := i) (x := x) r (by simpa using e)
    exact ⟨u, by simpa using h1, h2⟩
theorem RepA.get' : ∀ {v : List V} {d : List D} {i : Nat} {u : V}, RepA K Z v d → v[i]? = some u → ∃ x, d[i]? = some x ∧ Rep K Z u x
  | _, _, _, _, .nil, e => by simp at e
  | _, _, 0, _, .cons h _, e => by simp at e; subst e; exact ⟨_, rfl, h⟩
  | _, _, i + 1, x, .cons _ r, e => by
    obtain ⟨u, h1, h2⟩ := RepA.get' (i := i) (u := x) r (by simpa using e)
    exact ⟨u, by simpa using h1, h2⟩
theorem RepA.append : ∀ {v w : List V} {d f : List D}, RepA K Z v d → RepA K Z w f → RepA K Z (v ++ w) (d ++ f)
  | _, _, _, _, .nil, s => s
  | _, _, _, _, .cons h r, s => .cons h (RepA.append r s)
theorem RepA.take : ∀ {v : List V} {d : List D} (n : Nat), RepA K Z v d → RepA K Z (v.take n) (d.take n)
  | _, _, 0, _ => .nil
  | _, _, _ + 1, .nil => .nil
  | _, _, n + 1, .cons h r => .cons h (RepA.take n r)
theorem RepA.drop : ∀ {v : List V} {d : List D} (n : Nat), RepA K Z v d → RepA K Z (v.drop n) (d.drop n)
  | _, _, 0, h => h
  | _, _, _ + 1, .nil => .nil
  | _, _, n + 1, .cons _ r => RepA.drop n r
/-! values with objects of one's own -/
def RepV (K : PySem.W.Frag) (Z : Hp) (I : List Addr) (v : V) : DV → Prop
  | .p d => Rep K Z v d
  | .o n => ∃ a, I[n]? = some a ∧ v = .ref a
abbrev RepVs (K : PySem.W.Frag) (Z : Hp) (I : List Addr) : List V → List DV → Prop := Paired (RepV K Z I)
theorem paired_len {α β : Type} {F : α → β → Prop} : ∀ {xs : List α} {ys : List β}, Paired F xs ys → xs.length = ys.length
  | _, _, .nil => rfl
  | _, _, .cons _ r => by rw [List.length_cons, List.length_cons, paired_len r]
theorem paired_get {α β : Type} {F : α → β → Prop} : ∀ {xs : List α} {ys : List β} {i : Nat} {y : β}, Paired F xs ys → ys[i]? = some y → ∃ x, xs[i]? = some x ∧ F x y
  | _, _, _, _, .nil, e => by simp at e
  | _, _, 0, _, .cons h _, e => by simp at e; subst e; exact ⟨_, rfl, h⟩
  | _, _, i + 1, x, .cons _ r, e => by
    obtain ⟨u, h1, h2⟩ := paired_get (i := i) (y := x) r (by simpa using e)
    exact ⟨u, by simpa using h1, h2⟩
theorem paired_set {α β : Type} {F : α → β → Prop} {x : α} {y : β} (h : F x y) : ∀ {xs : List α} {ys : List β} (i : Nat), Paired F xs ys → Paired F (xs.set i x) (ys.set i y)
  | _, _, _, .nil => .nil
  | _, _, 0, .cons _ r => .cons h r
  | _, _, i + 1, .cons q r => .cons q (paired_set h i r)
theorem paired_app {α β : Type} {F : α → β → Prop} : ∀ {xs zs : List α} {ys ws : List β}, Paired F xs ys → Paired F zs ws → Paired F (xs ++ zs) (ys ++ ws)
  | _, _, _, _, .nil, s => s
  | _, _, _, _, .cons h r, s => .cons h (paired_app r s)
theorem paired_imp {α β : Type} {F G : α → β → Prop} (k : ∀ a b, F a b → G a b) : ∀ {xs : List α} {ys : List β}, Paired F xs ys → Paired G xs ys
  | _, _, .nil => .nil
  | _, _, .cons h r => .cons (k _ _ h) (paired_imp k r)
def FRel (K : PySem.W.Frag) (Z : Hp) (I : List Addr) {κ : Type} (p : κ × V) (q : κ × DV) : Prop := p.1 = q.1 ∧ RepV K Z I p.2 q.2
def RepO (K : PySem.W.Frag) (Z : Hp) (I : List Addr) (H : Hp) (a : Addr) : O → Prop
  | .lst ds => ∃ xs, H a = some (.lst xs) ∧ RepVs K Z I xs ds
  | .dK ds => ∃ ks, H a = some (.dK ks) ∧ Paired (FRel K Z I) ks ds
  | .dT ds => ∃ ks, H a = some (.dT ks) ∧ Paired (FRel K Z I) ks ds
  | .ins C fs => ∃ dx vs, H a = some (.ins C dx vs) ∧ Paired (FRel K Z I) vs fs
  | .tbl P q => a = P ∧ ∃ ps : Array Value, H a = some (.tbl ps) ∧ TriplesOk ps.toList ∧ ∀ (pos : Pos) (cv : Value), codeAmong pos ps.toList = some cv → ∃ c, cv = .ref c ∧ Z c = some (LamX.CodeO c q)
  | .gone => True
structure Wf (K : PySem.W.Frag) (Z H : Hp) (I : List Addr) (M : List O) : Prop where
  sub : Same Z H
  len : I.length = M.length
  nd : I.Nodup
  tr : ∀ a ∈ I, H a ≠ none
  ob : ∀ (n : Nat) (a : Addr) (o : O), I[n]? = some a → M[n]? = some o → o ≠ .gone → Z a = none ∧ RepO K Z I H a o
structure Ext (Z H : Hp) (I : List Addr) (Z' H' : Hp) (I' : List Addr) : Prop where
  z : Same Z Z'
  i : ∃ t, I' = I ++ t
  fr : ∀ a o, H a = some o → a ∉ I → H' a = some o
  nw : ∀ a ∈ I', a ∈ I ∨ H a = none
  zn : ∀ a, Z' a ≠ none → Z a ≠ none ∨ H a = none ∨ a ∈ I
  tr : ∀ a, H a ≠ none → H' a ≠ none
end
theorem Ext.refl {Z H : Hp} {I : List Addr} : Ext Z H I Z H I := ⟨Same.refl Z, ⟨[], by simp⟩, fun _ _ h _ => h, fun _ h => .inl h, fun _ h => .inl h, fun _ h => h⟩
theorem Ext.mem {Z H Z1 H1 : Hp} {I I1 : List Addr} (a : Ext Z H I Z1 H1 I1) {b : Addr} (h : b ∈ I) : b ∈ I1 := by
  obtain ⟨t, rfl⟩ := a.i
  exact List.mem_append_left _ h
theorem Ext.trans {Z H Z1 H1 Z2 H2 : Hp} {I I1 I2 : List Addr} (a : Ext Z H I Z1 H1 I1) (b : Ext Z1 H1 I1 Z2 H2 I2) : Ext Z H I Z2 H2 I2 where
  z := a.z.trans b.z
  i := by
    obtain ⟨t, e⟩ := a.i
    obtain ⟨u, f⟩ := b.i
    exact ⟨t ++ u, by rw [f, e, List.append_assoc]⟩
  fr := fun c o h n => b.fr c o (a.fr c o h n) fun m => by
    rcases a.nw c m with k | k
    · exact n k
    · rw [h] at k; cases k
  nw := fun c m => by
    rcases b.nw c m with k | k
    · exact a.nw c k
    · right
      cases e : H c with
      | none => rfl
      | some o => exact absurd k (a.tr c (by rw [e]; simp))
  zn := fun c h => by
    rcases b.zn c h with k | k | k
    · exact a.zn c k
    · right; left
      cases e : H c with
      | none => rfl
      | some o => exact absurd k (a.tr c (by rw [e]; simp))
    · rcases a.nw c k with q | q
      · exact .inr (.inr q)
      · exact .inr (.inl q)
  tr := fun c h => b.tr c (a.tr c h)
section
variable {K : PySem.W.Frag} {Z H Z' H' : Hp} {I I' : List Addr}
theorem RepV.mono (e : Ext Z H I Z' H' I') {v : V} : ∀ {d : DV}, RepV K Z I v d → RepV K Z' I' v d
  | .p _, h => Rep.mono e.z h
  | .o n, ⟨a, h, q⟩ => by
    obtain ⟨t, rfl⟩ := e.i
    exact ⟨a, by rw [List.getElem?_append_left (List.getElem?_eq_some_iff.mp h).1]; exact h, q⟩
theorem RepV.mono' (z : Same Z Z') {v : V} : ∀ {d : DV}, RepV K Z I v d → RepV K Z' I v d
  | .p _, h => Rep.mono z h
  | .o _, h => h
/-- a pure step: nothing of one's own is touched -/
structure ExtP (Z H Z' H' : Hp) : Prop where
  z : Same Z Z'
  h : Same H H'
  sub : Same Z' H'
  zn : ∀ a, Z' a ≠ none → Z a ≠ none ∨ H a = none
theorem ExtP.refl (h : Same Z H) : ExtP Z H Z H := ⟨Same.refl _, Same.refl _, h, fun _ h => .inl h⟩
theorem ExtP.trans {Z2 H2 : Hp} (a : ExtP Z H Z' H') (b : ExtP Z' H' Z2 H2) : ExtP Z H Z2 H2 := ⟨a.z.trans b.z, a.h.trans b.h, b.sub, fun c h => by
  rcases b.zn c h with k | k
  · exact a.zn c k
  · exact .inr (a.h.free k)⟩
theorem none_of {Z H : Hp} (s : Same Z H) {p : Addr} (h : H p = none) : Z p = none := s.free h
theorem same_upd {H : Hp} {p : Addr} {o : HO} (h : H p = none) : Same H (upd H p o) := fun a u e => by
  rw [upd_ne (ne_of_none e h)]; exact e
theorem ExtP.new {p : Addr} {o : HO} (s : Same Z H) (h : H p = none) : ExtP Z H (upd Z p o) (upd H p o) := by
  refine ⟨same_upd (none_of s h), same_upd h, fun a u e => ?_, fun a e => ?_⟩
  · by_cases q : a = p
    · subst q; rw [upd_same] at e ⊢; exact e
    · rw [upd_ne q] at e ⊢; exact s a u e
  · by_cases q : a = p
    · subst q; exact .inr h
    · rw [upd_ne q] at e; exact .inl e
theorem RepO.mono {a : Addr} (z : Same Z Z') (ha : H' a = H a) : ∀ {o : O}, RepO K Z I H a o → RepO K Z' I H' a o
  | .lst _, ⟨xs, h, r⟩ => ⟨xs, ha.trans h, paired_imp (fun _ _ q => RepV.mono' z q) r⟩
  | .dK _, ⟨xs, h, r⟩ => ⟨xs, ha.trans h, paired_imp (fun _ _ q => ⟨q.1, RepV.mono' z q.2⟩) r⟩
  | .dT _, ⟨xs, h, r⟩ => ⟨xs, ha.trans h, paired_imp (fun _ _ q => ⟨q.1, RepV.mono' z q.2⟩) r⟩
  | .ins _ _, ⟨dx, xs, h, r⟩ => ⟨dx, xs, ha.trans h, paired_imp (fun _ _ q => ⟨q.1, RepV.mono' z q.2⟩) r⟩
  | .tbl _ _, ⟨e, ps, h, t, r⟩ => ⟨e, ps, ha.trans h, t, fun pos cv hc => by
      obtain ⟨c, h1, h2⟩ := r pos cv hc
      exact ⟨c, h1, z _ _ h2⟩⟩
  | .gone, _ => trivial
theorem same_eq {H H' : Hp} (e : Same H H') {a : Addr} (h : H a ≠ none) : H' a = H a := by
  cases q : H a with
  | none => exact absurd q h
  | some o => exact e a o q
theorem Wf.extP {M : List O} (w : Wf K Z H I M) (e : ExtP Z H Z' H') : Wf K Z' H' I M where
  sub := e.sub
  len := w.len
  nd := w.nd
  tr := fun a h => by rw [same_eq e.h (w.tr a h)]; exact w.tr a h
  ob := fun n a o h1 h2 h3 => by
    obtain ⟨q1, q2⟩ := w.ob n a o h1 h2 h3
    have ha := w.tr a (List.mem_of_getElem? h1)
    refine ⟨?_, q2.mono e.z (same_eq e.h ha)⟩
    cases q : Z' a with
    | none => rfl
    | some u =>
      rcases e.zn a (by rw [q]; simp) with k | k
      · exact absurd q1 k
      · exact absurd k ha
theorem ExtP.ext {M : List O} (w : Wf K Z H I M) (e : ExtP Z H Z' H') : Ext Z H I Z' H' I := ⟨e.z, ⟨[], by simp⟩, fun a o h _ => e.h a o h, fun _ h => .inl h, fun a h => (e.zn a h).imp_right .inl, fun a h => by rw [same_eq e.h h]; exact h⟩
/-! ### slots -/
structure RepS (K : PySem.W.Frag) (Z : Hp) (I : List Addr) (σ : St) (l : List (Option DV)) : Prop where
  len : σ.length = l.length
  at_ : ∀ (i : Nat) (dv : DV), l[i]? = some (some dv) → ∃ v, σ[i]? = some (some v) ∧ RepV K Z I v dv
theorem RepS.mono {σ : St} {l : List (Option DV)} (r : RepS K Z I σ l) (e : Ext Z H I Z' H' I') : RepS K Z' I' σ l := ⟨r.len, fun i dv h => by
  obtain ⟨v, h1, h2⟩ := r.at_ i dv h
  exact ⟨v, h1, h2.mono e⟩⟩
theorem RepS.set {σ : St} {l : List (Option DV)} (r : RepS K Z I σ l) {v : V} {dv : DV} (h : RepV K Z I v dv) (i : Nat) : RepS K Z I (σ.set i (some v)) (l.set i (some dv)) := by
  refine ⟨by simpa using r.len, fun j dw e => ?_⟩
  by_cases q : i = j
  · subst q
    by_cases b : i < l.length
    · rw [List.getElem?_set_self b] at e
      cases e
      exact ⟨v, by rw [List.getElem?_set_self (by rw [r.len]; exact b)], h⟩
    · rw [List.getElem?_eq_none (by simpa using b)] at e; cases e
  · rw [List.getElem?_set_ne q] at e ⊢
    exact r.at_ j dw e
/-! ### what is wanted -/
def ExcAt (K : PySem.W.Frag) (Z H : Hp) (d : Option Addr) (fs : List (Str × D)) : Prop :=
  (d = none ∧ fs = []) ∨ ∃ a vs, d = some a ∧ H a = some (.xd vs) ∧ Paired (fun (p : Str × V) (q : Str × D) => p.1 = q.1 ∧ Rep K Z p.2 q.2) vs fs
def PostX (K : PySem.W.Frag) (W : WX) (Z H : Hp) (I : List Addr) (σ : St) (M' : List O) (c : Addr) (fs : List (Str × D)) : Prop :=
  ∀ d Z' H' I', Wf K Z' H' I' M' → Ext Z H I Z' H' I' → ExcAt K Z' H' d fs → (∀ a, d = some a → H a = none ∧ a ∉ I') → W (.ref c) d σ H'
theorem PostX.mono {W : WX} {σ : St} {M' : List O} {c : Addr} {fs : List (Str × D)} {Z1 H1 : Hp} {I1 : List Addr} (e : Ext Z H I Z1 H1 I1) (h : PostX K W Z H I σ M' c fs) : PostX K W Z1 H1 I1 σ M' c fs :=
  fun d Z' H' I' w x a n => h d Z' H' I' w (e.trans x) a fun b q => ⟨by
    cases z : H b with
    | none => rfl
    | some o => exact absurd (n b q).1 (e.tr b (by rw [z]; simp)), (n b q).2⟩
def PostR {α β : Type} (K : PySem.W.Frag) (W : WX) (R : Hp → List Addr → β → α → Prop) (Z H : Hp) (I : List Addr) (σ : St) (Q : β → Hp → Prop) : Rs α → Prop
  | .ok a M' => ∀ b Z' H' I', Wf K Z' H' I' M' → Ext Z H I Z' H' I' → R Z' I' b a → Q b H'
  | .ex c fs M' => PostX K W Z H I σ M' c fs
theorem PostR.mono {α β : Type} {W : WX} {R : Hp → List Addr → β → α → Prop} {σ : St} {Q : β → Hp → Prop} {Z1 H1 : Hp} {I1 : List Addr} (e : Ext Z H I Z1 H1 I1) : ∀ {r : Rs α}, PostR K W R Z H I σ Q r → PostR K W R Z1 H1 I1 σ Q r
  | .ok _ _, h => fun b Z' H' I' w x q => h b Z' H' I' w (e.trans x) q
  | .ex _ _ _, h => PostX.mono e h
theorem PostR.x {α β : Type} {W : WX} {R : Hp → List Addr → β → α → Prop} {σ : St} {Q : β → Hp → Prop} {r : Rs α} (h : PostR K W R Z H I σ Q r) (c : Addr) (fs : List (Str × D)) (M : List O) (e : r = .ex c fs M) : PostX K W Z H I σ M c fs := by
  subst e; exact h
abbrev Mi (α : Type) := S → Option (Rs α)
structure Sound {α β : Type} (K : PySem.W.Frag) (W : WX) (R : Hp → List Addr → β → α → Prop) (t : St → Hp → (β → Hp → Prop) → Prop) (m : Mi α) : Prop where
  ok : ∀ (σ : St) (H : Hp) (s : S) (Z : Hp) (I : List Addr) (r : Rs α) (Q : β → Hp → Prop), Wf K Z H I s.m → RepS K Z I σ s.l → m s = some r → PostR K W R Z H I σ Q r → t σ H Q
def bnd {α γ : Type} (m : Mi α) (k : α → Mi γ) : Mi γ := fun s => match m s with
  | some (.ok v M) => k v ⟨s.l, M⟩
  | some (.ex c f M) => some (.ex c f M)
  | none => none
theorem Sound.bnd {α β γ : Type} {W : WX} {R : Hp → List Addr → β → α → Prop} {t : St → Hp → (β → Hp → Prop) → Prop} {m : Mi α} (h : Sound K W R t m) {σ : St} {s : S} {k : α → Mi γ} {r : Rs γ} {Q : β → Hp → Prop}
    (w : Wf K Z H I s.m) (rs : RepS K Z I σ s.l) (e : DL.bnd m k s = some r) (hx : ∀ c fs M, r = .ex c fs M → PostX K W Z H I σ M c fs)
    (hk : ∀ a b M' Z' H' I', Wf K Z' H' I' M' → RepS K Z' I' σ s.l → Ext Z H I Z' H' I' → R Z' I' b a → k a ⟨s.l, M'⟩ = some r → Q b H') : t σ H Q := by
  unfold DL.bnd at e
  cases q : m s with
  | none => rw [q] at e; cases e
  | some r0 =>
    rw [q] at e
    cases r0 with
    | ok v M => exact h.ok σ H s Z I _ Q w rs q fun b Z' H' I' w' x' r' => hk v b M Z' H' I' w' (rs.mono x') x' r' e
    | ex c f M =>
      obtain rfl := Option.some.inj e
      exact h.ok σ H s Z I _ Q w rs q (hx c f M rfl)
abbrev EM := Mi DV
abbrev AM := Mi (List DV)
structure DE (K : PySem.W.Frag) (X : Cx) (W : WX) (e : Expr) (t : TE) (m : EM) : Prop where
  k : X.K = K
  pe : PE X e t
  so : Sound K W (RepV K) t m
def RepB (_ : Hp) (_ : List Addr) (b : Bool) (d : DV) : Prop := d = .p (.bl b)
structure DT (K : PySem.W.Frag) (X : Cx) (W : WX) (e : Expr) (t : TT) (m : EM) : Prop where
  k : X.K = K
  pt : PT X e t
  so : Sound K W RepB t m
structure DW (K : PySem.W.Frag) (X : Cx) (W : WX) (e : Expr) (t : TT) (m : EM) : Prop where
  k : X.K = K
  pw : PW X e t
  so : Sound K W RepB t m
structure DA (K : PySem.W.Frag) (X : Cx) (W : WX) (es : List Expr) (t : TA) (m : AM) : Prop where
  k : X.K = K
  pa : PA X es t
  so : Sound K W (RepVs K) t m
/-- statements -/
inductive Fl where
  | nx | rt (v : DV) | bk | ct | ex (c : Addr) (fs : List (Str × D))
abbrev SM := S → Option (Fl × S)
def PostS (K : PySem.W.Frag) (W : WX) (Z H : Hp) (I : List Addr) (D : Ends) : Fl × S → Prop
  | (.nx, s') => ∀ σ' Z' H' I', Wf K Z' H' I' s'.m → RepS K Z' I' σ' s'.l → Ext Z H I Z' H' I' → D.nx σ' H'
  | (.rt dv, s') => ∀ v Z' H' I', Wf K Z' H' I' s'.m → Ext Z H I Z' H' I' → RepV K Z' I' v dv → D.rt v H'
  | (.bk, s') => ∀ σ' Z' H' I', Wf K Z' H' I' s'.m → RepS K Z' I' σ' s'.l → Ext Z H I Z' H' I' → D.bk σ' H'
  | (.ct, s') => ∀ σ' Z' H' I', Wf K Z' H' I' s'.m → RepS K Z' I' σ' s'.l → Ext Z H I Z' H' I' → D.ct σ' H'
  | (.ex c fs, s') => ∀ σ' d Z' H' I', Wf K Z' H' I' s'.m → RepS K Z' I' σ' s'.l → Ext Z H I Z' H' I' → ExcAt K Z' H' d fs → (∀ a, d = some a → H a = none ∧ a ∉ I') → W (.ref c) d σ' H'
structure SoundS (K : PySem.W.Frag) (W : WX) (t : TS) (m : SM) : Prop where
  ok : ∀ (σ : St) (H : Hp) (s : S) (Z : Hp) (I : List Addr) (r : Fl × S) (D : Ends), Wf K Z H I s.m → RepS K Z I σ s.l → m s = some r → PostS K W Z H I D r → t D σ H
structure DS (K : PySem.W.Frag) (X : Cx) (W : WX) (st : Stmt) (t : TS) (m : SM) : Prop where
  k : X.K = K
  ps : PS X st t
  so : SoundS K W t m
structure DSs (K : PySem.W.Frag) (X : Cx) (W : WX) (st : List Stmt) (t : TS) (m : SM) : Prop where
  k : X.K = K
  ps : PSs X st t
  so : SoundS K W t m
end
end DL
namespace DL
open PySem L2
section
variable {K : PySem.W.Frag} {X : Cx} {W : WX} {e a b c : Expr} {pos : Pos}
/-! ### names, constants -/
def gv (l : List (Option DV)) (i : Nat) : Option DV := match l[i]? with
  | some (some d) => some d
  | _ => none
def mVar (i : Nat) : EM := fun s => match gv s.l i with
  | some d => some (.ok d s.m)
  | none => none
theorem gv_some {l : List (Option DV)} {i : Nat} {d : DV} (h : gv l i = some d) : l[i]? = some (some d) := by
  unfold gv at h
  split at h
  · cases h; assumption
  · cases h
theorem so_var {i : Nat} : Sound K W (RepV K) (tVar i) (mVar i) := ⟨fun σ H s Z I r Q w rs e p => by
  unfold mVar at e
  split at e
  · rename_i d hd
    obtain rfl := Option.some.inj e
    obtain ⟨v, h1, h2⟩ := rs.at_ i d (gv_some hd)
    exact ⟨v, h1, p v Z H I w Ext.refl h2⟩
  · cases e⟩
def mC (d : D) : EM := fun s => some (.ok (.p d) s.m)
theorem so_c {v : V} {d : D} (h : ∀ Z, Rep K Z v d) : Sound K W (RepV K) (tC v) (mC d) := ⟨fun σ H s Z I r Q w rs e p => by
  obtain rfl := Option.some.inj e
  exact p v Z H I w Ext.refl (h Z)⟩
theorem de_var (i : Nat) {x : Str} (k : X.K = K := by rfl) (hN : X.N[i]? = some x := by rfl) (hv : Vis X.env.scope x := by first | exact Or.inl rfl | exact Or.inr (Or.inl rfl) | exact Or.inr (Or.inr rfl)) (hd : (x == ("__debug__" : Str)) = false := by decide)
    (hcd : (x == ("__classdict__" : Str)) = false := by decide) : DE K X W (.Name x pos) (tVar i) (mVar i) := ⟨k, pe_var hN hv hd hcd, so_var⟩
theorem de_int {i : Int} {j} (k : X.K = K := by rfl) : DE K X W (.Constant (.int i) j pos) (tC (.int i)) (mC (.int i)) := ⟨k, pe_int, so_c fun _ => .int i⟩
theorem de_bl {i : Bool} {j} (k : X.K = K := by rfl) : DE K X W (.Constant (.bool i) j pos) (tC (.bl i)) (mC (.bl i)) := ⟨k, pe_bl, so_c fun _ => .bl i⟩
theorem de_non {j} (k : X.K = K := by rfl) : DE K X W (.Constant .none j pos) (tC .non) (mC .non) := ⟨k, pe_non, so_c fun _ => .non⟩
theorem de_str {x : Str} {j} (k : X.K = K := by rfl) : DE K X W (.Constant (.str x) j pos) (tC (.str x)) (mC (.str x)) := ⟨k, pe_str, so_c fun _ => .str x⟩
/-- a constant of the top: its value u, what it is -/
theorem de_glob {x : Str} {v : V} {u : Value} {d : D} (hm : X.mg x = some u) (r : RelV v u) (h : ∀ Z, Rep K Z v d) (k : X.K = K := by rfl) (hg : Gl X x := by rfl) (hd : (x == ("__debug__" : Str)) = false := by decide) :
    DE K X W (.Name x pos) (tC v) (mC d) := ⟨k, pe_glob hg hm r hd, so_c h⟩
/-! ### operations on data -/
def pur {γ : Type} (k : D → Mi γ) : DV → Mi γ
  | .p d, s => k d s
  | .o _, _ => none
/-- the value of an operation: at the heap as it is, or with new objects -/
def PostP (K : PySem.W.Frag) (Z H : Hp) (d : D) (Q : VK) : Prop := ∀ v Z' H', ExtP Z H Z' H' → Rep K Z' v d → Q v H'
def ret (o : Option D) : EM := fun s => match o with
  | some d => some (.ok (.p d) s.m)
  | none => none
theorem PostP.of {Z H : Hp} {I : List Addr} {σ : St} {Q : VK} {d : D} {M : List O} (w : Wf K Z H I M) (p : PostR K W (RepV K) Z H I σ Q (.ok (.p d) M)) : PostP K Z H d Q :=
  fun v Z' H' x r => p v Z' H' I (w.extP x) (x.ext w) r
structure OpD (K : PySem.W.Frag) (X : Cx) (f : Value → Value → Sem Value) (r : R2) (g : D → D → Option D) : Prop where
  op : X.K = K → OpR X f r
  ok : ∀ (x y : V) (d e c : D) (Z H : Hp) (Q : VK), Same Z H → Rep K Z x d → Rep K Z y e → g d e = some c → PostP K Z H c Q → r x y H Q
def mBin (g : D → D → Option D) (m n : EM) : EM := bnd m (pur fun d => bnd n (pur fun e => ret (g d e)))
theorem so_bin {r : R2} {g : D → D → Option D} {ta tb : TE} {m n : EM} (h : ∀ (x y : V) (d e c : D) (Z H : Hp) (Q : VK), Same Z H → Rep K Z x d → Rep K Z y e → g d e = some c → PostP K Z H c Q → r x y H Q)
    (ha : Sound K W (RepV K) ta m) (hb : Sound K W (RepV K) tb n) : Sound K W (RepV K) (tOp r ta tb) (mBin g m n) := ⟨fun σ H s Z I r0 Q w rs e p => by
  refine ha.bnd w rs e (p.x) fun d v M1 Z1 H1 I1 w1 rs1 x1 q1 e1 => ?_
  cases d with
  | o n => cases e1
  | p d =>
  have p1 := p.mono x1
  refine hb.bnd (s := ⟨s.l, M1⟩) w1 rs1 e1 (p1.x) fun d2 v2 M2 Z2 H2 I2 w2 rs2 x2 q2 e2 => ?_
  cases d2 with
  | o n => cases e2
  | p d2 =>
  have p2 := p1.mono x2
  have e3 : ret (g d d2) ⟨s.l, M2⟩ = some r0 := e2
  unfold ret at e3
  cases q : g d d2 with
  | none => rw [q] at e3; cases e3
  | some c =>
    rw [q] at e3
    obtain rfl := Option.some.inj e3
    exact h v v2 d d2 c Z2 H2 Q w2.sub (Rep.mono x2.z q1) q2 q (PostP.of w2 p2)⟩
theorem de_bin {op : Operator} {r : R2} {g : D → D → Option D} {ta tb : TE} {m n : EM} (h : OpD K X (binaryOp op) r g) (ha : DE K X W a ta m) (hb : DE K X W b tb n) : DE K X W (.BinOp a op b pos) (tOp r ta tb) (mBin g m n) :=
  ⟨ha.k, pe_op (h.op ha.k) ha.pe hb.pe, so_bin h.ok ha.so hb.so⟩
theorem de_cmp {op : CmpOp} {r : R2} {g : D → D → Option D} {ta tb : TE} {m n : EM} (h : OpD K X (compareOp op) r g) (ha : DE K X W a ta m) (hb : DE K X W b tb n) (hm : behindInMarks op b = false := by first | exact nomark _ | rfl) : DE K X W (.Compare a [op] [b] pos) (tOp r ta tb) (mBin g m n) :=
  ⟨ha.k, pe_cmpR (h.op ha.k) ha.pe hb.pe hm, so_bin h.ok ha.so hb.so⟩
theorem so_test {t : TE} {m : EM} (h : Sound K W (RepV K) t m) (hb : ∀ s r, m s = some r → ∀ v M, r = .ok v M → ∃ b, v = .p (.bl b)) : Sound K W RepB (tTest t) m := ⟨fun σ H s Z I r Q w rs e p => by
  refine h.ok σ H s Z I r _ w rs e ?_
  cases r with
  | ex c fs M => exact p
  | ok v M =>
    obtain ⟨b, rfl⟩ := hb s _ e v M rfl
    intro v Z' H' I' w' x' r'
    cases r'
    exact ⟨b, rfl, p b Z' H' I' w' x' rfl⟩⟩
/-- a result that is a truth -/
def boolD (g : D → D → Option D) : Prop := ∀ d e c, g d e = some c → ∃ b, c = .bl b
theorem bnd_ok {α γ : Type} {m : Mi α} {k : α → Mi γ} {s : S} {v : γ} {M : List O} (e : bnd m k s = some (.ok v M)) : ∃ a M1, m s = some (.ok a M1) ∧ k a ⟨s.l, M1⟩ = some (.ok v M) := by
  unfold bnd at e
  cases q : m s with
  | none => rw [q] at e; cases e
  | some r0 =>
    rw [q] at e
    cases r0 with
    | ok a M1 => exact ⟨a, M1, rfl, e⟩
    | ex c f M1 => cases e
theorem pur_ok {γ : Type} {k : D → Mi γ} {v : DV} {s : S} {r : Rs γ} (e : pur k v s = some r) : ∃ d, v = .p d ∧ k d s = some r := by
  cases v with
  | p d => exact ⟨d, rfl, e⟩
  | o n => cases e
theorem ret_ok {o : Option D} {s : S} {r : Rs DV} (e : ret o s = some r) : ∃ d, o = some d ∧ r = .ok (.p d) s.m := by
  cases o with
  | none => cases e
  | some d => exact ⟨d, rfl, (Option.some.inj e).symm⟩
theorem mBin_bool {g : D → D → Option D} {m n : EM} (hg : boolD g) (s : S) (r : Rs DV) (e : mBin g m n s = some r) (v : DV) (M : List O) (hr : r = .ok v M) : ∃ b, v = .p (.bl b) := by
  subst hr
  obtain ⟨a, M1, _, e⟩ := bnd_ok e
  obtain ⟨d, _, e⟩ := pur_ok e
  obtain ⟨a2, M2, _, e⟩ := bnd_ok e
  obtain ⟨d2, _, e⟩ := pur_ok e
  obtain ⟨c, q, e⟩ := ret_ok e
  cases e
  obtain ⟨b, rfl⟩ := hg _ _ _ q
  exact ⟨b, rfl⟩
theorem dt_cmp {op : CmpOp} {r : R2} {g : D → D → Option D} {ta tb : TE} {m n : EM} (h : OpD K X (compareOp op) r g) (hg : boolD g) (ha : DE K X W a ta m) (hb : DE K X W b tb n) (hm : behindInMarks op b = false := by first | exact nomark _ | rfl) : DT K X W (.Compare a [op] [b] pos) (tTest (tOp r ta tb)) (mBin g m n) :=
  ⟨ha.k, pt_cmpR (h.op ha.k) ha.pe hb.pe hm, so_test (so_bin h.ok ha.so hb.so) (mBin_bool hg)⟩
/-! the ints -/
def dI (g : Int → Int → Option D) : D → D → Option D
  | .int i, .int j => g i j
  | _, _ => none
theorem ok_rI {C : Int → Int → Prop} {h : Int → Int → V} {g : Int → Int → Option D} (hc : ∀ i j c, g i j = some c → C i j ∧ ∀ Z, Rep K Z (h i j) c) : ∀ (x y : V) (d e c : D) (Z H : Hp) (Q : VK), Same Z H → Rep K Z x d → Rep K Z y e → dI g d e = some c → PostP K Z H c Q → rI C h x y H Q := by
  intro x y d e c Z H Q s hx hy hg p
  unfold dI at hg
  split at hg
  · cases hx; cases hy
    obtain ⟨h1, h2⟩ := hc _ _ _ hg
    exact ⟨_, _, rfl, rfl, h1, p _ Z H (ExtP.refl s) (h2 Z)⟩
  · cases hg
theorem ok_rI0 {h : Int → Int → V} {g : Int → Int → Option D} (hc : ∀ i j c, g i j = some c → ∀ Z, Rep K Z (h i j) c) : ∀ (x y : V) (d e c : D) (Z H : Hp) (Q : VK), Same Z H → Rep K Z x d → Rep K Z y e → dI g d e = some c → PostP K Z H c Q → rI0 h x y H Q := by
  intro x y d e c Z H Q s hx hy hg p
  unfold dI at hg
  split at hg
  · cases hx; cases hy
    exact ⟨_, _, rfl, rfl, p _ Z H (ExtP.refl s) (hc _ _ _ hg Z)⟩
  · cases hg
abbrev dIi (g : Int → Int → Int) : D → D → Option D := dI fun i j => some (.int (g i j))
abbrev dIb (g : Int → Int → Bool) : D → D → Option D := dI fun i j => some (.bl (g i j))
def dAdd : D → D → Option D
  | .int i, .int j => some (.int (i + j))
  | .str x, .str y => if x.length + y.length ≤ 1000000 then some (.str (x ++ y)) else none
  | _, _ => none
theorem size_le {n : Nat} (h : n ≤ 1000000) : n ≤ sizeLine := Nat.le_trans h (by decide)
theorem size_lt {n : Nat} (h : n ≤ 1000000) : n < sizeLine := Nat.lt_of_le_of_lt h (by decide)
theorem od_add : OpD K X (binaryOp .Add) (fun x y H Q => rI0 (fun i j => .int (i + j)) x y H Q ∨ ∃ i j, x = .str i ∧ y = .str j ∧ i.length + j.length ≤ sizeLine ∧ Q (.str (i ++ j)) H) dAdd where
  op := fun _ pins s σ H x y v u Q I rx ry h => by
    rcases h with h | h
    · exact op_add pins s σ H x y v u Q I rx ry h
    · exact op_add_str pins s σ H x y v u Q I rx ry h
  ok := by
    intro x y d e c Z H Q s hx hy hg p
    unfold dAdd at hg
    split at hg
    · cases hx; cases hy; cases hg
      exact .inl ⟨_, _, rfl, rfl, p _ Z H (ExtP.refl s) (.int _)⟩
    · split at hg
      · rename_i hl
        cases hx; cases hy; cases hg
        exact .inr ⟨_, _, rfl, rfl, size_le hl, p _ Z H (ExtP.refl s) (.str _)⟩
      · cases hg
    · cases hg
theorem od_sub : OpD K X (binaryOp .Sub) (rI0 fun i j => .int (i - j)) (dIi fun i j => i - j) := ⟨fun _ => op_sub, ok_rI0 fun i j c h Z => by cases h; exact .int _⟩
def mulOk (i j : Int) : Bool := decide (-(2 ^ 64) < i ∧ i < 2 ^ 64) || decide (-(2 ^ 64) < j ∧ j < 2 ^ 64)
theorem od_mul : OpD K X (binaryOp .Mult) (rI CMul fun i j => .int (i * j)) (dI fun i j => if mulOk i j = true then some (.int (i * j)) else none) := ⟨fun _ => op_mul, ok_rI fun i j c h => by
  split at h
  · rename_i hc
    cases h
    refine ⟨?_, fun _ => .int _⟩
    unfold mulOk at hc
    simp only [Bool.or_eq_true, decide_eq_true_eq] at hc
    exact hc
  · cases h⟩
end
end DL
namespace DL
open PySem L2
section
variable {K : PySem.W.Frag} {X : Cx} {W : WX} {e a b c : Expr} {pos : Pos}
/-! ### more ints -/
theorem od_fdiv : OpD K X (binaryOp .FloorDiv) (rI CDivW fun i j => .int (i / j)) (dI fun i j => if 0 < j ∧ j < 18446744073709551616 then some (.int (i / j)) else none) := ⟨fun _ => op_fdivW, ok_rI fun i j c h => by
  split at h
  · rename_i hc
    cases h
    exact ⟨wide_div hc.1 (b := 64) (by have : (2 : Nat) ^ 64 = 18446744073709551616 := by decide
                                       omega) (by decide) (by decide), fun _ => .int _⟩
  · cases h⟩
theorem od_mod : OpD K X (binaryOp .Mod) (rI (fun _ j => 0 < j) fun i j => .int (i % j)) (dI fun i j => if 0 < j then some (.int (i % j)) else none) := ⟨fun _ => op_mod, ok_rI fun i j c h => by
  split at h
  · rename_i hc; cases h; exact ⟨hc, fun _ => .int _⟩
  · cases h⟩
theorem od_lt : OpD K X (compareOp .Lt) (rI0 fun i j => .bl (decide (i < j))) (dIb fun i j => decide (i < j)) := ⟨fun _ => op_lt, ok_rI0 fun i j c h Z => by cases h; exact .bl _⟩
theorem od_le : OpD K X (compareOp .LtE) (rI0 fun i j => .bl (decide (i ≤ j))) (dIb fun i j => decide (i ≤ j)) := ⟨fun _ => op_le, ok_rI0 fun i j c h Z => by cases h; exact .bl _⟩
theorem od_gt : OpD K X (compareOp .Gt) (rI0 fun i j => .bl (decide (j < i))) (dIb fun i j => decide (j < i)) := ⟨fun _ => op_gt, ok_rI0 fun i j c h Z => by cases h; exact .bl _⟩
theorem od_ge : OpD K X (compareOp .GtE) (rI0 fun i j => .bl (decide (j ≤ i))) (dIb fun i j => decide (j ≤ i)) := ⟨fun _ => op_ge, ok_rI0 fun i j c h Z => by cases h; exact .bl _⟩
theorem bool_dIb {g : Int → Int → Bool} : boolD (dIb g) := fun d e c h => by
  unfold dIb dI at h
  split at h
  · exact ⟨_, (Option.some.inj h).symm⟩
  · cases h
/-! ### one value in -/
def mUn (g : D → Option D) (m : EM) : EM := bnd m (pur fun d => ret (g d))
theorem so_un {r : V → Hp → VK → Prop} {g : D → Option D} {ta : TE} {m : EM} (h : ∀ (x : V) (d c : D) (Z H : Hp) (Q : VK), Same Z H → Rep K Z x d → g d = some c → PostP K Z H c Q → r x H Q)
    (ha : Sound K W (RepV K) ta m) : Sound K W (RepV K) (tUn r ta) (mUn g m) := ⟨fun σ H s Z I r0 Q w rs e p => by
  refine ha.bnd w rs e (p.x) fun d v M1 Z1 H1 I1 w1 rs1 x1 q1 e1 => ?_
  obtain ⟨d, rfl, e1⟩ := pur_ok e1
  obtain ⟨c, q, rfl⟩ := ret_ok e1
  exact h v d c Z1 H1 Q w1.sub q1 q (PostP.of w1 (p.mono x1))⟩
theorem de_neg {ta : TE} {m : EM} (ha : DE K X W a ta m) : DE K X W (.UnaryOp .USub a pos) (tUn (rU fun i => .int (-i)) ta) (mUn (fun d => match d with | .int i => some (.int (-i)) | _ => none) m) :=
  ⟨ha.k, pe_un un_neg ha.pe, so_un (fun x d c Z H Q s hx hg p => by
    split at hg
    · cases hx; cases hg; exact ⟨_, rfl, p _ Z H (ExtP.refl s) (.int _)⟩
    · cases hg) ha.so⟩
/-! ### is None -/
def isN : D → Bool
  | .non => true
  | _ => false
theorem rep_isN {Z : Hp} {x : V} {d : D} (h : Rep K Z x d) : decide (x = .non) = isN d := by
  cases h <;> rfl
def isNV : DV → Bool
  | .p d => isN d
  | .o _ => false
theorem repV_isN {Z : Hp} {I : List Addr} {x : V} {d : DV} (h : RepV K Z I x d) : decide (x = .non) = isNV d := by
  cases d with
  | p d => exact rep_isN h
  | o n => obtain ⟨a, _, rfl⟩ := h; rfl
def mIsN (m : EM) : EM := bnd m fun d s => some (.ok (.p (.bl (isNV d))) s.m)
def mNotN (m : EM) : EM := bnd m fun d s => some (.ok (.p (.bl (!isNV d))) s.m)
theorem so_isN {ta : TE} {m : EM} (ha : Sound K W (RepV K) ta m) : Sound K W (RepV K) (tIsN ta) (mIsN m) := ⟨fun σ H s Z I r0 Q w rs e p => by
  refine ha.bnd w rs e (p.x) fun d v M1 Z1 H1 I1 w1 rs1 x1 q1 e1 => ?_
  obtain rfl := Option.some.inj e1
  rw [repV_isN q1]
  exact p _ Z1 H1 I1 w1 x1 (.bl _)⟩
theorem so_notN {ta : TE} {m : EM} (ha : Sound K W (RepV K) ta m) : Sound K W (RepV K) (tNotN ta) (mNotN m) := ⟨fun σ H s Z I r0 Q w rs e p => by
  refine ha.bnd w rs e (p.x) fun d v M1 Z1 H1 I1 w1 rs1 x1 q1 e1 => ?_
  obtain rfl := Option.some.inj e1
  rw [repV_isN q1]
  exact p _ Z1 H1 I1 w1 x1 (.bl _)⟩
theorem so_B {t : TE} {m : EM} (h : Sound K W (RepV K) t m) (hb : ∀ s r, m s = some r → ∀ v M, r = .ok v M → ∃ b, v = .p (.bl b)) : Sound K W RepB (tB t) m := so_test h hb
theorem mIsN_bool {m : EM} (s : S) (r : Rs DV) (e : mIsN m s = some r) (v : DV) (M : List O) (hr : r = .ok v M) : ∃ b, v = .p (.bl b) := by
  subst hr
  obtain ⟨a, M1, _, e⟩ := bnd_ok e
  cases e; exact ⟨_, rfl⟩
theorem mNotN_bool {m : EM} (s : S) (r : Rs DV) (e : mNotN m s = some r) (v : DV) (M : List O) (hr : r = .ok v M) : ∃ b, v = .p (.bl b) := by
  subst hr
  obtain ⟨a, M1, _, e⟩ := bnd_ok e
  cases e; exact ⟨_, rfl⟩
theorem de_isN {ta : TE} {m : EM} {j} {pos' : Pos} (ha : DE K X W a ta m) : DE K X W (.Compare a [.Is] [.Constant .none j pos'] pos) (tIsN ta) (mIsN m) := ⟨ha.k, pe_cmp (pc_isN ha.pe), so_isN ha.so⟩
theorem de_notN {ta : TE} {m : EM} {j} {pos' : Pos} (ha : DE K X W a ta m) : DE K X W (.Compare a [.IsNot] [.Constant .none j pos'] pos) (tNotN ta) (mNotN m) := ⟨ha.k, pe_cmp (pc_notN ha.pe), so_notN ha.so⟩
theorem dt_isN {ta : TE} {m : EM} {j} {pos' : Pos} (ha : DE K X W a ta m) : DT K X W (.Compare a [.Is] [.Constant .none j pos'] pos) (tB (tIsN ta)) (mIsN m) := ⟨ha.k, pt_cmp (pc_isN ha.pe), so_B (so_isN ha.so) mIsN_bool⟩
theorem dt_notN {ta : TE} {m : EM} {j} {pos' : Pos} (ha : DE K X W a ta m) : DT K X W (.Compare a [.IsNot] [.Constant .none j pos'] pos) (tB (tNotN ta)) (mNotN m) := ⟨ha.k, pt_cmp (pc_notN ha.pe), so_B (so_notN ha.so) mNotN_bool⟩
/-! ### truth -/
def truD : D → Option Bool
  | .non => some false
  | .bl b => some b
  | .int i => some (i != 0)
  | .str y => if y.length ≤ 1000000 then some (!(y.length == 0)) else none
  | .lst xs => some (!xs.isEmpty)
  | .tup xs => some (!xs.isEmpty)
  | .ktup xs => some (!xs.isEmpty)
  | .klst xs => some (!xs.isEmpty)
  | _ => none
def truO : Option O → Option Bool
  | some (.lst xs) => some (!xs.isEmpty)
  | some (.dK xs) => some (!xs.isEmpty)
  | _ => none
def truM (M : List O) : DV → Option Bool
  | .p d => truD d
  | .o n => truO M[n]?
def mTru (m : EM) : EM := bnd m fun d s => match truM s.m d with
  | some b => some (.ok (.p (.bl b)) s.m)
  | none => none
theorem isEmpty_len {α β : Type} {xs : List α} {ys : List β} (h : xs.length = ys.length) : xs.isEmpty = ys.isEmpty := by
  cases xs <;> cases ys <;> first | rfl | cases h
theorem truV_of {Z H : Hp} {I : List Addr} {M : List O} {x : V} {d : DV} {b : Bool} (w : Wf K Z H I M) (h : RepV K Z I x d) (e : truM M d = some b) : TruV K x H b := by
  cases d with
  | o n =>
    obtain ⟨a, ha, rfl⟩ := h
    have e : truO M[n]? = some b := e
    cases q : M[n]? with
    | none => rw [q] at e; cases e
    | some o =>
      rw [q] at e
      cases o with
      | lst xs =>
        obtain ⟨_, ys, h1, h2⟩ := w.ob n a _ ha q (by intro z; cases z)
        cases e
        exact .inl ⟨ys, SqL.of h1, by rw [isEmpty_len (paired_len h2)]⟩
      | dK xs =>
        obtain ⟨_, ys, h1, h2⟩ := w.ob n a _ ha q (by intro z; cases z)
        cases e
        exact .inr (.inr ⟨ys, h1, by rw [isEmpty_len (paired_len h2)]⟩)
      | _ => cases e
  | p d =>
    have h : Rep K Z x d := h
    have e : truD d = some b := e
    cases h with
    | non => cases e; rfl
    | bl k => cases e; rfl
    | int i => cases e; rfl
    | str y =>
      have e : (if y.length ≤ 1000000 then some (!(y.length == 0)) else none) = some b := e
      split at e
      · rename_i hl
        cases e
        refine ⟨size_le hl, ?_⟩
        cases hz : y.length with
        | zero => rfl
        | succ n =>
          have : ¬ ((n : Int) + 1 = 0) := by omega
          simp [this]
      · cases e
    | lst h1 h2 => cases e; exact .inl ⟨_, .inl (same_rd w.sub h1), by rw [isEmpty_len h2.length]⟩
    | tup h1 h2 => cases e; exact .inr (.inl ⟨_, sqt w.sub h1, by rw [isEmpty_len h2.length]⟩)
    | ktup h1 h2 => cases e; exact .inr (.inl ⟨_, same_t w.sub h1, by rw [isEmpty_len h2.length]⟩)
    | klst h1 h2 => cases e; exact .inl ⟨_, same_l w.sub h1, by rw [isEmpty_len h2.length]⟩
    | dK _ _ => cases e
    | dT _ _ => cases e
    | fn _ => cases e
    | clo _ _ => cases e
    | scr _ _ => cases e
    | ty _ => cases e
    | rng _ => cases e
theorem dt_tru {ta : TE} {m : EM} (ha : DE K X W a ta m) (he : ∀ whole, isTrue a X.env whole = (do let v ← whole; standAt a.pos; holding [v] (truthy v)) := by intro _; rfl) : DT K X W a (fun σ H Q => ta σ H fun x H' => ∃ k, TruV K x H' k ∧ Q k H') (mTru m) := by
  refine ⟨ha.k, ?_, ⟨fun σ H s Z I r0 Q w rs e p => ?_⟩⟩
  · rw [← ha.k]; exact pt_truth ha.pe he
  refine ha.so.bnd w rs e (p.x) fun d v M1 Z1 H1 I1 w1 rs1 x1 q1 e1 => ?_
  have e1 : (match truM M1 d with | some b => some (Rs.ok (DV.p (.bl b)) M1) | none => none) = some r0 := e1
  cases q : truM M1 d with
  | none => rw [q] at e1; cases e1
  | some k =>
    rw [q] at e1
    obtain rfl := Option.some.inj e1
    exact ⟨k, truV_of w1 q1 q, p k Z1 H1 I1 w1 x1 rfl⟩
/-! ### and, or, not, if-else -/
def ifM {γ : Type} (n k : Mi γ) : DV → Mi γ
  | .p (.bl true), s => n s
  | .p (.bl false), s => k s
  | _, _ => none
def fls : EM := fun s => some (.ok (.p (.bl false)) s.m)
def tru : EM := fun s => some (.ok (.p (.bl true)) s.m)
def mAnd (m n : EM) : EM := bnd m (ifM n fls)
def mOr (m n : EM) : EM := bnd m (ifM tru n)
def mNot (m : EM) : EM := bnd m (ifM fls tru)
def mIf (c m n : EM) : EM := bnd c (ifM m n)
theorem so_and {t u : TT} {m n : EM} (ha : Sound K W RepB t m) (hb : Sound K W RepB u n) : Sound K W RepB (tAnd t u) (mAnd m n) := ⟨fun σ H s Z I r0 Q w rs e p => by
  refine ha.bnd w rs e (p.x) fun d v M1 Z1 H1 I1 w1 rs1 x1 q1 e1 => ?_
  cases (show d = .p (.bl v) from q1)
  cases v with
  | true => exact hb.ok σ H1 ⟨s.l, M1⟩ Z1 I1 r0 Q w1 rs1 e1 (p.mono x1)
  | false => cases e1; exact p false Z1 H1 I1 w1 x1 rfl⟩
theorem so_or {t u : TT} {m n : EM} (ha : Sound K W RepB t m) (hb : Sound K W RepB u n) : Sound K W RepB (tOr t u) (mOr m n) := ⟨fun σ H s Z I r0 Q w rs e p => by
  refine ha.bnd w rs e (p.x) fun d v M1 Z1 H1 I1 w1 rs1 x1 q1 e1 => ?_
  cases (show d = .p (.bl v) from q1)
  cases v with
  | false => exact hb.ok σ H1 ⟨s.l, M1⟩ Z1 I1 r0 Q w1 rs1 e1 (p.mono x1)
  | true => cases e1; exact p true Z1 H1 I1 w1 x1 rfl⟩
theorem so_not {t : TT} {m : EM} (ha : Sound K W RepB t m) : Sound K W RepB (tNot t) (mNot m) := ⟨fun σ H s Z I r0 Q w rs e p => by
  refine ha.bnd w rs e (p.x) fun d v M1 Z1 H1 I1 w1 rs1 x1 q1 e1 => ?_
  cases (show d = .p (.bl v) from q1)
  cases v with
  | false => cases e1; exact p true Z1 H1 I1 w1 x1 rfl
  | true => cases e1; exact p false Z1 H1 I1 w1 x1 rfl⟩
theorem dw_and1 {t : TT} {m : EM} (ha : DT K X W a t m) : DW K X W (.BoolOp .And [a] pos) t m := ⟨ha.k, pw_and1 ha.pt, ha.so⟩
theorem dw_or1 {t : TT} {m : EM} (ha : DT K X W a t m) : DW K X W (.BoolOp .Or [a] pos) t m := ⟨ha.k, pw_or1 ha.pt, ha.so⟩
theorem dw_and {t u : TT} {m n : EM} {rest : List Expr} (ha : DT K X W a t m) (hb : DW K X W (.BoolOp .And (b :: rest) pos) u n) : DW K X W (.BoolOp .And (a :: b :: rest) pos) (tAnd t u) (mAnd m n) := ⟨ha.k, pw_and ha.pt hb.pw, so_and ha.so hb.so⟩
theorem dw_or {t u : TT} {m n : EM} {rest : List Expr} (ha : DT K X W a t m) (hb : DW K X W (.BoolOp .Or (b :: rest) pos) u n) : DW K X W (.BoolOp .Or (a :: b :: rest) pos) (tOr t u) (mOr m n) := ⟨ha.k, pw_or ha.pt hb.pw, so_or ha.so hb.so⟩
theorem dt_w {t : TT} {m : EM} (h : DW K X W a t m) : DT K X W a t m := ⟨h.k, h.pw.pt, h.so⟩
theorem dt_not {t : TT} {m : EM} (h : DT K X W a t m) : DT K X W (.UnaryOp .Not a pos) (tNot t) (mNot m) := ⟨h.k, pt_not h.pt, so_not h.so⟩
/-- as values -/
theorem so_andV {t u : TE} {m n : EM} (ha : Sound K W (RepV K) t m) (hb : Sound K W (RepV K) u n) : Sound K W (RepV K) (tAndV t u) (mAnd m n) := ⟨fun σ H s Z I r0 Q w rs e p => by
  refine ha.bnd w rs e (p.x) fun d v M1 Z1 H1 I1 w1 rs1 x1 q1 e1 => ?_
  unfold ifM at e1
  split at e1
  · cases q1; exact ⟨true, rfl, by rw [if_pos rfl]; exact hb.ok σ H1 ⟨s.l, M1⟩ Z1 I1 r0 Q w1 rs1 e1 (p.mono x1)⟩
  · cases q1; cases e1; exact ⟨false, rfl, by rw [if_neg Bool.false_ne_true]; exact p _ Z1 H1 I1 w1 x1 (.bl _)⟩
  · cases e1⟩
theorem so_orV {t u : TE} {m n : EM} (ha : Sound K W (RepV K) t m) (hb : Sound K W (RepV K) u n) : Sound K W (RepV K) (tOrV t u) (mOr m n) := ⟨fun σ H s Z I r0 Q w rs e p => by
  refine ha.bnd w rs e (p.x) fun d v M1 Z1 H1 I1 w1 rs1 x1 q1 e1 => ?_
  unfold ifM at e1
  split at e1
  · cases q1; cases e1; exact ⟨true, rfl, by rw [if_pos rfl]; exact p _ Z1 H1 I1 w1 x1 (.bl _)⟩
  · cases q1; exact ⟨false, rfl, by rw [if_neg Bool.false_ne_true]; exact hb.ok σ H1 ⟨s.l, M1⟩ Z1 I1 r0 Q w1 rs1 e1 (p.mono x1)⟩
  · cases e1⟩
theorem so_notV {t : TE} {m : EM} (ha : Sound K W (RepV K) t m) : Sound K W (RepV K) (tNotV t) (mNot m) := ⟨fun σ H s Z I r0 Q w rs e p => by
  refine ha.bnd w rs e (p.x) fun d v M1 Z1 H1 I1 w1 rs1 x1 q1 e1 => ?_
  unfold ifM at e1
  split at e1
  · cases q1; cases e1; exact ⟨true, rfl, p _ Z1 H1 I1 w1 x1 (.bl _)⟩
  · cases q1; cases e1; exact ⟨false, rfl, p _ Z1 H1 I1 w1 x1 (.bl _)⟩
  · cases e1⟩
theorem de_one {op} {t : TE} {m : EM} (ha : DE K X W a t m) : DE K X W (.BoolOp op [a] pos) t m := ⟨ha.k, pe_one ha.pe, ha.so⟩
theorem de_and {t u : TE} {m n : EM} {rest : List Expr} (ha : DE K X W a t m) (hb : DE K X W (.BoolOp .And (b :: rest) pos) u n) : DE K X W (.BoolOp .And (a :: b :: rest) pos) (tAndV t u) (mAnd m n) := ⟨ha.k, pe_and ha.pe hb.pe, so_andV ha.so hb.so⟩
theorem de_or {t u : TE} {m n : EM} {rest : List Expr} (ha : DE K X W a t m) (hb : DE K X W (.BoolOp .Or (b :: rest) pos) u n) : DE K X W (.BoolOp .Or (a :: b :: rest) pos) (tOrV t u) (mOr m n) := ⟨ha.k, pe_or ha.pe hb.pe, so_orV ha.so hb.so⟩
theorem de_not {t : TE} {m : EM} (h : DE K X W a t m) : DE K X W (.UnaryOp .Not a pos) (tNotV t) (mNot m) := ⟨h.k, pe_not h.pe, so_notV h.so⟩
theorem so_ifE {t : TT} {ta tb : TE} {m n k : EM} (hc : Sound K W RepB t m) (ha : Sound K W (RepV K) ta n) (hb : Sound K W (RepV K) tb k) : Sound K W (RepV K) (tIf t ta tb) (mIf m n k) := ⟨fun σ H s Z I r0 Q w rs e p => by
  refine hc.bnd w rs e (p.x) fun d v M1 Z1 H1 I1 w1 rs1 x1 q1 e1 => ?_
  cases (show d = .p (.bl v) from q1)
  cases v with
  | true => exact ha.ok σ H1 ⟨s.l, M1⟩ Z1 I1 r0 Q w1 rs1 e1 (p.mono x1)
  | false => exact hb.ok σ H1 ⟨s.l, M1⟩ Z1 I1 r0 Q w1 rs1 e1 (p.mono x1)⟩
theorem de_ifE {t : TT} {ta tb : TE} {m n k : EM} (hc : DT K X W c t m) (ha : DE K X W a ta n) (hb : DE K X W b tb k) : DE K X W (.IfExp c a b pos) (tIf t ta tb) (mIf m n k) := ⟨hc.k, pe_ifExp hc.pt ha.pe hb.pe, so_ifE hc.so ha.so hb.so⟩
/-- a value that is a truth, as a test -/
def asB (m : EM) : EM := bnd m (ifM tru fls)
theorem dt_val {t : TE} {m : EM} (h : DE K X W a t m) (he : ∀ whole, isTrue a X.env whole = (do let v ← whole; standAt a.pos; holding [v] (truthy v)) := by intro _; rfl) : DT K X W a (tB t) (asB m) := ⟨h.k, pt_val h.pe he, ⟨fun σ H s Z I r0 Q w rs e p => by
  refine h.so.bnd w rs e (p.x) fun d v M1 Z1 H1 I1 w1 rs1 x1 q1 e1 => ?_
  unfold ifM at e1
  split at e1
  · cases q1; cases e1; exact ⟨true, rfl, p true Z1 H1 I1 w1 x1 rfl⟩
  · cases q1; cases e1; exact ⟨false, rfl, p false Z1 H1 I1 w1 x1 rfl⟩
  · cases e1⟩⟩
/-! ### a chain of two comparisons -/
def mChain (g h : D → D → Option D) (m n k : EM) : EM := bnd m (pur fun d => bnd n (pur fun e => bnd (ret (g d e)) (ifM (bnd k (pur fun f => ret (h e f))) fls)))
theorem so_chain {r r' : R2} {g h : D → D → Option D} {ta tb tc : TE} {m n k : EM} (hg : ∀ (x y : V) (d e c : D) (Z H : Hp) (Q : VK), Same Z H → Rep K Z x d → Rep K Z y e → g d e = some c → PostP K Z H c Q → r x y H Q)
    (hh : ∀ (x y : V) (d e c : D) (Z H : Hp) (Q : VK), Same Z H → Rep K Z x d → Rep K Z y e → h d e = some c → PostP K Z H c Q → r' x y H Q)
    (ha : Sound K W (RepV K) ta m) (hb : Sound K W (RepV K) tb n) (hc : Sound K W (RepV K) tc k) : Sound K W (RepV K) (tChain r r' ta tb tc) (mChain g h m n k) := ⟨fun σ H s Z I r0 Q w rs e p => by
  refine ha.bnd w rs e (p.x) fun d v M1 Z1 H1 I1 w1 rs1 x1 q1 e1 => ?_
  obtain ⟨d, rfl, e1⟩ := pur_ok e1
  have p1 := p.mono x1
  refine hb.bnd (s := ⟨s.l, M1⟩) w1 rs1 e1 (p1.x) fun d2 v2 M2 Z2 H2 I2 w2 rs2 x2 q2 e2 => ?_
  obtain ⟨d2, rfl, e2⟩ := pur_ok e2
  have p2 := p1.mono x2
  cases hq : g d d2 with
  | none =>
    have e2 : bnd (ret (g d d2)) (ifM (bnd k (pur fun f => ret (h d2 f))) fls) ⟨s.l, M2⟩ = some r0 := e2
    rw [hq] at e2; cases e2
  | some c =>
    have e2 : bnd (ret (g d d2)) (ifM (bnd k (pur fun f => ret (h d2 f))) fls) ⟨s.l, M2⟩ = some r0 := e2
    rw [hq] at e2
    have e2 : ifM (bnd k (pur fun f => ret (h d2 f))) fls (.p c) ⟨s.l, M2⟩ = some r0 := e2
    refine hg v v2 d d2 c Z2 H2 _ w2.sub (Rep.mono x2.z q1) q2 hq fun v3 Z3 H3 x3 q3 => ?_
    have w3 := w2.extP x3
    have y3 := x3.ext w2
    have p3 := p2.mono y3
    have rs3 := rs2.mono y3
    unfold ifM at e2
    split at e2
    · rename_i hz
      cases hz
      cases q3
      refine ⟨true, rfl, ?_⟩
      rw [if_pos rfl]
      refine hc.bnd (s := ⟨s.l, M2⟩) w3 rs3 e2 (p3.x) fun d4 v4 M4 Z4 H4 I4 w4 rs4 x4 q4 e4 => ?_
      obtain ⟨d4, rfl, e4⟩ := pur_ok e4
      obtain ⟨c, q, rfl⟩ := ret_ok e4
      exact hh v2 v4 d2 d4 c Z4 H4 Q w4.sub (Rep.mono x4.z (Rep.mono x3.z q2)) q4 q (PostP.of w4 (p3.mono x4))
    · rename_i hz
      cases hz
      cases q3
      cases e2
      refine ⟨false, rfl, ?_⟩
      rw [if_neg Bool.false_ne_true]
      exact p3 _ Z3 H3 I2 w3 Ext.refl (.bl _)
    · cases e2⟩
theorem de_chain {op op' : CmpOp} {r r' : R2} {g h : D → D → Option D} {ta tb tc : TE} {m n k : EM} (hg : OpD K X (compareOp op) r g) (hh : OpD K X (compareOp op') r' h) (ha : DE K X W a ta m) (hb : DE K X W b tb n) (hc : DE K X W c tc k)
    (hm : lastMarks [op, op'] [b, c] = false := by with_unfolding_all rfl) : DE K X W (.Compare a [op, op'] [b, c] pos) (tChain r r' ta tb tc) (mChain g h m n k) :=
  ⟨ha.k, pe_chain (hg.op ha.k) (hh.op ha.k) ha.pe hb.pe hc.pe hm, so_chain hg.ok hh.ok ha.so hb.so hc.so⟩
theorem mChain_bool {g h : D → D → Option D} {m n k : EM} (hb : boolD h) (s : S) (r : Rs DV) (e : mChain g h m n k s = some r) (v : DV) (M : List O) (hr : r = .ok v M) : ∃ b, v = .p (.bl b) := by
  subst hr
  obtain ⟨a, M1, _, e⟩ := bnd_ok e
  obtain ⟨d, _, e⟩ := pur_ok e
  obtain ⟨a2, M2, _, e⟩ := bnd_ok e
  obtain ⟨d2, _, e⟩ := pur_ok e
  obtain ⟨a3, M3, _, e⟩ := bnd_ok e
  unfold ifM at e
  split at e
  · obtain ⟨a4, M4, _, e⟩ := bnd_ok e
    obtain ⟨d4, _, e⟩ := pur_ok e
    obtain ⟨c, q, e⟩ := ret_ok e
    cases e
    obtain ⟨b, rfl⟩ := hb _ _ _ q
    exact ⟨b, rfl⟩
  · cases e; exact ⟨_, rfl⟩
  · cases e
theorem dt_chain {op op' : CmpOp} {r r' : R2} {g h : D → D → Option D} {ta tb tc : TE} {m n k : EM} (hg : OpD K X (compareOp op) r g) (hh : OpD K X (compareOp op') r' h) (hbo : boolD h) (ha : DE K X W a ta m) (hb : DE K X W b tb n) (hc : DE K X W c tc k)
    (hm : lastMarks [op, op'] [b, c] = false := by with_unfolding_all rfl) : DT K X W (.Compare a [op, op'] [b, c] pos) (tTest (tChain r r' ta tb tc)) (mChain g h m n k) :=
  ⟨ha.k, pt_chain (hg.op ha.k) (hh.op ha.k) ha.pe hb.pe hc.pe hm, so_test (so_chain hg.ok hh.ok ha.so hb.so hc.so) (mChain_bool hbo)⟩
end
end DL
namespace DL
open PySem L2
section
variable {K : PySem.W.Frag} {Z H Z' H' : Hp} {I I' : List Addr} {M : List O}
/-! ### the store's steps -/
theorem RepO.ext {a : Addr} (x : Ext Z H I Z' H' I') (ha : H' a = H a) : ∀ {o : O}, RepO K Z I H a o → RepO K Z' I' H' a o
  | .lst _, ⟨xs, h, r⟩ => ⟨xs, ha.trans h, paired_imp (fun _ _ q => RepV.mono x q) r⟩
  | .dK _, ⟨xs, h, r⟩ => ⟨xs, ha.trans h, paired_imp (fun _ _ q => ⟨q.1, RepV.mono x q.2⟩) r⟩
  | .dT _, ⟨xs, h, r⟩ => ⟨xs, ha.trans h, paired_imp (fun _ _ q => ⟨q.1, RepV.mono x q.2⟩) r⟩
  | .ins _ _, ⟨dx, xs, h, r⟩ => ⟨dx, xs, ha.trans h, paired_imp (fun _ _ q => ⟨q.1, RepV.mono x q.2⟩) r⟩
  | .tbl _ _, ⟨e, ps, h, t, r⟩ => ⟨e, ps, ha.trans h, t, fun pos cv hc => by
      obtain ⟨c, h1, h2⟩ := r pos cv hc
      exact ⟨c, h1, x.z _ _ h2⟩⟩
  | .gone, _ => trivial
theorem ext_new {p : Addr} {o : HO} (s : Same Z H) (h : H p = none) : Ext Z H I Z (upd H p o) (I ++ [p]) where
  z := Same.refl _
  i := ⟨[p], rfl⟩
  fr := fun a u e _ => by rw [upd_ne (ne_of_none e h)]; exact e
  nw := fun a m => by
    rcases List.mem_append.mp m with k | k
    · exact .inl k
    · rw [List.mem_singleton.mp k]; exact .inr h
  zn := fun a e => .inl e
  tr := fun a e => by
    rw [upd_ne (fun q => e (by rw [q]; exact h))]; exact e
theorem Wf.newO (w : Wf K Z H I M) {p : Addr} {ho : HO} {o : O} (hp : H p = none) (r : RepO K Z (I ++ [p]) (upd H p ho) p o) : Wf K Z (upd H p ho) (I ++ [p]) (M ++ [o]) where
  sub := fun a u e => by rw [upd_ne (ne_of_none (w.sub a u e) hp)]; exact w.sub a u e
  len := by rw [List.length_append, List.length_append, w.len]; rfl
  nd := by
    refine List.nodup_append.mpr ⟨w.nd, by simp, fun a ha b hb => ?_⟩
    rw [List.mem_singleton.mp hb]
    intro q
    exact w.tr a ha (by rw [q]; exact hp)
  tr := fun a m => by
    rcases List.mem_append.mp m with k | k
    · rw [upd_ne (fun q => w.tr a k (by rw [q]; exact hp))]; exact w.tr a k
    · rw [List.mem_singleton.mp k, upd_same]; simp
  ob := fun n a o' h1 h2 h3 => by
    by_cases hn : n < I.length
    · rw [List.getElem?_append_left hn] at h1
      rw [List.getElem?_append_left (by rw [← w.len]; exact hn)] at h2
      obtain ⟨q1, q2⟩ := w.ob n a o' h1 h2 h3
      exact ⟨q1, q2.ext (ext_new w.sub hp) (upd_ne fun q => w.tr a (List.mem_of_getElem? h1) (by rw [q]; exact hp))⟩
    · have e1 : n = I.length := by
        have := (List.getElem?_eq_some_iff.mp h1).1
        rw [List.length_append, List.length_singleton] at this
        omega
      subst e1
      rw [List.getElem?_append_right (Nat.le_refl _), Nat.sub_self] at h1
      rw [List.getElem?_append_right (by rw [w.len]; exact Nat.le_refl _), w.len, Nat.sub_self] at h2
      cases h1
      cases h2
      exact ⟨none_of w.sub hp, r⟩
theorem ext_set {a : Addr} {ho : HO} (ha : a ∈ I) : Ext Z H I Z (upd H a ho) I where
  z := Same.refl _
  i := ⟨[], by simp⟩
  fr := fun b u e n => by rw [upd_ne (fun q => n (by rw [q]; exact ha))]; exact e
  nw := fun _ m => .inl m
  zn := fun _ e => .inl e
  tr := fun b e => by
    by_cases q : b = a
    · rw [q, upd_same]; simp
    · rw [upd_ne q]; exact e
theorem Wf.setO (w : Wf K Z H I M) {n : Nat} {a : Addr} {ho : HO} {o o' : O} (ha : I[n]? = some a) (hm : M[n]? = some o) (hg : o ≠ .gone) (r : RepO K Z I (upd H a ho) a o') : Wf K Z (upd H a ho) I (M.set n o') where
  sub := fun b u e => by
    have q := (w.ob n a o ha hm hg).1
    rw [upd_ne (fun z => by rw [z, q] at e; cases e)]; exact w.sub b u e
  len := by rw [List.length_set]; exact w.len
  nd := w.nd
  tr := fun b m => (ext_set (Z := Z) (I := I) (List.mem_of_getElem? ha)).tr b (w.tr b m)
  ob := fun j b u h1 h2 h3 => by
    by_cases q : n = j
    · subst q
      rw [ha] at h1; cases h1
      rw [List.getElem?_set_self (List.getElem?_eq_some_iff.mp hm).1] at h2
      cases h2
      exact ⟨(w.ob n a o ha hm hg).1, r⟩
    · rw [List.getElem?_set_ne q] at h2
      obtain ⟨q1, q2⟩ := w.ob j b u h1 h2 h3
      refine ⟨q1, q2.ext (ext_set (List.mem_of_getElem? ha)) (upd_ne fun z => ?_)⟩
      obtain ⟨l1, e1⟩ := List.getElem?_eq_some_iff.mp ha
      obtain ⟨l2, e2⟩ := List.getElem?_eq_some_iff.mp h1
      exact q ((List.getElem_inj w.nd).mp (e1.trans (z.symm.trans e2.symm)))
def allP : List DV → Option (List D)
  | [] => some []
  | .p d :: r => (allP r).map (d :: ·)
  | .o _ :: _ => none
theorem allP_rep : ∀ {vs : List V} {ds : List DV} {xs : List D}, RepVs K Z I vs ds → allP ds = some xs → RepA K Z vs xs
  | _, [], _, .nil, e => by cases e; exact .nil
  | _, .p d :: r, _, .cons h t, e => by
    have e : (allP r).map (d :: ·) = some _ := e
    cases q : allP r with
    | none => rw [q] at e; cases e
    | some ys =>
      rw [q] at e; cases e
      exact .cons h (allP_rep t q)
  | _, .o n :: r, _, .cons h t, e => by cases e
theorem allP_map : ∀ {vs : List V} {xs : List D}, RepA K Z vs xs → RepVs K Z I vs (xs.map .p)
  | _, _, .nil => .nil
  | _, _, .cons h t => .cons h (allP_map t)
/-- one's own list is given up: from now on it stays -/
theorem ext_frz {n : Nat} {a : Addr} {ho : HO} (w : Wf K Z H I M) (ha : I[n]? = some a) (hz : Z a = none) (hh : H a = some ho) : Ext Z H I (upd Z a ho) H I where
  z := same_upd hz
  i := ⟨[], by simp⟩
  fr := fun _ _ e _ => e
  nw := fun _ m => .inl m
  zn := fun b e => by
    by_cases q : b = a
    · rw [q]; exact .inr (.inr (List.mem_of_getElem? ha))
    · rw [upd_ne q] at e; exact .inl e
  tr := fun _ e => e
theorem Wf.frz (w : Wf K Z H I M) {n : Nat} {a : Addr} {ho : HO} {o : O} (ha : I[n]? = some a) (hm : M[n]? = some o) (hg : o ≠ .gone) (hh : H a = some ho) : Wf K (upd Z a ho) H I (M.set n .gone) where
  sub := fun b u e => by
    by_cases q : b = a
    · rw [q, upd_same] at e; rw [q, hh]; exact e
    · rw [upd_ne q] at e; exact w.sub b u e
  len := by rw [List.length_set]; exact w.len
  nd := w.nd
  tr := w.tr
  ob := fun j b u h1 h2 h3 => by
    by_cases q : n = j
    · subst q
      rw [List.getElem?_set_self (List.getElem?_eq_some_iff.mp hm).1] at h2
      cases h2
      exact absurd rfl h3
    · rw [List.getElem?_set_ne q] at h2
      obtain ⟨q1, q2⟩ := w.ob j b u h1 h2 h3
      have hz := (w.ob n a o ha hm hg).1
      refine ⟨?_, q2.ext (ext_frz w ha hz hh) rfl⟩
      rw [upd_ne fun z => ?_]
      · exact q1
      obtain ⟨l1, e1⟩ := List.getElem?_eq_some_iff.mp ha
      obtain ⟨l2, e2⟩ := List.getElem?_eq_some_iff.mp h1
      exact q ((List.getElem_inj w.nd).mp (e1.trans (z.symm.trans e2.symm)))
end
section
variable {K : PySem.W.Frag} {X : Cx} {W : WX} {e a b c : Expr} {es : List Expr} {pos : Pos}
/-! ### argument lists, displays -/
def aNil : AM := fun s => some (.ok [] s.m)
def aCons (m : EM) (ms : AM) : AM := bnd m fun d => bnd ms fun ds s => some (.ok (d :: ds) s.m)
theorem so_aNil : Sound K W (RepVs K) tNil aNil := ⟨fun σ H s Z I r Q w rs e p => by
  obtain rfl := Option.some.inj e
  exact p [] Z H I w Ext.refl .nil⟩
theorem so_aCons {ta : TE} {tr : TA} {m : EM} {ms : AM} (ha : Sound K W (RepV K) ta m) (hr : Sound K W (RepVs K) tr ms) : Sound K W (RepVs K) (tCons ta tr) (aCons m ms) := ⟨fun σ H s Z I r0 Q w rs e p => by
  refine ha.bnd w rs e (p.x) fun d v M1 Z1 H1 I1 w1 rs1 x1 q1 e1 => ?_
  have p1 := p.mono x1
  refine hr.bnd (s := ⟨s.l, M1⟩) w1 rs1 e1 (p1.x) fun ds vs M2 Z2 H2 I2 w2 rs2 x2 q2 e2 => ?_
  obtain rfl := Option.some.inj e2
  exact p1 _ Z2 H2 I2 w2 x2 (.cons (q1.mono x2) q2)⟩
theorem da_nil (k : X.K = K := by rfl) : DA K X W [] tNil aNil := ⟨k, pa_nil, so_aNil⟩
theorem da_cons {ta : TE} {tr : TA} {m : EM} {ms : AM} (ha : DE K X W e ta m) (hr : DA K X W es tr ms) (hs : starEach (e :: es) X.env = (false, eval e X.env) :: starEach es X.env := by rfl) : DA K X W (e :: es) (tCons ta tr) (aCons m ms) :=
  ⟨ha.k, pa_cons ha.pe hr.pa hs, so_aCons ha.so hr.so⟩
def disp (g : List D → D) (ms : AM) : EM := bnd ms fun ds s => match allP ds with
  | some xs => if xs.length ≤ 1000000 then some (.ok (.p (g xs)) s.m) else none
  | none => none
theorem so_tup {t : TA} {ms : AM} (h : Sound K W (RepVs K) t ms) : Sound K W (RepV K) (tTup t) (disp .tup ms) := ⟨fun σ H s Z I r0 Q w rs e p => by
  refine h.bnd w rs e (p.x) fun ds vs M1 Z1 H1 I1 w1 rs1 x1 q1 e1 => ?_
  have e1 : (match allP ds with | some xs => if xs.length ≤ 1000000 then some (Rs.ok (DV.p (D.tup xs)) M1) else none | none => none) = some r0 := e1
  cases q : allP ds with
  | none => rw [q] at e1; cases e1
  | some xs =>
    rw [q] at e1
    have e1 : (if xs.length ≤ 1000000 then some (Rs.ok (DV.p (D.tup xs)) M1) else none) = some r0 := e1
    split at e1
    · rename_i hl
      obtain rfl := Option.some.inj e1
      have ra := allP_rep q1 q
      refine ⟨by rw [ra.length]; exact size_le hl, fun l hl => ?_⟩
      have y := ExtP.new (o := .tup vs) w1.sub hl
      exact (p.mono x1) _ _ _ I1 (w1.extP y) (y.ext w1) (.tup upd_same (ra.mono y.z))
    · cases e1⟩
theorem so_lst {t : TA} {ms : AM} (h : Sound K W (RepVs K) t ms) : Sound K W (RepV K) (tLst t) (disp .lst ms) := ⟨fun σ H s Z I r0 Q w rs e p => by
  refine h.bnd w rs e (p.x) fun ds vs M1 Z1 H1 I1 w1 rs1 x1 q1 e1 => ?_
  have e1 : (match allP ds with | some xs => if xs.length ≤ 1000000 then some (Rs.ok (DV.p (D.lst xs)) M1) else none | none => none) = some r0 := e1
  cases q : allP ds with
  | none => rw [q] at e1; cases e1
  | some xs =>
    rw [q] at e1
    have e1 : (if xs.length ≤ 1000000 then some (Rs.ok (DV.p (D.lst xs)) M1) else none) = some r0 := e1
    split at e1
    · rename_i hl
      obtain rfl := Option.some.inj e1
      have ra := allP_rep q1 q
      refine ⟨by rw [ra.length]; exact size_le hl, fun l hl => ?_⟩
      have y := ExtP.new (o := .lst vs) w1.sub hl
      exact (p.mono x1) _ _ _ I1 (w1.extP y) (y.ext w1) (.lst (.inl upd_same) (ra.mono y.z))
    · cases e1⟩
def dispO (ms : AM) : EM := bnd ms fun ds s => if ds.length ≤ 1000000 then some (.ok (.o s.m.length) (s.m ++ [.lst ds])) else none
theorem so_lstO {t : TA} {ms : AM} (h : Sound K W (RepVs K) t ms) : Sound K W (RepV K) (tLst t) (dispO ms) := ⟨fun σ H s Z I r0 Q w rs e p => by
  refine h.bnd w rs e (p.x) fun ds vs M1 Z1 H1 I1 w1 rs1 x1 q1 e1 => ?_
  have e1 : (if ds.length ≤ 1000000 then some (Rs.ok (DV.o M1.length) (M1 ++ [.lst ds])) else none) = some r0 := e1
  split at e1
  · rename_i hl
    obtain rfl := Option.some.inj e1
    refine ⟨by rw [paired_len q1]; exact size_le hl, fun l hp => ?_⟩
    have y := ext_new (I := I1) (o := .lst vs) w1.sub hp
    refine (p.mono x1) _ Z1 _ (I1 ++ [l]) (w1.newO hp ⟨vs, upd_same, paired_imp (fun _ _ q => RepV.mono y q) q1⟩) y ⟨l, ?_, rfl⟩
    rw [← w1.len, List.getElem?_append_right (Nat.le_refl _), Nat.sub_self]
    rfl
  · cases e1⟩
theorem de_tup {t : TA} {ms : AM} {x1} (h : DA K X W es t ms) : DE K X W (.Tuple es x1 pos) (tTup t) (disp .tup ms) := ⟨h.k, pe_tup h.pa, so_tup h.so⟩
theorem de_lst {t : TA} {ms : AM} (h : DA K X W es t ms) : DE K X W (.List es pos) (tLst t) (disp .lst ms) := ⟨h.k, pe_lst h.pa, so_lst h.so⟩
theorem de_lstO {t : TA} {ms : AM} (h : DA K X W es t ms) : DE K X W (.List es pos) (tLst t) (dispO ms) := ⟨h.k, pe_lst h.pa, so_lstO h.so⟩
/-! ### an item -/
def ixD : D → Int → Option D
  | .lst xs, i => atI xs i
  | .tup xs, i => atI xs i
  | .ktup xs, i => atI xs i
  | .klst xs, i => atI xs i
  | .str z, i => if z.length ≤ 1000000 then (atI z.cps.toList i).map fun c => .str ⟨#[c]⟩ else none
  | _, _ => none
def ixO : Option O → Int → Option DV
  | some (.lst xs), i => atI xs i
  | _, _ => none
def ixM (M : List O) : DV → Int → Option DV
  | .p d, i => (ixD d i).map .p
  | .o n, i => ixO M[n]? i
def mIx (m n : EM) : EM := bnd m fun d => bnd n (pur fun i s => match i with
  | .int i => match ixM s.m d i with
    | some c => some (.ok c s.m)
    | none => none
  | _ => none)
theorem atI_get {α : Type} {xs : List α} {i : Int} {x : α} (h : atI xs i = some x) : ∃ j, ixN xs.length i = some j ∧ xs[j]? = some x := by
  unfold atI at h
  cases q : ixN xs.length i with
  | none => rw [q] at h; cases h
  | some j => rw [q] at h; exact ⟨j, rfl, h⟩
theorem atI_rep {Z : Hp} {xs : List V} {ds : List D} {i : Int} {d : D} (r : RepA K Z xs ds) (h : atI ds i = some d) : ∃ v, atI xs i = some v ∧ Rep K Z v d := by
  obtain ⟨j, h1, h2⟩ := atI_get h
  obtain ⟨v, h3, h4⟩ := r.get h2
  exact ⟨v, by unfold atI; rw [r.length, h1]; exact h3, h4⟩
theorem atI_repV {Z : Hp} {I : List Addr} {xs : List V} {ds : List DV} {i : Int} {d : DV} (r : RepVs K Z I xs ds) (h : atI ds i = some d) : ∃ v, atI xs i = some v ∧ RepV K Z I v d := by
  obtain ⟨j, h1, h2⟩ := atI_get h
  obtain ⟨v, h3, h4⟩ := paired_get r h2
  exact ⟨v, by unfold atI; rw [paired_len r, h1]; exact h3, h4⟩
theorem ix_ok {Z H : Hp} {I : List Addr} {M : List O} {x : V} {d c : DV} {i : Int} {Q : VK} (w : Wf K Z H I M) (h : RepV K Z I x d) (e : ixM M d i = some c) (q : ∀ v, RepV K Z I v c → Q v H) : rIx K x (.int i) H Q := by
  cases d with
  | o n =>
    obtain ⟨a, ha, rfl⟩ := h
    have e : ixO M[n]? i = some c := e
    cases z : M[n]? with
    | none => rw [z] at e; cases e
    | some o =>
      rw [z] at e
      cases o with
      | lst xs =>
        obtain ⟨_, ys, h1, h2⟩ := w.ob n a _ ha z (by intro z; cases z)
        obtain ⟨v, h3, h4⟩ := atI_repV h2 e
        exact .inl ⟨_, ys, i, v, rfl, rfl, SqL.of h1, h3, q v h4⟩
      | _ => cases e
  | p d =>
    have h : Rep K Z x d := h
    have e : (ixD d i).map .p = some c := e
    cases z : ixD d i with
    | none => rw [z] at e; cases e
    | some c' =>
    rw [z] at e; cases e
    cases h with
    | lst h1 h2 =>
      obtain ⟨v, h3, h4⟩ := atI_rep h2 (show atI _ i = some c' from z)
      exact .inl ⟨_, _, i, v, rfl, rfl, .inl (same_rd w.sub h1), h3, q v h4⟩
    | tup h1 h2 =>
      obtain ⟨v, h3, h4⟩ := atI_rep h2 (show atI _ i = some c' from z)
      exact .inr (.inl ⟨_, _, i, v, rfl, rfl, sqt w.sub h1, h3, q v h4⟩)
    | ktup h1 h2 =>
      obtain ⟨v, h3, h4⟩ := atI_rep h2 (show atI _ i = some c' from z)
      exact .inr (.inl ⟨_, _, i, v, rfl, rfl, same_t w.sub h1, h3, q v h4⟩)
    | klst h1 h2 =>
      obtain ⟨v, h3, h4⟩ := atI_rep h2 (show atI _ i = some c' from z)
      exact .inl ⟨_, _, i, v, rfl, rfl, same_l w.sub h1, h3, q v h4⟩
    | str y =>
      have z : (if y.length ≤ 1000000 then (atI y.cps.toList i).map fun c => D.str ⟨#[c]⟩ else none) = some c' := z
      split at z
      · rename_i hl
        cases z2 : atI y.cps.toList i with
        | none => rw [z2] at z; cases z
        | some k =>
          rw [z2] at z; cases z
          exact .inr (.inr ⟨y, i, k, rfl, rfl, size_le hl, z2, q _ (.str _)⟩)
      · cases z
    | _ => cases z
theorem so_ix {ta tb : TE} {m n : EM} (ha : Sound K W (RepV K) ta m) (hb : Sound K W (RepV K) tb n) : Sound K W (RepV K) (tOp (rIx K) ta tb) (mIx m n) := ⟨fun σ H s Z I r0 Q w rs e p => by
  refine ha.bnd w rs e (p.x) fun d v M1 Z1 H1 I1 w1 rs1 x1 q1 e1 => ?_
  have p1 := p.mono x1
  refine hb.bnd (s := ⟨s.l, M1⟩) w1 rs1 e1 (p1.x) fun d2 v2 M2 Z2 H2 I2 w2 rs2 x2 q2 e2 => ?_
  obtain ⟨d2, rfl, e2⟩ := pur_ok e2
  have p2 := p1.mono x2
  cases d2 with
  | int i =>
    have e2 : (match ixM M2 d i with | some c => some (Rs.ok c M2) | none => none) = some r0 := e2
    cases q2
    cases z : ixM M2 d i with
    | none => rw [z] at e2; cases e2
    | some c =>
      rw [z] at e2; cases e2
      exact ix_ok w2 (q1.mono x2) z fun v r => p2 v Z2 H2 I2 w2 Ext.refl r
  | _ => cases e2⟩
theorem de_ix {ta tb : TE} {m n : EM} (ha : DE K X W a ta m) (hb : DE K X W b tb n) (hs : PlainIx b := by exact fun _ _ => rfl) : DE K X W (.Subscript a b pos) (tOp (rIx K) ta tb) (mIx m n) := by
  refine ⟨ha.k, ?_, so_ix ha.so hb.so⟩
  have h := pe_ix (X := X) (pos := pos) ix_seq ha.pe hb.pe hs
  rw [ha.k] at h
  exact h
/-! ### built-in calls -/
structure CallD (K : PySem.W.Frag) (X : Cx) (f : Value) (r : List V → Hp → VK → Prop) (g : List O → List DV → Option D) : Prop where
  op : X.K = K → CallR X f r
  ok : ∀ (vs : List V) (ds : List DV) (c : D) (Z H : Hp) (I : List Addr) (M : List O) (Q : VK), Wf K Z H I M → RepVs K Z I vs ds → g M ds = some c → PostP K Z H c Q → r vs H Q
def mCB (g : List O → List DV → Option D) (ms : AM) : EM := bnd ms fun ds s => ret (g s.m ds) s
theorem so_cb {r : List V → Hp → VK → Prop} {g : List O → List DV → Option D} {t : TA} {ms : AM} (h : ∀ (vs : List V) (ds : List DV) (c : D) (Z H : Hp) (I : List Addr) (M : List O) (Q : VK), Wf K Z H I M → RepVs K Z I vs ds → g M ds = some c → PostP K Z H c Q → r vs H Q)
    (ha : Sound K W (RepVs K) t ms) : Sound K W (RepV K) (tCB r t) (mCB g ms) := ⟨fun σ H s Z I r0 Q w rs e p => by
  refine ha.bnd w rs e (p.x) fun ds vs M1 Z1 H1 I1 w1 rs1 x1 q1 e1 => ?_
  obtain ⟨c, q, rfl⟩ := ret_ok e1
  exact h vs ds c Z1 H1 I1 M1 Q w1 q1 q (PostP.of w1 (p.mono x1))⟩
theorem de_callB {id : String} {r : List V → Hp → VK → Prop} {g : List O → List DV → Option D} {t : TA} {ms : AM} {x : Str} {p : Pos} (h : CallD K X (.builtin id) r g) (hm : X.mg x = none) (ha : DA K X W (e :: es) t ms) (hv : bootBuiltins x = some (.builtin id) := by decide +kernel) (hg : Gl X x := by rfl) (hn : x ≠ "__name__" := by decide) (hdb : (x == ("__debug__" : Str)) = false := by decide)
    (he : starEach (e :: es) X.env = (false, eval e X.env) :: starEach es X.env := by rfl) (hpl : (backTo pos (starEach es X.env)).any (·.1) = false := by rfl) : DE K X W (.Call (.Name x p) (e :: es) [] pos) (tCB r t) (mCB g ms) :=
  ⟨ha.k, pe_callB (h.op ha.k) hg hm hv ha.pa hn hdb he hpl, so_cb h.ok ha.so⟩
theorem de_callTy {T : String} {r : List V → Hp → VK → Prop} {g : List O → List DV → Option D} {t : TA} {ms : AM} {x : Str} {p : Pos} (h : CallD K X (.type T) r g) (hm : X.mg x = none) (ha : DA K X W (e :: es) t ms) (hv : bootBuiltins x = some (.type T) := by decide +kernel) (hg : Gl X x := by rfl) (hn : x ≠ "__name__" := by decide) (hdb : (x == ("__debug__" : Str)) = false := by decide)
    (he : starEach (e :: es) X.env = (false, eval e X.env) :: starEach es X.env := by rfl) (hpl : (backTo pos (starEach es X.env)).any (·.1) = false := by rfl) : DE K X W (.Call (.Name x p) (e :: es) [] pos) (tCB r t) (mCB g ms) :=
  ⟨ha.k, pe_callTy (h.op ha.k) hg hm hv ha.pa hn hdb he hpl, so_cb h.ok ha.so⟩
def g1 (g : D → Option D) : List O → List DV → Option D
  | _, [.p d] => g d
  | _, _ => none
theorem g1_ok {r : List V → Hp → VK → Prop} {g : D → Option D} (h : ∀ (x : V) (d c : D) (Z H : Hp) (Q : VK), Same Z H → Rep K Z x d → g d = some c → PostP K Z H c Q → r [x] H Q) :
    ∀ (vs : List V) (ds : List DV) (c : D) (Z H : Hp) (I : List Addr) (M : List O) (Q : VK), Wf K Z H I M → RepVs K Z I vs ds → g1 g M ds = some c → PostP K Z H c Q → r vs H Q := by
  intro vs ds c Z H I M Q w rv hg p
  unfold g1 at hg
  split at hg
  · cases rv with
    | cons h1 h2 =>
      cases h2
      exact h _ _ c Z H Q w.sub h1 hg p
  · cases hg
def dAbs : D → Option D
  | .int i => some (.int (if i < 0 then -i else i))
  | _ => none
theorem cd_abs : CallD K X (.builtin "abs") (fun xs H Q => ∃ i, xs = [.int i] ∧ Q (.int (if i < 0 then -i else i)) H) (g1 dAbs) := ⟨fun _ => call_abs, g1_ok fun x d c Z H Q s hx hg p => by
  unfold dAbs at hg
  split at hg
  · cases hx; cases hg; exact ⟨_, rfl, p _ Z H (ExtP.refl s) (.int _)⟩
  · cases hg⟩
def dInt : D → Option D
  | .int i => some (.int i)
  | .bl b => some (.int (if b then 1 else 0))
  | _ => none
theorem cd_int : CallD K X (.type "int") (fun xs H Q => (∃ i, xs = [.int i] ∧ Q (.int i) H) ∨ ∃ k, xs = [.bl k] ∧ Q (.int (if k then 1 else 0)) H) (g1 dInt) := ⟨fun _ => call_int1, g1_ok fun x d c Z H Q s hx hg p => by
  unfold dInt at hg
  split at hg
  · cases hx; cases hg; exact .inl ⟨_, rfl, p _ Z H (ExtP.refl s) (.int _)⟩
  · cases hx; cases hg; exact .inr ⟨_, rfl, p _ Z H (ExtP.refl s) (.int _)⟩
  · cases hg⟩
def lenD : D → Option Nat
  | .lst xs => some xs.length
  | .tup xs => some xs.length
  | .ktup xs => some xs.length
  | .klst xs => some xs.length
  | .str y => if y.length ≤ 1000000 then some y.length else none
  | _ => none
def lenO : Option O → Option Nat
  | some (.lst xs) => some xs.length
  | _ => none
def lenM (M : List O) : DV → Option Nat
  | .p d => lenD d
  | .o n => lenO M[n]?
def dLen : List O → List DV → Option D
  | M, [d] => Option.map (fun (n : Nat) => D.int (n : Int)) (lenM M d)
  | _, _ => none
theorem cd_len : CallD K X (.builtin "len") (fun xs H Q => ∃ x n, xs = [x] ∧ LenV K x H n ∧ Q (.int n) H) dLen := ⟨fun k => by rw [← k]; exact call_len, fun vs ds c Z H I M Q w rv hg p => by
  unfold dLen at hg
  split at hg
  · rename_i d
    cases rv with
    | cons h1 h2 =>
    cases h2
    cases z : lenM M d with
    | none => rw [z] at hg; cases hg
    | some n =>
      rw [z] at hg; cases hg
      refine ⟨_, n, rfl, ?_, p _ Z H (ExtP.refl w.sub) (.int _)⟩
      cases d with
      | o j =>
        obtain ⟨a, ha, rfl⟩ := h1
        have z : lenO M[j]? = some n := z
        cases y : M[j]? with
        | none => rw [y] at z; cases z
        | some o =>
          rw [y] at z
          cases o with
          | lst xs =>
            obtain ⟨_, ys, g1, g2⟩ := w.ob j a _ ha y (by intro z; cases z)
            cases z
            exact .inl ⟨ys, SqL.of g1, (paired_len g2).symm⟩
          | _ => cases z
      | p d =>
        have h1 : Rep K Z _ d := h1
        have z : lenD d = some n := z
        cases h1 with
        | lst g1 g2 => cases z; exact .inl ⟨_, .inl (same_rd w.sub g1), g2.length.symm⟩
        | tup g1 g2 => cases z; exact .inr ⟨_, sqt w.sub g1, g2.length.symm⟩
        | ktup g1 g2 => cases z; exact .inr ⟨_, same_t w.sub g1, g2.length.symm⟩
        | klst g1 g2 => cases z; exact .inl ⟨_, same_l w.sub g1, g2.length.symm⟩
        | str y =>
          have z : (if y.length ≤ 1000000 then some y.length else none) = some n := z
          split at z
          · rename_i hl
            cases z
            exact ⟨size_le hl, rfl⟩
          · cases z
        | _ => cases z
  · cases hg⟩
end
end DL
namespace DL
open PySem L2
/-! ### defs: by data alone (A), with objects of one's own (B) -/
inductive RD where
  | ok (d : D) | ex (c : Addr) (fs : List (Str × D))
abbrev MA := List D → Option RD
abbrev MB := List DV → Mi DV
def spA (K : PySem.W.Frag) (n : Nat) (f : MA) : Sp := fun vs H Q E => vs.length = n ∧ ∃ Z ds r, Same Z H ∧ RepA K Z vs ds ∧ f ds = some r ∧ (match r with
  | .ok d => PostP K Z H d Q
  | .ex c fs => ∀ d Z' H', ExtP Z H Z' H' → ExcAt K Z' H' d fs → (∀ a, d = some a → H a = none) → E (.ref c) d H')
def spB (K : PySem.W.Frag) (n : Nat) (f : List DV → List O → Option (Rs DV)) : Sp := fun vs H Q E => vs.length = n ∧ ∃ Z I M ds r, Wf K Z H I M ∧ RepVs K Z I vs ds ∧ f ds M = some r ∧ (match r with
  | .ok dv M' => ∀ v Z' H' I', Wf K Z' H' I' M' → Ext Z H I Z' H' I' → RepV K Z' I' v dv → Q v H'
  | .ex c fs M' => ∀ d Z' H' I', Wf K Z' H' I' M' → Ext Z H I Z' H' I' → ExcAt K Z' H' d fs → (∀ a, d = some a → H a = none ∧ a ∉ I') → E (.ref c) d H')
theorem spA_len {K : PySem.W.Frag} {n : Nat} {f : MA} : ∀ vs H Q E, spA K n f vs H Q E → vs.length = n := fun _ _ _ _ h => h.1
theorem spB_len {K : PySem.W.Frag} {n : Nat} {f : List DV → List O → Option (Rs DV)} : ∀ vs H Q E, spB K n f vs H Q E → vs.length = n := fun _ _ _ _ h => h.1
section
variable {K : PySem.W.Frag} {X : Cx} {W : WX} {e a b c : Expr} {es : List Expr} {pos : Pos}
/-! ### calls of defs -/
def mCallA (n : Nat) (f : MA) (ms : AM) : EM := bnd ms fun ds s => if ds.length = n then match allP ds with
  | some xs => match f xs with
    | some (.ok d) => some (.ok (.p d) s.m)
    | some (.ex c fs) => some (.ex c fs s.m)
    | none => none
  | none => none else none
def mCallB (n : Nat) (f : List DV → List O → Option (Rs DV)) (ms : AM) : EM := bnd ms fun ds s => if ds.length = n then f ds s.m else none
theorem so_callA {n : Nat} {f : MA} {t : TA} {ms : AM} (ha : Sound K W (RepVs K) t ms) : Sound K W (RepV K) (tCallS (spA K n f) (fun σ => WE W σ) t) (mCallA n f ms) := ⟨fun σ H s Z I r0 Q w rs e p => by
  refine ha.bnd w rs e (p.x) fun ds vs M1 Z1 H1 I1 w1 rs1 x1 q1 e1 => ?_
  have p1 := p.mono x1
  have e1 : (if ds.length = n then match allP ds with
    | some xs => match f xs with
      | some (.ok d) => some (Rs.ok (DV.p d) M1)
      | some (.ex c fs) => some (Rs.ex c fs M1)
      | none => none
    | none => none else none) = some r0 := e1
  split at e1
  · rename_i hl
    cases z : allP ds with
    | none => rw [z] at e1; cases e1
    | some xs =>
      rw [z] at e1
      have e1 : (match f xs with
        | some (.ok d) => some (Rs.ok (DV.p d) M1)
        | some (.ex c fs) => some (Rs.ex c fs M1)
        | none => none) = some r0 := e1
      have ra := allP_rep q1 z
      cases y : f xs with
      | none => rw [y] at e1; cases e1
      | some r =>
        rw [y] at e1
        refine ⟨by rw [paired_len q1]; exact hl, Z1, xs, r, w1.sub, ra, y, ?_⟩
        cases r with
        | ok d => cases e1; exact PostP.of w1 p1
        | ex c fs =>
          cases e1
          intro d Z2 H2 x2 ea na
          exact p1 d Z2 H2 I1 (w1.extP x2) (x2.ext w1) ea fun b q => ⟨na b q, fun m => w1.tr b m (na b q)⟩
  · cases e1⟩
theorem so_callB {n : Nat} {f : List DV → List O → Option (Rs DV)} {t : TA} {ms : AM} (ha : Sound K W (RepVs K) t ms) : Sound K W (RepV K) (tCallS (spB K n f) (fun σ => WE W σ) t) (mCallB n f ms) := ⟨fun σ H s Z I r0 Q w rs e p => by
  refine ha.bnd w rs e (p.x) fun ds vs M1 Z1 H1 I1 w1 rs1 x1 q1 e1 => ?_
  have p1 := p.mono x1
  have e1 : (if ds.length = n then f ds M1 else none) = some r0 := e1
  split at e1
  · rename_i hl
    refine ⟨by rw [paired_len q1]; exact hl, Z1, I1, M1, ds, r0, w1, q1, e1, ?_⟩
    cases r0 with
    | ok d M' => exact p1
    | ex c fs M' => exact p1
  · cases e1⟩
theorem de_callA {n k : Nat} {f : MA} {fa : Addr} {fd : FuncData} {ps : List Str} {t : TA} {ms : AM} {x : Str} {p : Pos} (F : FnOk X.prog X.w K X.mg X.base (L2.CX X.prog X.w) k fa fd ps (spA K n f)) (hr : Room k X.A) (tk : Takes X W) (hm : X.mg x = some (.ref fa)) (hk : PySem.W.keepIn K (.ref fa) = true) (hb : Binds K fd ps [])
    (ha : DA K X W (e :: es) t ms) (hg : Gl X x := by rfl) (hdb : (x == ("__debug__" : Str)) = false := by decide) (he : starEach (e :: es) X.env = (false, eval e X.env) :: starEach es X.env := by rfl) (hpl : (backTo pos (starEach es X.env)).any (·.1) = false := by rfl) :
    DE K X W (.Call (.Name x p) (e :: es) [] pos) (tCallS (spA K n f) (fun σ => WE W σ) t) (mCallA n f ms) := by
  have k := ha.k
  subst k
  exact ⟨rfl, pe_callS F hr hg hm hk hb (fun σ => passAt tk σ) ha.pa hdb he hpl, so_callA ha.so⟩
theorem de_callB' {n k : Nat} {f : List DV → List O → Option (Rs DV)} {fa : Addr} {fd : FuncData} {ps : List Str} {t : TA} {ms : AM} {x : Str} {p : Pos} (F : FnOk X.prog X.w K X.mg X.base (L2.CX X.prog X.w) k fa fd ps (spB K n f)) (hr : Room k X.A) (tk : Takes X W) (hm : X.mg x = some (.ref fa)) (hk : PySem.W.keepIn K (.ref fa) = true) (hb : Binds K fd ps [])
    (ha : DA K X W (e :: es) t ms) (hg : Gl X x := by rfl) (hdb : (x == ("__debug__" : Str)) = false := by decide) (he : starEach (e :: es) X.env = (false, eval e X.env) :: starEach es X.env := by rfl) (hpl : (backTo pos (starEach es X.env)).any (·.1) = false := by rfl) :
    DE K X W (.Call (.Name x p) (e :: es) [] pos) (tCallS (spB K n f) (fun σ => WE W σ) t) (mCallB n f ms) := by
  have k := ha.k
  subst k
  exact ⟨rfl, pe_callS F hr hg hm hk hb (fun σ => passAt tk σ) ha.pa hdb he hpl, so_callB ha.so⟩
/-! ### one's own list, given up -/
def mFrz (m : EM) : EM := bnd m fun d s => match d with
  | .p d => some (.ok (.p d) s.m)
  | .o n => match s.m[n]? with
    | some (.lst ds) => match allP ds with
      | some xs => some (.ok (.p (.lst xs)) (s.m.set n .gone))
      | none => none
    | _ => none
theorem so_frz {t : TE} {m : EM} (h : Sound K W (RepV K) t m) : Sound K W (RepV K) t (mFrz m) := ⟨fun σ H s Z I r0 Q w rs e p => by
  unfold mFrz bnd at e
  cases z : m s with
  | none => rw [z] at e; cases e
  | some r =>
    rw [z] at e
    refine h.ok σ H s Z I r Q w rs z ?_
    cases r with
    | ex c fs M => cases e; exact p
    | ok d M =>
      cases d with
      | p d => cases e; exact p
      | o n =>
        have e : (match M[n]? with
          | some (.lst ds) => match allP ds with
            | some xs => some (Rs.ok (DV.p (D.lst xs)) (M.set n .gone))
            | none => none
          | _ => none) = some r0 := e
        intro v Z' H' I' w' x' q'
        obtain ⟨a, ha, rfl⟩ := q'
        cases y : M[n]? with
        | none => rw [y] at e; cases e
        | some o =>
          rw [y] at e
          cases o with
          | lst ds =>
            have e : (match allP ds with
              | some xs => some (Rs.ok (DV.p (D.lst xs)) (M.set n .gone))
              | none => none) = some r0 := e
            cases u : allP ds with
            | none => rw [u] at e; cases e
            | some xs =>
              rw [u] at e; cases e
              obtain ⟨hz, ys, h1, h2⟩ := w'.ob n a _ ha y (by intro z; cases z)
              have x2 := ext_frz w' ha hz h1
              exact p _ _ _ I' (w'.frz ha y (by intro z; cases z) h1) (x'.trans x2) (.lst (.inl upd_same) ((allP_rep h2 u).mono x2.z))
          | _ => cases e⟩
theorem de_frz {t : TE} {m : EM} (h : DE K X W e t m) : DE K X W e t (mFrz m) := ⟨h.k, h.pe, so_frz h.so⟩
/-! ### statements -/
def liftS {α : Type} (m : Mi α) (k : α → SM) : SM := fun s => match m s with
  | some (.ok v M) => k v ⟨s.l, M⟩
  | some (.ex c f M) => some (.ex c f, ⟨s.l, M⟩)
  | none => none
theorem PostS.mono {Z H Z1 H1 : Hp} {I I1 : List Addr} {D : Ends} (x : Ext Z H I Z1 H1 I1) : ∀ {r : Fl × S}, PostS K W Z H I D r → PostS K W Z1 H1 I1 D r
  | (.nx, _), p => fun σ' Z' H' I' w r x' => p σ' Z' H' I' w r (x.trans x')
  | (.rt _, _), p => fun v Z' H' I' w x' r => p v Z' H' I' w (x.trans x') r
  | (.bk, _), p => fun σ' Z' H' I' w r x' => p σ' Z' H' I' w r (x.trans x')
  | (.ct, _), p => fun σ' Z' H' I' w r x' => p σ' Z' H' I' w r (x.trans x')
  | (.ex _ _, _), p => fun σ' d Z' H' I' w r x' ea na => p σ' d Z' H' I' w r (x.trans x') ea fun b q => ⟨by
      cases z : H b with
      | none => rfl
      | some o => exact absurd (na b q).1 (x.tr b (by rw [z]; simp)), (na b q).2⟩
theorem Sound.lift {α β : Type} {R : Hp → List Addr → β → α → Prop} {t : St → Hp → (β → Hp → Prop) → Prop} {m : Mi α} (h : Sound K W R t m) {σ : St} {H Z : Hp} {I : List Addr} {s : S} {k : α → SM} {r : Fl × S} {D : Ends} {Q : β → Hp → Prop}
    (w : Wf K Z H I s.m) (rs : RepS K Z I σ s.l) (e : liftS m k s = some r) (p : PostS K W Z H I D r)
    (hk : ∀ a b M' Z' H' I', Wf K Z' H' I' M' → RepS K Z' I' σ s.l → Ext Z H I Z' H' I' → R Z' I' b a → k a ⟨s.l, M'⟩ = some r → PostS K W Z' H' I' D r → Q b H') : t σ H Q := by
  unfold liftS at e
  cases q : m s with
  | none => rw [q] at e; cases e
  | some r0 =>
    rw [q] at e
    cases r0 with
    | ok v M => exact h.ok σ H s Z I _ Q w rs q fun b Z' H' I' w' x' r' => hk v b M Z' H' I' w' (rs.mono x') x' r' e (p.mono x')
    | ex c f M =>
      obtain rfl := Option.some.inj e
      exact h.ok σ H s Z I _ Q w rs q fun d Z' H' I' w' x' ea na => p σ d Z' H' I' w' (rs.mono x') x' ea na
def sNil : SM := fun s => some (.nx, s)
def sSeq (a b : SM) : SM := fun s => match a s with
  | some (.nx, s1) => b s1
  | r => r
theorem so_nil : SoundS K W tNext sNil := ⟨fun σ H s Z I r D w rs e p => by
  cases e; exact p σ Z H I w rs Ext.refl⟩
theorem so_seq {t u : TS} {m n : SM} (ha : SoundS K W t m) (hb : SoundS K W u n) : SoundS K W (tSeq t u) (sSeq m n) := ⟨fun σ H s Z I r D w rs e p => by
  unfold sSeq at e
  show t { D with nx := u D } σ H
  cases q : m s with
  | none => rw [q] at e; cases e
  | some r1 =>
    rw [q] at e
    obtain ⟨f, s1⟩ := r1
    cases f with
    | nx => exact ha.ok σ H s Z I _ _ w rs q fun σ' Z' H' I' w' rs' x' => hb.ok σ' H' s1 Z' I' r D w' rs' e (p.mono x')
    | rt v => cases e; exact ha.ok σ H s Z I _ _ w rs q p
    | bk => cases e; exact ha.ok σ H s Z I _ _ w rs q p
    | ct => cases e; exact ha.ok σ H s Z I _ _ w rs q p
    | ex c fs => cases e; exact ha.ok σ H s Z I _ _ w rs q p⟩
theorem dss_nil (k : X.K = K := by rfl) : DSs K X W [] tNext sNil := ⟨k, pss_nil, so_nil⟩
theorem dss_cons {st : Stmt} {rest : List Stmt} {t u : TS} {m n : SM} (ha : DS K X W st t m) (hb : DSs K X W rest u n) : DSs K X W (st :: rest) (tSeq t u) (sSeq m n) := ⟨ha.k, pss_cons ha.ps hb.ps, so_seq ha.so hb.so⟩
theorem dss_one {st : Stmt} {t : TS} {m : SM} (ha : DS K X W st t m) : DSs K X W [st] t m := ⟨ha.k, pss_one ha.ps, ha.so⟩
theorem ds_pass (k : X.K = K := by rfl) : DS K X W (.Pass pos) tNext sNil := ⟨k, ps_pass, so_nil⟩
def sBrk : SM := fun s => some (.bk, s)
def sCnt : SM := fun s => some (.ct, s)
theorem ds_break (k : X.K = K := by rfl) : DS K X W (.Break pos) tBreak sBrk := ⟨k, ps_break, ⟨fun σ H s Z I r D w rs e p => by
  cases e; exact p σ Z H I w rs Ext.refl⟩⟩
theorem ds_continue (k : X.K = K := by rfl) : DS K X W (.Continue pos) tCont sCnt := ⟨k, ps_continue, ⟨fun σ H s Z I r D w rs e p => by
  cases e; exact p σ Z H I w rs Ext.refl⟩⟩
theorem ds_doc {x : Str} {j} {pos' : Pos} (k : X.K = K := by rfl) : DS K X W (.Expr (.Constant (.str x) j pos) pos') tNext sNil := ⟨k, ps_doc, so_nil⟩
def sExpr (m : EM) : SM := liftS m fun _ s => some (.nx, s)
theorem ds_expr {te : TE} {m : EM} (h : DE K X W e te m) (hs : swapsWith e none pos.line X.env = pure false := by rfl) : DS K X W (.Expr e pos) (tDrop te) (sExpr m) := ⟨h.k, ps_expr h.pe hs, ⟨fun σ H s Z I r D w rs e p => by
  refine h.so.lift w rs e p fun d v M1 Z1 H1 I1 w1 rs1 x1 q1 e1 p1 => ?_
  cases e1; exact p1 σ Z1 H1 I1 w1 rs1 Ext.refl⟩⟩
def sRet (m : EM) : SM := liftS m fun d s => some (.rt d, s)
theorem ds_ret {te : TE} {m : EM} (h : DE K X W e te m) : DS K X W (.Return (some e) pos) (tRet te) (sRet m) := ⟨h.k, ps_ret h.pe, ⟨fun σ H s Z I r D w rs e p => by
  refine h.so.lift w rs e p fun d v M1 Z1 H1 I1 w1 rs1 x1 q1 e1 p1 => ?_
  cases e1; exact p1 v Z1 H1 I1 w1 Ext.refl q1⟩⟩
def sRetN : SM := fun s => some (.rt (.p .non), s)
theorem ds_retN (k : X.K = K := by rfl) : DS K X W (.Return none pos) tRetN sRetN := ⟨k, ps_retN, ⟨fun σ H s Z I r D w rs e p => by
  cases e; exact p .non Z H I w Ext.refl .non⟩⟩
def ifS (n k : SM) : DV → SM
  | .p (.bl true), s => n s
  | .p (.bl false), s => k s
  | _, _ => none
def sIf (c : EM) (m n : SM) : SM := liftS c (ifS m n)
theorem ds_if {x y : List Stmt} {tc : TT} {t u : TS} {k : EM} {m n : SM} (hc : DT K X W c tc k) (ha : DSs K X W x t m) (hb : DSs K X W y u n) : DS K X W (.If c x y pos) (tIfS tc t u) (sIf k m n) := ⟨hc.k, ps_if hc.pt ha.ps hb.ps, ⟨fun σ H s Z I r D w rs e p => by
  refine hc.so.lift w rs e p fun d v M1 Z1 H1 I1 w1 rs1 x1 q1 e1 p1 => ?_
  cases (show d = .p (.bl v) from q1)
  cases v with
  | true => exact ha.so.ok σ H1 ⟨s.l, M1⟩ Z1 I1 r D w1 rs1 e1 p1
  | false => exact hb.so.ok σ H1 ⟨s.l, M1⟩ Z1 I1 r D w1 rs1 e1 p1⟩⟩
/-! ### targets -/
theorem wipe_set {σ : St} {i : Nat} {x : Option V} : ∀ {vs : List Nat}, i ∈ vs → wipe (σ.set i x) vs = wipe σ vs
  | v :: vs, h => by
    show (wipe (σ.set i x) vs).set v none = (wipe σ vs).set v none
    by_cases q : i ∈ vs
    · rw [wipe_set q]
    · have e : v = i := by
        rcases List.mem_cons.mp h with k | k
        · exact k.symm
        · exact absurd k q
      subst e
      have c : ∀ ws : List Nat, v ∉ ws → wipe (σ.set v x) ws = (wipe σ ws).set v x := by
        intro ws
        induction ws with
        | nil => intro _; rfl
        | cons w ws ih =>
          intro hw
          rw [List.mem_cons, not_or] at hw
          show (wipe (σ.set v x) ws).set w none = ((wipe σ ws).set w none).set v x
          rw [ih hw.2, List.set_comm _ _ hw.1]
      rw [c vs q, List.set_set]
abbrev GM := DV → S → Option S
structure DG (K : PySem.W.Frag) (X : Cx) (tg : Expr) (g : TG) (m : GM) (ix : List Nat) : Prop where
  k : X.K = K
  pg : PG X tg g
  ok : ∀ (v : V) (dv : DV) (σ : St) (H : Hp) (s s' : S) (Z : Hp) (I : List Addr) (Q : St → Hp → Prop), Wf K Z H I s.m → RepS K Z I σ s.l → RepV K Z I v dv → m dv s = some s' →
    (∀ σ' Z' H' I', Wf K Z' H' I' s'.m → RepS K Z' I' σ' s'.l → Ext Z H I Z' H' I' → (∀ vs, (∀ i ∈ ix, i ∈ vs) → wipe σ' vs = wipe σ vs) → Q σ' H') → g v σ H Q
def gN (i : Nat) : GM := fun d s => some ⟨s.l.set i (some d), s.m⟩
theorem dg_name {i : Nat} {x : Str} (hN : X.N.Nodup) (k : X.K = K := by rfl) (hi : X.N[i]? = some x := by rfl) (hx : Loc X.env.scope x := by first | exact Or.inl rfl | exact Or.inr rfl) (hf : X.fn x = true ∨ X.env.scope.names.lookup x = some .local := by first | exact .inl rfl | exact .inr rfl) : DG K X (.Name x pos) (gName i) (gN i) [i] :=
  ⟨k, pg_name hN hi hx hf, fun v dv σ H s s' Z I Q w rs rv e q => by
    cases e; exact q _ Z H I w (rs.set rv i) Ext.refl fun vs hv => wipe_set (hv i (by simp))⟩
structure DGs (K : PySem.W.Frag) (X : Cx) (tg : List Expr) (g : TGs) (m : List DV → S → Option S) (ix : List Nat) : Prop where
  k : X.K = K
  pg : PGs X tg g
  ok : ∀ (v : List V) (dv : List DV) (σ : St) (H : Hp) (s s' : S) (Z : Hp) (I : List Addr) (Q : St → Hp → Prop), Wf K Z H I s.m → RepS K Z I σ s.l → RepVs K Z I v dv → m dv s = some s' →
    (∀ σ' Z' H' I', Wf K Z' H' I' s'.m → RepS K Z' I' σ' s'.l → Ext Z H I Z' H' I' → (∀ vs, (∀ i ∈ ix, i ∈ vs) → wipe σ' vs = wipe σ vs) → Q σ' H') → g v σ H Q
def gsNil : List DV → S → Option S
  | [], s => some s
  | _, _ => none
def gsCons (m : GM) (n : List DV → S → Option S) : List DV → S → Option S
  | d :: r, s => match m d s with
    | some s1 => n r s1
    | none => none
  | [], _ => none
theorem dgs_nil (k : X.K = K := by rfl) : DGs K X [] gNil gsNil [] := ⟨k, pgs_nil, fun v dv σ H s s' Z I Q w rs rv e q => by
  cases rv with
  | nil => cases e; exact ⟨rfl, q σ Z H I w rs Ext.refl fun _ _ => rfl⟩
  | cons _ _ => cases e⟩
theorem dgs_cons {tg : Expr} {tgs : List Expr} {t : TG} {u : TGs} {m : GM} {n : List DV → S → Option S} {i1 i2 : List Nat} (h1 : DG K X tg t m i1) (h2 : DGs K X tgs u n i2)
    (hs : (assignEach (tg :: tgs) X.env).map (·.2) = assign tg X.env :: (assignEach tgs X.env).map (·.2) := by rfl) : DGs K X (tg :: tgs) (gCons t u) (gsCons m n) (i1 ++ i2) := ⟨h1.k, pgs_cons h1.pg h2.pg hs, fun v dv σ H s s' Z I Q w rs rv e q => by
  cases rv with
  | nil => cases e
  | @cons _ d _ _ r1 r2 =>
    have e : (match m d s with | some s1 => n _ s1 | none => none) = some s' := e
    refine ⟨_, _, rfl, ?_⟩
    cases z : m d s with
    | none => rw [z] at e; cases e
    | some s1 =>
      rw [z] at e
      refine h1.ok _ d σ H s s1 Z I _ w rs r1 z fun σ' Z' H' I' w' rs' x' k' => ?_
      exact h2.ok _ _ σ' H' s1 s' Z' I' Q w' rs' (paired_imp (fun _ _ q => RepV.mono x' q) r2) e fun σ2 Z2 H2 I2 w2 rs2 x2 k2 => q σ2 Z2 H2 I2 w2 rs2 (x'.trans x2) fun vs hv =>
        (k2 vs fun i hi => hv i (List.mem_append_right _ hi)).trans (k' vs fun i hi => hv i (List.mem_append_left _ hi))⟩
def gT (n : Nat) (m : List DV → S → Option S) : GM := fun d s => match d with
  | .p (.tup xs) => if xs.length = n then m (xs.map .p) s else none
  | .p (.ktup xs) => if xs.length = n then m (xs.map .p) s else none
  | _ => none
theorem dg_tup {tgs : List Expr} {k : Nat} {t : TGs} {m : List DV → S → Option S} {n : Nat} {ix : List Nat} (hc : X.calm = true) (h : DGs K X tgs t m ix) (hn : (assignEach tgs X.env).length = n := by rfl) (hst : (assignEach tgs X.env).findIdx? (·.1) = none := by rfl) :
    DG K X (.Tuple tgs k pos) (gTup K n t) (gT n m) ix := by
  have kk := h.k
  subst kk
  refine ⟨rfl, pg_tup hc h.pg hn hst, fun v dv σ H s s' Z I Q w rs rv e q => ?_⟩
  cases dv with
  | o j => cases e
  | p d =>
    have rv : Rep X.K Z v d := rv
    cases rv with
    | tup h1 h2 =>
      rename_i a xs ds
      have e : (if ds.length = n then m (ds.map .p) s else none) = some s' := e
      split at e
      · rename_i hl
        exact ⟨a, xs, rfl, sqt w.sub h1, by rw [h2.length]; exact hl, h.ok _ _ σ H s s' Z I Q w rs (allP_map h2) e q⟩
      · cases e
    | ktup h1 h2 =>
      rename_i a xs ds
      have e : (if ds.length = n then m (ds.map .p) s else none) = some s' := e
      split at e
      · rename_i hl
        exact ⟨a, xs, rfl, same_t w.sub h1, by rw [h2.length]; exact hl, h.ok _ _ σ H s s' Z I Q w rs (allP_map h2) e q⟩
      · cases e
    | _ => cases e
def sAsg (m : EM) (g : GM) : SM := liftS m fun d s => match g d s with
  | some s1 => some (.nx, s1)
  | none => none
theorem ds_asg {tg : Expr} {te : TE} {g : TG} {m : EM} {gm : GM} {ix : List Nat} (he : DE K X W e te m) (hg : DG K X tg g gm ix) (hs : swapsWithSole [tg] e pos.line X.env = pure false := by rfl) (hw : swappedStores [tg] e X.env = pure none := by rfl)
    (h1 : (assignEach [tg] X.env).map (·.2) = [assign tg X.env] := by rfl) : DS K X W (.Assign [tg] e pos) (tAsg te g) (sAsg m gm) := ⟨he.k, ps_asg he.pe hg.pg hs hw h1, ⟨fun σ H s Z I r D w rs e p => by
  refine he.so.lift w rs e p fun d v M1 Z1 H1 I1 w1 rs1 x1 q1 e1 p1 => ?_
  have e1 : (match gm d ⟨s.l, M1⟩ with | some s1 => some (Fl.nx, s1) | none => none) = some r := e1
  cases z : gm d ⟨s.l, M1⟩ with
  | none => rw [z] at e1; cases e1
  | some s1 =>
    rw [z] at e1; cases e1
    exact hg.ok v d σ H1 ⟨s.l, M1⟩ s1 Z1 I1 _ w1 rs1 q1 z fun σ' Z' H' I' w' rs' x' _ => p1 σ' Z' H' I' w' rs' x'⟩⟩
theorem ds_set {i : Nat} {x : Str} {te : TE} {m : EM} {px : Pos} (hN : X.N.Nodup) (he : DE K X W e te m) (hi : X.N[i]? = some x := by rfl) (hx : Loc X.env.scope x := by first | exact Or.inl rfl | exact Or.inr rfl) (hf : X.fn x = true ∨ X.env.scope.names.lookup x = some .local := by first | exact .inl rfl | exact .inr rfl)
    (hs : swapsWithSole [.Name x px] e pos.line X.env = pure false := by rfl) (hw : swappedStores [.Name x px] e X.env = pure none := by rfl) (h1 : (assignEach [.Name x px] X.env).map (·.2) = [assign (.Name x px) X.env] := by rfl) : DS K X W (.Assign [.Name x px] e pos) (tAsg te (gName i)) (sAsg m (gN i)) :=
  ds_asg he (dg_name hN he.k hi hx hf) hs hw h1
/-- a, b = x, y -/
def sPar (i j : Nat) (ms : AM) : SM := liftS ms fun ds s => match ds with
  | [d, f] => some (.nx, ⟨(s.l.set i (some d)).set j (some f), s.m⟩)
  | _ => none
theorem ds_par {i j : Nat} {x y : Str} {ta : TA} {ms : AM} {px py pt : Pos} {kt k2} {pt2 : Pos} (hc : X.calm = true) (hN : X.N.Nodup) (ha : DA K X W [a, b] ta ms) (hi : X.N[i]? = some x := by rfl) (hj : X.N[j]? = some y := by rfl) (hij : i ≠ j := by decide)
    (hx : X.env.scope.names.lookup x = some .local := by rfl) (hy : X.env.scope.names.lookup y = some .local := by rfl)
    (hw : swappedStores [.Tuple [.Name x px, .Name y py] kt pt] (.Tuple [a, b] k2 pt2) X.env = pure (some [x, y]) := by rfl) (hs : swapsWithSole [.Tuple [.Name x px, .Name y py] kt pt] (.Tuple [a, b] k2 pt2) pos.line X.env = pure false := by rfl) :
    DS K X W (.Assign [.Tuple [.Name x px, .Name y py] kt pt] (.Tuple [a, b] k2 pt2) pos) (tPar i j ta) (sPar i j ms) := ⟨ha.k, ps_par hc hN hi hj hij hx hy ha.pa hw hs, ⟨fun σ H s Z I r D w rs e p => by
  refine ha.so.lift w rs e p fun ds vs M1 Z1 H1 I1 w1 rs1 x1 q1 e1 p1 => ?_
  cases q1 with
  | nil => cases e1
  | cons r1 q1 =>
  cases q1 with
  | nil => cases e1
  | cons r2 q1 =>
  cases q1 with
  | nil =>
    cases e1
    exact ⟨_, _, rfl, p1 _ Z1 H1 I1 w1 ((rs1.set r1 i).set r2 j) Ext.refl⟩
  | cons _ _ => cases e1⟩⟩
end
end DL
namespace DL
open PySem L2
section
variable {K : PySem.W.Frag} {X : Cx} {W : WX} {e a b c tg iter : Expr} {es : List Expr} {pos : Pos}
/-! ### what is walked -/
def ItOk (K : PySem.W.Frag) (Z0 : Hp) (I0 : List Addr) (J : It) (items : List DV) : Prop :=
  ∀ Z H I, Same Z0 Z → (∃ t, I = I0 ++ t) → Same Z H → ∀ i : Nat, (∀ d, items[i]? = some d → J.go i H ∧ ∀ x H', J.yld i H x H' → ∃ Z', ExtP Z H Z' H' ∧ RepV K Z' I x d) ∧ (items.length ≤ i → J.stop i H)
abbrev IM := Mi (List DV)
structure DI (K : PySem.W.Frag) (X : Cx) (W : WX) (tg iter : Expr) (wi : TI) (m : IM) : Prop where
  k : X.K = K
  pi : PI X tg iter wi
  so : Sound K W (ItOk K) wi m
def itD : D → Option (List DV)
  | .lst xs => some (xs.map .p)
  | .tup xs => some (xs.map .p)
  | .ktup xs => some (xs.map .p)
  | _ => none
def mItD (g : D → Option (List DV)) (m : EM) : IM := bnd m (pur fun d s => match g d with
  | some ds => some (.ok ds s.m)
  | none => none)
theorem so_itD {g : D → Option (List DV)} {te : TE} {m : EM} {r : V → Hp → (It → Hp → Prop) → Prop} (h : Sound K W (RepV K) te m) (hr : ∀ v d ds Z H I (R : It → Hp → Prop), Same Z H → Rep K Z v d → g d = some ds → (∀ J, ItOk K Z I J ds → R J H) → r v H R) :
    Sound K W (ItOk K) (fun σ H R => te σ H fun x H1 => r x H1 R) (mItD g m) := ⟨fun σ H s Z I r0 Q w rs e p => by
  refine h.bnd w rs e (p.x) fun d v M1 Z1 H1 I1 w1 rs1 x1 q1 e1 => ?_
  obtain ⟨d, rfl, e1⟩ := pur_ok e1
  have e1 : (match g d with | some ds => some (Rs.ok ds M1) | none => none) = some r0 := e1
  cases z : g d with
  | none => rw [z] at e1; cases e1
  | some ds =>
    rw [z] at e1; cases e1
    exact hr v d ds Z1 H1 I1 Q w1.sub q1 z fun J hJ => p J Z1 H1 I1 w1 x1 hJ⟩
def itL : D → Option (List DV)
  | .lst xs => some (xs.map .p)
  | .klst xs => some (xs.map .p)
  | .scr xs => some (xs.map .p)
  | _ => none
def itT : D → Option (List DV)
  | .tup xs => some (xs.map .p)
  | .ktup xs => some (xs.map .p)
  | _ => none
theorem getP {α : Type} {xs : List D} {i : Nat} {d : DV} (h : (xs.map DV.p)[i]? = some d) : ∃ y, xs[i]? = some y ∧ d = .p y := by
  rw [List.getElem?_map] at h
  cases q : xs[i]? with
  | none => rw [q] at h; cases h
  | some y => rw [q] at h; cases h; exact ⟨y, rfl, rfl⟩
theorem rd_inj_len {K : PySem.W.Frag} {Z : Hp} {vs : List V} {xs : List D} (r : RepA K Z vs xs) {i : Nat} {y : D} (h : xs[i]? = some y) : ∃ v, vs[i]? = some v ∧ Rep K Z v y := r.get h
theorem di_list {te : TE} {m : EM} (h : DE K X W iter te m) : DI K X W tg iter (iList K te) (mItD itL m) := by
  refine ⟨h.k, ?_, ?_⟩
  · rw [← h.k]; exact pi_list h.pe
  · refine so_itD (r := fun x H1 R => ∃ a, x = .ref a ∧ (∃ xs, SqL K H1 a xs) ∧ R (Itl K a) H1) h.so fun v d ds Z H I R s hd hg q => ?_
    cases hd with
    | lst h1 h2 =>
      rename_i a vs xs
      cases hg
      refine ⟨a, rfl, ⟨vs, .inl (same_rd s h1)⟩, q _ fun Z' H' I' z _ s' i => ⟨fun d hd => ?_, fun hl => ⟨vs, .inl (same_rd s' (same_rd z h1)), by rw [h2.length]; simpa using hl⟩⟩⟩
      obtain ⟨y, hy, rfl⟩ := getP (α := Unit) hd
      obtain ⟨v, hv, rv⟩ := h2.get hy
      refine ⟨⟨vs, v, .inl (same_rd s' (same_rd z h1)), hv⟩, fun x H2 hx => ?_⟩
      obtain ⟨rfl, hx⟩ := hx
      have := hx vs (.inl (same_rd s' (same_rd z h1)))
      rw [hv] at this
      cases this
      exact ⟨Z', ExtP.refl s', rv.mono z⟩
    | klst h1 h2 =>
      rename_i a vs xs
      cases hg
      refine ⟨a, rfl, ⟨vs, same_l s h1⟩, q _ fun Z' H' I' z _ s' i => ⟨fun d hd => ?_, fun hl => ⟨vs, same_l s' (same_l z h1), by rw [h2.length]; simpa using hl⟩⟩⟩
      obtain ⟨y, hy, rfl⟩ := getP (α := Unit) hd
      obtain ⟨v, hv, rv⟩ := h2.get hy
      refine ⟨⟨vs, v, same_l s' (same_l z h1), hv⟩, fun x H2 hx => ?_⟩
      obtain ⟨rfl, hx⟩ := hx
      have := hx vs (same_l s' (same_l z h1))
      rw [hv] at this
      cases this
      exact ⟨Z', ExtP.refl s', rv.mono z⟩
    | scr h1 h2 =>
      rename_i a vs xs
      cases hg
      refine ⟨a, rfl, ⟨vs, same_l s h1⟩, q _ fun Z' H' I' z _ s' i => ⟨fun d hd => ?_, fun hl => ⟨vs, same_l s' (same_l z h1), by rw [h2.length]; simpa using hl⟩⟩⟩
      obtain ⟨y, hy, rfl⟩ := getP (α := Unit) hd
      obtain ⟨v, hv, rv⟩ := h2.get hy
      refine ⟨⟨vs, v, same_l s' (same_l z h1), hv⟩, fun x H2 hx => ?_⟩
      obtain ⟨rfl, hx⟩ := hx
      have := hx vs (same_l s' (same_l z h1))
      rw [hv] at this
      cases this
      exact ⟨Z', ExtP.refl s', rv.mono z⟩
    | _ => cases hg
theorem di_tup {te : TE} {m : EM} (h : DE K X W iter te m) : DI K X W tg iter (iTup K te) (mItD itT m) := by
  refine ⟨h.k, ?_, ?_⟩
  · rw [← h.k]; exact pi_tup h.pe
  · refine so_itD (r := fun x H1 R => ∃ a, x = .ref a ∧ (∃ xs, SqT K H1 a xs) ∧ R (Itt K a) H1) h.so fun v d ds Z H I R s hd hg q => ?_
    cases hd with
    | tup h1 h2 =>
      rename_i a vs xs
      cases hg
      refine ⟨a, rfl, ⟨vs, sqt s h1⟩, q _ fun Z' H' I' z _ s' i => ⟨fun d hd => ?_, fun hl => ⟨vs, sqt s' (z _ _ h1), by rw [h2.length]; simpa using hl⟩⟩⟩
      obtain ⟨y, hy, rfl⟩ := getP (α := Unit) hd
      obtain ⟨v, hv, rv⟩ := h2.get hy
      refine ⟨⟨vs, v, sqt s' (z _ _ h1), hv⟩, fun x H2 hx => ?_⟩
      obtain ⟨rfl, hx⟩ := hx
      have := hx vs (sqt s' (z _ _ h1))
      rw [hv] at this
      cases this
      exact ⟨Z', ExtP.refl s', rv.mono z⟩
    | ktup h1 h2 =>
      rename_i a vs xs
      cases hg
      refine ⟨a, rfl, ⟨vs, same_t s h1⟩, q _ fun Z' H' I' z _ s' i => ⟨fun d hd => ?_, fun hl => ⟨vs, same_t s' (same_t z h1), by rw [h2.length]; simpa using hl⟩⟩⟩
      obtain ⟨y, hy, rfl⟩ := getP (α := Unit) hd
      obtain ⟨v, hv, rv⟩ := h2.get hy
      refine ⟨⟨vs, v, same_t s' (same_t z h1), hv⟩, fun x H2 hx => ?_⟩
      obtain ⟨rfl, hx⟩ := hx
      have := hx vs (same_t s' (same_t z h1))
      rw [hv] at this
      cases this
      exact ⟨Z', ExtP.refl s', rv.mono z⟩
    | _ => cases hg
def itS : D → Option (List DV)
  | .str x => some (x.cps.toList.map fun c => .p (.str ⟨#[c]⟩))
  | _ => none
theorem di_str {te : TE} {m : EM} (h : DE K X W iter te m) : DI K X W tg iter (iStr te) (mItD itS m) := by
  refine ⟨h.k, pi_str h.pe, ?_⟩
  refine so_itD (r := fun v H1 R => ∃ x, v = .str x ∧ R (Its x) H1) h.so fun v d ds Z H I R s hd hg q => ?_
  cases hd with
  | str x =>
    cases hg
    refine ⟨x, rfl, q _ fun Z' H' I' z _ s' i => ⟨fun d hd => ?_, fun hl => ?_⟩⟩
    · rw [List.getElem?_map] at hd
      cases hc : x.cps.toList[i]? with
      | none => rw [hc] at hd; cases hd
      | some c =>
        rw [hc] at hd; cases hd
        have hi : i < x.cps.size := by
          have := (List.getElem?_eq_some_iff.mp hc).1
          simpa using this
        refine ⟨hi, fun y H2 hy => ?_⟩
        obtain ⟨rfl, c', hc', rfl⟩ := hy
        have : c' = c := by
          have e1 : x.cps.toList[i]? = some c' := by simpa using hc'
          rw [hc] at e1
          exact (Option.some.inj e1).symm
        subst this
        exact ⟨Z', ExtP.refl s', .str _⟩
    · show x.cps.size ≤ i
      simpa using hl
  | _ => cases hg
def intsFrom (lo : Int) (n : Nat) : List DV := (List.range n).map fun (i : Nat) => .p (.int (lo + (i : Int)))
theorem itr_ok {Z : Hp} {I : List Addr} {lo : Int} {n : Nat} : ItOk K Z I (Itr lo n) (intsFrom lo n) := fun Z' H' I' z _ s' i => by
  refine ⟨fun d hd => ?_, fun hl => ?_⟩
  · unfold intsFrom at hd
    rw [List.getElem?_map] at hd
    cases q : (List.range n)[i]? with
    | none => rw [q] at hd; cases hd
    | some j =>
      rw [q] at hd
      have hi : i < n := by simpa using (List.getElem?_eq_some_iff.mp q).1
      have ej : j = i := by
        rw [List.getElem?_range hi] at q
        exact (Option.some.inj q).symm
      subst ej
      cases hd
      refine ⟨hi, fun x H2 hx => ?_⟩
      obtain ⟨rfl, rfl⟩ := hx
      exact ⟨Z', ExtP.refl s', .int _⟩
  · show n ≤ i
    simpa [intsFrom] using hl
def rngOk (i : Int) : Bool := decide (-4611686018427387904 ≤ i ∧ i < 4611686018427387904)
def rng1D : List DV → Option (List DV)
  | [.p (.int j)] => if rngOk j = true then some (intsFrom 0 j.toNat) else none
  | _ => none
def rng2D : List DV → Option (List DV)
  | [.p (.int i), .p (.int j)] => if rngOk i = true then if rngOk j = true then some (intsFrom i (j - i).toNat) else none else none
  | _ => none
def mRng (g : List DV → Option (List DV)) (ms : AM) : IM := bnd ms fun ds s => match g ds with
  | some xs => some (.ok xs s.m)
  | none => none
theorem rng_bound {i : Int} (h : rngOk i = true) : -(2 ^ 62) ≤ i ∧ i < 2 ^ 62 := by
  unfold rngOk at h
  simp only [decide_eq_true_eq] at h
  have : (2 : Int) ^ 62 = 4611686018427387904 := by decide
  omega
theorem so_rng {g : List DV → Option (List DV)} {ta : TA} {ms : AM} {r : List V → Hp → (It → Hp → Prop) → Prop} (h : Sound K W (RepVs K) ta ms) (hr : ∀ vs ds xs Z H I (R : It → Hp → Prop), RepVs K Z I vs ds → g ds = some xs → (∀ J, ItOk K Z I J xs → R J H) → r vs H R) :
    Sound K W (ItOk K) (fun σ H R => ta σ H fun vs H1 => r vs H1 R) (mRng g ms) := ⟨fun σ H s Z I r0 Q w rs e p => by
  refine h.bnd w rs e (p.x) fun ds vs M1 Z1 H1 I1 w1 rs1 x1 q1 e1 => ?_
  have e1 : (match g ds with | some xs => some (Rs.ok xs M1) | none => none) = some r0 := e1
  cases z : g ds with
  | none => rw [z] at e1; cases e1
  | some xs =>
    rw [z] at e1; cases e1
    exact hr vs ds xs Z1 H1 I1 Q q1 z fun J hJ => p J Z1 H1 I1 w1 x1 hJ⟩
theorem di_range1 {ta : TA} {ms : AM} {p : Pos} (hm : X.mg "range" = none) (h : DA K X W [a] ta ms) (hg : Gl X "range" := by rfl) (hs : starEach [a] X.env = [(false, eval a X.env)] := by rfl) : DI K X W tg (.Call (.Name "range" p) [a] [] pos) (iRng1 ta) (mRng rng1D ms) :=
  ⟨h.k, pi_range1 hg hm h.pa hs, so_rng (r := fun vs H1 R => ∃ j : Int, vs = [.int j] ∧ -(2 ^ 62) ≤ j ∧ j < 2 ^ 62 ∧ R (Itr 0 j.toNat) H1) h.so fun vs ds xs Z H I R rv z q => by
    unfold rng1D at z
    split at z
    · split at z
      · rename_i hb
        cases z
        cases rv with
        | cons g1 g2 =>
        cases g2
        cases g1
        obtain ⟨b1, b2⟩ := rng_bound hb
        exact ⟨_, rfl, b1, b2, q _ itr_ok⟩
      · cases z
    · cases z⟩
theorem di_range2 {ta : TA} {ms : AM} {p : Pos} (hm : X.mg "range" = none) (h : DA K X W [a, b] ta ms) (hg : Gl X "range" := by rfl) (hs : starEach [a, b] X.env = [(false, eval a X.env), (false, eval b X.env)] := by rfl) (hs2 : starEach [b] X.env = [(false, eval b X.env)] := by rfl) : DI K X W tg (.Call (.Name "range" p) [a, b] [] pos) (iRng2 ta) (mRng rng2D ms) :=
  ⟨h.k, pi_range2 hg hm h.pa hs hs2, so_rng (r := fun vs H1 R => ∃ i j : Int, vs = [.int i, .int j] ∧ (-(2 ^ 62) ≤ i ∧ i < 2 ^ 62 ∧ -(2 ^ 62) ≤ j ∧ j < 2 ^ 62) ∧ R (Itr i (j - i).toNat) H1) h.so fun vs ds xs Z H I R rv z q => by
    unfold rng2D at z
    split at z
    · split at z
      · rename_i hb
        split at z
        · rename_i hb2
          cases z
          cases rv with
          | cons g1 g2 =>
          cases g2 with
          | cons g2 g3 =>
          cases g3
          cases g1
          cases g2
          obtain ⟨b1, b2⟩ := rng_bound hb
          obtain ⟨b3, b4⟩ := rng_bound hb2
          exact ⟨_, _, rfl, ⟨b1, b2, b3, b4⟩, q _ itr_ok⟩
        · cases z
      · cases z
    · cases z⟩
/-! ### for -/
def loopS (g : GM) (body : SM) : List DV → SM
  | [], s => some (.nx, s)
  | d :: ds, s => match g d s with
    | none => none
    | some s1 => match body s1 with
      | none => none
      | some (.nx, s2) => loopS g body ds s2
      | some (.ct, s2) => loopS g body ds s2
      | some (.bk, s2) => some (.nx, s2)
      | some (.rt v, s2) => some (.rt v, s2)
      | some (.ex c f, s2) => some (.ex c f, s2)
def sFor (it : IM) (g : GM) (body : SM) : SM := liftS it fun ds => loopS g body ds
theorem ExtP.ext' {Z H Z' H' : Hp} {I : List Addr} {M : List O} (w : Wf K Z H I M) (e : ExtP Z H Z' H') : Ext Z H I Z' H' I := e.ext w
theorem ds_for {body : List Stmt} {wi : TI} {g : TG} {tb : TS} {it : IM} {gm : GM} {ix : List Nat} {mb : SM} (hp : PassesOwn (model X.prog X.w) X.A X.env X.xe) (hc : X.calm = true) (hi : DI K X W tg iter wi it) (hg : DG K X tg g gm ix) (hb : DSs K X W body tb mb)
    (hs : ∀ x, foldedSetIterable iter X.env x = pure x := by intro _; rfl) : DS K X W (.For tg iter body [] pos) (tFor wi g tb) (sFor it gm mb) := ⟨hi.k, ps_for hp hc hi.pi hg.pg hb.ps hs, ⟨fun σ H s Z I r D w rs e p => by
  refine hi.so.lift w rs e p fun ds J M1 Z1 H1 I1 w1 rs1 x1 q1 e1 p1 => ?_
  refine ⟨fun i m σ' H' => m = ds.length - i ∧ i ≤ ds.length ∧ ∃ Z' I' s', Wf K Z' H' I' s'.m ∧ RepS K Z' I' σ' s'.l ∧ Ext Z1 H1 I1 Z' H' I' ∧ loopS gm mb (ds.drop i) s' = some r, ⟨ds.length, by simp, Nat.zero_le _, Z1, I1, ⟨s.l, M1⟩, w1, rs1, Ext.refl, e1⟩, ?_⟩
  rintro i m σ' H' ⟨rfl, hi', Z', I', s', w', rs', x', e'⟩
  have Jo := q1 Z' H' I' x'.z x'.i w'.sub i
  by_cases hlt : i < ds.length
  · right
    have hd : ds[i]? = some ds[i] := by simp [hlt]
    obtain ⟨go, yl⟩ := Jo.1 _ hd
    rw [List.drop_eq_getElem_cons hlt] at e'
    refine ⟨go, fun σ2 H2 => ∃ Z2 I2 s2, Wf K Z2 H2 I2 s2.m ∧ RepS K Z2 I2 σ2 s2.l ∧ Ext Z1 H1 I1 Z2 H2 I2 ∧ loopS gm mb (ds.drop (i + 1)) s2 = some r,
      fun σ2 H2 h2 => ⟨ds.length - (i + 1), by omega, rfl, hlt, h2⟩, fun x H2 hx => ?_⟩
    obtain ⟨Z2, x2, rx⟩ := yl x H2 hx
    have w2 := w'.extP x2
    have y2 := x2.ext w'
    have e' : (match gm ds[i] s' with
      | none => none
      | some s1 => match mb s1 with
        | none => none
        | some (.nx, s2) => loopS gm mb (ds.drop (i + 1)) s2
        | some (.ct, s2) => loopS gm mb (ds.drop (i + 1)) s2
        | some (.bk, s2) => some (.nx, s2)
        | some (.rt v, s2) => some (.rt v, s2)
        | some (.ex c f, s2) => some (.ex c f, s2)) = some r := e'
    cases z : gm ds[i] s' with
    | none => rw [z] at e'; cases e'
    | some s1 =>
      rw [z] at e'
      refine hg.ok x ds[i] σ' H2 s' s1 Z2 I' _ w2 (rs'.mono y2) rx z fun σ3 Z3 H3 I3 w3 rs3 x3 _ => ?_
      have xx := (x'.trans y2).trans x3
      cases z2 : mb s1 with
      | none =>
        have e' : (match mb s1 with
          | none => none
          | some (.nx, s2) => loopS gm mb (ds.drop (i + 1)) s2
          | some (.ct, s2) => loopS gm mb (ds.drop (i + 1)) s2
          | some (.bk, s2) => some (.nx, s2)
          | some (.rt v, s2) => some (.rt v, s2)
          | some (.ex c f, s2) => some (.ex c f, s2)) = some r := e'
        rw [z2] at e'; cases e'
      | some fr =>
        have e' : (match mb s1 with
          | none => none
          | some (.nx, s2) => loopS gm mb (ds.drop (i + 1)) s2
          | some (.ct, s2) => loopS gm mb (ds.drop (i + 1)) s2
          | some (.bk, s2) => some (.nx, s2)
          | some (.rt v, s2) => some (.rt v, s2)
          | some (.ex c f, s2) => some (.ex c f, s2)) = some r := e'
        rw [z2] at e'
        obtain ⟨f, s2⟩ := fr
        have p3 := p1.mono xx
        refine hb.so.ok σ3 H3 s1 Z3 I3 _ _ w3 rs3 z2 ?_
        cases f with
        | nx => exact fun σ4 Z4 H4 I4 w4 rs4 x4 => ⟨Z4, I4, s2, w4, rs4, xx.trans x4, e'⟩
        | ct => exact fun σ4 Z4 H4 I4 w4 rs4 x4 => ⟨Z4, I4, s2, w4, rs4, xx.trans x4, e'⟩
        | bk => cases e'; exact p3
        | rt v => cases e'; exact p3
        | ex c fs => cases e'; exact p3
  · left
    have e0 : ds.drop i = [] := List.drop_eq_nil_of_le (by omega)
    rw [e0] at e'
    cases e'
    exact ⟨Jo.2 (by omega), (p1.mono x') σ' Z' H' I' w' rs' Ext.refl⟩⟩⟩
/-! ### while -/
def sWhile : Nat → EM → SM → SM
  | 0, _, _ => fun _ => none
  | n + 1, c, body => liftS c fun d s => match d with
    | .p (.bl true) => match body s with
      | none => none
      | some (.nx, s2) => sWhile n c body s2
      | some (.ct, s2) => sWhile n c body s2
      | some (.bk, s2) => some (.nx, s2)
      | some (.rt v, s2) => some (.rt v, s2)
      | some (.ex c f, s2) => some (.ex c f, s2)
    | .p (.bl false) => some (.nx, s)
    | _ => none
theorem ds_while {body : List Stmt} {tc : TT} {tb : TS} {c : Expr} {mc : EM} {mb : SM} (n : Nat) (hp : PassesOwn (model X.prog X.w) X.A X.env X.xe) (hc : DT K X W c tc mc) (hb : DSs K X W body tb mb) : DS K X W (.While c body [] pos) (tWhile tc tb) (sWhile n mc mb) := ⟨hc.k, ps_while hp hc.pt hb.ps, ⟨fun σ H s Z I r D w rs e p => by
  refine ⟨fun m σ' H' => ∃ Z' I' s', Wf K Z' H' I' s'.m ∧ RepS K Z' I' σ' s'.l ∧ Ext Z H I Z' H' I' ∧ sWhile m mc mb s' = some r, ⟨n, Z, I, s, w, rs, Ext.refl, e⟩, ?_⟩
  rintro m σ' H' ⟨Z', I', s', w', rs', x', e'⟩
  cases m with
  | zero => cases e'
  | succ m =>
    refine hc.so.lift w' rs' e' (p.mono x') fun d v M1 Z1 H1 I1 w1 rs1 x1 q1 e1 p1 => ?_
    cases (show d = .p (.bl v) from q1)
    cases v with
    | false =>
      rw [if_neg Bool.false_ne_true]
      cases e1
      exact p1 σ' Z1 H1 I1 w1 rs1 Ext.refl
    | true =>
      rw [if_pos rfl]
      have e1 : (match mb ⟨s'.l, M1⟩ with
        | none => none
        | some (.nx, s2) => sWhile m mc mb s2
        | some (.ct, s2) => sWhile m mc mb s2
        | some (.bk, s2) => some (.nx, s2)
        | some (.rt v, s2) => some (.rt v, s2)
        | some (.ex c f, s2) => some (.ex c f, s2)) = some r := e1
      refine ⟨fun σ2 H2 => ∃ Z2 I2 s2, Wf K Z2 H2 I2 s2.m ∧ RepS K Z2 I2 σ2 s2.l ∧ Ext Z H I Z2 H2 I2 ∧ sWhile m mc mb s2 = some r, fun σ2 H2 h2 => ⟨m, Nat.lt_succ_self m, h2⟩, ?_⟩
      cases z2 : mb ⟨s'.l, M1⟩ with
      | none => rw [z2] at e1; cases e1
      | some fr =>
        rw [z2] at e1
        obtain ⟨f, s2⟩ := fr
        refine hb.so.ok σ' H1 ⟨s'.l, M1⟩ Z1 I1 _ _ w1 rs1 z2 ?_
        cases f with
        | nx => exact fun σ4 Z4 H4 I4 w4 rs4 x4 => ⟨Z4, I4, s2, w4, rs4, (x'.trans x1).trans x4, e1⟩
        | ct => exact fun σ4 Z4 H4 I4 w4 rs4 x4 => ⟨Z4, I4, s2, w4, rs4, (x'.trans x1).trans x4, e1⟩
        | bk => cases e1; exact p1
        | rt v => cases e1; exact p1
        | ex c fs => cases e1; exact p1⟩⟩
end
end DL
namespace DL
open PySem L2
abbrev WF : WX := fun _ _ _ _ => False
section
variable {K : PySem.W.Frag} {X : Cx} {W : WX} {e a b c tg iter : Expr} {es : List Expr} {pos : Pos}
def wipeL (l : List (Option DV)) : List Nat → List (Option DV)
  | [] => l
  | v :: vs => (wipeL l vs).set v none
theorem RepS.wipe {Z : Hp} {I : List Addr} {σ : St} {l : List (Option DV)} (r : RepS K Z I σ l) : ∀ vs : List Nat, RepS K Z I (L2.wipe σ vs) (wipeL l vs)
  | [] => r
  | v :: vs => by
    have h := RepS.wipe r vs
    refine ⟨by show ((L2.wipe σ vs).set v none).length = ((wipeL l vs).set v none).length; simpa using h.len, fun i dv e => ?_⟩
    have e : ((wipeL l vs).set v none)[i]? = some (some dv) := e
    by_cases q : v = i
    · subst q
      by_cases b : v < (wipeL l vs).length
      · rw [List.getElem?_set_self b] at e; cases e
      · rw [List.getElem?_eq_none (by simpa using b)] at e; cases e
    · rw [List.getElem?_set_ne q] at e
      obtain ⟨u, h1, h2⟩ := h.at_ i dv e
      refine ⟨u, ?_, h2⟩
      show ((L2.wipe σ vs).set v none)[i]? = _
      rw [List.getElem?_set_ne q]; exact h1
theorem wipe_wipe {σ : St} : ∀ vs ws : List Nat, (∀ i ∈ vs, i ∈ ws) → L2.wipe (L2.wipe σ vs) ws = L2.wipe σ ws
  | [], _, _ => rfl
  | v :: vs, ws, h => by
    show L2.wipe ((L2.wipe σ vs).set v none) ws = _
    rw [wipe_set (h v (by simp))]
    exact wipe_wipe vs ws fun i hi => h i (by simp [hi])
/-- the block of a list comprehension: results that are data -/
def compL (l : List (Option DV)) (g : GM) (t e : EM) : List DV → List D → List O → Option (List D × List O)
  | [], acc, M => some (acc, M)
  | d :: ds, acc, M => match g d ⟨l, M⟩ with
    | none => none
    | some s1 => match t s1 with
      | some (.ok (.p (.bl true)) M1) => match e ⟨s1.l, M1⟩ with
        | some (.ok (.p y) M2) => if acc.length < 1000000 then compL l g t e ds (acc ++ [y]) M2 else none
        | _ => none
      | some (.ok (.p (.bl false)) M1) => compL l g t e ds acc M1
      | _ => none
def mLc (it : IM) (vs : List Nat) (g : GM) (t e : EM) : EM := bnd it fun ds s => match compL (wipeL s.l vs) g t e ds [] s.m with
  | some (acc, M) => some (.ok (.p (.lst acc)) M)
  | none => none
def mLcO (it : IM) (vs : List Nat) (g : GM) (t e : EM) : EM := bnd it fun ds s => match compL (wipeL s.l vs) g t e ds [] s.m with
  | some (acc, M) => some (.ok (.o M.length) (M ++ [.lst (acc.map .p)]))
  | none => none
/-- what is known of the new list at D while it is filled -/
structure Fill (K : PySem.W.Frag) (Z1 H1 : Hp) (I1 : List Addr) (D : Addr) (Z H : Hp) (I : List Addr) (M : List O) (acc : List V) (ad : List DL.D) : Prop where
  w : Wf K Z H I M
  x : Ext Z1 H1 I1 Z H I
  at_ : H D = some (.lst acc)
  nz : Z D = none
  ni : D ∉ I
  r : RepA K Z acc ad
theorem Fill.step {Z1 H1 Z H Z' H' : Hp} {I1 I I' : List Addr} {D : Addr} {M M' : List O} {acc : List V} {ad : List DL.D} (f : Fill K Z1 H1 I1 D Z H I M acc ad) (w : Wf K Z' H' I' M') (x : Ext Z H I Z' H' I') : Fill K Z1 H1 I1 D Z' H' I' M' acc ad where
  w := w
  x := f.x.trans x
  at_ := x.fr D _ f.at_ f.ni
  nz := by
    cases q : Z' D with
    | none => rfl
    | some o =>
      rcases x.zn D (by rw [q]; simp) with k | k | k
      · exact absurd f.nz k
      · rw [f.at_] at k; cases k
      · exact absurd k f.ni
  ni := fun m => by
    rcases x.nw D m with k | k
    · exact f.ni k
    · rw [f.at_] at k; cases k
  r := f.r.mono x.z
theorem Fill.put {Z1 H1 Z H : Hp} {I1 I : List Addr} {D : Addr} {M : List O} {acc : List V} {ad : List DL.D} (f : Fill K Z1 H1 I1 D Z H I M acc ad) (h0 : H1 D = none) {v : V} {d : DL.D} (r : Rep K Z v d) : Fill K Z1 H1 I1 D Z (upd H D (.lst (acc ++ [v]))) I M (acc ++ [v]) (ad ++ [d]) where
  w := ⟨fun a u e => by rw [upd_ne (fun q => by rw [q, f.nz] at e; cases e)]; exact f.w.sub a u e, f.w.len, f.w.nd, fun a m => by rw [upd_ne (fun q => f.ni (by rw [← q]; exact m))]; exact f.w.tr a m, fun n a o h1 h2 h3 => by
    obtain ⟨q1, q2⟩ := f.w.ob n a o h1 h2 h3
    exact ⟨q1, q2.mono (Same.refl _) (upd_ne fun q => f.ni (by rw [← q]; exact List.mem_of_getElem? h1))⟩⟩
  x := ⟨f.x.z, f.x.i, fun a o e n => by rw [upd_ne (ne_of_none e h0)]; exact f.x.fr a o e n, f.x.nw, f.x.zn, fun a e => by
    by_cases q : a = D
    · rw [q, upd_same]; simp
    · rw [upd_ne q]; exact f.x.tr a e⟩
  at_ := upd_same
  nz := f.nz
  ni := f.ni
  r := f.r.append (.cons r .nil)
theorem tLc_ok {wi : TI} {g : TG} {tt : TT} {te : TE} {vs : List Nat} {it : IM} {gm : GM} {ix : List Nat} {t em : EM} (hi : Sound K W (ItOk K) wi it)
    (hg : ∀ (v : V) (dv : DV) (σ : St) (H : Hp) (s s' : S) (Z : Hp) (I : List Addr) (Q : St → Hp → Prop), Wf K Z H I s.m → RepS K Z I σ s.l → RepV K Z I v dv → gm dv s = some s' →
      (∀ σ' Z' H' I', Wf K Z' H' I' s'.m → RepS K Z' I' σ' s'.l → Ext Z H I Z' H' I' → (∀ vs, (∀ i ∈ ix, i ∈ vs) → L2.wipe σ' vs = L2.wipe σ vs) → Q σ' H') → g v σ H Q) (hix : ∀ i ∈ ix, i ∈ vs)
    (ht : Sound K WF RepB tt t) (he : Sound K WF (RepV K) te em) {σ : St} {H : Hp} {s : S} {Z : Hp} {I : List Addr} {r : Rs DV} {Q : VK} {k : List D → List O → Rs DV} (w : Wf K Z H I s.m) (rs : RepS K Z I σ s.l)
    (e : bnd it (fun ds s => match compL (wipeL s.l vs) gm t em ds [] s.m with | some (acc, M) => some (k acc M) | none => none) s = some r) (px : ∀ c fs M, r = .ex c fs M → PostX K W Z H I σ M c fs)
    (hk : ∀ Z1 H1 I1 D Z' H' I' M acc ad, r = k ad M → H1 D = none → Ext Z H I Z1 H1 I1 → Fill K Z1 H1 I1 D Z' H' I' M acc ad → Q (.ref D) H') : tLc wi g tt te vs σ H Q := by
  refine hi.bnd w rs e px fun ds J M1 Z1 H1 I1 w1 rs1 x1 q1 e1 => ?_
  have e1 : (match compL (wipeL s.l vs) gm t em ds [] M1 with | some (acc, M) => some (k acc M) | none => none) = some r := e1
  cases zc : compL (wipeL s.l vs) gm t em ds [] M1 with
  | none => rw [zc] at e1; cases e1
  | some am =>
    rw [zc] at e1
    obtain ⟨ad, Mf⟩ := am
    have e1 : some (k ad Mf) = some r := e1
    intro D hD
    have f0 : Fill K Z1 H1 I1 D Z1 (upd H1 D (.lst [])) I1 M1 [] [] := by
      refine ⟨⟨fun a u q => by rw [upd_ne (ne_of_none (w1.sub a u q) hD)]; exact w1.sub a u q, w1.len, w1.nd, fun a m => by rw [upd_ne (fun q => w1.tr a m (by rw [q]; exact hD))]; exact w1.tr a m, fun n a o h1 h2 h3 => ?_⟩, ⟨Same.refl _, ⟨[], by simp⟩, fun a o q _ => by rw [upd_ne (ne_of_none q hD)]; exact q, fun _ m => .inl m, fun _ m => .inl m, fun a q => by rw [upd_ne (fun y => q (by rw [y]; exact hD))]; exact q⟩, upd_same, none_of w1.sub hD, fun m => w1.tr D m hD, .nil⟩
      obtain ⟨q1, q2⟩ := w1.ob n a o h1 h2 h3
      exact ⟨q1, q2.mono (Same.refl _) (upd_ne fun q => w1.tr a (List.mem_of_getElem? h1) (by rw [q]; exact hD))⟩
    refine ⟨fun i m H' => m = ds.length - i ∧ i ≤ ds.length ∧ ∃ Z' I' M acc bd, Fill K Z1 H1 I1 D Z' H' I' M acc bd ∧ compL (wipeL s.l vs) gm t em (ds.drop i) bd M = some (ad, Mf), ⟨ds.length, by simp, Nat.zero_le _, Z1, I1, M1, [], [], f0, zc⟩, ?_⟩
    rintro i m H' ⟨rfl, hil, Z', I', M, acc, bd, f, e'⟩
    have Jo := q1 Z' H' I' f.x.z f.x.i f.w.sub i
    by_cases hlt : i < ds.length
    · right
      have hd : ds[i]? = some ds[i] := by simp [hlt]
      obtain ⟨go, yl⟩ := Jo.1 _ hd
      rw [List.drop_eq_getElem_cons hlt] at e'
      refine ⟨go, fun H2 => ∃ Z2 I2 M2 acc2 bd2, Fill K Z1 H1 I1 D Z2 H2 I2 M2 acc2 bd2 ∧ compL (wipeL s.l vs) gm t em (ds.drop (i + 1)) bd2 M2 = some (ad, Mf),
        fun H2 h2 => ⟨ds.length - (i + 1), by omega, rfl, hlt, h2⟩, fun x H2 hx => ?_⟩
      obtain ⟨Z2, x2, rx⟩ := yl x H2 hx
      have f2 := f.step (f.w.extP x2) (x2.ext f.w)
      have rs2 : RepS K Z2 I' (L2.wipe σ vs) (wipeL s.l vs) := ((rs1.mono f2.x)).wipe vs
      unfold compL at e'
      cases zg : gm ds[i] ⟨wipeL s.l vs, M⟩ with
      | none => rw [zg] at e'; cases e'
      | some s1 =>
        rw [zg] at e'
        refine hg x ds[i] (L2.wipe σ vs) H2 ⟨wipeL s.l vs, M⟩ s1 Z2 I' _ f2.w rs2 rx zg fun σ3 Z3 H3 I3 w3 rs3 x3 k3 => ?_
        have f3 := f2.step w3 x3
        refine ⟨(k3 vs hix).trans (wipe_wipe vs vs fun _ h => h) , ?_⟩
        have e' : (match t s1 with
          | some (.ok (.p (.bl true)) M1) => match em ⟨s1.l, M1⟩ with
            | some (.ok (.p y) M2) => if bd.length < 1000000 then compL (wipeL s.l vs) gm t em (ds.drop (i + 1)) (bd ++ [y]) M2 else none
            | _ => none
          | some (.ok (.p (.bl false)) M1) => compL (wipeL s.l vs) gm t em (ds.drop (i + 1)) bd M1
          | _ => none) = some (ad, Mf) := e'
        cases zt : t s1 with
        | none => rw [zt] at e'; cases e'
        | some rt =>
          rw [zt] at e'
          refine ht.ok σ3 H3 s1 Z3 I3 rt _ w3 rs3 zt ?_
          cases rt with
          | ex c fs M4 => cases e'
          | ok d4 M4 =>
            intro b Z4 H4 I4 w4 x4 r4
            cases (show d4 = .p (.bl b) from r4)
            have f4 := f3.step w4 x4
            cases b with
            | false =>
              rw [if_neg Bool.false_ne_true]
              exact ⟨Z4, I4, M4, acc, bd, f4, e'⟩
            | true =>
              rw [if_pos rfl]
              have e' : (match em ⟨s1.l, M4⟩ with
                | some (.ok (.p y) M2) => if bd.length < 1000000 then compL (wipeL s.l vs) gm t em (ds.drop (i + 1)) (bd ++ [y]) M2 else none
                | _ => none) = some (ad, Mf) := e'
              cases ze : em ⟨s1.l, M4⟩ with
              | none => rw [ze] at e'; cases e'
              | some re =>
                rw [ze] at e'
                refine he.ok σ3 H4 ⟨s1.l, M4⟩ Z4 I4 re _ w4 (rs3.mono x4) ze ?_
                cases re with
                | ex c fs M5 => cases e'
                | ok d5 M5 =>
                  intro y Z5 H5 I5 w5 x5 r5
                  have f5 := f4.step w5 x5
                  cases d5 with
                  | o n => cases e'
                  | p d5 =>
                    have e' : (if bd.length < 1000000 then compL (wipeL s.l vs) gm t em (ds.drop (i + 1)) (bd ++ [d5]) M5 else none) = some (ad, Mf) := e'
                    split at e'
                    · rename_i hlen
                      refine ⟨acc, f5.at_, by rw [f5.r.length]; exact size_lt (Nat.le_of_lt hlen), ?_⟩
                      exact ⟨Z5, I5, M5, _, _, f5.put hD r5, e'⟩
                    · cases e'
    · left
      have e0 : ds.drop i = [] := List.drop_eq_nil_of_le (by omega)
      rw [e0] at e'
      cases e'
      exact ⟨Jo.2 (by omega), hk Z1 H1 I1 D Z' H' I' _ acc _ (Option.some.inj e1).symm hD x1 f⟩
theorem Fill.frz {Z1 H1 Z H : Hp} {I1 I : List Addr} {D : Addr} {M : List O} {acc : List V} {ad : List DL.D} (f : Fill K Z1 H1 I1 D Z H I M acc ad) (h0 : H1 D = none) : Wf K (upd Z D (.lst acc)) H I M ∧ Ext Z1 H1 I1 (upd Z D (.lst acc)) H I := by
  refine ⟨⟨fun a u e => ?_, f.w.len, f.w.nd, f.w.tr, fun n a o h1 h2 h3 => ?_⟩, ⟨f.x.z.trans (same_upd f.nz), f.x.i, f.x.fr, f.x.nw, fun a e => ?_, f.x.tr⟩⟩
  · by_cases q : a = D
    · rw [q, upd_same] at e; rw [q, f.at_]; exact e
    · rw [upd_ne q] at e; exact f.w.sub a u e
  · obtain ⟨q1, q2⟩ := f.w.ob n a o h1 h2 h3
    exact ⟨by rw [upd_ne fun q => f.ni (by rw [← q]; exact List.mem_of_getElem? h1)]; exact q1, q2.mono (same_upd f.nz) rfl⟩
  · by_cases q : a = D
    · rw [q]; exact .inr (.inl h0)
    · rw [upd_ne q] at e; exact f.x.zn a e
theorem Fill.own {Z1 H1 Z H : Hp} {I1 I : List Addr} {D : Addr} {M : List O} {acc : List V} {ad : List DL.D} (f : Fill K Z1 H1 I1 D Z H I M acc ad) (h0 : H1 D = none) : Wf K Z H (I ++ [D]) (M ++ [.lst (ad.map .p)]) ∧ Ext Z1 H1 I1 Z H (I ++ [D]) := by
  have x : Ext Z1 H1 I1 Z H (I ++ [D]) := by
    refine ⟨f.x.z, ?_, f.x.fr, fun a m => ?_, f.x.zn, f.x.tr⟩
    · obtain ⟨t, e⟩ := f.x.i
      exact ⟨t ++ [D], by rw [e, List.append_assoc]⟩
    · rcases List.mem_append.mp m with k | k
      · exact f.x.nw a k
      · rw [List.mem_singleton.mp k]; exact .inr h0
  have x2 : Ext Z H I Z H (I ++ [D]) ∨ True := .inr trivial
  refine ⟨⟨f.w.sub, by rw [List.length_append, List.length_append, f.w.len]; rfl, ?_, fun a m => ?_, fun n a o h1 h2 h3 => ?_⟩, x⟩
  · refine List.nodup_append.mpr ⟨f.w.nd, by simp, fun a ha b hb => ?_⟩
    rw [List.mem_singleton.mp hb]
    intro q
    exact f.ni (by rw [← q]; exact ha)
  · rcases List.mem_append.mp m with k | k
    · exact f.w.tr a k
    · rw [List.mem_singleton.mp k, f.at_]; simp
  · have up : ∀ {v : V} {d : DV}, RepV K Z I v d → RepV K Z (I ++ [D]) v d := fun {v d} h => by
      cases d with
      | p d => exact h
      | o j =>
        obtain ⟨b, hb, q⟩ := h
        exact ⟨b, by rw [List.getElem?_append_left (List.getElem?_eq_some_iff.mp hb).1]; exact hb, q⟩
    by_cases hn : n < I.length
    · rw [List.getElem?_append_left hn] at h1
      rw [List.getElem?_append_left (by rw [← f.w.len]; exact hn)] at h2
      obtain ⟨q1, q2⟩ := f.w.ob n a o h1 h2 h3
      refine ⟨q1, ?_⟩
      cases o with
      | lst _ => obtain ⟨xs, h, r⟩ := q2; exact ⟨xs, h, paired_imp (fun _ _ q => up q) r⟩
      | dK _ => obtain ⟨xs, h, r⟩ := q2; exact ⟨xs, h, paired_imp (fun _ _ q => ⟨q.1, up q.2⟩) r⟩
      | dT _ => obtain ⟨xs, h, r⟩ := q2; exact ⟨xs, h, paired_imp (fun _ _ q => ⟨q.1, up q.2⟩) r⟩
      | ins _ _ => obtain ⟨dx, xs, h, r⟩ := q2; exact ⟨dx, xs, h, paired_imp (fun _ _ q => ⟨q.1, up q.2⟩) r⟩
      | tbl _ _ => exact q2
      | gone => trivial
    · have e1 : n = I.length := by
        have := (List.getElem?_eq_some_iff.mp h1).1
        rw [List.length_append, List.length_singleton] at this
        omega
      subst e1
      rw [List.getElem?_append_right (Nat.le_refl _), Nat.sub_self] at h1
      rw [List.getElem?_append_right (by rw [f.w.len]; exact Nat.le_refl _), f.w.len, Nat.sub_self] at h2
      cases h1
      cases h2
      exact ⟨f.nz, acc, f.at_, allP_map f.r⟩
def tYesM : EM := tru
theorem so_yes : Sound K WF RepB tYes tYesM := ⟨fun σ H s Z I r Q w rs e p => by
  cases e; exact p true Z H I w Ext.refl rfl⟩
structure DPT (K : PySem.W.Frag) (X : Cx) (es : List Expr) (t : TT) (m : EM) : Prop where
  k : X.K = K
  pt : PTs X es t
  so : Sound K WF RepB t m
theorem dpt_nil (k : X.K = K := by rfl) : DPT K X [] tYes tYesM := ⟨k, pts_nil, so_yes⟩
theorem dpt_one {t : TT} {m : EM} (h : DT K X WF c t m) : DPT K X [c] t m := ⟨h.k, pts_one h.pt, h.so⟩
section
variable {elt : Expr} {ifs : List Expr} {scope : Scope} {own : List (Str × Nat)} {wi : TI} {g : TG} {tt : TT} {te : TE} {it : IM} {gm : GM} {ix : List Nat} {t em : EM}
theorem so_lc (hi : Sound K W (ItOk K) wi it) (hg : ∃ X' tg', DG K X' tg' g gm ix) (hix : ∀ i ∈ ix, i ∈ own.map (·.2)) (ht : Sound K WF RepB tt t) (he : Sound K WF (RepV K) te em) : Sound K W (RepV K) (tLc wi g tt te (own.map (·.2))) (mLc it (own.map (·.2)) gm t em) := ⟨fun σ H s Z I r Q w rs e p => by
  obtain ⟨X', tg', hg⟩ := hg
  refine tLc_ok hi hg.ok hix ht he (k := fun acc M => .ok (.p (.lst acc)) M) w rs e p.x fun Z1 H1 I1 D Z' H' I' M acc ad er h0 x1 f => ?_
  subst er
  obtain ⟨w', x'⟩ := f.frz h0
  exact p _ _ H' I' w' (x1.trans x') (.lst (.inl upd_same) (f.r.mono (same_upd f.nz)))⟩
theorem so_lcO (hi : Sound K W (ItOk K) wi it) (hg : ∃ X' tg', DG K X' tg' g gm ix) (hix : ∀ i ∈ ix, i ∈ own.map (·.2)) (ht : Sound K WF RepB tt t) (he : Sound K WF (RepV K) te em) : Sound K W (RepV K) (tLc wi g tt te (own.map (·.2))) (mLcO it (own.map (·.2)) gm t em) := ⟨fun σ H s Z I r Q w rs e p => by
  obtain ⟨X', tg', hg⟩ := hg
  refine tLc_ok hi hg.ok hix ht he (k := fun (acc : List D) M => Rs.ok (DV.o M.length) (M ++ [O.lst (acc.map DV.p)])) w rs e p.x fun Z1 H1 I1 D Z' H' I' M acc ad er h0 x1 f => ?_
  subst er
  obtain ⟨w', x'⟩ := f.own h0
  exact p _ _ H' _ w' (x1.trans x') ⟨D, by rw [← f.w.len, List.getElem?_append_right (Nat.le_refl _), Nat.sub_self]; rfl, rfl⟩⟩
theorem de_lc {vs : List Nat} (hN : X.N.Nodup) (hc : X.calm = true) (hi : DI K X W tg iter wi it) (ok : BlkOk X.N X.env.scope scope own)
    (hg : ∀ (s : Shared) (H : Hp) (C : Addr) (cl : List (Str × Addr)) (fp : List Addr), DG K (X.blk s H scope (compEnvC scope cl C X.env) fp) tg g gm ix) (ht : ∀ (s : Shared) (H : Hp) (C : Addr) (cl : List (Str × Addr)) (fp : List Addr), DPT K (X.blk s H scope (compEnvC scope cl C X.env) fp) ifs tt t)
    (he : ∀ (s : Shared) (H : Hp) (C : Addr) (cl : List (Str × Addr)) (fp : List Addr), DE K (X.blk s H scope (compEnvC scope cl C X.env) fp) WF elt te em) (hix : ∀ i ∈ ix, i ∈ own.map (·.2) := by decide) (hs : ∀ x, foldedSetIterable iter X.env x = pure x := by intro _; rfl) (hv : own.map (·.2) = vs := by rfl) :
    DE K X W (.ListComp elt [⟨tg, iter, ifs, 0⟩] scope pos) (tLc wi g tt te vs) (mLc it vs gm t em) := by
  subst hv
  exact ⟨hi.k, pe_lc hc hN hi.pi ok (fun s H C cl fp => (hg s H C cl fp).pg) (fun s H C cl fp => (ht s H C cl fp).pt) (fun s H C cl fp => (he s H C cl fp).pe) hs,
    so_lc hi.so ⟨_, _, hg {} (fun _ => none) 0 [] []⟩ hix (ht {} (fun _ => none) 0 [] []).so (he {} (fun _ => none) 0 [] []).so⟩
theorem de_lcO {vs : List Nat} (hN : X.N.Nodup) (hc : X.calm = true) (hi : DI K X W tg iter wi it) (ok : BlkOk X.N X.env.scope scope own)
    (hg : ∀ (s : Shared) (H : Hp) (C : Addr) (cl : List (Str × Addr)) (fp : List Addr), DG K (X.blk s H scope (compEnvC scope cl C X.env) fp) tg g gm ix) (ht : ∀ (s : Shared) (H : Hp) (C : Addr) (cl : List (Str × Addr)) (fp : List Addr), DPT K (X.blk s H scope (compEnvC scope cl C X.env) fp) ifs tt t)
    (he : ∀ (s : Shared) (H : Hp) (C : Addr) (cl : List (Str × Addr)) (fp : List Addr), DE K (X.blk s H scope (compEnvC scope cl C X.env) fp) WF elt te em) (hix : ∀ i ∈ ix, i ∈ own.map (·.2) := by decide) (hs : ∀ x, foldedSetIterable iter X.env x = pure x := by intro _; rfl) (hv : own.map (·.2) = vs := by rfl) :
    DE K X W (.ListComp elt [⟨tg, iter, ifs, 0⟩] scope pos) (tLc wi g tt te vs) (mLcO it vs gm t em) := by
  subst hv
  exact ⟨hi.k, pe_lc hc hN hi.pi ok (fun s H C cl fp => (hg s H C cl fp).pg) (fun s H C cl fp => (ht s H C cl fp).pt) (fun s H C cl fp => (he s H C cl fp).pe) hs,
    so_lcO hi.so ⟨_, _, hg {} (fun _ => none) 0 [] []⟩ hix (ht {} (fun _ => none) 0 [] []).so (he {} (fun _ => none) 0 [] []).so⟩
end
end
end DL
namespace DL
open PySem L2
section
variable {K : PySem.W.Frag} {X : Cx} {W : WX} {e a b c tg iter : Expr} {es : List Expr} {pos : Pos}
section
variable {elt : Expr} {ifs : List Expr} {scope : Scope} {own : List (Str × Nat)} {wi : TI} {g : TG} {tt : TT} {te : TE} {it : IM} {gm : GM} {ix : List Nat} {t em : EM}
theorem so_asg {te : TE} {g : TG} {m : EM} {gm : GM} {ix : List Nat} {X' : Cx} {tg' : Expr} (he : Sound K W (RepV K) te m) (hg : DG K X' tg' g gm ix) : SoundS K W (tAsg te g) (sAsg m gm) := ⟨fun σ H s Z I r D w rs e p => by
  refine he.lift w rs e p fun d v M1 Z1 H1 I1 w1 rs1 x1 q1 e1 p1 => ?_
  have e1 : (match gm d ⟨s.l, M1⟩ with | some s1 => some (Fl.nx, s1) | none => none) = some r := e1
  cases z : gm d ⟨s.l, M1⟩ with
  | none => rw [z] at e1; cases e1
  | some s1 =>
    rw [z] at e1; cases e1
    exact hg.ok v d σ H1 ⟨s.l, M1⟩ s1 Z1 I1 _ w1 rs1 q1 z fun σ' Z' H' I' w' rs' x' _ => p1 σ' Z' H' I' w' rs' x'⟩
theorem ds_setLc {i : Nat} {vs : List Nat} {y : Str} {py spos : Pos} (hN : X.N.Nodup) (hc : X.calm = true) (hi : DI K X W tg iter wi it) (ok : BlkOk X.N X.env.scope scope own)
    (hg : ∀ (s : Shared) (H : Hp) (C : Addr) (cl : List (Str × Addr)) (fp : List Addr), DG K (X.blk s H scope (compEnvC scope cl C X.env) fp) tg g gm ix) (ht : ∀ (s : Shared) (H : Hp) (C : Addr) (cl : List (Str × Addr)) (fp : List Addr), DPT K (X.blk s H scope (compEnvC scope cl C X.env) fp) ifs tt t)
    (he : ∀ (s : Shared) (H : Hp) (C : Addr) (cl : List (Str × Addr)) (fp : List Addr), DE K (X.blk s H scope (compEnvC scope cl C X.env) fp) WF elt te em) (hy : X.N[i]? = some y := by rfl) (hyl : X.env.scope.names.lookup y = some .local := by rfl)
    (hsw : swapsWith (.ListComp elt [⟨tg, iter, ifs, 0⟩] scope pos) (some (.Name y py)) spos.line X.env = pure true := by exact sw_true rfl rfl rfl (by decide +kernel)) (hix : ∀ i ∈ ix, i ∈ own.map (·.2) := by decide) (hs : ∀ x, foldedSetIterable iter X.env x = pure x := by intro _; rfl) (hv : own.map (·.2) = vs := by rfl) :
    DS K X W (.Assign [.Name y py] (.ListComp elt [⟨tg, iter, ifs, 0⟩] scope pos) spos) (tAsg (tLc wi g tt te vs) (gName i)) (sAsg (mLc it vs gm t em) (gN i)) := by
  subst hv
  exact ⟨hi.k, ps_setLc hc hN hy hyl hsw hi.pi ok (fun s H C cl fp => (hg s H C cl fp).pg) (fun s H C cl fp => (ht s H C cl fp).pt) (fun s H C cl fp => (he s H C cl fp).pe) hs,
    so_asg (so_lc hi.so ⟨_, _, hg {} (fun _ => none) 0 [] []⟩ hix (ht {} (fun _ => none) 0 [] []).so (he {} (fun _ => none) 0 [] []).so) (dg_name hN hi.k hy (.inl hyl) (.inr hyl) : DG K X (.Name y py) _ _ _)⟩
theorem ds_setLcO {i : Nat} {vs : List Nat} {y : Str} {py spos : Pos} (hN : X.N.Nodup) (hc : X.calm = true) (hi : DI K X W tg iter wi it) (ok : BlkOk X.N X.env.scope scope own)
    (hg : ∀ (s : Shared) (H : Hp) (C : Addr) (cl : List (Str × Addr)) (fp : List Addr), DG K (X.blk s H scope (compEnvC scope cl C X.env) fp) tg g gm ix) (ht : ∀ (s : Shared) (H : Hp) (C : Addr) (cl : List (Str × Addr)) (fp : List Addr), DPT K (X.blk s H scope (compEnvC scope cl C X.env) fp) ifs tt t)
    (he : ∀ (s : Shared) (H : Hp) (C : Addr) (cl : List (Str × Addr)) (fp : List Addr), DE K (X.blk s H scope (compEnvC scope cl C X.env) fp) WF elt te em) (hy : X.N[i]? = some y := by rfl) (hyl : X.env.scope.names.lookup y = some .local := by rfl)
    (hsw : swapsWith (.ListComp elt [⟨tg, iter, ifs, 0⟩] scope pos) (some (.Name y py)) spos.line X.env = pure true := by exact sw_true rfl rfl rfl (by decide +kernel)) (hix : ∀ i ∈ ix, i ∈ own.map (·.2) := by decide) (hs : ∀ x, foldedSetIterable iter X.env x = pure x := by intro _; rfl) (hv : own.map (·.2) = vs := by rfl) :
    DS K X W (.Assign [.Name y py] (.ListComp elt [⟨tg, iter, ifs, 0⟩] scope pos) spos) (tAsg (tLc wi g tt te vs) (gName i)) (sAsg (mLcO it vs gm t em) (gN i)) := by
  subst hv
  exact ⟨hi.k, ps_setLc hc hN hy hyl hsw hi.pi ok (fun s H C cl fp => (hg s H C cl fp).pg) (fun s H C cl fp => (ht s H C cl fp).pt) (fun s H C cl fp => (he s H C cl fp).pe) hs,
    so_asg (so_lcO hi.so ⟨_, _, hg {} (fun _ => none) 0 [] []⟩ hix (ht {} (fun _ => none) 0 [] []).so (he {} (fun _ => none) 0 [] []).so) (dg_name hN hi.k hy (.inl hyl) (.inr hyl) : DG K X (.Name y py) _ _ _)⟩
end
/-! ### o[i] = v at a list of one's own -/
def setL (m : List O) (n : Nat) (i : Int) (d : DV) : Option (List O) := match m[n]? with
  | some (.lst ds) => match ixN ds.length i with
    | some j => some (m.set n (.lst (ds.set j d)))
    | none => none
  | _ => none
def gSetK (d x : DV) (y : D) : EM := fun s => match x, y with
  | .o n, .int j => match setL s.m n j d with
    | some M => some (.ok (.p .non) M)
    | none => none
  | _, _ => none
def gSet (o i : EM) : GM := fun d s => match bnd o (fun x => bnd i (pur (gSetK d x))) s with
  | some (.ok _ M) => some ⟨s.l, M⟩
  | _ => none
theorem dg_set {o i : Expr} {to ti : TE} {mo mi : EM} (ho : DE K X WF o to mo) (hi : DE K X WF i ti mi) (ha : ∀ v, assign (.Subscript o i pos) X.env v = (do
      let ov ← holding [v] (eval o X.env)
      let iv ← holding [v, ov] (eval i X.env)
      standAt pos
      holding [v, ov, iv] (setItem ov iv v)
      release [v, ov, iv] []) := by intro _; rfl) : DG K X (.Subscript o i pos) (gSub to ti rSetL) (gSet mo mi) [] :=
  ⟨ho.k, pg_sub ho.pe hi.pe set_list ha, fun v dv σ H s s' Z I Q w rs rv e q => by
    unfold gSet at e
    cases z : bnd mo (fun x => bnd mi (pur (gSetK dv x))) s with
    | none => rw [z] at e; cases e
    | some r0 =>
      rw [z] at e
      cases r0 with
      | ex c fs M => cases e
      | ok d0 M0 =>
        cases e
        refine ho.so.bnd w rs z (fun c fs M h => by cases h) fun x ov M1 Z1 H1 I1 w1 rs1 x1 q1 e1 => ?_
        refine hi.so.bnd (s := ⟨s.l, M1⟩) w1 rs1 e1 (fun c fs M h => by cases h) fun y iv M2 Z2 H2 I2 w2 rs2 x2 q2 e2 => ?_
        obtain ⟨y, rfl, e2⟩ := pur_ok e2
        cases x with
        | p d => cases e2
        | o n =>
          cases y with
          | int j =>
            have e2 : (match setL M2 n j dv with | some M => some (Rs.ok (DV.p .non) M) | none => none) = some (Rs.ok d0 M0) := e2
            obtain ⟨a, ha', rfl⟩ := q1.mono x2
            cases q2
            cases y : setL M2 n j dv with
            | none => rw [y] at e2; cases e2
            | some M3 =>
              rw [y] at e2
              obtain rfl : M3 = M0 := by cases e2; rfl
              unfold setL at y
              cases y1 : M2[n]? with
              | none => rw [y1] at y; cases y
              | some ob =>
                rw [y1] at y
                cases ob with
                | lst ds =>
                  have y : (match ixN ds.length j with | some j => some (M2.set n (.lst (ds.set j dv))) | none => none) = some M3 := y
                  cases y2 : ixN ds.length j with
                  | none => rw [y2] at y; cases y
                  | some k =>
                    rw [y2] at y; cases y
                    obtain ⟨_, xs, h1, h2⟩ := w2.ob n a _ ha' y1 (by intro z; cases z)
                    have y3 := ext_set (Z := Z2) (H := H2) (ho := .lst (xs.set k v)) (List.mem_of_getElem? ha')
                    have rv2 : RepV K Z2 I2 v dv := RepV.mono (x1.trans x2) rv
                    refine ⟨a, xs, j, k, rfl, rfl, h1, by rw [paired_len h2]; exact y2, ?_⟩
                    exact q σ Z2 _ I2 (w2.setO (o' := .lst (ds.set k dv)) ha' y1 (by intro z; cases z) ⟨_, upd_same, paired_set rv2 k h2⟩) (rs2.mono y3) ((x1.trans x2).trans y3) fun _ _ => rfl
                | _ => cases y
          | _ => cases e2⟩
/-! ### methods of built-in types -/
def tyOk (T : String) (M : List O) : DV → Bool
  | .p (.str _) => T == "str"
  | .p (.lst _) => T == "list"
  | .p (.klst _) => T == "list"
  | .p (.dK _) => T == "dict"
  | .p (.dT _) => T == "dict"
  | .o n => match M[n]? with
    | some (.lst _) => T == "list"
    | some (.dK _) => T == "dict"
    | some (.dT _) => T == "dict"
    | _ => false
  | _ => false
theorem ty_of {T : String} {Z H : Hp} {I : List Addr} {M : List O} {x : V} {d : DV} (w : Wf K Z H I M) (h : RepV K Z I x d) (e : tyOk T M d = true) : tyV K T x H := by
  cases d with
  | o n =>
    obtain ⟨a, ha, rfl⟩ := h
    unfold tyOk at e
    simp only at e
    cases z : M[n]? with
    | none => rw [z] at e; cases e
    | some o =>
      rw [z] at e
      cases o with
      | lst ds =>
        obtain ⟨_, xs, h1, _⟩ := w.ob n a _ ha z (by intro z; cases z)
        exact .inl ⟨by simpa using e, xs, SqL.of h1⟩
      | dK ds =>
        obtain ⟨_, xs, h1, _⟩ := w.ob n a _ ha z (by intro z; cases z)
        exact .inr (.inr (.inl ⟨by simpa using e, .inl ⟨xs, h1⟩⟩))
      | dT ds =>
        obtain ⟨_, xs, h1, _⟩ := w.ob n a _ ha z (by intro z; cases z)
        exact .inr (.inr (.inl ⟨by simpa using e, .inr ⟨xs, h1⟩⟩))
      | _ => cases e
  | p d =>
    have h : Rep K Z x d := h
    cases h with
    | str y => exact (by simpa [tyOk] using e : T = "str")
    | lst h1 h2 => exact .inl ⟨by simpa [tyOk] using e, _, .inl (same_rd w.sub h1)⟩
    | klst h1 h2 => exact .inl ⟨by simpa [tyOk] using e, _, same_l w.sub h1⟩
    | dK h1 h2 => exact .inr (.inr (.inl ⟨by simpa [tyOk] using e, .inl ⟨_, w.sub _ _ h1⟩⟩))
    | dT h1 h2 => exact .inr (.inr (.inl ⟨by simpa [tyOk] using e, .inr ⟨_, w.sub _ _ h1⟩⟩))
    | _ => cases e
abbrev MtG := DV → List DV → EM
structure MthD (K : PySem.W.Frag) (X : Cx) (id : String) (r : V → List V → Hp → VK → Prop) (g : MtG) : Prop where
  op : X.K = K → MtR X id r
  ok : ∀ (W : WX) (σ : St) (x : V) (d : DV) (vs : List V) (ds : List DV) (Z H : Hp) (I : List Addr) (s : S) (r0 : Rs DV) (Q : VK), Wf K Z H I s.m → RepV K Z I x d → RepVs K Z I vs ds → g d ds s = some r0 → PostR K W (RepV K) Z H I σ Q r0 → r x vs H Q
def mMth (T : String) (g : MtG) (o : EM) (ms : AM) : EM := bnd o fun d s => if tyOk T s.m d = true then bnd ms (fun ds => g d ds) s else none
theorem so_mth {T : String} {r : V → List V → Hp → VK → Prop} {g : MtG} {to : TE} {t : TA} {mo : EM} {ms : AM}
    (h : ∀ (W : WX) (σ : St) (x : V) (d : DV) (vs : List V) (ds : List DV) (Z H : Hp) (I : List Addr) (s : S) (r0 : Rs DV) (Q : VK), Wf K Z H I s.m → RepV K Z I x d → RepVs K Z I vs ds → g d ds s = some r0 → PostR K W (RepV K) Z H I σ Q r0 → r x vs H Q)
    (ho : Sound K W (RepV K) to mo) (ha : Sound K W (RepVs K) t ms) : Sound K W (RepV K) (tBM K T r to t) (mMth T g mo ms) := ⟨fun σ H s Z I r0 Q w rs e p => by
  refine ho.bnd w rs e p.x fun d v M1 Z1 H1 I1 w1 rs1 x1 q1 e1 => ?_
  have e1 : (if tyOk T M1 d = true then bnd ms (fun ds => g d ds) ⟨s.l, M1⟩ else none) = some r0 := e1
  split at e1
  · rename_i hty
    have p1 := p.mono x1
    refine ⟨ty_of w1 q1 hty, ha.bnd (s := ⟨s.l, M1⟩) w1 rs1 e1 p1.x fun ds vs M2 Z2 H2 I2 w2 rs2 x2 q2 e2 => ?_⟩
    exact h W σ v d vs ds Z2 H2 I2 ⟨s.l, M2⟩ r0 Q w2 (q1.mono x2) q2 e2 (p1.mono x2)
  · cases e1⟩
theorem de_mth {T id : String} {r : V → List V → Hp → VK → Prop} {g : MtG} {o : Expr} {name : Str} {apos cpos : Pos} {to : TE} {t : TA} {mo : EM} {ms : AM} (h : MthD K X id r g) (ho : DE K X W o to mo) (ha : DA K X W (e :: es) t ms) (pa : PlainAttrs T) (slot : Slot T name id) (hty : typeOf (.builtin id) = pure (.type "method_descriptor"))
    (hs : starEach (e :: es) X.env = (false, eval e X.env) :: starEach es X.env := by rfl) (hpl : (backTo cpos (starEach es X.env)).any (·.1) = false := by rfl)
    (hbase : attributeBase o name X.env (eval o X.env) = eval o X.env := by rfl) (hfew : ((((backTo cpos (starEach (e :: es) X.env)).all fun x => !x.1) && (backToKw cpos (keywordEach [] X.env)).all fun x => x.1.isSome) && decide (((e :: es).length + ([] : List Keyword).length + if ([] : List Keyword).isEmpty = true then 0 else 1) < 30)) = true := by rfl)
    (hline : (apos.endLine == cpos.line) = true := by rfl) : DE K X W (.Call (.Attribute o name apos) (e :: es) [] cpos) (tBM K T r to t) (mMth T g mo ms) := by
  refine ⟨ho.k, ?_, so_mth h.ok ho.so ha.so⟩
  have q := pe_bm (X := X) (cpos := cpos) (apos := apos) pa slot hty (h.op ho.k) ho.pe ha.pa (hbase := hbase) (hfew := hfew) (hline := hline) (hs := hs) (hplain := hpl)
  rw [ho.k] at q
  exact q
/-- data in, data out -/
def gP (g : D → List D → Option D) : MtG := fun d ds s => match d with
  | .p d => match allP ds with
    | some xs => ret (g d xs) s
    | none => none
  | .o _ => none
theorem gP_ok {r : V → List V → Hp → VK → Prop} {g : D → List D → Option D} (h : ∀ (x : V) (d : D) (vs : List V) (ds : List D) (c : D) (Z H : Hp) (Q : VK), Same Z H → Rep K Z x d → RepA K Z vs ds → g d ds = some c → PostP K Z H c Q → r x vs H Q) :
    ∀ (W : WX) (σ : St) (x : V) (d : DV) (vs : List V) (ds : List DV) (Z H : Hp) (I : List Addr) (s : S) (r0 : Rs DV) (Q : VK), Wf K Z H I s.m → RepV K Z I x d → RepVs K Z I vs ds → gP g d ds s = some r0 → PostR K W (RepV K) Z H I σ Q r0 → r x vs H Q := by
  intro W σ x d vs ds Z H I s r0 Q w hx hv e p
  cases d with
  | o n => cases e
  | p d =>
    have e : (match allP ds with | some xs => ret (g d xs) s | none => none) = some r0 := e
    cases q : allP ds with
    | none => rw [q] at e; cases e
    | some xs =>
      rw [q] at e
      obtain ⟨c, hc, rfl⟩ := ret_ok e
      exact h x d vs xs c Z H Q w.sub hx (allP_rep hv q) hc (PostP.of w p)
def gApp : MtG := fun d ds s => match d, ds with
  | .o n, [y] => match s.m[n]? with
    | some (.lst xs) => if xs.length < 1000000 then some (.ok (.p .non) (s.m.set n (.lst (xs ++ [y])))) else none
    | _ => none
  | _, _ => none
theorem md_app : MthD K X "list.append" rAppend gApp := ⟨fun _ => mt_append, fun W σ x d vs ds Z H I s r0 Q w hx hv e p => by
  unfold gApp at e
  split at e
  · rename_i n y
    obtain ⟨a, ha, rfl⟩ := hx
    cases hv with
    | cons h1 h2 =>
    cases h2
    split at e
    · rename_i xs hm
      split at e
      · rename_i hl
        cases e
        obtain ⟨_, ys, g1, g2⟩ := w.ob n a _ ha hm (by intro z; cases z)
        refine ⟨a, ys, _, rfl, rfl, g1, by rw [paired_len g2]; exact size_lt (Nat.le_of_lt hl), ?_⟩
        exact p _ Z _ I (w.setO ha hm (by intro z; cases z) ⟨_, upd_same, paired_app g2 (.cons h1 .nil)⟩) (ext_set (List.mem_of_getElem? ha)) .non
      · cases e
    · cases e
  · cases e⟩
/-! ### defs -/
def slotsOf (n : Nat) (ds : List DV) : List (Option DV) := ds.map some ++ List.replicate (n - ds.length) none
theorem start_rep {Z : Hp} {I : List Addr} {N : List Str} {vs : List V} {ds : List DV} (r : RepVs K Z I vs ds) : RepS K Z I (L2.start N vs) (slotsOf N.length ds) := by
  have hl := paired_len r
  refine ⟨by unfold L2.start slotsOf; simp [hl], fun i dv e => ?_⟩
  unfold slotsOf at e
  unfold L2.start
  by_cases hi : i < ds.length
  · rw [List.getElem?_append_left (by simpa using hi), List.getElem?_map] at e
    cases q : ds[i]? with
    | none => rw [q] at e; cases e
    | some d =>
      rw [q] at e
      cases e
      obtain ⟨v, h1, h2⟩ := paired_get r q
      exact ⟨v, by rw [List.getElem?_append_left (by simpa [hl] using hi), List.getElem?_map, h1]; rfl, h2⟩
  · rw [List.getElem?_append_right (by simpa using hi), List.getElem?_replicate] at e
    split at e <;> cases e
def runA (n : Nat) (m : SM) : MA := fun ds => match m ⟨slotsOf n (ds.map .p), []⟩ with
  | some (.nx, _) => some (.ok .non)
  | some (.rt (.p d), _) => some (.ok d)
  | some (.ex c fs, _) => some (.ex c fs)
  | _ => none
def ltO (k : Nat) : DV → Bool
  | .p _ => true
  | .o n => decide (n < k)
def closed (k : Nat) : O → Bool
  | .lst xs => xs.all (ltO k)
  | .dK xs => xs.all fun p => ltO k p.2
  | .dT xs => xs.all fun p => ltO k p.2
  | .ins _ xs => xs.all fun p => ltO k p.2
  | .tbl _ _ => true
  | .gone => true
def dropM (k : Nat) (d : DV) (M : List O) : List O := if (ltO k d && (M.take k).all (closed k)) = true then M.take k else M
def runB (n : Nat) (m : SM) : List DV → List O → Option (Rs DV) := fun ds M => match m ⟨slotsOf n ds, M⟩ with
  | some (.nx, s) => some (.ok (.p .non) (dropM M.length (.p .non) s.m))
  | some (.rt d, s) => some (.ok d (dropM M.length d s.m))
  | some (.ex c fs, s) => some (.ex c fs (dropM M.length (.p .non) s.m))
  | _ => none
theorem repV_take {Z : Hp} {I t : List Addr} {v : V} {d : DV} (h : RepV K Z (I ++ t) v d) (l : ltO I.length d = true) : RepV K Z I v d := by
  cases d with
  | p d => exact h
  | o n =>
    obtain ⟨a, ha, e⟩ := h
    have l : n < I.length := by simpa [ltO] using l
    exact ⟨a, by rw [List.getElem?_append_left l] at ha; exact ha, e⟩
theorem paired_all {α β : Type} {F G : α → β → Prop} {p : β → Bool} (k : ∀ a b, F a b → p b = true → G a b) : ∀ {xs : List α} {ys : List β}, Paired F xs ys → ys.all p = true → Paired G xs ys
  | _, _, .nil, _ => .nil
  | _, _, .cons h r, e => by
    rw [List.all_cons, Bool.and_eq_true] at e
    exact .cons (k _ _ h e.1) (paired_all k r e.2)
theorem wf_take {Z H : Hp} {I t : List Addr} {M : List O} (w : Wf K Z H (I ++ t) M) (l : (M.take I.length).all (closed I.length) = true) : Wf K Z H I (M.take I.length) where
  sub := w.sub
  len := by
    have := w.len
    rw [List.length_append] at this
    rw [List.length_take]; omega
  nd := (List.nodup_append.mp w.nd).1
  tr := fun a m => w.tr a (List.mem_append_left _ m)
  ob := fun n a o h1 h2 h3 => by
    have hn := (List.getElem?_eq_some_iff.mp h1).1
    have cl : closed I.length o = true := List.all_eq_true.mp l o (List.mem_of_getElem? h2)
    rw [List.getElem?_take_of_lt hn] at h2
    obtain ⟨q1, q2⟩ := w.ob n a o (by rw [List.getElem?_append_left hn]; exact h1) h2 h3
    refine ⟨q1, ?_⟩
    cases o with
    | lst ds => obtain ⟨xs, h, r⟩ := q2; exact ⟨xs, h, paired_all (p := ltO I.length) (fun _ _ q l => repV_take q l) r cl⟩
    | dK _ => obtain ⟨xs, h, r⟩ := q2; exact ⟨xs, h, paired_all (G := FRel K Z I) (p := fun p => ltO I.length p.2) (fun a b q l => (⟨q.1, repV_take q.2 l⟩ : FRel K Z I a b)) r cl⟩
    | dT _ => obtain ⟨xs, h, r⟩ := q2; exact ⟨xs, h, paired_all (G := FRel K Z I) (p := fun p => ltO I.length p.2) (fun a b q l => (⟨q.1, repV_take q.2 l⟩ : FRel K Z I a b)) r cl⟩
    | ins _ _ => obtain ⟨dx, xs, h, r⟩ := q2; exact ⟨dx, xs, h, paired_all (G := FRel K Z I) (p := fun p => ltO I.length p.2) (fun a b q l => (⟨q.1, repV_take q.2 l⟩ : FRel K Z I a b)) r cl⟩
    | tbl _ _ => exact q2
    | gone => trivial
theorem drop_ok {Z H Z' H' : Hp} {I I' : List Addr} {M M' : List O} {v : V} {d : DV} (w0 : Wf K Z H I M) (w : Wf K Z' H' I' M') (x : Ext Z H I Z' H' I') (r : RepV K Z' I' v d) : ∃ I2, Wf K Z' H' I2 (dropM M.length d M') ∧ Ext Z H I Z' H' I2 ∧ RepV K Z' I2 v d ∧ ∀ a ∈ I2, a ∈ I' := by
  unfold dropM
  split
  · rename_i h
    rw [Bool.and_eq_true] at h
    obtain ⟨t, rfl⟩ := x.i
    rw [← w0.len] at h ⊢
    exact ⟨I, wf_take w h.2, ⟨x.z, ⟨[], by simp⟩, x.fr, fun a m => .inl m, x.zn, x.tr⟩, repV_take r h.1, fun a m => List.mem_append_left _ m⟩
  · exact ⟨I', w, x, r, fun _ m => m⟩
section
variable {P : Program} {w : World} {mg : Str → Option Value} {base : Heap} {x qual : Str} {st : Stmt} {f : Addr} {fd : FuncData} {N ps : List Str} {k : Nat}
abbrev WE0 (E : XK) : WX := fun cls d _ H => E cls d H
theorem fnA {m : SM} (F : Fun K x qual st f fd) (Sc : FnScope N ps (defScope st))
    (body : ∀ (cdv : Value) (A : Around) (outer : List Env) (s : Shared) (H : Hp) (E : XK), Room k (A.deeper (PyProof.Rows.envOfC qual (defScope st) s.heap.objs.size f cdv)) →
      ∃ t, DSs K (cxOf (L2.CX P w) P w K mg base N qual (defScope st) f cdv A outer s H E) (WE0 E) (defBody st) t m) : FnOk P w K mg base (L2.CX P w) (k + 1) f fd ps (spA K ps.length (runA N.length m)) := by
  refine F.okX Sc spA_len fun cdv A outer s H vs Q E hr h => ?_
  obtain ⟨hl, Z, ds, r, sub, rp, e, p⟩ := h
  obtain ⟨t, b⟩ := body cdv A outer s H E hr
  refine ⟨t, b.ps, ?_⟩
  have w0 : Wf K Z H [] [] := ⟨sub, rfl, List.nodup_nil, (by simp), fun n a o h => by simp at h⟩
  unfold runA at e
  cases z : m ⟨slotsOf N.length (ds.map .p), []⟩ with
  | none => rw [z] at e; cases e
  | some fs =>
    rw [z] at e
    obtain ⟨fl, s1⟩ := fs
    have xp : ∀ {Z' H' I'}, Wf K Z' H' I' s1.m → Ext Z H [] Z' H' I' → ExtP Z H Z' H' := fun {Z' H' I'} w' x' => ⟨x'.z, fun a o q => x'.fr a o q (by simp), w'.sub, fun a q => by
      rcases x'.zn a q with k | k | k
      · exact .inl k
      · exact .inr k
      · cases k⟩
    refine b.so.ok (L2.start N vs) H _ Z [] _ _ w0 (start_rep (allP_map rp)) z ?_
    cases fl with
    | nx => cases e; exact fun σ' Z' H' I' w' rs' x' => p _ Z' H' (xp w' x') .non
    | rt d =>
      cases d with
      | p d => cases e; exact fun v Z' H' I' w' x' r' => p v Z' H' (xp w' x') r'
      | o n => cases e
    | ex c fs => cases e; exact fun σ' d Z' H' I' w' rs' x' ea na => p d Z' H' (xp w' x') ea fun a q => (na a q).1
    | bk => cases e
    | ct => cases e
theorem fnB {m : SM} (F : Fun K x qual st f fd) (Sc : FnScope N ps (defScope st))
    (body : ∀ (cdv : Value) (A : Around) (outer : List Env) (s : Shared) (H : Hp) (E : XK), Room k (A.deeper (PyProof.Rows.envOfC qual (defScope st) s.heap.objs.size f cdv)) →
      ∃ t, DSs K (cxOf (L2.CX P w) P w K mg base N qual (defScope st) f cdv A outer s H E) (WE0 E) (defBody st) t m) : FnOk P w K mg base (L2.CX P w) (k + 1) f fd ps (spB K ps.length (runB N.length m)) := by
  refine F.okX Sc spB_len fun cdv A outer s H vs Q E hr h => ?_
  obtain ⟨hl, Z, I, M, ds, r, w0, rp, e, p⟩ := h
  obtain ⟨t, b⟩ := body cdv A outer s H E hr
  refine ⟨t, b.ps, ?_⟩
  unfold runB at e
  cases z : m ⟨slotsOf N.length ds, M⟩ with
  | none => rw [z] at e; cases e
  | some fs =>
    rw [z] at e
    obtain ⟨fl, s1⟩ := fs
    refine b.so.ok (L2.start N vs) H ⟨slotsOf N.length ds, M⟩ Z I _ _ w0 (start_rep rp) z ?_
    cases fl with
    | nx =>
      cases e
      intro σ' Z' H' I' w' rs' x'
      obtain ⟨I2, w2, x2, r2, _⟩ := drop_ok (d := .p .non) (v := .non) w0 w' x' (show Rep K Z' .non .non from .non)
      exact p _ Z' H' I2 w2 x2 r2
    | rt d =>
      cases e
      intro v Z' H' I' w' x' r'
      obtain ⟨I2, w2, x2, r2, _⟩ := drop_ok w0 w' x' r'
      exact p v Z' H' I2 w2 x2 r2
    | ex c fs =>
      cases e
      intro σ' d Z' H' I' w' rs' x' ea na
      obtain ⟨I2, w2, x2, _, h2⟩ := drop_ok (d := .p .non) (v := .non) w0 w' x' (show Rep K Z' .non .non from .non)
      exact p d Z' H' I2 w2 x2 ea fun a q => ⟨(na a q).1, fun m => (na a q).2 (h2 a m)⟩
    | bk => cases e
    | ct => cases e
end
end
end DL
namespace DL
open PySem L2
/-! ### equality of data -/
mutual
def toP : D → PyData
  | .non => .none
  | .bl b => .bool b
  | .int i => .int i
  | .str s => .str s
  | .lst xs => .list (toPs xs)
  | .klst xs => .list (toPs xs)
  | .tup xs => .tuple (toPs xs)
  | .ktup xs => .tuple (toPs xs)
  | .dK _ => .dict []
  | .dT _ => .dict []
  | .fn _ => .dict []
  | .clo _ _ => .dict []
  | .scr _ => .dict []
  | .ty _ => .dict []
  | .rng _ _ => .dict []
def toPs : List D → List PyData
  | [] => []
  | d :: r => toP d :: toPs r
end
mutual
/-- the same, as == tells -/
def deq : D → D → Bool
  | .non, .non => true
  | .bl a, .bl b => a == b
  | .bl a, .int j => (if a then 1 else 0) == j
  | .int i, .bl b => i == (if b then 1 else 0)
  | .int i, .int j => i == j
  | .str x, .str y => x == y
  | .lst xs, .lst ys => deqs xs ys
  | .lst xs, .klst ys => deqs xs ys
  | .klst xs, .lst ys => deqs xs ys
  | .klst xs, .klst ys => deqs xs ys
  | .tup xs, .tup ys => deqs xs ys
  | .tup xs, .ktup ys => deqs xs ys
  | .ktup xs, .tup ys => deqs xs ys
  | .ktup xs, .ktup ys => deqs xs ys
  | _, _ => false
def deqs : List D → List D → Bool
  | [], [] => true
  | x :: xs, y :: ys => deq x y && deqs xs ys
  | _, _ => false
end
mutual
theorem deq_eqv : ∀ a b : D, PyData.eqv (toP a) (toP b) = deq a b
  | .lst xs, b => by
    cases b with
    | lst ys => exact deqs_eqv xs ys
    | klst ys => exact deqs_eqv xs ys
    | _ => rfl
  | .klst xs, b => by
    cases b with
    | lst ys => exact deqs_eqv xs ys
    | klst ys => exact deqs_eqv xs ys
    | _ => rfl
  | .tup xs, b => by
    cases b with
    | tup ys => exact deqs_eqv xs ys
    | ktup ys => exact deqs_eqv xs ys
    | _ => rfl
  | .ktup xs, b => by
    cases b with
    | tup ys => exact deqs_eqv xs ys
    | ktup ys => exact deqs_eqv xs ys
    | _ => rfl
  | .non, b => by cases b <;> rfl
  | .bl _, b => by cases b <;> rfl
  | .int _, b => by cases b <;> rfl
  | .str _, b => by cases b <;> rfl
  | .dK _, b => by cases b <;> rfl
  | .dT _, b => by cases b <;> rfl
  | .fn _, b => by cases b <;> rfl
  | .clo _ _, b => by cases b <;> rfl
  | .scr _, b => by cases b <;> rfl
  | .ty _, b => by cases b <;> rfl
  | .rng _ _, b => by cases b <;> rfl
theorem deqs_eqv : ∀ a b : List D, PyData.eqvAll (toPs a) (toPs b) = deqs a b
  | [], [] => rfl
  | x :: xs, y :: ys => by
    show (PyData.eqv (toP x) (toP y) && PyData.eqvAll (toPs xs) (toPs ys)) = (deq x y && deqs xs ys)
    rw [deq_eqv x y, deqs_eqv xs ys]
  | [], _ :: _ => rfl
  | _ :: _, [] => rfl
end
section
variable {K : PySem.W.Frag} {Z H : Hp}
mutual
theorem Rep.dp (s : Same Z H) : ∀ {v : V} {d : D}, Rep K Z v d → PyData.canLay0 (toP d) = true → Dp K H v (toP d)
  | _, _, .non, _ => .non
  | _, _, .bl b, _ => .bl b
  | _, _, .int i, _ => .int i
  | _, _, .str x, _ => .str x
  | _, _, .lst h r, e => .lst (.inl (same_rd s h)) (RepA.dp s r e)
  | _, _, .tup h r, e => .tup (sqt s h) (RepA.dp s r e)
  | _, _, .ktup h r, e => .tup (same_t s h) (RepA.dp s r e)
  | _, _, .klst h r, e => .lst (same_l s h) (RepA.dp s r e)
  | _, _, .dK _ _, e => by cases e
  | _, _, .dT _ _, e => by cases e
  | _, _, .fn _, e => by cases e
  | _, _, .clo _ _, e => by cases e
  | _, _, .scr _ _, e => by cases e
  | _, _, .ty _, e => by cases e
  | _, _, .rng _, e => by cases e
theorem RepA.dp (s : Same Z H) : ∀ {v : List V} {d : List D}, RepA K Z v d → PyData.canLayAll0 (toPs d) = true → DpAll K H v (toPs d)
  | _, _, .nil, _ => .nil
  | _, _, .cons h r, e => by
    have e : (PyData.canLay0 (toP _) && PyData.canLayAll0 (toPs _)) = true := e
    rw [Bool.and_eq_true] at e
    exact .cons (Rep.dp s h e.1) (RepA.dp s r e.2)
end
end
mutual
def okD : D → Bool
  | .non => true
  | .bl _ => true
  | .int _ => true
  | .str x => PyData.strOk x
  | .lst xs => okDs xs
  | .tup xs => okDs xs
  | .ktup xs => okDs xs
  | .klst xs => okDs xs
  | _ => false
def okDs : List D → Bool
  | [] => true
  | x :: xs => okD x && okDs xs
end
mutual
def depD : D → Nat
  | .lst xs => depDs xs + 1
  | .tup xs => depDs xs + 1
  | .ktup xs => depDs xs + 1
  | .klst xs => depDs xs + 1
  | _ => 0
def depDs : List D → Nat
  | [] => 0
  | x :: xs => max (depD x) (depDs xs)
end
mutual
theorem okD_can : ∀ d : D, okD d = true → PyData.canLay0 (toP d) = true
  | .non, _ => rfl
  | .bl _, _ => rfl
  | .int _, _ => rfl
  | .str x, h => h
  | .lst xs, h => okDs_can xs h
  | .tup xs, h => okDs_can xs h
  | .ktup xs, h => okDs_can xs h
  | .klst xs, h => okDs_can xs h
  | .dK _, h => by cases h
  | .dT _, h => by cases h
  | .fn _, h => by cases h
  | .clo _ _, h => by cases h
  | .scr _, h => by cases h
  | .ty _, h => by cases h
  | .rng _ _, h => by cases h
theorem okDs_can : ∀ d : List D, okDs d = true → PyData.canLayAll0 (toPs d) = true
  | [], _ => rfl
  | x :: xs, h => by
    have h : (okD x && okDs xs) = true := h
    rw [Bool.and_eq_true] at h
    show (PyData.canLay0 (toP x) && PyData.canLayAll0 (toPs xs)) = true
    rw [okD_can x h.1, okDs_can xs h.2]; rfl
end
mutual
theorem depD_dep : ∀ d : D, okD d = true → PyData.depth (toP d) = depD d
  | .non, _ => rfl
  | .bl _, _ => rfl
  | .int _, _ => rfl
  | .str x, _ => rfl
  | .lst xs, h => by show PyData.depthAll (toPs xs) + 1 = depDs xs + 1; rw [depDs_dep xs h]
  | .tup xs, h => by show PyData.depthAll (toPs xs) + 1 = depDs xs + 1; rw [depDs_dep xs h]
  | .ktup xs, h => by show PyData.depthAll (toPs xs) + 1 = depDs xs + 1; rw [depDs_dep xs h]
  | .klst xs, h => by show PyData.depthAll (toPs xs) + 1 = depDs xs + 1; rw [depDs_dep xs h]
  | .dK _, h => by cases h
  | .dT _, h => by cases h
  | .fn _, h => by cases h
  | .clo _ _, h => by cases h
  | .scr _, h => by cases h
  | .ty _, h => by cases h
  | .rng _ _, h => by cases h
theorem depDs_dep : ∀ d : List D, okDs d = true → PyData.depthAll (toPs d) = depDs d
  | [], _ => rfl
  | x :: xs, h => by
    have h : (okD x && okDs xs) = true := h
    rw [Bool.and_eq_true] at h
    show max (PyData.depth (toP x)) (PyData.depthAll (toPs xs)) = max (depD x) (depDs xs)
    rw [depD_dep x h.1, depDs_dep xs h.2]
end
def shp (d : D) : Bool := okD d && decide (depD d ≤ 64)
theorem shp_ok {d : D} (h : shp d = true) : SeqAt.shaped (toP d) = true := by
  unfold shp at h
  rw [Bool.and_eq_true] at h
  unfold SeqAt.shaped
  rw [okD_can d h.1, depD_dep d h.1, h.2]; rfl
/-- scalars are told apart at once; the rest has to be shaped -/
def scalD : D → D → Option Bool
  | .non, .non => some true
  | .non, .int _ => some false
  | .int _, .non => some false
  | .non, .bl _ => some false
  | .bl _, .non => some false
  | .non, .str _ => some false
  | .str _, .non => some false
  | .int i, .int j => some (i == j)
  | .bl i, .bl j => some (i == j)
  | .str x, .str y => some (x == y)
  | .int _, .str _ => some false
  | .str _, .int _ => some false
  | .bl _, .str _ => some false
  | .str _, .bl _ => some false
  | _, _ => none
def eqD (d e : D) : Option Bool := match scalD d e with
  | some b => some b
  | none => if (shp d && shp e) = true then some (deq d e) else none
def dEq (d e : D) : Option D := (eqD d e).map .bl
def dNe (d e : D) : Option D := (eqD d e).map fun b => .bl !b
theorem boolMap {α : Type} {o : Option α} {f : α → Bool} {c : D} (h : (o.map fun a => D.bl (f a)) = some c) : ∃ b, c = .bl b := by
  cases o with
  | none => cases h
  | some a => cases h; exact ⟨_, rfl⟩
theorem bool_dEq : boolD dEq := fun d e c h => boolMap (f := id) h
theorem bool_dNe : boolD dNe := fun d e c h => boolMap h
section
variable {K : PySem.W.Frag} {X : Cx}
theorem scal_ok {Z : Hp} {x y : V} {d e : D} {b : Bool} (hx : Rep K Z x d) (hy : Rep K Z y e) (h : scalD d e = some b) : scal x y = true ∧ decide (x = y) = b := by
  cases hx with
  | non => cases hy <;> cases h <;> exact ⟨rfl, rfl⟩
  | int i => cases hy with
    | int j => cases h; refine ⟨rfl, ?_⟩; by_cases q : i = j <;> simp [q]
    | non => cases h; exact ⟨rfl, rfl⟩
    | str _ => cases h; exact ⟨rfl, rfl⟩
    | _ => cases h
  | bl i => cases hy with
    | bl j => cases h; refine ⟨rfl, ?_⟩; by_cases q : i = j <;> simp [q]
    | non => cases h; exact ⟨rfl, rfl⟩
    | str _ => cases h; exact ⟨rfl, rfl⟩
    | _ => cases h
  | str i => cases hy with
    | str j => cases h; refine ⟨rfl, ?_⟩; by_cases q : i = j <;> simp [q]
    | non => cases h; exact ⟨rfl, rfl⟩
    | int _ => cases h; exact ⟨rfl, rfl⟩
    | bl _ => cases h; exact ⟨rfl, rfl⟩
    | _ => cases h
  | _ => cases hy <;> cases h
def rEqX (K : PySem.W.Frag) : R2 := fun x y H Q => rEq x y H Q ∨ rEqD K x y H Q
def rNeX (K : PySem.W.Frag) : R2 := fun x y H Q => rNe x y H Q ∨ rNeD K x y H Q
theorem shaped_can {d : D} (h : shp d = true) : PyData.canLay0 (toP d) = true := SeqAt.canLay_of_shaped (shp_ok h)
theorem od_eq (hu : X.A.units + 64 < cLine) : OpD K X (compareOp .Eq) (rEqX K) dEq where
  op := fun k pins s σ H x y v u Q I rx ry h => by
    subst k
    rcases h with h | h
    · exact op_eq pins s σ H x y v u Q I rx ry h
    · exact op_eqD hu pins s σ H x y v u Q I rx ry h
  ok := by
    intro x y d e c Z H Q s hx hy hg p
    unfold dEq eqD at hg
    cases z : scalD d e with
    | some b =>
      rw [z] at hg; cases hg
      obtain ⟨h1, h2⟩ := scal_ok hx hy z
      exact .inl ⟨h1, by rw [h2]; exact p _ Z H (ExtP.refl s) (.bl _)⟩
    | none =>
      rw [z] at hg
      have hg : (if (shp d && shp e) = true then some (deq d e) else none).map D.bl = some c := hg
      split at hg
      · rename_i hs
        cases hg
        rw [Bool.and_eq_true] at hs
        exact .inr ⟨_, _, hx.dp s (shaped_can hs.1), hy.dp s (shaped_can hs.2), shp_ok hs.1, shp_ok hs.2, by rw [deq_eqv]; exact p _ Z H (ExtP.refl s) (.bl _)⟩
      · cases hg
theorem od_ne (hu : X.A.units + 64 < cLine) : OpD K X (compareOp .NotEq) (rNeX K) dNe where
  op := fun k pins s σ H x y v u Q I rx ry h => by
    subst k
    rcases h with h | h
    · exact op_ne pins s σ H x y v u Q I rx ry h
    · exact op_neD hu pins s σ H x y v u Q I rx ry h
  ok := by
    intro x y d e c Z H Q s hx hy hg p
    unfold dNe eqD at hg
    cases z : scalD d e with
    | some b =>
      rw [z] at hg; cases hg
      obtain ⟨h1, h2⟩ := scal_ok hx hy z
      exact .inl ⟨h1, by rw [h2]; exact p _ Z H (ExtP.refl s) (.bl _)⟩
    | none =>
      rw [z] at hg
      have hg : (if (shp d && shp e) = true then some (deq d e) else none).map (fun b => D.bl !b) = some c := hg
      split at hg
      · rename_i hs
        cases hg
        rw [Bool.and_eq_true] at hs
        exact .inr ⟨_, _, hx.dp s (shaped_can hs.1), hy.dp s (shaped_can hs.2), shp_ok hs.1, shp_ok hs.2, by rw [deq_eqv]; exact p _ Z H (ExtP.refl s) (.bl _)⟩
      · cases hg
end
/-! ### slices -/
section
variable {K : PySem.W.Frag} {X : Cx} {W : WX} {e a b c : Expr} {es : List Expr} {pos : Pos}
def RepOI (_ : Hp) (_ : List Addr) (x y : Option Int) : Prop := x = y
abbrev PM := Mi (Option Int)
structure DP (K : PySem.W.Frag) (X : Cx) (W : WX) (e : Option Expr) (t : TO) (m : PM) : Prop where
  k : X.K = K
  po : PO X e t
  so : Sound K W RepOI t m
def pNone : PM := fun s => some (.ok none s.m)
def pSome (m : EM) : PM := bnd m (pur fun d s => match d with
  | .int i => some (.ok (some i) s.m)
  | _ => none)
theorem dp_none (k : X.K = K := by rfl) : DP K X W none tNoPart pNone := ⟨k, po_none, ⟨fun σ H s Z I r Q w rs e p => by
  cases e; exact p none Z H I w Ext.refl rfl⟩⟩
theorem dp_some {te : TE} {m : EM} (h : DE K X W e te m) : DP K X W (some e) (tPart te) (pSome m) := ⟨h.k, po_some h.pe, ⟨fun σ H s Z I r Q w rs e p => by
  refine h.so.bnd w rs e p.x fun d v M1 Z1 H1 I1 w1 rs1 x1 q1 e1 => ?_
  obtain ⟨d, rfl, e1⟩ := pur_ok e1
  cases d with
  | int i => cases q1; cases e1; exact ⟨i, rfl, p _ Z1 H1 I1 w1 x1 rfl⟩
  | _ => cases e1⟩⟩
def cutD {α : Type} (xs : List α) (lo hi : Option Int) : List α := (xs.drop (HT.sIx xs.length 0 lo)).take (HT.sIx xs.length xs.length hi - HT.sIx xs.length 0 lo)
def slD : D → Option Int → Option Int → Option D
  | .str z, l, u => if z.length ≤ 1000000 then some (.str (cutS z l u)) else none
  | .lst xs, l, u => some (.lst (cutD xs l u))
  | .scr xs, l, u => some (.lst (cutD xs l u))
  | .tup xs, l, u => if HT.sIx xs.length 0 l = 0 ∧ HT.sIx xs.length xs.length u = xs.length then some (.tup xs) else some (.tup (cutD xs l u))
  | _, _, _ => none
def mSl (m : EM) (l u : PM) : EM := bnd m (pur fun d => bnd l fun i => bnd u fun j => ret (slD d i j))
def rSl (K : PySem.W.Frag) : V → Option Int → Option Int → Hp → VK → Prop := fun x lo hi H Q => rSlS x lo hi H Q ∨ rSlL K x lo hi H Q ∨ (∃ a xs, x = .ref a ∧ SqT K H a xs ∧ ¬ (HT.sIx xs.length 0 lo = 0 ∧ HT.sIx xs.length xs.length hi = xs.length) ∧ ∀ p, H p = none → Q (.ref p) (upd H p (.tup (cutV xs lo hi))))
theorem RepA.cut {Z : Hp} {xs : List V} {ds : List D} (r : RepA K Z xs ds) (lo hi : Option Int) : RepA K Z (cutV xs lo hi) (cutD ds lo hi) := by
  unfold cutV cutD
  rw [r.length]
  exact (r.drop _).take _
theorem sl_any : SlR X (rSl X.K) := fun pins s σ H x v vl vu lo hi sl Q I rx hs pl pu h => by
  rcases h with h | h | h
  · exact sl_str pins s σ H x v vl vu lo hi sl Q I rx hs pl pu h
  · exact sl_list pins s σ H x v vl vu lo hi sl Q I rx hs pl pu h
  · exact sl_tup pins s σ H x v vl vu lo hi sl Q I rx hs pl pu h
theorem sl_ok {x : V} {d c : D} {lo hi : Option Int} {Z H : Hp} {Q : VK} (s : Same Z H) (hx : Rep K Z x d) (hg : slD d lo hi = some c) (p : PostP K Z H c Q) (nt : ∀ xs, d ≠ .tup xs) : rSl K x lo hi H Q := by
  cases hx with
  | str z =>
    have hg : (if z.length ≤ 1000000 then some (D.str (cutS z lo hi)) else none) = some c := hg
    split at hg
    · rename_i hl
      cases hg
      exact .inl ⟨z, rfl, size_le hl, p _ Z H (ExtP.refl s) (.str _)⟩
    · cases hg
  | lst h1 h2 =>
    cases hg
    exact .inr (.inl ⟨_, _, rfl, .inl (same_rd s h1), fun l hl => p _ _ _ (ExtP.new s hl) (.lst (.inl upd_same) ((h2.cut lo hi).mono (same_upd (none_of s hl))))⟩)
  | scr h1 h2 =>
    cases hg
    exact .inr (.inl ⟨_, _, rfl, same_l s h1, fun l hl => p _ _ _ (ExtP.new s hl) (.lst (.inl upd_same) ((h2.cut lo hi).mono (same_upd (none_of s hl))))⟩)
  | tup h1 h2 => exact absurd rfl (nt _)
  | _ => cases hg
/-- (tuples are not cut here) -/
def slE (d : D) (l u : Option Int) : Option D := match d with
  | .tup _ => none
  | d => slD d l u
theorem de_sl {te : TE} {tl th : TO} {m : EM} {ml mu : PM} {lo hi : Option Expr} {p2 : Pos} (h : DE K X W e te m) (hl : DP K X W lo tl ml) (hh : DP K X W hi th mu) : DE K X W (.Subscript e (.Slice lo hi none p2) pos) (tSl (rSl K) te tl th) (bnd m (pur fun d => bnd ml fun i => bnd mu fun j => ret (slE d i j))) := by
  refine ⟨h.k, ?_, ⟨fun σ H s Z I r0 Q w rs e p => ?_⟩⟩
  · have q := pe_slice (X := X) (pos := pos) (p2 := p2) sl_any h.pe hl.po hh.po
    rw [h.k] at q
    exact q
  · refine h.so.bnd w rs e p.x fun d v M1 Z1 H1 I1 w1 rs1 x1 q1 e1 => ?_
    obtain ⟨d, rfl, e1⟩ := pur_ok e1
    have p1 := p.mono x1
    refine hl.so.bnd (s := ⟨s.l, M1⟩) w1 rs1 e1 p1.x fun i i' M2 Z2 H2 I2 w2 rs2 x2 q2 e2 => ?_
    cases (show i' = i from q2)
    have p2 := p1.mono x2
    refine hh.so.bnd (s := ⟨s.l, M2⟩) w2 rs2 e2 p2.x fun j j' M3 Z3 H3 I3 w3 rs3 x3 q3 e3 => ?_
    cases (show j' = j from q3)
    obtain ⟨c, hc, rfl⟩ := ret_ok e3
    have hx : Rep K Z3 v d := Rep.mono x3.z (Rep.mono x2.z q1)
    unfold slE at hc
    split at hc
    · cases hc
    · rename_i hn
      exact sl_ok w3.sub hx hc (PostP.of w3 (p2.mono x3)) fun xs h => hn xs h
end
end DL
namespace DL
open PySem L2
section
variable {K : PySem.W.Frag} {X : Cx} {W : WX} {e a b c : Expr} {es : List Expr} {pos : Pos}
/-! ### isinstance -/
def tyName : D → Option String
  | .non => some "NoneType"
  | .bl _ => some "bool"
  | .int _ => some "int"
  | .str _ => some "str"
  | .lst _ => some "list"
  | .tup _ => some "tuple"
  | .ktup _ => some "tuple"
  | _ => none
theorem tyX_of {Z H : Hp} {x : V} {d : D} {n : String} (s : Same Z H) (h : Rep K Z x d) (e : tyName d = some n) : TyX K H x (.type n) := by
  cases h with
  | non => cases e; exact .base .non
  | bl b => cases e; exact .base (.bl b)
  | int b => cases e; exact .base (.int b)
  | str b => cases e; exact .base (.str b)
  | lst h1 h2 =>
    cases e
    rcases h1 with h1 | ⟨o, h1⟩
    · exact .base (.lst (s _ _ h1))
    · exact .base (.frz (s _ _ h1))
  | tup h1 h2 => cases e; exact .base (.tup (s _ _ h1))
  | ktup h1 h2 =>
    cases e
    rcases h1 with (h1 | ⟨o, h1⟩) | ⟨o, its, n, h1, h2, _⟩
    · exact .base (.tup (s _ _ h1))
    · exact .fTuple (s _ _ h1)
    · exact .kTuple h1 h2
  | _ => cases e
def dIsi : List O → List DV → Option D
  | _, [.p d, .p (.ty n)] => match tyName d with
    | some t => (kitB t n).map .bl
    | none => none
  | _, _ => none
theorem cd_isi : CallD K X (.builtin "isinstance") (rIsi K) dIsi := ⟨fun k => by rw [← k]; exact call_isi, fun vs ds c Z H I M Q w rv hg p => by
  unfold dIsi at hg
  split at hg
  · rename_i d n
    cases rv with
    | cons h1 h2 =>
    cases h2 with
    | cons h2 h3 =>
    cases h3
    split at hg
    · rename_i t ht
      cases z : kitB t n with
      | none => rw [z] at hg; cases hg
      | some r =>
        rw [z] at hg; cases hg
        cases h2
        exact ⟨_, _, .type t, .type n, r, rfl, .ty n, tyX_of w.sub h1 ht, kit_ty z, p _ Z H (ExtP.refl w.sub) (.bl _)⟩
    · cases hg
  · cases hg⟩
theorem de_bty {x : Str} {n : String} (hm : X.mg x = none) (hv : bootBuiltins x = some (.type n)) (k : X.K = K := by rfl) (hg : Gl X x := by rfl) (hn : x ≠ "__name__" := by decide) (hd : (x == ("__debug__" : Str)) = false := by decide) : DE K X W (.Name x pos) (tC (.ty n)) (mC (.ty n)) :=
  ⟨k, pe_bltn (v := .ty n) hg hm hv rfl hn hd, so_c fun _ => .ty n⟩
end
end DL
namespace DL
open PySem L2
abbrev dSub : D → D → Option D := dIi fun i j => i - j
abbrev dMul : D → D → Option D := dI fun i j => if mulOk i j = true then some (.int (i * j)) else none
abbrev dDiv : D → D → Option D := dI fun i j => if 0 < j ∧ j < 18446744073709551616 then some (.int (i / j)) else none
abbrev dMod : D → D → Option D := dI fun i j => if 0 < j then some (.int (i % j)) else none
abbrev dLt : D → D → Option D := dIb fun i j => decide (i < j)
abbrev dLe : D → D → Option D := dIb fun i j => decide (i ≤ j)
abbrev dGt : D → D → Option D := dIb fun i j => decide (j < i)
abbrev dGe : D → D → Option D := dIb fun i j => decide (j ≤ i)
def dNeg : D → Option D
  | .int i => some (.int (-i))
  | _ => none
theorem de_usub {K : PySem.W.Frag} {X : Cx} {W : WX} {a : Expr} {pos : Pos} {ta : TE} {m : EM} (ha : DE K X W a ta m) : DE K X W (.UnaryOp .USub a pos) (tUn (rU fun i => .int (-i)) ta) (mUn dNeg m) :=
  ⟨ha.k, pe_un un_neg ha.pe, so_un (fun x d c Z H Q s hx hg p => by
    unfold dNeg at hg
    split at hg
    · cases hx; cases hg; exact ⟨_, rfl, p _ Z H (ExtP.refl s) (.int _)⟩
    · cases hg) ha.so⟩
/-- a def of the top -/
structure Df (K : PySem.W.Frag) (mg : Str → Option Value) (nm : Str) (st : Stmt) (ps : List Str) where
  a : Addr
  fd : FuncData
  F : Fun K nm nm st a fd
  m : mg nm = some (.ref a)
  b : Binds K fd ps []
theorem intsRep {K : PySem.W.Frag} {Z : Hp} : ∀ ns : List Int, RepA K Z (ns.map V.int) (ns.map D.int)
  | [] => .nil
  | n :: r => .cons (.int n) (intsRep r)
theorem walk_dl {l : PySem.W.OpenLaw} {k : Nat} {q : Program} {loose : List Str} {XP : (Str → Option Value) → Heap → Prop} {YP : World → Heap → Prop} {d : DefRec} {K : Params → PySem.W.Frag} {f : MA} (hn : l.most = some 63) (hdf : d.params.defaults = []) (hr : Room k callerA)
    (hY : ∀ (w : World) (h : Heap), YP w h → (K w.params).In h)
    (F : ∀ (w : World) (mg : Str → Option Value) (fa : Addr) (h : Heap), (K w.params).In h → h.Ns mainGlobals mg → mg d.name = some (.ref fa) →
      ∃ fd : FuncData, (∀ (s : Shared) (u : Value), BindsTo s fd ⟨[u], []⟩ [("script", u)]) ∧ ∀ base : Heap, (K w.params).In base → base.Ns mainGlobals mg → FnOk l.prog w (K w.params) mg base (L2.CX l.prog w) k fa fd ["script"] (spA (K w.params) 1 f))
    (good : ∀ ns : List Int, ns.length ≤ 63 → (∀ z ∈ ns, Builtin.Int.intBits z ≤ 1048576) → f [.scr (ns.map .int)] = some (.ok (.bl true))) :
    PySem.W.WalkO q loose XP YP l.row.toRowW d [] (fun f vs => PySem.call f vs) :=
  walk_ofB (n := 63) (k := k) (x := "script") (CX := fun w => L2.CX l.prog w) (sp := fun w => spA (K w.params) 1 f) hn (by decide) hdf hr hY F
    (fun w H a ns hl hb ho hS => ⟨rfl, H, [.scr (ns.map .int)], .ok (.bl true), Same.refl _, .cons (.scr hS (intsRep ns)) .nil, good ns hl hb, fun v Z' H' x r => by cases r; rfl⟩)
    fun w H s e s' h => by
      obtain ⟨_, _, _, _, _, _, _, _, _, _, _, _, z⟩ := h
      exact z.elim
end DL
namespace DL
open PySem L2
/-- a constant of the top -/
structure GC (K : PySem.W.Frag) (mg : Str → Option Value) (x : Str) (d : D) where
  v : V
  u : Value
  m : mg x = some u
  r : RelV v u
  h : ∀ Z, Rep K Z v d
def gc_mk {K : PySem.W.Frag} {mg : Str → Option Value} {x : Str} {d : D} {v : V} {u : Value} (m : mg x = some u) (r : RelV v u) (h : ∀ Z, Rep K Z v d) : GC K mg x d := ⟨v, u, m, r, h⟩
theorem de_gc {K : PySem.W.Frag} {X : Cx} {W : WX} {x : Str} {d : D} {pos : Pos} {mg : Str → Option Value} (g : GC K mg x d) (hm : X.mg = mg := by rfl) (k : X.K = K := by rfl) (hg : Gl X x := by rfl) (hd : (x == ("__debug__" : Str)) = false := by decide) : DE K X W (.Name x pos) (tC g.v) (mC d) :=
  de_glob (by rw [hm]; exact g.m) g.r g.h k hg hd
def mSlE (m : EM) (l u : PM) : EM := bnd m (pur fun d => bnd l fun i => bnd u fun j => ret (slE d i j))
end DL
namespace DL
open PySem L2
/-! the mirror's equations -/
@[simp] theorem e_gv0 (x : Option DV) (r : List (Option DV)) : gv (x :: r) 0 = x := by unfold gv; cases x <;> rfl
@[simp] theorem e_gvS (x : Option DV) (r : List (Option DV)) (n : Nat) : gv (x :: r) (n + 1) = gv r n := by unfold gv; rfl
@[simp] theorem e_var (i : Nat) (s : S) : mVar i s = (match gv s.l i with | some d => some (.ok d s.m) | none => none) := rfl
@[simp] theorem e_c (d : D) (s : S) : mC d s = some (.ok (.p d) s.m) := rfl
theorem e_bnd {α γ : Type} (m : Mi α) (k : α → Mi γ) (s : S) : bnd m k s = (match m s with | some (.ok v M) => k v ⟨s.l, M⟩ | some (.ex c f M) => some (.ex c f M) | none => none) := rfl
@[simp] theorem e_pur {γ : Type} (k : D → Mi γ) (d : D) (s : S) : pur k (.p d) s = k d s := rfl
@[simp] theorem e_ret (d : D) (s : S) : ret (some d) s = some (.ok (.p d) s.m) := rfl
@[simp] theorem e_bin (g : D → D → Option D) (m n : EM) (s : S) : mBin g m n s = (bnd m (pur fun d => bnd n (pur fun e => ret (g d e)))) s := rfl
@[simp] theorem e_un (g : D → Option D) (m : EM) (s : S) : mUn g m s = (bnd m (pur fun d => ret (g d))) s := rfl
@[simp] theorem e_dI (g : Int → Int → Option D) (i j : Int) : dI g (.int i) (.int j) = g i j := rfl
@[simp] theorem e_addI (i j : Int) : dAdd (.int i) (.int j) = some (.int (i + j)) := rfl
@[simp] theorem e_addS (x y : Str) : dAdd (.str x) (.str y) = if x.length + y.length ≤ 1000000 then some (.str (x ++ y)) else none := rfl
@[simp] theorem e_neg (i : Int) : dNeg (.int i) = some (.int (-i)) := rfl
@[simp] theorem e_isN (m : EM) (s : S) : mIsN m s = (bnd m fun d s => some (.ok (.p (.bl (isNV d))) s.m)) s := rfl
@[simp] theorem e_notN (m : EM) (s : S) : mNotN m s = (bnd m fun d s => some (.ok (.p (.bl (!isNV d))) s.m)) s := rfl
@[simp] theorem e_isNVo (n : Nat) : isNV (.o n) = false := rfl
@[simp] theorem e_isNV0 : isNV (.p .non) = true := rfl
@[simp] theorem e_isNV1 (i : Int) : isNV (.p (.int i)) = false := rfl
@[simp] theorem e_isNV2 (i : Str) : isNV (.p (.str i)) = false := rfl
@[simp] theorem e_isNV3 (i : List D) : isNV (.p (.tup i)) = false := rfl
@[simp] theorem e_isNV4 (i : List D) : isNV (.p (.lst i)) = false := rfl
@[simp] theorem e_isNV5 (i : Bool) : isNV (.p (.bl i)) = false := rfl
@[simp] theorem e_tru (m : EM) (s : S) : mTru m s = (bnd m fun d s => match truM s.m d with | some b => some (.ok (.p (.bl b)) s.m) | none => none) s := rfl
@[simp] theorem e_truB (M : List O) (b : Bool) : truM M (.p (.bl b)) = some b := rfl
@[simp] theorem e_ifMt {γ : Type} (n k : Mi γ) (s : S) : ifM n k (.p (.bl true)) s = n s := rfl
@[simp] theorem e_ifMf {γ : Type} (n k : Mi γ) (s : S) : ifM n k (.p (.bl false)) s = k s := rfl
@[simp] theorem e_fls (s : S) : fls s = some (.ok (.p (.bl false)) s.m) := rfl
@[simp] theorem e_trus (s : S) : tru s = some (.ok (.p (.bl true)) s.m) := rfl
@[simp] theorem e_and (m n : EM) (s : S) : mAnd m n s = (bnd m (ifM n fls)) s := rfl
@[simp] theorem e_or (m n : EM) (s : S) : mOr m n s = (bnd m (ifM tru n)) s := rfl
@[simp] theorem e_not (m : EM) (s : S) : mNot m s = (bnd m (ifM fls tru)) s := rfl
@[simp] theorem e_ifE (c m n : EM) (s : S) : mIf c m n s = (bnd c (ifM m n)) s := rfl
@[simp] theorem e_chain (g h : D → D → Option D) (m n k : EM) (s : S) : mChain g h m n k s = (bnd m (pur fun d => bnd n (pur fun e => bnd (ret (g d e)) (ifM (bnd k (pur fun f => ret (h e f))) fls)))) s := rfl
@[simp] theorem e_aNil (s : S) : aNil s = some (.ok [] s.m) := rfl
@[simp] theorem e_aCons (m : EM) (ms : AM) (s : S) : aCons m ms s = (bnd m fun d => bnd ms fun ds s => some (.ok (d :: ds) s.m)) s := rfl
@[simp] theorem e_allP0 : allP [] = some [] := rfl
@[simp] theorem e_allP1 (d : D) (r : List DV) : allP (.p d :: r) = (allP r).map (d :: ·) := rfl
@[simp] theorem e_allPm (xs : List D) : allP (xs.map .p) = some xs := by
  induction xs with
  | nil => rfl
  | cons x r ih => show (allP (r.map .p)).map _ = _; rw [ih]; rfl
@[simp] theorem e_disp (g : List D → D) (ms : AM) (s : S) : disp g ms s = (bnd ms fun ds s => match allP ds with | some xs => if xs.length ≤ 1000000 then some (.ok (.p (g xs)) s.m) else none | none => none) s := rfl
@[simp] theorem e_dispO (ms : AM) (s : S) : dispO ms s = (bnd ms fun ds s => if ds.length ≤ 1000000 then some (.ok (.o s.m.length) (s.m ++ [.lst ds])) else none) s := rfl
def ixK (d : DV) (i : D) : EM := fun s => match i with
  | .int i => (match ixM s.m d i with
    | some c => some (.ok c s.m)
    | none => none)
  | _ => none
@[simp] theorem e_ix (m n : EM) (s : S) : mIx m n s = (bnd m fun d => bnd n (pur (ixK d))) s := rfl
@[simp] theorem e_ixK (d : DV) (i : Int) (s : S) : ixK d (.int i) s = (match ixM s.m d i with | some c => some (.ok c s.m) | none => none) := rfl
@[simp] theorem e_ixp (M : List O) (d : D) (i : Int) : ixM M (.p d) i = (ixD d i).map .p := rfl
@[simp] theorem e_ixo (M : List O) (n : Nat) (i : Int) : ixM M (.o n) i = ixO M[n]? i := rfl
@[simp] theorem e_ixl (xs : List D) (i : Int) : ixD (.lst xs) i = atI xs i := rfl
@[simp] theorem e_ixt (xs : List D) (i : Int) : ixD (.tup xs) i = atI xs i := rfl
@[simp] theorem e_ixO (xs : List DV) (i : Int) : ixO (some (.lst xs)) i = atI xs i := rfl
@[simp] theorem e_cb (g : List O → List DV → Option D) (ms : AM) (s : S) : mCB g ms s = (bnd ms fun ds s => ret (g s.m ds) s) s := rfl
@[simp] theorem e_g1 (g : D → Option D) (M : List O) (d : D) : g1 g M [.p d] = g d := rfl
@[simp] theorem e_abs (i : Int) : dAbs (.int i) = some (.int (if i < 0 then -i else i)) := rfl
@[simp] theorem e_int (i : Int) : dInt (.int i) = some (.int i) := rfl
@[simp] theorem e_intb (b : Bool) : dInt (.bl b) = some (.int (if b then 1 else 0)) := rfl
@[simp] theorem e_len (M : List O) (d : DV) : dLen M [d] = Option.map (fun (n : Nat) => D.int (n : Int)) (lenM M d) := rfl
@[simp] theorem e_lenp (M : List O) (d : D) : lenM M (.p d) = lenD d := rfl
@[simp] theorem e_leno (M : List O) (n : Nat) : lenM M (.o n) = lenO M[n]? := rfl
@[simp] theorem e_lenl (xs : List D) : lenD (.lst xs) = some xs.length := rfl
@[simp] theorem e_lent (xs : List D) : lenD (.tup xs) = some xs.length := rfl
@[simp] theorem e_lens (y : Str) : lenD (.str y) = if y.length ≤ 1000000 then some y.length else none := rfl
@[simp] theorem e_lenO (xs : List DV) : lenO (some (.lst xs)) = some xs.length := rfl
@[simp] theorem e_callA (n : Nat) (f : MA) (ms : AM) (s : S) : mCallA n f ms s = (bnd ms fun ds s => if ds.length = n then match allP ds with
  | some xs => match f xs with
    | some (.ok d) => some (.ok (.p d) s.m)
    | some (.ex c fs) => some (.ex c fs s.m)
    | none => none
  | none => none else none) s := rfl
@[simp] theorem e_callB (n : Nat) (f : List DV → List O → Option (Rs DV)) (ms : AM) (s : S) : mCallB n f ms s = (bnd ms fun ds s => if ds.length = n then f ds s.m else none) s := rfl
theorem e_lift {α : Type} (m : Mi α) (k : α → SM) (s : S) : liftS m k s = (match m s with | some (.ok v M) => k v ⟨s.l, M⟩ | some (.ex c f M) => some (.ex c f, ⟨s.l, M⟩) | none => none) := rfl
@[simp] theorem e_nil (s : S) : sNil s = some (.nx, s) := rfl
theorem e_seq (a b : SM) (s : S) : sSeq a b s = (match a s with | some (.nx, s1) => b s1 | r => r) := rfl
@[simp] theorem e_expr (m : EM) (s : S) : sExpr m s = (liftS m fun _ s => some (.nx, s)) s := rfl
@[simp] theorem e_sret (m : EM) (s : S) : sRet m s = (liftS m fun d s => some (.rt d, s)) s := rfl
@[simp] theorem e_ifSt (n k : SM) (s : S) : ifS n k (.p (.bl true)) s = n s := rfl
@[simp] theorem e_ifSf (n k : SM) (s : S) : ifS n k (.p (.bl false)) s = k s := rfl
@[simp] theorem e_sif (c : EM) (m n : SM) (s : S) : sIf c m n s = (liftS c (ifS m n)) s := rfl
@[simp] theorem e_gN (i : Nat) (d : DV) (s : S) : gN i d s = some ⟨s.l.set i (some d), s.m⟩ := rfl
@[simp] theorem e_asg (m : EM) (g : GM) (s : S) : sAsg m g s = (liftS m fun d s => match g d s with | some s1 => some (.nx, s1) | none => none) s := rfl
@[simp] theorem e_par (i j : Nat) (ms : AM) (s : S) : sPar i j ms s = (liftS ms fun ds s => match ds with | [d, f] => some (.nx, ⟨(s.l.set i (some d)).set j (some f), s.m⟩) | _ => none) s := rfl
@[simp] theorem e_loop0 (g : GM) (b : SM) (s : S) : loopS g b [] s = some (.nx, s) := rfl
@[simp] theorem e_for (it : IM) (g : GM) (b : SM) (s : S) : sFor it g b s = (liftS it fun ds => loopS g b ds) s := rfl
@[simp] theorem e_frz (m : EM) (s : S) : mFrz m s = (bnd m fun d s => match d with
  | .p d => some (.ok (.p d) s.m)
  | .o n => match s.m[n]? with
    | some (.lst ds) => match allP ds with
      | some xs => some (.ok (.p (.lst xs)) (s.m.set n .gone))
      | none => none
    | _ => none) s := rfl
theorem e_runA (n : Nat) (m : SM) (ds : List D) : runA n m ds = (match m ⟨slotsOf n (ds.map .p), []⟩ with
  | some (.nx, _) => some (.ok .non)
  | some (.rt (.p d), _) => some (.ok d)
  | some (.ex c fs, _) => some (.ex c fs)
  | _ => none) := rfl
theorem e_runB (n : Nat) (m : SM) (ds : List DV) (M : List O) : runB n m ds M = (match m ⟨slotsOf n ds, M⟩ with
  | some (.nx, s) => some (.ok (.p .non) (dropM M.length (.p .non) s.m))
  | some (.rt d, s) => some (.ok d (dropM M.length d s.m))
  | some (.ex c fs, s) => some (.ex c fs (dropM M.length (.p .non) s.m))
  | _ => none) := rfl
@[simp] theorem e_slots (n : Nat) (ds : List DV) : slotsOf n ds = ds.map some ++ List.replicate (n - ds.length) none := rfl
@[simp] theorem e_pNone (s : S) : pNone s = some (.ok none s.m) := rfl
@[simp] theorem e_pSome (m : EM) (s : S) : pSome m s = (bnd m (pur fun d s => match d with | .int i => some (.ok (some i) s.m) | _ => none)) s := rfl
@[simp] theorem e_slE (m : EM) (l u : PM) (s : S) : mSlE m l u s = (bnd m (pur fun d => bnd l fun i => bnd u fun j => ret (slE d i j))) s := rfl
@[simp] theorem e_itD (g : D → Option (List DV)) (m : EM) (s : S) : mItD g m s = (bnd m (pur fun d s => match g d with | some ds => some (.ok ds s.m) | none => none)) s := rfl
@[simp] theorem e_itL (xs : List D) : itL (.lst xs) = some (xs.map .p) := rfl
@[simp] theorem e_itT (xs : List D) : itT (.tup xs) = some (xs.map .p) := rfl
@[simp] theorem e_rng (g : List DV → Option (List DV)) (ms : AM) (s : S) : mRng g ms s = (bnd ms fun ds s => match g ds with | some xs => some (.ok xs s.m) | none => none) s := rfl
@[simp] theorem e_rng1 (j : Int) : rng1D [.p (.int j)] = if rngOk j = true then some (intsFrom 0 j.toNat) else none := rfl
@[simp] theorem e_rng2 (i j : Int) : rng2D [.p (.int i), .p (.int j)] = if rngOk i = true then if rngOk j = true then some (intsFrom i (j - i).toNat) else none else none := rfl
@[simp] theorem e_mth (T : String) (g : MtG) (o : EM) (ms : AM) (s : S) : mMth T g o ms s = (bnd o fun d s => if tyOk T s.m d = true then bnd ms (fun ds => g d ds) s else none) s := rfl
@[simp] theorem e_lc (it : IM) (vs : List Nat) (g : GM) (t e : EM) (s : S) : mLc it vs g t e s = (bnd it fun ds s => match compL (wipeL s.l vs) g t e ds [] s.m with | some (acc, M) => some (.ok (.p (.lst acc)) M) | none => none) s := rfl
@[simp] theorem e_lcO (it : IM) (vs : List Nat) (g : GM) (t e : EM) (s : S) : mLcO it vs g t e s = (bnd it fun ds s => match compL (wipeL s.l vs) g t e ds [] s.m with | some (acc, M) => some (.ok (.o M.length) (M ++ [.lst (acc.map .p)])) | none => none) s := rfl
@[simp] theorem e_wipe0 (l : List (Option DV)) : wipeL l [] = l := rfl
@[simp] theorem e_wipe1 (l : List (Option DV)) (v : Nat) (vs : List Nat) : wipeL l (v :: vs) = (wipeL l vs).set v none := rfl
@[simp] theorem e_yes (s : S) : tYesM s = some (.ok (.p (.bl true)) s.m) := rfl
@[simp] theorem e_eqD (d e : D) : dEq d e = (eqD d e).map .bl := rfl
@[simp] theorem e_neD (d e : D) : dNe d e = (eqD d e).map fun b => .bl !b := rfl
@[simp] theorem e_eqII (i j : Int) : eqD (.int i) (.int j) = some (decide (i = j)) := by show some (i == j) = _; rw [Bool.beq_eq_decide_eq]
@[simp] theorem e_eqSS (i j : Str) : eqD (.str i) (.str j) = some (decide (i = j)) := by
  show some (i == j) = _
  by_cases h : i = j <;> simp [h]
@[simp] theorem e_eqBB (i j : Bool) : eqD (.bl i) (.bl j) = some (decide (i = j)) := by show some (i == j) = _; rw [Bool.beq_eq_decide_eq]
@[simp] theorem e_eqNI (j : Int) : eqD .non (.int j) = some false := rfl
@[simp] theorem e_eqIN (j : Int) : eqD (.int j) .non = some false := rfl
@[simp] theorem e_eqNN : eqD .non .non = some true := rfl
@[simp] theorem mul2L (i : Int) : mulOk 2 i = true := by unfold mulOk; simp
end DL
namespace DL
open PySem L2
/-! the drawn numbers -/
def stateB : SM := (sSeq (sAsg (mLcO (mItD itL (mSlE (mVar 0) pNone (pSome (mC (.int 63))))) [2] (gN 2) tYesM (mCB (g1 dAbs) (aCons (mVar 2) aNil))) (gN 1))
  (sSeq (sIf (mBin dEq (mCB dLen (aCons (mVar 1) aNil)) (mC (.int 0))) (sAsg (dispO (aCons (mC (.int 0)) aNil)) (gN 1)) sNil)
  (sRet (dispO (aCons (mC (.int 0)) (aCons (mVar 1) aNil))))))
def stateM : List DV → List O → Option (Rs DV) := runB 3 stateB
def takeB : SM := (sSeq (sIf (mBin dLt (mVar 1) (mC (.int 1))) (sRet (mC (.int 0))) sNil)
  (sSeq (sAsg (mIx (mVar 0) (mC (.int 1))) (gN 2))
  (sSeq (sAsg (mBin dMod (mIx (mVar 0) (mC (.int 0))) (mCB dLen (aCons (mVar 2) aNil))) (gN 3))
  (sSeq (sAsg (mIx (mVar 2) (mVar 3)) (gN 4))
  (sSeq (sIf (mBin dGe (mVar 4) (mC (.int 1000000000000000000))) (sSeq (sAsg (mBin dDiv (mVar 4) (mVar 1)) (gSet (mVar 2) (mVar 3)))
  (sRet (mBin dMod (mVar 4) (mVar 1)))) sNil)
  (sSeq (sAsg (mBin dAdd (mIx (mVar 0) (mC (.int 0))) (mC (.int 1))) (gSet (mVar 0) (mC (.int 0))))
  (sSeq (sAsg (mBin dMod (mCB (g1 dInt) (aCons (mBin dAdd (mBin dMul (mVar 4) (mC (.int 48271))) (mBin dMul (mIx (mVar 0) (mC (.int 0))) (mC (.int 69621)))) aNil)) (mC (.int 2147483647))) (gN 5))
  (sSeq (sAsg (mBin dMod (mCB (g1 dInt) (aCons (mBin dAdd (mBin dMul (mVar 5) (mC (.int 16807))) (mBin dMul (mIx (mVar 0) (mC (.int 0))) (mC (.int 7919)))) aNil)) (mC (.int 1000000007))) (gN 5))
  (sRet (mBin dMod (mBin dDiv (mVar 5) (mC (.int 7))) (mVar 1)))))))))))
def takeM : List DV → List O → Option (Rs DV) := runB 6 takeB
structure Dr (n : Nat) (sv : DV) (M : List O) : Prop where
  len : M.length = n
  cl : M.all (closed n) = true
  ex : ∃ (k c : Nat) (i : Int) (cells : List Int), sv = .o k ∧ M[k]? = some (.lst [.p (.int i), .o c]) ∧ M[c]? = some (.lst (cells.map fun z => .p (.int z))) ∧ k ≠ c ∧ 0 ≤ i ∧ cells ≠ [] ∧ ∀ z ∈ cells, 0 ≤ z
theorem dropM_len {k : Nat} {d : DV} {M : List O} (h : M.length = k) : dropM k d M = M := by
  unfold dropM
  rw [List.take_of_length_le (by omega)]
  split <;> rfl
theorem dropM_app {k : Nat} {d : DL.D} {M g : List O} (h : M.length = k) (c : M.all (closed k) = true) : dropM k (.p d) (M ++ g) = M := by
  unfold dropM
  have e : (M ++ g).take k = M := by rw [← h, List.take_left]
  rw [e, c]
  rfl
theorem atI_nat' {α : Type} {xs : List α} {j : Int} {x : α} (h0 : 0 ≤ j) (h : xs[j.toNat]? = some x) : atI xs j = some x := by
  have hl := (List.getElem?_eq_some_iff.mp h).1
  unfold atI ixN
  rw [if_pos h0, if_pos (by omega)]
  exact h
theorem ixN_nat {n : Nat} {j : Int} (h0 : 0 ≤ j) (h : j < n) : ixN n j = some j.toNat := by
  unfold ixN
  rw [if_pos h0, if_pos h]
theorem atI0 {α : Type} (x : α) (xs : List α) : atI (x :: xs) 0 = some x := atI_nat' (by decide) rfl
theorem atI1 {α : Type} (x y : α) (xs : List α) : atI (x :: y :: xs) 1 = some y := atI_nat' (by decide) rfl
theorem all_set {p : O → Bool} {M : List O} {o : O} (h : M.all p = true) (ho : p o = true) (n : Nat) : (M.set n o).all p = true := by
  rw [List.all_eq_true] at h ⊢
  intro x hx
  rcases List.mem_or_eq_of_mem_set hx with h1 | h1
  · exact h x h1
  · rw [h1]; exact ho
theorem closed_ints (n : Nat) (cells : List Int) : closed n (.lst (cells.map fun z => .p (.int z))) = true := by
  show (cells.map fun z => DV.p (.int z)).all (ltO n) = true
  rw [List.all_map]
  exact List.all_eq_true.mpr fun _ _ => rfl
theorem set_map (cells : List Int) (j : Nat) (z : Int) : (cells.map fun z => DV.p (.int z)).set j (.p (.int z)) = (cells.set j z).map fun z => DV.p (.int z) := by
  rw [List.map_set]
theorem get_map {cells : List Int} {j : Nat} (h : j < cells.length) : (cells.map fun z => DV.p (.int z))[j]? = some (.p (.int cells[j])) := by
  rw [List.getElem?_map, List.getElem?_eq_getElem h]; rfl
theorem e_set (o i : EM) (d : DV) (s : S) : gSet o i d s = (match bnd o (fun x => bnd i (pur (gSetK d x))) s with | some (.ok _ M) => some ⟨s.l, M⟩ | _ => none) := rfl
theorem e_setK (d : DV) (n : Nat) (j : Int) (s : S) : gSetK d (.o n) (.int j) s = (match setL s.m n j d with | some M => some (.ok (.p .non) M) | none => none) := rfl
theorem setL_ok {M : List O} {n : Nat} {ds : List DV} {j : Int} {d : DV} (h : M[n]? = some (.lst ds)) (h0 : 0 ≤ j) (h1 : j < ds.length) : setL M n j d = some (M.set n (.lst (ds.set j.toNat d))) := by
  unfold setL
  rw [h]
  show (match ixN ds.length j with | some j => some (M.set n (.lst (ds.set j d))) | none => none) = _
  rw [ixN_nat h0 h1]
theorem mulOkR (i j : Int) (h : -18446744073709551616 < j) (h' : j < 18446744073709551616) : mulOk i j = true := by
  unfold mulOk
  have e : (2 : Int) ^ 64 = 18446744073709551616 := by decide
  simp only [e, Bool.or_eq_true, decide_eq_true_eq]
  exact .inr ⟨h, h'⟩
theorem take_spec {n : Nat} {sv : DV} {M : List O} (h : Dr n sv M) (most : Int) (hm : most < 18446744073709551616) : ∃ r M', takeM [sv, .p (.int most)] M = some (.ok (.p (.int r)) M') ∧ Dr n sv M' ∧ (most < 1 → r = 0) ∧ (1 ≤ most → 0 ≤ r ∧ r < most) := by
  obtain ⟨k, c, i, cells, rfl, hk, hc, kc, hi, ne, nn⟩ := h.ex
  by_cases h1 : most < 1
  · refine ⟨0, M, ?_, h, fun _ => rfl, fun h2 => by omega⟩
    simp [e_bnd, e_seq, e_lift, e_runA, e_runB, takeM, takeB, h1, dropM_len h.len, h.len]
  · have hl : 0 < cells.length := List.length_pos_iff.mpr ne
    have hl' : (0 : Int) < (cells.length : Int) := by omega
    have a0 : 0 ≤ i % (cells.length : Int) := Int.emod_nonneg _ (by omega)
    have a1 : i % (cells.length : Int) < (cells.length : Int) := Int.emod_lt_of_pos _ hl'
    have aN : (i % (cells.length : Int)).toNat < cells.length := by omega
    have hg := atI_nat' (xs := cells.map fun z => DV.p (.int z)) a0 (get_map aN)
    have cn : 0 ≤ cells[(i % (cells.length : Int)).toNat] := nn _ (List.getElem_mem aN)
    generalize hz : cells[(i % (cells.length : Int)).toNat] = z at hg cn
    have m0 : 0 < most := by omega
    by_cases h2 : 1000000000000000000 ≤ z
    · refine ⟨z % most, M.set c (.lst ((cells.set (i % (cells.length : Int)).toNat (z / most)).map fun z => .p (.int z))), ?_, ⟨by rw [List.length_set]; exact h.len, all_set h.cl (closed_ints n _) c, k, c, i, _, rfl, by rw [List.getElem?_set_ne kc.symm]; exact hk, by rw [List.getElem?_set_self (List.getElem?_eq_some_iff.mp hc).1], kc, hi, ?_, ?_⟩, fun h3 => absurd h3 h1, fun _ => ⟨Int.emod_nonneg _ (by omega), Int.emod_lt_of_pos _ m0⟩⟩
      · have hs := setL_ok (M := M) (n := c) (d := .p (.int (z / most))) hc a0 (by rw [List.length_map]; exact a1)
        simp [e_bnd, e_seq, e_lift, e_runA, e_runB, takeM, takeB, h1, hk, hc, atI0, atI1, hl, hl', hg, h2, e_set, e_setK, m0, hm, hs, h.len, dropM_len]
      · simpa using ne
      · intro y hy
        rcases List.mem_or_eq_of_mem_set hy with q | q
        · exact nn y q
        · rw [q]; exact Int.ediv_nonneg cn (by omega)
    · have hs := setL_ok (M := M) (n := k) (d := .p (.int (i + 1))) (j := 0) hk (by decide) (by simp)
      have hk' : (M.set k (.lst [DV.p (.int (i + 1)), .o c]))[k]? = some (.lst [.p (.int (i + 1)), .o c]) := by
        rw [List.getElem?_set_self (List.getElem?_eq_some_iff.mp hk).1]
      refine ⟨((((z * 48271 + (i + 1) * 69621) % 2147483647) * 16807 + (i + 1) * 7919) % 1000000007) / 7 % most, M.set k (.lst [.p (.int (i + 1)), .o c]), ?_, ⟨by rw [List.length_set]; exact h.len, all_set h.cl ?_ k, k, c, i + 1, cells, rfl, hk', by rw [List.getElem?_set_ne kc]; exact hc, kc, by omega, ne, nn⟩, fun h3 => absurd h3 h1, fun _ => ⟨Int.emod_nonneg _ (by omega), Int.emod_lt_of_pos _ m0⟩⟩
      · simp [e_bnd, e_seq, e_lift, e_runA, e_runB, takeM, takeB, h1, hk, hc, atI0, atI1, hl, hl', hg, h2, e_set, e_setK, m0, hm, hs, hk', h.len, dropM_len, mulOkR]
      · have := List.all_eq_true.mp h.cl _ (List.mem_of_getElem? hk)
        exact this
end DL
namespace DL
open PySem L2
theorem compL_fm {l : List (Option DV)} {g : GM} {t e : EM} {p : DV → Bool} {f : DV → D} {M : List O} : ∀ (ds : List DV) (acc : List D),
    (∀ d ∈ ds, ∃ s1 : S, g d ⟨l, M⟩ = some s1 ∧ t s1 = some (.ok (.p (.bl (p d))) M) ∧ (p d = true → e ⟨s1.l, M⟩ = some (.ok (.p (f d)) M))) → acc.length + ds.length ≤ 1000000 →
    compL l g t e ds acc M = some (acc ++ (ds.filter p).map f, M)
  | [], acc, _, _ => by simp [compL]
  | d :: ds, acc, h, hl => by
    obtain ⟨s1, h1, h2, h3⟩ := h d (by simp)
    have hl' : acc.length + (ds.length + 1) ≤ 1000000 := hl
    unfold compL
    rw [h1]
    dsimp only
    rw [h2]
    cases hp : p d with
    | true =>
      dsimp only
      rw [h3 hp]
      dsimp only
      rw [if_pos (by omega), compL_fm ds (acc ++ [f d]) (fun x hx => h x (by simp [hx])) (by simp; omega)]
      simp [hp]
    | false =>
      dsimp only
      rw [compL_fm ds acc (fun x hx => h x (by simp [hx])) (by omega)]
      simp [hp]
theorem compL_map {l : List (Option DV)} {g : GM} {t e : EM} {f : DV → D} {M : List O} (ds : List DV)
    (h : ∀ d ∈ ds, ∃ s1 : S, g d ⟨l, M⟩ = some s1 ∧ t s1 = some (.ok (.p (.bl true)) M) ∧ e ⟨s1.l, M⟩ = some (.ok (.p (f d)) M)) (hl : ds.length ≤ 1000000) : compL l g t e ds [] M = some (ds.map f, M) := by
  have q := compL_fm (p := fun _ => true) (f := f) ds [] (l := l) (g := g) (t := t) (e := e) (M := M) (fun d hd => by
    obtain ⟨s1, h1, h2, h3⟩ := h d hd
    exact ⟨s1, h1, h2, fun _ => h3⟩) (by simpa using hl)
  rw [q, List.filter_eq_self.mpr (fun _ _ => rfl)]
  rfl
theorem dropM_own {n : Nat} {M : List O} : dropM 0 (.o n) M = M := by simp [dropM, ltO]
theorem cut63 {α : Type} (xs : List α) (h : xs.length ≤ 63) : cutD xs none (some 63) = xs := by
  unfold cutD
  rw [HT.sIx_none, show (63 : Int) = ((63 : Nat) : Int) from rfl, HT.sIx_nat, List.drop_zero]
  exact List.take_of_length_le (by omega)
def iabs (i : Int) : Int := if i < 0 then -i else i
theorem state_spec (ns : List Int) (hl : ns.length ≤ 63) : ∃ n sv M, stateM [.p (.scr (ns.map .int))] [] = some (.ok sv M) ∧ Dr n sv M := by
  have hc : slE (.scr (ns.map D.int)) none (some 63) = some (.lst (ns.map D.int)) := by
    show some (D.lst (cutD (ns.map D.int) none (some 63))) = _
    rw [cut63 _ (by simpa using hl)]
  have hm : compL [some (.p (.scr (ns.map .int))), none, none] (gN 2) tYesM (mCB (g1 dAbs) (aCons (mVar 2) aNil)) ((ns.map D.int).map DV.p) [] [] = some ((ns.map iabs).map D.int, []) := by
    rw [compL_map (f := fun d => match d with | .p (.int i) => .int (iabs i) | _ => .non) ((ns.map D.int).map DV.p) (fun d hd => by
      rw [List.map_map] at hd
      obtain ⟨i, _, rfl⟩ := List.mem_map.mp hd
      exact ⟨_, rfl, rfl, by simp [e_bnd, iabs]⟩) (by simp; omega)]
    simp
  have e0 : (ns.map iabs).map D.int = [] → ns = [] := by simp
  by_cases he : ns = []
  · refine ⟨3, .o 2, [.lst [], .lst [.p (.int 0)], .lst [.p (.int 0), .o 1]], ?_, rfl, rfl, 2, 1, 0, [0], rfl, rfl, rfl, by decide, by decide, by simp, by simp⟩
    subst he
    simp [e_bnd, e_seq, e_lift, e_runA, e_runB, stateM, stateB, hc, hm, dropM_own]
    rfl
  · refine ⟨2, .o 1, [.lst ((ns.map iabs).map fun z => .p (.int z)), .lst [.p (.int 0), .o 0]], ?_, rfl, ?_, 1, 0, 0, ns.map iabs, rfl, rfl, rfl, by decide, by decide, by simpa using he, ?_⟩
    · generalize hA : (ns.map iabs) = A at hm
      have hA' : A ≠ [] := by rw [← hA]; simpa using he
      have hA2 : ¬ A.length = 0 := by
        intro h; exact hA' (List.length_eq_zero_iff.mp h)
      generalize hB : ns.map D.int = B at hm hc
      simp [e_bnd, e_seq, e_lift, e_runA, e_runB, stateM, stateB, hc, hm, dropM_own, hA', hA2]
    · show (closed 2 _ && _) = true
      rw [closed_ints]; rfl
    · intro z hz
      obtain ⟨i, _, rfl⟩ := List.mem_map.mp hz
      unfold iabs; split <;> omega
theorem at_mem {α : Type} {xs : List α} {j : Int} (h0 : 0 ≤ j) (h : j < xs.length) : ∃ x, atI xs j = some x ∧ x ∈ xs := by
  have hj : j.toNat < xs.length := by omega
  exact ⟨xs[j.toNat], atI_nat' h0 (List.getElem?_eq_getElem hj), List.getElem_mem hj⟩
theorem ints0 (lo : Int) : DL.intsFrom lo 0 = [] := rfl
theorem intsS (lo : Int) (n : Nat) : DL.intsFrom lo (n + 1) = .p (.int lo) :: DL.intsFrom (lo + 1) n := by
  unfold DL.intsFrom
  rw [List.range_succ_eq_map, List.map_cons, List.map_map]
  have e : lo + ((0 : Nat) : Int) = lo := by omega
  rw [e]
  congr 1
  refine List.map_congr_left fun i _ => ?_
  show DV.p (.int (lo + ((i + 1 : Nat) : Int))) = DV.p (.int (lo + 1 + (i : Int)))
  congr 2; omega
theorem loopS_cons {g : GM} {b : SM} {d : DV} {ds : List DV} {s : S} : loopS g b (d :: ds) s = (match g d s with
    | none => none
    | some s1 => match b s1 with
      | none => none
      | some (.nx, s2) => loopS g b ds s2
      | some (.ct, s2) => loopS g b ds s2
      | some (.bk, s2) => some (.nx, s2)
      | some (.rt v, s2) => some (.rt v, s2)
      | some (.ex c f, s2) => some (.ex c f, s2)) := rfl
end DL
namespace DL
open PySem L2
/-! going through a mirror step by step -/
def wpB {α : Type} (o : Option (Rs α)) (P : α → List O → Prop) : Prop := ∃ v M, o = some (.ok v M) ∧ P v M
def noX : Fl → Bool
  | .ex _ _ => false
  | _ => true
def wpS (o : Option (Fl × S)) (P : Fl → S → Prop) : Prop := ∃ f s, o = some (f, s) ∧ noX f = true ∧ P f s
def wpA (o : Option RD) (P : D → Prop) : Prop := ∃ d, o = some (.ok d) ∧ P d
@[simp] theorem w_ok {α : Type} (v : α) (M : List O) (P : α → List O → Prop) : wpB (some (.ok v M)) P ↔ P v M := ⟨fun ⟨_, _, e, h⟩ => by cases e; exact h, fun h => ⟨_, _, rfl, h⟩⟩
@[simp] theorem w_no {α : Type} (P : α → List O → Prop) : wpB none P ↔ False := ⟨fun ⟨_, _, e, h⟩ => (by cases e), fun h => False.elim h⟩
@[simp] theorem w_bnd {α γ : Type} (m : Mi α) (k : α → Mi γ) (s : S) (P : γ → List O → Prop) : wpB (bnd m k s) P ↔ wpB (m s) fun v M => wpB (k v ⟨s.l, M⟩) P := by
  constructor
  · rintro ⟨v, M, e, h⟩
    unfold bnd at e
    cases q : m s with
    | none => rw [q] at e; cases e
    | some r =>
      rw [q] at e
      cases r with
      | ok a M1 => exact ⟨a, M1, rfl, v, M, e, h⟩
      | ex c f M1 => cases e
  · rintro ⟨a, M1, e, v, M, e2, h⟩
    exact ⟨v, M, by unfold bnd; rw [e]; exact e2, h⟩
@[simp] theorem w_sok (f : Fl) (s : S) (P : Fl → S → Prop) : wpS (some (f, s)) P ↔ noX f = true ∧ P f s := ⟨fun ⟨_, _, e, h⟩ => by cases e; exact h, fun h => ⟨_, _, rfl, h⟩⟩
@[simp] theorem w_sno (P : Fl → S → Prop) : wpS none P ↔ False := ⟨fun ⟨_, _, e, h⟩ => (by cases e), fun h => False.elim h⟩
@[simp] theorem noX1 : noX .nx = true := rfl
@[simp] theorem noX2 (v : DV) : noX (.rt v) = true := rfl
@[simp] theorem noX3 : noX .bk = true := rfl
@[simp] theorem noX4 : noX .ct = true := rfl
/-- what follows a statement -/
def andS (b : SM) (P : Fl → S → Prop) : Fl → S → Prop
  | .nx, s => wpS (b s) P
  | f, s => P f s
@[simp] theorem w_andN (b : SM) (P : Fl → S → Prop) (s : S) : andS b P .nx s = wpS (b s) P := rfl
@[simp] theorem w_andR (b : SM) (P : Fl → S → Prop) (v : DV) (s : S) : andS b P (.rt v) s = P (.rt v) s := rfl
@[simp] theorem w_seq (a b : SM) (s : S) (P : Fl → S → Prop) : wpS (sSeq a b s) P ↔ wpS (a s) (andS b P) := by
  constructor
  · rintro ⟨f, s', e, n, h⟩
    unfold sSeq at e
    cases q : a s with
    | none => rw [q] at e; cases e
    | some r =>
      rw [q] at e
      obtain ⟨f1, s1⟩ := r
      refine ⟨f1, s1, rfl, ?_⟩
      cases f1 with
      | nx => exact ⟨rfl, f, s', e, n, h⟩
      | _ => cases e; exact ⟨n, h⟩
  · rintro ⟨f1, s1, e, n, h⟩
    cases f1 with
    | nx =>
      obtain ⟨f, s', e2, n, h⟩ := h
      exact ⟨f, s', by unfold sSeq; rw [e]; exact e2, n, h⟩
    | _ => exact ⟨_, s1, by unfold sSeq; rw [e], n, h⟩
@[simp] theorem w_lift {α : Type} (m : Mi α) (k : α → SM) (s : S) (P : Fl → S → Prop) : wpS (liftS m k s) P ↔ wpB (m s) fun v M => wpS (k v ⟨s.l, M⟩) P := by
  constructor
  · rintro ⟨f, s', e, n, h⟩
    unfold liftS at e
    cases q : m s with
    | none => rw [q] at e; cases e
    | some r =>
      rw [q] at e
      cases r with
      | ok a M1 => exact ⟨a, M1, rfl, f, s', e, n, h⟩
      | ex c f M1 => cases e; cases n
  · rintro ⟨a, M1, e, f, s', e2, n, h⟩
    exact ⟨f, s', by unfold liftS; rw [e]; exact e2, n, h⟩
def endB (k : Nat) (P : DV → List O → Prop) : Fl → S → Prop
  | .nx, s => P (.p .non) (dropM k (.p .non) s.m)
  | .rt d, s => P d (dropM k d s.m)
  | _, _ => False
@[simp] theorem w_endBn (k : Nat) (P : DV → List O → Prop) (s : S) : endB k P .nx s = P (.p .non) (dropM k (.p .non) s.m) := rfl
@[simp] theorem w_endBr (k : Nat) (P : DV → List O → Prop) (d : DV) (s : S) : endB k P (.rt d) s = P d (dropM k d s.m) := rfl
@[simp] theorem w_runB (n : Nat) (m : SM) (ds : List DV) (M : List O) (P : DV → List O → Prop) : wpB (runB n m ds M) P ↔ wpS (m ⟨slotsOf n ds, M⟩) (endB M.length P) := by
  constructor
  · rintro ⟨v, M1, e, h⟩
    rw [e_runB] at e
    cases q : m ⟨slotsOf n ds, M⟩ with
    | none => rw [q] at e; cases e
    | some r =>
      rw [q] at e
      obtain ⟨f1, s1⟩ := r
      cases f1 with
      | nx => cases e; exact ⟨_, _, rfl, rfl, h⟩
      | rt d => cases e; exact ⟨_, _, rfl, rfl, h⟩
      | _ => cases e
  · rintro ⟨f1, s1, e, n, h⟩
    cases f1 with
    | nx => exact ⟨_, _, by rw [e_runB, e], h⟩
    | rt d => exact ⟨_, _, by rw [e_runB, e], h⟩
    | _ => exact False.elim h
def endA (P : D → Prop) : Fl → S → Prop
  | .nx, s => P .non
  | .rt (.p d), s => P d
  | _, _ => False
@[simp] theorem w_endAn (P : D → Prop) (s : S) : endA P .nx s = P .non := rfl
@[simp] theorem w_endAr (P : D → Prop) (d : D) (s : S) : endA P (.rt (.p d)) s = P d := rfl
@[simp] theorem w_runA (n : Nat) (m : SM) (ds : List D) (P : D → Prop) : wpA (runA n m ds) P ↔ wpS (m ⟨slotsOf n (ds.map .p), []⟩) (endA P) := by
  constructor
  · rintro ⟨v, e, h⟩
    rw [e_runA] at e
    cases q : m ⟨slotsOf n (ds.map .p), []⟩ with
    | none => rw [q] at e; cases e
    | some r =>
      rw [q] at e
      obtain ⟨f1, s1⟩ := r
      cases f1 with
      | nx => cases e; exact ⟨_, _, rfl, rfl, h⟩
      | rt d =>
        cases d with
        | p d => cases e; exact ⟨_, _, rfl, rfl, h⟩
        | o n => cases e
      | _ => cases e
  · rintro ⟨f1, s1, e, n, h⟩
    cases f1 with
    | nx => exact ⟨_, by rw [e_runA, e], h⟩
    | rt d =>
      cases d with
      | p d => exact ⟨_, by rw [e_runA, e], h⟩
      | o n => exact False.elim h
    | _ => exact False.elim h
@[simp] theorem w_ifM {γ : Type} (n k : Mi γ) (b : Bool) (s : S) (P : γ → List O → Prop) : wpB (ifM n k (.p (.bl b)) s) P ↔ (b = true → wpB (n s) P) ∧ (b = false → wpB (k s) P) := by
  cases b
  · exact ⟨fun h => ⟨fun q => (by cases q), fun _ => h⟩, fun h => h.2 rfl⟩
  · exact ⟨fun h => ⟨fun _ => h, fun q => (by cases q)⟩, fun h => h.1 rfl⟩
@[simp] theorem w_ifS (n k : SM) (b : Bool) (s : S) (P : Fl → S → Prop) : wpS (ifS n k (.p (.bl b)) s) P ↔ (b = true → wpS (n s) P) ∧ (b = false → wpS (k s) P) := by
  cases b
  · exact ⟨fun h => ⟨fun q => (by cases q), fun _ => h⟩, fun h => h.2 rfl⟩
  · exact ⟨fun h => ⟨fun _ => h, fun q => (by cases q)⟩, fun h => h.1 rfl⟩
@[simp] theorem w_okA (d : D) (P : D → Prop) : wpA (some (.ok d)) P ↔ P d := ⟨fun ⟨_, e, h⟩ => by cases e; exact h, fun h => ⟨_, rfl, h⟩⟩
theorem wpB.imp {α : Type} {o : Option (Rs α)} {P Q : α → List O → Prop} (h : wpB o P) (k : ∀ v M, P v M → Q v M) : wpB o Q := by
  obtain ⟨v, M, e, p⟩ := h
  exact ⟨v, M, e, k v M p⟩
theorem wpA.imp {o : Option RD} {P Q : D → Prop} (h : wpA o P) (k : ∀ v, P v → Q v) : wpA o Q := by
  obtain ⟨v, e, p⟩ := h
  exact ⟨v, e, k v p⟩
theorem wpA.eq {o : Option RD} {d : D} (h : wpA o (· = d)) : o = some (.ok d) := by
  obtain ⟨v, e, p⟩ := h
  rw [e, p]
/-- a drawn number -/
theorem wp_take {n : Nat} {sv : DV} {M : List O} {most : Int} {P : DV → List O → Prop} (h : Dr n sv M) (hm : most < 18446744073709551616) (k : ∀ r M', Dr n sv M' → (most < 1 → r = 0) → (1 ≤ most → 0 ≤ r ∧ r < most) → P (.p (.int r)) M') : wpB (takeM [sv, .p (.int most)] M) P := by
  obtain ⟨r, M', e, d, b0, b⟩ := take_spec h most hm
  exact ⟨_, _, e, k r M' d b0 b⟩
end DL
namespace DL
open PySem L2
/-! texts that are written; comparing tuples -/
theorem char_inj {a b : Char} (h : a.toNat = b.toNat) : a = b := Char.toNat_inj.mp h
theorem map_toNat_inj : ∀ {a b : List Char}, a.map Char.toNat = b.map Char.toNat → a = b
  | [], [], _ => rfl
  | [], _ :: _, h => by cases h
  | _ :: _, [], h => by cases h
  | x :: a, y :: b, h => by
    injection h with h1 h2
    rw [char_inj h1, map_toNat_inj h2]
@[simp] theorem ofString_inj (a b : String) : (Str.ofString a = Str.ofString b) ↔ a = b := by
  constructor
  · intro h
    rw [Str.ofString_eq_toList, Str.ofString_eq_toList] at h
    injection h with h
    have h2 := congrArg Array.toList h
    exact String.toList_inj.mp (map_toNat_inj h2)
  · intro h; rw [h]
@[simp] theorem strOk_of (s : String) : PyData.strOk (Str.ofString s) = true := by
  rw [Str.ofString_eq_toList]
  unfold PyData.strOk
  rw [Array.all_eq_true]
  intro i hi
  simp
  have h := (s.toList[i]'(by simpa using hi)).valid
  rcases h with h | h
  · exact Nat.lt_of_lt_of_le h (by decide)
  · exact h.2
@[simp] theorem e_okN : okD .non = true := rfl
@[simp] theorem e_okI (i : Int) : okD (.int i) = true := rfl
@[simp] theorem e_okB (i : Bool) : okD (.bl i) = true := rfl
@[simp] theorem e_okS (i : Str) : okD (.str i) = PyData.strOk i := rfl
@[simp] theorem e_okL (i : List D) : okD (.lst i) = okDs i := rfl
@[simp] theorem e_okT (i : List D) : okD (.tup i) = okDs i := rfl
@[simp] theorem e_ok0 : okDs [] = true := rfl
@[simp] theorem e_ok1 (x : D) (r : List D) : okDs (x :: r) = (okD x && okDs r) := rfl
@[simp] theorem e_dpN : depD .non = 0 := rfl
@[simp] theorem e_dpI (i : Int) : depD (.int i) = 0 := rfl
@[simp] theorem e_dpB (i : Bool) : depD (.bl i) = 0 := rfl
@[simp] theorem e_dpS (i : Str) : depD (.str i) = 0 := rfl
@[simp] theorem e_dpL (i : List D) : depD (.lst i) = depDs i + 1 := rfl
@[simp] theorem e_dpT (i : List D) : depD (.tup i) = depDs i + 1 := rfl
@[simp] theorem e_dp0 : depDs [] = 0 := rfl
@[simp] theorem e_dp1 (x : D) (r : List D) : depDs (x :: r) = max (depD x) (depDs r) := rfl
@[simp] theorem e_shp (d : D) : shp d = (okD d && decide (depD d ≤ 64)) := rfl
@[simp] theorem e_eqTT (xs ys : List D) : eqD (.tup xs) (.tup ys) = if (shp (.tup xs) && shp (.tup ys)) = true then some (deqs xs ys) else none := rfl
@[simp] theorem e_eqLL (xs ys : List D) : eqD (.lst xs) (.lst ys) = if (shp (.lst xs) && shp (.lst ys)) = true then some (deqs xs ys) else none := rfl
@[simp] theorem e_eqTN (xs : List D) : eqD (.tup xs) .non = if (shp (.tup xs) && shp .non) = true then some false else none := rfl
@[simp] theorem e_eqNT (xs : List D) : eqD .non (.tup xs) = if (shp .non && shp (.tup xs)) = true then some false else none := rfl
@[simp] theorem e_deqII (i j : Int) : deq (.int i) (.int j) = decide (i = j) := by show (i == j) = _; rw [Bool.beq_eq_decide_eq]
@[simp] theorem e_deqSS (i j : Str) : deq (.str i) (.str j) = decide (i = j) := by
  show (i == j) = _
  by_cases h : i = j <;> simp [h]
@[simp] theorem e_deqBB (i j : Bool) : deq (.bl i) (.bl j) = decide (i = j) := by show (i == j) = _; rw [Bool.beq_eq_decide_eq]
@[simp] theorem e_deqNN : deq .non .non = true := rfl
@[simp] theorem e_deqTT (i j : List D) : deq (.tup i) (.tup j) = deqs i j := rfl
@[simp] theorem e_deqLL (i j : List D) : deq (.lst i) (.lst j) = deqs i j := rfl
@[simp] theorem e_deqIS (i : Int) (j : Str) : deq (.int i) (.str j) = false := rfl
@[simp] theorem e_deqSI (i : Int) (j : Str) : deq (.str j) (.int i) = false := rfl
@[simp] theorem e_deqNI (i : Int) : deq .non (.int i) = false := rfl
@[simp] theorem e_deqIN (i : Int) : deq (.int i) .non = false := rfl
@[simp] theorem e_deqNS (i : Str) : deq .non (.str i) = false := rfl
@[simp] theorem e_deqSN (i : Str) : deq (.str i) .non = false := rfl
@[simp] theorem e_deqNT (i : List D) : deq .non (.tup i) = false := rfl
@[simp] theorem e_deqTN (i : List D) : deq (.tup i) .non = false := rfl
@[simp] theorem e_deqs0 : deqs [] [] = true := rfl
@[simp] theorem e_deqs1 (x y : D) (xs ys : List D) : deqs (x :: xs) (y :: ys) = (deq x y && deqs xs ys) := rfl
@[simp] theorem e_deqs2 (x : D) (xs : List D) : deqs (x :: xs) [] = false := rfl
@[simp] theorem e_deqs3 (x : D) (xs : List D) : deqs [] (x :: xs) = false := rfl
@[simp] theorem e_isi (M : List O) (d : D) (n : String) : dIsi M [.p d, .p (.ty n)] = (match tyName d with | some t => (kitB t n).map .bl | none => none) := rfl
@[simp] theorem e_tyT (xs : List D) : tyName (.tup xs) = some "tuple" := rfl
@[simp] theorem kit_tt : kitB "tuple" "tuple" = some true := by decide +kernel
@[simp] theorem at0 {α : Type} (x : α) (xs : List α) : atI (x :: xs) 0 = some x := atI0 x xs
@[simp] theorem at1 {α : Type} (x y : α) (xs : List α) : atI (x :: y :: xs) 1 = some y := atI1 x y xs
end DL
namespace DL
open PySem L2
section
variable {K : PySem.W.Frag} {X : Cx} {W : WX} {e a b c : Expr} {es : List Expr} {pos : Pos}
/-! ### built-in calls on texts -/
def dStr : D → Option D
  | .int i => if i.natAbs.log2 < 1920 then some (.str (Str.ofString (toString i))) else none
  | .str x => some (.str x)
  | _ => none
theorem cd_str : CallD K X (.type "str") (fun xs H Q => (∃ i : Int, xs = [.int i] ∧ i.natAbs.log2 < 1920 ∧ Q (.str (toString i)) H) ∨ ∃ a, xs = [.str a] ∧ Q (.str a) H) (g1 dStr) := ⟨fun _ pins s σ H vs us Q I r h => by
    rcases h with h | h
    · exact call_str_int pins s σ H vs us Q I r h
    · exact SkE.call_str_str pins s σ H vs us Q I r h, g1_ok fun x d c Z H Q s hx hg p => by
  unfold dStr at hg
  split at hg
  · split at hg
    · rename_i hl
      cases hx; cases hg; exact .inl ⟨_, rfl, hl, p _ Z H (ExtP.refl s) (.str _)⟩
    · cases hg
  · cases hx; cases hg; exact .inr ⟨_, rfl, p _ Z H (ExtP.refl s) (.str _)⟩
  · cases hg⟩
def dIntS : D → Option D
  | .str x => if x.length ≤ 640 then (PySem.intText? x).map .int else none
  | _ => none
theorem cd_intS : CallD K X (.type "int") (fun xs H Q => ∃ a n, xs = [.str a] ∧ PySem.intText? a = some n ∧ a.length ≤ 640 ∧ Q (.int n) H) (g1 dIntS) := ⟨fun _ => call_int_str, g1_ok fun x d c Z H Q s hx hg p => by
  unfold dIntS at hg
  split at hg
  · rename_i y
    split at hg
    · rename_i hl
      cases q : PySem.intText? y with
      | none => rw [q] at hg; cases hg
      | some n => rw [q] at hg; cases hg; cases hx; exact ⟨_, _, rfl, q, hl, p _ Z H (ExtP.refl s) (.int _)⟩
    · cases hg
  · cases hg⟩
def allBl : List D → Option (List Bool)
  | [] => some []
  | .bl b :: r => (allBl r).map (b :: ·)
  | _ :: _ => none
theorem allBl_rep {Z : Hp} : ∀ {vs : List V} {ds : List D} {bs : List Bool}, RepA K Z vs ds → allBl ds = some bs → vs = bs.map V.bl
  | _, _, _, .nil, e => by cases e; rfl
  | _, _, _, .cons (d := d) (ds := ds) h r, e => by
    cases h with
    | bl b =>
      have e : (allBl ds).map (b :: ·) = some _ := e
      cases q : allBl ds with
      | none => rw [q] at e; cases e
      | some bs => rw [q] at e; cases e; rw [allBl_rep r q]; rfl
    | _ => cases e
def dAll : D → Option D
  | .lst ds => (allBl ds).map fun bs => .bl (bs.all id)
  | _ => none
def dAny : D → Option D
  | .lst ds => (allBl ds).map fun bs => .bl (bs.any id)
  | _ => none
theorem cd_all (hc : X.calm = true) : CallD K X (.builtin "all") (rAll K) (g1 dAll) := ⟨fun k => by rw [← k]; exact cr_all hc, g1_ok fun x d c Z H Q s hx hg p => by
  unfold dAll at hg
  split at hg
  · rename_i ds
    cases q : allBl ds with
    | none => rw [q] at hg; cases hg
    | some bs =>
      rw [q] at hg; cases hg
      cases hx with
      | lst h1 h2 => exact ⟨_, bs, rfl, by rw [← allBl_rep h2 q]; exact .inl (same_rd s h1), p _ Z H (ExtP.refl s) (.bl _)⟩
  · cases hg⟩
theorem cd_any (hc : X.calm = true) : CallD K X (.builtin "any") (rAny K) (g1 dAny) := ⟨fun k => by rw [← k]; exact cr_any hc, g1_ok fun x d c Z H Q s hx hg p => by
  unfold dAny at hg
  split at hg
  · rename_i ds
    cases q : allBl ds with
    | none => rw [q] at hg; cases hg
    | some bs =>
      rw [q] at hg; cases hg
      cases hx with
      | lst h1 h2 => exact ⟨_, bs, rfl, by rw [← allBl_rep h2 q]; exact .inl (same_rd s h1), p _ Z H (ExtP.refl s) (.bl _)⟩
  · cases hg⟩
def dMax2 : List O → List DV → Option D
  | _, [.p (.int i), .p (.int j)] => some (.int (if j > i then j else i))
  | _, _ => none
def dMin2 : List O → List DV → Option D
  | _, [.p (.int i), .p (.int j)] => some (.int (if j < i then j else i))
  | _, _ => none
theorem cd_max2 (hc : X.calm = true) : CallD K X (.builtin "max") (fun xs H Q => ∃ i j, xs = [.int i, .int j] ∧ Q (.int (if j > i then j else i)) H) dMax2 := ⟨fun _ => call_max2 hc, fun vs ds c Z H I M Q w rv hg p => by
  unfold dMax2 at hg
  split at hg
  · cases rv with
    | cons h1 h2 =>
    cases h2 with
    | cons h2 h3 =>
    cases h3; cases h1; cases h2; cases hg
    exact ⟨_, _, rfl, p _ Z H (ExtP.refl w.sub) (.int _)⟩
  · cases hg⟩
theorem cd_min2 (hc : X.calm = true) : CallD K X (.builtin "min") (fun xs H Q => ∃ i j, xs = [.int i, .int j] ∧ Q (.int (if j < i then j else i)) H) dMin2 := ⟨fun _ => call_min2 hc, fun vs ds c Z H I M Q w rv hg p => by
  unfold dMin2 at hg
  split at hg
  · cases rv with
    | cons h1 h2 =>
    cases h2 with
    | cons h2 h3 =>
    cases h3; cases h1; cases h2; cases hg
    exact ⟨_, _, rfl, p _ Z H (ExtP.refl w.sub) (.int _)⟩
  · cases hg⟩
/-! ### in, not in -/
theorem units65 {k : Nat} {A : Around} (r : Room k A) : A.units + 65 < cLine := by have := r.un; omega
def inS (i j : Str) : Bool := !(Builtin.Str.occurrences j i 0 j.length 1).isEmpty
def inD : D → D → Option Bool
  | .str i, .str j => some (inS i j)
  | d, .lst ds => if (shp d && shp (.lst ds)) = true then some (ds.any fun z => deq z d) else none
  | d, .klst ds => if (shp d && shp (.klst ds)) = true then some (ds.any fun z => deq z d) else none
  | d, .tup ds => if (shp d && shp (.tup ds)) = true then some (ds.any fun z => deq z d) else none
  | d, .ktup ds => if (shp d && shp (.ktup ds)) = true then some (ds.any fun z => deq z d) else none
  | _, _ => none
def dIn (d e : D) : Option D := (inD d e).map .bl
def dNin (d e : D) : Option D := (inD d e).map fun b => .bl !b
theorem bool_dIn : boolD dIn := fun d e c h => boolMap (f := id) h
theorem bool_dNin : boolD dNin := fun d e c h => boolMap h
theorem any_eqv (d : D) : ∀ ds : List D, ((toPs ds).any fun z => PyData.eqv z (toP d)) = ds.any fun z => deq z d
  | [] => rfl
  | x :: xs => by
    show (PyData.eqv (toP x) (toP d) || _) = (deq x d || _)
    rw [deq_eqv x d]
    exact congrArg _ (any_eqv d xs)
theorem in_cases {d e : D} {b : Bool} (h : inD d e = some b) : (∃ i j, d = .str i ∧ e = .str j ∧ b = inS i j) ∨ ∃ ds, (e = .lst ds ∨ e = .klst ds ∨ e = .tup ds ∨ e = .ktup ds) ∧ shp d = true ∧ shp e = true ∧ b = ds.any fun z => deq z d := by
  unfold inD at h
  split at h
  · cases h; exact .inl ⟨_, _, rfl, rfl, rfl⟩
  · split at h
    · rename_i hs
      cases h
      rw [Bool.and_eq_true] at hs
      exact .inr ⟨_, .inl rfl, hs.1, hs.2, rfl⟩
    · cases h
  · split at h
    · rename_i hs
      cases h
      rw [Bool.and_eq_true] at hs
      exact .inr ⟨_, .inr (.inl rfl), hs.1, hs.2, rfl⟩
    · cases h
  · split at h
    · rename_i hs
      cases h
      rw [Bool.and_eq_true] at hs
      exact .inr ⟨_, .inr (.inr (.inl rfl)), hs.1, hs.2, rfl⟩
    · cases h
  · split at h
    · rename_i hs
      cases h
      rw [Bool.and_eq_true] at hs
      exact .inr ⟨_, .inr (.inr (.inr rfl)), hs.1, hs.2, rfl⟩
    · cases h
  · cases h
/-- x in a list or a tuple of data -/
def rInD2 (K : PySem.W.Frag) (neg : Bool) : R2 := fun x y H Q => ∃ d e ds, Dp K H x d ∧ Dp K H y e ∧ SeqAt.shaped d = true ∧ SeqAt.shaped e = true ∧ (e = .list ds ∨ e = .tuple ds) ∧ Q (.bl (if neg then !(ds.any fun z => PyData.eqv z d) else ds.any fun z => PyData.eqv z d)) H
theorem op_inD2 (hu : X.A.units + 65 < cLine) : OpR X (compareOp .In) (rInD2 X.K false) := by
  intro pins s σ H x y v u Q I rx ry h
  obtain ⟨d, e, ds, hd, he, sd, se, hl, q⟩ := h
  obtain ⟨as, r1⟩ := Dp.reads I d x v hd rx
  obtain ⟨bs, r2⟩ := Dp.reads I e y u he ry
  rcases hl with rfl | rfl
  · exact SeqAt.in_list_reads r2 r1 (SeqAt.canLay_of_shaped se) (SeqAt.canLay_of_shaped sd) (PyProof.Rows.room_in_shaped sd hu) ⟨.bl _, H, I, rfl, q⟩
  · exact SeqAt.in_tuple_reads r2 r1 (SeqAt.canLay_of_shaped se) (SeqAt.canLay_of_shaped sd) (PyProof.Rows.room_in_shaped sd hu) ⟨.bl _, H, I, rfl, q⟩
theorem op_ninD2 (hu : X.A.units + 65 < cLine) : OpR X (compareOp .NotIn) (rInD2 X.K true) := by
  intro pins s σ H x y v u Q I rx ry h
  obtain ⟨d, e, ds, hd, he, sd, se, hl, q⟩ := h
  obtain ⟨as, r1⟩ := Dp.reads I d x v hd rx
  obtain ⟨bs, r2⟩ := Dp.reads I e y u he ry
  rcases hl with rfl | rfl
  · exact SeqAt.notIn_list_reads r2 r1 (SeqAt.canLay_of_shaped se) (SeqAt.canLay_of_shaped sd) (PyProof.Rows.room_in_shaped sd hu) ⟨.bl _, H, I, rfl, q⟩
  · exact SeqAt.notIn_tuple_reads r2 r1 (SeqAt.canLay_of_shaped se) (SeqAt.canLay_of_shaped sd) (PyProof.Rows.room_in_shaped sd hu) ⟨.bl _, H, I, rfl, q⟩
theorem in_dp {K : PySem.W.Frag} {Z H : Hp} {x y : V} {d e : D} {ds : List D} (s : Same Z H) (hx : Rep K Z x d) (hy : Rep K Z y e) (hl : e = .lst ds ∨ e = .klst ds ∨ e = .tup ds ∨ e = .ktup ds) (h1 : shp d = true) (h2 : shp e = true) : ∃ d' e' ds', Dp K H x d' ∧ Dp K H y e' ∧ SeqAt.shaped d' = true ∧ SeqAt.shaped e' = true ∧ (e' = .list ds' ∨ e' = .tuple ds') ∧ (ds'.any fun z => PyData.eqv z d') = ds.any fun z => deq z d := by
  refine ⟨toP d, toP e, toPs ds, hx.dp s (shaped_can h1), hy.dp s (shaped_can h2), shp_ok h1, shp_ok h2, ?_, any_eqv d ds⟩
  rcases hl with rfl | rfl | rfl | rfl
  · exact .inl rfl
  · exact .inl rfl
  · exact .inr rfl
  · exact .inr rfl
theorem od_in (hu : X.A.units + 65 < cLine) : OpD K X (compareOp .In) (fun x y H Q => (∃ i j, x = .str i ∧ y = .str j ∧ Q (.bl (!(Builtin.Str.occurrences j i 0 j.length 1).isEmpty)) H) ∨ rInD2 K false x y H Q) dIn where
  op := fun k pins s σ H x y v u Q I rx ry h => by
    subst k
    rcases h with h | h
    · exact op_in_str pins s σ H x y v u Q I rx ry h
    · exact op_inD2 hu pins s σ H x y v u Q I rx ry h
  ok := by
    intro x y d e c Z H Q s hx hy hg p
    unfold dIn at hg
    cases z : inD d e with
    | none => rw [z] at hg; cases hg
    | some b =>
      rw [z] at hg; cases hg
      rcases in_cases z with ⟨i, j, rfl, rfl, rfl⟩ | ⟨ds, hl, h1, h2, rfl⟩
      · cases hx; cases hy
        exact .inl ⟨_, _, rfl, rfl, p _ Z H (ExtP.refl s) (.bl _)⟩
      · obtain ⟨d', e', ds', a1, a2, a3, a4, a5, a6⟩ := in_dp s hx hy hl h1 h2
        exact .inr ⟨d', e', ds', a1, a2, a3, a4, a5, by rw [a6]; exact p _ Z H (ExtP.refl s) (.bl _)⟩
theorem od_nin (hu : X.A.units + 65 < cLine) : OpD K X (compareOp .NotIn) (fun x y H Q => (∃ i j, x = .str i ∧ y = .str j ∧ Q (.bl (!(!(Builtin.Str.occurrences j i 0 j.length 1).isEmpty))) H) ∨ rInD2 K true x y H Q) dNin where
  op := fun k pins s σ H x y v u Q I rx ry h => by
    subst k
    rcases h with h | h
    · exact op_notin_str pins s σ H x y v u Q I rx ry h
    · exact op_ninD2 hu pins s σ H x y v u Q I rx ry h
  ok := by
    intro x y d e c Z H Q s hx hy hg p
    unfold dNin at hg
    cases z : inD d e with
    | none => rw [z] at hg; cases hg
    | some b =>
      rw [z] at hg; cases hg
      rcases in_cases z with ⟨i, j, rfl, rfl, rfl⟩ | ⟨ds, hl, h1, h2, rfl⟩
      · cases hx; cases hy
        exact .inl ⟨_, _, rfl, rfl, p _ Z H (ExtP.refl s) (.bl _)⟩
      · obtain ⟨d', e', ds', a1, a2, a3, a4, a5, a6⟩ := in_dp s hx hy hl h1 h2
        exact .inr ⟨d', e', ds', a1, a2, a3, a4, a5, by rw [a6]; exact p _ Z H (ExtP.refl s) (.bl _)⟩
/-! ### a text times an int -/
def repS (x : Str) (n : Int) : Str := if n < 1 then Str.empty else if (n == 1 || x.length == 0) = true then x else ⟨(List.replicate n.toNat x.cps).foldl (· ++ ·) #[]⟩
def dMulS : D → D → Option D
  | .str x, .int n => if x.length = 1 ∧ -1000 ≤ n ∧ n ≤ 1000 then some (.str (repS x n)) else none
  | _, _ => none
theorem foldl_size (x : Array Nat) : ∀ (n : Nat) (acc : Array Nat), ((List.replicate n x).foldl (· ++ ·) acc).size = acc.size + n * x.size
  | 0, acc => by simp
  | n + 1, acc => by
    rw [List.replicate_succ, List.foldl_cons, foldl_size x n, Array.size_append, Nat.succ_mul]; omega
theorem od_mulS : OpD K X (binaryOp .Mult) (fun x y H Q => ∃ (z : Str) (n : Int), x = .str z ∧ y = .int n ∧ z.length = 1 ∧ -1000 ≤ n ∧ n ≤ 1000 ∧ Q (.str (repS z n)) H) dMulS where
  op := fun _ pins s σ H x y v u Q I rx ry h => by
    obtain ⟨z, n, rfl, rfl, hl, h1, h2, q⟩ := h
    obtain ⟨t, rfl⟩ := rx
    obtain ⟨t', rfl⟩ := ry
    refine PySem.P.mul_str ?_ ?_ ?_ ?_
    · have a1 : ¬ n < -(2 ^ 63 : Int) := by omega
      have a2 : ¬ n ≥ 2 ^ 63 := by omega
      rw [decide_eq_false a1, decide_eq_false a2]; rfl
    · intro a1 a2 a3
      rw [hl] at a3
      have b1 : (1 : Int) * n ≤ 2 ^ 63 - 1 := by omega
      have b2 := (Int.le_ediv_iff_mul_le (a := 1) (b := (2 ^ 63 - 1 : Int)) (by omega : 0 < n)).mpr b1
      exact absurd a3 (by show ¬ ((1 : Nat) : Int) > _; omega)
    · intro a1 a2
      rw [hl, Nat.one_mul]
      unfold PySem.Builtin.Str.tooLong
      exact decide_eq_false (by have : n.toNat ≤ 1000 := by omega
                                have : (1000 : Nat) ≤ sizeLine := by decide
                                omega)
    · unfold repS at q
      by_cases c1 : n < 1
      · rw [if_pos c1] at q ⊢
        exact ⟨by decide, .str _, H, I.tok _, ⟨_, rfl⟩, q⟩
      · rw [if_neg c1] at q ⊢
        split
        · rename_i c2; rw [if_pos c2] at q; exact ⟨.str _, H, I, ⟨_, rfl⟩, q⟩
        · rename_i c2; rw [if_neg c2] at q
          refine ⟨?_, .str _, H, I.tok _, ⟨_, rfl⟩, q⟩
          show Array.size _ ≤ _
          rw [foldl_size]
          have e1 : z.cps.size = 1 := hl
          have : (1000 : Nat) ≤ sizeLine := by decide
          rw [e1]; simp; omega
  ok := by
    intro x y d e c Z H Q s hx hy hg p
    unfold dMulS at hg
    split at hg
    · split at hg
      · rename_i hl
        cases hx; cases hy; cases hg
        exact ⟨_, _, rfl, rfl, hl.1, hl.2.1, hl.2.2, p _ Z H (ExtP.refl s) (.str _)⟩
      · cases hg
    · cases hg
/-! ### methods of texts -/
def dZfill : D → List D → Option D
  | .str x, [.int i] => if PadOk i = true then some (.str (Txt.zfill x i)) else none
  | _, _ => none
theorem repA1 {Z : Hp} {vs : List V} {d : D} (h : RepA K Z vs [d]) : ∃ v, vs = [v] ∧ Rep K Z v d := by
  cases h with
  | cons h1 h2 => cases h2; exact ⟨_, rfl, h1⟩
theorem repA2 {Z : Hp} {vs : List V} {d e : D} (h : RepA K Z vs [d, e]) : ∃ v u, vs = [v, u] ∧ Rep K Z v d ∧ Rep K Z u e := by
  cases h with
  | cons h1 h2 =>
    obtain ⟨u, rfl, h3⟩ := repA1 h2
    exact ⟨_, _, rfl, h1, h3⟩
theorem md_zfill : MthD K X "str.zfill" (fun x xs H Q => ∃ (a : Str) (i : Int), x = .str a ∧ xs = [.int i] ∧ PadOk i = true ∧ Q (.str (Txt.zfill a i)) H) (gP dZfill) := ⟨fun _ => mt_zfill, gP_ok fun x d vs ds c Z H Q s hx hv hg p => by
  unfold dZfill at hg
  split at hg
  · split at hg
    · rename_i hp
      obtain ⟨v, rfl, h1⟩ := repA1 hv
      cases hx; cases h1; cases hg
      exact ⟨_, _, rfl, rfl, hp, p _ Z H (ExtP.refl s) (.str _)⟩
    · cases hg
  · cases hg⟩
def dRstrip : D → List D → Option D
  | .str x, [.str y] => if x.length ≤ 1000000 then some (.str (Txt.rstripChars x y)) else none
  | _, _ => none
theorem md_rstrip : MthD K X "str.rstrip" (fun x xs H Q => ∃ a b, x = .str a ∧ xs = [.str b] ∧ a.length ≤ sizeLine ∧ Q (.str (Txt.rstripChars a b)) H) (gP dRstrip) := ⟨fun _ => mt_rstripChars, gP_ok fun x d vs ds c Z H Q s hx hv hg p => by
  unfold dRstrip at hg
  split at hg
  · split at hg
    · rename_i hp
      obtain ⟨v, rfl, h1⟩ := repA1 hv
      cases hx; cases h1; cases hg
      exact ⟨_, _, rfl, rfl, size_le hp, p _ Z H (ExtP.refl s) (.str _)⟩
    · cases hg
  · cases hg⟩
def dRmpre : D → List D → Option D
  | .str x, [.str y] => if x.length ≤ 1000000 then some (.str (Txt.removeprefix x y)) else none
  | _, _ => none
theorem md_rmpre : MthD K X "str.removeprefix" (fun x xs H Q => ∃ a b, x = .str a ∧ xs = [.str b] ∧ a.length ≤ sizeLine ∧ Q (.str (Txt.removeprefix a b)) H) (gP dRmpre) := ⟨fun _ => mt_removeprefix, gP_ok fun x d vs ds c Z H Q s hx hv hg p => by
  unfold dRmpre at hg
  split at hg
  · split at hg
    · rename_i hp
      obtain ⟨v, rfl, h1⟩ := repA1 hv
      cases hx; cases h1; cases hg
      exact ⟨_, _, rfl, rfl, size_le hp, p _ Z H (ExtP.refl s) (.str _)⟩
    · cases hg
  · cases hg⟩
def dPart : D → List D → Option D
  | .str x, [.str y] => if (y.length == 0) = false ∧ x.length ≤ 1000000 then some (.tup [.str (Txt.partition x y).1, .str (Txt.partition x y).2.1, .str (Txt.partition x y).2.2]) else none
  | _, _ => none
theorem md_part : MthD K X "str.partition" (fun x xs H Q => ∃ a b, x = .str a ∧ xs = [.str b] ∧ (b.length == 0) = false ∧ a.length ≤ sizeLine ∧
    ∀ p, H p = none → Q (.ref p) (upd H p (.tup [.str (Txt.partition a b).1, .str (Txt.partition a b).2.1, .str (Txt.partition a b).2.2]))) (gP dPart) := ⟨fun _ => mt_partition, gP_ok fun x d vs ds c Z H Q s hx hv hg p => by
  unfold dPart at hg
  split at hg
  · split at hg
    · rename_i hp
      obtain ⟨v, rfl, h1⟩ := repA1 hv
      cases hx; cases h1; cases hg
      exact ⟨_, _, rfl, rfl, hp.1, size_le hp.2, fun l hl => p _ _ _ (ExtP.new s hl) (.tup upd_same (.cons (.str _) (.cons (.str _) (.cons (.str _) .nil))))⟩
    · cases hg
  · cases hg⟩
theorem repA_strs {Z : Hp} : ∀ ys : List Str, RepA K Z (ys.map V.str) (ys.map D.str)
  | [] => .nil
  | y :: ys => .cons (.str y) (repA_strs ys)
def dSplit : D → List D → Option D
  | .str x, [.str y] => if (y.length == 0) = false ∧ x.length ≤ 1000000 then some (.lst ((Txt.split x y).map .str)) else none
  | _, _ => none
theorem md_split : MthD K X "str.split" (fun x xs H Q => ∃ a b, x = .str a ∧ xs = [.str b] ∧ (b.length == 0) = false ∧ a.length + 2 ≤ sizeLine ∧ rNewStrs (Txt.split a b) H Q) (gP dSplit) := ⟨fun _ => mt_split, gP_ok fun x d vs ds c Z H Q s hx hv hg p => by
  unfold dSplit at hg
  split at hg
  · split at hg
    · rename_i hp
      obtain ⟨v, rfl, h1⟩ := repA1 hv
      cases hx; cases h1; cases hg
      refine ⟨_, _, rfl, rfl, hp.1, ?_, fun l hl => p _ _ _ (ExtP.new s hl) (.lst (.inl upd_same) (repA_strs _))⟩
      have : (1000002 : Nat) ≤ sizeLine := by decide
      omega
    · cases hg
  · cases hg⟩
def allS : List D → Option (List Str)
  | [] => some []
  | .str x :: r => (allS r).map (x :: ·)
  | _ :: _ => none
theorem allS_rep {Z : Hp} : ∀ {vs : List V} {ds : List D} {bs : List Str}, RepA K Z vs ds → allS ds = some bs → vs = bs.map V.str
  | _, _, _, .nil, e => by cases e; rfl
  | _, _, _, .cons (d := d) (ds := ds) h r, e => by
    cases h with
    | str b =>
      have e : (allS ds).map (b :: ·) = some _ := e
      cases q : allS ds with
      | none => rw [q] at e; cases e
      | some bs => rw [q] at e; cases e; rw [allS_rep r q]; rfl
    | _ => cases e
def dJoin : D → List D → Option D
  | .str a, [.lst ds] => match allS ds with
    | some ys => if (ys.map (·.length)).sum + ys.length * a.length ≤ 16777216 then some (.str (Txt.join a ys)) else none
    | none => none
  | _, _ => none
theorem md_join : MthD K X "str.join" (fun x xs H Q => ∃ a p, ∃ ys : List Str, x = .str a ∧ xs = [.ref p] ∧ (SqL K H p (ys.map V.str) ∨ SqT K H p (ys.map V.str)) ∧
    (ys.map (·.length)).sum + ys.length * a.length ≤ 16777216 ∧ Q (.str (Txt.join a ys)) H) (gP dJoin) := ⟨fun k => by rw [← k]; exact mt_join, gP_ok fun x d vs ds c Z H Q s hx hv hg p => by
  unfold dJoin at hg
  split at hg
  · rename_i ds'
    cases q : allS ds' with
    | none => rw [q] at hg; cases hg
    | some ys =>
      rw [q] at hg
      simp only at hg
      split at hg
      · rename_i hp
        obtain ⟨v, rfl, h1⟩ := repA1 hv
        cases hx; cases hg
        cases h1 with
        | lst h1 h2 => exact ⟨_, _, ys, rfl, rfl, .inl (by rw [← allS_rep h2 q]; exact .inl (same_rd s h1)), hp, p _ Z H (ExtP.refl s) (.str _)⟩
      · cases hg
  · cases hg⟩
def dLjust : D → List D → Option D
  | .str x, [.int i, .str f] => if PadOk i = true ∧ f.length = 1 then some (.str (Txt.ljustF x i (f.cps.getD 0 0))) else none
  | _, _ => none
theorem md_ljust : MthD K X "str.ljust" (fun x xs H Q => ∃ (a : Str) (i : Int) (f : Str), x = .str a ∧ xs = [.int i, .str f] ∧ PadOk i = true ∧ f.length = 1 ∧ Q (.str (Txt.ljustF a i (f.cps.getD 0 0))) H) (gP dLjust) := ⟨fun _ pins s σ H x xs v us Q I rx rs h => by
    obtain ⟨a, i, f, rfl, rfl, hp, hf, q⟩ := h
    obtain ⟨t, rfl⟩ := rx
    cases rs with
    | cons r1 rs =>
    cases rs with
    | cons r2 rs =>
    cases rs
    obtain ⟨u, rfl⟩ := r1
    obtain ⟨z, rfl⟩ := r2
    exact PyProof.Rows.ljust_fill hp hf fun t' k => ⟨.str _, H, I.tok k, ⟨_, rfl⟩, q⟩, gP_ok fun x d vs ds c Z H Q s hx hv hg p => by
  unfold dLjust at hg
  split at hg
  · split at hg
    · rename_i hp
      obtain ⟨v, u, rfl, h1, h2⟩ := repA2 hv
      cases hx; cases h1; cases h2; cases hg
      exact ⟨_, _, _, rfl, rfl, hp.1, hp.2, p _ Z H (ExtP.refl s) (.str _)⟩
    · cases hg
  · cases hg⟩
def dIndex : D → List D → Option D
  | .str a, [.str b] => match Builtin.Str.occurrences a b 0 a.length 1 with
    | i :: _ => some (.int (i : Nat))
    | [] => none
  | _, _ => none
theorem md_index : MthD K X "str.index" (fun x xs H Q => ∃ a b i rest, x = .str a ∧ xs = [.str b] ∧ Builtin.Str.occurrences a b 0 a.length 1 = i :: rest ∧ Q (.int (i : Nat)) H) (gP dIndex) := ⟨fun _ => mt_sindex, gP_ok fun x d vs ds c Z H Q s hx hv hg p => by
  unfold dIndex at hg
  split at hg
  · rename_i a b
    cases q : Builtin.Str.occurrences a b 0 a.length 1 with
    | nil => rw [q] at hg; cases hg
    | cons i r =>
      rw [q] at hg; cases hg
      obtain ⟨v, rfl, h1⟩ := repA1 hv
      cases hx; cases h1
      exact ⟨_, _, i, r, rfl, rfl, q, p _ Z H (ExtP.refl s) (.int _)⟩
  · cases hg⟩
/-! ### f-strings -/
def dFmt : D → Option D
  | .int i => if i.natAbs.log2 < 1920 then some (.str (Str.ofString (toString i))) else none
  | .str y => if y.length ≤ 1000000 then some (.str y) else none
  | _ => none
def mFmt (m : EM) : EM := bnd m (pur fun d => ret (dFmt d))
theorem de_fmt {te : TE} {m : EM} (h : DE K X W e te m) : DE K X W (.FormattedValue e (-1) none pos) (tFmt te) (mFmt m) := ⟨h.k, pe_fmt h.pe, ⟨fun σ H s Z I r0 Q w rs e p => by
  refine h.so.bnd w rs e p.x fun d v M1 Z1 H1 I1 w1 rs1 x1 q1 e1 => ?_
  obtain ⟨d, rfl, e1⟩ := pur_ok e1
  obtain ⟨c, hc, rfl⟩ := ret_ok e1
  have p1 := PostP.of w1 (p.mono x1)
  unfold dFmt at hc
  split at hc
  · split at hc
    · rename_i hl
      cases q1; cases hc
      exact .inr ⟨_, rfl, hl, p1 _ Z1 H1 (ExtP.refl w1.sub) (.str _)⟩
    · cases hc
  · split at hc
    · rename_i hl
      cases q1; cases hc
      exact .inl ⟨_, rfl, size_le hl, p1 _ Z1 H1 (ExtP.refl w1.sub) (.str _)⟩
    · cases hc
  · cases hc⟩⟩
def RepStr (_ : Hp) (_ : List Addr) (x y : Str) : Prop := x = y
abbrev JM := Str → Mi Str
structure DJ (K : PySem.W.Frag) (X : Cx) (W : WX) (es : List Expr) (ts : List TE) (m : JM) : Prop where
  k : X.K = K
  pj : PJ X es ts
  so : ∀ acc, Sound K W RepStr (tJs ts acc) (m acc)
def jNil : JM := fun acc s => some (.ok acc s.m)
def jCons (m : EM) (r : JM) : JM := fun acc => bnd m (pur fun d => match d with
  | .str y => fun s => if acc.length + y.length ≤ 1000000 then r (acc ++ y) s else none
  | _ => fun _ => none)
theorem len_app (x y : Str) : (x ++ y).length = x.length + y.length := by
  show (x.cps ++ y.cps).size = _
  rw [Array.size_append]; rfl
theorem dj_nil (k : X.K = K := by rfl) : DJ K X W [] [] jNil := ⟨k, .nil, fun acc => ⟨fun σ H s Z I r Q w rs e p => by
  cases e; exact p acc Z H I w Ext.refl rfl⟩⟩
theorem dj_cons {te : TE} {m : EM} {ts : List TE} {r : JM} (h : DE K X W e te m) (hr : DJ K X W es ts r) : DJ K X W (e :: es) (te :: ts) (jCons m r) := ⟨h.k, .cons h.pe hr.pj, fun acc => ⟨fun σ H s Z I r0 Q w rs e p => by
  refine h.so.bnd w rs e p.x fun d v M1 Z1 H1 I1 w1 rs1 x1 q1 e1 => ?_
  obtain ⟨d, rfl, e1⟩ := pur_ok e1
  cases d with
  | str y =>
    cases q1
    have e1 : (if acc.length + y.length ≤ 1000000 then r (acc ++ y) ⟨s.l, M1⟩ else none) = some r0 := e1
    split at e1
    · rename_i hl
      refine ⟨y, rfl, by rw [len_app]; exact size_le hl, (hr.so (acc ++ y)).ok σ H1 ⟨s.l, M1⟩ Z1 I1 r0 _ w1 rs1 e1 (p.mono x1)⟩
    · cases e1
  | _ => cases e1⟩⟩
def mJoined (r : JM) : EM := bnd (r Str.empty) fun y s => some (.ok (.p (.str y)) s.m)
theorem de_joined1 {te : TE} {m : EM} (h : DE K X W e te m) : DE K X W (.JoinedStr [e] pos) te m := ⟨h.k, pe_joined1 h.pe, h.so⟩
theorem de_joined {v1 v2 : Expr} {rest : List Expr} {ts : List TE} {r : JM} (h : DJ K X W (v1 :: v2 :: rest) ts r) : DE K X W (.JoinedStr (v1 :: v2 :: rest) pos) (fun σ H Q => tJs ts Str.empty σ H fun out H1 => Q (.str out) H1) (mJoined r) := ⟨h.k, pe_joined h.pj, ⟨fun σ H s Z I r0 Q w rs e p => by
  refine (h.so Str.empty).bnd w rs e p.x fun d v M1 Z1 H1 I1 w1 rs1 x1 q1 e1 => ?_
  cases (show v = d from q1)
  cases e1
  exact p _ Z1 H1 I1 w1 x1 (.str _)⟩⟩
end
end DL
namespace DL
open PySem L2
/-! ### texts as lists of their signs -/
def tx (l : List Nat) : Str := ⟨l.toArray⟩
@[simp] theorem tx_list (l : List Nat) : (tx l).cps.toList = l := List.toList_toArray
@[simp] theorem tx_len (l : List Nat) : (tx l).length = l.length := List.size_toArray
theorem tx_of (x : Str) : x = tx x.cps.toList := by
  cases x with
  | mk a => show Str.mk a = Str.mk a.toList.toArray; rw [Array.toArray_toList]
theorem eq_tx {x : Str} {l : List Nat} (h : x.cps.toList = l) : x = tx l := by rw [← h]; exact tx_of x
@[simp] theorem tx_inj (a b : List Nat) : tx a = tx b ↔ a = b := ⟨fun h => by have := congrArg (fun x : Str => x.cps.toList) h; simpa using this, fun h => by rw [h]⟩
@[simp] theorem tx_app (a b : List Nat) : tx a ++ tx b = tx (a ++ b) := by
  apply eq_tx
  show ((tx a).cps ++ (tx b).cps).toList = _
  rw [Array.toList_append, tx_list, tx_list]
@[simp] theorem tx_empty : Str.empty = tx [] := rfl
theorem tx_ofString (s : String) : Str.ofString s = tx (s.toList.map Char.toNat) := by
  rw [Str.ofString_eq_toList]; apply eq_tx; simp
theorem sub_tx (l : List Nat) (i j : Nat) : Builtin.Str.strSub (tx l) i j = tx ((l.take j).drop i) := by
  apply eq_tx
  show ((tx l).cps.extract i j).toList = _
  rw [Array.toList_extract, tx_list]
  rw [List.extract_eq_take_drop, List.drop_take]
@[simp] theorem in_tx (c : Nat) (l : List Nat) : inS (tx [c]) (tx l) = decide (c ∈ l) := by
  have h := StrLaws.found_one (tx l) c
  rw [tx_list] at h
  exact h
@[simp] theorem e_inSS (i j : Str) : inD (.str i) (.str j) = some (inS i j) := rfl
@[simp] theorem e_dIn (d e : D) : dIn d e = (inD d e).map .bl := rfl
@[simp] theorem e_dNin (d e : D) : dNin d e = (inD d e).map fun b => .bl !b := rfl
theorem at_one (l : List Nat) (c i : Nat) : StrLaws.At (tx l) (tx [c]) (tx l).length i ↔ l[i]? = some c := by
  have h := StrLaws.subAt_one (tx l) c i
  rw [tx_list] at h
  exact h
/-- the place of the first c -/
def idx (c : Nat) (l : List Nat) : Nat := (l.takeWhile (· != c)).length
theorem idx_first : ∀ {c i : Nat} {l : List Nat}, l[i]? = some c → (∀ k, k < i → ¬ l[k]? = some c) → i = idx c l
  | c, i, [], h, _ => by simp at h
  | c, 0, x :: l, h, _ => by
    simp at h; subst h
    unfold idx; simp
  | c, i + 1, x :: l, h, n => by
    have hx : x ≠ c := fun e => n 0 (by omega) (by simp [e])
    have := idx_first (c := c) (i := i) (l := l) (by simpa using h) fun k hk => by have := n (k + 1) (by omega); simpa using this
    unfold idx at this ⊢
    rw [List.takeWhile_cons]
    simp [hx, this]
theorem occ_tx (c : Nat) (l : List Nat) : Builtin.Str.occurrences (tx l) (tx [c]) 0 (tx l).length 1 = [] ∧ c ∉ l ∨ ∃ r, Builtin.Str.occurrences (tx l) (tx [c]) 0 (tx l).length 1 = idx c l :: r ∧ c ∈ l := by
  rcases StrLaws.occ_head (tx l) (tx [c]) 1 (Nat.le_refl 1) with ⟨h1, h2⟩ | ⟨i, r, h1, h2, h3⟩
  · refine .inl ⟨h1, fun hm => ?_⟩
    obtain ⟨i, hi⟩ := List.mem_iff_getElem?.mp hm
    exact h2 i ((at_one l c i).mpr hi)
  · have a := (at_one l c i).mp h2
    have e := idx_first a fun k hk q => h3 k hk ((at_one l c k).mpr q)
    exact .inr ⟨r, by rw [h1, e], List.mem_of_getElem? a⟩
theorem takeWhile_take (c : Nat) : ∀ l : List Nat, l.take (idx c l) = l.takeWhile (· != c)
  | [] => rfl
  | x :: l => by
    unfold idx
    rw [List.takeWhile_cons]
    by_cases h : x = c
    · simp [h]
    · simp [h]; exact takeWhile_take c l
theorem dropWhile_drop (c : Nat) : ∀ l : List Nat, l.drop (idx c l) = l.dropWhile (· != c)
  | [] => rfl
  | x :: l => by
    unfold idx
    rw [List.takeWhile_cons, List.dropWhile_cons]
    by_cases h : x = c
    · simp [h]
    · simp [h]; exact dropWhile_drop c l
def befC (c : Nat) (l : List Nat) : List Nat := l.takeWhile (· != c)
def aftC (c : Nat) (l : List Nat) : List Nat := (l.dropWhile (· != c)).tail
theorem part_tx (c : Nat) (l : List Nat) : Txt.partition (tx l) (tx [c]) = if c ∈ l then (tx (befC c l), tx [c], tx (aftC c l)) else (tx l, tx [], tx []) := by
  unfold Txt.partition
  rcases occ_tx c l with ⟨h, hm⟩ | ⟨r, h, hm⟩
  · rw [h, if_neg hm]; rfl
  · rw [h, if_pos hm]
    show (Builtin.Str.strSub (tx l) 0 (idx c l), tx [c], Builtin.Str.strSub (tx l) (idx c l + 1) (tx l).length) = _
    rw [sub_tx, sub_tx, tx_len, List.take_length, List.drop_zero, takeWhile_take, ← List.tail_drop, dropWhile_drop]
    rfl
theorem rmpre_tx (c : Nat) (l : List Nat) : Txt.removeprefix (tx l) (tx [c]) = tx (if l.head? = some c then l.tail else l) := by
  rw [StrLaws.removeprefix_eq]
  have h := at_one l c 0
  unfold StrLaws.At at h
  have e : (decide (0 + (tx [c]).length ≤ (tx l).length) && Builtin.Str.subAt (tx l) (tx [c]) 0) = decide (l.head? = some c) := by
    rw [Bool.eq_iff_iff, Bool.and_eq_true, decide_eq_true_eq, decide_eq_true_eq, h, List.head?_eq_getElem?]
  rw [e]
  by_cases q : l.head? = some c
  · rw [if_pos (decide_eq_true q), if_pos q]
    apply eq_tx
    rw [List.toList_toArray, tx_list, tx_len, tx_len]
    cases l with
    | nil => rfl
    | cons x l => simp
  · rw [if_neg (by simpa using q), if_neg q]
def rstripL (c : Nat) (l : List Nat) : List Nat := (l.reverse.dropWhile (· == c)).reverse
theorem take_rev (c : Nat) (l : List Nat) : l.take (l.length - (l.reverse.takeWhile (· == c)).length) = rstripL c l := by
  unfold rstripL
  have e := List.takeWhile_append_dropWhile (p := (· == c)) (l := l.reverse)
  have e2 := congrArg List.reverse e
  rw [List.reverse_append, List.reverse_reverse] at e2
  have hl := congrArg List.length e2
  rw [List.length_append, List.length_reverse, List.length_reverse] at hl
  generalize l.reverse.dropWhile (· == c) = a at e2 hl ⊢
  generalize l.reverse.takeWhile (· == c) = b at e2 hl ⊢
  rw [← e2, List.take_append_of_le_length (by simp <;> omega)]
  rw [List.take_of_length_le (by simp)]
theorem rstrip_tx (c : Nat) (l : List Nat) : Txt.rstripChars (tx l) (tx [c]) = tx (rstripL c l) := by
  unfold Txt.rstripChars
  rw [PyProof.Rows.stripBy_eq]
  have e : stripLo (tx [c]).cps.contains false (tx l) = 0 := rfl
  rw [e, sub_tx, List.drop_zero]
  unfold stripHi
  rw [if_pos rfl, tx_list, List.drop_zero, tx_len]
  have g : (tx [c]).cps.contains = (· == c) := by
    funext x
    rw [← Array.contains_toList, tx_list, Bool.eq_iff_iff]
    simp
  rw [g, take_rev]
theorem zfill_tx (l : List Nat) (i : Int) (h : ∀ c, l.head? = some c → c ≠ 43 ∧ c ≠ 45) : Txt.zfill (tx l) i = tx (List.replicate (i.toNat - l.length) 48 ++ l) := by
  unfold Txt.zfill
  rw [tx_len]
  split
  · rename_i q
    have e : i.toNat - l.length = 0 := by omega
    rw [e]; rfl
  · have e : zfilled (tx l) (i.toNat - l.length) = Builtin.Str.padded (tx l) (i.toNat - l.length) 0 48 := by
      unfold zfilled
      have g : (tx l).cps[0]? = l.head? := by
        rw [← Array.getElem?_toList, tx_list, List.head?_eq_getElem?]
      rw [g]
      cases l with
      | nil => rfl
      | cons x r =>
        have := h x rfl
        show (match some x with | some 43 | some 45 => _ | _ => _) = _
        split
        · rename_i q; cases q; exact absurd rfl this.1
        · rename_i q; cases q; exact absurd rfl this.2
        · rfl
    rw [e]
    apply eq_tx
    show (Array.replicate _ _ ++ (tx l).cps ++ Array.replicate _ _).toList = _
    rw [Array.toList_append, Array.toList_append, tx_list]
    simp
theorem ljust_tx (l : List Nat) (i : Int) (c : Nat) : Txt.ljustF (tx l) i c = tx (l ++ List.replicate (i.toNat - l.length) c) := by
  apply eq_tx
  rw [PyProof.Rows.ljustF_list, tx_list, tx_len]
theorem join_txt : ∀ ls : List (List Nat), Txt.join (tx []) (ls.map tx) = tx ls.flatten := by
  intro ls
  have e : Txt.join (tx []) (ls.map tx) = Str.join (tx []) (ls.map tx) := StrLaws.glued_eq_join _ _
  rw [e]
  clear e
  have : ∀ ls : List (List Nat), Str.join (tx []) (ls.map tx) = tx ls.flatten := by
    intro ls
    induction ls with
    | nil => rfl
    | cons a r ih =>
      cases r with
      | nil => simp [Str.join]
      | cons b r =>
        show tx a ++ tx [] ++ Str.join (tx []) ((b :: r).map tx) = _
        rw [ih]; simp
  exact this ls
theorem foldl_app (x : Array Nat) : ∀ (n : Nat) (acc : Array Nat), ((List.replicate n x).foldl (· ++ ·) acc).toList = acc.toList ++ (List.replicate n x.toList).flatten
  | 0, acc => by simp
  | n + 1, acc => by
    rw [List.replicate_succ, List.foldl_cons, foldl_app x n, Array.toList_append, List.replicate_succ, List.flatten_cons, List.append_assoc]
theorem flat_one (c : Nat) : ∀ n : Nat, (List.replicate n [c]).flatten = List.replicate n c
  | 0 => rfl
  | n + 1 => by rw [List.replicate_succ, List.flatten_cons, flat_one c n]; rfl
theorem rep_tx (c : Nat) (n : Int) : repS (tx [c]) n = tx (List.replicate n.toNat c) := by
  unfold repS
  split
  · rename_i h
    have : n.toNat = 0 := by omega
    rw [this]; rfl
  · split
    · rename_i h1 h2
      have : n = 1 := by simpa using h2
      subst this; rfl
    · apply eq_tx
      show ((List.replicate n.toNat (tx [c]).cps).foldl (· ++ ·) #[]).toList = _
      rw [foldl_app, tx_list, flat_one]; simp
/-- split at one sign -/
def splitL (c : Nat) : List Nat → List (List Nat)
  | [] => [[]]
  | x :: l => if x = c then [] :: splitL c l else match splitL c l with
    | p :: r => (x :: p) :: r
    | [] => [[x]]
theorem splitL_ne (c : Nat) : ∀ l, splitL c l ≠ []
  | [] => by simp [splitL]
  | x :: l => by
    unfold splitL
    split
    · simp
    · split <;> simp
theorem splitL_app (c : Nat) : ∀ (p l : List Nat), c ∉ p → splitL c (p ++ c :: l) = p :: splitL c l
  | [], l, _ => by simp [splitL]
  | x :: p, l, h => by
    have hx : x ≠ c := fun e => h (by simp [e])
    have ih := splitL_app c p l fun m => h (List.mem_cons_of_mem _ m)
    rw [List.cons_append, splitL, if_neg hx, ih]
theorem splitL_free (c : Nat) : ∀ (p : List Nat), c ∉ p → splitL c p = [p]
  | [], _ => rfl
  | x :: p, h => by
    have hx : x ≠ c := fun e => h (by simp [e])
    rw [splitL, if_neg hx, splitL_free c p fun m => h (List.mem_cons_of_mem _ m)]
theorem split_join (c : Nat) : ∀ (ps : List Str), ps ≠ [] → (∀ p ∈ ps, c ∉ p.cps.toList) → (splitL c (Str.join (tx [c]) ps).cps.toList).map tx = ps
  | [], h, _ => absurd rfl h
  | [p], _, h => by
    show (splitL c p.cps.toList).map tx = _
    rw [splitL_free c _ (h p (by simp))]
    simp [← tx_of]
  | p :: q :: r, _, h => by
    have ih := split_join c (q :: r) (by simp) fun z hz => h z (List.mem_cons_of_mem _ hz)
    show (splitL c (p ++ tx [c] ++ Str.join (tx [c]) (q :: r)).cps.toList).map tx = _
    have e : (p ++ tx [c] ++ Str.join (tx [c]) (q :: r)).cps.toList = p.cps.toList ++ c :: (Str.join (tx [c]) (q :: r)).cps.toList := by
      conv => lhs; rw [tx_of p, tx_of (Str.join (tx [c]) (q :: r)), tx_app, tx_app, tx_list]
      simp
    rw [e, splitL_app c _ _ (h p (by simp)), List.map_cons, ih, ← tx_of]
theorem split_tx (c : Nat) (l : List Nat) : Txt.split (tx l) (tx [c]) = (splitL c l).map tx := by
  have h1 := StrLaws.join_split (tx l) (tx [c])
  have h2 := StrLaws.split_free (tx l) c
  have h3 := PyProof.Rows.split_pos (tx l) (tx [c])
  have h4 := split_join c (Txt.split (tx l) (tx [c])) (by intro e; rw [e] at h3; simp at h3) h2
  rw [h1, tx_list] at h4
  exact h4.symm
/-! slices -/
theorem cutS_to (l : List Nat) (k : Int) (h : 0 ≤ k) : cutS (tx l) none (some k) = tx (l.take k.toNat) := by
  apply eq_tx
  unfold cutS
  rw [List.toList_toArray, tx_list, tx_len, HT.sIx_none, List.drop_zero, Nat.sub_zero]
  obtain ⟨n, rfl⟩ := Int.eq_ofNat_of_zero_le h
  rw [HT.sIx_nat, Int.toNat_natCast]
  by_cases q : n ≤ l.length
  · rw [Nat.min_eq_left q]
  · rw [Nat.min_eq_right (by omega), List.take_length, List.take_of_length_le (by omega)]
theorem cutS_from (l : List Nat) (k : Int) (h : 0 ≤ k) : cutS (tx l) (some k) none = tx (l.drop k.toNat) := by
  apply eq_tx
  unfold cutS
  rw [List.toList_toArray, tx_list, tx_len, HT.sIx_none]
  obtain ⟨n, rfl⟩ := Int.eq_ofNat_of_zero_le h
  rw [HT.sIx_nat, Int.toNat_natCast]
  by_cases q : n ≤ l.length
  · rw [Nat.min_eq_left q, List.take_of_length_le (by simp)]
  · rw [Nat.min_eq_right (by omega), List.drop_length, List.drop_of_length_le (by omega)]; simp
@[simp] theorem e_slS (z : Str) (lo hi : Option Int) : slE (.str z) lo hi = if z.length ≤ 1000000 then some (.str (cutS z lo hi)) else none := rfl
@[simp] theorem e_ixS (l : List Nat) (i : Int) : ixD (.str (tx l)) i = if l.length ≤ 1000000 then (atI l i).map fun c => .str (tx [c]) else none := by
  show (if (tx l).length ≤ 1000000 then (atI (tx l).cps.toList i).map fun c => D.str ⟨#[c]⟩ else none) = _
  rw [tx_len, tx_list]; rfl
/-! the digits of a number -/
def decs (n : Nat) : List Nat := (Nat.toDigits 10 n).map Char.toNat
theorem decs_lt {n : Nat} (h : n < 10) : decs n = [48 + n] := by
  unfold decs
  rw [Nat.toDigits_of_lt_base h]
  have : ∀ m, m < 10 → (Nat.digitChar m).toNat = 48 + m := by decide
  simp [this n h]
theorem decs_ge {n : Nat} (h : 10 ≤ n) : decs n = decs (n / 10) ++ [48 + n % 10] := by
  unfold decs
  rw [Nat.toDigits_of_base_le (by decide) h]
  have : ∀ m, m < 10 → (Nat.digitChar m).toNat = 48 + m := by decide
  simp [this (n % 10) (Nat.mod_lt _ (by decide))]
theorem ofInt_tx (n : Nat) : Str.ofString (toString (n : Int)) = tx (decs n) := by
  rw [tx_ofString]
  have e : toString (n : Int) = Nat.repr n := rfl
  rw [e, Nat.repr_eq_ofList_toDigits, String.toList_ofList]
  rfl
open NumText in
theorem decs_spec (n : Nat) : AllDigits (decs n) ∧ decs n ≠ [] ∧ digitsVal (decs n) = n ∧ (0 < n → (decs n).head? ≠ some 48) := by
  induction n using Nat.strongRecOn with
  | ind n ih =>
    by_cases h : n < 10
    · rw [decs_lt h]
      refine ⟨fun c hc => ?_, by simp, ?_, fun hp => ?_⟩
      · simp at hc; omega
      · show 0 * 10 + (48 + n - 48) = n; omega
      · simp; omega
    · have h : 10 ≤ n := by omega
      obtain ⟨a, b, c, d⟩ := ih (n / 10) (by omega)
      rw [decs_ge h]
      refine ⟨fun x hx => ?_, by simp, ?_, fun _ => ?_⟩
      · rw [List.mem_append] at hx
        rcases hx with hx | hx
        · exact a x hx
        · simp at hx; omega
      · unfold digitsVal at c ⊢
        rw [List.foldl_append, c]
        show n / 10 * 10 + (48 + n % 10 - 48) = n
        omega
      · have d := d (by omega)
        cases q : decs (n / 10) with
        | nil => exact absurd q b
        | cons x r => rw [q] at d; simpa using d
theorem decs_len : ∀ (k n : Nat), n < 10 ^ (k + 1) → (decs n).length ≤ k + 1
  | 0, n, h => by rw [decs_lt (by simpa using h)]; simp
  | k + 1, n, h => by
    by_cases q : n < 10
    · rw [decs_lt q]; simp
    · rw [decs_ge (by omega), List.length_append]
      have := decs_len k (n / 10) (by rw [Nat.pow_succ] at h; omega)
      simp; omega
theorem decs_len_ge : ∀ (k n : Nat), 10 ^ k ≤ n → k + 1 ≤ (decs n).length
  | 0, n, h => by
    have := (decs_spec n).2.1
    cases q : decs n with
    | nil => exact absurd q this
    | cons x r => simp
  | k + 1, n, h => by
    have h10 : 10 ≤ n := by
      have : 10 ^ 1 ≤ 10 ^ (k + 1) := Nat.pow_le_pow_right (by decide) (by omega)
      omega
    rw [decs_ge h10, List.length_append]
    have := decs_len_ge k (n / 10) (by rw [Nat.pow_succ] at h; omega)
    simp; omega
open NumText in
theorem int_tx {l : List Nat} (h : AllDigits l) (h1 : l ≠ []) (h2 : l.length ≤ 640) : PySem.intText? (tx l) = some ((digitsVal l : Nat) : Int) := by
  have := intText_digits (x := tx l) (by rw [tx_list]; exact h) (by rw [tx_list]; exact h1) (by rw [tx_len]; omega)
  rw [tx_list] at this
  exact this
def logOk (i : Int) : Bool := decide (i.natAbs.log2 < 1920)
def intS (i : Int) : Str := Str.ofString (toString i)
theorem intS_tx (n : Nat) : intS (n : Int) = tx (decs n) := ofInt_tx n
@[simp] theorem e_str (i : Int) : dStr (.int i) = if logOk i = true then some (.str (intS i)) else none := by
  show (if i.natAbs.log2 < 1920 then some (D.str (intS i)) else none) = _
  unfold logOk
  by_cases h : i.natAbs.log2 < 1920
  · rw [if_pos h, if_pos (decide_eq_true h)]
  · rw [if_neg h, if_neg (by simpa using h)]
@[simp] theorem e_intS (x : Str) : dIntS (.str x) = if x.length ≤ 640 then (PySem.intText? x).map .int else none := rfl
@[simp] theorem e_allL (ds : List D) : dAll (.lst ds) = (allBl ds).map fun bs => .bl (bs.all id) := rfl
theorem allBl_map (bs : List Bool) : allBl (bs.map .bl) = some bs := by
  induction bs with
  | nil => rfl
  | cons b r ih => show (allBl (r.map .bl)).map _ = _; rw [ih]; rfl
@[simp] theorem e_mulS (x : Str) (n : Int) : dMulS (.str x) (.int n) = if x.length = 1 ∧ -1000 ≤ n ∧ n ≤ 1000 then some (.str (repS x n)) else none := rfl
@[simp] theorem e_gP (g : D → List D → Option D) (d : D) (ds : List DV) (s : S) : gP g (.p d) ds s = (match allP ds with | some xs => ret (g d xs) s | none => none) := rfl
@[simp] theorem e_zfill (x : Str) (i : Int) : dZfill (.str x) [.int i] = if PadOk i = true then some (.str (Txt.zfill x i)) else none := rfl
@[simp] theorem e_rstrip (x y : Str) : dRstrip (.str x) [.str y] = if x.length ≤ 1000000 then some (.str (Txt.rstripChars x y)) else none := rfl
@[simp] theorem e_rmpre (x y : Str) : dRmpre (.str x) [.str y] = if x.length ≤ 1000000 then some (.str (Txt.removeprefix x y)) else none := rfl
@[simp] theorem e_part (x y : Str) : dPart (.str x) [.str y] = if (y.length == 0) = false ∧ x.length ≤ 1000000 then some (.tup [.str (Txt.partition x y).1, .str (Txt.partition x y).2.1, .str (Txt.partition x y).2.2]) else none := rfl
@[simp] theorem e_split (x y : Str) : dSplit (.str x) [.str y] = if (y.length == 0) = false ∧ x.length ≤ 1000000 then some (.lst ((Txt.split x y).map .str)) else none := rfl
@[simp] theorem e_join (a : Str) (ds : List D) : dJoin (.str a) [.lst ds] = (match allS ds with | some ys => if (ys.map (·.length)).sum + ys.length * a.length ≤ 16777216 then some (.str (Txt.join a ys)) else none | none => none) := rfl
theorem allS_map (ys : List Str) : allS (ys.map .str) = some ys := by
  induction ys with
  | nil => rfl
  | cons b r ih => show (allS (r.map .str)).map _ = _; rw [ih]; rfl
def sign1 (f : Str) : Nat := f.cps.getD 0 0
@[simp] theorem e_sign1 (c : Nat) : sign1 (tx [c]) = c := rfl
@[simp] theorem e_ljust (x : Str) (i : Int) (f : Str) : dLjust (.str x) [.int i, .str f] = if PadOk i = true ∧ f.length = 1 then some (.str (Txt.ljustF x i (sign1 f))) else none := rfl
theorem index_tx {c : Nat} {l : List Nat} (h : c ∈ l) : dIndex (.str (tx l)) [.str (tx [c])] = some (.int (idx c l : Nat)) := by
  unfold dIndex
  rcases occ_tx c l with ⟨_, hm⟩ | ⟨r, e, _⟩
  · exact absurd h hm
  · simp only [e]
@[simp] theorem e_fmt (m : EM) (s : S) : mFmt m s = (bnd m (pur fun d => ret (dFmt d))) s := rfl
@[simp] theorem e_fmtI (i : Int) : dFmt (.int i) = if logOk i = true then some (.str (intS i)) else none := e_str i
@[simp] theorem e_fmtS (y : Str) : dFmt (.str y) = if y.length ≤ 1000000 then some (.str y) else none := rfl
@[simp] theorem e_jNil (acc : Str) (s : S) : jNil acc s = some (.ok acc s.m) := rfl
def jK (r : JM) (acc : Str) (d : D) : Mi Str := match d with
  | .str y => fun s => if acc.length + y.length ≤ 1000000 then r (acc ++ y) s else none
  | _ => fun _ => none
@[simp] theorem e_jCons (m : EM) (r : JM) (acc : Str) (s : S) : jCons m r acc s = (bnd m (pur (jK r acc))) s := rfl
@[simp] theorem e_jK (r : JM) (acc y : Str) (s : S) : jK r acc (.str y) s = if acc.length + y.length ≤ 1000000 then r (acc ++ y) s else none := rfl
@[simp] theorem e_joined (r : JM) (s : S) : mJoined r s = (bnd (r Str.empty) fun y s => some (.ok (.p (.str y)) s.m)) s := rfl
theorem log_ok {n : Nat} (h : n ≤ 1000000000000000000) : n.log2 < 1920 := by
  by_cases q : n = 0
  · subst q; decide
  · exact Nat.lt_of_lt_of_le ((Nat.log2_lt q).mpr (Nat.lt_of_le_of_lt h (by decide : 1000000000000000000 < 2 ^ 64))) (by decide)
theorem logOk_of {i : Int} (h : i.natAbs ≤ 1000000000000000000) : logOk i = true := decide_eq_true (log_ok h)
theorem pad4 : PadOk 4 = true := by decide
@[simp] theorem e_itS (l : List Nat) : itS (.str (tx l)) = some (l.map fun c => .p (.str (tx [c]))) := by
  show some ((tx l).cps.toList.map _) = _
  rw [tx_list]; rfl
@[simp] theorem e_tyS (M : List O) (x : Str) : tyOk "str" M (.p (.str x)) = true := rfl
@[simp] theorem e_tyL (M : List O) (x : List D) : tyOk "list" M (.p (.lst x)) = true := rfl
@[simp] theorem e_gs0 (s : S) : gsNil [] s = some s := rfl
@[simp] theorem e_gs1 (m : GM) (n : List DV → S → Option S) (d : DV) (r : List DV) (s : S) : gsCons m n (d :: r) s = (match m d s with | some s1 => n r s1 | none => none) := rfl
@[simp] theorem e_gT (n : Nat) (m : List DV → S → Option S) (xs : List D) (s : S) : gT n m (.p (.tup xs)) s = if xs.length = n then m (xs.map .p) s else none := rfl
theorem pad_digits {l : List Nat} (k : Nat) (h : NumText.AllDigits l) : NumText.AllDigits (l ++ List.replicate k 48) := fun c hc => by
  rw [List.mem_append] at hc
  rcases hc with hc | hc
  · exact h c hc
  · have := List.eq_of_mem_replicate hc; omega
end DL
namespace DL
open PySem L2
/-! loops and comprehensions with what stays true -/
theorem wpS.imp {o : Option (Fl × S)} {P Q : Fl → S → Prop} (h : wpS o P) (k : ∀ f s, P f s → Q f s) : wpS o Q := by
  obtain ⟨f, s, e, n, p⟩ := h
  exact ⟨f, s, e, n, k f s p⟩
/-- a loop whose body goes on, or returns -/
theorem w_loop {g : GM} {b : SM} {Inv : S → Prop} {R : DV → S → Prop} : ∀ (ds : List DV) (s : S), Inv s →
    (∀ d ∈ ds, ∀ s, Inv s → ∃ s1, g d s = some s1 ∧ wpS (b s1) (fun f s2 => (f = .nx ∧ Inv s2) ∨ (∃ v, f = .rt v ∧ R v s2))) →
    wpS (loopS g b ds s) (fun f s2 => (f = .nx ∧ Inv s2) ∨ (∃ v, f = .rt v ∧ R v s2))
  | [], s, h, _ => by simp [h]
  | d :: ds, s, h, k => by
    obtain ⟨s1, h1, f, s2, e, n, p⟩ := k d (by simp) s h
    rw [loopS_cons, h1]
    dsimp only
    rw [e]
    rcases p with ⟨rfl, p⟩ | ⟨v, rfl, p⟩
    · exact w_loop ds s2 p fun x hx => k x (List.mem_cons_of_mem _ hx)
    · exact ⟨_, _, rfl, rfl, .inr ⟨v, rfl, p⟩⟩
/-- a comprehension that draws -/
theorem compL_draw {l : List (Option DV)} {g : GM} {e : EM} {Inv : List O → Prop} {R : D → Prop} : ∀ (ds : List DV) (acc : List D) (M : List O), Inv M → (∀ y ∈ acc, R y) → acc.length + ds.length ≤ 1000000 →
    (∀ d ∈ ds, ∀ M, Inv M → ∃ s1, g d ⟨l, M⟩ = some s1 ∧ wpB (e s1) (fun v M2 => ∃ y, v = .p y ∧ R y ∧ Inv M2)) →
    ∃ ys M', compL l g tYesM e ds acc M = some (ys, M') ∧ Inv M' ∧ (∀ y ∈ ys, R y) ∧ ys.length = acc.length + ds.length
  | [], acc, M, h, ha, _, _ => ⟨acc, M, rfl, h, ha, rfl⟩
  | d :: ds, acc, M, h, ha, hl, k => by
    obtain ⟨s1, h1, v, M2, e1, y, rfl, hy, h2⟩ := k d (by simp) M h
    have hl' : acc.length + (ds.length + 1) ≤ 1000000 := hl
    obtain ⟨ys, M', e2, i2, r2, l2⟩ := compL_draw ds (acc ++ [y]) M2 h2 (fun z hz => by
      rw [List.mem_append] at hz
      rcases hz with hz | hz
      · exact ha z hz
      · simp at hz; rw [hz]; exact hy) (by simp; omega) fun x hx => k x (List.mem_cons_of_mem _ hx)
    refine ⟨ys, M', ?_, i2, r2, by rw [l2]; simp; omega⟩
    unfold compL
    rw [h1]
    dsimp only
    have q : tYesM s1 = some (.ok (.p (.bl true)) s1.m) := rfl
    rw [q]
    dsimp only
    have q2 : e ⟨s1.l, s1.m⟩ = some (.ok (.p y) M2) := e1
    rw [q2]
    dsimp only
    rw [if_pos (by omega)]
    exact e2
end DL
namespace DL
open PySem L2
open PyProof.Rows (AllBare IntsAre)
/-! ### the law's own def, run by the caller itself: no repr is under way -/
section
variable {P : Program} {w : World} {K : PySem.W.Frag} {mg : Str → Option Value} {base : Heap} {x qual : Str} {st : Stmt} {f a : Addr} {fd : FuncData} {N : List Str} {k : Nat}
def Told (s₁ : Shared) (r : Result) (s' : Shared) : Prop := r = .ok (.ret (.bool true)) ∧ OldK s₁.heap s'.heap ∧ s'.os = s₁.os ∧ AllBare s'.gens
abbrev TopB (P : Program) (w : World) (K : PySem.W.Frag) (mg : Str → Option Value) (base : Heap) (N : List Str) (qual : Str) (st : Stmt) (f : Addr) (k : Nat) (m : SM) : Prop :=
  ∀ (cdv : Value) (s : Shared) (H : Hp) (E : XK), Room k (callerA.deeper (PyProof.Rows.envOfC qual (defScope st) s.heap.objs.size f cdv)) →
    ∃ t, DSs K (cxOf (L2.CX P w) P w K mg base N qual (defScope st) f cdv callerA [] s H E) (WE0 E) (defBody st) t m
/-- from the entry on -/
theorem run_top {m : SM} {s₁ : Shared} {H : Hp} {ns : List Int} {p : Str} (F : Fun K x qual st f fd) (Sc : FnScope N [p] (defScope st)) (hr : Room (k + 1) callerA) (body : TopB P w K mg base N qual st f k m)
    (e0 : Env0 P w K mg base callerA [] s₁ H) (hb : BindsTo s₁ fd ⟨[.ref a], []⟩ [(p, .ref a)]) (hS : SqL K H a (ns.map V.int)) (hO : Only H) (good : runA N.length m [.scr (ns.map .int)] = some (.ok (.bl true))) :
    codeAny (model P w) callerA (.call (.ref f) ⟨[.ref a], []⟩) (Told s₁) s₁ := by
  obtain ⟨oc, od, kV, doc, pm, an, cdv, ct, osl, rfl, lk, hcd⟩ := F.ex
  have inS : ∀ b o, base.get? b = some o → s₁.heap.get? b = some o := fun b o q => (e0.bs b o q).1
  have KS : K.In s₁.heap := e0.mod.kin.keeps inS
  have NL : s₁.heap.NoLimit := e0.mod.nolimit.keeps inS
  refine codeAny_mono (R := CR (L2.CX P w) [] P w H s₁ (fun v _ => v = V.bl true) (fun _ _ _ => False)) ?_ fun r s' h => ?_
  rotate_left
  · cases r with
    | error e =>
      obtain ⟨_, _, _, _, _, _, _, _, _, _, _, _, z⟩ := (show L2.CX P w [] H s₁ (fun _ _ _ => False) e s' from h)
      exact z.elim
    | ok fl =>
      cases fl with
      | ret u =>
        obtain ⟨v, H', os, bare, un, hok, rv, e⟩ := h
        have e : v = V.bl true := e
        subst e
        obtain rfl : u = Value.bool true := rv
        refine ⟨rfl, OldK.of_keep fun b o e => ?_, os, bare⟩
        rcases hO b with z | ⟨ob, xs, z⟩
        · exact un.keep b o e z (by intro q; exact absurd (show b ∈ ([] : List Addr) from q) (by simp)) (by simp)
        · obtain ⟨e1, _⟩ := e0.hok b _ z
          obtain ⟨e2, _⟩ := hok b _ (un.frzs b ob _ z)
          rw [e] at e1; cases e1
          exact e2
      | next => exact False.elim h
      | brk => exact False.elim h
      | cont => exact False.elim h
  -- the frame is made, the script bound
  refine PySem.codeAny_call_function hr.depth (KS _ _ lk) rfl Sc.co Sc.gen rfl (PySem.W.codeRec_of KS hcd) (hb _ _ _ _ ?_)
  refine PySem.wpAny_newFunctionEnv_cells Sc.kind (fun y hy => ?_) fun env he s2 made => ?_
  · obtain ⟨n, v⟩ := y
    rcases Sc.par n (List.of_mem_zip (l₁ := [p]) (l₂ := [Value.ref a]) hy).1 with q | q
    · exact .inl q
    · exact .inr ⟨q, PySem.W.cellsFrom_some _ _ _ (.inl q)⟩
  subst he
  refine ⟨NL.keeps made.toInCall.keep, PySem.codeAny_func ?_⟩
  obtain ⟨t, d⟩ := body cdv s₁ H (fun _ _ _ => False) (hr.deeper _)
  have I := inv_start (CX := L2.CX P w) (E := fun _ _ _ => False) Sc hr.hd e0 (vs := [.ref a]) rfl (.cons rfl .nil) made
  have q : t { nx := fun _ H' => (fun v (_ : Hp) => v = V.bl true) .non H', rt := fun v _ => v = V.bl true } (L2.start N [.ref a]) H := by
    have w0 : Wf K H H [] [] := ⟨Same.refl _, rfl, List.nodup_nil, (by simp), fun n a o h => by simp at h⟩
    unfold runA at good
    cases z : m ⟨slotsOf N.length ([D.scr (ns.map .int)].map .p), []⟩ with
    | none => rw [z] at good; cases good
    | some fs =>
      rw [z] at good
      obtain ⟨fl, s1⟩ := fs
      refine d.so.ok (L2.start N [.ref a]) H _ H [] _ _ w0 (start_rep (.cons (show RepV K H [] (.ref a) (.p (.scr (ns.map .int))) from Rep.scr hS (intsRep ns)) .nil)) z ?_
      cases fl with
      | nx => cases good
      | rt d =>
        cases d with
        | p d => cases good; exact fun v Z' H' I' w' x' r' => by cases r'; rfl
        | o n => cases good
      | ex c fs => cases good
      | bk => cases good
      | ct => cases good
  refine wpAny_mono (d.ps.run [] s2 (L2.start N [.ref a]) H _ I q) (fun fl s' h => ?_) fun e s' h => ?_
  · cases fl with
    | ret u =>
      obtain ⟨v, σ', H', J, rv, e⟩ := h
      exact ⟨v, H', J.os, J.bare, J.base, J.hok, rv, e⟩
    | next =>
      obtain ⟨σ', H', J, e⟩ := h
      cases e
    | brk =>
      obtain ⟨_, _, _, e⟩ := h
      exact False.elim e
    | cont =>
      obtain ⟨_, _, _, e⟩ := h
      exact False.elim e
  · exact h
/-- the entry: what is tracked is the script at most -/
theorem entry {H : Hp} {s₁ : Shared} {mb : Str → Option Value} {vs : List Value} (KX : K.In s₁.heap) (hns : s₁.heap.Ns mainGlobals mg) (hb : s₁.heap.Ns builtinsNs mb) (hbb : ∀ x : Str, x ≠ "__name__" → mb x = bootBuiltins x) (hlim : s₁.heap.NoLimit) (hg : s₁.gens = #[])
    (ha : s₁.heap.get? a = some { cls := .type "list", data := .seq vs.toArray }) (hok : HOk P w H s₁.heap) (one : ∀ b, H b ≠ none → b = a) (out : H a ≠ none → K.lookup a = none) :
    Env0 P w K mg (hidT s₁.heap H) callerA [] s₁ H ∧ K.In (hidT s₁.heap H) ∧ (hidT s₁.heap H).Ns mainGlobals mg := by
  have free : ∀ {b : Addr}, b ≠ a → H b = none := fun {b} n => by
    cases q : H b with
    | none => rfl
    | some u => exact absurd (one b (by rw [q]; simp)) n
  have kin : K.In (hidT s₁.heap H) := fun b o e => by
    refine hidT_get (KX b o e) ?_
    by_cases n : b = a
    · subst n
      cases q : H b with
      | none => rfl
      | some u => rw [out (by rw [q]; simp)] at e; cases e
    · exact free n
  have ns : ∀ {b : Addr} {m : Str → Option Value}, s₁.heap.Ns b m → (hidT s₁.heap H).Ns b m := fun {b m} h => by
    obtain ⟨o, es, ep, e, d, r⟩ := h
    refine ⟨o, es, ep, hidT_get e ?_, d, r⟩
    by_cases n : b = a
    · subst n
      rw [ha] at e; cases e
      have d' : Data.seq vs.toArray _ = Data.dict es ep := d
      cases d'
    · exact free n
  refine ⟨⟨rfl, ⟨kin, ns hns, ⟨mb, ns hb, hbb⟩, ?_⟩, fun b o e => of_hidT e, Nat.le_of_eq (hidT_size _ _), trivial, fun b q => absurd (show b ∈ ([] : List Addr) from q) (by simp), hok, .of_eq hg⟩, kin, ns hns⟩
  obtain ⟨mc, h1, h2⟩ := hlim
  exact ⟨mc, ns h1, h2⟩
theorem law_top {m : SM} {s₁ : Shared} {mb : Str → Option Value} {vs : List Value} {ns : List Int} {p : Str} (KX : K.In s₁.heap) (hns : s₁.heap.Ns mainGlobals mg) (hb : s₁.heap.Ns builtinsNs mb) (hbb : ∀ x : Str, x ≠ "__name__" → mb x = bootBuiltins x) (hlim : s₁.heap.NoLimit) (hg : s₁.gens = #[])
    (ha : s₁.heap.get? a = some { cls := .type "list", data := .seq vs.toArray }) (hi : IntsAre vs ns) (hl : ns.length ≤ sizeLine) (hr : Room (k + 1) callerA) (F : Fun K x qual st f fd) (Sc : FnScope N [p] (defScope st)) (hbind : ∀ (s : Shared) (u : Value), BindsTo s fd ⟨[u], []⟩ [(p, u)])
    (body : ∀ base : Heap, K.In base → base.Ns mainGlobals mg → TopB P w K mg base N qual st f k m) (good : runA N.length m [.scr (ns.map .int)] = some (.ok (.bl true))) :
    codeAny (model P w) callerA (.call (.ref f) ⟨[.ref a], []⟩) (Told s₁) s₁ := by
  have rv := vals_ints hi
  cases hk : K.lookup a with
  | some o =>
    have e := KX a o hk
    rw [ha] at e
    cases e
    obtain ⟨e0, k0, n0⟩ := entry (P := P) (w := w) (H := fun _ => none) KX hns hb hbb hlim hg ha (fun b u z => by have z' : (none : Option HO) = some u := z; cases z') (fun b z => absurd rfl z) (fun z => absurd rfl z)
    exact run_top F Sc hr (body _ k0 n0) e0 (hbind _ _) (.inr ⟨_, vs.toArray, _, hk, rfl, rfl, rfl, by rw [List.size_toArray, hi.length]; exact hl, by simpa using rv⟩) (fun _ => .inl rfl) good
  | none =>
    obtain ⟨e0, k0, n0⟩ := entry (P := P) (w := w) (H := fun b => if b = a then some (.frz { cls := .type "list", data := .seq vs.toArray } (.lst (ns.map V.int))) else none) KX hns hb hbb hlim hg ha (fun b u z => by
      by_cases n : b = a
      · have z' := (if_pos n).symm.trans z
        cases z'
        subst n
        exact ⟨ha, by rw [List.length_map]; exact hl, vs, _, rv, ha⟩
      · have z' := (if_neg n).symm.trans z
        cases z') (fun b z => by
      by_cases n : b = a
      · exact n
      · exact absurd (if_neg n) z) (fun _ => hk)
    refine run_top F Sc hr (body _ k0 n0) e0 (hbind _ _) (.inl (.inr ⟨{ cls := .type "list", data := .seq vs.toArray }, if_pos rfl⟩)) (fun b => ?_) good
    by_cases n : b = a
    · exact .inr ⟨_, _, if_pos n⟩
    · exact .inl (if_neg n)
end
theorem walk_dlG {l : PySem.W.OpenLaw} {k : Nat} {q : Program} {loose : List Str} {XP : (Str → Option Value) → Heap → Prop} {YP : World → Heap → Prop} {d : DefRec} {K : Params → PySem.W.Frag} {x qual : Str} {st : Stmt} {N : List Str} {m : SM} (hn : l.most = some 63) (hdf : d.params.defaults = []) (hr : Room (k + 1) callerA)
    (hY : ∀ (w : World) (h : Heap), YP w h → (K w.params).In h) (Sc : FnScope N ["script"] (defScope st))
    (F : ∀ (w : World) (mg : Str → Option Value) (fa : Addr) (h : Heap), (K w.params).In h → h.Ns mainGlobals mg → mg d.name = some (.ref fa) →
      ∃ fd : FuncData, Fun (K w.params) x qual st fa fd ∧ (∀ (s : Shared) (u : Value), BindsTo s fd ⟨[u], []⟩ [("script", u)]) ∧ ∀ base : Heap, (K w.params).In base → base.Ns mainGlobals mg → TopB l.prog w (K w.params) mg base N qual st fa k m)
    (good : ∀ ns : List Int, ns.length ≤ 63 → (∀ z ∈ ns, Builtin.Int.intBits z ≤ 1048576) → runA N.length m [.scr (ns.map .int)] = some (.ok (.bl true))) :
    PySem.W.WalkO q loose XP YP l.row.toRowW d [] (fun f vs => PySem.call f vs) := by
  refine Att.attach_callB hn hdf fun w s₀ s₁ mg mb fa o pm cd doc a vs ns G Y ho hd hcd hmg hobj hints hlen hbits hg => ?_
  have KX := hY w _ Y
  obtain ⟨fd, hF, hbind, body⟩ := F w mg fa _ KX G.T.g hmg
  exact law_top KX G.T.g G.T.b G.T.builtins G.T.nolimit hg hobj hints (Nat.le_trans hlen (by decide)) hr hF Sc hbind body (good ns hlen hbits)
end DL
namespace DL
open PySem L2
/-! ### repr of data -/
section
variable {K : PySem.W.Frag} {X : Cx} {W : WX} {e a b c : Expr} {es : List Expr} {pos : Pos}
def rReprT (K : PySem.W.Frag) : List V → Hp → VK → Prop := fun xs H Q => ∃ x d, xs = [x] ∧ Dp K H x d ∧ PyData.canLay0 d = true ∧ d.depth ≤ 64 ∧ d.showable = true ∧ d.shown.length ≤ sizeLine ∧ Q (.str d.shown) H
theorem call_reprT (hg : X.A.guards = some []) (hu : X.A.units + 66 < cLine) : CallR X (.builtin "repr") (rReprT X.K) := by
  intro pins s σ H xs us Q I rs h
  obtain ⟨x, d, rfl, hd, hc, hdep, hs, hz, q⟩ := h
  cases rs with
  | cons rx r =>
  cases r
  rename_i v
  have ref : ∀ (p : Addr), x = .ref p → wpAny (model X.prog X.w) X.A (call (.builtin "repr") [v]) (EP X pins σ Q) X.xe s := fun p e => by
    subst e
    obtain ⟨as, r1⟩ := Dp.reads I d _ v hd rx
    obtain rfl : v = Value.ref p := rx
    exact PySem.repr_of_reads' r1 hs (PyData.noDict_hsm (PyData.hasDict_of_canLay d hc)) hg (by omega) (fun _ _ q => q) (fun h' u tk hk => ⟨.str _, H, I.kept hk, ⟨_, rfl⟩, q⟩) hz
  cases hd with
  | non => obtain rfl : v = Value.none := rx; exact PySem.P.repr_of_none ⟨.str _, H, I.tok _, ⟨_, rfl⟩, q⟩
  | bl b => obtain rfl : v = Value.bool b := rx; exact PySem.P.repr_of_bool ⟨.str _, H, I.tok _, ⟨_, rfl⟩, by cases b <;> exact q⟩
  | int i =>
    obtain ⟨t, rfl⟩ := rx
    have hs' : decide (i.natAbs.log2 < 1920) = true := hs
    exact PySem.P.repr_of_int (of_decide_eq_true hs') ⟨.str _, H, I.tok _, ⟨_, rfl⟩, q⟩
  | str y => obtain ⟨t, rfl⟩ := rx; exact PySem.P.repr_of_str ⟨.str _, H, I.tok _, ⟨_, rfl⟩, q⟩ hz
  | lst h1 h2 => exact ref _ rfl
  | tup h1 h2 => exact ref _ rfl
mutual
def showD : D → Bool
  | .int i => logOk i
  | .lst xs => showDs xs
  | .tup xs => showDs xs
  | .ktup xs => showDs xs
  | .klst xs => showDs xs
  | .non => true
  | .bl _ => true
  | .str _ => true
  | _ => false
def showDs : List D → Bool
  | [] => true
  | x :: xs => showD x && showDs xs
end
/-! what a text of it has at most -/
mutual
def rb : D → Nat
  | .int i => (intS i).length
  | .str x => (reprText x).length
  | .lst xs => rbs xs + 3
  | .tup xs => rbs xs + 3
  | .ktup xs => rbs xs + 3
  | .klst xs => rbs xs + 3
  | _ => 5
def rbs : List D → Nat
  | [] => 0
  | x :: xs => rb x + 2 + rbs xs
end
mutual
theorem showD_ok : ∀ d : D, showD d = true → (toP d).showable = true
  | .non, _ => by simp [toP, PyData.showable]
  | .bl _, _ => by simp [toP, PyData.showable]
  | .int i, h => h
  | .str x, _ => by simp [toP, PyData.showable]
  | .lst xs, h => by
    show PyData.showable (.list (toPs xs)) = true
    simp only [PyData.showable]
    exact showDs_ok xs h
  | .tup xs, h => by
    show PyData.showable (.tuple (toPs xs)) = true
    simp only [PyData.showable]
    exact showDs_ok xs h
  | .klst xs, h => by
    show PyData.showable (.list (toPs xs)) = true
    simp only [PyData.showable]
    exact showDs_ok xs h
  | .ktup xs, h => by
    show PyData.showable (.tuple (toPs xs)) = true
    simp only [PyData.showable]
    exact showDs_ok xs h
  | .dK _, h => by cases h
  | .dT _, h => by cases h
  | .fn _, h => by cases h
  | .clo _ _, h => by cases h
  | .scr _, h => by cases h
  | .ty _, h => by cases h
  | .rng _ _, h => by cases h
theorem showDs_ok : ∀ d : List D, showDs d = true → PyData.showableAll (toPs d) = true
  | [], _ => by simp [toPs, PyData.showableAll]
  | x :: xs, h => by
    have h : (showD x && showDs xs) = true := h
    rw [Bool.and_eq_true] at h
    show PyData.showableAll (toP x :: toPs xs) = true
    simp only [PyData.showableAll]
    rw [showD_ok x h.1, showDs_ok xs h.2]; rfl
end
theorem none_len : (PyData.shown .none).length ≤ 5 := by decide +kernel
theorem bool_len (b : Bool) : (PyData.shown (.bool b)).length ≤ 5 := by cases b <;> decide +kernel
mutual
theorem rb_ok : ∀ d : D, okD d = true → (toP d).shown.length ≤ rb d
  | .non, _ => none_len
  | .bl b, _ => bool_len b
  | .int i, _ => by
    show (PyData.shown (.int i)).length ≤ (intS i).length
    simp only [PyData.shown]
    exact Nat.le_refl _
  | .str x, _ => by
    show (PyData.shown (.str x)).length ≤ (reprText x).length
    simp only [PyData.shown]
    exact Nat.le_refl _
  | .lst xs, h => by
    show (PyData.shown (.list (toPs xs))).length ≤ rbs xs + 3
    simp only [PyData.shown]
    have a := listText_len_le (PyData.shownAll (toPs xs))
    have b := rbs_ok xs h
    omega
  | .tup xs, h => by
    show (PyData.shown (.tuple (toPs xs))).length ≤ rbs xs + 3
    simp only [PyData.shown]
    have a := tupleText_len_le (PyData.shownAll (toPs xs))
    have b := rbs_ok xs h
    omega
  | .klst xs, h => by
    show (PyData.shown (.list (toPs xs))).length ≤ rbs xs + 3
    simp only [PyData.shown]
    have a := listText_len_le (PyData.shownAll (toPs xs))
    have b := rbs_ok xs h
    omega
  | .ktup xs, h => by
    show (PyData.shown (.tuple (toPs xs))).length ≤ rbs xs + 3
    simp only [PyData.shown]
    have a := tupleText_len_le (PyData.shownAll (toPs xs))
    have b := rbs_ok xs h
    omega
  | .dK _, h => by cases h
  | .dT _, h => by cases h
  | .fn _, h => by cases h
  | .clo _ _, h => by cases h
  | .scr _, h => by cases h
  | .ty _, h => by cases h
  | .rng _ _, h => by cases h
theorem rbs_ok : ∀ d : List D, okDs d = true → ((PyData.shownAll (toPs d)).map (·.length)).sum + 2 * (PyData.shownAll (toPs d)).length ≤ rbs d
  | [], _ => by
    have e : PyData.shownAll (toPs []) = [] := by show PyData.shownAll [] = []; simp only [PyData.shownAll]
    rw [e]; simp [rbs]
  | x :: xs, h => by
    have h : (okD x && okDs xs) = true := h
    rw [Bool.and_eq_true] at h
    have e : PyData.shownAll (toPs (x :: xs)) = (toP x).shown :: PyData.shownAll (toPs xs) := by show PyData.shownAll (toP x :: toPs xs) = _; simp only [PyData.shownAll]
    have a := rb_ok x h.1
    have b := rbs_ok xs h.2
    rw [e, List.map_cons, List.sum_cons, List.length_cons]
    show _ ≤ rb x + 2 + rbs xs
    omega
end
def reprD (d : D) : Str := (toP d).shown
def dRepr (d : D) : Option D := if (shp d && showD d) = true then if rb d ≤ 1000000 then some (.str (reprD d)) else none else none
theorem cd_repr (hg : X.A.guards = some []) (hu : X.A.units + 66 < cLine) : CallD K X (.builtin "repr") (rReprT K) (g1 dRepr) := ⟨fun k => by rw [← k]; exact call_reprT hg hu, g1_ok fun x d c Z H Q s hx hg p => by
  unfold dRepr at hg
  split at hg
  · rename_i h1
    split at hg
    · rename_i h2
      cases hg
      rw [Bool.and_eq_true] at h1
      have h0 := h1.1
      unfold shp at h0
      rw [Bool.and_eq_true, decide_eq_true_eq] at h0
      exact ⟨x, toP d, rfl, hx.dp s (shaped_can h1.1), shaped_can h1.1, by rw [depD_dep d h0.1]; exact h0.2, showD_ok d h1.2, Nat.le_trans (rb_ok d h0.1) (size_le h2), p _ Z H (ExtP.refl s) (.str _)⟩
    · cases hg
  · cases hg⟩
theorem units66 {k : Nat} {A : Around} (r : Room k A) : A.units + 66 < cLine := by have := r.un; omega
end
end DL
namespace DL
open PySem L2
section
variable {K : PySem.W.Frag} {X : Cx} {W : WX} {e a b c : Expr} {es : List Expr} {pos : Pos}
/-! ### order of ints, texts, truths -/
def lexS (x y : Str) : Bool := decide (x.cps.toList < y.cps.toList)
def b2n (b : Bool) : Int := if b then 1 else 0
def dLt2 : D → D → Option D
  | .int i, .int j => some (.bl (decide (i < j)))
  | .str x, .str y => some (.bl (lexS x y))
  | .bl p, .bl q => some (.bl (decide (b2n p < b2n q)))
  | _, _ => none
def dLe2 : D → D → Option D
  | .int i, .int j => some (.bl (decide (i ≤ j)))
  | .str x, .str y => some (.bl (!lexS y x))
  | .bl p, .bl q => some (.bl (decide (b2n p ≤ b2n q)))
  | _, _ => none
theorem bool_dLt2 : boolD dLt2 := fun d e c h => by
  unfold dLt2 at h
  split at h <;> first | (cases h; exact ⟨_, rfl⟩) | cases h
theorem bool_dLe2 : boolD dLe2 := fun d e c h => by
  unfold dLe2 at h
  split at h <;> first | (cases h; exact ⟨_, rfl⟩) | cases h
theorem op_lt_bl : OpR X (compareOp .Lt) (fun x y H Q => ∃ p q, x = .bl p ∧ y = .bl q ∧ Q (.bl (decide (b2n p < b2n q))) H) := by
  intro pins s σ H x y v u Q I rx ry h
  obtain ⟨p, r, rfl, rfl, q⟩ := h
  cases (show v = Value.bool p from rx)
  cases (show u = Value.bool r from ry)
  exact PyProof.Rows.lt_bool ⟨.bl _, H, I, rfl, by cases p <;> cases r <;> exact q⟩
theorem op_le_bl : OpR X (compareOp .LtE) (fun x y H Q => ∃ p q, x = .bl p ∧ y = .bl q ∧ Q (.bl (decide (b2n p ≤ b2n q))) H) := by
  intro pins s σ H x y v u Q I rx ry h
  obtain ⟨p, r, rfl, rfl, q⟩ := h
  cases (show v = Value.bool p from rx)
  cases (show u = Value.bool r from ry)
  exact PyProof.Rows.le_bool ⟨.bl _, H, I, rfl, by cases p <;> cases r <;> exact q⟩
theorem od_lt2 : OpD K X (compareOp .Lt) (fun x y H Q => rI0 (fun i j => .bl (decide (i < j))) x y H Q ∨ (∃ i j, x = .str i ∧ y = .str j ∧ Q (.bl (decide (i.cps.toList < j.cps.toList))) H) ∨ ∃ p q, x = .bl p ∧ y = .bl q ∧ Q (.bl (decide (b2n p < b2n q))) H) dLt2 where
  op := fun _ pins s σ H x y v u Q I rx ry h => by
    rcases h with h | h | h
    · exact op_lt pins s σ H x y v u Q I rx ry h
    · exact op_lt_str pins s σ H x y v u Q I rx ry h
    · exact op_lt_bl pins s σ H x y v u Q I rx ry h
  ok := by
    intro x y d e c Z H Q s hx hy hg p
    unfold dLt2 at hg
    split at hg
    · cases hx; cases hy; cases hg; exact .inl ⟨_, _, rfl, rfl, p _ Z H (ExtP.refl s) (.bl _)⟩
    · cases hx; cases hy; cases hg; exact .inr (.inl ⟨_, _, rfl, rfl, p _ Z H (ExtP.refl s) (.bl _)⟩)
    · cases hx; cases hy; cases hg; exact .inr (.inr ⟨_, _, rfl, rfl, p _ Z H (ExtP.refl s) (.bl _)⟩)
    · cases hg
theorem od_le2 : OpD K X (compareOp .LtE) (fun x y H Q => rI0 (fun i j => .bl (decide (i ≤ j))) x y H Q ∨ (∃ i j, x = .str i ∧ y = .str j ∧ Q (.bl (!decide (j.cps.toList < i.cps.toList))) H) ∨ ∃ p q, x = .bl p ∧ y = .bl q ∧ Q (.bl (decide (b2n p ≤ b2n q))) H) dLe2 where
  op := fun _ pins s σ H x y v u Q I rx ry h => by
    rcases h with h | h | h
    · exact op_le pins s σ H x y v u Q I rx ry h
    · exact op_le_str pins s σ H x y v u Q I rx ry h
    · exact op_le_bl pins s σ H x y v u Q I rx ry h
  ok := by
    intro x y d e c Z H Q s hx hy hg p
    unfold dLe2 at hg
    split at hg
    · cases hx; cases hy; cases hg; exact .inl ⟨_, _, rfl, rfl, p _ Z H (ExtP.refl s) (.bl _)⟩
    · cases hx; cases hy; cases hg; exact .inr (.inl ⟨_, _, rfl, rfl, p _ Z H (ExtP.refl s) (.bl _)⟩)
    · cases hx; cases hy; cases hg; exact .inr (.inr ⟨_, _, rfl, rfl, p _ Z H (ExtP.refl s) (.bl _)⟩)
    · cases hg
/-! ### is True, is False -/
def dIs : D → D → Option D
  | .bl p, .bl q => some (.bl (decide (p = q)))
  | _, _ => none
def dIsN : D → D → Option D
  | .bl p, .bl q => some (.bl (!decide (p = q)))
  | _, _ => none
theorem bool_dIs : boolD dIs := fun d e c h => by
  unfold dIs at h
  split at h <;> first | (cases h; exact ⟨_, rfl⟩) | cases h
theorem bool_dIsN : boolD dIsN := fun d e c h => by
  unfold dIsN at h
  split at h <;> first | (cases h; exact ⟨_, rfl⟩) | cases h
theorem od_is : OpD K X (compareOp .Is) rIsB dIs := ⟨fun _ => op_isBl, by
    intro x y d e c Z H Q s hx hy hg p
    unfold dIs at hg
    split at hg
    · cases hx; cases hy; cases hg; exact ⟨_, _, rfl, rfl, p _ Z H (ExtP.refl s) (.bl _)⟩
    · cases hg⟩
theorem od_isn : OpD K X (compareOp .IsNot) rNotB dIsN := ⟨fun _ => op_notBl, by
    intro x y d e c Z H Q s hx hy hg p
    unfold dIsN at hg
    split at hg
    · cases hx; cases hy; cases hg; exact ⟨_, _, rfl, rfl, p _ Z H (ExtP.refl s) (.bl _)⟩
    · cases hg⟩
/-! ### lists one behind the other -/
def rCatL (K : PySem.W.Frag) : R2 := fun x y H Q => ∃ l b xs zs, x = .ref l ∧ y = .ref b ∧ SqL K H l xs ∧ SqL K H b zs ∧ xs.length + zs.length ≤ sizeLine ∧ ∀ p, H p = none → Q (.ref p) (upd H p (.lst (xs ++ zs)))
theorem op_catL : OpR X (binaryOp .Add) (rCatL X.K) := by
  intro pins s σ H x y v u Q I rx ry h
  obtain ⟨l, b, xs, zs, rfl, rfl, hx, hy, hz, q⟩ := h
  obtain rfl : v = Value.ref l := rx
  obtain rfl : u = Value.ref b := ry
  obtain ⟨its, r, ⟨⟨cls, dd, data, sl⟩, n, ho, hc, hdn, hd⟩, _⟩ := I.list hx
  obtain ⟨its2, r2, ⟨⟨cls2, dd2, data2, sl2⟩, n2, ho2, hc2, hdn2, hd2⟩, _⟩ := I.list hy
  simp only at hc hd hdn hc2 hd2 hdn2
  subst hc hd hdn hc2 hd2 hdn2
  have hl := r.length
  have hl2 := r2.length
  refine concat_meets ⟨_, ho, rfl⟩ ⟨_, ho2, rfl⟩ noFill_list_add seq_list_add PySem.F.slot_list_add PySem.F.entry_list_add (PySem.F.args_list_add_2 _ _) (PyProof.Rows.list_addW l b its.toArray its2.toArray n n2 none none sl sl2 (by simp; omega)) ⟨ho, ho2, ?_⟩
  have e : its.toArray ++ its2.toArray = (its ++ its2).toArray := by simp
  rw [e]
  exact ⟨.ref _, _, I.lnew (t' := s.toks) (r.append r2) (by rw [List.length_append]; omega), rfl, q _ I.fresh⟩
def dAdd2 : D → D → Option D
  | .int i, .int j => some (.int (i + j))
  | .str x, .str y => if x.length + y.length ≤ 1000000 then some (.str (x ++ y)) else none
  | .lst x, .lst y => if x.length + y.length ≤ 1000000 then some (.lst (x ++ y)) else none
  | _, _ => none
theorem od_add2 : OpD K X (binaryOp .Add) (fun x y H Q => rI0 (fun i j => .int (i + j)) x y H Q ∨ (∃ i j, x = .str i ∧ y = .str j ∧ i.length + j.length ≤ sizeLine ∧ Q (.str (i ++ j)) H) ∨ rCatL K x y H Q) dAdd2 where
  op := fun k pins s σ H x y v u Q I rx ry h => by
    subst k
    rcases h with h | h | h
    · exact op_add pins s σ H x y v u Q I rx ry h
    · exact op_add_str pins s σ H x y v u Q I rx ry h
    · exact op_catL pins s σ H x y v u Q I rx ry h
  ok := by
    intro x y d e c Z H Q s hx hy hg p
    unfold dAdd2 at hg
    split at hg
    · cases hx; cases hy; cases hg
      exact .inl ⟨_, _, rfl, rfl, p _ Z H (ExtP.refl s) (.int _)⟩
    · split at hg
      · rename_i hl
        cases hx; cases hy; cases hg
        exact .inr (.inl ⟨_, _, rfl, rfl, size_le hl, p _ Z H (ExtP.refl s) (.str _)⟩)
      · cases hg
    · split at hg
      · rename_i hl
        cases hg
        cases hx with
        | lst h1 h2 =>
        cases hy with
        | lst h3 h4 =>
        exact .inr (.inr ⟨_, _, _, _, rfl, rfl, .inl (same_rd s h1), .inl (same_rd s h3), by rw [h2.length, h4.length]; exact size_le hl, fun l hl => p _ _ _ (ExtP.new s hl) (.lst (.inl upd_same) ((h2.append h4).mono (same_upd (none_of s hl))))⟩)
      · cases hg
    · cases hg
end
end DL
namespace DL
open PySem L2
section
variable {K : PySem.W.Frag} {X : Cx} {W : WX} {e a b c tg iter tg1 iter1 elt : Expr} {es : List Expr} {pos : Pos}
/-! ### a comprehension with two fors -/
theorem RepV.mono2 {Z Z' : Hp} {I I' : List Addr} (z : Same Z Z') (i : ∃ t, I' = I ++ t) {v : V} : ∀ {d : DV}, RepV K Z I v d → RepV K Z' I' v d
  | .p _, h => Rep.mono z h
  | .o n, ⟨a, h, q⟩ => by
    obtain ⟨t, rfl⟩ := i
    exact ⟨a, by rw [List.getElem?_append_left (List.getElem?_eq_some_iff.mp h).1]; exact h, q⟩
theorem RepS.mono2 {Z Z' : Hp} {I I' : List Addr} {σ : St} {l : List (Option DV)} (r : RepS K Z I σ l) (z : Same Z Z') (i : ∃ t, I' = I ++ t) : RepS K Z' I' σ l := ⟨r.len, fun n dv h => by
  obtain ⟨v, h1, h2⟩ := r.at_ n dv h
  exact ⟨v, h1, h2.mono2 z i⟩⟩
theorem ex_app {I1 I2 I3 : List Addr} (a : ∃ t, I2 = I1 ++ t) (b : ∃ t, I3 = I2 ++ t) : ∃ t, I3 = I1 ++ t := by
  obtain ⟨t, rfl⟩ := a
  obtain ⟨u, rfl⟩ := b
  exact ⟨t ++ u, by rw [List.append_assoc]⟩
abbrev HG (K : PySem.W.Frag) (g : TG) (gm : GM) (ix : List Nat) : Prop := ∀ (v : V) (dv : DV) (σ : St) (H : Hp) (s s' : S) (Z : Hp) (I : List Addr) (Q : St → Hp → Prop), Wf K Z H I s.m → RepS K Z I σ s.l → RepV K Z I v dv → gm dv s = some s' →
      (∀ σ' Z' H' I', Wf K Z' H' I' s'.m → RepS K Z' I' σ' s'.l → Ext Z H I Z' H' I' → (∀ vs, (∀ i ∈ ix, i ∈ vs) → L2.wipe σ' vs = L2.wipe σ vs) → Q σ' H') → g v σ H Q
/-- the loop within -/
theorem inner_ok {g1 : TG} {tt1 : TT} {te : TE} {vs1 : List Nat} {gm1 : GM} {ix1 : List Nat} {t1 em : EM} (hg : HG K g1 gm1 ix1) (hix : ∀ i ∈ ix1, i ∈ vs1) (ht : Sound K WF RepB tt1 t1) (he : Sound K WF (RepV K) te em)
    {Z1 H1 : Hp} {I1 : List Addr} {D : Addr} (hD : H1 D = none) {σ2 : St} {l2 : List (Option DV)} {Z4 H4 : Hp} {I4 : List Addr} {M4 : List O} {J1 : It} {ds1 : List DV} (q : ItOk K Z4 I4 J1 ds1) (rs : RepS K Z4 I4 σ2 l2)
    {acc : List V} {bd : List DL.D} (f : Fill K Z1 H1 I1 D Z4 H4 I4 M4 acc bd) {ad : List DL.D} {Mf : List O} (e : compL (wipeL l2 vs1) gm1 t1 em ds1 bd M4 = some (ad, Mf)) {Nx : Hp → Prop} (k : ∀ Z' H' I' acc', Fill K Z1 H1 I1 D Z' H' I' Mf acc' ad → Nx H') :
    ∃ W1 : Nat → Nat → Hp → Prop, (∃ m, W1 0 m H4) ∧ ∀ j k H, W1 j k H → (J1.stop j H ∧ Nx H) ∨ (J1.go j H ∧ ∃ Nx1 : Hp → Prop, (∀ H', Nx1 H' → ∃ k', k' < k ∧ W1 (j + 1) k' H') ∧ ∀ x H', J1.yld j H x H' → g1 x (L2.wipe σ2 vs1) H' fun σ3 H5 => L2.wipe σ3 vs1 = L2.wipe σ2 vs1 ∧ tt1 σ3 H5 fun b H6 =>
        if b = true then te σ3 H6 fun y H7 => ∃ acc, H7 D = some (.lst acc) ∧ acc.length < sizeLine ∧ Nx1 (upd H7 D (.lst (acc ++ [y]))) else Nx1 H6) := by
  refine ⟨fun i m H' => m = ds1.length - i ∧ i ≤ ds1.length ∧ ∃ Z' I' M acc bd, Fill K Z1 H1 I1 D Z' H' I' M acc bd ∧ Same Z4 Z' ∧ (∃ t, I' = I4 ++ t) ∧ compL (wipeL l2 vs1) gm1 t1 em (ds1.drop i) bd M = some (ad, Mf), ⟨ds1.length, by simp, Nat.zero_le _, Z4, I4, M4, acc, bd, f, Same.refl _, ⟨[], by simp⟩, e⟩, ?_⟩
  rintro i m H' ⟨rfl, hil, Z', I', M, acc, bd, f, sz, si, e'⟩
  have Jo := q Z' H' I' sz si f.w.sub i
  by_cases hlt : i < ds1.length
  · right
    have hd : ds1[i]? = some ds1[i] := by simp [hlt]
    obtain ⟨go, yl⟩ := Jo.1 _ hd
    rw [List.drop_eq_getElem_cons hlt] at e'
    refine ⟨go, fun H2 => ∃ Z2 I2 M2 acc2 bd2, Fill K Z1 H1 I1 D Z2 H2 I2 M2 acc2 bd2 ∧ Same Z4 Z2 ∧ (∃ t, I2 = I4 ++ t) ∧ compL (wipeL l2 vs1) gm1 t1 em (ds1.drop (i + 1)) bd2 M2 = some (ad, Mf),
      fun H2 h2 => ⟨ds1.length - (i + 1), by omega, rfl, hlt, h2⟩, fun x H2 hx => ?_⟩
    obtain ⟨Z2, x2, rx⟩ := yl x H2 hx
    have f2 := f.step (f.w.extP x2) (x2.ext f.w)
    have sz2 := sz.trans x2.z
    have rs2 : RepS K Z2 I' (L2.wipe σ2 vs1) (wipeL l2 vs1) := (rs.mono2 sz2 si).wipe vs1
    unfold compL at e'
    cases zg : gm1 ds1[i] ⟨wipeL l2 vs1, M⟩ with
    | none => rw [zg] at e'; cases e'
    | some s1 =>
      rw [zg] at e'
      refine hg x ds1[i] (L2.wipe σ2 vs1) H2 ⟨wipeL l2 vs1, M⟩ s1 Z2 I' _ f2.w rs2 rx zg fun σ3 Z3 H3 I3 w3 rs3 x3 k3 => ?_
      have f3 := f2.step w3 x3
      have sz3 := sz2.trans x3.z
      have si3 := ex_app si x3.i
      refine ⟨(k3 vs1 hix).trans (wipe_wipe vs1 vs1 fun _ h => h), ?_⟩
      have e' : (match t1 s1 with
        | some (.ok (.p (.bl true)) M1) => match em ⟨s1.l, M1⟩ with
          | some (.ok (.p y) M2) => if bd.length < 1000000 then compL (wipeL l2 vs1) gm1 t1 em (ds1.drop (i + 1)) (bd ++ [y]) M2 else none
          | _ => none
        | some (.ok (.p (.bl false)) M1) => compL (wipeL l2 vs1) gm1 t1 em (ds1.drop (i + 1)) bd M1
        | _ => none) = some (ad, Mf) := e'
      cases zt : t1 s1 with
      | none => rw [zt] at e'; cases e'
      | some rt =>
        rw [zt] at e'
        refine ht.ok σ3 H3 s1 Z3 I3 rt _ w3 rs3 zt ?_
        cases rt with
        | ex c fs M4 => cases e'
        | ok d4 M4 =>
          intro b Z5 H5 I5 w4 x4 r4
          cases (show d4 = .p (.bl b) from r4)
          have f4 := f3.step w4 x4
          have sz4 := sz3.trans x4.z
          have si4 := ex_app si3 x4.i
          cases b with
          | false =>
            rw [if_neg Bool.false_ne_true]
            exact ⟨Z5, I5, M4, acc, bd, f4, sz4, si4, e'⟩
          | true =>
            rw [if_pos rfl]
            have e' : (match em ⟨s1.l, M4⟩ with
              | some (.ok (.p y) M2) => if bd.length < 1000000 then compL (wipeL l2 vs1) gm1 t1 em (ds1.drop (i + 1)) (bd ++ [y]) M2 else none
              | _ => none) = some (ad, Mf) := e'
            cases ze : em ⟨s1.l, M4⟩ with
            | none => rw [ze] at e'; cases e'
            | some re =>
              rw [ze] at e'
              refine he.ok σ3 H5 ⟨s1.l, M4⟩ Z5 I5 re _ w4 (rs3.mono x4) ze ?_
              cases re with
              | ex c fs M5 => cases e'
              | ok d5 M5 =>
                intro y Z6 H6 I6 w5 x5 r5
                have f5 := f4.step w5 x5
                cases d5 with
                | o n => cases e'
                | p d5 =>
                  have e' : (if bd.length < 1000000 then compL (wipeL l2 vs1) gm1 t1 em (ds1.drop (i + 1)) (bd ++ [d5]) M5 else none) = some (ad, Mf) := e'
                  split at e'
                  · rename_i hlen
                    refine ⟨acc, f5.at_, by rw [f5.r.length]; exact size_lt (Nat.le_of_lt hlen), ?_⟩
                    exact ⟨Z6, I6, M5, _, _, f5.put hD r5, sz4.trans x5.z, ex_app si4 x5.i, e'⟩
                  · cases e'
  · left
    have e0 : ds1.drop i = [] := List.drop_eq_nil_of_le (by omega)
    rw [e0] at e'
    cases e'
    exact ⟨Jo.2 (by omega), k Z' H' I' acc f⟩
def compL2 (l : List (Option DV)) (g : GM) (t : EM) (it1 : IM) (g1 : GM) (t1 e : EM) (vs1 : List Nat) : List DV → List D → List O → Option (List D × List O)
  | [], acc, M => some (acc, M)
  | d :: ds, acc, M => match g d ⟨l, M⟩ with
    | none => none
    | some s1 => match t s1 with
      | some (.ok (.p (.bl true)) M1) => match it1 ⟨s1.l, M1⟩ with
        | some (.ok ds1 M2) => match compL (wipeL s1.l vs1) g1 t1 e ds1 acc M2 with
          | some (acc', M3) => compL2 l g t it1 g1 t1 e vs1 ds acc' M3
          | none => none
        | _ => none
      | some (.ok (.p (.bl false)) M1) => compL2 l g t it1 g1 t1 e vs1 ds acc M1
      | _ => none
def mLc2 (it : IM) (vs : List Nat) (g : GM) (t : EM) (it1 : IM) (vs1 : List Nat) (g1 : GM) (t1 e : EM) : EM := bnd it fun ds s => match compL2 (wipeL s.l vs) g t it1 g1 t1 e vs1 ds [] s.m with
  | some (acc, M) => some (.ok (.p (.lst acc)) M)
  | none => none
theorem tLc2_ok {wi wi1 : TI} {g g1 : TG} {tt tt1 : TT} {te : TE} {vs vs1 : List Nat} {it it1 : IM} {gm gm1 : GM} {ix ix1 : List Nat} {t t1 em : EM} (hi : Sound K W (ItOk K) wi it) (hg : HG K g gm ix) (hix : ∀ i ∈ ix, i ∈ vs) (ht : Sound K WF RepB tt t)
    (hi1 : Sound K WF (ItOk K) wi1 it1) (hg1 : HG K g1 gm1 ix1) (hix1 : ∀ i ∈ ix1, i ∈ vs1) (ht1 : Sound K WF RepB tt1 t1) (he : Sound K WF (RepV K) te em) {σ : St} {H : Hp} {s : S} {Z : Hp} {I : List Addr} {r : Rs DV} {Q : VK} {k : List D → List O → Rs DV} (w : Wf K Z H I s.m) (rs : RepS K Z I σ s.l)
    (e : bnd it (fun ds s => match compL2 (wipeL s.l vs) gm t it1 gm1 t1 em vs1 ds [] s.m with | some (acc, M) => some (k acc M) | none => none) s = some r) (px : ∀ c fs M, r = .ex c fs M → PostX K W Z H I σ M c fs)
    (hk : ∀ Z1 H1 I1 D Z' H' I' M acc ad, r = k ad M → H1 D = none → Ext Z H I Z1 H1 I1 → Fill K Z1 H1 I1 D Z' H' I' M acc ad → Q (.ref D) H') : tLc2 wi g tt wi1 g1 tt1 te vs vs1 σ H Q := by
  refine hi.bnd w rs e px fun ds J M1 Z1 H1 I1 w1 rs1 x1 q1 e1 => ?_
  have e1 : (match compL2 (wipeL s.l vs) gm t it1 gm1 t1 em vs1 ds [] M1 with | some (acc, M) => some (k acc M) | none => none) = some r := e1
  cases zc : compL2 (wipeL s.l vs) gm t it1 gm1 t1 em vs1 ds [] M1 with
  | none => rw [zc] at e1; cases e1
  | some am =>
    rw [zc] at e1
    obtain ⟨ad, Mf⟩ := am
    have e1 : some (k ad Mf) = some r := e1
    intro D hD
    have f0 : Fill K Z1 H1 I1 D Z1 (upd H1 D (.lst [])) I1 M1 [] [] := by
      refine ⟨⟨fun a u q => by rw [upd_ne (ne_of_none (w1.sub a u q) hD)]; exact w1.sub a u q, w1.len, w1.nd, fun a m => by rw [upd_ne (fun q => w1.tr a m (by rw [q]; exact hD))]; exact w1.tr a m, fun n a o h1 h2 h3 => ?_⟩, ⟨Same.refl _, ⟨[], by simp⟩, fun a o q _ => by rw [upd_ne (ne_of_none q hD)]; exact q, fun _ m => .inl m, fun _ m => .inl m, fun a q => by rw [upd_ne (fun y => q (by rw [y]; exact hD))]; exact q⟩, upd_same, none_of w1.sub hD, fun m => w1.tr D m hD, .nil⟩
      obtain ⟨q1, q2⟩ := w1.ob n a o h1 h2 h3
      exact ⟨q1, q2.mono (Same.refl _) (upd_ne fun q => w1.tr a (List.mem_of_getElem? h1) (by rw [q]; exact hD))⟩
    refine ⟨fun i m H' => m = ds.length - i ∧ i ≤ ds.length ∧ ∃ Z' I' M acc bd, Fill K Z1 H1 I1 D Z' H' I' M acc bd ∧ compL2 (wipeL s.l vs) gm t it1 gm1 t1 em vs1 (ds.drop i) bd M = some (ad, Mf), ⟨ds.length, by simp, Nat.zero_le _, Z1, I1, M1, [], [], f0, zc⟩, ?_⟩
    rintro i m H' ⟨rfl, hil, Z', I', M, acc, bd, f, e'⟩
    have Jo := q1 Z' H' I' f.x.z f.x.i f.w.sub i
    by_cases hlt : i < ds.length
    · right
      have hd : ds[i]? = some ds[i] := by simp [hlt]
      obtain ⟨go, yl⟩ := Jo.1 _ hd
      rw [List.drop_eq_getElem_cons hlt] at e'
      refine ⟨go, fun H2 => ∃ Z2 I2 M2 acc2 bd2, Fill K Z1 H1 I1 D Z2 H2 I2 M2 acc2 bd2 ∧ compL2 (wipeL s.l vs) gm t it1 gm1 t1 em vs1 (ds.drop (i + 1)) bd2 M2 = some (ad, Mf),
        fun H2 h2 => ⟨ds.length - (i + 1), by omega, rfl, hlt, h2⟩, fun x H2 hx => ?_⟩
      obtain ⟨Z2, x2, rx⟩ := yl x H2 hx
      have f2 := f.step (f.w.extP x2) (x2.ext f.w)
      have rs2 : RepS K Z2 I' (L2.wipe σ vs) (wipeL s.l vs) := ((rs1.mono f2.x)).wipe vs
      unfold compL2 at e'
      cases zg : gm ds[i] ⟨wipeL s.l vs, M⟩ with
      | none => rw [zg] at e'; cases e'
      | some s1 =>
        rw [zg] at e'
        refine hg x ds[i] (L2.wipe σ vs) H2 ⟨wipeL s.l vs, M⟩ s1 Z2 I' _ f2.w rs2 rx zg fun σ3 Z3 H3 I3 w3 rs3 x3 k3 => ?_
        have f3 := f2.step w3 x3
        refine ⟨(k3 vs hix).trans (wipe_wipe vs vs fun _ h => h), ?_⟩
        have e' : (match t s1 with
          | some (.ok (.p (.bl true)) M1) => match it1 ⟨s1.l, M1⟩ with
            | some (.ok ds1 M2) => match compL (wipeL s1.l vs1) gm1 t1 em ds1 bd M2 with
              | some (acc', M3) => compL2 (wipeL s.l vs) gm t it1 gm1 t1 em vs1 (ds.drop (i + 1)) acc' M3
              | none => none
            | _ => none
          | some (.ok (.p (.bl false)) M1) => compL2 (wipeL s.l vs) gm t it1 gm1 t1 em vs1 (ds.drop (i + 1)) bd M1
          | _ => none) = some (ad, Mf) := e'
        cases zt : t s1 with
        | none => rw [zt] at e'; cases e'
        | some rt =>
          rw [zt] at e'
          refine ht.ok σ3 H3 s1 Z3 I3 rt _ w3 rs3 zt ?_
          cases rt with
          | ex c fs M4 => cases e'
          | ok d4 M4 =>
            intro b Z4 H4 I4 w4 x4 r4
            cases (show d4 = .p (.bl b) from r4)
            have f4 := f3.step w4 x4
            cases b with
            | false =>
              rw [if_neg Bool.false_ne_true]
              exact ⟨Z4, I4, M4, acc, bd, f4, e'⟩
            | true =>
              rw [if_pos rfl]
              have e' : (match it1 ⟨s1.l, M4⟩ with
                | some (.ok ds1 M2) => match compL (wipeL s1.l vs1) gm1 t1 em ds1 bd M2 with
                  | some (acc', M3) => compL2 (wipeL s.l vs) gm t it1 gm1 t1 em vs1 (ds.drop (i + 1)) acc' M3
                  | none => none
                | _ => none) = some (ad, Mf) := e'
              cases zi : it1 ⟨s1.l, M4⟩ with
              | none => rw [zi] at e'; cases e'
              | some ri =>
                rw [zi] at e'
                refine hi1.ok σ3 H4 ⟨s1.l, M4⟩ Z4 I4 ri _ w4 (rs3.mono x4) zi ?_
                cases ri with
                | ex c fs M5 => cases e'
                | ok ds1 M5 =>
                  intro J1 Z5 H5 I5 w5 x5 q5
                  have f5 := f4.step w5 x5
                  have e' : (match compL (wipeL s1.l vs1) gm1 t1 em ds1 bd M5 with
                    | some (acc', M3) => compL2 (wipeL s.l vs) gm t it1 gm1 t1 em vs1 (ds.drop (i + 1)) acc' M3
                    | none => none) = some (ad, Mf) := e'
                  cases zl : compL (wipeL s1.l vs1) gm1 t1 em ds1 bd M5 with
                  | none => rw [zl] at e'; cases e'
                  | some am =>
                    rw [zl] at e'
                    obtain ⟨ad1, M6⟩ := am
                    have e' : compL2 (wipeL s.l vs) gm t it1 gm1 t1 em vs1 (ds.drop (i + 1)) ad1 M6 = some (ad, Mf) := e'
                    exact inner_ok hg1 hix1 ht1 he hD q5 ((rs3.mono x4).mono x5) f5 zl fun Z7 H7 I7 acc7 f7 => ⟨Z7, I7, M6, acc7, ad1, f7, e'⟩
    · left
      have e0 : ds.drop i = [] := List.drop_eq_nil_of_le (by omega)
      rw [e0] at e'
      cases e'
      exact ⟨Jo.2 (by omega), hk Z1 H1 I1 D Z' H' I' _ acc _ (Option.some.inj e1).symm hD x1 f⟩
section
variable {ifs ifs1 : List Expr} {scope : Scope} {own : List (Str × Nat)} {wi wi1 : TI} {g g1 : TG} {tt tt1 : TT} {te : TE} {it it1 : IM} {gm gm1 : GM} {ix ix1 : List Nat} {t t1 em : EM}
theorem so_lc2 {vs vs1 : List Nat} (hi : Sound K W (ItOk K) wi it) (hg : HG K g gm ix) (hix : ∀ i ∈ ix, i ∈ vs) (ht : Sound K WF RepB tt t) (hi1 : Sound K WF (ItOk K) wi1 it1) (hg1 : HG K g1 gm1 ix1) (hix1 : ∀ i ∈ ix1, i ∈ vs1) (ht1 : Sound K WF RepB tt1 t1) (he : Sound K WF (RepV K) te em) :
    Sound K W (RepV K) (tLc2 wi g tt wi1 g1 tt1 te vs vs1) (mLc2 it vs gm t it1 vs1 gm1 t1 em) := ⟨fun σ H s Z I r Q w rs e p => by
  refine tLc2_ok hi hg hix ht hi1 hg1 hix1 ht1 he (k := fun acc M => .ok (.p (.lst acc)) M) w rs e p.x fun Z1 H1 I1 D Z' H' I' M acc ad er h0 x1 f => ?_
  subst er
  obtain ⟨w', x'⟩ := f.frz h0
  exact p _ _ H' I' w' (x1.trans x') (.lst (.inl upd_same) (f.r.mono (same_upd f.nz)))⟩
theorem de_lc2 {vs vs1 : List Nat} (hN : X.N.Nodup) (hc : X.calm = true) (hi : DI K X W tg iter wi it) (ok : BlkOk X.N X.env.scope scope own)
    (hg : ∀ (s : Shared) (H : Hp) (C : Addr) (cl : List (Str × Addr)) (fp : List Addr), DG K (X.blk s H scope (compEnvC scope cl C X.env) fp) tg g gm ix) (ht : ∀ (s : Shared) (H : Hp) (C : Addr) (cl : List (Str × Addr)) (fp : List Addr), DPT K (X.blk s H scope (compEnvC scope cl C X.env) fp) ifs tt t)
    (hi1 : ∀ (s : Shared) (H : Hp) (C : Addr) (cl : List (Str × Addr)) (fp : List Addr), DI K (X.blk s H scope (compEnvC scope cl C X.env) fp) WF tg1 iter1 wi1 it1)
    (hg1 : ∀ (s : Shared) (H : Hp) (C : Addr) (cl : List (Str × Addr)) (fp : List Addr), DG K (X.blk s H scope (compEnvC scope cl C X.env) fp) tg1 g1 gm1 ix1) (ht1 : ∀ (s : Shared) (H : Hp) (C : Addr) (cl : List (Str × Addr)) (fp : List Addr), DPT K (X.blk s H scope (compEnvC scope cl C X.env) fp) ifs1 tt1 t1)
    (he : ∀ (s : Shared) (H : Hp) (C : Addr) (cl : List (Str × Addr)) (fp : List Addr), DE K (X.blk s H scope (compEnvC scope cl C X.env) fp) WF elt te em) (hix : ∀ i ∈ ix, i ∈ own.map (·.2) := by decide) (hix1 : ∀ i ∈ ix1, i ∈ vs1 := by decide) (hv1 : ∀ i ∈ vs1, i ∈ own.map (·.2) := by decide)
    (hs : ∀ x, foldedSetIterable iter X.env x = pure x := by intro _; rfl) (hs1 : ∀ env x, foldedSetIterable iter1 env x = pure x := by intro _ _; rfl) (hv : own.map (·.2) = vs := by rfl) :
    DE K X W (.ListComp elt [⟨tg, iter, ifs, 0⟩, ⟨tg1, iter1, ifs1, 0⟩] scope pos) (tLc2 wi g tt wi1 g1 tt1 te vs vs1) (mLc2 it vs gm t it1 vs1 gm1 t1 em) := by
  subst hv
  exact ⟨hi.k, pe_lc2 hc hN hi.pi ok hv1 (fun s H C cl fp => (hg s H C cl fp).pg) (fun s H C cl fp => (ht s H C cl fp).pt) (fun s H C cl fp => (hi1 s H C cl fp).pi) (fun s H C cl fp => (hg1 s H C cl fp).pg) (fun s H C cl fp => (ht1 s H C cl fp).pt) (fun s H C cl fp => (he s H C cl fp).pe) hs hs1,
    so_lc2 hi.so (hg {} (fun _ => none) 0 [] []).ok hix (ht {} (fun _ => none) 0 [] []).so (hi1 {} (fun _ => none) 0 [] []).so (hg1 {} (fun _ => none) 0 [] []).ok hix1 (ht1 {} (fun _ => none) 0 [] []).so (he {} (fun _ => none) 0 [] []).so⟩
theorem ds_setLc2 {i : Nat} {vs vs1 : List Nat} {y : Str} {py spos : Pos} (hN : X.N.Nodup) (hc : X.calm = true) (hi : DI K X W tg iter wi it) (ok : BlkOk X.N X.env.scope scope own)
    (hg : ∀ (s : Shared) (H : Hp) (C : Addr) (cl : List (Str × Addr)) (fp : List Addr), DG K (X.blk s H scope (compEnvC scope cl C X.env) fp) tg g gm ix) (ht : ∀ (s : Shared) (H : Hp) (C : Addr) (cl : List (Str × Addr)) (fp : List Addr), DPT K (X.blk s H scope (compEnvC scope cl C X.env) fp) ifs tt t)
    (hi1 : ∀ (s : Shared) (H : Hp) (C : Addr) (cl : List (Str × Addr)) (fp : List Addr), DI K (X.blk s H scope (compEnvC scope cl C X.env) fp) WF tg1 iter1 wi1 it1)
    (hg1 : ∀ (s : Shared) (H : Hp) (C : Addr) (cl : List (Str × Addr)) (fp : List Addr), DG K (X.blk s H scope (compEnvC scope cl C X.env) fp) tg1 g1 gm1 ix1) (ht1 : ∀ (s : Shared) (H : Hp) (C : Addr) (cl : List (Str × Addr)) (fp : List Addr), DPT K (X.blk s H scope (compEnvC scope cl C X.env) fp) ifs1 tt1 t1)
    (he : ∀ (s : Shared) (H : Hp) (C : Addr) (cl : List (Str × Addr)) (fp : List Addr), DE K (X.blk s H scope (compEnvC scope cl C X.env) fp) WF elt te em) (hy : X.N[i]? = some y := by rfl) (hyl : X.env.scope.names.lookup y = some .local := by rfl)
    (hsw : swapsWith (.ListComp elt [⟨tg, iter, ifs, 0⟩, ⟨tg1, iter1, ifs1, 0⟩] scope pos) (some (.Name y py)) spos.line X.env = pure true := by exact sw_true rfl rfl rfl (by decide +kernel)) (hix : ∀ i ∈ ix, i ∈ own.map (·.2) := by decide) (hix1 : ∀ i ∈ ix1, i ∈ vs1 := by decide) (hv1 : ∀ i ∈ vs1, i ∈ own.map (·.2) := by decide)
    (hs : ∀ x, foldedSetIterable iter X.env x = pure x := by intro _; rfl) (hs1 : ∀ env x, foldedSetIterable iter1 env x = pure x := by intro _ _; rfl) (hv : own.map (·.2) = vs := by rfl) :
    DS K X W (.Assign [.Name y py] (.ListComp elt [⟨tg, iter, ifs, 0⟩, ⟨tg1, iter1, ifs1, 0⟩] scope pos) spos) (tAsg (tLc2 wi g tt wi1 g1 tt1 te vs vs1) (gName i)) (sAsg (mLc2 it vs gm t it1 vs1 gm1 t1 em) (gN i)) := by
  subst hv
  exact ⟨hi.k, ps_setLc2 hc hN hy hyl hsw hi.pi ok hv1 (fun s H C cl fp => (hg s H C cl fp).pg) (fun s H C cl fp => (ht s H C cl fp).pt) (fun s H C cl fp => (hi1 s H C cl fp).pi) (fun s H C cl fp => (hg1 s H C cl fp).pg) (fun s H C cl fp => (ht1 s H C cl fp).pt) (fun s H C cl fp => (he s H C cl fp).pe) hs hs1,
    so_asg (so_lc2 hi.so (hg {} (fun _ => none) 0 [] []).ok hix (ht {} (fun _ => none) 0 [] []).so (hi1 {} (fun _ => none) 0 [] []).so (hg1 {} (fun _ => none) 0 [] []).ok hix1 (ht1 {} (fun _ => none) 0 [] []).so (he {} (fun _ => none) 0 [] []).so) (dg_name hN hi.k hy (.inl hyl) (.inr hyl) : DG K X (.Name y py) _ _ _)⟩
end
end
end DL
namespace DL
open PySem L2
/-- a tuple of the module -/
theorem rep_ktup {K : PySem.W.Frag} {a : Addr} {d : Option Addr} {its : Array Value} {z : Nat} {w : Array (Option Value)} {Z : Hp} {xs : List V} {ds : List D} (l : K.lookup a = some ⟨.type "tuple", d, .seq its z, w⟩) (hz : its.size ≤ sizeLine) (v : Vals xs its.toList) (r : RepA K Z xs ds) : Rep K Z (.ref a) (.ktup ds) :=
  .ktup (.inr ⟨_, its, z, l, rfl, rfl, hz, v⟩) r
end DL
namespace DL
open PySem L2
section
variable {K : PySem.W.Frag} {X : Cx} {W : WX} {e a b c : Expr} {es : List Expr} {pos : Pos}
/-! ### a dict of the module, keys texts -/
structure GD (K : PySem.W.Frag) (w : World) (mg : Str → Option Value) (x : Str) (kvs : List (Str × D)) where
  a : Addr
  m : mg x = some (.ref a)
  at_ : ∀ z d, kvs.lookup z = some d → ∃ v, KDct K w a z v ∧ ∀ Z, Rep K Z v d
def kdK (kvs : List (Str × D)) : D → EM
  | .str z => ret (kvs.lookup z)
  | _ => fun _ => none
def mKd (kvs : List (Str × D)) (m : EM) : EM := bnd m (pur (kdK kvs))
theorem de_kdix {mg : Str → Option Value} {w : World} {x : Str} {p : Pos} {kvs : List (Str × D)} {te : TE} {m : EM} (g : GD K w mg x kvs) (h : DE K X W e te m) (hm : X.mg = mg := by rfl) (hw : X.w = w := by rfl) (hg : Gl X x := by rfl) (hd : (x == ("__debug__" : Str)) = false := by decide) (hs : PlainIx e := by exact fun _ _ => rfl) :
    DE K X W (.Subscript (.Name x p) e pos) (tOp (rIxD K w) (tC (.ref g.a)) te) (mKd kvs m) := by
  subst hm hw
  refine ⟨h.k, ?_, ⟨fun σ H s Z I r0 Q w rs e1 p1 => ?_⟩⟩
  · have q := pe_ix (X := X) (pos := pos) ix_kdict (pe_glob (v := .ref g.a) (pos := p) hg g.m rfl hd) h.pe hs
    rw [h.k] at q
    exact q
  · show te σ H _
    refine h.so.bnd w rs e1 p1.x fun d v M1 Z1 H1 I1 w1 rs1 x1 q1 e2 => ?_
    obtain ⟨d, rfl, e2⟩ := pur_ok e2
    cases d with
    | str z =>
      cases q1
      obtain ⟨c, hc, rfl⟩ := ret_ok (show ret (kvs.lookup z) ⟨s.l, M1⟩ = some r0 from e2)
      obtain ⟨v, hv, hr⟩ := g.at_ z c hc
      exact ⟨g.a, z, v, rfl, rfl, hv, p1 v Z1 H1 I1 w1 x1 (hr Z1)⟩
    | _ => cases e2
/-! ### dicts with keys ints and texts -/
def keyD : D → Option Key
  | .int i => some (.inl i)
  | .str x => some (.inr x)
  | _ => none
def valD (kvs : List (Key × D)) (k : Key) : Option D := (kvs.find? fun kv => decide (kv.1 = k)).map (·.2)
theorem val_rep {Z : Hp} : ∀ {ks : List (Key × V)} {ds : List (Key × D)} (k : Key), RepK K Z ks ds → (valV ks k = none ∧ valD ds k = none) ∨ ∃ v d, valV ks k = some v ∧ valD ds k = some d ∧ Rep K Z v d
  | _, _, k, .nil => .inl ⟨rfl, rfl⟩
  | _, _, k, .cons (k := k0) (v := v) (vs := vs) (d := d) (ds := ds) h r => by
    by_cases q : k0 = k
    · exact .inr ⟨v, d, by simp [valV, q], by simp [valD, q], h⟩
    · have e1 : valV ((k0, v) :: vs) k = valV vs k := by simp [valV, q]
      have e2 : valD ((k0, d) :: ds) k = valD ds k := by simp [valD, q]
      rw [e1, e2]
      exact val_rep k r
theorem key_rep {Z : Hp} {v : V} {d : D} {k : Key} (h : Rep K Z v d) (e : keyD d = some k) : v = kV k := by
  unfold keyD at e
  split at e
  · cases h; cases e; rfl
  · cases h; cases e; rfl
  · cases e
def getD (d k : D) : Option (Option D) := match d with
  | .dK kvs => (keyD k).map (valD kvs)
  | _ => none
theorem get_ok {Z H : Hp} {x y : V} {d k : D} {o : Option D} (s : Same Z H) (hx : Rep K Z x d) (hy : Rep K Z y k) (e : getD d k = some o) : ∃ a r, x = .ref a ∧ DGet H a y r ∧ ((r = none ∧ o = none) ∨ ∃ v c, r = some v ∧ o = some c ∧ Rep K Z v c) := by
  unfold getD at e
  split at e
  · rename_i kvs
    cases q : keyD k with
    | none => rw [q] at e; cases e
    | some kk =>
      rw [q] at e; cases e
      cases hx with
      | dK h1 h2 =>
        refine ⟨_, _, rfl, .inl ⟨_, kk, .inl (s _ _ h1), key_rep hy q, rfl⟩, ?_⟩
        rcases val_rep kk h2 with ⟨a, b⟩ | ⟨v, c, a, b, r⟩
        · exact .inl ⟨a, b⟩
        · exact .inr ⟨v, c, a, b, r⟩
  · cases e
def dGetI (d k : D) : Option D := match getD d k with
  | some (some c) => some c
  | _ => none
theorem de_dget (hu : X.A.units + 1 < cLine) {td ty : TE} {m n : EM} (ha : DE K X W a td m) (hb : DE K X W b ty n) (hs : NoSl b := by exact fun _ _ => rfl) : DE K X W (.Subscript a b pos) (tDGet td ty) (mBin dGetI m n) := by
  refine ⟨ha.k, pe_dget hu ha.pe hb.pe hs, ⟨fun σ H s Z I r0 Q w rs e p => ?_⟩⟩
  refine ha.so.bnd w rs e p.x fun d v M1 Z1 H1 I1 w1 rs1 x1 q1 e1 => ?_
  obtain ⟨d, rfl, e1⟩ := pur_ok e1
  have p1 := p.mono x1
  refine hb.so.bnd (s := ⟨s.l, M1⟩) w1 rs1 e1 p1.x fun d2 v2 M2 Z2 H2 I2 w2 rs2 x2 q2 e2 => ?_
  obtain ⟨d2, rfl, e2⟩ := pur_ok e2
  obtain ⟨c, hc, rfl⟩ := ret_ok e2
  unfold dGetI at hc
  cases z : getD d d2 with
  | none => rw [z] at hc; cases hc
  | some o =>
    rw [z] at hc
    obtain ⟨ad, r, ex, g, k⟩ := get_ok w2.sub (Rep.mono x2.z q1) q2 z
    rcases k with ⟨_, rfl⟩ | ⟨u, c', rfl, rfl, hr⟩
    · cases hc
    · cases hc
      exact ⟨ad, u, ex, g, (p1.mono x2) u Z2 H2 I2 w2 Ext.refl hr⟩
end
end DL
namespace DL
open PySem L2
section
variable {K : PySem.W.Frag} {X : Cx} {W : WX} {pos : Pos}
theorem units1 {k : Nat} {A : Around} (r : Room k A) : A.units + 1 < cLine := by have := r.un; omega
theorem lk_nil {P : Str → D → Prop} : ∀ z e, List.lookup z ([] : List (Str × D)) = some e → P z e := fun z e h => by cases h
theorem lk_cons {P : Str → D → Prop} {k : Str} {d : D} {r : List (Str × D)} (h : P k d) (hr : ∀ z e, List.lookup z r = some e → P z e) : ∀ z e, List.lookup z ((k, d) :: r) = some e → P z e := fun z e q => by
  rw [List.lookup_cons] at q
  cases b : z == k with
  | true =>
    rw [b] at q
    cases q
    have e1 : z = k := by simpa using b
    rw [e1]; exact h
  | false => rw [b] at q; exact hr z e q
/-- {k: v, ..} of constants -/
theorem de_dictC {keys : List (Option Expr)} {values : List Expr} {trs : List (TE × TE)} {kvs : List (Key × V)} {ds : List (Key × D)} (h : PPs X pos keys values trs) (ht : ∀ (σ : St) (H : Hp) (Q : List (V × V) → Hp → Prop), Q (kvs.map fun kv => (kV kv.1, kv.2)) H → tPairs trs σ H Q) (hr : ∀ Z, RepK K Z kvs ds)
    (hm : mergeK [] kvs = kvs) (h15' : kvs.length ≤ 15) (hall : keys.all (·.isSome) = true := by rfl) (hl : keys.length = values.length := by rfl) (h0 : keys ≠ [] := by exact List.cons_ne_nil _ _) (h15 : keys.length ≤ 15 := by decide) (k : X.K = K := by rfl) : DE K X W (.Dict keys values pos) (tDisp trs) (mC (.dK ds)) :=
  ⟨k, pe_disp h hall hl h0 h15, ⟨fun σ H s Z I r Q w rs e p => by
    obtain rfl := Option.some.inj e
    intro l hp
    refine ht σ _ _ ⟨upd_same, kvs, rfl, h15', ?_⟩
    rw [hm]
    have e2 : upd (upd H l (.dK [])) l (.dK kvs) = upd H l (.dK kvs) := by
      funext b
      by_cases q : b = l
      · subst q; rw [upd_same, upd_same]
      · rw [upd_ne q, upd_ne q, upd_ne q]
    rw [e2]
    have y := ExtP.new (o := .dK kvs) w.sub hp
    exact p _ _ _ I (w.extP y) (y.ext w) (show Rep K (upd Z l (.dK kvs)) (.ref l) (.dK ds) from .dK upd_same (hr _))⟩⟩
end
end DL
namespace DL
open PySem L2 PySem.W
/-! ### sorted: the data -/
def tupNE : PyData → Bool
  | .tuple (_ :: _) => true
  | _ => false
def plainK : PyData → Bool
  | .none => false
  | .tuple _ => false
  | _ => true
def sortOk (ks : List PyData) : Bool := (ks.all tupNE || ks.all plainK) && ks.all fun d => ks.all fun e => alike d e
theorem sortOk_like {ks : List PyData} (h : sortOk ks = true) : AllAlike ks := by
  intro d hd e he
  unfold sortOk at h
  rw [Bool.and_eq_true] at h
  exact List.all_eq_true.mp (List.all_eq_true.mp h.2 d hd) e he
theorem sortOk_sortable {ks : List PyData} (h : sortOk ks = true) : Sortable ks := by
  unfold sortOk at h
  rw [Bool.and_eq_true, Bool.or_eq_true] at h
  rcases h.1 with q | q
  · refine .inl fun d hd => ?_
    have z := List.all_eq_true.mp q d hd
    unfold tupNE at z
    split at z
    · exact ⟨_, _, rfl⟩
    · cases z
  · refine .inr fun d hd => ?_
    have z := List.all_eq_true.mp q d hd
    refine ⟨fun e => ?_, fun xs e => ?_⟩ <;> subst e <;> cases z
noncomputable def sortBy (ds ks : List D) : List D := ((ds.zip ks).mergeSort (dataLe false fun p => toP p.2)).map (·.1)
def keysM (f : MA) : List D → Option (List D)
  | [] => some []
  | d :: r => match f [d] with
    | some (.ok k) => match keysM f r with
      | some ks => some (k :: ks)
      | none => none
    | _ => none
theorem keysM_len {f : MA} : ∀ {ds ks : List D}, keysM f ds = some ks → ks.length = ds.length
  | [], _, e => by cases e; rfl
  | d :: r, ks, e => by
    unfold keysM at e
    split at e
    · split at e
      · rename_i q
        cases e
        rw [List.length_cons, List.length_cons, keysM_len q]
      · cases e
    · cases e
theorem keysM_at {f : MA} : ∀ {ds ks : List D} {i : Nat} {d : D}, keysM f ds = some ks → ds[i]? = some d → ∃ k, ks[i]? = some k ∧ f [d] = some (.ok k)
  | [], _, i, d, _, h => by simp at h
  | d0 :: r, ks, i, d, e, h => by
    unfold keysM at e
    split at e
    · rename_i q0
      split at e
      · rename_i q
        cases e
        cases i with
        | zero => simp at h; subst h; exact ⟨_, rfl, q0⟩
        | succ i =>
          obtain ⟨k', h1, h2⟩ := keysM_at (i := i) q (by simpa using h)
          exact ⟨k', by simpa using h1, h2⟩
      · cases e
    · cases e
theorem toPs_map : ∀ ds : List D, toPs ds = ds.map toP
  | [] => rfl
  | d :: r => by show toP d :: toPs r = _; rw [toPs_map r]; rfl
section
variable {X : Cx} {pins : List (Addr × Obj)} {σ : St} {H : Hp} {s : Shared}
/-- an object of one's own, newer than the entry's heap, may be forgotten -/
theorem forget {a : Addr} {φ : Heap → Prop} (I : Inv X pins σ H s) (ha : H a = some (.ext φ)) (hn : X.s_0.heap.objs.size ≤ a) (hx : X.ex = []) :
    ∃ G : Heap, (∀ b o, G.get? b = some o → s.heap.get? b = some o) ∧ G.get? a = none ∧ Inv X pins σ (delH H a) { s with heap := G } := by
  have n0 : X.s_0.heap.get? a = none := Heap.get?_none_of_le hn
  have nb : X.base.get? a = none := Heap.get?_none_of_le (Nat.le_trans I.ok.bsz hn)
  let Y : Cx := { X with H_0 := delH X.H_0 a }
  have ok : Y.Ok := ⟨I.ok.mod, I.ok.kind, I.ok.glob, I.ok.blt, I.ok.above, I.ok.inj, I.ok.has, I.ok.cab, I.ok.hd, I.ok.frames, I.ok.stk, I.ok.exf, fun b o e => ⟨(I.ok.bs b o e).1, by
      show delH X.H_0 a b = none
      unfold delH
      split
      · rfl
      · exact (I.ok.bs b o e).2⟩, I.ok.bsz, I.ok.noex, I.ok.exfs, I.ok.funs, fun b hb => by
      show delH X.H_0 a b = none
      unfold delH
      split
      · rfl
      · exact I.ok.frf b hb⟩
  have ne : ∀ {b : Addr} {o : Obj}, X.s_0.heap.get? b = some o → b ≠ a := fun e z => by rw [z, n0] at e; cases e
  have J : Inv Y pins σ H s := ⟨ok, I.os, I.bare, ⟨fun b o e n h1 h2 => I.base.keep b o e ((delH_ne (H := X.H_0) (ne e)).symm.trans n) h1 h2, fun b o e n h1 h2 => I.base.slot b o e ((delH_ne (H := X.H_0) (ne e)).symm.trans n) h1 h2,
      fun b o e n h2 => I.base.free b o e ((delH_ne (H := X.H_0) (ne e)).symm.trans n) h2, fun b o e h2 => I.base.there b o e h2,
      fun b xs e => I.base.tups b xs (by
        by_cases z : b = a
        · rw [z] at e; rw [show Y.H_0 a = delH X.H_0 a a from rfl, delH_same] at e; cases e
        · exact (delH_ne (H := X.H_0) z).symm.trans e),
      fun b o u e => I.base.frzs b o u (by
        by_cases z : b = a
        · rw [z] at e; rw [show Y.H_0 a = delH X.H_0 a a from rfl, delH_same] at e; cases e
        · exact (delH_ne (H := X.H_0) z).symm.trans e),
      fun b ps e => I.base.tbls b ps (by
        by_cases z : b = a
        · rw [z] at e; rw [show Y.H_0 a = delH X.H_0 a a from rfl, delH_same] at e; cases e
        · exact (delH_ne (H := X.H_0) z).symm.trans e)⟩, I.loc, I.cell, I.free, I.freeC, I.pin, I.hok, I.len⟩
  obtain ⟨G, g1, g2, J2⟩ := J.untrack ha (fr0_none (show delH X.H_0 a a = none from delH_same)) hx
  refine ⟨G, g1, g2, ⟨I.ok, J2.os, J2.bare, ⟨fun b o e n h1 h2 => J2.base.keep b o e (by show delH X.H_0 a b = none; rw [delH_ne (ne e)]; exact n) h1 h2, fun b o e n h1 h2 => J2.base.slot b o e (by show delH X.H_0 a b = none; rw [delH_ne (ne e)]; exact n) h1 h2,
      fun b o e n h2 => J2.base.free b o e (by show delH X.H_0 a b = none; rw [delH_ne (ne e)]; exact n) h2, fun b o e h2 => J2.base.there b o e h2,
      fun b xs e => ?_, fun b o u e => ?_, fun b ps e => ?_⟩, J2.loc, J2.cell, J2.free, J2.freeC, J2.pin, J2.hok, J2.len⟩⟩
  · have z : b ≠ a := fun z => by
      have := I.base.tups b xs e
      rw [z, ha] at this; cases this
    exact J2.base.tups b xs (by show delH X.H_0 a b = _; rw [delH_ne z]; exact e)
  · have z : b ≠ a := fun z => by
      have := I.base.frzs b o u e
      rw [z, ha] at this; cases this
    exact J2.base.frzs b o u (by show delH X.H_0 a b = _; rw [delH_ne z]; exact e)
  · have z : b ≠ a := fun z => by
      obtain ⟨m, this⟩ := I.base.tbls b ps e
      rw [z, ha] at this; cases this
    exact J2.base.tbls b ps (by show delH X.H_0 a b = _; rw [delH_ne z]; exact e)
/-- one call of the key -/
theorem key_turn {k : Nat} {f : MA} {fa : Addr} {fd : FuncData} {ps : List Str} {A : Around} (F : FnOk X.prog X.w X.K X.mg X.base (L2.CX X.prog X.w) k fa fd ps (spA X.K 1 f)) (hb : Binds X.K fd ps []) (hr : Room k A) (I : Inv X pins σ H s)
    (he : Env0 X.prog X.w X.K X.mg X.base A X.stack s H) {v : V} {u : Value} {d c : D} {Z : Hp} (rv : RelV v u) (sz : Same Z H) (hv : Rep X.K Z v d) (hf : f [d] = some (.ok c)) :
    wpAny (model X.prog X.w) A (call (.ref fa) [u]) (EP X pins σ fun v' H' => ∃ Z', ExtP Z H Z' H' ∧ Rep X.K Z' v' c) (fun _ _ => False) s := by
  have hsp : spA X.K 1 f [v] H (fun v' H' => ∃ Z', ExtP Z H Z' H' ∧ Rep X.K Z' v' c) (fun _ _ _ => False) := ⟨rfl, Z, [d], .ok c, sz, .cons hv .nil, hf, fun v' Z' H' x r => ⟨Z', x, r⟩⟩
  have hl : ([u] ++ []).length = ps.length := F.len _ _ _ _ hsp
  refine wpAny_call (codeAny_mono (F.run A X.stack s H ⟨[u], []⟩ [u] [v] _ (fun _ _ _ => False) hr he (hb s [u] I.kIn hl) (.cons rv .nil) hsp) fun r s' hq => ?_)
  cases r with
  | error e =>
    obtain ⟨_, _, _, _, _, _, _, _, _, _, _, _, z⟩ := hq
    exact z
  | ok fl =>
    cases fl with
    | ret u => exact I.after hq
    | next => exact False.elim hq
    | brk => exact False.elim hq
    | cont => exact False.elim hq
end
end DL
namespace DL
open PySem L2 PySem.W
open PyProof.Rows (seqObj get?_update_seq listUpdate_at listItems_at seqEpoch_at size_push' ksk_rest ksk_fold ksk_tree ksk_t1)
def atS (a : Addr) (xs : Array Value) (n : Nat) : HO := .ext fun h => h.get? a = some (seqObj "list" xs n)
theorem atS_ok {P : Program} {w : World} {H : Hp} {h : Heap} {a : Addr} {xs : Array Value} {n : Nat} (e : h.get? a = some (seqObj "list" xs n)) : ObjOk P w H h a (atS a xs n) := ⟨e, ⟨_, e⟩, fun _ _ q k => k _ q⟩
theorem atS_at {P : Program} {w : World} {H : Hp} {h : Heap} {a : Addr} {xs : Array Value} {n : Nat} (ok : HOk P w H h) (e : H a = some (atS a xs n)) : h.get? a = some (seqObj "list" xs n) := (ok a _ e).1
theorem each_vals {R : Value → D × D → Prop} {K : PySem.W.Frag} {Z : Hp} (hR : ∀ u p, R u p → ∃ v, RelV v u ∧ Rep K Z v p.1) : ∀ {us : List Value} {ps : List (D × D)}, EachIs R us ps → ∃ vs, Vals vs us ∧ RepA K Z vs (ps.map (·.1))
  | _, _, .nil => ⟨[], .nil, .nil⟩
  | _, _, .cons h t => by
    obtain ⟨v, r1, r2⟩ := hR _ _ h
    obtain ⟨vs, q1, q2⟩ := each_vals hR t
    exact ⟨v :: vs, .cons r1 q1, .cons r2 q2⟩
theorem each_mk {K : PySem.W.Frag} {Z : Hp} : ∀ {us : List Value} {vs : List V} {ds ks : List D}, Vals vs us → RepA K Z vs ds → ks.length = ds.length → EachIs (fun u (p : D × D) => ∃ v, RelV v u ∧ Rep K Z v p.1) us (ds.zip ks)
  | _, _, _, [], .nil, .nil, _ => .nil
  | _, _, _, _ :: _, .nil, .nil, e => by simp at e
  | _, _, _, [], .cons _ _, .cons _ _, e => by simp at e
  | _, _, _, k :: ks, .cons r1 t1, .cons r2 t2, e => .cons ⟨_, r1, r2⟩ (each_mk t1 t2 (by simpa using e))
theorem each_reads {X : Cx} {pins : List (Addr × Obj)} {σ : St} {H Z : Hp} {s : Shared} (I : Inv X pins σ H s) (sz : Same Z H) : ∀ {us : List Value} {vs : List V} {ks : List D}, Vals vs us → RepA X.K Z vs ks → (∀ k ∈ ks, shp k = true) → EachIs (fun u d => ∃ as, Reads s.heap u d as) us (ks.map toP)
  | _, _, _, .nil, .nil, _ => .nil
  | _, _, _, .cons r1 t1, .cons (d := d) r2 t2, h => .cons (Dp.reads I (toP d) _ _ (r2.dp sz (shaped_can (h d List.mem_cons_self))) r1) (each_reads I sz t1 t2 fun k hk => h k (List.mem_cons_of_mem _ hk))
section
variable {X : Cx} {pins : List (Addr × Obj)} {σ : St} {H Z : Hp} {s : Shared}
structure Turn (X : Cx) (pins : List (Addr × Obj)) (σ : St) (Z H : Hp) (a kS : Addr) (e1 : Nat) (ks : List D) (j : Nat) (s' : Shared) : Prop where
  ex : ∃ (Hj Zj : Hp) (kA : Array Value) (e : Nat) (kvs : List V), Inv X pins σ Hj s' ∧ ExtP Z H Zj Hj ∧ Hj kS = some (atS kS kA e) ∧ Hj a = some (atS a #[] e1) ∧ Zj kS = none ∧ Zj a = none ∧ Vals kvs kA.toList ∧ RepA X.K Zj kvs (ks.take j)
theorem Same.outer {Z1 H1 : Hp} {a : Addr} {o : HO} (h : Same Z1 H1) (e : Z1 a = none) : Same Z1 (upd H1 a o) := fun b u q => by
  rw [upd_ne (ne_of_none q e)]; exact h b u q
/-- all turns, and what is behind them -/
theorem turns_ok {k : Nat} {f : MA} {fa : Addr} {fd : FuncData} {ps : List Str} {A : Around} {E : Value → Shared → Prop} (F : FnOk X.prog X.w X.K X.mg X.base (L2.CX X.prog X.w) k fa fd ps (spA X.K 1 f)) (hb : Binds X.K fd ps []) (hr : Room k A) (he : ∀ {H' : Hp} {s' : Shared}, Inv X pins σ H' s' → Env0 X.prog X.w X.K X.mg X.base A X.stack s' H')
    {a kS : Addr} {e1 : Nat} {us : List Value} {xs : List V} {ds ks : List D} (hka : kS ≠ a) (nS : H kS = none) (nA : H a = none) (rv : Vals xs us) (hx : RepA X.K Z xs ds) (hk : keysM f ds = some ks) (hZ : us.length ≤ sizeLine) (hst : X.s_0.heap.objs.size ≤ kS) (hex : X.ex = [])
    (hsp : ∀ k ∈ ks, shp k = true) (ok : sortOk (toPs ks) = true) (hu : ∀ k ∈ ks, A.units + (toP k).depth < cLine) {Q : VK} (p : PostP X.K Z H (.lst (sortBy ds ks)) Q) {P : PySem.Fin → Shared → Prop} (hP : ∀ s', EP X pins σ Q (.ref a) s' → P (.done (.ret .none)) s')
    (T : Turn X pins σ Z H a kS e1 ks 0 s) : wpAny (model X.prog X.w) A (ksk_rest a (.ref fa) false us.toArray e1 (.ref kS)) P E s := by
  have hkl := keysM_len hk
  have hxl := hx.length
  have hul : us.length = xs.length := rv.length.symm
  unfold ksk_rest
  refine wpAny_bind (wpAny_rule ?_)
  rw [List.forIn_toArray]
  refine wpAny_bind (ksk_fold (fun i s' => Turn X pins σ Z H a kS e1 ks i s') us 0 s T (fun j x s' hxj t => ?_) fun s' t => ?_)
  · rw [Nat.zero_add] at t ⊢
    obtain ⟨Hj, Zj, kA, e, kvs, I, xt, hS, hA, zS, zA, rk, rr⟩ := t.ex
    have hj : j < us.length := (List.getElem?_eq_some_iff.mp hxj).1
    obtain ⟨v, hv⟩ : ∃ v, xs[j]? = some v := ⟨_, List.getElem?_eq_getElem (by omega)⟩
    obtain ⟨d, hd, rd⟩ := hx.get' hv
    obtain ⟨u, hu1, ru⟩ := rv.get hv
    rw [hxj] at hu1
    cases hu1
    obtain ⟨c, hc, hf⟩ := keysM_at hk hd
    have hz : kA.size ≤ sizeLine := by
      have h1 : kA.size = kvs.length := by rw [L2.Vals.length rk]; simp
      have h2 := rr.length
      rw [List.length_take] at h2
      omega
    refine wpAny_bind (wpAny_attempt (wpAny_mono (key_turn F hb hr I (he I) ru xt.sub (rd.mono xt.z) hf) (fun w s2 hw => ?_) fun _ _ z => z.elim))
    obtain ⟨wv, Hn, I2, rw2, Zn, xn, rn⟩ := hw
    have hS2 := xn.h _ _ hS
    have hA2 := xn.h _ _ hA
    have zS2 : Zn kS = none := by
      cases q : Zn kS with
      | none => rfl
      | some o =>
        rcases xn.zn kS (by rw [q]; simp) with z | z
        · exact absurd zS z
        · rw [hS] at z; cases z
    have zA2 : Zn a = none := by
      cases q : Zn a with
      | none => rfl
      | some o =>
        rcases xn.zn a (by rw [q]; simp) with z | z
        · exact absurd zA z
        · rw [hA] at z; cases z
    have nk := atS_at I2.hok hS2
    have sb := Heap.SameBut.update s2.heap kS (Obj.mapSeq (·.push w))
    obtain ⟨c2, hc2⟩ : ∃ c2, (s2.heap.update kS (Obj.mapSeq (·.push w))).get? kS = some (seqObj "list" (kA.push w) c2) := ⟨_, get?_update_seq nk (·.push w)⟩
    try dsimp only
    refine wpAny_bind (listUpdate_at nk rfl ?_ hz (Nat.le_trans (Nat.le_of_eq (Array.size_push ..)) (Nat.succ_le_succ hz)))
    have I3 := I2.write (x := kS) (e := kS) (o := atS kS (kA.push w) c2) (t' := s2.toks) (by rw [hS2]; trivial) (.inl rfl) (fun b u' hne q => (sb.2 b hne).trans q) ⟨_, hc2⟩ (atS_ok hc2)
    refine wpAny_pure ⟨rfl, ⟨upd Hn kS (atS kS (kA.push w) c2), Zn, kA.push w, c2, kvs ++ [wv], I3, ?_, upd_same, by rw [upd_ne hka.symm]; exact hA2, zS2, zA2, ?_, ?_⟩⟩
    · have x2 := xt.trans xn
      exact ⟨x2.z, fun b u' q => by rw [upd_ne (ne_of_none q nS)]; exact x2.h b u' q, Same.outer x2.sub zS2, x2.zn⟩
    · have ea : (kA.push w).toList = kA.toList ++ [w] := by simp
      rw [ea]
      exact paired_app rk (.cons rw2 .nil)
    · have ek : ks.take (j + 1) = ks.take j ++ [c] := by rw [List.take_add_one, hc]; rfl
      rw [ek]
      exact (rr.mono xn.z).append (.cons rn .nil)
  · rw [Nat.zero_add] at t
    obtain ⟨Hj, Zj, kA, e, kvs, I, xt, hS, hA, zS, zA, rk, rr⟩ := t.ex
    rw [List.take_of_length_le (by omega)] at rr
    have nk := atS_at I.hok hS
    have na := atS_at I.hok hA
    obtain ⟨G, gk, gn, J⟩ := forget I hS hst hex
    try dsimp only
    refine wpAny_bind (listItems_at nk rfl ?_)
    have er := each_reads I xt.sub rk rr hsp
    have hal : AllAlike (ks.map toP) := by rw [← toPs_map]; exact sortOk_like ok
    have hso : Sortable (ks.map toP) := by rw [← toPs_map]; exact sortOk_sortable ok
    have hsz : kA.size = us.length := by
      have h1 : kA.size = kvs.length := by rw [L2.Vals.length rk]; simp
      have h2 := rr.length
      omega
    refine keyH_end (κ := dataKind s'.heap (ks.map toP)) (h₁ := G) (fun b o _ q => gk b o q) gn nk na hka (SortsAt.data er hal hso fun d hd => ?_) hsz hZ fun h' tk c kp n => ?_
    · obtain ⟨k0, hk0, rfl⟩ := List.mem_map.mp hd
      exact hu k0 hk0
    · have ko : KeyedOut false ((ds.zip ks).map fun p => toP p.2) us (PySem.W.sortVals (dataKind s'.heap (ks.map toP)) false kA.toList us) := by
        have e1 : (ds.zip ks).map (fun p => toP p.2) = ks.map toP := by
          rw [show (fun p : D × D => toP p.2) = toP ∘ Prod.snd from rfl, ← List.map_map, List.map_snd_zip (by omega)]
        rw [e1]
        exact ⟨s'.heap, kA.toList, hal, rfl, er⟩
      have eo := keyedOut_each (R := fun u (p : D × D) => ∃ v, RelV v u ∧ Rep X.K Zj v p.1) (fun p : D × D => toP p.2) ko (each_mk rv (hx.mono xt.z) hkl)
      obtain ⟨ov, o1, o2⟩ := each_vals (fun _ _ q => q) eo
      have hol : ov.length ≤ sizeLine := by
        have h1 := o2.length
        rw [List.length_map, List.length_mergeSort, List.length_zip] at h1
        omega
      have hAd : delH Hj kS a = some (atS a #[] e1) := by rw [delH_ne hka.symm]; exact hA
      have J2 := J.write (h' := h') (x := a) (e := a) (o := .lst ov) (t' := tk) (by rw [hAd]; trivial) (.inl rfl) (fun b u' hne q => kp b u' hne q) ⟨_, n⟩ ⟨hol, _, c, o1, n⟩
      refine hP _ ⟨.ref a, _, J2, rfl, p _ (upd Zj a (.lst ov)) _ ⟨?_, ?_, ?_, ?_⟩ (.lst (.inl upd_same) (o2.mono ?_))⟩
      · exact fun b u' q => by rw [upd_ne (ne_of_none (xt.z b u' q) zA)]; exact xt.z b u' q
      · exact fun b u' q => by rw [upd_ne (ne_of_none q nA), delH_ne (ne_of_none q nS)]; exact xt.h b u' q
      · intro b u' q
        by_cases z : b = a
        · rw [z, upd_same] at q ⊢; exact q
        · rw [upd_ne z] at q ⊢
          rw [delH_ne (ne_of_none q zS)]
          exact xt.sub b u' q
      · intro b q
        by_cases z : b = a
        · rw [z]; exact .inr nA
        · rw [upd_ne z] at q; exact xt.zn b q
      · exact fun b u' q => by rw [upd_ne (ne_of_none q zA)]; exact q
end
end DL
namespace DL
open PySem L2 PySem.W
open PyProof.Rows (seqObj get?_update_seq listUpdate_at listItems_at seqEpoch_at size_push' ksk_rest ksk_fold ksk_tree ksk_t1 ksk_s1 ksk_l1)
section
variable {X : Cx} {pins : List (Addr × Obj)} {σ : St} {H Z : Hp} {s : Shared}
/-- sorted(xs, key=f), f a def -/
theorem sortF_run {k : Nat} {f : MA} {fa : Addr} {fd : FuncData} {ps : List Str} (F : FnOk X.prog X.w X.K X.mg X.base (L2.CX X.prog X.w) k fa fd ps (spA X.K 1 f)) (hb : Binds X.K fd ps []) (hr : Room (k + 2) X.A) (hex : X.ex = []) (I : Inv X pins σ H s)
    {l : Addr} {xs : List V} {ds ks : List D} (sz : Same Z H) (hl : SqL X.K H l xs) (hx : RepA X.K Z xs ds) (hk : keysM f ds = some ks) (hsp : ∀ k ∈ ks, shp k = true) (ok : sortOk (toPs ks) = true) {Q : VK} (p : PostP X.K Z H (.lst (sortBy ds ks)) Q) :
    wpAny (model X.prog X.w) X.A (call (.builtin "sorted") [.ref l] [(Str.ofString "key", .ref fa)]) (EP X pins σ Q) X.xe s := by
  obtain ⟨us, rv, hL, hz⟩ := I.list hl
  have hz2 : us.length ≤ sizeLine := by rw [← rv.length]; exact hz
  refine sorted_of_sort hL.isList hz2 (ksk_s1 _ _) (fun _ => ksk_l1 _ _) fun E' => ?_
  rw [ksk_t1]
  let a : Addr := s.heap.objs.size + 1
  let h0 := copyHeap s.heap us
  have oa : h0.get? a = some (seqObj "list" us.toArray 0) := copyHeap_at s.heap us
  have la : a < h0.objs.size := Heap.lt_size oa
  obtain ⟨e1, oa1⟩ : ∃ e1, (h0.update a (Obj.mapSeq fun _ => (#[] : Array Value))).get? a = some (seqObj "list" #[] e1) := ⟨_, get?_update_seq oa fun _ => #[]⟩
  let h1 := (h0.update a (Obj.mapSeq fun _ => (#[] : Array Value))).push (seqObj "tuple" us.toArray 0)
  have s1 : h1.objs.size = h0.objs.size + 1 := by show ((h0.update a _).push _).objs.size = _; rw [size_push', Heap.size_update]
  have keep1 : ∀ b u, s.heap.get? b = some u → h1.get? b = some u := fun b u q => by
    have q0 : h0.get? b = some u := copyHeap_old q
    have nb : b ≠ a := Nat.ne_of_lt (Nat.lt_succ_of_lt (Heap.lt_size q))
    exact Heap.get?_push_of_some _ (by rw [Heap.get?_update_ne _ _ _ _ nb]; exact q0)
  have oa2 : h1.get? a = some (seqObj "list" #[] e1) := Heap.get?_push_of_some _ oa1
  have nA : H a = none := I.hok.fresh (Nat.le_succ _)
  have J1 := I.laid (h' := h1) (a := a) (o := atS a #[] e1) (t' := s.toks) keep1 (Nat.le_succ _) (atS_ok oa2)
  have nS1 : upd H a (atS a #[] e1) h1.objs.size = none := J1.hok.fresh (Nat.le_refl _)
  have hka : h1.objs.size ≠ a := by rw [s1]; exact Nat.ne_of_gt (Nat.lt_succ_of_lt la)
  have nS : H h1.objs.size = none := by rw [upd_ne hka] at nS1; exact nS1
  have oS : (h1.push (seqObj "list" #[] 0)).get? h1.objs.size = some (seqObj "list" #[] 0) := Heap.get?_push_size _ rfl
  have J2 := J1.laid (h' := h1.push (seqObj "list" #[] 0)) (a := h1.objs.size) (o := atS h1.objs.size #[] 0) (t' := s.toks) (fun b u q => Heap.get?_push_of_some _ q) (Nat.le_refl _) (atS_ok oS)
  have hst : X.s_0.heap.objs.size ≤ h1.objs.size := by
    have := I.sz
    have : s.heap.objs.size + 1 < h0.objs.size := la
    omega
  unfold ksk_tree
  refine wpAny_bind (listItems_at (s := { s with heap := h0 }) oa rfl ?_)
  refine wpAny_bind (listUpdate_at (s := { s with heap := h0 }) oa rfl ?_ (by rw [List.size_toArray]; exact hz2) (Nat.zero_le _))
  refine wpAny_bind (seqEpoch_at oa1 rfl ?_)
  refine wpAny_bind (wpAny_newTuple ?_ hz2)
  refine wpAny_bind (wpAny_newList ?_ (Nat.zero_le _))
  refine wpAny_holding ?_
  exact turns_ok (s := { s with heap := h1.push (seqObj "list" #[] 0) }) F hb (Room.in1 (Room.in1 hr)) (fun I' => I'.env0.in1.in1) hka nS nA rv hx hk hz2 hst hex hsp ok (fun k0 h0 => by
      have z := hsp k0 h0
      unfold shp at z
      rw [Bool.and_eq_true] at z
      have y := of_decide_eq_true z.2
      have := hr.un
      show X.A.units + 1 + 1 + (toP k0).depth < cLine
      have dd : (toP k0).depth = depD k0 := depD_dep k0 z.1
      rw [dd]
      omega) p (fun s' q => ⟨rfl, q⟩)
    ⟨_, Z, #[], 0, [], J2, ⟨Same.refl _, fun b u q => by rw [upd_ne (ne_of_none q nS), upd_ne (ne_of_none q nA)]; exact q, Same.outer (Same.outer sz (none_of sz nA)) (none_of sz nS), fun b q => .inl q⟩, upd_same, by rw [upd_ne hka.symm]; exact upd_same, none_of sz nS, none_of sz nA, .nil, by rw [List.take_zero]; exact .nil⟩
/-- the mirror -/
noncomputable def sortKD (f : MA) : D → Option D
  | .lst ds => match keysM f ds with
    | some ks => if (ks.all shp && sortOk (toPs ks)) = true then some (.lst (sortBy ds ks)) else none
    | none => none
  | _ => none
noncomputable def mSortK (f : MA) (m : EM) : EM := bnd m (pur fun d => ret (sortKD f d))
def rSortF (K : PySem.W.Frag) (fa : Addr) (f : MA) : List V → List V → Hp → VK → Prop := fun vs zs H Q => zs = [.ref fa] ∧ ∃ (x : V) (Z : Hp) (d c : D), vs = [x] ∧ Same Z H ∧ Rep K Z x d ∧ sortKD f d = some c ∧ PostP K Z H c Q
theorem cr_sortF {k : Nat} {f : MA} {fa : Addr} {fd : FuncData} {ps : List Str} (F : FnOk X.prog X.w X.K X.mg X.base (L2.CX X.prog X.w) k fa fd ps (spA X.K 1 f)) (hb : Binds X.K fd ps []) (hr : Room (k + 2) X.A) (hex : X.ex = []) :
    CallRK X (.builtin "sorted") [Str.ofString "key"] (rSortF X.K fa f) := by
  intro pins s σ H vs zs us ws Q I r rz h
  obtain ⟨rfl, x, Z, d, c, rfl, sz, hx, hd, p⟩ := h
  cases r with
  | cons r1 r2 =>
  cases r2
  cases rz with
  | cons z1 z2 =>
  cases z2
  cases z1
  unfold sortKD at hd
  split at hd
  · split at hd
    · rename_i ks hk
      split at hd
      · rename_i hc
        cases hd
        rw [Bool.and_eq_true] at hc
        cases hx with
        | lst h1 h2 =>
          cases r1
          exact sortF_run F hb hr hex I sz (.inl (same_rd sz h1)) h2 hk (fun k0 h0 => List.all_eq_true.mp hc.1 k0 h0) hc.2 p
      · cases hd
    · cases hd
  · cases hd
end
@[simp] theorem e_add2I (i j : Int) : dAdd2 (.int i) (.int j) = some (.int (i + j)) := rfl
@[simp] theorem e_add2S (x y : Str) : dAdd2 (.str x) (.str y) = if x.length + y.length ≤ 1000000 then some (.str (x ++ y)) else none := rfl
@[simp] theorem e_add2L (x y : List D) : dAdd2 (.lst x) (.lst y) = if x.length + y.length ≤ 1000000 then some (.lst (x ++ y)) else none := rfl
@[simp] theorem e_inDL (xs ys : List D) : inD (.tup xs) (.lst ys) = if (shp (.tup xs) && shp (.lst ys)) = true then some (ys.any fun z => deq z (.tup xs)) else none := rfl
@[simp] theorem e_sortK (f : MA) (m : EM) (s : S) : mSortK f m s = (bnd m (pur fun d => ret (sortKD f d))) s := rfl
theorem sortKD_eq {f : MA} {ds ks : List D} (h : keysM f ds = some ks) (h1 : ks.all shp = true) (h2 : sortOk (toPs ks) = true) : sortKD f (.lst ds) = some (.lst (sortBy ds ks)) := by
  unfold sortKD
  simp only [h]
  rw [h1, h2]; rfl
theorem keysM_map {f : MA} {g : D → D} : ∀ {ds : List D}, (∀ d ∈ ds, f [d] = some (.ok (g d))) → keysM f ds = some (ds.map g)
  | [], _ => rfl
  | d :: r, h => by
    unfold keysM
    rw [h d List.mem_cons_self]
    simp only
    rw [keysM_map fun x hx => h x (List.mem_cons_of_mem _ hx)]
    rfl
/-- pairs of ints as keys -/
theorem sortOk_ii {α : Type} (l : List α) (a b : α → Int) : sortOk (toPs (l.map fun x => D.tup [.int (a x), .int (b x)])) = true := by
  rw [toPs_map, List.map_map]
  unfold sortOk
  rw [Bool.and_eq_true, Bool.or_eq_true]
  refine ⟨.inl (List.all_eq_true.mpr fun d hd => ?_), List.all_eq_true.mpr fun d hd => List.all_eq_true.mpr fun e he => ?_⟩
  · obtain ⟨x, _, rfl⟩ := List.mem_map.mp hd; rfl
  · obtain ⟨x, _, rfl⟩ := List.mem_map.mp hd
    obtain ⟨y, _, rfl⟩ := List.mem_map.mp he
    simp [toP, toPs, alike, alikeAll]
theorem sortBy_same (ds ks : List D) (hl : ks.length = ds.length) (h : (ds.zip ks).Pairwise fun p q => dataLe false (fun p : D × D => toP p.2) p q = true) : sortBy ds ks = ds := by
  unfold sortBy
  rw [List.mergeSort_of_pairwise h, List.map_fst_zip (by omega)]
section
variable {K : PySem.W.Frag} {X : Cx} {W : WX} {e : Expr} {pos p p2 kp : Pos}
theorem de_sortK {k kk : Nat} {f : MA} {fa : Addr} {fd : FuncData} {ps : List Str} {x : Str} {te : TE} {m : EM} (F : FnOk X.prog X.w K X.mg X.base (L2.CX X.prog X.w) k fa fd ps (spA K 1 f)) (hr : Room kk X.A) (hkk : k + 2 ≤ kk) (hs : X.mg "sorted" = none) (hm : X.mg x = some (.ref fa)) (hb : Binds K fd ps []) (h : DE K X W e te m)
    (hgs : Gl X "sorted" := by rfl) (hg : Gl X x := by rfl) (hex : X.ex = [] := by rfl) (hdb : (x == ("__debug__" : Str)) = false := by decide)
    (hs1 : starEach [e] X.env = (false, eval e X.env) :: starEach [] X.env := by rfl) (he : backTo pos (starEach [e] X.env) = (false, eval e X.env) :: backTo pos (starEach [] X.env) := by rfl) (hpl : (backTo pos (starEach [e] X.env)).any (·.1) = false := by rfl)
    (hall : (backToKw pos (keywordEach [⟨some "key", .Name x p2, kp⟩] X.env)).all (·.1.isSome) = true := by rfl) (hnone : (backToKw pos (keywordEach [⟨some "key", .Name x p2, kp⟩] X.env)).any (·.1.isNone) = false := by rfl) (hks : (backToKw pos (keywordEach [⟨some "key", .Name x p2, kp⟩] X.env)).filterMap (·.1) = [Str.ofString "key"] := by rfl) :
    DE K X W (.Call (.Name "sorted" p) [e] [⟨some "key", .Name x p2, kp⟩] pos) (tCKw (rSortF K fa f) (tCons te tNil) (tCons (tC (.ref fa)) tNil)) (mSortK f m) := by
  have k0 := h.k
  subst k0
  refine ⟨rfl, pe_callBK (cr_sortF F hb (hr.mono hkk) hex) hgs hs rfl (pa_cons h.pe pa_nil hs1) (pk_cons (pe_glob (v := .ref fa) hg hm rfl hdb) pk_nil) (by decide) (by decide) he hpl hall hnone hks, ⟨fun σ H s Z I r0 Q w rs e1 p1 => ?_⟩⟩
  refine h.so.bnd w rs e1 p1.x fun d v M1 Z1 H1 I1 w1 rs1 x1 q1 e2 => ?_
  obtain ⟨d, rfl, e2⟩ := pur_ok e2
  obtain ⟨c, hc, rfl⟩ := ret_ok e2
  exact ⟨rfl, v, Z1, d, c, rfl, w1.sub, q1, hc, PostP.of w1 (p1.mono x1)⟩
end
end DL
namespace DL
open PySem L2
/-! ### dicts: one's own, and data; keys ints and texts, or tuples of them -/
section
variable {α κ : Type} [DecidableEq κ]
def valO (kvs : List (κ × α)) (k : κ) : Option α := (kvs.find? fun kv => decide (kv.1 = k)).map (·.2)
def putO (kvs : List (κ × α)) (k : κ) (v : α) : List (κ × α) :=
  if (kvs.any fun kv => decide (kv.1 = k)) = true then kvs.map (fun kv => if kv.1 = k then (kv.1, v) else kv) else kvs ++ [(k, v)]
def dropO (kvs : List (κ × α)) (k : κ) : List (κ × α) := kvs.filter fun kv => decide (kv.1 ≠ k)
end
def keysD : List D → Option (List Key)
  | [] => some []
  | d :: r => match keyD d, keysD r with
    | some k, some ks => some (k :: ks)
    | _, _ => none
def keyT : D → Option (List Key)
  | .tup xs => keysD xs
  | _ => none
section
variable {K : PySem.W.Frag} {X : Cx} {W : WX} {e a b c : Expr} {es : List Expr} {pos : Pos} {Z H : Hp} {I : List Addr} {M : List O}
theorem keys_rep : ∀ {vs : List V} {xs : List D} {ks : List Key}, RepA K Z vs xs → keysD xs = some ks → vs = ks.map kV
  | _, [], _, .nil, e => by cases e; rfl
  | _, d :: r, _, .cons h t, e => by
    have e : (match keyD d, keysD r with | some k, some ks => some (k :: ks) | _, _ => none) = some _ := e
    cases q : keyD d with
    | none => rw [q] at e; cases e
    | some k =>
      cases q2 : keysD r with
      | none => rw [q, q2] at e; cases e
      | some ks =>
        rw [q, q2] at e; cases e
        rw [key_rep h q, keys_rep t q2]; rfl
theorem keyT_rep {v : V} {d : D} {ks : List Key} (h : Rep K Z v d) (e : keyT d = some ks) : ∃ b, v = .ref b ∧ Z b = some (.tup (ks.map kV)) := by
  cases h with
  | tup h1 h2 => exact ⟨_, rfl, by rw [← keys_rep h2 (show keysD _ = some ks from e)]; exact h1⟩
  | _ => cases e
section
variable {κ : Type} [DecidableEq κ]
theorem valP_rep {ks : List (κ × V)} {ds : List (κ × DV)} (r : Paired (FRel K Z I) ks ds) (k : κ) : (valV ks k = none ∧ valO ds k = none) ∨ ∃ v d, valV ks k = some v ∧ valO ds k = some d ∧ RepV K Z I v d := by
  induction r with
  | nil => exact .inl ⟨rfl, rfl⟩
  | @cons p q ps qs h t ih =>
    obtain ⟨h1, h2⟩ := h
    by_cases z : p.1 = k
    · exact .inr ⟨p.2, q.2, by simp [valV, z], by simp [valO, ← h1, z], h2⟩
    · have e1 : valV (p :: ps) k = valV ps k := by simp [valV, z]
      have e2 : valO (q :: qs) k = valO qs k := by simp [valO, ← h1, z]
      rw [e1, e2]; exact ih
theorem anyP_rep {ks : List (κ × V)} {ds : List (κ × DV)} (r : Paired (FRel K Z I) ks ds) (k : κ) : (ks.any fun kv => decide (kv.1 = k)) = ds.any fun kv => decide (kv.1 = k) := by
  induction r with
  | nil => rfl
  | @cons p q ps qs h t ih => rw [List.any_cons, List.any_cons, ih, h.1]
theorem mapP_rep {ks : List (κ × V)} {ds : List (κ × DV)} (k : κ) {v : V} {d : DV} (h : RepV K Z I v d) (r : Paired (FRel K Z I) ks ds) : Paired (FRel K Z I) (ks.map (fun kv => if kv.1 = k then (kv.1, v) else kv)) (ds.map (fun kv => if kv.1 = k then (kv.1, d) else kv)) := by
  induction r with
  | nil => exact .nil
  | @cons p q ps qs g t ih =>
    refine .cons ?_ ih
    show FRel K Z I (if p.1 = k then (p.1, v) else p) (if q.1 = k then (q.1, d) else q)
    by_cases z : p.1 = k
    · rw [if_pos z, if_pos (g.1.symm.trans z)]; exact ⟨g.1, h⟩
    · rw [if_neg z, if_neg (fun y => z (g.1.trans y))]; exact g
theorem putP_rep {ks : List (κ × V)} {ds : List (κ × DV)} (r : Paired (FRel K Z I) ks ds) (k : κ) {v : V} {d : DV} (h : RepV K Z I v d) : Paired (FRel K Z I) (putK ks k v) (putO ds k d) := by
  unfold putK putO
  rw [anyP_rep r k]
  split
  · exact mapP_rep k h r
  · exact paired_app r (.cons ⟨rfl, h⟩ .nil)
theorem dropP_rep {ks : List (κ × V)} {ds : List (κ × DV)} (r : Paired (FRel K Z I) ks ds) (k : κ) : Paired (FRel K Z I) (dropK ks k) (dropO ds k) := by
  unfold dropK dropO
  induction r with
  | nil => exact .nil
  | @cons p q ps qs g t ih =>
    rw [List.filter_cons, List.filter_cons, g.1]
    split
    · exact .cons g ih
    · exact ih
end
theorem repK_paired {ks : List (Key × V)} : ∀ {ds : List (Key × D)}, RepK K Z ks ds → Paired (FRel K Z I) ks (ds.map fun p => (p.1, DV.p p.2))
  | _, .nil => .nil
  | _, .cons h r => .cons ⟨rfl, h⟩ (repK_paired r)
theorem repT_paired {ks : List (List Key × V)} : ∀ {ds : List (List Key × D)}, RepT K Z ks ds → Paired (FRel K Z I) ks (ds.map fun p => (p.1, DV.p p.2))
  | _, .nil => .nil
  | _, .cons h r => .cons ⟨rfl, h⟩ (repT_paired r)
/-- the dict that a value is -/
inductive Dc where
  | k (kvs : List (Key × DV)) | t (kvs : List (List Key × DV))
def dcM (M : List O) : DV → Option Dc
  | .p (.dK kvs) => some (.k (kvs.map fun p => (p.1, .p p.2)))
  | .p (.dT kvs) => some (.t (kvs.map fun p => (p.1, .p p.2)))
  | .o n => match M[n]? with
    | some (.dK kvs) => some (.k kvs)
    | some (.dT kvs) => some (.t kvs)
    | _ => none
  | _ => none
def RepDc (K : PySem.W.Frag) (Z H : Hp) (I : List Addr) (a : Addr) : Dc → Prop
  | .k ds => ∃ ks, H a = some (.dK ks) ∧ Paired (FRel K Z I) ks ds
  | .t ds => ∃ ks, H a = some (.dT ks) ∧ Paired (FRel K Z I) ks ds
theorem dc_rep {x : V} {d : DV} {c : Dc} (w : Wf K Z H I M) (h : RepV K Z I x d) (e : dcM M d = some c) : ∃ a, x = .ref a ∧ RepDc K Z H I a c := by
  cases d with
  | o n =>
    obtain ⟨a, ha, rfl⟩ := h
    unfold dcM at e
    cases z : M[n]? with
    | none => simp only [z] at e; cases e
    | some o =>
      simp only [z] at e
      cases o with
      | dK ds => cases e; obtain ⟨_, r⟩ := w.ob n a _ ha z (by intro z; cases z); exact ⟨a, rfl, r⟩
      | dT ds => cases e; obtain ⟨_, r⟩ := w.ob n a _ ha z (by intro z; cases z); exact ⟨a, rfl, r⟩
      | _ => cases e
  | p d =>
    have h : Rep K Z x d := h
    cases h with
    | dK h1 h2 => cases e; exact ⟨_, rfl, _, w.sub _ _ h1, repK_paired h2⟩
    | dT h1 h2 => cases e; exact ⟨_, rfl, _, w.sub _ _ h1, repT_paired h2⟩
    | _ => cases e
def getC : Dc → D → Option (Option DV)
  | .k kvs, k => (keyD k).map (valO kvs)
  | .t kvs, k => (keyT k).map (valO kvs)
theorem getC_rep {x : Addr} {y : V} {c : Dc} {k : D} {o : Option DV} (s : Same Z H) (h : RepDc K Z H I x c) (hy : Rep K Z y k) (e : getC c k = some o) : ∃ r, DGet H x y r ∧ ((r = none ∧ o = none) ∨ ∃ v d, r = some v ∧ o = some d ∧ RepV K Z I v d) := by
  cases c with
  | k ds =>
    obtain ⟨ks, h1, h2⟩ := h
    have e : (keyD k).map (valO ds) = some o := e
    cases q : keyD k with
    | none => rw [q] at e; cases e
    | some kk =>
      rw [q] at e; cases e
      refine ⟨_, .inl ⟨ks, kk, .inl h1, key_rep hy q, rfl⟩, ?_⟩
      exact valP_rep h2 kk
  | t ds =>
    obtain ⟨ks, h1, h2⟩ := h
    have e : (keyT k).map (valO ds) = some o := e
    cases q : keyT k with
    | none => rw [q] at e; cases e
    | some kk =>
      rw [q] at e; cases e
      obtain ⟨b, rfl, hb⟩ := keyT_rep hy q
      refine ⟨_, .inr ⟨ks, kk, b, .inl h1, rfl, s _ _ hb, rfl⟩, ?_⟩
      exact valP_rep h2 kk
def getM (M : List O) (d : DV) (k : D) : Option (Option DV) := match dcM M d with
  | some c => getC c k
  | none => none
theorem getM_rep {x y : V} {d : DV} {k : D} {o : Option DV} (w : Wf K Z H I M) (hx : RepV K Z I x d) (hy : Rep K Z y k) (e : getM M d k = some o) :
    ∃ a r, x = .ref a ∧ DGet H a y r ∧ ((r = none ∧ o = none) ∨ ∃ v d, r = some v ∧ o = some d ∧ RepV K Z I v d) := by
  unfold getM at e
  cases z : dcM M d with
  | none => simp only [z] at e; cases e
  | some c =>
    simp only [z] at e
    obtain ⟨ad, rfl, rc⟩ := dc_rep w hx z
    obtain ⟨r, g, k⟩ := getC_rep w.sub rc hy e
    exact ⟨ad, r, rfl, g, k⟩
/-- d[k] -/
def dgK (d : DV) (k : D) : EM := fun s => match getM s.m d k with
  | some (some v) => some (.ok v s.m)
  | _ => none
def mDget (m n : EM) : EM := bnd m fun d => bnd n (pur (dgK d))
theorem de_dgetG (hu : X.A.units + 1 < cLine) {td ty : TE} {m n : EM} (ha : DE K X W a td m) (hb : DE K X W b ty n) (hs : NoSl b := by exact fun _ _ => rfl) : DE K X W (.Subscript a b pos) (tDGet td ty) (mDget m n) := by
  refine ⟨ha.k, pe_dget hu ha.pe hb.pe hs, ⟨fun σ H s Z I r0 Q w rs e p => ?_⟩⟩
  refine ha.so.bnd w rs e p.x fun d v M1 Z1 H1 I1 w1 rs1 x1 q1 e1 => ?_
  have p1 := p.mono x1
  refine hb.so.bnd (s := ⟨s.l, M1⟩) w1 rs1 e1 p1.x fun d2 v2 M2 Z2 H2 I2 w2 rs2 x2 q2 e2 => ?_
  obtain ⟨d2, rfl, e2⟩ := pur_ok e2
  have e2 : (match getM M2 d d2 with | some (some v) => some (Rs.ok v M2) | _ => none) = some r0 := e2
  cases z : getM M2 d d2 with
  | none => rw [z] at e2; cases e2
  | some o =>
    rw [z] at e2
    obtain ⟨ad, r, rfl, g, k⟩ := getM_rep w2 (q1.mono x2) q2 z
    rcases k with ⟨_, rfl⟩ | ⟨u, c', rfl, rfl, hr⟩
    · cases e2
    · cases e2
      exact ⟨ad, u, rfl, g, (p1.mono x2) u Z2 H2 I2 w2 Ext.refl hr⟩
/-- k in d, k not in d -/
def dinK (neg : Bool) (k : D) (d : DV) : EM := fun s => match getM s.m d k with
  | some o => some (.ok (.p (.bl (if neg then !o.isSome else o.isSome))) s.m)
  | _ => none
def mDin (neg : Bool) (m n : EM) : EM := bnd m (pur fun k => bnd n (dinK neg k))
theorem so_din (neg : Bool) {ty td : TE} {m n : EM} (ha : Sound K W (RepV K) ty m) (hb : Sound K W (RepV K) td n) :
    Sound K W (RepV K) (fun σ H Q => ty σ H fun y H1 => td σ H1 fun x H2 => ∃ a o, x = .ref a ∧ DGet H2 a y o ∧ Q (.bl (if neg then !o.isSome else o.isSome)) H2) (mDin neg m n) := ⟨fun σ H s Z I r0 Q w rs e p => by
  refine ha.bnd w rs e p.x fun d v M1 Z1 H1 I1 w1 rs1 x1 q1 e1 => ?_
  obtain ⟨d, rfl, e1⟩ := pur_ok e1
  have p1 := p.mono x1
  refine hb.bnd (s := ⟨s.l, M1⟩) w1 rs1 e1 p1.x fun d2 v2 M2 Z2 H2 I2 w2 rs2 x2 q2 e2 => ?_
  have e2 : (match getM M2 d2 d with | some o => some (Rs.ok (DV.p (.bl (if neg then !o.isSome else o.isSome))) M2) | _ => none) = some r0 := e2
  cases z : getM M2 d2 d with
  | none => rw [z] at e2; cases e2
  | some o =>
    rw [z] at e2; cases e2
    obtain ⟨ad, r, rfl, g, k⟩ := getM_rep w2 q2 (Rep.mono x2.z q1) z
    refine ⟨ad, r, rfl, g, ?_⟩
    have er : r.isSome = o.isSome := by
      rcases k with ⟨rfl, rfl⟩ | ⟨u, c', rfl, rfl, hr⟩ <;> rfl
    rw [er]
    exact (p1.mono x2) _ Z2 H2 I2 w2 Ext.refl (.bl _)⟩
theorem mDin_bool {neg : Bool} {m n : EM} (s : S) (r : Rs DV) (e : mDin neg m n s = some r) (v : DV) (M : List O) (hr : r = .ok v M) : ∃ b, v = .p (.bl b) := by
  subst hr
  obtain ⟨a, M1, _, e⟩ := bnd_ok e
  obtain ⟨d, _, e⟩ := pur_ok e
  obtain ⟨a2, M2, _, e⟩ := bnd_ok e
  unfold dinK at e
  cases z : getM M2 a2 d with
  | none => simp only [z] at e; cases e
  | some o => simp only [z] at e; cases e; exact ⟨_, rfl⟩
theorem de_din (hu : X.A.units + 1 < cLine) {ty td : TE} {m n : EM} (ha : DE K X W a ty m) (hb : DE K X W b td n) (hm : behindInMarks .In b = false := by rfl) : DE K X W (.Compare a [.In] [b] pos) (tDIn ty td) (mDin false m n) := ⟨ha.k, pe_cmp (pc_din hu ha.pe hb.pe) hm, so_din false ha.so hb.so⟩
theorem de_dnin (hu : X.A.units + 1 < cLine) {ty td : TE} {m n : EM} (ha : DE K X W a ty m) (hb : DE K X W b td n) (hm : behindInMarks .NotIn b = false := by rfl) : DE K X W (.Compare a [.NotIn] [b] pos) (tDNotIn ty td) (mDin true m n) := ⟨ha.k, pe_cmp (pc_dnotin hu ha.pe hb.pe) hm, so_din true ha.so hb.so⟩
theorem dt_din (hu : X.A.units + 1 < cLine) {ty td : TE} {m n : EM} (ha : DE K X W a ty m) (hb : DE K X W b td n) (hm : behindInMarks .In b = false := by rfl) : DT K X W (.Compare a [.In] [b] pos) (tB (tDIn ty td)) (mDin false m n) := ⟨ha.k, pt_cmp (pc_din hu ha.pe hb.pe) hm, so_B (so_din false ha.so hb.so) mDin_bool⟩
theorem dt_dnin (hu : X.A.units + 1 < cLine) {ty td : TE} {m n : EM} (ha : DE K X W a ty m) (hb : DE K X W b td n) (hm : behindInMarks .NotIn b = false := by rfl) : DT K X W (.Compare a [.NotIn] [b] pos) (tB (tDNotIn ty td)) (mDin true m n) := ⟨ha.k, pt_cmp (pc_dnotin hu ha.pe hb.pe) hm, so_B (so_din true ha.so hb.so) mDin_bool⟩
/-- d[k] = v at a dict of one's own -/
def putM (M : List O) (n : Nat) (k : D) (v : DV) : Option (List O) := match M[n]? with
  | some (.dK ds) => match keyD k with
    | some kk => if ds.length < 1000000 then some (M.set n (.dK (putO ds kk v))) else none
    | none => none
  | some (.dT ds) => match keyT k with
    | some kk => if ds.length < 1000000 then some (M.set n (.dT (putO ds kk v))) else none
    | none => none
  | _ => none
def sPutK (v d : DV) (k : D) : SM := fun s => match d with
  | .o n => match putM s.m n k v with
    | some M => some (.nx, ⟨s.l, M⟩)
    | none => none
  | _ => none
def purS (k : D → SM) : DV → SM
  | .p d, s => k d s
  | .o _, _ => none
theorem purS_ok {k : D → SM} {v : DV} {s : S} {r : Fl × S} (e : purS k v s = some r) : ∃ d, v = .p d ∧ k d s = some r := by
  cases v with
  | p d => exact ⟨d, rfl, e⟩
  | o n => cases e
def sPut (mv md mk : EM) : SM := liftS mv fun v => liftS md fun d => liftS mk (purS fun k => sPutK v d k)
theorem put_rep {n : Nat} {a : Addr} {k : D} {y v : V} {dv : DV} {M' : List O} (w : Wf K Z H I M) (ha : I[n]? = some a) (hy : Rep K Z y k) (hv : RepV K Z I v dv) (e : putM M n k dv = some M') :
    ∃ H', DPut H a y v H' ∧ Wf K Z H' I M' ∧ Ext Z H I Z H' I := by
  unfold putM at e
  split at e
  · rename_i ds hm
    split at e
    · rename_i kk hk
      split at e
      · rename_i hl
        cases e
        obtain ⟨_, ks, h1, h2⟩ := w.ob n a _ ha hm (by intro z; cases z)
        refine ⟨_, .inl ⟨ks, kk, h1, key_rep hy hk, by rw [paired_len h2]; exact size_lt (Nat.le_of_lt hl), rfl⟩, w.setO ha hm (by intro z; cases z) ⟨_, upd_same, putP_rep h2 kk hv⟩, ext_set (List.mem_of_getElem? ha)⟩
      · cases e
    · cases e
  · rename_i ds hm
    split at e
    · rename_i kk hk
      split at e
      · rename_i hl
        cases e
        obtain ⟨_, ks, h1, h2⟩ := w.ob n a _ ha hm (by intro z; cases z)
        obtain ⟨b, rfl, hb⟩ := keyT_rep hy hk
        refine ⟨_, .inr ⟨ks, kk, b, h1, rfl, w.sub _ _ hb, by rw [paired_len h2]; exact size_lt (Nat.le_of_lt hl), rfl⟩, w.setO ha hm (by intro z; cases z) ⟨_, upd_same, putP_rep h2 kk hv⟩, ext_set (List.mem_of_getElem? ha)⟩
      · cases e
    · cases e
  · cases e
theorem ds_put (hu : X.A.units + 1 < cLine) {pos' : Pos} {o i v : Expr} {td ty tv : TE} {md mk mv : EM} (hv : DE K X W v tv mv) (ho : DE K X W o td md) (hi : DE K X W i ty mk) (hs : swapsWith v (some (.Subscript o i pos')) pos.line X.env = pure false := by rfl) :
    DS K X W (.Assign [.Subscript o i pos'] v pos) (sDPut td ty tv) (sPut mv md mk) := ⟨hv.k, ps_dput hu ho.pe hi.pe hv.pe hs, ⟨fun σ H s Z I r D w rs e p => by
  refine hv.so.lift w rs e p fun d v M1 Z1 H1 I1 w1 rs1 x1 q1 e1 p1 => ?_
  refine ho.so.lift (s := ⟨s.l, M1⟩) w1 rs1 e1 p1 fun d2 v2 M2 Z2 H2 I2 w2 rs2 x2 q2 e2 p2 => ?_
  refine hi.so.lift (s := ⟨s.l, M2⟩) w2 rs2 e2 p2 fun d3 v3 M3 Z3 H3 I3 w3 rs3 x3 q3 e3 p3 => ?_
  obtain ⟨d3, rfl, e3⟩ := purS_ok e3
  cases d2 with
  | p d => cases e3
  | o n =>
    have e3 : (match putM M3 n d3 d with | some M => some (Fl.nx, (⟨s.l, M⟩ : S)) | none => none) = some r := e3
    obtain ⟨a, ha, rfl⟩ := q2.mono x3
    cases z : putM M3 n d3 d with
    | none => rw [z] at e3; cases e3
    | some M4 =>
      rw [z] at e3; cases e3
      obtain ⟨H4, hp, w4, x4⟩ := put_rep w3 ha q3 (q1.mono (x2.trans x3)) z
      exact ⟨a, H4, rfl, hp, p3 σ Z3 H4 I3 w4 (rs3.mono x4) x4⟩⟩⟩
/-- {} of one's own -/
def mDnew (o : O) : EM := fun s => some (.ok (.o s.m.length) (s.m ++ [o]))
theorem de_dnewK (k : X.K = K := by rfl) : DE K X W (.Dict [] [] pos) tDNewK (mDnew (.dK [])) := ⟨k, pe_dnewK, ⟨fun σ H s Z I r Q w rs e p => by
  cases e
  intro l hp
  refine p _ Z _ (I ++ [l]) (w.newO hp ⟨[], upd_same, .nil⟩) (ext_new w.sub hp) ⟨l, ?_, rfl⟩
  rw [← w.len, List.getElem?_append_right (Nat.le_refl _), Nat.sub_self]; rfl⟩⟩
theorem de_dnewT (k : X.K = K := by rfl) : DE K X W (.Dict [] [] pos) tDNewT (mDnew (.dT [])) := ⟨k, pe_dnewT, ⟨fun σ H s Z I r Q w rs e p => by
  cases e
  intro l hp
  refine p _ Z _ (I ++ [l]) (w.newO hp ⟨[], upd_same, .nil⟩) (ext_new w.sub hp) ⟨l, ?_, rfl⟩
  rw [← w.len, List.getElem?_append_right (Nat.le_refl _), Nat.sub_self]; rfl⟩⟩
/-- d.get(k), d.get(k, x) -/
def rGet (x : V) (xs : List V) (H : Hp) (Q : VK) : Prop := (∃ a y o, x = .ref a ∧ xs = [y] ∧ DGet H a y o ∧ Q (o.getD .non) H) ∨ ∃ a y z o, x = .ref a ∧ xs = [y, z] ∧ DGet H a y o ∧ Q (o.getD z) H
theorem mt_get (hu : X.A.units + 1 < cLine) : MtR X "dict.get" rGet := by
  intro pins s σ H x xs v us Q I rx rxs h
  rcases h with ⟨a, y, o, rfl, rfl, g, q⟩ | ⟨a, y, z, o, rfl, rfl, g, q⟩
  · cases rx
    obtain ⟨u, rfl, ru⟩ := rxs.one
    exact d_get1 hu I g ru fun w' s' I' r => ⟨_, H, I', r, q⟩
  · cases rx
    cases rxs with
    | cons r1 r2 =>
      obtain ⟨u, rfl, ru⟩ := Vals.one r2
      exact d_get2 hu I g r1 ru fun w' s' I' r => ⟨_, H, I', r, q⟩
def gGet : MtG := fun d ds s => match ds with
  | [.p k] => match getM s.m d k with
    | some (some v) => some (.ok v s.m)
    | some none => some (.ok (.p .non) s.m)
    | none => none
  | [.p k, z] => match getM s.m d k with
    | some (some v) => some (.ok v s.m)
    | some none => some (.ok z s.m)
    | none => none
  | _ => none
theorem md_get (hu : X.A.units + 1 < cLine) : MthD K X "dict.get" rGet gGet := ⟨fun _ => mt_get hu, fun W σ x d vs ds Z H I s r0 Q w hx hv e p => by
  unfold gGet at e
  split at e
  · rename_i k
    cases hv with
    | cons h1 h2 =>
    cases h2
    cases z : getM s.m d k with
    | none => simp only [z] at e; cases e
    | some o =>
      simp only [z] at e
      obtain ⟨ad, r, rfl, g, kk⟩ := getM_rep w hx h1 z
      refine .inl ⟨ad, _, r, rfl, rfl, g, ?_⟩
      rcases kk with ⟨rfl, rfl⟩ | ⟨u, c', rfl, rfl, hr⟩
      · cases e; exact p _ Z H I w Ext.refl .non
      · cases e; exact p _ Z H I w Ext.refl hr
  · rename_i k y
    cases hv with
    | cons h1 h2 =>
    cases h2 with
    | cons h2 h3 =>
    cases h3
    cases z : getM s.m d k with
    | none => simp only [z] at e; cases e
    | some o =>
      simp only [z] at e
      obtain ⟨ad, r, rfl, g, kk⟩ := getM_rep w hx h1 z
      refine .inr ⟨ad, _, _, r, rfl, rfl, g, ?_⟩
      rcases kk with ⟨rfl, rfl⟩ | ⟨u, c', rfl, rfl, hr⟩
      · cases e; exact p _ Z H I w Ext.refl h2
      · cases e; exact p _ Z H I w Ext.refl hr
  · cases e⟩
/-! ### l.pop(i) of one's own -/
def gPopAt : MtG := fun d ds s => match d, ds with
  | .o n, [.p (.int 0)] => match s.m[n]? with
    | some (.lst (x :: xs)) => some (.ok x (s.m.set n (.lst xs)))
    | _ => none
  | _, _ => none
theorem md_popAt : MthD K X "list.pop" rPopAt gPopAt := ⟨fun _ => mt_popAt, fun W σ x d vs ds Z H I s r0 Q w hx hv e p => by
  unfold gPopAt at e
  split at e
  · rename_i n
    obtain ⟨a, ha, rfl⟩ := hx
    cases hv with
    | cons h1 h2 =>
    cases h2
    have h1 : Rep K Z _ (.int 0) := h1
    cases h1
    split at e
    · rename_i y xs hm
      cases e
      obtain ⟨_, ys, g1, g2⟩ := w.ob n a _ ha hm (by intro z; cases z)
      cases g2 with
      | cons g3 g4 =>
        rename_i u us
        refine ⟨a, u :: us, 0, 0, u, rfl, rfl, g1, by decide, by decide, by simp [seqIndex?], rfl, ?_⟩
        exact p u Z _ I (w.setO ha hm (by intro z; cases z) ⟨_, upd_same, g4⟩) (ext_set (List.mem_of_getElem? ha)) (RepV.mono (ext_set (Z := Z) (H := H) (ho := .lst us) (I := I) (List.mem_of_getElem? ha)) g3)
    · cases e
  · cases e⟩
/-! ### ranges as data -/
theorem cr_range1 : CallR X (.type "range") (fun vs H Q => ∃ j, vs = [V.int j] ∧ ∀ p, H p = none → Q (.ref p) (upd H p (.rng 0 j))) := by
  intro pins s σ H vs us Q I r h
  obtain ⟨j, rfl, q⟩ := h
  obtain ⟨u1, rfl, rj⟩ := r.one
  obtain ⟨t, rfl⟩ := rj
  refine call_range_1 ⟨.ref s.heap.objs.size, upd H s.heap.objs.size (.rng 0 j), I.laid (t' := s.toks + 1 + 1) (fun b o e => Heap.get?_push_of_some _ e) (Nat.le_refl _) ?_, rfl, q _ (I.hok.fresh (Nat.le_refl _))⟩
  exact ⟨s.toks, t, s.toks + 1, Heap.get?_push_size _ rfl⟩
def dRng1 : D → Option D
  | .int j => some (.rng 0 j)
  | _ => none
theorem cd_rng1 : CallD K X (.type "range") (fun vs H Q => ∃ j, vs = [V.int j] ∧ ∀ p, H p = none → Q (.ref p) (upd H p (.rng 0 j))) (g1 dRng1) := ⟨fun _ => cr_range1, g1_ok fun x d c Z H Q s hx hg p => by
  unfold dRng1 at hg
  split at hg
  · cases hx; cases hg
    exact ⟨_, rfl, fun q hq => p _ _ _ (ExtP.new s hq) (.rng upd_same)⟩
  · cases hg⟩
def dInR (neg : Bool) : D → D → Option D
  | .int i, .rng lo hi => some (.bl (if neg then !decide (lo ≤ i ∧ i < hi) else decide (lo ≤ i ∧ i < hi)))
  | _, _ => none
theorem bool_dInR {neg : Bool} : boolD (dInR neg) := fun d e c h => by
  unfold dInR at h
  split at h
  · exact ⟨_, (Option.some.inj h).symm⟩
  · cases h
theorem op_nin_rng : OpR X (compareOp .NotIn) (fun x y H Q => ∃ i a lo hi, x = V.int i ∧ y = V.ref a ∧ H a = some (.rng lo hi) ∧ Q (.bl (!decide (lo ≤ i ∧ i < hi))) H) := by
  intro pins s σ H x y v u Q I rx ry h
  obtain ⟨i, a, lo, hi, rfl, rfl, ha, q⟩ := h
  obtain ⟨k, rfl⟩ := rx
  obtain rfl : u = Value.ref a := ry
  obtain ⟨t1, t2, t3, ho⟩ := I.hok a _ ha
  show wpAny _ _ (do return Value.bool (!(← contains (Value.ref a) (Value.int i k)))) _ _ s
  refine wpAny_bind (wpAny_contains_slot (T := "range") ⟨_, ho, rfl⟩ F.slot_range_contains (call_meets F.slot_range_contains ⟨_, ho, rfl⟩ F.entry_range_contains (F.args_range_contains_2 _ _) (q_contains a lo hi i t1 t2 t3 k)
    ⟨ho, wpAny_truthy_bool (wpAny_pure ⟨.bl _, H, I, rfl, ?_⟩)⟩))
  rw [place1]
  exact q
theorem od_inR : OpD K X (compareOp .In) (fun x y H Q => ∃ i a lo hi, x = V.int i ∧ y = V.ref a ∧ H a = some (.rng lo hi) ∧ Q (.bl (decide (lo ≤ i ∧ i < hi))) H) (dInR false) := ⟨fun _ => op_in_rng, by
  intro x y d e c Z H Q s hx hy hg p
  unfold dInR at hg
  split at hg
  · cases hx
    cases hy with
    | rng h => cases hg; exact ⟨_, _, _, _, rfl, rfl, s _ _ h, p _ Z H (ExtP.refl s) (.bl _)⟩
  · cases hg⟩
theorem od_ninR : OpD K X (compareOp .NotIn) (fun x y H Q => ∃ i a lo hi, x = V.int i ∧ y = V.ref a ∧ H a = some (.rng lo hi) ∧ Q (.bl (!decide (lo ≤ i ∧ i < hi))) H) (dInR true) := ⟨fun _ => op_nin_rng, by
  intro x y d e c Z H Q s hx hy hg p
  unfold dInR at hg
  split at hg
  · cases hx
    cases hy with
    | rng h => cases hg; exact ⟨_, _, _, _, rfl, rfl, s _ _ h, p _ Z H (ExtP.refl s) (.bl _)⟩
  · cases hg⟩
/-! ### l.index(x), flat items -/
def flatD : D → Bool
  | .non => true
  | .bl _ => true
  | .int _ => true
  | .str _ => true
  | _ => false
def findJ (x : D) : List D → Nat → Option Nat
  | [], _ => none
  | y :: ys, j => if deq y x = true then some j else findJ x ys (j + 1)
def dLindex : D → List D → Option D
  | .lst ys, [x] => if flatD x = true ∧ ys.all flatD = true then (findJ x ys 0).map fun (j : Nat) => .int (j : Int) else none
  | .klst ys, [x] => if flatD x = true ∧ ys.all flatD = true then (findJ x ys 0).map fun (j : Nat) => .int (j : Int) else none
  | _, _ => none
theorem flat_rep {v : V} {d : D} (h : Rep K Z v d) (f : flatD d = true) : flatV v = true := by
  cases h <;> first | rfl | cases f
theorem flats_rep : ∀ {vs : List V} {ds : List D}, RepA K Z vs ds → ds.all flatD = true → vs.all flatV = true
  | _, _, .nil, _ => rfl
  | _, _, .cons h r, f => by
    rw [List.all_cons, Bool.and_eq_true] at f
    rw [List.all_cons, Bool.and_eq_true]
    exact ⟨flat_rep h f.1, flats_rep r f.2⟩
theorem eq_rep {v w : V} {d f : D} (h : Rep K Z v d) (g : Rep K Z w f) (fd : flatD d = true) (ff : flatD f = true) : eqV v w = deq d f := by
  cases h <;> first | cases fd | skip
  all_goals (cases g <;> first | cases ff | skip)
  all_goals first | rfl | (rename_i a b; cases a <;> cases b <;> rfl) | skip
theorem find_rep {x : V} {dx : D} (hx : Rep K Z x dx) (fx : flatD dx = true) : ∀ {vs : List V} {ds : List D} {j k : Nat}, RepA K Z vs ds → ds.all flatD = true → findJ dx ds j = some k →
    ∃ i z, k = j + i ∧ vs[i]? = some z ∧ eqV z x = true ∧ ∀ m z', m < i → vs[m]? = some z' → eqV z' x = false
  | _, _, _, _, .nil, _, e => by cases e
  | _, _, j, k, .cons (v := v) (vs := vs) (d := d) (ds := ds) h r, f, e => by
    rw [List.all_cons, Bool.and_eq_true] at f
    have e : (if deq d dx = true then some j else findJ dx ds (j + 1)) = some k := e
    by_cases q : deq d dx = true
    · rw [if_pos q] at e
      cases e
      exact ⟨0, v, rfl, rfl, by rw [eq_rep h hx f.1 fx]; exact q, fun m z' hm => absurd hm (Nat.not_lt_zero m)⟩
    · rw [if_neg q] at e
      obtain ⟨i, z, h1, h2, h3, h4⟩ := find_rep hx fx r f.2 e
      refine ⟨i + 1, z, by omega, by simpa using h2, h3, fun m z' hm hz => ?_⟩
      cases m with
      | zero =>
        cases hz
        rw [eq_rep h hx f.1 fx]; simpa using q
      | succ m => exact h4 m z' (by omega) (by simpa using hz)
theorem md_lindex : MthD K X "list.index" (rIndex K) (gP dLindex) := ⟨fun k => by rw [← k]; exact mt_index, gP_ok fun x d vs ds c Z H Q s hx hv e p => by
  unfold dLindex at e
  have main : ∀ {a : Addr} {xs : List V} {ys : List D} {y : D}, x = .ref a → SqL K H a xs → RepA K Z xs ys → RepA K Z vs [y] → (if flatD y = true ∧ ys.all flatD = true then (findJ y ys 0).map fun (j : Nat) => D.int (j : Int) else none) = some c → rIndex K x vs H Q := by
    intro a xs ys y ex hs ra rv e
    split at e
    · rename_i hf
      obtain ⟨j, hj, rfl⟩ := Option.map_eq_some_iff.mp e
      cases rv with
      | cons h1 h2 =>
      cases h2
      obtain ⟨i, z, e1, e2, e3, e4⟩ := find_rep h1 hf.1 ra hf.2 hj
      obtain rfl : j = i := by omega
      exact ⟨a, xs, _, j, z, ex, rfl, hs, flat_rep h1 hf.1, flats_rep ra hf.2, e2, e3, e4, p _ Z H (ExtP.refl s) (.int _)⟩
    · cases e
  split at e
  · cases hx with
    | lst h1 h2 => exact main rfl (.inl (same_rd s h1)) h2 hv e
  · cases hx with
    | klst h1 h2 => exact main rfl (same_l s h1) h2 hv e
  · cases e⟩
/-! ### from here on it stays: a name's own object is given up -/
def allKP {κ : Type} : List (κ × DV) → Option (List (κ × D))
  | [] => some []
  | (k, .p d) :: r => (allKP r).map ((k, d) :: ·)
  | (_, .o _) :: _ => none
theorem allKP_k : ∀ {ks : List (Key × V)} {ds : List (Key × DV)} {xs : List (Key × D)}, Paired (FRel K Z I) ks ds → allKP ds = some xs → RepK K Z ks xs
  | _, [], _, .nil, e => by cases e; exact .nil
  | (k', v) :: ks, (k, .p d) :: r, _, .cons h t, e => by
    have e : (allKP r).map ((k, d) :: ·) = some _ := e
    cases q : allKP r with
    | none => rw [q] at e; cases e
    | some ys =>
      rw [q] at e; cases e
      obtain ⟨h1, h2⟩ := h
      cases (show k' = k from h1)
      exact .cons h2 (allKP_k t q)
  | _, (_, .o _) :: _, _, .cons h t, e => by cases e
theorem allKP_t : ∀ {ks : List (List Key × V)} {ds : List (List Key × DV)} {xs : List (List Key × D)}, Paired (FRel K Z I) ks ds → allKP ds = some xs → RepT K Z ks xs
  | _, [], _, .nil, e => by cases e; exact .nil
  | (k', v) :: ks, (k, .p d) :: r, _, .cons h t, e => by
    have e : (allKP r).map ((k, d) :: ·) = some _ := e
    cases q : allKP r with
    | none => rw [q] at e; cases e
    | some ys =>
      rw [q] at e; cases e
      obtain ⟨h1, h2⟩ := h
      cases (show k' = k from h1)
      exact .cons h2 (allKP_t t q)
  | _, (_, .o _) :: _, _, .cons h t, e => by cases e
def frzO : O → Option D
  | .lst ds => (allP ds).map .lst
  | .dK ds => (allKP ds).map .dK
  | .dT ds => (allKP ds).map .dT
  | _ => none
def sFrz (i : Nat) : SM := fun s => match gv s.l i with
  | some (.o n) => match s.m[n]? with
    | some o => match frzO o with
      | some d => some (.nx, ⟨s.l.set i (some (.p d)), s.m.set n .gone⟩)
      | none => none
    | none => none
  | _ => none
theorem frz_rep {n : Nat} {a : Addr} {o : O} {d : D} (w : Wf K Z H I M) (ha : I[n]? = some a) (hm : M[n]? = some o) (e : frzO o = some d) : ∃ Z', Wf K Z' H I (M.set n .gone) ∧ Ext Z H I Z' H I ∧ Rep K Z' (.ref a) d := by
  cases o with
  | lst ds =>
    obtain ⟨xs, hx, rfl⟩ := Option.map_eq_some_iff.mp (show (allP ds).map D.lst = some d from e)
    obtain ⟨hz, ys, h1, h2⟩ := w.ob n a _ ha hm (by intro z; cases z)
    have x2 := ext_frz w ha hz h1
    exact ⟨_, w.frz ha hm (by intro z; cases z) h1, x2, .lst (.inl upd_same) ((allP_rep h2 hx).mono x2.z)⟩
  | dK ds =>
    obtain ⟨xs, hx, rfl⟩ := Option.map_eq_some_iff.mp (show (allKP ds).map D.dK = some d from e)
    obtain ⟨hz, ys, h1, h2⟩ := w.ob n a _ ha hm (by intro z; cases z)
    have x2 := ext_frz w ha hz h1
    exact ⟨_, w.frz ha hm (by intro z; cases z) h1, x2, .dK upd_same ((allKP_k h2 hx).mono x2.z)⟩
  | dT ds =>
    obtain ⟨xs, hx, rfl⟩ := Option.map_eq_some_iff.mp (show (allKP ds).map D.dT = some d from e)
    obtain ⟨hz, ys, h1, h2⟩ := w.ob n a _ ha hm (by intro z; cases z)
    have x2 := ext_frz w ha hz h1
    exact ⟨_, w.frz ha hm (by intro z; cases z) h1, x2, .dT upd_same ((allKP_t h2 hx).mono x2.z)⟩
  | _ => cases e
theorem so_sfrz (i : Nat) {t : TS} {m : SM} (h : SoundS K W t m) : SoundS K W t (sSeq (sFrz i) m) := ⟨fun σ H s Z I r D w rs e p => by
  unfold sSeq sFrz at e
  cases q : gv s.l i with
  | none => simp only [q] at e; cases e
  | some d =>
    cases d with
    | p d => simp only [q] at e; cases e
    | o n =>
      simp only [q] at e
      cases q2 : s.m[n]? with
      | none => simp only [q2] at e; cases e
      | some o =>
        simp only [q2] at e
        cases q3 : frzO o with
        | none => simp only [q3] at e; cases e
        | some d =>
          simp only [q3] at e
          obtain ⟨v, h1, a, ha, rfl⟩ := rs.at_ i _ (gv_some q)
          obtain ⟨Z', w', x', rp⟩ := frz_rep w ha q2 q3
          refine h.ok σ H _ Z' I r D w' ?_ e (p.mono x')
          have r1 := (rs.mono x').set (v := .ref a) (dv := .p d) rp i
          have e2 : σ.set i (some (V.ref a)) = σ := by
            obtain ⟨hl, he⟩ := List.getElem?_eq_some_iff.mp h1
            rw [← he, List.set_getElem_self]
          rw [e2] at r1
          exact r1⟩
theorem dss_frz (i : Nat) {sts : List Stmt} {t : TS} {m : SM} (h : DSs K X W sts t m) : DSs K X W sts t (sSeq (sFrz i) m) := ⟨h.k, h.ps, so_sfrz i h.so⟩
end
end DL
namespace DL
open PySem L2
/-! equations of DL31, and data that stand for values of a type -/
@[simp] theorem e_dget (m n : EM) (s : S) : mDget m n s = (bnd m fun d => bnd n (pur (dgK d))) s := rfl
@[simp] theorem e_dgK (d : DV) (k : D) (s : S) : dgK d k s = (match getM s.m d k with | some (some v) => some (.ok v s.m) | _ => none) := rfl
@[simp] theorem e_din (neg : Bool) (m n : EM) (s : S) : mDin neg m n s = (bnd m (pur fun k => bnd n (dinK neg k))) s := rfl
@[simp] theorem e_dinK (neg : Bool) (k : D) (d : DV) (s : S) : dinK neg k d s = (match getM s.m d k with | some o => some (.ok (.p (.bl (if neg then !o.isSome else o.isSome))) s.m) | _ => none) := rfl
@[simp] theorem e_put (mv md mk : EM) (s : S) : sPut mv md mk s = (liftS mv fun v => liftS md fun d => liftS mk (purS fun k => sPutK v d k)) s := rfl
@[simp] theorem e_purS (k : D → SM) (d : D) (s : S) : purS k (.p d) s = k d s := rfl
@[simp] theorem e_putK (v : DV) (n : Nat) (k : D) (s : S) : sPutK v (.o n) k s = (match putM s.m n k v with | some M => some (.nx, ⟨s.l, M⟩) | none => none) := rfl
@[simp] theorem e_dnew (o : O) (s : S) : mDnew o s = some (.ok (.o s.m.length) (s.m ++ [o])) := rfl
@[simp] theorem e_get1 (d : DV) (k : D) (s : S) : gGet d [.p k] s = (match getM s.m d k with | some (some v) => some (.ok v s.m) | some none => some (.ok (.p .non) s.m) | none => none) := rfl
@[simp] theorem e_get2 (d : DV) (k : D) (z : DV) (s : S) : gGet d [.p k, z] s = (match getM s.m d k with | some (some v) => some (.ok v s.m) | some none => some (.ok z s.m) | none => none) := rfl
@[simp] theorem e_popAt (n : Nat) (s : S) : gPopAt (.o n) [.p (.int 0)] s = (match s.m[n]? with | some (.lst (x :: xs)) => some (.ok x (s.m.set n (.lst xs))) | _ => none) := rfl
@[simp] theorem e_rngD (j : Int) : dRng1 (.int j) = some (.rng 0 j) := rfl
@[simp] theorem e_inR0 (i lo hi : Int) : dInR false (.int i) (.rng lo hi) = some (.bl (decide (lo ≤ i ∧ i < hi))) := rfl
@[simp] theorem e_inR1 (i lo hi : Int) : dInR true (.int i) (.rng lo hi) = some (.bl (!decide (lo ≤ i ∧ i < hi))) := rfl
@[simp] theorem e_sfrz (i : Nat) (s : S) : sFrz i s = (match gv s.l i with
  | some (.o n) => match s.m[n]? with
    | some o => match frzO o with
      | some d => some (.nx, ⟨s.l.set i (some (.p d)), s.m.set n .gone⟩)
      | none => none
    | none => none
  | _ => none) := rfl
@[simp] theorem e_frzL (xs : List DV) : frzO (.lst xs) = (allP xs).map .lst := rfl
@[simp] theorem e_lindex (ys : List D) (x : D) : dLindex (.lst ys) [x] = if flatD x = true ∧ ys.all flatD = true then (findJ x ys 0).map fun (j : Nat) => .int (j : Int) else none := rfl
@[simp] theorem e_flatI (i : Int) : flatD (.int i) = true := rfl
@[simp] theorem e_flatS (i : Str) : flatD (.str i) = true := rfl
@[simp] theorem e_tyOkP (M : List O) (xs : List D) : tyOk "list" M (.p (.lst xs)) = true := rfl
/-! equality -/
theorem scal_deq {d e : D} {b : Bool} (h : scalD d e = some b) : b = deq d e := by
  unfold scalD at h
  split at h <;> first | (cases h; rfl) | cases h
theorem eqD_deq {d e : D} {b : Bool} (h : eqD d e = some b) : b = deq d e := by
  unfold eqD at h
  split at h
  · rename_i h1; cases h; exact scal_deq h1
  · split at h
    · cases h; rfl
    · cases h
theorem eqD_shp {d e : D} (h1 : shp d = true) (h2 : shp e = true) : eqD d e = some (deq d e) := by
  unfold eqD
  split
  · rename_i h; rw [scal_deq h]
  · rw [h1, h2]; rfl
theorem inD_shp {d : D} {ds : List D} (h1 : shp d = true) (h2 : shp (.lst ds) = true) : inD d (.lst ds) = some (ds.any fun z => deq z d) := by
  have e : inD d (.lst ds) = if (shp d && shp (.lst ds)) = true then some (ds.any fun z => deq z d) else none := by cases d <;> rfl
  rw [e, h1, h2]; rfl
/-- values of a type, as data -/
class En (α : Type) [DecidableEq α] where
  en : α → D
  dq : ∀ a b, deq (en a) (en b) = decide (a = b)
  ok : ∀ a, okD (en a) = true
  dp : Nat
  dpl : ∀ a, depD (en a) ≤ dp
section
variable {α β : Type} [DecidableEq α] [DecidableEq β] [En α] [En β]
instance : En Int := ⟨.int, fun a b => by simp, fun _ => rfl, 0, fun _ => Nat.le_refl _⟩
instance : En Bool := ⟨.bl, fun a b => by simp, fun _ => rfl, 0, fun _ => Nat.le_refl _⟩
theorem deqs_en : ∀ l m : List α, deqs (l.map En.en) (m.map En.en) = decide (l = m)
  | [], [] => rfl
  | [], y :: ys => by simp
  | x :: xs, [] => by simp
  | x :: xs, y :: ys => by
    rw [List.map_cons, List.map_cons, e_deqs1, En.dq, deqs_en xs ys]
    by_cases h1 : x = y <;> by_cases h2 : xs = ys <;> simp [h1, h2]
theorem okDs_en : ∀ l : List α, okDs (l.map En.en) = true
  | [] => rfl
  | x :: xs => by rw [List.map_cons, e_ok1, En.ok, okDs_en xs]; rfl
theorem depDs_en : ∀ l : List α, depDs (l.map En.en) ≤ En.dp α
  | [] => Nat.zero_le _
  | x :: xs => by rw [List.map_cons, e_dp1]; exact Nat.max_le.mpr ⟨En.dpl x, depDs_en xs⟩
instance : En (α × β) := ⟨fun p => .tup [En.en p.1, En.en p.2], fun a b => by
    obtain ⟨a1, a2⟩ := a; obtain ⟨b1, b2⟩ := b
    by_cases h1 : a1 = b1 <;> by_cases h2 : a2 = b2 <;> simp [En.dq, h1, h2], fun a => by simp [En.ok], max (En.dp α) (En.dp β) + 1, fun a => by
    have h1 := En.dpl a.1; have h2 := En.dpl a.2
    simp; omega⟩
instance : En (List α) := ⟨fun l => .lst (l.map En.en), deqs_en, okDs_en, En.dp α + 1, fun l => Nat.succ_le_succ (depDs_en l)⟩
theorem shp_en (a : α) (h : En.dp α ≤ 64) : shp (En.en a) = true := by
  have := En.dpl a
  rw [e_shp, En.ok]; simp; omega
theorem eqD_en (a b : α) (h : En.dp α ≤ 64) : eqD (En.en a) (En.en b) = some (decide (a = b)) := by
  rw [eqD_shp (shp_en a h) (shp_en b h), En.dq]
theorem any_en (a : α) : ∀ l : List α, ((l.map En.en).any fun z => deq z (En.en a)) = decide (a ∈ l)
  | [] => rfl
  | x :: xs => by
    rw [List.map_cons, List.any_cons, En.dq, any_en a xs]
    by_cases h1 : x = a <;> by_cases h2 : a ∈ xs <;> simp [h1, h2, eq_comm]
    all_goals (intro h; exact absurd h.symm h1)
theorem inD_en (a : α) (l : List α) (h : En.dp α + 1 ≤ 64) : inD (En.en a) (.lst (l.map En.en)) = some (decide (a ∈ l)) := by
  rw [inD_shp (shp_en a (by omega)) (shp_en (α := List α) l h), any_en]
end
end DL
namespace DL
open PySem L2
/-! data whose text is short -/
theorem int_rb (i : Int) (h : i.natAbs ≤ 1000000000000000000) : rb (.int i) ≤ 100 := by
  have hl : i.natAbs.log2 < 64 := by
    by_cases h0 : i.natAbs = 0
    · rw [h0]; decide
    · exact (Nat.log2_lt h0).mpr (by omega)
  show (intS i).length ≤ 100
  have := int_text_length_le (k := 64) (by decide) hl
  unfold intS
  rw [ofString_length]
  omega
/-- data of depth n at most, whose text has w signs at most -/
structure Sm (n w : Nat) (d : D) : Prop where
  ok : okD d = true
  dp : depD d ≤ n
  sh : showD d = true
  rb : rb d ≤ w
theorem Sm.int {n w : Nat} {i : Int} (h : i.natAbs ≤ 1000000000000000000) (hw : 100 ≤ w) : Sm n w (.int i) := ⟨rfl, Nat.zero_le _, logOk_of h, Nat.le_trans (int_rb i h) hw⟩
theorem Sm.bl {n w : Nat} {i : Bool} (hw : 5 ≤ w) : Sm n w (.bl i) := ⟨rfl, Nat.zero_le _, rfl, hw⟩
theorem Sm.non {n w : Nat} (hw : 5 ≤ w) : Sm n w .non := ⟨rfl, Nat.zero_le _, rfl, hw⟩
theorem Sm.mono {n w n' w' : Nat} {d : D} (h : Sm n w d) (hn : n ≤ n') (hw : w ≤ w') : Sm n' w' d := ⟨h.ok, Nat.le_trans h.dp hn, h.sh, Nat.le_trans h.rb hw⟩
theorem sm_all {n w : Nat} : ∀ {ds : List D}, (∀ d ∈ ds, Sm n w d) → okDs ds = true ∧ depDs ds ≤ n ∧ showDs ds = true ∧ rbs ds ≤ (w + 2) * ds.length
  | [], _ => ⟨rfl, Nat.zero_le _, rfl, Nat.zero_le _⟩
  | d :: ds, h => by
    have h1 := h d (by simp)
    obtain ⟨a, b, c, e⟩ := sm_all (n := n) (w := w) (ds := ds) fun x hx => h x (List.mem_cons_of_mem _ hx)
    refine ⟨by rw [e_ok1, h1.ok, a]; rfl, by rw [e_dp1]; exact Nat.max_le.mpr ⟨h1.dp, b⟩, ?_, ?_⟩
    · show (showD d && showDs ds) = true
      rw [h1.sh, c]; rfl
    · show DL.rb d + 2 + rbs ds ≤ (w + 2) * (ds.length + 1)
      have := h1.rb
      rw [Nat.mul_succ]
      omega
theorem Sm.lst {n w v : Nat} {ds : List D} (h : ∀ d ∈ ds, Sm n w d) (hv : (w + 2) * ds.length + 3 ≤ v) : Sm (n + 1) v (.lst ds) := by
  obtain ⟨a, b, c, e⟩ := sm_all h
  exact ⟨a, Nat.succ_le_succ b, c, by show rbs ds + 3 ≤ v; omega⟩
theorem Sm.tup {n w v : Nat} {ds : List D} (h : ∀ d ∈ ds, Sm n w d) (hv : (w + 2) * ds.length + 3 ≤ v) : Sm (n + 1) v (.tup ds) := by
  obtain ⟨a, b, c, e⟩ := sm_all h
  exact ⟨a, Nat.succ_le_succ b, c, by show rbs ds + 3 ≤ v; omega⟩
theorem Sm.repr {n w : Nat} {d : D} (h : Sm n w d) (hn : n ≤ 64) (hw : w ≤ 1000000) : dRepr d = some (.str (reprD d)) := by
  unfold dRepr
  have hs : shp d = true := by
    rw [e_shp, h.ok]
    have := h.dp
    simp; omega
  have := h.rb
  rw [hs, h.sh, if_pos (by decide), if_pos (by omega)]
theorem Sm.str {n w : Nat} {s : Str} (h : PyData.strOk s = true) (hw : 10 * s.length + 2 ≤ w) : Sm n w (.str s) := by
  refine ⟨h, Nat.zero_le _, rfl, Nat.le_trans ?_ hw⟩
  refine StrLaws.reprText_len s fun c hc => ?_
  unfold PyData.strOk at h
  rw [← Array.all_toList, List.all_eq_true] at h
  have := of_decide_eq_true (h c hc)
  have e : (1114112 : Nat) ≤ 16 ^ 8 := by decide
  omega
theorem ks_len (k : String) : (Str.ofString k).length = k.toList.length := by rw [tx_ofString, tx_len, List.length_map]
mutual
theorem deq_refl : ∀ d : D, okD d = true → deq d d = true
  | .non, _ => rfl
  | .bl b, _ => by simp
  | .int i, _ => by simp
  | .str s, _ => by simp
  | .lst xs, h => deqs_refl xs h
  | .tup xs, h => deqs_refl xs h
  | .klst xs, h => deqs_refl xs h
  | .ktup xs, h => deqs_refl xs h
  | .dK _, h => by cases h
  | .dT _, h => by cases h
  | .fn _, h => by cases h
  | .clo _ _, h => by cases h
  | .scr _, h => by cases h
  | .ty _, h => by cases h
  | .rng _ _, h => by cases h
theorem deqs_refl : ∀ d : List D, okDs d = true → deqs d d = true
  | [], _ => rfl
  | x :: xs, h => by
    have h : (okD x && okDs xs) = true := h
    rw [Bool.and_eq_true] at h
    show (deq x x && deqs xs xs) = true
    rw [deq_refl x h.1, deqs_refl xs h.2]; rfl
end
theorem eqD_refl {d : D} (h : okD d = true) (h2 : depD d ≤ 64) : eqD d d = some true := by
  have hs : shp d = true := by rw [e_shp, h, decide_eq_true h2]; rfl
  rw [eqD_shp hs hs, deq_refl d h]
end DL
namespace DL
open PySem L2
section
variable {α κ : Type} [DecidableEq κ]
theorem valO_cons (p : κ × α) (r : List (κ × α)) (k : κ) : valO (p :: r) k = if p.1 = k then some p.2 else valO r k := by
  by_cases h : p.1 = k <;> simp [valO, h]
theorem valO_map (k j : κ) (v : α) : ∀ kvs : List (κ × α), valO (kvs.map fun kv => if kv.1 = k then (kv.1, v) else kv) j = (valO kvs j).map fun x => if j = k then v else x
  | [] => rfl
  | p :: r => by
    rw [List.map_cons, valO_cons, valO_cons, valO_map k j v r]
    by_cases h : p.1 = k
    · rw [if_pos h]
      by_cases e : p.1 = j
      · rw [if_pos e, if_pos e, Option.map_some, if_pos (e.symm.trans h)]
      · rw [if_neg e, if_neg e]
    · rw [if_neg h]
      by_cases e : p.1 = j
      · rw [if_pos e, if_pos e, Option.map_some, if_neg fun z => h (e.trans z)]
      · rw [if_neg e, if_neg e]
theorem valO_any (k : κ) : ∀ kvs : List (κ × α), (kvs.any fun kv => decide (kv.1 = k)) = (valO kvs k).isSome
  | [] => rfl
  | p :: r => by
    rw [List.any_cons, valO_cons, valO_any k r]
    by_cases h : p.1 = k <;> simp [h]
theorem valO_snoc (k j : κ) (v : α) : ∀ kvs : List (κ × α), valO kvs k = none → valO (kvs ++ [(k, v)]) j = if j = k then some v else valO kvs j
  | [], _ => by
    rw [List.nil_append, valO_cons]
    by_cases e : k = j
    · rw [if_pos e, if_pos e.symm]
    · rw [if_neg e, if_neg fun z => e z.symm]
  | p :: r, h => by
    rw [valO_cons] at h
    by_cases e : p.1 = k
    · rw [if_pos e] at h; cases h
    · rw [if_neg e] at h
      rw [List.cons_append, valO_cons, valO_cons, valO_snoc k j v r h]
      by_cases e2 : p.1 = j
      · rw [if_pos e2, if_pos e2, if_neg fun z => e (e2.trans z)]
      · rw [if_neg e2, if_neg e2]
theorem valO_put (kvs : List (κ × α)) (k j : κ) (v : α) : valO (putO kvs k v) j = if j = k then some v else valO kvs j := by
  unfold putO
  rw [valO_any]
  split
  · rename_i h
    rw [valO_map]
    by_cases e : j = k
    · subst e
      rw [if_pos rfl]
      obtain ⟨x, hx⟩ := Option.isSome_iff_exists.mp h
      rw [hx]; simp
    · rw [if_neg e]
      cases valO kvs j with
      | none => rfl
      | some x => simp [e]
  · rename_i h
    exact valO_snoc k j v kvs (by simpa using h)
theorem putO_len (kvs : List (κ × α)) (k : κ) (v : α) : (putO kvs k v).length ≤ kvs.length + 1 := by
  unfold putO; split <;> simp
end
theorem gv_set (l : List (Option DV)) (i j : Nat) (x : Option DV) : gv (l.set i x) j = if i = j then (if i < l.length then x else none) else gv l j := by
  unfold gv
  by_cases h : i = j
  · subst h
    rw [if_pos rfl]
    by_cases hl : i < l.length
    · rw [List.getElem?_set_self hl, if_pos hl]; cases x <;> rfl
    · rw [List.getElem?_eq_none (by simpa using hl), if_neg hl]
  · rw [List.getElem?_set_ne h, if_neg h]
end DL
namespace DL
open PySem L2
@[simp] theorem at2 {α : Type} (x y z : α) (xs : List α) : atI (x :: y :: z :: xs) 2 = some z := atI_nat' (by decide) rfl
@[simp] theorem at3 {α : Type} (x y z u : α) (xs : List α) : atI (x :: y :: z :: u :: xs) 3 = some u := atI_nat' (by decide) rfl
@[simp] theorem at4 {α : Type} (x y z u v : α) (xs : List α) : atI (x :: y :: z :: u :: v :: xs) 4 = some v := atI_nat' (by decide) rfl
@[simp] theorem at5 {α : Type} (x y z u v t : α) (xs : List α) : atI (x :: y :: z :: u :: v :: t :: xs) 5 = some t := atI_nat' (by decide) rfl
end DL
namespace DL
open PySem L2
theorem getM_T {M : List O} {n : Nat} {kvs : List (List Key × DV)} (h : M[n]? = some (.dT kvs)) (k : D) : getM M (.o n) k = (keyT k).map (valO kvs) := by
  unfold getM dcM; simp only [h]; rfl
theorem getM_K {M : List O} {n : Nat} {kvs : List (Key × DV)} (h : M[n]? = some (.dK kvs)) (k : D) : getM M (.o n) k = (keyD k).map (valO kvs) := by
  unfold getM dcM; simp only [h]; rfl
theorem putM_T {M : List O} {n : Nat} {kvs : List (List Key × DV)} (h : M[n]? = some (.dT kvs)) {k : D} {kk : List Key} (hk : keyT k = some kk) (hl : kvs.length < 1000000) (v : DV) : putM M n k v = some (M.set n (.dT (putO kvs kk v))) := by
  unfold putM; simp only [h, hk, if_pos hl]
theorem putM_K {M : List O} {n : Nat} {kvs : List (Key × DV)} (h : M[n]? = some (.dK kvs)) {k : D} {kk : Key} (hk : keyD k = some kk) (hl : kvs.length < 1000000) (v : DV) : putM M n k v = some (M.set n (.dK (putO kvs kk v))) := by
  unfold putM; simp only [h, hk, if_pos hl]
@[simp] theorem tyOk_dT {M : List O} {n : Nat} {kvs : List (List Key × DV)} (h : M[n]? = some (.dT kvs)) : tyOk "dict" M (.o n) = true := by
  unfold tyOk; simp only [h]; rfl
end DL
namespace DL
open PySem L2
/-- a loop, its turns counted -/
theorem w_loopN {g : GM} {b : SM} {Inv : Nat → S → Prop} {R : DV → S → Prop} : ∀ (ds : List DV) (n : Nat) (s : S), Inv n s →
    (∀ d ∈ ds, ∀ m, n ≤ m → m < n + ds.length → ∀ s, Inv m s → ∃ s1, g d s = some s1 ∧ wpS (b s1) (fun f s2 => (f = .nx ∧ Inv (m + 1) s2) ∨ (∃ v, f = .rt v ∧ R v s2))) →
    wpS (loopS g b ds s) (fun f s2 => (f = .nx ∧ Inv (n + ds.length) s2) ∨ (∃ v, f = .rt v ∧ R v s2))
  | [], n, s, h, _ => by simp; exact h
  | d :: ds, n, s, h, k => by
    obtain ⟨s1, h1, f, s2, e, nn, p⟩ := k d (by simp) n (Nat.le_refl _) (by simp) s h
    rw [loopS_cons, h1]
    dsimp only
    rw [e]
    rcases p with ⟨rfl, p⟩ | ⟨v, rfl, p⟩
    · have := w_loopN (R := R) ds (n + 1) s2 p fun x hx m h1 h2 => k x (List.mem_cons_of_mem _ hx) m (by omega) (by simp; omega)
      rw [show n + 1 + ds.length = n + (d :: ds).length by simp; omega] at this
      exact this
    · exact ⟨_, _, rfl, rfl, .inr ⟨v, rfl, p⟩⟩
/-- a comprehension whose test draws, too -/
theorem compL_drawT {l : List (Option DV)} {g : GM} {t e : EM} {Inv : List O → Prop} {R : D → Prop} : ∀ (ds : List DV) (acc : List D) (M : List O), Inv M → (∀ y ∈ acc, R y) → acc.length + ds.length ≤ 1000000 →
    (∀ d ∈ ds, ∀ M, Inv M → ∃ s1, g d ⟨l, M⟩ = some s1 ∧ wpB (t s1) (fun v M2 => ∃ b, v = .p (.bl b) ∧ Inv M2 ∧ (b = true → wpB (e ⟨s1.l, M2⟩) (fun v M3 => ∃ y, v = .p y ∧ R y ∧ Inv M3)))) →
    ∃ ys M', compL l g t e ds acc M = some (ys, M') ∧ Inv M' ∧ (∀ y ∈ ys, R y) ∧ ys.length ≤ acc.length + ds.length
  | [], acc, M, h, ha, _, _ => ⟨acc, M, rfl, h, ha, Nat.le_refl _⟩
  | d :: ds, acc, M, h, ha, hl, k => by
    obtain ⟨s1, h1, v, M2, e1, b, rfl, h2, h3⟩ := k d (by simp) M h
    have hl' : acc.length + (ds.length + 1) ≤ 1000000 := hl
    unfold compL
    rw [h1]
    dsimp only
    rw [e1]
    cases b with
    | false =>
      dsimp only
      obtain ⟨ys, M', e2, i2, r2, l2⟩ := compL_drawT (t := t) (e := e) ds acc M2 h2 ha (by omega) fun x hx => k x (List.mem_cons_of_mem _ hx)
      exact ⟨ys, M', e2, i2, r2, by simp; omega⟩
    | true =>
      dsimp only
      obtain ⟨w, M3, e3, y, rfl, hy, h4⟩ := h3 rfl
      rw [e3]
      dsimp only
      rw [if_pos (by omega)]
      obtain ⟨ys, M', e2, i2, r2, l2⟩ := compL_drawT (t := t) (e := e) ds (acc ++ [y]) M3 h4 (fun z hz => by
        rw [List.mem_append] at hz
        rcases hz with hz | hz
        · exact ha z hz
        · simp at hz; rw [hz]; exact hy) (by simp; omega) fun x hx => k x (List.mem_cons_of_mem _ hx)
      exact ⟨ys, M', e2, i2, r2, by simp at l2 ⊢; omega⟩
theorem list_of {α : Type} {f : α → D} {p : α → Prop} : ∀ {ys : List D}, (∀ y ∈ ys, ∃ a, y = f a ∧ p a) → ∃ l : List α, ys = l.map f ∧ ∀ a ∈ l, p a
  | [], _ => ⟨[], rfl, by simp⟩
  | y :: ys, h => by
    obtain ⟨a, rfl, ha⟩ := h y (by simp)
    obtain ⟨l, rfl, hl⟩ := list_of fun z hz => h z (List.mem_cons_of_mem _ hz)
    exact ⟨a :: l, rfl, fun b hb => by
      rcases List.mem_cons.mp hb with rfl | hb
      · exact ha
      · exact hl b hb⟩
theorem mem_intsFrom {d : DV} {lo : Int} {n : Nat} (h : d ∈ DL.intsFrom lo n) : ∃ i : Nat, i < n ∧ d = .p (.int (lo + i)) := by
  unfold DL.intsFrom at h
  obtain ⟨i, hi, rfl⟩ := List.mem_map.mp h
  exact ⟨i, List.mem_range.mp hi, rfl⟩
@[simp] theorem intsFrom_len (lo : Int) (n : Nat) : (DL.intsFrom lo n).length = n := by unfold DL.intsFrom; simp
end DL
namespace DL
open PySem L2
theorem list_of' {α : Type} {f : α → D} {ys : List D} (h : ∀ y ∈ ys, ∃ a, y = f a) : ∃ l : List α, ys = l.map f := by
  obtain ⟨l, e, _⟩ := list_of (f := f) (p := fun _ => True) (ys := ys) fun y hy => by
    obtain ⟨a, e⟩ := h y hy; exact ⟨a, e, trivial⟩
  exact ⟨l, e⟩
theorem wpB_some {α : Type} {o : Option (Rs α)} {v : α} {M : List O} {P : α → List O → Prop} (e : o = some (.ok v M)) (h : P v M) : wpB o P := ⟨v, M, e, h⟩
theorem wpS_some {o : Option (Fl × S)} {f : Fl} {s : S} {P : Fl → S → Prop} (e : o = some (f, s)) (hf : noX f = true) (h : P f s) : wpS o P := ⟨f, s, e, hf, h⟩
end DL
namespace DL
open PySem PySem.Spec PyProof.Rows L2 LamX NdefX
/-! ### lambdas: the object, its promise -/
theorem lamO_at {P : Program} {w : World} {H : Hp} {h : Heap} {f : Addr} {F : NF} {body : Expr} (hok : HOk P w H h) (e : H f = some (LamO f F body)) : ∃ (od : Option Addr) (sl : Array (Option Value)) (pm ctv : Value), h.get? f = some (⟨.type "function", od, .func (PySem.W.kla_fn F.name F.qual F.params body F.scope F.cl pm (.ref F.c) ctv), sl⟩ : Obj) :=
  (hok f _ e).1
section
variable {X : Cx} {pins : List (Addr × Obj)} {σ : L2.St} {H : Hp} {s : Shared}
theorem inv_lam {F : NF} {body : Expr} {o : Obj} {t' : Nat} {pm ctv : Value} (I : Inv X pins σ H s) (ho : o = PySem.W.kla_obj F.name F.qual F.params body F.scope F.cl pm F.c ctv) :
    Inv X pins σ (upd H s.heap.objs.size (LamO s.heap.objs.size F body)) { s with heap := s.heap.push o, toks := t' } := by
  subst ho
  refine I.laid (a := s.heap.objs.size) (fun b u e => Heap.get?_push_of_some _ e) (Nat.le_refl _) ?_
  have e : (s.heap.push (PySem.W.kla_obj F.name F.qual F.params body F.scope F.cl pm F.c ctv)).get? s.heap.objs.size = some (PySem.W.kla_obj F.name F.qual F.params body F.scope F.cl pm F.c ctv) := Heap.get?_push_size _ rfl
  exact ⟨⟨_, _, pm, ctv, e⟩, ⟨_, e⟩, fun h1 h2 ⟨od, sl, p, t, z⟩ st => ⟨od, sl, p, t, st _ z⟩⟩
/-- the lambda is made: its code object is new, or found in the table -/
theorem lam_make3 {nm : Str} {c P : Addr} {params : Arguments} {body : Expr} {scope : Scope} {pos : Pos} {E : Value → Shared → Prop} {Q : Value → Shared → Prop} {ps : Array Value} (I : Inv X pins σ H s) (TB : TabB X.base X.mg c P) (hcode : X.env.code = .ref c)
    (hn : nm = X.env.qual ++ "<lambda>") (hP : H P = some (.tbl ps)) (ht : TriplesOk ps.toList) (ha : ∀ (pos : Pos) (cv : Value), codeAmong pos ps.toList = some cv → ∃ c, cv = .ref c ∧ H c = some (CodeO c nm)) (hdef : defaultsOf params X.env = ([], [])) (hfree : ∀ y ∈ scope.names, y.2 = .free → ∃ c, X.env.cells.lookup y.1 = some c)
    (h : ∀ (f c' : Addr) (H1 : Hp) (s' : Shared) (ps' : Array Value), Inv X pins σ H1 s' → (∀ b o, b ≠ P → H b = some o → H1 b = some o) → (∀ b, H1 b = Option.none → H b = Option.none) → H1 P = some (.tbl ps') → TriplesOk ps'.toList →
      (∀ (pos : Pos) (cv : Value), codeAmong pos ps'.toList = some cv → codeAmong pos ps.toList = some cv ∨ cv = .ref c') → H f = none → f ≠ c' → (H c' = none ∨ ∃ pos, codeAmong pos ps.toList = some (.ref c')) → H1 f = some (LamO f ⟨"<lambda>", nm, params, [], scope, cloFrom X.env.cells scope.names [], c'⟩ body) → H1 c' = some (CodeO c' nm) → Q (.ref f) s') :
    wpAny (model X.prog X.w) X.A (eval (.Lambda params body scope pos) X.env) Q E s := by
  subst hn
  refine PySem.W.kla_eval hdef ?_
  have bP : s.heap.BuiltinsAt X.mg P := TB.bm.keeps I.bk
  have hP' : s.heap.get? P = some { cls := .none, data := .fields ps } := I.hok P _ hP
  cases hc : codeAmong pos ps.toList with
  | none =>
    refine PySem.W.kla_makeFunction (mg := X.mg) (c := c) (P := P) (ps := ps) (closure_ok hfree) I.ok.glob (I.mod.glob.keeps I.bk) hcode (TB.code.keeps I.bk) hP' ht hc TB.gP bP fun c' ctv h' tk hx hge hlt hrec htb => ?_
    obtain ⟨c2, oc, vs, t, e2, hoc, hd, hv⟩ := hrec
    cases e2
    have nC : H c' = none := I.hok.fresh hge
    have I1 := inv_table (t' := tk) (more := #[rawInt pos.line, rawInt pos.col, .ref c']) (h' := h') I hP (fun b o hb e => hx b o hb e) htb hge ⟨oc, vs, t, hoc, hd, hv⟩
    have nF := I1.hok.fresh (Nat.le_refl _)
    have I2 := inv_lam (F := ⟨"<lambda>", X.env.qual ++ "<lambda>", params, [], scope, cloFrom X.env.cells scope.names [], c'⟩) (body := body) (t' := tk) (pm := (X.mg "__name__").getD .none) (ctv := ctv) I1 rfl
    have eL : (ps ++ #[rawInt pos.line, rawInt pos.col, .ref c']).toList = ps.toList ++ [rawInt pos.line, rawInt pos.col, .ref c'] := by simp
    have nPf : P ≠ h'.objs.size := Nat.ne_of_lt (Heap.lt_size htb)
    refine h h'.objs.size c' _ _ (ps ++ #[rawInt pos.line, rawInt pos.col, .ref c']) I2 (fun b o hb e => ?_) (fun b e => upd_none (upd_none (upd_none e))) ?_ (by rw [eL]; exact PySem.TriplesOk_snoc _ _ _ _ ht) (fun p' cv hcv => ?_) (I.hok.fresh (Nat.le_trans hge (Nat.le_of_lt hlt))) (Nat.ne_of_gt hlt) (.inl nC) upd_same ?_
    · have nb : b ≠ h'.objs.size := fun z => by
        have := I.hok.fresh (Nat.le_trans hge (Nat.le_of_lt hlt))
        rw [← z] at this; rw [this] at e; cases e
      rw [upd_ne nb, upd_ne (ne_of_none e nC), upd_ne hb]; exact e
    · rw [upd_ne nPf, upd_ne (ne_of_none hP nC), upd_same]
    · rw [eL] at hcv
      exact among_app _ ht hcv
    · exact (upd_ne (Nat.ne_of_lt hlt)).trans upd_same
  | some cv =>
    obtain ⟨c', e, hco⟩ := ha pos cv hc
    subst e
    refine PySem.W.kla_makeFunctionHit (mg := X.mg) (c := c) (P := P) (ps := ps) (closure_ok hfree) I.ok.glob (I.mod.glob.keeps I.bk) hcode (TB.code.keeps I.bk) hP' ht hc bP fun ctv h' tk hx hsz => ?_
    have I1 : Inv X pins σ H { s with heap := h', toks := tk } := I.kept hx
    have nF : H h'.objs.size = none := I1.hok.fresh (Nat.le_refl _)
    have I2 := inv_lam (F := ⟨"<lambda>", X.env.qual ++ "<lambda>", params, [], scope, cloFrom X.env.cells scope.names [], c'⟩) (body := body) (t' := tk) (pm := (X.mg "__name__").getD .none) (ctv := ctv) I1 rfl
    refine h h'.objs.size c' _ _ ps I2 (fun b o hb e => ?_) (fun b e => upd_none e) ?_ ht (fun p' cv hcv => ?_) nF (fun z => by rw [z] at nF; rw [nF] at hco; cases hco) (.inr ⟨pos, hc⟩) upd_same ?_
    · exact (upd_ne (ne_of_none e nF)).trans e
    · exact (upd_ne (ne_of_none hP nF)).trans hP
    · exact .inl hcv
    · exact (upd_ne (ne_of_none hco nF)).trans hco
end
/-- the promise of the lambda F at f: sp ws, ws what its captured cells hold at the call -/
structure LOk (P : Program) (w : World) (K : PySem.W.Frag) (mg : Str → Option Value) (base : Heap) (CX : CXT) (k : Nat) (f : Addr) (F : NF) (body : Expr) (ps fr : List Str) (sp : List (Option V) → Sp) : Prop where
  len : ∀ ws vs H Q E, sp ws vs H Q E → vs.length = ps.length
  run : ∀ (A : Around) (outer : List Env) (s : Shared) (H : Hp) (us : List Value) (vs : List V) (ws : List (Option V)) (Q : VK) (E : XK), Room k A → Env0 P w K mg base A outer s H → H f = some (LamO f F body) → H F.c = some (CodeO F.c F.qual) →
    CellsAt F.cl fr ws s.heap H → Vals vs us → sp ws vs H Q E → codeAny (model P w) A (.call (.ref f) ⟨us, []⟩) (CR CX outer P w H s Q E) s
section
variable {CX : CXT} {P : Program} {w : World} {K : PySem.W.Frag} {mg : Str → Option Value} {base : Heap} {N ps fr : List Str} {F : NF} {f : Addr} {k j : Nat} {body : Expr} {sp : List (Option V) → Sp}
theorem lok_of (S : NScope N ps fr F.scope) (hb : ∀ (pm ctv : Value) (us : List Value), us.length = ps.length → bindArgs (PySem.W.kla_fn F.name F.qual F.params body F.scope F.cl pm (.ref F.c) ctv) ⟨us, []⟩ = pure (ps.zip us)) (len : ∀ ws vs H Q E, sp ws vs H Q E → vs.length = ps.length)
    (hbody : ∀ (A : Around) (outer : List Env) (s : Shared) (H : Hp) (vs : List V) (ws : List (Option V)) (Q : VK) (E : XK), Room k (A.deeper (envF F f s.heap.objs.size)) → ws.length = fr.length → sp ws vs H Q E →
      ∃ t, PE (ncx CX P w K mg base N F f A outer s H E) body t ∧ t (startF N vs ws) H Q) :
    LOk P w K mg base CX (k + 1) f F body ps fr sp := by
  refine ⟨len, fun A outer s H us vs ws Q E hr e0 hf hc C r hsp => ?_⟩
  have hl := len _ _ _ _ _ hsp
  have lim : s.heap.NoLimit := e0.mod.nolimit.keeps fun b o e => (e0.bs b o e).1
  obtain ⟨od, sl, pm, ctv, ho⟩ := lamO_at e0.hok hf
  refine PySem.W.kla_callFunE hr.depth ho rfl S.co S.gen rfl (codeO_at e0.hok hc) ?_
  rw [hb pm ctv us (by rw [← r.length]; exact hl)]
  refine wpAny_pure (wpAny_newFunctionEnv S.nocell (fun ⟨n, _⟩ hy => S.par n (List.of_mem_zip hy).1) (fun h₁ hns hsb => ⟨lim.fresh _ hsb, ?_⟩) S.kind)
  show codeAny _ _ (.expr body (envF F f s.heap.objs.size)) _ _
  have kp : ∀ b o, s.heap.get? b = some o → h₁.get? b = some o := fun b o e => hsb.extBut b o (Nat.ne_of_lt (Heap.lt_size e)) (Heap.get?_push_of_some _ e)
  obtain ⟨t, hte, hq⟩ := hbody A outer s H vs ws Q E (hr.deeper _) C.len hsp
  have I : Inv (ncx CX P w K mg base N F f A outer s H E) [] (startF N vs ws) H { s with heap := h₁, toks := s.toks + (ps.zip us).length } := inv_startN S hr.hd e0 hl r C hns kp
  refine PySem.W.kla_codeExpr (wpAny_mono (hte.run [] _ (startF N vs ws) H Q I hq) (fun v s' hs => ?_) fun e s' hs => hs)
  obtain ⟨w', H', J, rv, q⟩ := hs
  exact ⟨w', H', J.os, J.bare, J.base, J.hok, rv, q⟩
end
end DL
namespace DL
open PySem L2 PySem.W
open PyProof.Rows (seqObj get?_update_seq listUpdate_at listItems_at seqEpoch_at size_push' ksk_rest ksk_fold ksk_tree ksk_t1)
open PyProof.Rows (seqObj get?_update_seq listUpdate_at listItems_at seqEpoch_at size_push' ksk_rest ksk_fold ksk_tree ksk_t1 ksk_s1 ksk_l1)
section
variable {X : Cx} {pins : List (Addr × Obj)} {σ : St} {H Z : Hp} {s : Shared}
/-- all turns, and what is behind them -/
theorem turns_okL {f : MA} {fa : Addr} {A : Around} {E : Value → Shared → Prop} (ht : ∀ (Hj Zj : Hp) (s' : Shared) (v : V) (u0 : Value) (d c : D), Inv X pins σ Hj s' → ExtP Z H Zj Hj → RelV v u0 → Rep X.K Zj v d → f [d] = some (.ok c) → wpAny (model X.prog X.w) A (call (.ref fa) [u0]) (EP X pins σ fun v' H' => ∃ Z', ExtP Zj Hj Z' H' ∧ Rep X.K Z' v' c) (fun _ _ => False) s')
    {a kS : Addr} {e1 : Nat} {us : List Value} {xs : List V} {ds ks : List D} (hka : kS ≠ a) (nS : H kS = none) (nA : H a = none) (rv : Vals xs us) (hx : RepA X.K Z xs ds) (hk : keysM f ds = some ks) (hZ : us.length ≤ sizeLine) (hst : X.s_0.heap.objs.size ≤ kS) (hex : X.ex = [])
    (hsp : ∀ k ∈ ks, shp k = true) (ok : sortOk (toPs ks) = true) (hu : ∀ k ∈ ks, A.units + (toP k).depth < cLine) {Q : VK} (p : PostP X.K Z H (.lst (sortBy ds ks)) Q) {P : PySem.Fin → Shared → Prop} (hP : ∀ s', EP X pins σ Q (.ref a) s' → P (.done (.ret .none)) s')
    (T : Turn X pins σ Z H a kS e1 ks 0 s) : wpAny (model X.prog X.w) A (ksk_rest a (.ref fa) false us.toArray e1 (.ref kS)) P E s := by
  have hkl := keysM_len hk
  have hxl := hx.length
  have hul : us.length = xs.length := rv.length.symm
  unfold ksk_rest
  refine wpAny_bind (wpAny_rule ?_)
  rw [List.forIn_toArray]
  refine wpAny_bind (ksk_fold (fun i s' => Turn X pins σ Z H a kS e1 ks i s') us 0 s T (fun j x s' hxj t => ?_) fun s' t => ?_)
  · rw [Nat.zero_add] at t ⊢
    obtain ⟨Hj, Zj, kA, e, kvs, I, xt, hS, hA, zS, zA, rk, rr⟩ := t.ex
    have hj : j < us.length := (List.getElem?_eq_some_iff.mp hxj).1
    obtain ⟨v, hv⟩ : ∃ v, xs[j]? = some v := ⟨_, List.getElem?_eq_getElem (by omega)⟩
    obtain ⟨d, hd, rd⟩ := hx.get' hv
    obtain ⟨u, hu1, ru⟩ := rv.get hv
    rw [hxj] at hu1
    cases hu1
    obtain ⟨c, hc, hf⟩ := keysM_at hk hd
    have hz : kA.size ≤ sizeLine := by
      have h1 : kA.size = kvs.length := by rw [L2.Vals.length rk]; simp
      have h2 := rr.length
      rw [List.length_take] at h2
      omega
    refine wpAny_bind (wpAny_attempt (wpAny_mono (ht Hj Zj _ v _ d c I xt ru (rd.mono xt.z) hf) (fun w s2 hw => ?_) fun _ _ z => z.elim))
    obtain ⟨wv, Hn, I2, rw2, Zn, xn, rn⟩ := hw
    have hS2 := xn.h _ _ hS
    have hA2 := xn.h _ _ hA
    have zS2 : Zn kS = none := by
      cases q : Zn kS with
      | none => rfl
      | some o =>
        rcases xn.zn kS (by rw [q]; simp) with z | z
        · exact absurd zS z
        · rw [hS] at z; cases z
    have zA2 : Zn a = none := by
      cases q : Zn a with
      | none => rfl
      | some o =>
        rcases xn.zn a (by rw [q]; simp) with z | z
        · exact absurd zA z
        · rw [hA] at z; cases z
    have nk := atS_at I2.hok hS2
    have sb := Heap.SameBut.update s2.heap kS (Obj.mapSeq (·.push w))
    obtain ⟨c2, hc2⟩ : ∃ c2, (s2.heap.update kS (Obj.mapSeq (·.push w))).get? kS = some (seqObj "list" (kA.push w) c2) := ⟨_, get?_update_seq nk (·.push w)⟩
    try dsimp only
    refine wpAny_bind (listUpdate_at nk rfl ?_ hz (Nat.le_trans (Nat.le_of_eq (Array.size_push ..)) (Nat.succ_le_succ hz)))
    have I3 := I2.write (x := kS) (e := kS) (o := atS kS (kA.push w) c2) (t' := s2.toks) (by rw [hS2]; trivial) (.inl rfl) (fun b u' hne q => (sb.2 b hne).trans q) ⟨_, hc2⟩ (atS_ok hc2)
    refine wpAny_pure ⟨rfl, ⟨upd Hn kS (atS kS (kA.push w) c2), Zn, kA.push w, c2, kvs ++ [wv], I3, ?_, upd_same, by rw [upd_ne hka.symm]; exact hA2, zS2, zA2, ?_, ?_⟩⟩
    · have x2 := xt.trans xn
      exact ⟨x2.z, fun b u' q => by rw [upd_ne (ne_of_none q nS)]; exact x2.h b u' q, Same.outer x2.sub zS2, x2.zn⟩
    · have ea : (kA.push w).toList = kA.toList ++ [w] := by simp
      rw [ea]
      exact paired_app rk (.cons rw2 .nil)
    · have ek : ks.take (j + 1) = ks.take j ++ [c] := by rw [List.take_add_one, hc]; rfl
      rw [ek]
      exact (rr.mono xn.z).append (.cons rn .nil)
  · rw [Nat.zero_add] at t
    obtain ⟨Hj, Zj, kA, e, kvs, I, xt, hS, hA, zS, zA, rk, rr⟩ := t.ex
    rw [List.take_of_length_le (by omega)] at rr
    have nk := atS_at I.hok hS
    have na := atS_at I.hok hA
    obtain ⟨G, gk, gn, J⟩ := forget I hS hst hex
    try dsimp only
    refine wpAny_bind (listItems_at nk rfl ?_)
    have er := each_reads I xt.sub rk rr hsp
    have hal : AllAlike (ks.map toP) := by rw [← toPs_map]; exact sortOk_like ok
    have hso : Sortable (ks.map toP) := by rw [← toPs_map]; exact sortOk_sortable ok
    have hsz : kA.size = us.length := by
      have h1 : kA.size = kvs.length := by rw [L2.Vals.length rk]; simp
      have h2 := rr.length
      omega
    refine keyH_end (κ := dataKind s'.heap (ks.map toP)) (h₁ := G) (fun b o _ q => gk b o q) gn nk na hka (SortsAt.data er hal hso fun d hd => ?_) hsz hZ fun h' tk c kp n => ?_
    · obtain ⟨k0, hk0, rfl⟩ := List.mem_map.mp hd
      exact hu k0 hk0
    · have ko : KeyedOut false ((ds.zip ks).map fun p => toP p.2) us (PySem.W.sortVals (dataKind s'.heap (ks.map toP)) false kA.toList us) := by
        have e1 : (ds.zip ks).map (fun p => toP p.2) = ks.map toP := by
          rw [show (fun p : D × D => toP p.2) = toP ∘ Prod.snd from rfl, ← List.map_map, List.map_snd_zip (by omega)]
        rw [e1]
        exact ⟨s'.heap, kA.toList, hal, rfl, er⟩
      have eo := keyedOut_each (R := fun u (p : D × D) => ∃ v, RelV v u ∧ Rep X.K Zj v p.1) (fun p : D × D => toP p.2) ko (each_mk rv (hx.mono xt.z) hkl)
      obtain ⟨ov, o1, o2⟩ := each_vals (fun _ _ q => q) eo
      have hol : ov.length ≤ sizeLine := by
        have h1 := o2.length
        rw [List.length_map, List.length_mergeSort, List.length_zip] at h1
        omega
      have hAd : delH Hj kS a = some (atS a #[] e1) := by rw [delH_ne hka.symm]; exact hA
      have J2 := J.write (h' := h') (x := a) (e := a) (o := .lst ov) (t' := tk) (by rw [hAd]; trivial) (.inl rfl) (fun b u' hne q => kp b u' hne q) ⟨_, n⟩ ⟨hol, _, c, o1, n⟩
      refine hP _ ⟨.ref a, _, J2, rfl, p _ (upd Zj a (.lst ov)) _ ⟨?_, ?_, ?_, ?_⟩ (.lst (.inl upd_same) (o2.mono ?_))⟩
      · exact fun b u' q => by rw [upd_ne (ne_of_none (xt.z b u' q) zA)]; exact xt.z b u' q
      · exact fun b u' q => by rw [upd_ne (ne_of_none q nA), delH_ne (ne_of_none q nS)]; exact xt.h b u' q
      · intro b u' q
        by_cases z : b = a
        · rw [z, upd_same] at q ⊢; exact q
        · rw [upd_ne z] at q ⊢
          rw [delH_ne (ne_of_none q zS)]
          exact xt.sub b u' q
      · intro b q
        by_cases z : b = a
        · rw [z]; exact .inr nA
        · rw [upd_ne z] at q; exact xt.zn b q
      · exact fun b u' q => by rw [upd_ne (ne_of_none q zA)]; exact q
/-- sorted(xs, key=f), f a def -/
theorem sortL_run {f : MA} {fa : Addr} (ht : ∀ (Hj Zj : Hp) (s' : Shared) (v : V) (u0 : Value) (d c : D), Inv X pins σ Hj s' → ExtP Z H Zj Hj → RelV v u0 → Rep X.K Zj v d → f [d] = some (.ok c) → wpAny (model X.prog X.w) X.A.in1.in1 (call (.ref fa) [u0]) (EP X pins σ fun v' H' => ∃ Z', ExtP Zj Hj Z' H' ∧ Rep X.K Z' v' c) (fun _ _ => False) s') (hr : Room 2 X.A) (hex : X.ex = []) (I : Inv X pins σ H s)
    {l : Addr} {xs : List V} {ds ks : List D} (sz : Same Z H) (hl : SqL X.K H l xs) (hx : RepA X.K Z xs ds) (hk : keysM f ds = some ks) (hsp : ∀ k ∈ ks, shp k = true) (ok : sortOk (toPs ks) = true) {Q : VK} (p : PostP X.K Z H (.lst (sortBy ds ks)) Q) :
    wpAny (model X.prog X.w) X.A (call (.builtin "sorted") [.ref l] [(Str.ofString "key", .ref fa)]) (EP X pins σ Q) X.xe s := by
  obtain ⟨us, rv, hL, hz⟩ := I.list hl
  have hz2 : us.length ≤ sizeLine := by rw [← rv.length]; exact hz
  refine sorted_of_sort hL.isList hz2 (ksk_s1 _ _) (fun _ => ksk_l1 _ _) fun E' => ?_
  rw [ksk_t1]
  let a : Addr := s.heap.objs.size + 1
  let h0 := copyHeap s.heap us
  have oa : h0.get? a = some (seqObj "list" us.toArray 0) := copyHeap_at s.heap us
  have la : a < h0.objs.size := Heap.lt_size oa
  obtain ⟨e1, oa1⟩ : ∃ e1, (h0.update a (Obj.mapSeq fun _ => (#[] : Array Value))).get? a = some (seqObj "list" #[] e1) := ⟨_, get?_update_seq oa fun _ => #[]⟩
  let h1 := (h0.update a (Obj.mapSeq fun _ => (#[] : Array Value))).push (seqObj "tuple" us.toArray 0)
  have s1 : h1.objs.size = h0.objs.size + 1 := by show ((h0.update a _).push _).objs.size = _; rw [size_push', Heap.size_update]
  have keep1 : ∀ b u, s.heap.get? b = some u → h1.get? b = some u := fun b u q => by
    have q0 : h0.get? b = some u := copyHeap_old q
    have nb : b ≠ a := Nat.ne_of_lt (Nat.lt_succ_of_lt (Heap.lt_size q))
    exact Heap.get?_push_of_some _ (by rw [Heap.get?_update_ne _ _ _ _ nb]; exact q0)
  have oa2 : h1.get? a = some (seqObj "list" #[] e1) := Heap.get?_push_of_some _ oa1
  have nA : H a = none := I.hok.fresh (Nat.le_succ _)
  have J1 := I.laid (h' := h1) (a := a) (o := atS a #[] e1) (t' := s.toks) keep1 (Nat.le_succ _) (atS_ok oa2)
  have nS1 : upd H a (atS a #[] e1) h1.objs.size = none := J1.hok.fresh (Nat.le_refl _)
  have hka : h1.objs.size ≠ a := by rw [s1]; exact Nat.ne_of_gt (Nat.lt_succ_of_lt la)
  have nS : H h1.objs.size = none := by rw [upd_ne hka] at nS1; exact nS1
  have oS : (h1.push (seqObj "list" #[] 0)).get? h1.objs.size = some (seqObj "list" #[] 0) := Heap.get?_push_size _ rfl
  have J2 := J1.laid (h' := h1.push (seqObj "list" #[] 0)) (a := h1.objs.size) (o := atS h1.objs.size #[] 0) (t' := s.toks) (fun b u q => Heap.get?_push_of_some _ q) (Nat.le_refl _) (atS_ok oS)
  have hst : X.s_0.heap.objs.size ≤ h1.objs.size := by
    have := I.sz
    have : s.heap.objs.size + 1 < h0.objs.size := la
    omega
  unfold ksk_tree
  refine wpAny_bind (listItems_at (s := { s with heap := h0 }) oa rfl ?_)
  refine wpAny_bind (listUpdate_at (s := { s with heap := h0 }) oa rfl ?_ (by rw [List.size_toArray]; exact hz2) (Nat.zero_le _))
  refine wpAny_bind (seqEpoch_at oa1 rfl ?_)
  refine wpAny_bind (wpAny_newTuple ?_ hz2)
  refine wpAny_bind (wpAny_newList ?_ (Nat.zero_le _))
  refine wpAny_holding ?_
  exact turns_okL (s := { s with heap := h1.push (seqObj "list" #[] 0) }) ht hka nS nA rv hx hk hz2 hst hex hsp ok (fun k0 h0 => by
      have z := hsp k0 h0
      unfold shp at z
      rw [Bool.and_eq_true] at z
      have y := of_decide_eq_true z.2
      have := hr.un
      show X.A.units + 1 + 1 + (toP k0).depth < cLine
      have dd : (toP k0).depth = depD k0 := depD_dep k0 z.1
      rw [dd]
      omega) p (fun s' q => ⟨rfl, q⟩)
    ⟨_, Z, #[], 0, [], J2, ⟨Same.refl _, fun b u q => by rw [upd_ne (ne_of_none q nS), upd_ne (ne_of_none q nA)]; exact q, Same.outer (Same.outer sz (none_of sz nA)) (none_of sz nS), fun b q => .inl q⟩, upd_same, by rw [upd_ne hka.symm]; exact upd_same, none_of sz nS, none_of sz nA, .nil, by rw [List.take_zero]; exact .nil⟩
end
end DL
namespace DL
open PySem PySem.Spec L2 LamX NdefX
/-! ### sorted(e, key=lambda p: body) -/
def tLam (P : Addr) (nm : Str) (mk : Addr → NF) (body : Expr) : TE := fun σ H Q => ∃ ps : Array Value, H P = some (.tbl ps) ∧ TriplesOk ps.toList ∧ (∀ (pos : Pos) (cv : Value), codeAmong pos ps.toList = some cv → ∃ c, cv = .ref c ∧ H c = some (CodeO c nm)) ∧
  ∀ (f c' : Addr) (H1 : Hp) (ps' : Array Value), (∀ b o, b ≠ P → H b = some o → H1 b = some o) → (∀ b, H1 b = Option.none → H b = Option.none) → H1 P = some (.tbl ps') → TriplesOk ps'.toList →
    (∀ (pos : Pos) (cv : Value), codeAmong pos ps'.toList = some cv → codeAmong pos ps.toList = some cv ∨ cv = .ref c') → H f = none → f ≠ c' → (H c' = none ∨ ∃ pos, codeAmong pos ps.toList = some (.ref c')) → H1 f = some (LamO f (mk c') body) → H1 c' = some (CodeO c' nm) → Q (.ref f) H1
abbrev lamF (X : Cx) (nm : Str) (params : Arguments) (scope : Scope) (c' : Addr) : NF := ⟨"<lambda>", nm, params, [], scope, cloFrom X.env.cells scope.names [], c'⟩
theorem pe_lam {X : Cx} {nm : Str} {c P : Addr} {params : Arguments} {body : Expr} {scope : Scope} {pos : Pos} (TB : TabB X.base X.mg c P) (hcode : X.env.code = .ref c) (hn : nm = X.env.qual ++ "<lambda>") (hdef : defaultsOf params X.env = ([], []))
    (hfree : ∀ y ∈ scope.names, y.2 = .free → X.env.scope.names.lookup y.1 = some .cell ∨ X.env.scope.names.lookup y.1 = some .free) : PE X (.Lambda params body scope pos) (tLam P nm (lamF X nm params scope) body) := ⟨fun pins s σ H Q I h => by
  obtain ⟨ps, hP, ht, ha, h⟩ := h
  have hfr : ∀ y ∈ scope.names, y.2 = .free → ∃ c, X.env.cells.lookup y.1 = some c := fun y hy e => (hfree y hy e).elim (fun z => I.ok.has _ (.inl z)) fun z => I.ok.has _ (.inr z)
  exact lam_make3 I TB hcode hn hP ht ha hdef hfr fun f c' H1 s' ps' I1 k1 k2 k3 k4 k5 k6 k7 k8 k9 k10 => ⟨.ref f, H1, I1, rfl, h f c' H1 ps' k1 k2 k3 k4 k5 k6 k7 k8 k9 k10⟩⟩
def lamK (n : Nat) (em : EM) : MA := fun ds => match em ⟨slotsOf n (ds.map .p), []⟩ with
  | some (.ok (.p d) _) => some (.ok d)
  | _ => none
section
variable {P : Program} {w : World} {K : PySem.W.Frag} {mg : Str → Option Value} {base : Heap} {N : List Str} {p : Str} {F : NF} {f : Addr} {k : Nat} {body : Expr} {em : EM}
theorem lamA (S : NScope N [p] [] F.scope) (hb : ∀ (pm ctv : Value) (us : List Value), us.length = 1 → bindArgs (PySem.W.kla_fn F.name F.qual F.params body F.scope F.cl pm (.ref F.c) ctv) ⟨us, []⟩ = pure ([p].zip us))
    (hbody : ∀ (A : Around) (outer : List Env) (s : Shared) (H : Hp) (E : XK), Room k (A.deeper (envF F f s.heap.objs.size)) → ∃ t, DE K (ncx (L2.CX P w) P w K mg base N F f A outer s H E) WF body t em) :
    LOk P w K mg base (L2.CX P w) (k + 1) f F body [p] [] (fun _ => spA K 1 (lamK N.length em)) := by
  refine lok_of S hb (fun ws vs H Q E h => h.1) fun A outer s H vs ws Q E hr hl hsp => ?_
  obtain ⟨hl2, Z, ds, r, sub, rp, e, q⟩ := hsp
  obtain ⟨t, b⟩ := hbody A outer s H E hr
  refine ⟨t, b.pe, ?_⟩
  have w0 : Wf K Z H [] [] := ⟨sub, rfl, List.nodup_nil, (by simp), fun n a o h => by simp at h⟩
  obtain rfl : ws = [] := List.length_eq_zero_iff.mp hl
  have es : startF N vs [] = L2.start N vs := by unfold startF L2.start; simp
  rw [es]
  unfold lamK at e
  cases z : em ⟨slotsOf N.length (ds.map .p), []⟩ with
  | none => rw [z] at e; cases e
  | some r0 =>
    rw [z] at e
    cases r0 with
    | ex c fs M => cases e
    | ok d M =>
      cases d with
      | o n => cases e
      | p d =>
        cases e
        refine b.so.ok (L2.start N vs) H _ Z [] _ _ w0 (start_rep (allP_map rp)) z fun v Z' H' I' w' x' r' => ?_
        exact q v Z' H' ⟨x'.z, fun a o q => x'.fr a o q (by simp), w'.sub, fun a q => by
          rcases x'.zn a q with k | k | k
          · exact .inl k
          · exact .inr k
          · cases k⟩ r'
end
section
variable {X : Cx} {pins : List (Addr × Obj)} {σ : L2.St} {H : Hp} {s : Shared}
theorem lam_turn {k : Nat} {kf : MA} {f : Addr} {F : NF} {p : Str} {body : Expr} {A : Around} (Fn : LOk X.prog X.w X.K X.mg X.base (L2.CX X.prog X.w) k f F body [p] [] (fun _ => spA X.K 1 kf)) (hcl : F.cl = []) (hr : Room k A) (I : Inv X pins σ H s)
    (he : Env0 X.prog X.w X.K X.mg X.base A X.stack s H) (hf : H f = some (LamO f F body)) (hc : H F.c = some (CodeO F.c F.qual)) {v : V} {u : Value} {d c : D} {Z : Hp} (rv : RelV v u) (sz : Same Z H) (hv : Rep X.K Z v d) (hk : kf [d] = some (.ok c)) :
    wpAny (model X.prog X.w) A (call (.ref f) [u]) (EP X pins σ fun v' H' => ∃ Z', ExtP Z H Z' H' ∧ Rep X.K Z' v' c) (fun _ _ => False) s := by
  have hsp : spA X.K 1 kf [v] H (fun v' H' => ∃ Z', ExtP Z H Z' H' ∧ Rep X.K Z' v' c) (fun _ _ _ => False) := ⟨rfl, Z, [d], .ok c, sz, .cons hv .nil, hk, fun v' Z' H' x r => ⟨Z', x, r⟩⟩
  have C : CellsAt F.cl [] [] s.heap H := ⟨rfl, fun y c e => (by rw [hcl] at e; cases e), fun x y c e => (by rw [hcl] at e; cases e), fun i y e => (by simp at e)⟩
  refine wpAny_call (codeAny_mono (Fn.run A X.stack s H [u] [v] [] _ (fun _ _ _ => False) hr he hf hc C (.cons rv .nil) hsp) fun r s' hq => ?_)
  cases r with
  | error e =>
    obtain ⟨_, _, _, _, _, _, _, _, _, _, _, _, z⟩ := hq
    exact z
  | ok fl =>
    cases fl with
    | ret u => exact I.after hq
    | next => exact False.elim hq
    | brk => exact False.elim hq
    | cont => exact False.elim hq
end
def rSortL (K : PySem.W.Frag) (nm : Str) (mk : Addr → NF) (body : Expr) (kf : MA) : List V → List V → Hp → VK → Prop := fun vs zs H Q => ∃ (f c' : Addr) (x : V) (Z : Hp) (d c : D), zs = [.ref f] ∧ vs = [x] ∧ H f = some (LamO f (mk c') body) ∧ H c' = some (CodeO c' nm) ∧ Same Z H ∧ Rep K Z x d ∧ sortKD kf d = some c ∧ PostP K Z H c Q
section
variable {X : Cx}
theorem cr_sortL {k : Nat} {nm p : Str} {params : Arguments} {body : Expr} {scope : Scope} {kf : MA} (Fn : ∀ f c', LOk X.prog X.w X.K X.mg X.base (L2.CX X.prog X.w) k f (lamF X nm params scope c') body [p] [] (fun _ => spA X.K 1 kf)) (hcl : cloFrom X.env.cells scope.names [] = []) (hr : Room (k + 2) X.A) (hex : X.ex = []) :
    CallRK X (.builtin "sorted") [Str.ofString "key"] (rSortL X.K nm (lamF X nm params scope) body kf) := by
  intro pins s σ H vs zs us ws Q I r rz h
  obtain ⟨f, c', x, Z, d, c, rfl, rfl, hf, hc, sz, hx, hd, p⟩ := h
  cases r with
  | cons r1 r2 =>
  cases r2
  cases rz with
  | cons z1 z2 =>
  cases z2
  cases z1
  unfold sortKD at hd
  split at hd
  · split at hd
    · rename_i ks hk
      split at hd
      · rename_i hcc
        cases hd
        rw [Bool.and_eq_true] at hcc
        cases hx with
        | lst h1 h2 =>
          cases r1
          refine sortL_run (f := kf) (fun Hj Zj s' v u0 d0 c0 Ij xj rv rd hk0 => ?_) (hr.mono (by omega)) hex I sz (.inl (same_rd sz h1)) h2 hk (fun k0 h0 => List.all_eq_true.mp hcc.1 k0 h0) hcc.2 p
          exact lam_turn (Fn f c') hcl (Room.in1 (Room.in1 hr)) Ij (Ij.env0.in1.in1) (xj.h _ _ hf) (xj.h _ _ hc) rv xj.sub rd hk0
      · cases hd
    · cases hd
  · cases hd
end
def tblAt (M : List O) (i : Nat) (P : Addr) (nm : Str) : Bool := match M[i]? with
  | some (.tbl P' q) => decide (P' = P) && decide (q = nm)
  | _ => false
noncomputable def mSortL (i : Nat) (P : Addr) (nm : Str) (kf : MA) (m : EM) : EM := bnd m (pur fun d s => if tblAt s.m i P nm = true then ret (sortKD kf d) s else none)
theorem tbl_at {K : PySem.W.Frag} {Z H : Hp} {I : List Addr} {M : List O} {i : Nat} {P : Addr} {nm : Str} (w : Wf K Z H I M) (h : tblAt M i P nm = true) : I[i]? = some P ∧ M[i]? = some (.tbl P nm) := by
  unfold tblAt at h
  split at h
  · rename_i P' q e
    rw [Bool.and_eq_true, decide_eq_true_eq, decide_eq_true_eq] at h
    obtain ⟨rfl, rfl⟩ := h
    refine ⟨?_, e⟩
    have hl := (List.getElem?_eq_some_iff.mp e).1
    have hi : I[i]? = some (I[i]'(by rw [w.len]; exact hl)) := List.getElem?_eq_getElem (by rw [w.len]; exact hl)
    obtain ⟨_, r, _⟩ := w.ob i _ _ hi e (by intro z; cases z)
    rw [hi, r]
  · cases h
/-- a lambda is made: the heap behind it -/
theorem lam_wf {K : PySem.W.Frag} {Z H H1 : Hp} {I : List Addr} {M : List O} {i : Nat} {P f c' : Addr} {nm : Str} {ps ps' : Array Value} {F : NF} {body : Expr} (w : Wf K Z H I M) (hi : I[i]? = some P) (hm : M[i]? = some (.tbl P nm)) (hP : H P = some (.tbl ps)) (hz : ∀ (pos : Pos) (cv : Value), codeAmong pos ps.toList = some cv → ∃ c, cv = .ref c ∧ Z c = some (CodeO c nm))
    (k1 : ∀ b o, b ≠ P → H b = some o → H1 b = some o) (k2 : ∀ b, H1 b = Option.none → H b = Option.none) (k3 : H1 P = some (.tbl ps')) (k4 : TriplesOk ps'.toList) (k5 : ∀ (pos : Pos) (cv : Value), codeAmong pos ps'.toList = some cv → codeAmong pos ps.toList = some cv ∨ cv = .ref c') (k6 : H f = none) (k6' : f ≠ c')
    (k7 : H c' = none ∨ ∃ pos, codeAmong pos ps.toList = some (.ref c')) (k8 : H1 f = some (LamO f F body)) (k9 : H1 c' = some (CodeO c' nm)) : ∃ Z', Wf K Z' H1 I M ∧ Ext Z H I Z' H1 I ∧ Z' f = some (LamO f F body) ∧ Z' c' = some (CodeO c' nm) := by
  have hPi : P ∈ I := List.mem_of_getElem? hi
  have nfP : f ≠ P := fun z => by rw [z, hP] at k6; cases k6
  have zc : Z c' = none ∨ Z c' = some (CodeO c' nm) := by
    rcases k7 with k7 | ⟨pos, k7⟩
    · exact .inl (none_of w.sub k7)
    · obtain ⟨c, e, h⟩ := hz pos _ k7
      cases e; exact .inr h
  have ncP : c' ≠ P := fun z => by
    rw [z, k3] at k9
    exact codeO_ne (c := P) (q := nm) ps' (Option.some.inj k9).symm
  have zf : Z f = none := none_of w.sub k6
  let Z' : Hp := upd (upd Z c' (CodeO c' nm)) f (LamO f F body)
  have sZ : Same Z Z' := fun b o e => by
    show upd (upd Z c' (CodeO c' nm)) f (LamO f F body) b = some o
    rw [upd_ne (ne_of_none e zf)]
    by_cases q : b = c'
    · subst q
      rcases zc with z | z
      · rw [z] at e; cases e
      · rw [upd_same, ← e, z]
    · rw [upd_ne q]; exact e
  have sub : Same Z' H1 := fun b o e => by
    have e : upd (upd Z c' (CodeO c' nm)) f (LamO f F body) b = some o := e
    by_cases q : b = f
    · subst q; rw [upd_same] at e; rw [← e]; exact k8
    · rw [upd_ne q] at e
      by_cases q2 : b = c'
      · subst q2; rw [upd_same] at e; rw [← e]; exact k9
      · rw [upd_ne q2] at e
        refine k1 b o (fun z => ?_) (w.sub b o e)
        have := (w.ob i P _ hi hm (by intro z; cases z)).1
        rw [z, this] at e; cases e
  have fin : ∀ a, Z' a ≠ none → Z a ≠ none ∨ H a = none ∨ a ∈ I := fun a q => by
    have q : upd (upd Z c' (CodeO c' nm)) f (LamO f F body) a ≠ none := q
    by_cases z : a = f
    · rw [z]; exact .inr (.inl k6)
    · rw [upd_ne z] at q
      by_cases z2 : a = c'
      · rw [z2]
        rcases k7 with k7 | ⟨pos, k7⟩
        · exact .inr (.inl k7)
        · obtain ⟨c, e, h⟩ := hz pos _ k7
          cases e
          exact .inl (by rw [h]; simp)
      · rw [upd_ne z2] at q; exact .inl q
  have x : Ext Z H I Z' H1 I := ⟨sZ, ⟨[], by simp⟩, fun b o e n => k1 b o (fun z => n (by rw [z]; exact hPi)) e, fun _ h => .inl h, fin, fun b e q => e (k2 b q)⟩
  have znone : ∀ a ∈ I, Z a = none → Z' a = none := fun a ha e => by
    cases q : Z' a with
    | none => rfl
    | some o =>
      have q' : upd (upd Z c' (CodeO c' nm)) f (LamO f F body) a = some o := q
      have nf : a ≠ f := fun z => absurd k6 (by rw [← z]; exact w.tr a ha)
      rw [upd_ne nf] at q'
      by_cases z2 : a = c'
      · rcases k7 with k7 | ⟨pos, k7⟩
        · exact absurd k7 (by rw [← z2]; exact w.tr a ha)
        · obtain ⟨c, e2, h⟩ := hz pos _ k7
          cases e2
          rw [← z2, e] at h; cases h
      · rw [upd_ne z2, e] at q'; cases q'
  refine ⟨Z', ⟨sub, w.len, w.nd, fun a ha q => w.tr a ha (k2 a q), fun n a o h1 h2 h3 => ?_⟩, x, upd_same, ?_⟩
  · obtain ⟨q1, q2⟩ := w.ob n a o h1 h2 h3
    have hai : a ∈ I := List.mem_of_getElem? h1
    refine ⟨znone a hai q1, ?_⟩
    by_cases hn : n = i
    · subst hn
      rw [hi] at h1; cases h1
      rw [hm] at h2; cases h2
      refine ⟨rfl, ps', k3, k4, fun pos cv hcv => ?_⟩
      rcases k5 pos cv hcv with z | z
      · obtain ⟨c, e, h⟩ := hz pos cv z
        exact ⟨c, e, sZ _ _ h⟩
      · exact ⟨c', z, by show upd (upd Z c' (CodeO c' nm)) f (LamO f F body) c' = _; rw [upd_ne (Ne.symm k6'), upd_same]⟩
    · have naP : a ≠ P := fun z => by
        obtain ⟨l1, e1⟩ := List.getElem?_eq_some_iff.mp h1
        obtain ⟨l2, e2⟩ := List.getElem?_eq_some_iff.mp hi
        exact hn ((List.getElem_inj w.nd).mp (e1.trans (z.trans e2.symm)))
      refine q2.ext x ?_
      cases q : H a with
      | none => exact absurd q (w.tr a hai)
      | some u => exact k1 a u naP q
  · show upd (upd Z c' (CodeO c' nm)) f (LamO f F body) c' = _
    rw [upd_ne (Ne.symm k6'), upd_same]
section
variable {K : PySem.W.Frag} {X : Cx} {W : WX} {e : Expr} {pos p p2 kp lpos : Pos}
theorem de_sortL {k kk : Nat} {te : TE} {m em : EM} {params : Arguments} {body : Expr} {scope : Scope} {N : List Str} {x nm : Str} {c P : Addr} (i : Nat) (TB : TabB X.base X.mg c P) (hcode : X.env.code = .ref c) (hr : Room kk X.A) (hkk : k + 3 ≤ kk) (hs : X.mg "sorted" = none) (h : DE K X W e te m)
    (S : NScope N [x] [] scope) (hb : ∀ (cl : List (Str × Addr)) (c' : Addr) (pm ctv : Value) (us : List Value), us.length = 1 → bindArgs (PySem.W.kla_fn "<lambda>" nm params body scope cl pm (.ref c') ctv) ⟨us, []⟩ = pure ([x].zip us))
    (hbody : ∀ (f c' : Addr) (A : Around) (outer : List Env) (s : Shared) (H : Hp) (E : XK), Room k (A.deeper (envF (lamF X nm params scope c') f s.heap.objs.size)) → ∃ t, DE K (ncx (L2.CX X.prog X.w) X.prog X.w K X.mg X.base N (lamF X nm params scope c') f A outer s H E) WF body t em)
    (hn : nm = X.env.qual ++ "<lambda>" := by rfl) (hdef : defaultsOf params X.env = ([], []) := by rfl) (hcl : cloFrom X.env.cells scope.names [] = [] := by rfl) (hfree : ∀ y ∈ scope.names, y.2 = .free → X.env.scope.names.lookup y.1 = some .cell ∨ X.env.scope.names.lookup y.1 = some .free := by intro y hy e; simp at hy; rcases hy with rfl | hy <;> simp_all)
    (hgs : Gl X "sorted" := by rfl) (hex : X.ex = [] := by rfl)
    (hs1 : starEach [e] X.env = (false, eval e X.env) :: starEach [] X.env := by rfl) (he : backTo pos (starEach [e] X.env) = (false, eval e X.env) :: backTo pos (starEach [] X.env) := by rfl) (hpl : (backTo pos (starEach [e] X.env)).any (·.1) = false := by rfl)
    (hall : (backToKw pos (keywordEach [⟨some "key", .Lambda params body scope lpos, kp⟩] X.env)).all (·.1.isSome) = true := by rfl) (hnone : (backToKw pos (keywordEach [⟨some "key", .Lambda params body scope lpos, kp⟩] X.env)).any (·.1.isNone) = false := by rfl) (hks : (backToKw pos (keywordEach [⟨some "key", .Lambda params body scope lpos, kp⟩] X.env)).filterMap (·.1) = [Str.ofString "key"] := by rfl) :
    DE K X W (.Call (.Name "sorted" p) [e] [⟨some "key", .Lambda params body scope lpos, kp⟩] pos) (tCKw (rSortL K nm (lamF X nm params scope) body (lamK N.length em)) (tCons te tNil) (tCons (tLam P nm (lamF X nm params scope) body) tNil)) (mSortL i P nm (lamK N.length em) m) := by
  have k0 := h.k
  subst k0
  have Fn : ∀ f c', LOk X.prog X.w X.K X.mg X.base (L2.CX X.prog X.w) (k + 1) f (lamF X nm params scope c') body [x] [] (fun _ => spA X.K 1 (lamK N.length em)) := fun f c' => lamA S (hb _ c') (hbody f c')
  refine ⟨rfl, pe_callBK (cr_sortL Fn hcl (hr.mono hkk) hex) hgs hs rfl (pa_cons h.pe pa_nil hs1) (pk_cons (pe_lam TB hcode hn hdef hfree) pk_nil) (by decide) (by decide) he hpl hall hnone hks, ⟨fun σ H s Z I r0 Q w rs e1 p1 => ?_⟩⟩
  refine h.so.bnd w rs e1 p1.x fun d v M1 Z1 H1 I1 w1 rs1 x1 q1 e2 => ?_
  obtain ⟨d, rfl, e2⟩ := pur_ok e2
  have e2 : (if tblAt M1 i P nm = true then ret (sortKD (lamK N.length em) d) ⟨s.l, M1⟩ else none) = some r0 := e2
  split at e2
  · rename_i htb
    obtain ⟨c0, hc, rfl⟩ := ret_ok e2
    obtain ⟨hi, hm⟩ := tbl_at w1 htb
    obtain ⟨_, _, ps, hP, ht, hz⟩ := w1.ob i P _ hi hm (by intro z; cases z)
    refine ⟨ps, hP, ht, fun pos cv hcv => ?_, fun f c' H2 ps' k1 k2 k3 k4 k5 k6 k6' k7 k8 k9 => ?_⟩
    · obtain ⟨c1, e3, e4⟩ := hz pos cv hcv
      exact ⟨c1, e3, w1.sub _ _ e4⟩
    · obtain ⟨Z2, w2, x2, f2, c2⟩ := lam_wf w1 hi hm hP hz k1 k2 k3 k4 k5 k6 k6' k7 k8 k9
      exact ⟨f, c', v, Z2, d, c0, rfl, rfl, k8, k9, w2.sub, Rep.mono x2.z q1, hc, PostP.of w2 ((p1.mono x1).mono x2)⟩
  · cases e2
end
end DL
namespace DL
open PySem PySem.Spec PyProof.Rows L2 LamX NdefX
/-! ### the end of a law whose defs make lambdas: tables of code objects -/
def tbls : List Addr → List Str → List O
  | P :: Ps, q :: qs => .tbl P q :: tbls Ps qs
  | _, _ => []
theorem tbls_len : ∀ (Ps : List Addr) (qs : List Str), Ps.length = qs.length → (tbls Ps qs).length = Ps.length
  | [], _, _ => by cases ‹List Str› <;> rfl
  | _ :: _, [], h => by cases h
  | P :: Ps, q :: qs, h => by
    show (tbls Ps qs).length + 1 = Ps.length + 1
    rw [tbls_len Ps qs (by simpa using h)]
theorem tbls_at : ∀ {Ps : List Addr} {qs : List Str} {n : Nat} {b : Addr} {o : O}, Ps[n]? = some b → (tbls Ps qs)[n]? = some o → ∃ q, o = .tbl b q
  | [], _, _, _, _, h, _ => by simp at h
  | _ :: _, [], _, _, _, _, h => by simp [tbls] at h
  | P :: Ps, q :: qs, 0, b, o, h1, h2 => by
    simp at h1; simp [tbls] at h2
    exact ⟨q, by rw [← h1, h2]⟩
  | P :: Ps, q :: qs, n + 1, b, o, h1, h2 => tbls_at (Ps := Ps) (qs := qs) (n := n) (by simpa using h1) (by simpa [tbls] using h2)
section
variable {P : Program} {w : World} {K : PySem.W.Frag} {mg : Str → Option Value} {base : Heap} {x qual : Str} {st : Stmt} {f a : Addr} {fd : FuncData} {N : List Str} {k : Nat}
/-- from the entry on -/
theorem run_topT {m : SM} {cs : List (Addr × Addr)} {nms : List Str} {s₁ : Shared} {H : Hp} {ns : List Int} {p : Str} (F : Fun K x qual st f fd) (Sc : FnScope N [p] (defScope st)) (hr : Room (k + 1) callerA) (body : TopB P w K mg base N qual st f k m)
    (e0 : Env0 P w K mg base callerA [] s₁ H) (hb : BindsTo s₁ fd ⟨[.ref a], []⟩ [(p, .ref a)]) (hH : ∀ p ∈ cs, H p.2 = some (.tbl #[])) (hS : SqL K H a (ns.map V.int)) (hO : ∀ b, H b = none ∨ b ∈ cs.map (·.2) ∨ ∃ o xs, H b = some (.frz o (.lst xs))) (aT : a ∉ cs.map (·.2)) (hT : ∀ p ∈ cs, s₁.heap.get? p.2 = some { cls := .none, data := .fields #[] }) (C : ∀ p ∈ cs, PySem.W.CodeHd s₁.heap p.1 p.2) (nd : (cs.map (·.2)).Nodup) (hln : cs.length = nms.length) (good : ∃ s, m ⟨slotsOf N.length ([D.scr (ns.map .int)].map .p), tbls (cs.map (·.2)) nms⟩ = some (.rt (.p (.bl true)), s)) :
    codeAny (model P w) callerA (.call (.ref f) ⟨[.ref a], []⟩) (Told s₁) s₁ := by
  obtain ⟨oc, od, kV, doc, pm, an, cdv, ct, osl, rfl, lk, hcd⟩ := F.ex
  have inS : ∀ b o, base.get? b = some o → s₁.heap.get? b = some o := fun b o q => (e0.bs b o q).1
  have KS : K.In s₁.heap := e0.mod.kin.keeps inS
  have NL : s₁.heap.NoLimit := e0.mod.nolimit.keeps inS
  refine codeAny_mono (R := CR (L2.CX P w) [] P w H s₁ (fun v _ => v = V.bl true) (fun _ _ _ => False)) ?_ fun r s' h => ?_
  rotate_left
  · cases r with
    | error e =>
      obtain ⟨_, _, _, _, _, _, _, _, _, _, _, _, z⟩ := (show L2.CX P w [] H s₁ (fun _ _ _ => False) e s' from h)
      exact z.elim
    | ok fl =>
      cases fl with
      | ret u =>
        obtain ⟨v, H', os, bare, un, hok, rv, e⟩ := h
        have e : v = V.bl true := e
        subst e
        obtain rfl : u = Value.bool true := rv
        have key : ∀ b o, b ∉ cs.map (·.2) → s₁.heap.get? b = some o → s'.heap.get? b = some o := fun b o nb e => by
          rcases hO b with z | z | ⟨ob, xs, z⟩
          · exact un.keep b o e z (by intro q; exact absurd (show b ∈ ([] : List Addr) from q) (by simp)) (by simp)
          · exact absurd z nb
          · obtain ⟨e1, _⟩ := e0.hok b _ z
            obtain ⟨e2, _⟩ := hok b _ (un.frzs b ob _ z)
            rw [e] at e1; cases e1
            exact e2
        have grown : ∀ p ∈ cs, ∃ more : Array Value, s'.heap.get? p.2 = some { cls := .none, data := .fields more } := fun p hp => by
          obtain ⟨more, z⟩ := un.tbls p.2 #[] (hH p hp)
          exact ⟨_, hok p.2 _ z⟩
        refine ⟨rfl, ⟨fun b o e => ?_, fun b o e => ?_⟩, os, bare⟩
        · by_cases hb : b ∈ cs.map (·.2)
          · obtain ⟨p, hp, ep⟩ := List.mem_map.mp hb
            obtain ⟨more, hm⟩ := grown p hp
            rw [← ep] at e ⊢
            rw [hT p hp] at e
            cases e
            exact .inr (.inl ⟨((C p hp).tab (hT p hp)).isCodeTable, rfl, #[], more, rfl, by rw [Array.empty_append]; exact hm⟩)
          · exact .inl (key b o hb e)
        · by_cases hb : b ∈ cs.map (·.2)
          · obtain ⟨p, hp, ep⟩ := List.mem_map.mp hb
            obtain ⟨more, hm⟩ := grown p hp
            rw [← ep]
            exact ⟨_, hm⟩
          · exact ⟨o, key b o hb e⟩
      | next => exact False.elim h
      | brk => exact False.elim h
      | cont => exact False.elim h
  -- the frame is made, the script bound
  refine PySem.codeAny_call_function hr.depth (KS _ _ lk) rfl Sc.co Sc.gen rfl (PySem.W.codeRec_of KS hcd) (hb _ _ _ _ ?_)
  refine PySem.wpAny_newFunctionEnv_cells Sc.kind (fun y hy => ?_) fun env he s2 made => ?_
  · obtain ⟨n, v⟩ := y
    rcases Sc.par n (List.of_mem_zip (l₁ := [p]) (l₂ := [Value.ref a]) hy).1 with q | q
    · exact .inl q
    · exact .inr ⟨q, PySem.W.cellsFrom_some _ _ _ (.inl q)⟩
  subst he
  refine ⟨NL.keeps made.toInCall.keep, PySem.codeAny_func ?_⟩
  obtain ⟨t, d⟩ := body cdv s₁ H (fun _ _ _ => False) (hr.deeper _)
  have I := inv_start (CX := L2.CX P w) (E := fun _ _ _ => False) Sc hr.hd e0 (vs := [.ref a]) rfl (.cons rfl .nil) made
  have q : t { nx := fun _ H' => (fun v (_ : Hp) => v = V.bl true) .non H', rt := fun v _ => v = V.bl true } (L2.start N [.ref a]) H := by
    let Z0 : Hp := fun b => if b ∈ cs.map (·.2) then none else H b
    have w0 : Wf K Z0 H (cs.map (·.2)) (tbls (cs.map (·.2)) nms) := by
      refine ⟨fun b o e => ?_, by rw [tbls_len _ _ (by rw [List.length_map]; exact hln)], nd, fun b hb => ?_, fun n b o h1 h2 h3 => ?_⟩
      · have e : (if b ∈ cs.map (·.2) then none else H b) = some o := e
        split at e
        · cases e
        · exact e
      · obtain ⟨p, hp, rfl⟩ := List.mem_map.mp hb
        rw [hH p hp]; simp
      · have hb : b ∈ cs.map (·.2) := List.mem_of_getElem? h1
        refine ⟨if_pos hb, ?_⟩
        obtain ⟨p, hp, rfl⟩ := List.mem_map.mp hb
        obtain ⟨q, rfl⟩ := tbls_at h1 h2
        refine ⟨rfl, #[], hH p hp, trivial, fun pos cv z => ?_⟩
        have z : codeAmong pos [] = some cv := z
        simp [codeAmong] at z
    have hS0 : SqL K Z0 a (ns.map V.int) := by
      rcases hS with z | z
      · refine .inl ?_
        have ea : Z0 a = H a := if_neg aT
        unfold Rd at z ⊢
        rw [ea]; exact z
      · exact .inr z
    obtain ⟨s1, z⟩ := good
    refine d.so.ok (L2.start N [.ref a]) H _ Z0 (cs.map (·.2)) _ _ w0 (start_rep (.cons (show RepV K Z0 (cs.map (·.2)) (.ref a) (.p (.scr (ns.map .int))) from Rep.scr hS0 (intsRep ns)) .nil)) z ?_
    exact fun v Z' H' I' w' x' r' => by cases r'; rfl
  refine wpAny_mono (d.ps.run [] s2 (L2.start N [.ref a]) H _ I q) (fun fl s' h => ?_) fun e s' h => ?_
  · cases fl with
    | ret u =>
      obtain ⟨v, σ', H', J, rv, e⟩ := h
      exact ⟨v, H', J.os, J.bare, J.base, J.hok, rv, e⟩
    | next =>
      obtain ⟨σ', H', J, e⟩ := h
      cases e
    | brk =>
      obtain ⟨_, _, _, e⟩ := h
      exact False.elim e
    | cont =>
      obtain ⟨_, _, _, e⟩ := h
      exact False.elim e
  · exact h
theorem law_topT {m : SM} {s₁ : Shared} {mb : Str → Option Value} {cs : List (Addr × Addr)} {nms : List Str} {vs : List Value} {ns : List Int} {p : Str}
    (KX : K.In s₁.heap) (hns : s₁.heap.Ns mainGlobals mg) (hb : s₁.heap.Ns builtinsNs mb) (hbb : ∀ x : Str, x ≠ "__name__" → mb x = bootBuiltins x) (hlim : s₁.heap.NoLimit) (hg : s₁.gens = #[])
    (hT : ∀ p ∈ cs, s₁.heap.get? p.2 = some { cls := .none, data := .fields #[] }) (nT : ∀ p ∈ cs, K.lookup p.2 = none) (C : ∀ p ∈ cs, PySem.W.CodeHd s₁.heap p.1 p.2)
    (hbm : ∃ (bm : Addr) (ob : Obj), mg "__builtins__" = some (.ref bm) ∧ bm ≠ builtinsNs ∧ s₁.heap.get? bm = some ob ∧ ob.cls = .type "module" ∧ ob.dict = some builtinsNs ∧ ob.data = .plain)
    (ha : s₁.heap.get? a = some { cls := .type "list", data := .seq vs.toArray }) (hi : IntsAre vs ns) (hl : ns.length ≤ sizeLine) (hr : Room (k + 1) callerA) (nd : (cs.map (·.2)).Nodup) (hln : cs.length = nms.length)
    (F : Fun K x qual st f fd) (Sc : FnScope N [p] (defScope st)) (hbind : ∀ (s : Shared) (u : Value), BindsTo s fd ⟨[u], []⟩ [(p, u)]) (body : ∀ base : Heap, K.In base → base.Ns mainGlobals mg → (∀ p ∈ cs, TabB base mg p.1 p.2) → TopB P w K mg base N qual st f k m)
    (good : ∃ s, m ⟨slotsOf N.length ([D.scr (ns.map .int)].map .p), tbls (cs.map (·.2)) nms⟩ = some (.rt (.p (.bl true)), s)) :
    codeAny (model P w) callerA (.call (.ref f) ⟨[.ref a], []⟩) (Told s₁) s₁ := by
  have rv := vals_ints hi
  have lenV := hi.length
  have isT : ∀ b : Addr, b ∈ cs.map (·.2) → s₁.heap.get? b = some { cls := .none, data := .fields #[] } := fun b hb => by
    obtain ⟨p, hp, e⟩ := List.mem_map.mp hb
    rw [← e]
    exact hT p hp
  have aT : a ∉ cs.map (·.2) := fun z => by
    have q := isT a z
    rw [ha] at q
    have z' : Data.seq vs.toArray _ = Data.fields #[] := congrArg Obj.data (Option.some.inj q)
    cases z'
  have memT : ∀ p ∈ cs, p.2 ∈ cs.map (·.2) := fun p hp => List.mem_map.mpr ⟨p, hp, rfl⟩
  -- from an abstract heap in which nothing but the script and the tables may be tracked
  have core : ∀ H : Hp, (∀ p ∈ cs, H p.2 = some (.tbl #[])) → (∀ b, H b = none ∨ b ∈ cs.map (·.2) ∨ ∃ o xs, H b = some (.frz o (.lst xs))) → SqL K H a (ns.map V.int) → HOk P w H s₁.heap → (∀ b, H b ≠ none → b = a ∨ b ∈ cs.map (·.2)) → (H a ≠ none → K.lookup a = none) →
      codeAny (model P w) callerA (.call (.ref f) ⟨[.ref a], []⟩) (Told s₁) s₁ := by
    intro H hH hO hS hok hA hK
    have base_of : ∀ {b : Addr} {o : Obj}, s₁.heap.get? b = some o → H b = none → (hidT s₁.heap H).get? b = some o := fun e n => hidT_get e n
    have noD : ∀ {b : Addr} {o : Obj}, s₁.heap.get? b = some o → (∀ vs n, o.data ≠ .seq vs n) → o.data ≠ .fields #[] → H b = none := fun {b o} e h1 h2 => by
      cases q : H b with
      | none => rfl
      | some u =>
        rcases hA b (by rw [q]; simp) with e' | e'
        · rw [e', ha] at e
          cases e
          exact (h1 _ _ rfl).elim
        · rw [isT b e'] at e
          cases e
          exact (h2 rfl).elim
    have noA : ∀ {b : Addr} {o : Obj} {es : Array DictEntry} {ep : Nat}, s₁.heap.get? b = some o → o.data = .dict es ep → H b = none := fun {b o es ep} e d => by
      refine noD e (fun vs n z => ?_) fun z => ?_
      · rw [d] at z
        cases z
      · rw [d] at z
        cases z
    have nsK : ∀ {b : Addr} {m : Str → Option Value}, s₁.heap.Ns b m → (hidT s₁.heap H).Ns b m := fun {b m} ⟨o, es, ep, e, d, r⟩ => ⟨o, es, ep, base_of e (noA e d), d, r⟩
    have hKb : K.In (hidT s₁.heap H) := fun b o e => base_of (KX b o e) (by
      cases q : H b with
      | none => rfl
      | some u =>
        rcases hA b (by rw [q]; simp) with e' | e'
        · rw [e'] at e q
          rw [hK (by rw [q]; simp)] at e
          cases e
        · obtain ⟨p, hp, ep⟩ := List.mem_map.mp e'
          rw [← ep, nT p hp] at e
          cases e)
    have hM : L2.Mod K mg (hidT s₁.heap H) := ⟨hKb, nsK hns, ⟨mb, nsK hb, hbb⟩, let ⟨mc, h1, h2⟩ := hlim; ⟨mc, nsK h1, h2⟩⟩
    have TB : ∀ p ∈ cs, TabB (hidT s₁.heap H) mg p.1 p.2 := fun p hp => by
      have hTp := hT p hp
      refine ⟨?_, ?_, fun z => ?_⟩
      · obtain ⟨o, us, file, tf, flags, tg, inF, text, tt, e1, r1, r2, r3, r4, r5, r6, r7, r8, hne⟩ := C p hp
        refine ⟨o, us, file, tf, flags, tg, inF, text, tt, base_of e1 (noD e1 (fun vs n z => ?_) fun z => ?_), r1, r2, r3, r4, r5, r6, r7, r8, hne⟩
        · rw [r2] at z
          cases z
        · rw [r2] at z
          cases z
          simp at r3
      · obtain ⟨bm, ob, b1, b2, b3, b4, b5, b6⟩ := hbm
        have nG : bm ≠ mainGlobals := fun q => by
          obtain ⟨o, es, ep, e, hd, _⟩ := hns
          rw [q, e] at b3
          cases b3
          rw [hd] at b6
          cases b6
        have nP : bm ≠ p.2 := fun q => by
          rw [q, hTp] at b3
          cases b3
          cases b6
        refine ⟨bm, ob, b1, b2, nG, nP, base_of b3 (noD b3 (fun vs n z => ?_) fun z => ?_), b4, b5, b6⟩
        · rw [b6] at z
          cases z
        · rw [b6] at z
          cases z
      · obtain ⟨o, es, ep, e, hd, _⟩ := hns
        rw [z, hTp] at e
        cases e
        cases hd
    have e0 : Env0 P w K mg (hidT s₁.heap H) callerA [] s₁ H := ⟨rfl, hM, fun b o e => of_hidT e, Nat.le_of_eq (hidT_size _ _), trivial, fun b hb => absurd (show b ∈ ([] : List Addr) from hb) (by simp), hok, .of_eq hg⟩
    exact run_topT F Sc hr (body _ hKb (nsK hns) TB) e0 (hbind _ _) hH hS hO aT hT C nd hln good
  cases hk : K.lookup a with
  | some o =>
    have e := KX a o hk
    rw [ha] at e
    cases e
    refine core (fun b => if b ∈ cs.map (·.2) then some (.tbl #[]) else none) (fun p hp => if_pos (memT p hp)) (fun b => ?_) (.inr ⟨_, vs.toArray, _, hk, rfl, rfl, rfl, by rw [List.size_toArray, lenV]; exact hl, by simpa using rv⟩) (fun b u z => ?_) (fun b z => ?_) fun z => absurd (show (if a ∈ cs.map (·.2) then some (HO.tbl #[]) else none) = none from if_neg aT) z
    · by_cases hb : b ∈ cs.map (·.2)
      · exact .inr (.inl hb)
      · exact .inl (if_neg hb)
    · by_cases hb : b ∈ cs.map (·.2)
      · have z' := (if_pos hb).symm.trans z
        cases z'
        exact isT b hb
      · have z' := (if_neg hb).symm.trans z
        cases z'
    · by_cases hb : b ∈ cs.map (·.2)
      · exact .inr hb
      · exact absurd (if_neg hb) z
  | none =>
    refine core (fun b => if b = a then some (.frz { cls := .type "list", data := .seq vs.toArray } (.lst (ns.map V.int))) else if b ∈ cs.map (·.2) then some (.tbl #[]) else none) (fun p hp => (if_neg (show ¬ p.2 = a from fun z => aT (by rw [← z]; exact memT p hp))).trans (if_pos (memT p hp))) (fun b => ?_)
      (.inl (.inr ⟨{ cls := .type "list", data := .seq vs.toArray }, if_pos rfl⟩)) (fun b u z => ?_) (fun b z => ?_) fun _ => hk
    · by_cases hb : b = a
      · exact .inr (.inr ⟨_, _, if_pos hb⟩)
      · by_cases hb2 : b ∈ cs.map (·.2)
        · exact .inr (.inl hb2)
        · exact .inl ((if_neg hb).trans (if_neg hb2))
    · by_cases hb : b = a
      · have z' := (if_pos hb).symm.trans z
        cases z'
        rw [hb]
        exact ⟨ha, by rw [List.length_map]; exact hl, vs, _, rv, ha⟩
      · have z1 := (if_neg hb).symm.trans z
        by_cases hb2 : b ∈ cs.map (·.2)
        · have z' := (if_pos hb2).symm.trans z1
          cases z'
          exact isT b hb2
        · have z' := (if_neg hb2).symm.trans z1
          cases z'
    · by_cases hb : b = a
      · exact .inl hb
      · by_cases hb2 : b ∈ cs.map (·.2)
        · exact .inr hb2
        · exact absurd ((if_neg hb).trans (if_neg hb2)) z
end
theorem walk_dlT {l : PySem.W.OpenLaw} {k : Nat} {q : Program} {loose : List Str} {XP : (Str → Option Value) → Heap → Prop} {YP : World → Heap → Prop} {d : DefRec} {K : Params → PySem.W.Frag} {x qual : Str} {st : Stmt} {N : List Str} {m : List Addr → SM} {nms : List Str} (hn : l.most = some 63) (hdf : d.params.defaults = []) (hr : Room (k + 1) callerA)
    (hY : ∀ (w : World) (h : Heap), YP w h → (K w.params).In h) (Sc : FnScope N ["script"] (defScope st))
    (F : ∀ (w : World) (mg : Str → Option Value) (fa : Addr) (h : Heap), YP w h → (K w.params).In h → h.Ns mainGlobals mg → mg d.name = some (.ref fa) →
      ∃ (fd : FuncData) (cs : List (Addr × Addr)), (∀ p ∈ cs, h.get? p.2 = some { cls := .none, data := .fields #[] }) ∧ (∀ p ∈ cs, (K w.params).lookup p.2 = none) ∧ (∀ p ∈ cs, PySem.W.CodeHd h p.1 p.2) ∧ (cs.map (·.2)).Nodup ∧ cs.length = nms.length ∧
        Fun (K w.params) x qual st fa fd ∧ (∀ (s : Shared) (u : Value), BindsTo s fd ⟨[u], []⟩ [("script", u)]) ∧ ∀ base : Heap, (K w.params).In base → base.Ns mainGlobals mg → (∀ p ∈ cs, TabB base mg p.1 p.2) → TopB l.prog w (K w.params) mg base N qual st fa k (m (cs.map (·.2))))
    (good : ∀ (Ps : List Addr) (ns : List Int), Ps.length = nms.length → ns.length ≤ 63 → (∀ z ∈ ns, Builtin.Int.intBits z ≤ 1048576) → ∃ s, m Ps ⟨slotsOf N.length ([D.scr (ns.map .int)].map .p), tbls Ps nms⟩ = some (.rt (.p (.bl true)), s)) :
    PySem.W.WalkO q loose XP YP l.row.toRowW d [] (fun f vs => PySem.call f vs) := by
  refine Att.attach_callB hn hdf fun w s₀ s₁ mg mb fa o pm cd doc a vs ns G Y ho hd hcd hmg hobj hints hlen hbits hg => ?_
  have KX := hY w _ Y
  obtain ⟨fd, cs, hT, nT, C, nd, hln, hF, hbind, body⟩ := F w mg fa _ Y KX G.T.g hmg
  exact law_topT KX G.T.g G.T.b G.T.builtins G.T.nolimit hg hT nT C G.T.bmain hobj hints (Nat.le_trans hlen (by decide)) hr nd hln hF Sc hbind body (good (cs.map (·.2)) ns (by rw [List.length_map]; exact hln) hlen hbits)
/-! ### a def that makes lambdas: its code object is known -/
section
variable {P : Program} {w : World} {K : PySem.W.Frag} {mg : Str → Option Value} {base : Heap} {x qual : Str} {st : Stmt} {f : Addr} {fd : FuncData} {N ps : List Str} {k : Nat}
theorem Fun.okC {sp : Sp} (F : Fun K x qual st f fd) (S : FnScope N ps (defScope st)) (len : ∀ vs H Q E, sp vs H Q E → vs.length = ps.length)
    (hbody : ∀ (A : Around) (outer : List Env) (s : Shared) (H : Hp) (vs : List V) (Q : VK) (E : XK), Room k (A.deeper (envOfC qual (defScope st) s.heap.objs.size f fd.code)) → sp vs H Q E →
      ∃ t, PSs (cxOf (L2.CX P w) P w K mg base N qual (defScope st) f fd.code A outer s H E) (defBody st) t ∧ t { nx := fun _ H' => Q .non H', rt := Q } (start N vs) H) : FnOk P w K mg base (L2.CX P w) (k + 1) f fd ps sp := by
  obtain ⟨oc, od, kV, doc, pm, an, cdv, ct, osl, rfl, lk, hcd⟩ := F.ex
  exact fn_of lk hcd S len fun A outer s H vs Q E hr hsp => hbody A outer s H vs Q E hr hsp
theorem fnBC {m : SM} (F : Fun K x qual st f fd) (Sc : FnScope N ps (defScope st))
    (body : ∀ (A : Around) (outer : List Env) (s : Shared) (H : Hp) (E : XK), Room k (A.deeper (PyProof.Rows.envOfC qual (defScope st) s.heap.objs.size f fd.code)) →
      ∃ t, DSs K (cxOf (L2.CX P w) P w K mg base N qual (defScope st) f fd.code A outer s H E) (WE0 E) (defBody st) t m) : FnOk P w K mg base (L2.CX P w) (k + 1) f fd ps (spB K ps.length (runB N.length m)) := by
  refine Fun.okC F Sc spB_len fun A outer s H vs Q E hr h => ?_
  obtain ⟨hl, Z, I, M, ds, r, w0, rp, e, p⟩ := h
  obtain ⟨t, b⟩ := body A outer s H E hr
  refine ⟨t, b.ps, ?_⟩
  unfold runB at e
  cases z : m ⟨slotsOf N.length ds, M⟩ with
  | none => rw [z] at e; cases e
  | some fs =>
    rw [z] at e
    obtain ⟨fl, s1⟩ := fs
    refine b.so.ok (L2.start N vs) H ⟨slotsOf N.length ds, M⟩ Z I _ _ w0 (start_rep rp) z ?_
    cases fl with
    | nx =>
      cases e
      intro σ' Z' H' I' w' rs' x'
      obtain ⟨I2, w2, x2, r2, _⟩ := drop_ok (d := .p .non) (v := .non) w0 w' x' (show Rep K Z' .non .non from .non)
      exact p _ Z' H' I2 w2 x2 r2
    | rt d =>
      cases e
      intro v Z' H' I' w' x' r'
      obtain ⟨I2, w2, x2, r2, _⟩ := drop_ok w0 w' x' r'
      exact p v Z' H' I2 w2 x2 r2
    | ex c fs =>
      cases e
      intro σ' d Z' H' I' w' rs' x' ea na
      obtain ⟨I2, w2, x2, _, h2⟩ := drop_ok (d := .p .non) (v := .non) w0 w' x' (show Rep K Z' .non .non from .non)
      exact p d Z' H' I2 w2 x2 ea fun a q => ⟨(na a q).1, fun m => (na a q).2 (h2 a m)⟩
    | bk => cases e
    | ct => cases e
end
end DL
namespace DL
open PySem L2 PySem.W
/-! ### sorted(xs) of data -/
section
variable {X : Cx} {pins : List (Addr × Obj)} {σ : St} {H Z : Hp} {s : Shared}
theorem each_rep {K : PySem.W.Frag} {Z : Hp} : ∀ {us : List Value} {vs : List V} {ds : List D}, Vals vs us → RepA K Z vs ds → EachIs (fun u d => ∃ v, RelV v u ∧ Rep K Z v d) us ds
  | _, _, _, .nil, .nil => .nil
  | _, _, _, .cons r1 t1, .cons r2 t2 => .cons ⟨_, r1, r2⟩ (each_rep t1 t2)
theorem each_readsP (I : Inv X pins σ H s) (sz : Same Z H) : ∀ {us : List Value} {vs : List V} {ks : List D}, Vals vs us → RepA X.K Z vs ks → (∀ k ∈ ks, shp k = true) → EachIs (fun u d => ∃ as, Reads s.heap u (toP d) as) us ks
  | _, _, _, .nil, .nil, _ => .nil
  | _, _, _, .cons r1 t1, .cons (d := d) r2 t2, h => .cons (Dp.reads I (toP d) _ _ (r2.dp sz (shaped_can (h d List.mem_cons_self))) r1) (each_readsP I sz t1 t2 fun k hk => h k (List.mem_cons_of_mem _ hk))
theorem each_vals1 {K : PySem.W.Frag} {Z : Hp} : ∀ {us : List Value} {ps : List D}, EachIs (fun u d => ∃ v, RelV v u ∧ Rep K Z v d) us ps → ∃ vs, Vals vs us ∧ RepA K Z vs ps
  | _, _, .nil => ⟨[], .nil, .nil⟩
  | _, _, .cons h t => by
    obtain ⟨v, r1, r2⟩ := h
    obtain ⟨vs, q1, q2⟩ := each_vals1 t
    exact ⟨v :: vs, .cons r1 q1, .cons r2 q2⟩
noncomputable def sortL (ds : List D) : List D := ds.mergeSort (dataLe false toP)
noncomputable def dSort : D → Option D
  | .lst ds => if (ds.all shp && sortOk (toPs ds)) = true then some (.lst (sortL ds)) else none
  | _ => none
def rSortP (K : PySem.W.Frag) : List V → Hp → VK → Prop := fun vs H Q => ∃ (x : V) (Z : Hp) (d c : D), vs = [x] ∧ Same Z H ∧ Rep K Z x d ∧ dSort d = some c ∧ PostP K Z H c Q
theorem cr_sortP (hu : X.A.units + 67 < cLine) : CallR X (.builtin "sorted") (rSortP X.K) := by
  intro pins s σ H vs us Q I r h
  obtain ⟨x, Z, d, c, rfl, sz, hx, hd, p⟩ := h
  unfold dSort at hd
  split at hd
  · split at hd
    · rename_i ds hc
      cases hd
      rw [Bool.and_eq_true] at hc
      have hsp : ∀ k ∈ ds, shp k = true := fun k hk => List.all_eq_true.mp hc.1 k hk
      cases hx with
      | lst h1 h2 =>
        obtain ⟨its, rv, hl, hz⟩ := I.list (.inl (same_rd sz h1))
        rw [Vals.ref1 r]
        have hal : AllAlike (ds.map toP) := by rw [← toPs_map]; exact sortOk_like hc.2
        have hso : Sortable (ds.map toP) := by rw [← toPs_map]; exact sortOk_sortable hc.2
        refine sorted_data hl.isList (each_rep rv h2) (each_readsP I sz rv h2 hsp) hal hso (by rw [← h2.length]; exact hz) (fun b hb => ?_) fun out ho eo => ?_
        · have z := hsp b hb
          unfold shp at z
          rw [Bool.and_eq_true] at z
          have y := of_decide_eq_true z.2
          have dd : (toP b).depth = depD b := depD_dep b z.1
          rw [dd]; omega
        · obtain ⟨ov, o1, o2⟩ := each_vals1 eo
          obtain ⟨ep, he'⟩ := PyProof.Rows.sortedAll_at s.heap its out.toArray
          have hn : H (s.heap.objs.size + 1) = none := I.hok.fresh (Nat.le_succ _)
          have hlen : ov.length ≤ sizeLine := by rw [o1.length, ho, ← h2.length]; exact hz
          have xp := ExtP.new (o := .lst ov) sz hn
          exact ⟨.ref _, upd H (s.heap.objs.size + 1) (.lst ov), I.laid (t' := s.toks) (fun _ _ => PyProof.Rows.sortedAll_old) (Nat.le_succ _) ⟨hlen, out, ep, o1, he'⟩, rfl, p _ _ _ xp (.lst (.inl upd_same) (o2.mono xp.z))⟩
    · cases hd
  · cases hd
end
section
variable {K : PySem.W.Frag} {X : Cx} {W : WX} {e a b c tg : Expr} {es : List Expr} {pos : Pos}
theorem units67 {k : Nat} {A : Around} (r : Room k A) : A.units + 67 < cLine := by have := r.un; omega
theorem cd_sort (hu : X.A.units + 67 < cLine) : CallD K X (.builtin "sorted") (rSortP K) (g1 dSort) := ⟨fun k => by rw [← k]; exact cr_sortP hu, g1_ok fun x d c Z H Q s hx hg p => ⟨x, Z, d, c, rfl, s, hx, hg, p⟩⟩
/-! ### max(xs), min(xs) of ints -/
def intsD : List D → Option (List Int)
  | [] => some []
  | .int i :: r => (intsD r).map (i :: ·)
  | _ :: _ => none
theorem intsD_rep {Z : Hp} : ∀ {vs : List V} {ds : List D} {ns : List Int}, RepA K Z vs ds → intsD ds = some ns → vs = ns.map V.int
  | _, [], _, .nil, e => by cases e; rfl
  | _, .int i :: r, _, .cons h t, e => by
    have e : (intsD r).map (i :: ·) = some _ := e
    cases q : intsD r with
    | none => rw [q] at e; cases e
    | some ms => rw [q] at e; cases e; cases h; rw [intsD_rep t q]; rfl
  | _, .non :: _, _, .cons h t, e => by cases e
  | _, .bl _ :: _, _, .cons h t, e => by cases e
  | _, .str _ :: _, _, .cons h t, e => by cases e
  | _, .tup _ :: _, _, .cons h t, e => by cases e
  | _, .ktup _ :: _, _, .cons h t, e => by cases e
  | _, .lst _ :: _, _, .cons h t, e => by cases e
  | _, .klst _ :: _, _, .cons h t, e => by cases e
  | _, .dK _ :: _, _, .cons h t, e => by cases e
  | _, .dT _ :: _, _, .cons h t, e => by cases e
  | _, .fn _ :: _, _, .cons h t, e => by cases e
  | _, .clo _ _ :: _, _, .cons h t, e => by cases e
  | _, .scr _ :: _, _, .cons h t, e => by cases e
  | _, .ty _ :: _, _, .cons h t, e => by cases e
  | _, .rng _ _ :: _, _, .cons h t, e => by cases e
theorem intsD_map : ∀ ns : List Int, intsD (ns.map .int) = some ns
  | [] => rfl
  | n :: r => by show (intsD (r.map .int)).map (n :: ·) = _; rw [intsD_map r]; rfl
def maxI : List Int → Int
  | [] => 0
  | [x] => x
  | x :: r => if x < maxI r then maxI r else x
def minI : List Int → Int
  | [] => 0
  | [x] => x
  | x :: r => if minI r < x then minI r else x
theorem maxI_ge : ∀ (l : List Int) (y : Int), y ∈ l → y ≤ maxI l
  | [x], y, h => by simp at h; rw [h]; exact Int.le_refl _
  | x :: z :: r, y, h => by
    have ih := maxI_ge (z :: r)
    show y ≤ if x < maxI (z :: r) then maxI (z :: r) else x
    rcases List.mem_cons.mp h with h | h
    · subst h; split <;> omega
    · have := ih y h; split <;> omega
theorem maxI_mem : ∀ l : List Int, l ≠ [] → maxI l ∈ l
  | [x], _ => by simp [maxI]
  | x :: z :: r, _ => by
    have ih := maxI_mem (z :: r) (by simp)
    show (if x < maxI (z :: r) then maxI (z :: r) else x) ∈ _
    split
    · exact List.mem_cons_of_mem _ ih
    · simp
theorem minI_le : ∀ (l : List Int) (y : Int), y ∈ l → minI l ≤ y
  | [x], y, h => by simp at h; rw [h]; exact Int.le_refl _
  | x :: z :: r, y, h => by
    have ih := minI_le (z :: r)
    show (if minI (z :: r) < x then minI (z :: r) else x) ≤ y
    rcases List.mem_cons.mp h with h | h
    · subst h; split <;> omega
    · have := ih y h; split <;> omega
theorem minI_mem : ∀ l : List Int, l ≠ [] → minI l ∈ l
  | [x], _ => by simp [minI]
  | x :: z :: r, _ => by
    have ih := minI_mem (z :: r) (by simp)
    show (if minI (z :: r) < x then minI (z :: r) else x) ∈ _
    split
    · exact List.mem_cons_of_mem _ ih
    · simp
def dMaxL : D → Option D
  | .lst ds => match intsD ds with
    | some (n :: ns) => some (.int (maxI (n :: ns)))
    | _ => none
  | _ => none
def dMinL : D → Option D
  | .lst ds => match intsD ds with
    | some (n :: ns) => some (.int (minI (n :: ns)))
    | _ => none
  | _ => none
theorem cd_maxL (hc : X.calm = true) : CallD K X (.builtin "max") (rMax K) (g1 dMaxL) := ⟨fun k => by rw [← k]; exact cr_max hc, g1_ok fun x d c Z H Q s hx hg p => by
  unfold dMaxL at hg
  split at hg
  · split at hg
    · rename_i n ns q
      cases hg
      cases hx with
      | lst h1 h2 =>
        have e := intsD_rep h2 q
        refine ⟨_, n :: ns, rfl, by rw [← e]; exact .inl (same_rd s h1), by simp, fun m hm hy => ?_⟩
        have h3 := hy _ (maxI_mem (n :: ns) (by simp))
        have h4 := maxI_ge (n :: ns) m hm
        have : m = maxI (n :: ns) := by omega
        rw [this]; exact p _ Z H (ExtP.refl s) (.int _)
    · cases hg
  · cases hg⟩
theorem cd_minL (hc : X.calm = true) : CallD K X (.builtin "min") (rMin K) (g1 dMinL) := ⟨fun k => by rw [← k]; exact cr_min hc, g1_ok fun x d c Z H Q s hx hg p => by
  unfold dMinL at hg
  split at hg
  · split at hg
    · rename_i n ns q
      cases hg
      cases hx with
      | lst h1 h2 =>
        have e := intsD_rep h2 q
        refine ⟨_, n :: ns, rfl, by rw [← e]; exact .inl (same_rd s h1), by simp, fun m hm hy => ?_⟩
        have h3 := hy _ (minI_mem (n :: ns) (by simp))
        have h4 := minI_le (n :: ns) m hm
        have : m = minI (n :: ns) := by omega
        rw [this]; exact p _ Z H (ExtP.refl s) (.int _)
    · cases hg
  · cases hg⟩
/-! ### list(x): a new list -/
def dList : D → Option D
  | .lst xs => some (.lst xs)
  | .klst xs => some (.lst xs)
  | .tup xs => some (.lst xs)
  | .ktup xs => some (.lst xs)
  | _ => none
def dTuple : D → Option D
  | .lst xs => some (.tup xs)
  | .klst xs => some (.tup xs)
  | .tup xs => some (.tup xs)
  | .ktup xs => some (.ktup xs)
  | _ => none
theorem cd_list : CallD K X (.type "list") (fun xs H Q => ∃ p ys, xs = [.ref p] ∧ (SqL K H p ys ∨ SqT K H p ys) ∧ ∀ l, H l = none → Q (.ref l) (upd H l (.lst ys))) (g1 dList) := ⟨fun k => by rw [← k]; exact call_list_of, g1_ok fun x d c Z H Q s hx hg p => by
  have main : ∀ {a : Addr} {vs : List V} {ds : List D}, (SqL K H a vs ∨ SqT K H a vs) → RepA K Z vs ds → PostP K Z H (.lst ds) Q → ∃ p ys, [V.ref a] = [V.ref p] ∧ (SqL K H p ys ∨ SqT K H p ys) ∧ ∀ l, H l = none → Q (.ref l) (upd H l (.lst ys)) := fun h r p =>
    ⟨_, _, rfl, h, fun l hl => p _ _ _ (ExtP.new s hl) (.lst (.inl upd_same) (r.mono (ExtP.new s hl).z))⟩
  cases hx with
  | lst h1 h2 => cases hg; exact main (.inl (.inl (same_rd s h1))) h2 p
  | klst h1 h2 => cases hg; exact main (.inl (same_l s h1)) h2 p
  | tup h1 h2 => cases hg; exact main (.inr (sqt s h1)) h2 p
  | ktup h1 h2 => cases hg; exact main (.inr (same_t s h1)) h2 p
  | _ => cases hg⟩
theorem cd_tuple : CallD K X (.type "tuple") (fun xs H Q => ∃ p ys, xs = [.ref p] ∧ ((SqL K H p ys ∧ ∀ l, H l = none → Q (.ref l) (upd H l (.tup ys))) ∨ (SqT K H p ys ∧ Q (.ref p) H))) (g1 dTuple) := ⟨fun k => by rw [← k]; exact call_tuple_of, g1_ok fun x d c Z H Q s hx hg p => by
  cases hx with
  | lst h1 h2 => cases hg; exact ⟨_, _, rfl, .inl ⟨.inl (same_rd s h1), fun l hl => p _ _ _ (ExtP.new s hl) (.tup upd_same (h2.mono (ExtP.new s hl).z))⟩⟩
  | klst h1 h2 => cases hg; exact ⟨_, _, rfl, .inl ⟨same_l s h1, fun l hl => p _ _ _ (ExtP.new s hl) (.tup upd_same (h2.mono (ExtP.new s hl).z))⟩⟩
  | tup h1 h2 => cases hg; exact ⟨_, _, rfl, .inr ⟨sqt s h1, p _ Z H (ExtP.refl s) (.tup h1 h2)⟩⟩
  | ktup h1 h2 => cases hg; exact ⟨_, _, rfl, .inr ⟨same_t s h1, p _ Z H (ExtP.refl s) (.ktup h1 h2)⟩⟩
  | _ => cases hg⟩
/-! ### bits -/
def dShl : D → D → Option D := dI fun i j => if 0 ≤ j ∧ j ≤ 100000 ∧ Builtin.Int.intBits i ≤ 100000 then some (.int (i * 2 ^ j.toNat)) else none
def dBand : D → D → Option D := dIi Builtin.bitAnd
def dBor : D → D → Option D := dIi Builtin.bitOr
def dBxor : D → D → Option D := dIi Builtin.bitXor
theorem od_shl : OpD K X (binaryOp .LShift) (rI CShl fun i j => .int (i * 2 ^ j.toNat)) dShl := ⟨fun _ => op_shlW, ok_rI fun i j c h => by
  split at h
  · rename_i hc
    cases h
    refine ⟨⟨hc.1, ?_⟩, fun _ => .int _⟩
    have : (2 : Int) ^ 27 = 134217728 := by decide
    omega
  · cases h⟩
theorem od_band : OpD K X (binaryOp .BitAnd) (rI0 fun i j => .int (Builtin.bitAnd i j)) dBand := ⟨fun _ => op_and, ok_rI0 fun i j c h Z => by cases h; exact .int _⟩
theorem od_bor : OpD K X (binaryOp .BitOr) (rI0 fun i j => .int (Builtin.bitOr i j)) dBor := ⟨fun _ => op_or, ok_rI0 fun i j c h Z => by cases h; exact .int _⟩
theorem od_bxor : OpD K X (binaryOp .BitXor) (rI0 fun i j => .int (Builtin.bitXor i j)) dBxor := ⟨fun _ => op_xor, ok_rI0 fun i j c h Z => by cases h; exact .int _⟩
def dInv : D → Option D
  | .int i => some (.int (Builtin.bitNot i))
  | _ => none
theorem de_inv {ta : TE} {m : EM} (ha : DE K X W a ta m) : DE K X W (.UnaryOp .Invert a pos) (tUn (rU fun i => .int (Builtin.bitNot i)) ta) (mUn dInv m) :=
  ⟨ha.k, pe_un un_inv ha.pe, so_un (fun x d c Z H Q s hx hg p => by
    unfold dInv at hg
    split at hg
    · cases hx; cases hg; exact ⟨_, rfl, p _ Z H (ExtP.refl s) (.int _)⟩
    · cases hg) ha.so⟩
/-! ### enumerate, reversed(range(..)) -/
def enumD : List D → Nat → List DV
  | [], _ => []
  | d :: r, i => .p (.tup [.int (i : Nat), d]) :: enumD r (i + 1)
theorem enumD_get : ∀ {ds : List D} {j i : Nat} {x : DV}, (enumD ds j)[i]? = some x → ∃ d, ds[i]? = some d ∧ x = .p (.tup [.int ((j + i : Nat)), d])
  | [], _, _, _, h => by simp [enumD] at h
  | d :: r, j, 0, x, h => by simp [enumD] at h; exact ⟨d, rfl, h.symm⟩
  | d :: r, j, i + 1, x, h => by
    obtain ⟨d', h1, h2⟩ := enumD_get (ds := r) (j := j + 1) (i := i) (by simpa [enumD] using h)
    exact ⟨d', by simpa using h1, by rw [h2, Nat.add_assoc, Nat.add_comm 1 i]⟩
theorem enumD_len : ∀ (ds : List D) (j : Nat), (enumD ds j).length = ds.length
  | [], _ => rfl
  | d :: r, j => by show (enumD r (j + 1)).length + 1 = r.length + 1; rw [enumD_len r]
def enumG : List DV → Option (List DV)
  | [.p (.lst xs)] => some (enumD xs 0)
  | _ => none
def mEnum (ms : AM) : IM := bnd ms fun ds s => match enumG ds with
  | some xs => some (.ok xs s.m)
  | none => none
theorem di_enum {p tpos : Pos} {elts : List Expr} {kk : Nat} {ta : TA} {ms : AM} (hm : X.mg "enumerate" = none) (h : DA K X W [e] ta ms) (hg : Gl X "enumerate" := by rfl) (hs : starEach [e] X.env = [(false, eval e X.env)] := by rfl) :
    DI K X W (.Tuple elts kk tpos) (.Call (.Name "enumerate" p) [e] [] pos) (iEnum K ta) (mEnum ms) := by
  refine ⟨h.k, ?_, ⟨fun σ H s Z I r0 Q w rs e1 p1 => ?_⟩⟩
  · rw [← h.k]; exact pi_enum hg hm h.pa hs
  · refine h.so.bnd w rs e1 p1.x fun ds vs M1 Z1 H1 I1 w1 rs1 x1 q1 e2 => ?_
    have e2 : (match enumG ds with | some xs => some (Rs.ok xs M1) | none => none) = some r0 := e2
    cases z : enumG ds with
    | none => rw [z] at e2; cases e2
    | some out =>
    rw [z] at e2; cases e2
    unfold enumG at z
    split at z
    · rename_i xs
      cases z
      cases q1 with
      | cons g1 g2 =>
      cases g2
      have g1 : Rep K Z1 _ (.lst xs) := g1
      cases g1 with
      | lst h1 h2 =>
        rename_i a us
        refine ⟨a, us, rfl, .inl (same_rd w1.sub h1), p1 _ Z1 H1 I1 w1 x1 fun Z' H' I' z _ s' i => ⟨fun d hd => ?_, fun hl => ⟨us, .inl (same_rd s' (same_rd z h1)), by rw [h2.length]; rw [enumD_len] at hl; exact hl⟩⟩⟩
        obtain ⟨y, hy, rfl⟩ := enumD_get hd
        obtain ⟨v, hv, rv⟩ := h2.get hy
        have hq : SqL K H' a us := .inl (same_rd s' (same_rd z h1))
        refine ⟨⟨us, v, hq, hv⟩, fun x H2 hx => ?_⟩
        obtain ⟨T, u, rfl, hT, rfl, hu⟩ := hx
        have := hu us hq
        rw [hv] at this
        cases this
        have xp := ExtP.new (o := .tup [.int (i : Nat), v]) s' hT
        refine ⟨_, xp, .tup upd_same (.cons ?_ (.cons ((rv.mono z).mono xp.z) .nil))⟩
        rw [Nat.zero_add]; exact .int _
    · cases z
def downFrom (n : Nat) : List DV := (List.range n).map fun (i : Nat) => .p (.int ((n : Int) - 1 - (i : Int)))
def revG : D → Option (List DV)
  | .int n => if rngOk n = true then some (downFrom n.toNat) else none
  | _ => none
def mRev1 (m : EM) : IM := mItD revG m
theorem di_rev1 {p p2 rpos : Pos} (hm : X.mg "reversed" = none) (hm2 : X.mg "range" = none) {te : TE} {m : EM} (h : DE K X W a te m) (hg : Gl X "reversed" := by rfl) (hg2 : Gl X "range" := by rfl) (hs : starEach [.Call (.Name "range" p2) [a] [] rpos] X.env = (false, eval (.Call (.Name "range" p2) [a] [] rpos) X.env) :: starEach [] X.env := by rfl) (hs2 : starEach [a] X.env = (false, eval a X.env) :: starEach [] X.env := by rfl) :
    DI K X W tg (.Call (.Name "reversed" p) [.Call (.Name "range" p2) [a] [] rpos] [] pos) (iRevR (tRg1 te)) (mRev1 m) := by
  refine ⟨h.k, pi_revR hg hm (prg_1 hg2 hm2 h.pe hs2) hs, ⟨fun σ H s Z I r0 Q w rs e1 p1 => ?_⟩⟩
  refine h.so.bnd w rs e1 p1.x fun d v M1 Z1 H1 I1 w1 rs1 x1 q1 e2 => ?_
  obtain ⟨d, rfl, e2⟩ := pur_ok e2
  have e2 : (match revG d with | some ds => some (Rs.ok ds M1) | none => none) = some r0 := e2
  cases z : revG d with
  | none => rw [z] at e2; cases e2
  | some out =>
  rw [z] at e2; cases e2
  unfold revG at z
  clear e1 e2
  split at z
  · split at z
    · rename_i n hb
      cases z
      have q1 : Rep K Z1 v (.int n) := q1
      cases q1
      obtain ⟨b1, b2⟩ := rng_bound hb
      refine ⟨n, rfl, by decide, by decide, b1, b2, p1 _ Z1 H1 I1 w1 x1 fun Z' H' I' z _ s' i => ⟨fun d hd => ?_, fun hl => ?_⟩⟩
      · unfold downFrom at hd
        rw [List.getElem?_map] at hd
        cases q : (List.range n.toNat)[i]? with
        | none => rw [q] at hd; cases hd
        | some j =>
          rw [q] at hd
          have hi : i < n.toNat := by simpa using (List.getElem?_eq_some_iff.mp q).1
          have ej : j = i := by
            rw [List.getElem?_range hi] at q
            exact (Option.some.inj q).symm
          subst ej
          cases hd
          refine ⟨by show j < (n - 0).toNat; rw [Int.sub_zero]; exact hi, fun x H2 hx => ?_⟩
          obtain ⟨rfl, rfl⟩ := hx
          refine ⟨Z', ExtP.refl s', ?_⟩
          have e : (0 : Int) + (((n - 0).toNat : Nat) : Int) - 1 + (j : Nat) * (-1) = ((n.toNat : Nat) : Int) - 1 - (j : Int) := by rw [Int.sub_zero]; omega
          show Rep K Z' (.int _) (.int _)
          rw [e]; exact .int _
      · show (n - 0).toNat ≤ i
        rw [Int.sub_zero]
        simpa [downFrom] using hl
    · cases z
  · cases z
end
end DL
namespace DL
open PySem L2
/-- a list of the module -/
theorem rep_klst {K : PySem.W.Frag} {a : Addr} {its : Array Value} {z : Nat} {w : Array (Option Value)} {Z : Hp} {xs : List V} {ds : List D} (l : K.lookup a = some ⟨.type "list", none, .seq its z, w⟩) (hz : its.size ≤ sizeLine) (v : Vals xs its.toList) (r : RepA K Z xs ds) : Rep K Z (.ref a) (.klst ds) :=
  .klst (.inr ⟨_, its, z, l, rfl, rfl, rfl, hz, v⟩) r
/-- the name of the lambdas of a def -/
def lamq (x : Str) : Str := x ++ ".<locals>." ++ "<lambda>"
/-- the table of a code object of the written part -/
def codeTab (K : PySem.W.Frag) (c : Addr) : Addr := match K.lookup c with
  | some ⟨_, _, .fields vs, _⟩ => match (vs[11]? : Option Value) with
    | some (.ref P) => P
    | _ => 0
  | _ => 0
theorem tb_of {base : Heap} {mg : Str → Option Value} {cs : List (Addr × Addr)} {i : Nat} {c P : Addr} (hB : ∀ p ∈ cs, LamX.TabB base mg p.1 p.2) (h : cs[i]? = some (c, P)) : LamX.TabB base mg c ((cs.map (·.2)).getD i 0) := by
  have e : (cs.map (·.2)).getD i 0 = P := by
    rw [List.getD_eq_getElem?_getD, List.getElem?_map, h]; rfl
  rw [e]
  exact hB _ (List.mem_of_getElem? h)
end DL
namespace DL
open PySem L2
/-! ### equations and steps that no law owns: numbers of a list that pass a test, comprehensions, statements one by one, draws behind a table -/
theorem en_int (i : Int) : (En.en i : D) = .int i := rfl
theorem en_pr {α β : Type} [DecidableEq α] [DecidableEq β] [En α] [En β] (x : α) (y : β) : (En.en (x, y) : D) = .tup [En.en x, En.en y] := rfl
theorem en_ls {α : Type} [DecidableEq α] [En α] (l : List α) : (En.en l : D) = .lst (l.map En.en) := rfl
theorem rng_ok {i : Int} (h : -1000000 ≤ i) (h2 : i ≤ 1000000) : rngOk i = true := by unfold rngOk; simp; omega
def enO {α : Type} [DecidableEq α] [En α] : Option α → D
  | some a => En.en a
  | none => .non
def lastP (p : Nat → Bool) : Nat → Option Nat
  | 0 => none
  | n + 1 => if p n = true then some n else lastP p n
def idxP (p : Nat → Bool) (n : Nat) : List Nat := (List.range n).filter p
theorem idx_last (p : Nat → Bool) : ∀ n, (idxP p n).getLast? = lastP p n
  | 0 => rfl
  | n + 1 => by
    unfold idxP lastP
    rw [List.range_succ, List.filter_append]
    by_cases h : p n = true
    · simp [h]
    · have := idx_last p n
      unfold idxP at this
      simp [h, this]
theorem lastP_some (p : Nat → Bool) (j : Nat) : ∀ n, lastP p n = some j → j < n ∧ p j = true ∧ ∀ k, j < k → k < n → p k = false
  | 0, h => by cases h
  | n + 1, h => by
    unfold lastP at h
    split at h
    · cases h; rename_i q; exact ⟨by omega, q, fun k h1 h2 => by omega⟩
    · rename_i q
      obtain ⟨h1, h2, h3⟩ := lastP_some p j n h
      refine ⟨by omega, h2, fun k h4 h5 => ?_⟩
      by_cases e : k = n
      · rw [e]; simpa using q
      · exact h3 k h4 (by omega)
theorem lastP_ex (p : Nat → Bool) : ∀ n j, j < n → p j = true → ∃ i, lastP p n = some i
  | 0, _, h, _ => by omega
  | n + 1, j, h, hp => by
    unfold lastP
    by_cases q : p n = true
    · exact ⟨n, if_pos q⟩
    · rw [if_neg q]
      by_cases e : j = n
      · rw [e] at hp; exact absurd hp q
      · exact lastP_ex p n j (by omega) hp
theorem at_last {α : Type} (xs : List α) : atI xs (-1) = xs.getLast? := by
  unfold atI ixN
  cases xs with
  | nil => rfl
  | cons x r =>
    rw [if_neg (by omega), if_pos (by simp; omega)]
    show (x :: r)[(((x :: r).length : Int) + -1).toNat]? = _
    rw [List.getLast?_eq_getElem?]
    congr 1
    simp only [List.length_cons]
    omega
def natD (i : Nat) : D := .int (i : Int)
def pdI (p : Nat → Bool) : DV → Bool
  | .p (.int i) => p i.toNat
  | .p (.tup [.int i, _]) => p i.toNat
  | _ => false
def fdI : DV → D
  | .p (.int i) => .int i
  | .p (.tup [.int i, _]) => .int i
  | _ => .non
theorem ints_idx (p : Nat → Bool) (n : Nat) : ((DL.intsFrom 0 n).filter (pdI p)).map fdI = (idxP p n).map natD := by
  unfold DL.intsFrom idxP
  rw [List.filter_map, List.map_map]
  have e1 : (pdI p ∘ fun (i : Nat) => DV.p (.int (0 + (i : Int)))) = p := by
    funext i
    show p (0 + (i : Int)).toNat = p i
    congr 1; omega
  rw [e1]
  refine List.map_congr_left fun i _ => ?_
  show D.int (0 + (i : Int)) = .int i
  congr 1; omega
theorem enum_idx' (p : Nat → Bool) : ∀ (ds : List D) (j : Nat), ((enumD ds j).filter (pdI p)).map fdI = ((List.range' j ds.length).filter p).map natD
  | [], j => rfl
  | d :: ds, j => by
    show ((DV.p (.tup [.int (j : Nat), d]) :: enumD ds (j + 1)).filter (pdI p)).map fdI = _
    rw [List.length_cons, List.range'_succ, List.filter_cons, List.filter_cons]
    have e : pdI p (DV.p (.tup [.int (j : Nat), d])) = p j := rfl
    rw [e]
    by_cases h : p j = true
    · rw [if_pos h, if_pos h, List.map_cons, List.map_cons, enum_idx' p ds (j + 1)]; rfl
    · rw [if_neg h, if_neg h, enum_idx' p ds (j + 1)]
theorem enum_idx (p : Nat → Bool) (ds : List D) : ((enumD ds 0).filter (pdI p)).map fdI = (idxP p ds.length).map natD := by
  rw [enum_idx', ← List.range_eq_range']; rfl
theorem at_en {α : Type} [DecidableEq α] [En α] (l : List α) {i : Int} {x : α} (h0 : 0 ≤ i) (h : l[i.toNat]? = some x) : atI (l.map En.en) i = some (En.en x : D) := atI_nat' h0 (by rw [List.getElem?_map, h]; rfl)
theorem rlenJ (i : Nat) (n : Nat) (j : Int) (d : D) (l : List (Option DV)) (M : List O) (h1 : mVar i ⟨l, M⟩ = some (.ok (.p d) M)) (h2 : dLen M [.p d] = some (.int j)) (g : rngOk j = true) (hj : j.toNat = n) : mRng rng1D (aCons (mCB dLen (aCons (mVar i) aNil)) aNil) ⟨l, M⟩ = some (.ok (DL.intsFrom 0 n) M) := by
  have e1 : mCB dLen (aCons (mVar i) aNil) ⟨l, M⟩ = some (.ok (.p (.int j)) M) := by
    rw [e_cb, e_bnd, e_aCons, e_bnd, h1]
    simp [e_bnd, h2, -e_len]
  rw [e_rng, e_bnd, e_aCons, e_bnd, e1]
  simp [e_bnd, g, hj]
theorem rlen (i : Nat) (n : Nat) (d : D) (l : List (Option DV)) (M : List O) (h1 : mVar i ⟨l, M⟩ = some (.ok (.p d) M)) (h2 : lenD d = some n) (g : n ≤ 1000000) : mRng rng1D (aCons (mCB dLen (aCons (mVar i) aNil)) aNil) ⟨l, M⟩ = some (.ok (DL.intsFrom 0 n) M) := by
  refine rlenJ i n (n : Int) d l M h1 ?_ (rng_ok (by omega) (by omega)) (Int.toNat_natCast n)
  rw [e_len, e_lenp, h2, Option.map_some]
theorem lcs (it : IM) (vs : List Nat) (g : GM) (t e : EM) (s : S) (ds : List DV) (xs : List D) (h : it s = some (.ok ds s.m)) (h2 : compL (wipeL s.l vs) g t e ds [] s.m = some (xs, s.m)) : mLc it vs g t e s = some (.ok (.p (.lst xs)) s.m) := by
  rw [e_lc, e_bnd, h]
  show (match compL (wipeL s.l vs) g t e ds [] s.m with | some (acc, M) => some (Rs.ok (DV.p (D.lst acc)) M) | none => none) = _
  rw [h2]
theorem ix_neg (m : EM) (s : S) (xs : List D) (z : D) (h : atI xs (-1) = some z) (e2 : m s = some (.ok (.p (.lst xs)) s.m)) : mIx m (mUn dNeg (mC (.int 1))) s = some (.ok (.p z) s.m) := by
  rw [e_ix, e_bnd, e2]
  have hneg : dNeg (.int 1) = some (.int (-1)) := rfl
  simp [e_bnd, hneg, h]
theorem runA_ret (n : Nat) (m : EM) (ds : List D) (z : D) (h : m ⟨slotsOf n (ds.map .p), []⟩ = some (.ok (.p z) [])) : runA n (sRet m) ds = some (.ok z) := by
  rw [e_runA, e_sret, e_lift, h]
theorem maxI_idx (p : Nat → Bool) (n i : Nat) (h : lastP p n = some i) : dMaxL (.lst ((idxP p n).map natD)) = some (.int i) := by
  have hne : (idxP p n).map (fun (i : Nat) => (i : Int)) ≠ [] := by
    intro e
    rw [List.map_eq_nil_iff] at e
    rw [← idx_last, e] at h; cases h
  have e1 : (idxP p n).map natD = ((idxP p n).map (fun (i : Nat) => (i : Int))).map .int := by rw [List.map_map]; rfl
  have hm := maxI_mem _ hne
  have hg := maxI_ge ((idxP p n).map (fun (i : Nat) => (i : Int)))
  obtain ⟨h1, h2, h3⟩ := lastP_some _ _ _ h
  have hi : (i : Int) ∈ (idxP p n).map (fun (i : Nat) => (i : Int)) := List.mem_map.mpr ⟨i, List.mem_filter.mpr ⟨List.mem_range.mpr h1, h2⟩, rfl⟩
  obtain ⟨j, hj, ej⟩ := List.mem_map.mp hm
  have hj2 := List.mem_filter.mp hj
  have hle := hg _ hi
  have : j = i := by
    rcases Nat.lt_or_ge i j with q | q
    · have := h3 j q (List.mem_range.mp hj2.1)
      rw [this] at hj2; exact absurd hj2.2 (by decide)
    · omega
  rw [e1]
  unfold dMaxL
  simp only [intsD_map]
  cases hz : (idxP p n).map (fun (i : Nat) => (i : Int)) with
  | nil => exact absurd hz hne
  | cons a l =>
    rw [hz] at ej
    dsimp only
    rw [← ej, this]
def unP : DV → D
  | .p d => d
  | _ => .non
theorem down_succ (n : Nat) : downFrom (n + 1) = .p (.int n) :: downFrom n := by
  unfold downFrom
  rw [List.range_succ_eq_map, List.map_cons, List.map_map]
  congr 1
  · congr 2; omega
  · refine List.map_congr_left fun i _ => ?_
    show DV.p (.int _) = .p (.int _)
    congr 2; simp; omega
def lx {α : Type} (a b : α → Int) (p q : α) : Bool := decide (a p < a q ∨ (a p = a q ∧ b p ≤ b q))
theorem lx_iff {α : Type} {a b : α → Int} {p q : α} : lx a b p q = true ↔ a p < a q ∨ (a p = a q ∧ b p ≤ b q) := decide_eq_true_iff
theorem lx_pw {α : Type} (a b : α → Int) (l : List α) : (l.mergeSort (lx a b)).Pairwise fun p q => lx a b p q = true := by
  refine List.pairwise_mergeSort (fun x y z h1 h2 => ?_) (fun x y => ?_) l
  · rw [lx_iff] at *; omega
  · rw [Bool.or_eq_true, lx_iff, lx_iff]; omega
theorem all_shp {α : Type} [DecidableEq α] [En α] (h : En.dp α ≤ 64) (l : List α) : (l.map En.en).all shp = true := by
  rw [List.all_eq_true]
  intro d hd
  obtain ⟨a, _, rfl⟩ := List.mem_map.mp hd
  exact shp_en a h
theorem revJ (i : Nat) (n : Nat) (j : Int) (d : D) (l : List (Option DV)) (M : List O) (h1 : mVar i ⟨l, M⟩ = some (.ok (.p d) M)) (h2 : dLen M [.p d] = some (.int j)) (g : rngOk j = true) (hj : j.toNat = n) : mRev1 (mCB dLen (aCons (mVar i) aNil)) ⟨l, M⟩ = some (.ok (downFrom n) M) := by
  have e1 : mCB dLen (aCons (mVar i) aNil) ⟨l, M⟩ = some (.ok (.p (.int j)) M) := by
    rw [e_cb, e_bnd, e_aCons, e_bnd, h1]
    simp [e_bnd, h2, -e_len]
  have q3 : revG (.int j) = some (downFrom n) := by
    show (if rngOk j = true then some (downFrom j.toNat) else none) = _
    rw [if_pos g, hj]
  unfold mRev1
  rw [e_itD, e_bnd, e1]
  show (match revG (.int j) with | some ds => some (Rs.ok ds M) | none => none) = _
  rw [q3]
theorem seq_asg (m : EM) (g : GM) (k : SM) (s s1 : S) (d : DV) (M : List O) (h1 : m s = some (.ok d M)) (h2 : g d ⟨s.l, M⟩ = some s1) : sSeq (sAsg m g) k s = k s1 := by
  rw [e_seq, e_asg, e_lift, h1]
  show (match (match g d ⟨s.l, M⟩ with | some s1 => some (Fl.nx, s1) | none => none) with | some (.nx, s1) => k s1 | r => r) = _
  rw [h2]
theorem seq_for (it : IM) (g : GM) (b k : SM) (s s1 : S) (ds : List DV) (r : Fl × S) (h1 : it s = some (.ok ds s.m)) (h2 : loopS g b ds s = some (.nx, s1)) (h3 : k s1 = some r) : sSeq (sFor it g b) k s = some r := by
  rw [e_seq, e_for, e_lift, h1]
  show (match loopS g b ds s with | some (.nx, s1) => k s1 | r => r) = _
  rw [h2]
  exact h3
theorem loop_step (g : GM) (b : SM) (d : DV) (ds : List DV) (s s1 s2 : S) (h1 : g d s = some s1) (h2 : b s1 = some (.nx, s2)) : loopS g b (d :: ds) s = loopS g b ds s2 := by
  rw [loopS_cons, h1]
  show (match b s1 with | none => none | some (.nx, s2) => loopS g b ds s2 | some (.ct, s2) => loopS g b ds s2 | some (.bk, s2) => some (.nx, s2) | some (.rt v, s2) => some (.rt v, s2) | some (.ex c f, s2) => some (.ex c f, s2)) = _
  rw [h2]
theorem map_comp {α β : Type} [DecidableEq α] [En α] [DecidableEq β] [En β] {l : List (Option DV)} {g : GM} {e : EM} {M : List O} (f : α → β) (ds : List α) (h : ∀ a, ∃ s1 : S, g (.p (En.en a)) ⟨l, M⟩ = some s1 ∧ s1.m = M ∧ e s1 = some (.ok (.p (En.en (f a))) M)) (hl : ds.length ≤ 1000000) : compL l g tYesM e ((ds.map En.en).map .p) [] M = some ((ds.map f).map En.en, M) := by
  have main : ∀ (ds : List α) (acc : List D), acc.length + ds.length ≤ 1000000 → compL l g tYesM e ((ds.map En.en).map .p) acc M = some (acc ++ (ds.map f).map En.en, M) := by
    intro ds
    induction ds with
    | nil => intro acc _; simp [compL]
    | cons a ds ih =>
      intro acc hn
      simp only [List.length_cons] at hn
      obtain ⟨s1, h1, h2, h3⟩ := h a
      show compL _ _ _ _ (.p (En.en a) :: (ds.map En.en).map .p) acc M = _
      unfold compL
      rw [h1]
      have q : tYesM s1 = some (.ok (.p (.bl true)) s1.m) := rfl
      dsimp only
      rw [q]
      dsimp only
      have q2 : e ⟨s1.l, s1.m⟩ = some (.ok (.p (En.en (f a))) M) := h3
      rw [q2]
      dsimp only
      rw [if_pos (by omega), ih _ (by simp; omega)]
      simp
  have := main ds [] (by simpa using hl)
  simpa using this
theorem lcsD (i : Nat) (vs : List Nat) (g : GM) (e : EM) (l : List (Option DV)) (M : List O) (ds xs : List D) (h : gv l i = some (.p (.lst ds))) (h2 : compL (wipeL l vs) g tYesM e (ds.map .p) [] M = some (xs, M)) : mLc (mItD itL (mVar i)) vs g tYesM e ⟨l, M⟩ = some (.ok (.p (.lst xs)) M) := by
  refine lcs _ vs g _ e ⟨l, M⟩ (ds.map .p) xs ?_ h2
  simp [e_bnd, h]
theorem bit_sub (N m : Nat) : ∀ k, (N - (N &&& m)).testBit k = (N.testBit k && !m.testBit k)
  | 0 => by
    rw [Nat.testBit_zero, Nat.testBit_zero, Nat.testBit_zero]
    have h1 : (N &&& m) % 2 = 1 ↔ N % 2 = 1 ∧ m % 2 = 1 := Nat.and_mod_two_eq_one
    have h2 : N &&& m ≤ N := Nat.and_le_left
    rw [Bool.eq_iff_iff, Bool.and_eq_true, decide_eq_true_eq, decide_eq_true_eq, Bool.not_eq_true', decide_eq_false_iff_not]
    omega
  | k + 1 => by
    rw [Nat.testBit_succ, Nat.testBit_succ, Nat.testBit_succ, ← bit_sub (N / 2) (m / 2) k]
    have h1 : (N &&& m) % 2 = 1 ↔ N % 2 = 1 ∧ m % 2 = 1 := Nat.and_mod_two_eq_one
    have h2 : N &&& m ≤ N := Nat.and_le_left
    have h3 : (N &&& m) / 2 = N / 2 &&& m / 2 := Nat.and_div_two
    rw [← h3]
    congr 1
    omega
theorem bor_nat (N m : Nat) : Builtin.bitOr (N : Int) (m : Int) = ((N ||| m : Nat) : Int) := by
  unfold Builtin.bitOr Builtin.bitAnd Builtin.bitNot
  have h1 : decide (0 ≤ -(N : Int) - 1) = false := by simp; omega
  have h2 : decide (0 ≤ -(m : Int) - 1) = false := by simp; omega
  rw [h1, h2]
  dsimp only
  have e1 : (-(-(N : Int) - 1) - 1).toNat = N := by omega
  have e2 : (-(-(m : Int) - 1) - 1).toNat = m := by omega
  rw [e1, e2]
  omega
theorem bandn_nat (N m : Nat) : Builtin.bitAnd (N : Int) (Builtin.bitNot (m : Int)) = ((N - (N &&& m) : Nat) : Int) := by
  unfold Builtin.bitAnd Builtin.bitNot
  have h1 : decide (0 ≤ (N : Int)) = true := by simp
  have h2 : decide (0 ≤ -(m : Int) - 1) = false := by simp; omega
  rw [h1, h2]
  dsimp only
  have e2 : (-(-(m : Int) - 1) - 1).toNat = m := by omega
  rw [e2, Int.toNat_natCast]
  have h2 : N &&& m ≤ N := Nat.and_le_left
  omega
theorem band_nat (N m : Nat) : Builtin.bitAnd (N : Int) (m : Int) = ((N &&& m : Nat) : Int) := by
  unfold Builtin.bitAnd
  have h1 : decide (0 ≤ (N : Int)) = true := by simp
  have h2 : decide (0 ≤ (m : Int)) = true := by simp
  rw [h1, h2]
  rfl
theorem shl_eq {i j : Int} (h0 : 0 ≤ j) (h1 : j ≤ 100000) (h2 : i.natAbs < 2 ^ 100000) : dShl (.int i) (.int j) = some (.int (i * 2 ^ j.toNat)) := by
  unfold dShl dI
  exact if_pos ⟨h0, h1, intBits_le_iff.mpr h2⟩
theorem shl_one {j : Int} (h0 : 0 ≤ j) (h1 : j ≤ 100000) : dShl (.int 1) (.int j) = some (.int ((2 ^ j.toNat : Nat) : Int)) := by
  rw [shl_eq h0 h1 (Nat.one_lt_two_pow (by decide)), Int.one_mul]
  congr 2
theorem mul_eq {i j : Int} (h : mulOk i j = true) : dMul (.int i) (.int j) = some (.int (i * j)) := if_pos h
theorem div_eq {i j : Int} (h : 0 < j ∧ j < 18446744073709551616) : dDiv (.int i) (.int j) = some (.int (i / j)) := if_pos h
theorem filter_comp {α β : Type} [DecidableEq α] [En α] [DecidableEq β] [En β] {l : List (Option DV)} {g : GM} {t e : EM} {M : List O} (f : α → β) (q : α → Bool) (ds : List α) (h : ∀ a ∈ ds, ∃ s1 : S, g (.p (En.en a)) ⟨l, M⟩ = some s1 ∧ s1.m = M ∧ t s1 = some (.ok (.p (.bl (q a))) M) ∧ e s1 = some (.ok (.p (En.en (f a))) M)) (hl : ds.length ≤ 1000000) : compL l g t e ((ds.map En.en).map .p) [] M = some (((ds.filter q).map f).map En.en, M) := by
  have main : ∀ (ds : List α) (acc : List D), (∀ a ∈ ds, ∃ s1 : S, g (.p (En.en a)) ⟨l, M⟩ = some s1 ∧ s1.m = M ∧ t s1 = some (.ok (.p (.bl (q a))) M) ∧ e s1 = some (.ok (.p (En.en (f a))) M)) → acc.length + ds.length ≤ 1000000 → compL l g t e ((ds.map En.en).map .p) acc M = some (acc ++ ((ds.filter q).map f).map En.en, M) := by
    intro ds
    induction ds with
    | nil => intro acc _ _; simp [compL]
    | cons a ds ih =>
      intro acc h hn
      simp only [List.length_cons] at hn
      obtain ⟨s1, h1, h2, h3, h4⟩ := h a List.mem_cons_self
      have ih := fun acc hn => ih acc (fun b hb => h b (List.mem_cons_of_mem _ hb)) hn
      show compL _ _ _ _ (.p (En.en a) :: (ds.map En.en).map .p) acc M = _
      unfold compL
      rw [h1]
      dsimp only
      rw [h3]
      cases hq : q a with
      | true =>
        dsimp only
        have q2 : e ⟨s1.l, M⟩ = some (.ok (.p (En.en (f a))) M) := by rw [← h2] at h4 ⊢; exact h4
        rw [q2]
        dsimp only
        rw [if_pos (by omega), ih _ (by simp; omega)]
        simp [hq]
      | false =>
        dsimp only
        rw [ih _ (by omega)]
        simp [hq]
  have := main ds [] h (by simpa using hl)
  simpa using this
def intL (cells : List Int) : O := .lst (cells.map fun z => .p (.int z))
theorem take_raw {k c : Nat} {i : Int} {cells : List Int} {M : List O} (hk : M[k]? = some (.lst [.p (.int i), .o c])) (hc : M[c]? = some (intL cells)) (kc : k ≠ c) (hi : 0 ≤ i) (ne : cells ≠ []) (nn : ∀ z ∈ cells, 0 ≤ z) (most : Int) (hm : most < 18446744073709551616) : ∃ r M', takeM [.o k, .p (.int most)] M = some (.ok (.p (.int r)) M') ∧ (M' = M ∨ (∃ cells', M' = M.set c (intL cells') ∧ cells' ≠ [] ∧ ∀ z ∈ cells', 0 ≤ z) ∨ M' = M.set k (.lst [.p (.int (i + 1)), .o c])) ∧ (most < 1 → r = 0) ∧ (1 ≤ most → 0 ≤ r ∧ r < most) := by
  by_cases h1 : most < 1
  · refine ⟨0, M, ?_, .inl rfl, fun _ => rfl, fun h2 => by omega⟩
    simp [e_bnd, e_seq, e_lift, e_runA, e_runB, takeM, takeB, h1, dropM_len]
  · have hl : 0 < cells.length := List.length_pos_iff.mpr ne
    have hl' : (0 : Int) < (cells.length : Int) := by omega
    have a0 : 0 ≤ i % (cells.length : Int) := Int.emod_nonneg _ (by omega)
    have a1 : i % (cells.length : Int) < (cells.length : Int) := Int.emod_lt_of_pos _ hl'
    have aN : (i % (cells.length : Int)).toNat < cells.length := by omega
    have hg := atI_nat' (xs := cells.map fun z => DV.p (.int z)) a0 (get_map aN)
    have cn : 0 ≤ cells[(i % (cells.length : Int)).toNat] := nn _ (List.getElem_mem aN)
    generalize hz : cells[(i % (cells.length : Int)).toNat] = z at hg cn
    have m0 : 0 < most := by omega
    unfold intL at hc
    by_cases h2 : 1000000000000000000 ≤ z
    · refine ⟨z % most, M.set c (intL (cells.set (i % (cells.length : Int)).toNat (z / most))), ?_, .inr (.inl ⟨_, rfl, by simpa using ne, ?_⟩), fun h3 => absurd h3 h1, fun _ => ⟨Int.emod_nonneg _ (by omega), Int.emod_lt_of_pos _ m0⟩⟩
      · have hs := setL_ok (M := M) (n := c) (d := .p (.int (z / most))) hc a0 (by rw [List.length_map]; exact a1)
        unfold intL
        simp [e_bnd, e_seq, e_lift, e_runA, e_runB, takeM, takeB, h1, hk, hc, atI0, atI1, hl, hl', hg, h2, e_set, e_setK, m0, hm, hs, dropM_len]
      · intro y hy
        rcases List.mem_or_eq_of_mem_set hy with q | q
        · exact nn y q
        · rw [q]; exact Int.ediv_nonneg cn (by omega)
    · have hs := setL_ok (M := M) (n := k) (d := .p (.int (i + 1))) (j := 0) hk (by decide) (by simp)
      have hk' : (M.set k (.lst [DV.p (.int (i + 1)), .o c]))[k]? = some (.lst [.p (.int (i + 1)), .o c]) := by
        rw [List.getElem?_set_self (List.getElem?_eq_some_iff.mp hk).1]
      refine ⟨((((z * 48271 + (i + 1) * 69621) % 2147483647) * 16807 + (i + 1) * 7919) % 1000000007) / 7 % most, M.set k (.lst [.p (.int (i + 1)), .o c]), ?_, .inr (.inr rfl), fun h3 => absurd h3 h1, fun _ => ⟨Int.emod_nonneg _ (by omega), Int.emod_lt_of_pos _ m0⟩⟩
      simp [e_bnd, e_seq, e_lift, e_runA, e_runB, takeM, takeB, h1, hk, hc, atI0, atI1, hl, hl', hg, h2, e_set, e_setK, m0, hm, hs, hk', dropM_len, mulOkR]
structure DB (T : O) (n : Nat) (sv : DV) (B : List O) : Prop where
  len : B.length = n
  tb : B[0]? = some T
  cl : B.all (closed n) = true
  ex : ∃ (k c : Nat) (i : Int) (cells : List Int), sv = .o k ∧ k ≠ 0 ∧ c ≠ 0 ∧ B[k]? = some (.lst [.p (.int i), .o c]) ∧ B[c]? = some (intL cells) ∧ k ≠ c ∧ 0 ≤ i ∧ cells ≠ [] ∧ ∀ z ∈ cells, 0 ≤ z
theorem w_asgE (m : EM) (i : Nat) (K : SM) (s : S) (d : DV) (M : List O) (P : Fl → S → Prop) (h1 : m s = some (.ok d M)) (h2 : wpS (K ⟨s.l.set i (some d), M⟩) P) : wpS (sSeq (sAsg m (gN i)) K s) P := by
  rw [seq_asg m (gN i) K s ⟨s.l.set i (some d), M⟩ d M h1 rfl]
  exact h2
theorem w_asgT (m : EM) (i : Nat) (K : SM) (s : S) (P : Fl → S → Prop) (h : wpB (m s) fun d M => wpS (K ⟨s.l.set i (some d), M⟩) P) : wpS (sSeq (sAsg m (gN i)) K s) P := by
  obtain ⟨d, M, e, h⟩ := h
  exact w_asgE m i K s d M P e h
theorem w_ifE (c : EM) (a K : SM) (s : S) (M : List O) (P : Fl → S → Prop) (h1 : c s = some (.ok (.p (.bl false)) M)) (h2 : wpS (K ⟨s.l, M⟩) P) : wpS (sSeq (sIf c a sNil) K s) P := by
  have e : sIf c a sNil s = some (.nx, ⟨s.l, M⟩) := by
    rw [e_sif, e_lift, h1]
    rfl
  rw [e_seq, e]
  exact h2
theorem w_ifZ (c : EM) (a : SM) (s : S) (M : List O) (P : Fl → S → Prop) (h1 : c s = some (.ok (.p (.bl false)) M)) (h2 : P .nx ⟨s.l, M⟩) : wpS (sIf c a sNil s) P := by
  have e : sIf c a sNil s = some (.nx, ⟨s.l, M⟩) := by
    rw [e_sif, e_lift, h1]
    rfl
  rw [e]
  exact ⟨_, _, rfl, rfl, h2⟩
theorem reprB (b : Bool) : ∃ z, dRepr (.bl b) = some z ∧ eqD z z = some true := by
  have := Sm.repr (Sm.bl (n := 0) (w := 5) (i := b) (Nat.le_refl _)) (by decide) (by decide)
  exact ⟨_, this, by rw [e_eqSS]; simp⟩
def okI (q : Int → Bool) (k : Nat) : List Int := ((List.range k).map fun (i : Nat) => (i : Int)).filter q
theorem ints_map (k : Nat) : DL.intsFrom 0 k = (((List.range k).map fun (i : Nat) => (i : Int)).map En.en).map DV.p := by
  unfold DL.intsFrom
  rw [List.map_map, List.map_map]
  refine List.map_congr_left fun i _ => ?_
  show DV.p (.int (0 + (i : Int))) = .p (.int (i : Int))
  congr 2; omega
theorem okI_mem (q : Int → Bool) (m : Int) (u : Int) (h0 : 0 ≤ u) (h : u < m) : decide (u ∈ okI q m.toNat) = q u := by
  rw [Bool.eq_iff_iff, decide_eq_true_eq]
  unfold okI
  rw [List.mem_filter, List.mem_map]
  constructor
  · exact fun h => h.2
  · exact fun hq => ⟨⟨u.toNat, List.mem_range.mpr (by omega), by omega⟩, hq⟩
theorem rng_m (m : Int) (i : Nat) (l : List (Option DV)) (M : List O) (h : gv l i = some (.p (.int m))) (h0 : 0 ≤ m ∧ m ≤ 4) : mRng rng1D (aCons (mVar i) aNil) ⟨l, M⟩ = some (.ok (DL.intsFrom 0 m.toNat) M) := by
  have g := rng_ok (i := m) (by omega) (by omega)
  simp [e_bnd, h, g]
theorem callB2 (f : List DV → List O → Option (Rs DV)) (i j : Nat) (l : List (Option DV)) (M : List O) (x y : D) (r : List D) (h1 : gv l i = some (.p x)) (h2 : gv l j = some (.p y)) (e : f [.p x, .p y] M = some (.ok (.p (.lst r)) M)) : mItD itL (mCallB 2 f (aCons (mVar i) (aCons (mVar j) aNil))) ⟨l, M⟩ = some (.ok (r.map .p) M) := by
  simp [e_bnd, h1, h2, e]
theorem runB_ret (n : Nat) (m : EM) (ds : List DV) (M : List O) (z : D) (h : m ⟨slotsOf n ds, M⟩ = some (.ok (.p z) M)) : runB n (sRet m) ds M = some (.ok (.p z) M) := by
  rw [e_runB, e_sret, e_lift, h]
  show some (Rs.ok (DV.p z) (dropM M.length (DV.p z) M)) = _
  rw [dropM_len rfl]
theorem callA1 (f : MA) (i : Nat) (l : List (Option DV)) (M : List O) (x : D) (r : List D) (h1 : gv l i = some (.p x)) (e : f [x] = some (.ok (.lst r))) : mItD itL (mCallA 1 f (aCons (mVar i) aNil)) ⟨l, M⟩ = some (.ok (r.map .p) M) := by
  simp [e_bnd, h1, e]
theorem w_call2 (f : List DV → List O → Option (Rs DV)) (i : Nat) (me : EM) (l : List (Option DV)) (M : List O) (d e : DV) (Q : DV → List O → Prop) (h1 : gv l i = some d) (h2 : me ⟨l, M⟩ = some (.ok e M)) (h : wpB (f [d, e] M) Q) : wpB (mCallB 2 f (aCons (mVar i) (aCons me aNil)) ⟨l, M⟩) Q := by
  obtain ⟨v, M2, e1, q⟩ := h
  refine ⟨v, M2, ?_, q⟩
  simp [e_bnd, h1, h2, e1]
theorem w_call1 (f : List DV → List O → Option (Rs DV)) (i : Nat) (l : List (Option DV)) (M : List O) (d : DV) (Q : DV → List O → Prop) (h1 : gv l i = some d) (h : wpB (f [d] M) Q) : wpB (mCallB 1 f (aCons (mVar i) aNil) ⟨l, M⟩) Q := by
  obtain ⟨v, M2, e1, q⟩ := h
  refine ⟨v, M2, ?_, q⟩
  simp [e_bnd, h1, e1]
theorem callA2 (f : MA) (i j : Nat) (l : List (Option DV)) (M : List O) (x y d : D) (h1 : gv l i = some (.p x)) (h2 : gv l j = some (.p y)) (e : f [x, y] = some (.ok d)) : mCallA 2 f (aCons (mVar i) (aCons (mVar j) aNil)) ⟨l, M⟩ = some (.ok (.p d) M) := by
  simp [e_bnd, h1, h2, e]
theorem eq_en {α : Type} [DecidableEq α] [En α] (h : En.dp α ≤ 64) (a : α) : eqD (En.en a) (En.en a) = some true := eqD_refl (En.ok a) (Nat.le_trans (En.dpl a) h)
theorem w_forE (it : IM) (g : GM) (b K : SM) (s s1 : S) (ds : List DV) (P : Fl → S → Prop) (h1 : it s = some (.ok ds s.m)) (h2 : loopS g b ds s = some (.nx, s1)) (h3 : wpS (K s1) P) : wpS (sSeq (sFor it g b) K s) P := by
  obtain ⟨f, s2, e, nn, p⟩ := h3
  exact ⟨f, s2, seq_for it g b K s s1 ds _ h1 h2 e, nn, p⟩
theorem w_call3 (f : List DV → List O → Option (Rs DV)) (i j : Nat) (x : D) (l : List (Option DV)) (M : List O) (d e : DV) (Q : DV → List O → Prop) (h1 : gv l i = some d) (h2 : gv l j = some e) (h : wpB (f [d, e, .p x] M) Q) : wpB (mCallB 3 f (aCons (mVar i) (aCons (mVar j) (aCons (mC x) aNil))) ⟨l, M⟩) Q := by
  obtain ⟨v, M2, e1, q⟩ := h
  refine ⟨v, M2, ?_, q⟩
  simp [e_bnd, h1, h2, e1]
theorem wp_takeT {T : O} {n : Nat} {sv : DV} {B Rr : List O} {most : Int} {P : DV → List O → Prop} (h : DB T n sv B) (hm : most < 18446744073709551616) (k : ∀ r B', DB T n sv B' → (most < 1 → r = 0) → (1 ≤ most → 0 ≤ r ∧ r < most) → P (.p (.int r)) (B' ++ Rr)) : wpB (takeM [sv, .p (.int most)] (B ++ Rr)) P := by
  obtain ⟨kk, c, i, cells, rfl, k0, c0, hk, hc, kc, hi, ne, nn⟩ := h.ex
  have lk := (List.getElem?_eq_some_iff.mp hk).1
  have lc := (List.getElem?_eq_some_iff.mp hc).1
  obtain ⟨r, M', e, d, b0, b⟩ := take_raw (M := B ++ Rr) (by rw [List.getElem?_append_left lk]; exact hk) (by rw [List.getElem?_append_left lc]; exact hc) kc hi ne nn most hm
  refine ⟨_, _, e, ?_⟩
  rcases d with rfl | ⟨cells', rfl, ne', nn'⟩ | rfl
  · exact k r B h b0 b
  · rw [List.set_append_left _ _ lc]
    exact k r _ ⟨by rw [List.length_set]; exact h.len, by rw [List.getElem?_set_ne c0]; exact h.tb, all_set h.cl (closed_ints n _) c, kk, c, i, cells', rfl, k0, c0, by rw [List.getElem?_set_ne kc.symm]; exact hk, by rw [List.getElem?_set_self lc], kc, hi, ne', nn'⟩ b0 b
  · rw [List.set_append_left _ _ lk]
    exact k r _ ⟨by rw [List.length_set]; exact h.len, by rw [List.getElem?_set_ne k0]; exact h.tb, all_set h.cl (show closed n (.lst [.p (.int (i + 1)), .o c]) = true from (List.all_eq_true.mp h.cl _ (List.mem_of_getElem? hk) : closed n (.lst [.p (.int i), .o c]) = true)) kk, kk, c, i + 1, cells, rfl, k0, c0, by rw [List.getElem?_set_self lk], by rw [List.getElem?_set_ne kc]; exact hc, kc, by omega, ne, nn⟩ b0 b
theorem state_T (P : Addr) (q : Str) (ns : List Int) (hl : ns.length ≤ 63) : ∃ n sv B, stateM [.p (.scr (ns.map .int))] [.tbl P q] = some (.ok sv B) ∧ DB (.tbl P q) n sv B := by
  have hc : slE (.scr (ns.map D.int)) none (some 63) = some (.lst (ns.map D.int)) := by
    show some (D.lst (cutD (ns.map D.int) none (some 63))) = _
    rw [cut63 _ (by simpa using hl)]
  have hm : compL [some (.p (.scr (ns.map .int))), none, none] (gN 2) tYesM (mCB (g1 dAbs) (aCons (mVar 2) aNil)) ((ns.map D.int).map DV.p) [] [.tbl P q] = some ((ns.map iabs).map D.int, [.tbl P q]) := by
    rw [compL_map (f := fun d => match d with | .p (.int i) => .int (iabs i) | _ => .non) ((ns.map D.int).map DV.p) (fun d hd => by
      rw [List.map_map] at hd
      obtain ⟨i, _, rfl⟩ := List.mem_map.mp hd
      exact ⟨_, rfl, rfl, by simp [e_bnd, iabs]⟩) (by simp; omega)]
    simp
  have e0 : (ns.map iabs).map D.int = [] → ns = [] := by simp
  have dr : ∀ (j : Nat) (M : List O), 1 ≤ j → dropM 1 (.o j) M = M := fun j M hj => by
    unfold dropM
    have : ltO 1 (.o j) = false := by simp [ltO]; omega
    rw [this]; rfl
  by_cases he : ns = []
  · refine ⟨4, .o 3, [.tbl P q, .lst [], .lst [.p (.int 0)], .lst [.p (.int 0), .o 2]], ?_, rfl, rfl, rfl, 3, 2, 0, [0], rfl, by decide, by decide, rfl, rfl, by decide, by decide, by simp, by simp⟩
    subst he
    simp [e_bnd, e_seq, e_lift, e_runA, e_runB, stateM, stateB, hc, hm, dr]
    rfl
  · refine ⟨3, .o 2, [.tbl P q, .lst ((ns.map iabs).map fun z => .p (.int z)), .lst [.p (.int 0), .o 1]], ?_, rfl, rfl, ?_, 2, 1, 0, ns.map iabs, rfl, by decide, by decide, rfl, rfl, by decide, by decide, by simpa using he, ?_⟩
    · generalize hA : (ns.map iabs) = A at hm
      have hA' : A ≠ [] := by rw [← hA]; simpa using he
      have hA2 : ¬ A.length = 0 := by
        intro h; exact hA' (List.length_eq_zero_iff.mp h)
      generalize hB : ns.map D.int = B at hm hc
      simp [e_bnd, e_seq, e_lift, e_runA, e_runB, stateM, stateB, hc, hm, dr, hA', hA2]
    · have := closed_ints 3 (ns.map iabs)
      simp only [List.all_cons, List.all_nil, this]
      rfl
    · intro z hz
      obtain ⟨y, _, rfl⟩ := List.mem_map.mp hz
      unfold iabs
      split <;> omega
end DL
namespace DL
open PySem L2
section
variable {K : PySem.W.Frag} {X : Cx} {W : WX} {e a b c tg : Expr} {es : List Expr} {pos : Pos}
/-! ### a list behind a list: a new own list -/
def lsO (M : List O) : DV → Option (List DV)
  | .p (.lst xs) => some (xs.map .p)
  | .p (.klst xs) => some (xs.map .p)
  | .o n => match M[n]? with
    | some (.lst ds) => some ds
    | _ => none
  | _ => none
theorem ls_rep {Z H : Hp} {I : List Addr} {M : List O} {x : V} {d : DV} {ds : List DV} (w : Wf K Z H I M) (h : RepV K Z I x d) (e : lsO M d = some ds) : ∃ a xs, x = .ref a ∧ SqL K H a xs ∧ RepVs K Z I xs ds := by
  cases d with
  | p d =>
    have h : Rep K Z x d := h
    cases h with
    | lst h1 h2 => cases e; exact ⟨_, _, rfl, .inl (same_rd w.sub h1), allP_map h2⟩
    | klst h1 h2 => cases e; exact ⟨_, _, rfl, same_l w.sub h1, allP_map h2⟩
    | _ => cases e
  | o n =>
    obtain ⟨a, ha, rfl⟩ := h
    unfold lsO at e
    cases z : M[n]? with
    | none => simp only [z] at e; cases e
    | some o =>
      simp only [z] at e
      cases o with
      | lst ys =>
        cases e
        obtain ⟨_, xs, h1, h2⟩ := w.ob n a _ ha z (by intro z; cases z)
        exact ⟨a, xs, rfl, SqL.of h1, h2⟩
      | _ => cases e
def mCatO (m n : EM) : EM := bnd m fun d => bnd n fun e s => match lsO s.m d, lsO s.m e with
  | some xs, some ys => if xs.length + ys.length ≤ 1000000 then some (.ok (.o s.m.length) (s.m ++ [.lst (xs ++ ys)])) else none
  | _, _ => none
theorem so_catO {ta tb : TE} {m n : EM} (ha : Sound K W (RepV K) ta m) (hb : Sound K W (RepV K) tb n) : Sound K W (RepV K) (tOp (rCatL K) ta tb) (mCatO m n) := ⟨fun σ H s Z I r0 Q w rs e p => by
  refine ha.bnd w rs e (p.x) fun d v M1 Z1 H1 I1 w1 rs1 x1 q1 e1 => ?_
  have p1 := p.mono x1
  refine hb.bnd (s := ⟨s.l, M1⟩) w1 rs1 e1 (p1.x) fun d2 v2 M2 Z2 H2 I2 w2 rs2 x2 q2 e2 => ?_
  have p2 := p1.mono x2
  have e3 : (match lsO M2 d, lsO M2 d2 with
    | some xs, some ys => if xs.length + ys.length ≤ 1000000 then some (Rs.ok (DV.o M2.length) (M2 ++ [.lst (xs ++ ys)])) else none
    | _, _ => none) = some r0 := e2
  have q1' : RepV K Z2 I2 v d := RepV.mono x2 q1
  cases z1 : lsO M2 d with
  | none => rw [z1] at e3; cases e3
  | some xs =>
  cases z2 : lsO M2 d2 with
  | none => rw [z1, z2] at e3; cases e3
  | some ys =>
  rw [z1, z2] at e3
  dsimp only at e3
  split at e3
  · rename_i hl
    obtain rfl := Option.some.inj e3
    obtain ⟨a, us, rfl, h1, r1⟩ := ls_rep w2 q1' z1
    obtain ⟨b, ws, rfl, h2, r2⟩ := ls_rep w2 q2 z2
    refine ⟨a, b, us, ws, rfl, rfl, h1, h2, by rw [paired_len r1, paired_len r2]; exact size_le hl, fun l hp => ?_⟩
    have y := ext_new (I := I2) (o := .lst (us ++ ws)) w2.sub hp
    refine p2 _ Z2 _ (I2 ++ [l]) (w2.newO hp ⟨us ++ ws, upd_same, paired_imp (fun _ _ q => RepV.mono y q) (paired_app r1 r2)⟩) y ⟨l, ?_, rfl⟩
    rw [← w2.len, List.getElem?_append_right (Nat.le_refl _), Nat.sub_self]
    rfl
  · cases e3⟩
theorem de_catO {ta tb : TE} {m n : EM} (ha : DE K X W a ta m) (hb : DE K X W b tb n) : DE K X W (.BinOp a .Add b pos) (tOp (rCatL K) ta tb) (mCatO m n) :=
  ⟨ha.k, by rw [← ha.k]; exact pe_op op_catL ha.pe hb.pe, so_catO ha.so hb.so⟩
@[simp] theorem e_catO (m n : EM) (s : S) : mCatO m n s = (bnd m fun d => bnd n fun e s => match lsO s.m d, lsO s.m e with
  | some xs, some ys => if xs.length + ys.length ≤ 1000000 then some (.ok (.o s.m.length) (s.m ++ [.lst (xs ++ ys)])) else none
  | _, _ => none) s := rfl
@[simp] theorem e_lsP (M : List O) (xs : List D) : lsO M (.p (.lst xs)) = some (xs.map .p) := rfl
@[simp] theorem e_lsK (M : List O) (xs : List D) : lsO M (.p (.klst xs)) = some (xs.map .p) := rfl
@[simp] theorem e_lsO (M : List O) (n : Nat) : lsO M (.o n) = (match M[n]? with | some (.lst ds) => some ds | _ => none) := rfl
end
end DL
namespace DL
open PySem L2 PySem.W
section
variable {K : PySem.W.Frag} {X : Cx} {W : WX} {e a b c tg : Expr} {es : List Expr} {pos p p2 kp : Pos}
/-! ### sum(xs) of ints; min and max with default= -/
def dSum : D → Option D
  | .lst ds => (intsD ds).map fun ns => .int ns.sum
  | _ => none
theorem cd_sum (hc : X.calm = true) : CallD K X (.builtin "sum") (rSum K) (g1 dSum) := ⟨fun k => by rw [← k]; exact cr_sum hc, g1_ok fun x d c Z H Q s hx hg p => by
  unfold dSum at hg
  split at hg
  · rename_i ds
    cases q : intsD ds with
    | none => rw [q] at hg; cases hg
    | some ns =>
      rw [q] at hg; cases hg
      cases hx with
      | lst h1 h2 =>
        have e := intsD_rep h2 q
        exact ⟨_, ns, rfl, by rw [← e]; exact .inl (same_rd s h1), p _ Z H (ExtP.refl s) (.int _)⟩
  · cases hg⟩
@[simp] theorem e_sumI (ns : List Int) : dSum (.lst (ns.map .int)) = some (.int ns.sum) := by
  show (intsD (ns.map .int)).map _ = _
  rw [intsD_map]; rfl
def minDf (ns : List Int) (j : Int) : Int := match ns with
  | [] => j
  | n :: r => r.foldl min n
def maxDf (ns : List Int) (j : Int) : Int := match ns with
  | [] => j
  | n :: r => r.foldl max n
theorem alike_ints (ns : List Int) : AlikeAll (ns.map PyData.int) := by
  refine ⟨fun a ha b hb => ?_, fun a ha => ?_⟩
  · obtain ⟨i, _, rfl⟩ := List.mem_map.mp ha
    obtain ⟨j, _, rfl⟩ := List.mem_map.mp hb
    simp [alike]
  · obtain ⟨i, _, rfl⟩ := List.mem_map.mp ha
    intro z; cases z
theorem depth_ints : ∀ ns : List Int, PyData.depthAll (ns.map PyData.int) = 0
  | [] => rfl
  | n :: r => by
    show max (PyData.depth (.int n)) (PyData.depthAll (r.map PyData.int)) = 0
    rw [depth_ints r]; rfl
def rBest (K : PySem.W.Frag) (g : List Int → Int → Int) : List V → List V → Hp → VK → Prop := fun vs zs H Q => ∃ (a : Addr) (ns : List Int) (j : Int), vs = [.ref a] ∧ zs = [.int j] ∧ SqL K H a (ns.map V.int) ∧ Q (.int (g ns j)) H
theorem cr_minDf (hc : X.calm = true) (hu : X.A.units + 67 < cLine) : CallRK X (.builtin "min") [Str.ofString "default"] (rBest X.K minDf) := by
  intro pins s σ H vs zs us ws Q I r rz h
  obtain ⟨a, ns, j, rfl, rfl, hs, q⟩ := h
  obtain ⟨its, rv, hl, _⟩ := I.list hs
  rw [Vals.ref1 r]
  obtain ⟨d, rfl, rd⟩ := rz.one
  refine PySem.W.min_list_default (I.ok.hd hc) hl.isList (PyProof.Rows.ints_readAll s.heap rv.ints) (alike_ints ns) (by rw [depth_ints]; omega) (fun h0 h' tk hk => ?_) (fun y ys i v h' tk bs he hv hr hk => ?_)
  · have : ns = [] := by simpa using h0
    subst this
    exact ⟨.int j, H, I.kept hk, rd, q⟩
  · cases ns with
    | nil => cases he
    | cons n r =>
      rw [List.map_cons] at he
      cases he
      rw [minD_ints] at hr
      refine ⟨.int _, H, I.kept hk, ?_, q⟩
      cases hr
      exact ⟨_, rfl⟩
theorem cr_maxDf (hc : X.calm = true) (hu : X.A.units + 67 < cLine) : CallRK X (.builtin "max") [Str.ofString "default"] (rBest X.K maxDf) := by
  intro pins s σ H vs zs us ws Q I r rz h
  obtain ⟨a, ns, j, rfl, rfl, hs, q⟩ := h
  obtain ⟨its, rv, hl, _⟩ := I.list hs
  rw [Vals.ref1 r]
  obtain ⟨d, rfl, rd⟩ := rz.one
  refine PySem.W.max_list_default (I.ok.hd hc) hl.isList (PyProof.Rows.ints_readAll s.heap rv.ints) (alike_ints ns) (by rw [depth_ints]; omega) (fun h0 h' tk hk => ?_) (fun y ys i v h' tk bs he hv hr hk => ?_)
  · have : ns = [] := by simpa using h0
    subst this
    exact ⟨.int j, H, I.kept hk, rd, q⟩
  · cases ns with
    | nil => cases he
    | cons n r =>
      rw [List.map_cons] at he
      cases he
      rw [maxD_ints] at hr
      refine ⟨.int _, H, I.kept hk, ?_, q⟩
      cases hr
      exact ⟨_, rfl⟩
def bestD (g : List Int → Int → Int) : D → D → Option D
  | .lst ds, .int j => (intsD ds).map fun ns => .int (g ns j)
  | _, _ => none
def mBestDf (g : List Int → Int → Int) (m n : EM) : EM := bnd m (pur fun d => bnd n (pur fun z => ret (bestD g d z)))
@[simp] theorem e_best (g : List Int → Int → Int) (m n : EM) (s : S) : mBestDf g m n s = (bnd m (pur fun d => bnd n (pur fun z => ret (bestD g d z)))) s := rfl
@[simp] theorem e_bestI (g : List Int → Int → Int) (ns : List Int) (j : Int) : bestD g (.lst (ns.map .int)) (.int j) = some (.int (g ns j)) := by
  show (intsD (ns.map .int)).map _ = _
  rw [intsD_map]; rfl
theorem so_best {g : List Int → Int → Int} {te tz : TE} {m n : EM} (h : Sound K W (RepV K) te m) (hz : Sound K W (RepV K) tz n) : Sound K W (RepV K) (tCKw (rBest K g) (tCons te tNil) (tCons tz tNil)) (mBestDf g m n) := ⟨fun σ H s Z I r0 Q w rs e1 p1 => by
  refine h.bnd w rs e1 p1.x fun d v M1 Z1 H1 I1 w1 rs1 x1 q1 e2 => ?_
  obtain ⟨d, rfl, e2⟩ := pur_ok e2
  have p2 := p1.mono x1
  refine hz.bnd (s := ⟨s.l, M1⟩) w1 rs1 e2 p2.x fun d2 v2 M2 Z2 H2 I2 w2 rs2 x2 q2 e3 => ?_
  obtain ⟨d2, rfl, e3⟩ := pur_ok e3
  obtain ⟨c, hc, rfl⟩ := ret_ok e3
  have q1' : Rep K Z2 v d := Rep.mono x2.z q1
  have q2 : Rep K Z2 v2 d2 := q2
  cases d with
  | lst ds =>
    cases d2 with
    | int j =>
      have hc : (intsD ds).map (fun ns => D.int (g ns j)) = some c := hc
      cases q : intsD ds with
      | none => rw [q] at hc; cases hc
      | some ns =>
        rw [q] at hc; cases hc
        cases q2
        cases q1' with
        | lst h1 h2 =>
          have e := intsD_rep h2 q
          exact ⟨_, ns, j, rfl, rfl, by rw [← e]; exact .inl (same_rd w2.sub h1), PostP.of w2 (p2.mono x2) _ Z2 H2 (ExtP.refl w2.sub) (.int _)⟩
    | _ => cases hc
  | _ => cases hc⟩
theorem de_minDf {z : Expr} {te tz : TE} {m n : EM} (hcalm : X.calm = true) (hu : X.A.units + 67 < cLine) (hs : X.mg "min" = none) (h : DE K X W e te m) (hz : DE K X W z tz n)
    (hgs : Gl X "min" := by rfl)
    (hs1 : starEach [e] X.env = (false, eval e X.env) :: starEach [] X.env := by rfl) (he : backTo pos (starEach [e] X.env) = (false, eval e X.env) :: backTo pos (starEach [] X.env) := by rfl) (hpl : (backTo pos (starEach [e] X.env)).any (·.1) = false := by rfl)
    (hall : (backToKw pos (keywordEach [⟨some "default", z, kp⟩] X.env)).all (·.1.isSome) = true := by rfl) (hnone : (backToKw pos (keywordEach [⟨some "default", z, kp⟩] X.env)).any (·.1.isNone) = false := by rfl) (hks : (backToKw pos (keywordEach [⟨some "default", z, kp⟩] X.env)).filterMap (·.1) = [Str.ofString "default"] := by rfl) :
    DE K X W (.Call (.Name "min" p) [e] [⟨some "default", z, kp⟩] pos) (tCKw (rBest K minDf) (tCons te tNil) (tCons tz tNil)) (mBestDf minDf m n) := by
  have k0 := h.k
  subst k0
  exact ⟨rfl, pe_callBK (cr_minDf hcalm hu) hgs hs rfl (pa_cons h.pe pa_nil hs1) (pk_cons hz.pe pk_nil) (by decide) (by decide) he hpl hall hnone hks, so_best h.so hz.so⟩
theorem de_maxDf {z : Expr} {te tz : TE} {m n : EM} (hcalm : X.calm = true) (hu : X.A.units + 67 < cLine) (hs : X.mg "max" = none) (h : DE K X W e te m) (hz : DE K X W z tz n)
    (hgs : Gl X "max" := by rfl)
    (hs1 : starEach [e] X.env = (false, eval e X.env) :: starEach [] X.env := by rfl) (he : backTo pos (starEach [e] X.env) = (false, eval e X.env) :: backTo pos (starEach [] X.env) := by rfl) (hpl : (backTo pos (starEach [e] X.env)).any (·.1) = false := by rfl)
    (hall : (backToKw pos (keywordEach [⟨some "default", z, kp⟩] X.env)).all (·.1.isSome) = true := by rfl) (hnone : (backToKw pos (keywordEach [⟨some "default", z, kp⟩] X.env)).any (·.1.isNone) = false := by rfl) (hks : (backToKw pos (keywordEach [⟨some "default", z, kp⟩] X.env)).filterMap (·.1) = [Str.ofString "default"] := by rfl) :
    DE K X W (.Call (.Name "max" p) [e] [⟨some "default", z, kp⟩] pos) (tCKw (rBest K maxDf) (tCons te tNil) (tCons tz tNil)) (mBestDf maxDf m n) := by
  have k0 := h.k
  subst k0
  exact ⟨rfl, pe_callBK (cr_maxDf hcalm hu) hgs hs rfl (pa_cons h.pe pa_nil hs1) (pk_cons hz.pe pk_nil) (by decide) (by decide) he hpl hall hnone hks, so_best h.so hz.so⟩
end
end DL
namespace DL
open PySem L2 PySem.Spec PyProof.Rows
/-! ### a call of a local that holds a def: the defs that it may hold, with their addresses -/
structure VFn (P : Program) (w : World) (K : PySem.W.Frag) (mg : Str → Option Value) (base : Heap) (k n : Nat) (f : Addr) (m : MA) : Prop where
  ex : ∃ (fd : FuncData) (ps : List Str), FnOk P w K mg base (L2.CX P w) k f fd ps (spA K n m) ∧ PySem.W.keepIn K (.ref f) = true ∧ Binds K fd ps []
def tCallV (K : PySem.W.Frag) (W : WX) (i n : Nat) (tb : List (Addr × MA)) (t : TA) : TE := fun σ H Q => ∃ f m, σ[i]? = some (some (.ref f)) ∧ tb.lookup f = some m ∧ t σ H fun vs H1 => spA K n m vs H1 Q (WE W σ)
def mCallV (i n : Nat) (tb : List (Addr × MA)) (ms : AM) : EM := fun s => match gv s.l i with
  | some (.p (.fn a)) => match tb.lookup a with
    | some m => mCallA n m ms s
    | none => none
  | _ => none
section
variable {K : PySem.W.Frag} {X : Cx} {W : WX} {e : Expr} {es : List Expr} {pos p : Pos} {x : Str} {i n k : Nat} {tb : List (Addr × MA)} {t : TA} {ms : AM}
theorem pe_callV (A : ∀ f m, tb.lookup f = some m → VFn X.prog X.w X.K X.mg X.base k n f m) (hr : Room k X.A) (hN : X.N[i]? = some x) (hv : Vis X.env.scope x) (hx : ∀ σ, PassesAt (L2.CX X.prog X.w) X σ (WE W σ)) (ha : PA X (e :: es) t)
    (hdb : (x == ("__debug__" : Str)) = false := by decide) (hcd : (x == ("__classdict__" : Str)) = false := by decide)
    (he : starEach (e :: es) X.env = (false, eval e X.env) :: starEach es X.env := by rfl) (hpl : (backTo pos (starEach es X.env)).any (·.1) = false := by rfl) : PE X (.Call (.Name x p) (e :: es) [] pos) (tCallV X.K W i n tb t) := by
  refine ⟨fun pins s σ H Q I h => ?_⟩
  obtain ⟨f, m, hs, hS, ht⟩ := h
  obtain ⟨fd, ps, F, hk, hb⟩ := (A f m hS).ex
  refine wpAny_Call_Name_kw (thn ((pe_var (pos := p) hN hv hdb hcd).run pins s σ H (fun v H1 => v = .ref f ∧ H1 = H) I ⟨.ref f, hs, rfl, rfl⟩) fun u s1 ⟨v, H1, I1, r1, q1⟩ => ?_)
  obtain ⟨rfl, rfl⟩ := q1
  cases r1
  refine PySem.W.callWith_K (h₀ := X.base) I.ok.mod.kin hk (thn (ha.run pos pins s1 σ _ _ I1 ht) fun us s2 ⟨vs, H2, I2, r, q⟩ => ⟨I2.kIn, ?_⟩) he hpl
  exact run_fnSD (dvs := []) F hr hb .nil (hx σ) I2 r (by simpa using q)
theorem so_callV (ha : Sound K W (RepVs K) t ms) : Sound K W (RepV K) (tCallV K W i n tb t) (mCallV i n tb ms) := ⟨fun σ H s Z I r0 Q w rs e p => by
  unfold mCallV at e
  cases hg : gv s.l i with
  | none => rw [hg] at e; cases e
  | some dv =>
    rw [hg] at e
    cases dv with
    | o j => cases e
    | p d =>
      cases d with
      | fn a =>
        dsimp only at e
        cases hl : tb.lookup a with
        | none => rw [hl] at e; cases e
        | some m =>
          rw [hl] at e
          have h1 : s.l[i]? = some (some (.p (.fn a))) := by
            unfold gv at hg
            cases q : s.l[i]? with
            | none => rw [q] at hg; cases hg
            | some o => rw [q] at hg; cases o <;> simp_all
          obtain ⟨v, hv, rv⟩ := rs.at_ i _ h1
          have rv : Rep K Z v (.fn a) := rv
          cases rv
          exact ⟨a, m, hv, hl, (so_callA (n := n) (f := m) ha).ok σ H s Z I r0 Q w rs e p⟩
      | _ => cases e⟩
theorem de_callV (A : ∀ f m, tb.lookup f = some m → VFn X.prog X.w K X.mg X.base k n f m) (hr : Room k X.A) (tk : Takes X W) (ha : DA K X W (e :: es) t ms) (hN : X.N[i]? = some x := by rfl) (hv : Vis X.env.scope x := by first | exact Or.inl rfl | exact Or.inr (Or.inl rfl) | exact Or.inr (Or.inr rfl))
    (hdb : (x == ("__debug__" : Str)) = false := by decide) (hcd : (x == ("__classdict__" : Str)) = false := by decide)
    (he : starEach (e :: es) X.env = (false, eval e X.env) :: starEach es X.env := by rfl) (hpl : (backTo pos (starEach es X.env)).any (·.1) = false := by rfl) :
    DE K X W (.Call (.Name x p) (e :: es) [] pos) (tCallV K W i n tb t) (mCallV i n tb ms) := by
  have k := ha.k
  subst k
  exact ⟨rfl, pe_callV A hr hN hv (fun σ => passAt tk σ) ha.pa hdb hcd he hpl, so_callV ha.so⟩
end
end DL
namespace DL
open PySem PySem.Spec L2 PyProof.Rows
/-! ### the end of a law whose mirrors speak of the addresses of defs -/
theorem walk_dlV {l : PySem.W.OpenLaw} {k : Nat} {q : Program} {loose : List Str} {XP : (Str → Option Value) → Heap → Prop} {YP : World → Heap → Prop} {d : DefRec} {K : Params → PySem.W.Frag} {x qual : Str} {st : Stmt} {N : List Str} {m : List Addr → SM} {C : List Addr → Prop} (hn : l.most = some 63) (hdf : d.params.defaults = []) (hr : Room (k + 1) callerA)
    (hY : ∀ (w : World) (h : Heap), YP w h → (K w.params).In h) (Sc : FnScope N ["script"] (defScope st))
    (F : ∀ (w : World) (mg : Str → Option Value) (fa : Addr) (h : Heap), (K w.params).In h → h.Ns mainGlobals mg → mg d.name = some (.ref fa) →
      ∃ (fd : FuncData) (Fa : List Addr), C Fa ∧ Fun (K w.params) x qual st fa fd ∧ (∀ (s : Shared) (u : Value), BindsTo s fd ⟨[u], []⟩ [("script", u)]) ∧ ∀ base : Heap, (K w.params).In base → base.Ns mainGlobals mg → TopB l.prog w (K w.params) mg base N qual st fa k (m Fa))
    (good : ∀ (Fa : List Addr) (ns : List Int), C Fa → ns.length ≤ 63 → (∀ z ∈ ns, Builtin.Int.intBits z ≤ 1048576) → runA N.length (m Fa) [.scr (ns.map .int)] = some (.ok (.bl true))) :
    PySem.W.WalkO q loose XP YP l.row.toRowW d [] (fun f vs => PySem.call f vs) := by
  refine Att.attach_callB hn hdf fun w s₀ s₁ mg mb fa o pm cd doc a vs ns G Y ho hd hcd hmg hobj hints hlen hbits hg => ?_
  have KX := hY w _ Y
  obtain ⟨fd, Fa, hC, hF, hbind, body⟩ := F w mg fa _ KX G.T.g hmg
  exact law_top KX G.T.g G.T.b G.T.builtins G.T.nolimit hg hobj hints (Nat.le_trans hlen (by decide)) hr hF Sc hbind body (good Fa ns hC hlen hbits)
/-- defs of other names stand at other addresses -/
theorem fun_ne {K : PySem.W.Frag} {x y qx qy : Str} {st su : Stmt} {f g : Addr} {fd gd : FuncData} (F : Fun K x qx st f fd) (G : Fun K y qy su g gd) (h : x ≠ y) : f ≠ g := by
  rintro rfl
  obtain ⟨oc, od, kV, doc, pm, an, cdv, ct, osl, rfl, h1, _⟩ := F.ex
  obtain ⟨oc', od', kV', doc', pm', an', cdv', ct', osl', rfl, h2, _⟩ := G.ex
  rw [h1] at h2
  injection h2 with h2
  injection h2 with _ _ h3 _
  injection h3 with h3
  injection h3 with h4
  exact h h4
end DL
namespace DL
open PySem PySem.Spec L2 PyProof.Rows
/-! ### a text in a dict of the module: the keys, and texts that are known to be none -/
def KIn (K : PySem.W.Frag) (w : World) (a : Addr) (z : Str) (b : Bool) : Prop := ∃ es n r, K.lookup a = some ⟨.type "dict", none, .dict es n, #[]⟩ ∧ PySem.W.KeysLit w.params es.toList ∧ (a == sysModules) = false ∧ PySem.W.nsIn K a z = some r ∧ r.isSome = b
def rInKd (K : PySem.W.Frag) (w : World) (neg : Bool) : R2 := fun x y H Q => ∃ p z b, x = .str z ∧ y = .ref p ∧ KIn K w p z b ∧ Q (.bl (if neg then !b else b)) H
section
variable {X : Cx}
theorem op_inKd : OpR X (compareOp .In) (rInKd X.K X.w false) := by
  intro pins s σ H x y v u Q I rx ry h
  obtain ⟨p, z, b, rfl, rfl, ⟨es, n, r, hl, hk, lo, e, rfl⟩, q⟩ := h
  obtain rfl : u = Value.ref p := ry
  obtain ⟨t, rfl⟩ := (show ∃ t, v = Value.str z t from rx)
  refine wpAny_in_of (strKind_is X.prog X.w z t) lo (PySem.W.mapOf_K (prog := X.prog) (w := X.w) I.kIn hl hk) ?_
  show EP X pins σ Q _ _
  rw [PySem.W.find_K hl e]
  exact ⟨.bl _, H, I.tok _, rfl, q⟩
end
structure GIn (K : PySem.W.Frag) (w : World) (mg : Str → Option Value) (x : Str) (keys miss : List Str) where
  a : Addr
  m : mg x = some (.ref a)
  at_ : ∀ z, z ∈ keys → KIn K w a z true
  no : ∀ z, z ∈ miss → KIn K w a z false
def inKd (keys miss : List Str) : D → EM
  | .str z => fun s => if z ∈ keys then some (.ok (.p (.bl true)) s.m) else if z ∈ miss then some (.ok (.p (.bl false)) s.m) else none
  | _ => fun _ => none
def mInKd (keys miss : List Str) (m : EM) : EM := bnd m (pur (inKd keys miss))
section
variable {K : PySem.W.Frag} {X : Cx} {W : WX} {e : Expr} {pos p : Pos} {te : TE} {m : EM} {mg : Str → Option Value} {w : World} {x : Str} {keys miss : List Str}
theorem so_inKd (g : GIn K w mg x keys miss) (h : Sound K W (RepV K) te m) : Sound K W (RepV K) (tOp (rInKd K w false) te (tC (.ref g.a))) (mInKd keys miss m) := ⟨fun σ H s Z I r0 Q w0 rs e1 p1 => by
  refine h.bnd w0 rs e1 p1.x fun d v M1 Z1 H1 I1 w1 rs1 x1 q1 e2 => ?_
  obtain ⟨d, rfl, e2⟩ := pur_ok e2
  cases d with
  | str z =>
    have q1 : Rep K Z1 v (.str z) := q1
    cases q1
    have e2 : (if z ∈ keys then some (Rs.ok (DV.p (D.bl true)) M1) else if z ∈ miss then some (Rs.ok (DV.p (D.bl false)) M1) else none) = some r0 := e2
    split at e2
    · rename_i hz
      cases e2
      exact ⟨g.a, z, true, rfl, rfl, g.at_ z hz, PostP.of w1 (p1.mono x1) _ Z1 H1 (ExtP.refl w1.sub) (.bl _)⟩
    · split at e2
      · rename_i hz
        cases e2
        exact ⟨g.a, z, false, rfl, rfl, g.no z hz, PostP.of w1 (p1.mono x1) _ Z1 H1 (ExtP.refl w1.sub) (.bl _)⟩
      · cases e2
  | _ => cases e2⟩
theorem de_inKd (g : GIn K w mg x keys miss) (h : DE K X W e te m) (hm : X.mg = mg := by rfl) (hw : X.w = w := by rfl) (hg : Gl X x := by rfl) (hd : (x == ("__debug__" : Str)) = false := by decide) (hb : behindInMarks .In (.Name x p) = false := by first | exact nomark _ | rfl) :
    DE K X W (.Compare e [.In] [.Name x p] pos) (tOp (rInKd K w false) te (tC (.ref g.a))) (mInKd keys miss m) := by
  subst hm hw
  refine ⟨h.k, ?_, so_inKd g h.so⟩
  have q := pe_cmpR (X := X) (pos := pos) op_inKd h.pe (pe_glob (v := .ref g.a) (pos := p) hg g.m rfl hd) hb
  rw [h.k] at q
  exact q
end
end DL
namespace DL
open PySem PySem.Spec L2 PyProof.Rows
theorem lkv_nil {P : Program} {w : World} {K : PySem.W.Frag} {mg : Str → Option Value} {base : Heap} {k n : Nat} : ∀ f m, ([] : List (Addr × MA)).lookup f = some m → VFn P w K mg base k n f m := fun _ _ h => by cases h
theorem lkv_cons {P : Program} {w : World} {K : PySem.W.Frag} {mg : Str → Option Value} {base : Heap} {k n : Nat} {a : Addr} {m0 : MA} {tb : List (Addr × MA)} (h : VFn P w K mg base k n a m0) (r : ∀ f m, tb.lookup f = some m → VFn P w K mg base k n f m) : ∀ f m, ((a, m0) :: tb).lookup f = some m → VFn P w K mg base k n f m := fun f m e => by
  rw [List.lookup_cons] at e
  split at e
  · rename_i q
    cases e
    rw [eq_of_beq q]
    exact h
  · exact r f m e
theorem kin_nil {K : PySem.W.Frag} {w : World} {a : Addr} {b : Bool} : ∀ z, z ∈ ([] : List Str) → KIn K w a z b := fun _ h => by cases h
theorem kin_cons {K : PySem.W.Frag} {w : World} {a : Addr} {b : Bool} {z0 : Str} {l : List Str} (h : KIn K w a z0 b) (r : ∀ z, z ∈ l → KIn K w a z b) : ∀ z, z ∈ z0 :: l → KIn K w a z b := List.forall_mem_cons.mpr ⟨h, r⟩
@[simp] theorem e_inKdm (keys miss : List Str) (m : EM) (s : S) : mInKd keys miss m s = (bnd m (pur (inKd keys miss))) s := rfl
@[simp] theorem e_inKdS (keys miss : List Str) (z : Str) (s : S) : inKd keys miss (.str z) s = if z ∈ keys then some (.ok (.p (.bl true)) s.m) else if z ∈ miss then some (.ok (.p (.bl false)) s.m) else none := rfl
end DL
namespace DL
open PySem PySem.Spec L2 PyProof.Rows
/-! ### l.extend(xs): xs data -/
def rExtD : V → List V → Hp → VK → Prop := fun x vs H Q => ∃ l b xs zs, x = .ref l ∧ vs = [.ref b] ∧ H l = some (.lst xs) ∧ Rd H b (.lst zs) ∧ xs.length + zs.length ≤ sizeLine ∧ Q .non (upd H l (.lst (xs ++ zs)))
section
variable {X : Cx}
theorem mt_extD : MtM X "list.extend" rExtD := by
  intro pins s σ H x vs v us Q I rx rv h
  obtain ⟨l, b, xs, zs, rfl, rfl, hH, hB, hz, q⟩ := h
  cases rx
  obtain ⟨u, rfl, ru⟩ := rv.one
  cases ru
  obtain ⟨z, its, n, r, hl, e⟩ := I.lstM hH
  obtain ⟨z2, its2, n2, r2, e2⟩ := hB.ok I.hok
  have hl2 := r2.length
  have hsz : its.toArray.size + its2.toArray.size ≤ sizeLine := by rw [List.size_toArray, List.size_toArray]; omega
  have hlong : ¬ (!its.toArray.isEmpty && Builtin.List.listTooLong (its.toArray.size + its2.toArray.size)) = true := by
    rw [notLongL hsz, Bool.and_false]
    exact Bool.false_ne_true
  refine call_meets PySem.F.slot_list_extend ⟨_, e, rfl⟩ PySem.F.entry_list_extend (PySem.F.args_list_extend_2 _ _)
    (AutoSeq1.list_extend_list_list_0 l its.toArray n b its2.toArray n2 hlong (by rw [List.size_toArray]; omega) (by omega)) ⟨e, e2, ?_⟩
  refine ⟨.non, _, I.lset (its' := its ++ its2) hH e (by simp) (r.append r2) ?_, rfl, q⟩
  rw [List.length_append]
  omega
end
section
variable {K : PySem.W.Frag} {X : Cx}
def gExt : MtG := fun d ds s => match d, ds with
  | .o n, [.p (.lst ys)] => match s.m[n]? with
    | some (.lst xs) => if xs.length + ys.length ≤ 1000000 then some (.ok (.p .non) (s.m.set n (.lst (xs ++ ys.map .p)))) else none
    | _ => none
  | _, _ => none
theorem md_ext : MthD K X "list.extend" rExtD gExt := ⟨fun _ => mt_extD, fun W σ x d vs ds Z H I s r0 Q w hx hv e p => by
  unfold gExt at e
  split at e
  · rename_i n ys
    obtain ⟨a, ha, rfl⟩ := hx
    cases hv with
    | cons h1 h2 =>
    cases h2
    have h1 : Rep K Z _ (.lst ys) := h1
    cases h1 with
    | lst g3 g4 =>
    split at e
    · rename_i xs hm
      split at e
      · rename_i hl
        cases e
        obtain ⟨_, us, g1, g2⟩ := w.ob n a _ ha hm (by intro z; cases z)
        refine ⟨a, _, us, _, rfl, rfl, g1, same_rd w.sub g3, by rw [paired_len g2, g4.length]; exact size_le hl, ?_⟩
        exact p _ Z _ I (w.setO ha hm (by intro z; cases z) ⟨_, upd_same, paired_app g2 (allP_map g4)⟩) (ext_set (List.mem_of_getElem? ha)) .non
      · cases e
    · cases e
  · cases e⟩
@[simp] theorem e_ext (n : Nat) (ys : List D) (s : S) : gExt (.o n) [.p (.lst ys)] s = (match s.m[n]? with
    | some (.lst xs) => if xs.length + ys.length ≤ 1000000 then some (.ok (.p .non) (s.m.set n (.lst (xs ++ ys.map .p)))) else none
    | _ => none) := rfl
end
end DL
namespace DL
open PySem PySem.Spec L2 PyProof.Rows
section
variable {K : PySem.W.Frag} {X : Cx} {W : WX} {e : Expr} {pos p : Pos} {te : TE} {m : EM} {mg : Str → Option Value} {w : World} {x : Str} {keys miss : List Str}
theorem inKd_bool : ∀ s r, mInKd keys miss m s = some r → ∀ v M, r = .ok v M → ∃ b, v = .p (.bl b) := by
  intro s r h v M e
  subst e
  obtain ⟨d, M1, _, h2⟩ := bnd_ok h
  obtain ⟨d, rfl, h2⟩ := pur_ok h2
  cases d with
  | str z =>
    have h2 : (if z ∈ keys then some (Rs.ok (DV.p (D.bl true)) M1) else if z ∈ miss then some (Rs.ok (DV.p (D.bl false)) M1) else none) = some (Rs.ok v M) := h2
    split at h2
    · cases h2; exact ⟨_, rfl⟩
    · split at h2
      · cases h2; exact ⟨_, rfl⟩
      · cases h2
  | _ => cases h2
theorem dt_inKd (g : GIn K w mg x keys miss) (h : DE K X W e te m) (hm : X.mg = mg := by rfl) (hw : X.w = w := by rfl) (hg : Gl X x := by rfl) (hd : (x == ("__debug__" : Str)) = false := by decide) (hb : behindInMarks .In (.Name x p) = false := by first | exact nomark _ | rfl) :
    DT K X W (.Compare e [.In] [.Name x p] pos) (tTest (tOp (rInKd K w false) te (tC (.ref g.a)))) (mInKd keys miss m) := by
  subst hm hw
  refine ⟨h.k, ?_, so_test (so_inKd g h.so) inKd_bool⟩
  have q := pt_cmpR (X := X) (pos := pos) op_inKd h.pe (pe_glob (v := .ref g.a) (pos := p) hg g.m rfl hd) hb
  rw [h.k] at q
  exact q
end
end DL
namespace DL
open PySem L2
/-! ### a list of one's own that a loop fills, and is given up -/
theorem tyOk_lst {M : List O} {n : Nat} {ds : List DV} (h : M[n]? = some (.lst ds)) : tyOk "list" M (.o n) = true := by unfold tyOk; simp only [h]; rfl
theorem drop0 (d : D) (M : List O) : dropM 0 (.p d) M = [] := by simp [dropM, ltO]
theorem app_run (i n : Nat) (me : EM) (l : List (Option DV)) (M : List O) (xs : List DV) (d : DV) (h1 : gv l i = some (.o n)) (h2 : M[n]? = some (.lst xs)) (h3 : xs.length < 1000000) (h4 : me ⟨l, M⟩ = some (.ok d M)) :
    sExpr (mMth "list" gApp (mVar i) (aCons me aNil)) ⟨l, M⟩ = some (.nx, ⟨l, M.set n (.lst (xs ++ [d]))⟩) := by
  have tk := tyOk_lst h2
  simp [e_bnd, e_lift, h1, tk, h4, gApp, h2, h3]
theorem ext_run (i n : Nat) (me : EM) (l : List (Option DV)) (M : List O) (xs : List DV) (ys : List D) (h1 : gv l i = some (.o n)) (h2 : M[n]? = some (.lst xs)) (h3 : xs.length + ys.length ≤ 1000000) (h4 : me ⟨l, M⟩ = some (.ok (.p (.lst ys)) M)) :
    sExpr (mMth "list" gExt (mVar i) (aCons me aNil)) ⟨l, M⟩ = some (.nx, ⟨l, M.set n (.lst (xs ++ ys.map .p))⟩) := by
  have tk := tyOk_lst h2
  simp [e_bnd, e_lift, h1, tk, h4, h2, h3]
theorem catO_run (i n : Nat) (me : EM) (l : List (Option DV)) (M : List O) (xs : List DV) (ys : List D) (h1 : gv l i = some (.o n)) (h2 : M[n]? = some (.lst xs)) (h3 : xs.length + ys.length ≤ 1000000) (h4 : me ⟨l, M⟩ = some (.ok (.p (.lst ys)) M)) :
    sAsg (mCatO (mVar i) me) (gN i) ⟨l, M⟩ = some (.nx, ⟨l.set i (some (.o M.length)), M ++ [.lst (xs ++ ys.map .p)]⟩) := by
  simp [e_bnd, e_lift, h1, h4, h2, h3]
theorem frz_run (i n : Nat) (l : List (Option DV)) (M : List O) (ds : List D) (h1 : gv l i = some (.o n)) (h2 : M[n]? = some (.lst (ds.map .p))) : mFrz (mVar i) ⟨l, M⟩ = some (.ok (.p (.lst ds)) (M.set n .gone)) := by
  simp [e_bnd, h1, h2]
theorem sfrz_run (i n : Nat) (l : List (Option DV)) (M : List O) (ds : List D) (h1 : gv l i = some (.o n)) (h2 : M[n]? = some (.lst (ds.map .p))) : sFrz i ⟨l, M⟩ = some (.nx, ⟨l.set i (some (.p (.lst ds))), M.set n .gone⟩) := by
  simp [h1, h2]
theorem seq_nx (a b : SM) (s s1 : S) (h : a s = some (.nx, s1)) : sSeq a b s = b s1 := by rw [e_seq, h]
/-- a loop that gathers -/
theorem acc_loop {α : Type} {enc : α → D} {g : GM} {b : SM} {Inv : List D → S → Prop} {step : α → List D} {ok : α → Prop}
    (h : ∀ a acc s, ok a → Inv acc s → acc.length + (step a).length ≤ 1000000 → ∃ s1, g (.p (enc a)) s = some s1 ∧ wpS (b s1) fun f s2 => f = .nx ∧ Inv (acc ++ step a) s2) :
    ∀ (as : List α) (acc : List D) (s : S), (∀ a ∈ as, ok a) → Inv acc s → acc.length + (as.flatMap step).length ≤ 1000000 → ∃ s', loopS g b ((as.map enc).map .p) s = some (.nx, s') ∧ Inv (acc ++ as.flatMap step) s'
  | [], acc, s, _, hi, _ => ⟨s, rfl, by simpa using hi⟩
  | a :: as, acc, s, ho, hi, hl => by
    rw [List.flatMap_cons, List.length_append] at hl
    obtain ⟨s1, h1, f, s2, e, _, rfl, h2⟩ := h a acc s (ho a List.mem_cons_self) hi (by omega)
    obtain ⟨s', e2, h3⟩ := acc_loop h as (acc ++ step a) s2 (fun b hb => ho b (List.mem_cons_of_mem _ hb)) h2 (by rw [List.length_append]; omega)
    refine ⟨s', ?_, by rw [List.flatMap_cons, ← List.append_assoc]; exact h3⟩
    rw [List.map_cons, List.map_cons, loop_step g b _ _ s s1 s2 h1 e]
    exact e2
theorem wpS_eq {o : Option (Fl × S)} {s : S} {Q : S → Prop} (e : o = some (.nx, s)) (h : Q s) : wpS o fun f s2 => f = .nx ∧ Q s2 := ⟨_, _, e, rfl, rfl, h⟩
@[reducible] def enOpt {α : Type} [DecidableEq α] [En α] (hn : ∀ a : α, deq (En.en a) .non = false) (hn2 : ∀ a : α, deq .non (En.en a) = false) : En (Option α) := ⟨enO, fun a b => by
    cases a <;> cases b <;> simp [enO, En.dq, hn, hn2], fun a => by cases a <;> simp [enO, En.ok], En.dp α, fun a => by
    cases a with
    | none => exact Nat.zero_le _
    | some a => exact En.dpl a⟩
instance : En (Option Int) := enOpt (fun _ => rfl) (fun _ => rfl)
instance : En (Option Bool) := enOpt (fun _ => rfl) (fun _ => rfl)
theorem en_none_i : (En.en (none : Option Int) : D) = .non := rfl
theorem en_some_i (i : Int) : (En.en (some i) : D) = .int i := rfl
theorem en_none_b : (En.en (none : Option Bool) : D) = .non := rfl
theorem en_some_b (i : Bool) : (En.en (some i) : D) = .bl i := rfl
/-- a call of a local that holds a def -/
theorem callV_run (i n : Nat) (tb : List (Addr × MA)) (ms : AM) (s : S) (a : Addr) (m : MA) (r : Option (Rs DV)) (h1 : gv s.l i = some (.p (.fn a))) (h2 : tb.lookup a = some m) (h3 : mCallA n m ms s = r) : mCallV i n tb ms s = r := by
  unfold mCallV
  rw [h1]
  dsimp only
  rw [h2]
  exact h3
end DL
namespace DL
open PySem L2
theorem sif_f (c : EM) (a b : SM) (s : S) (M : List O) (h : c s = some (.ok (.p (.bl false)) M)) : sIf c a b s = b ⟨s.l, M⟩ := by
  rw [e_sif, e_lift, h]; rfl
theorem sif_t (c : EM) (a b : SM) (s : S) (M : List O) (h : c s = some (.ok (.p (.bl true)) M)) : sIf c a b s = a ⟨s.l, M⟩ := by
  rw [e_sif, e_lift, h]; rfl
theorem set_get {M : List O} {n : Nat} {x : O} (h : M[n]? = some x) (y : O) : (M.set n y)[n]? = some y := by rw [List.getElem?_set_self (List.getElem?_eq_some_iff.mp h).1]
theorem snoc_get (M : List O) (x : O) : (M ++ [x])[M.length]? = some x := by simp
theorem acc_front {α : Type} {enc : α → D} {g : GM} {b : SM} {Inv : List D → S → Prop} {step : α → List D} {ok : α → Prop} (i : Nat) (it : IM) (l : List (Option DV)) (as : List α)
    (h : ∀ a acc s, ok a → Inv acc s → acc.length + (step a).length ≤ 1000000 → ∃ s1, g (.p (enc a)) s = some s1 ∧ wpS (b s1) fun f s2 => f = .nx ∧ Inv (acc ++ step a) s2)
    (ho : ∀ a ∈ as, ok a) (hit : it ⟨l.set i (some (.o 0)), [.lst []]⟩ = some (.ok ((as.map enc).map .p) [.lst []])) (h0 : Inv [] ⟨l.set i (some (.o 0)), [.lst []]⟩) (hl : (as.flatMap step).length ≤ 1000000) :
    ∃ s', Inv (as.flatMap step) s' ∧ ∀ K, sSeq (sAsg (dispO aNil) (gN i)) (sSeq (sFor it g b) K) ⟨l, []⟩ = K s' := by
  obtain ⟨s', e, hi⟩ := acc_loop h as [] ⟨l.set i (some (.o 0)), [.lst []]⟩ ho h0 (by show 0 + _ ≤ _; omega)
  refine ⟨s', hi, fun K => ?_⟩
  rw [seq_asg (dispO aNil) (gN i) _ _ ⟨l.set i (some (.o 0)), [.lst []]⟩ (.o 0) [.lst []] (by simp [e_bnd]) rfl]
  rw [seq_nx _ _ _ s' (by rw [e_for, e_lift, hit]; exact e)]
theorem runB_of {n : Nat} {m : SM} {ds : List DV} {d : D} {s : S} (h : m ⟨slotsOf n ds, []⟩ = some (.rt (.p d), s)) : runB n m ds [] = some (.ok (.p d) []) := by
  rw [e_runB, h]
  show some (Rs.ok (DV.p d) (dropM 0 (.p d) s.m)) = _
  rw [drop0]
theorem runA_of {n : Nat} {m : SM} {ds : List D} {d : D} {s : S} (h : m ⟨slotsOf n (ds.map .p), []⟩ = some (.rt (.p d), s)) : runA n m ds = some (.ok d) := by
  rw [e_runA, h]
theorem ret_run (m : EM) (s : S) (d : DV) (M : List O) (h : m s = some (.ok d M)) : sRet m s = some (.rt d, ⟨s.l, M⟩) := by
  rw [e_sret, e_lift, h]
theorem filter_compE {α : Type} (enc : α → D) {l : List (Option DV)} {g : GM} {t e : EM} {M : List O} (f : α → D) (q : α → Bool) (ds : List α) (h : ∀ a ∈ ds, ∃ s1 : S, g (.p (enc a)) ⟨l, M⟩ = some s1 ∧ s1.m = M ∧ t s1 = some (.ok (.p (.bl (q a))) M) ∧ (q a = true → e s1 = some (.ok (.p (f a)) M))) (hl : ds.length ≤ 1000000) : compL l g t e ((ds.map enc).map .p) [] M = some ((ds.filter q).map f, M) := by
  have main : ∀ (ds : List α) (acc : List D), (∀ a ∈ ds, ∃ s1 : S, g (.p (enc a)) ⟨l, M⟩ = some s1 ∧ s1.m = M ∧ t s1 = some (.ok (.p (.bl (q a))) M) ∧ (q a = true → e s1 = some (.ok (.p (f a)) M))) → acc.length + ds.length ≤ 1000000 → compL l g t e ((ds.map enc).map .p) acc M = some (acc ++ (ds.filter q).map f, M) := by
    intro ds
    induction ds with
    | nil => intro acc _ _; simp [compL]
    | cons a ds ih =>
      intro acc h hn
      simp only [List.length_cons] at hn
      obtain ⟨s1, h1, h2, h3, h4⟩ := h a List.mem_cons_self
      have ih := fun acc hn => ih acc (fun b hb => h b (List.mem_cons_of_mem _ hb)) hn
      show compL _ _ _ _ (.p (enc a) :: (ds.map enc).map .p) acc M = _
      unfold compL
      rw [h1]
      dsimp only
      rw [h3]
      cases hq : q a with
      | true =>
        dsimp only
        have q2 : e ⟨s1.l, M⟩ = some (.ok (.p (f a)) M) := by have h4 := h4 hq; rw [← h2] at h4 ⊢; exact h4
        rw [q2]
        dsimp only
        rw [if_pos (by omega), ih _ (by simp; omega)]
        simp [hq]
      | false =>
        dsimp only
        rw [ih _ (by omega)]
        simp [hq]
  have := main ds [] h (by simpa using hl)
  simpa using this
theorem map_compE {α : Type} (enc : α → D) {l : List (Option DV)} {g : GM} {e : EM} {M : List O} (f : α → D) (ds : List α) (h : ∀ a ∈ ds, ∃ s1 : S, g (.p (enc a)) ⟨l, M⟩ = some s1 ∧ s1.m = M ∧ e s1 = some (.ok (.p (f a)) M)) (hl : ds.length ≤ 1000000) : compL l g tYesM e ((ds.map enc).map .p) [] M = some (ds.map f, M) := by
  have q := filter_compE enc (l := l) (g := g) (t := tYesM) (e := e) (M := M) f (fun _ => true) ds (fun a ha => by
    obtain ⟨s1, h1, h2, h3⟩ := h a ha
    exact ⟨s1, h1, h2, by rw [← h2]; rfl, fun _ => h3⟩) hl
  rw [q, List.filter_eq_self.mpr (fun _ _ => rfl)]
theorem it_var (j : Nat) (l : List (Option DV)) (M : List O) (ds : List D) (h : gv l j = some (.p (.lst ds))) : mItD itL (mVar j) ⟨l, M⟩ = some (.ok (ds.map .p) M) := by
  simp [e_bnd, h]
end DL
namespace DL
open PySem L2
/-! sorted lists of ints -/
def sortI (ns : List Int) : List Int := ns.mergeSort fun a b => decide (a ≤ b)
theorem dSort_ints (ns : List Int) : dSort (.lst (ns.map .int)) = some (.lst ((sortI ns).map .int)) := by
  unfold dSort
  have h1 : (ns.map D.int).all shp = true := all_shp (α := Int) (by decide) ns
  have h2 : sortOk (toPs (ns.map D.int)) = true := by
    rw [toPs_map, List.map_map]
    unfold sortOk
    rw [Bool.and_eq_true, Bool.or_eq_true]
    refine ⟨.inr (List.all_eq_true.mpr fun d hd => ?_), List.all_eq_true.mpr fun d hd => List.all_eq_true.mpr fun e he => ?_⟩
    · obtain ⟨x, _, rfl⟩ := List.mem_map.mp hd; rfl
    · obtain ⟨x, _, rfl⟩ := List.mem_map.mp hd
      obtain ⟨y, _, rfl⟩ := List.mem_map.mp he
      simp [toP, PySem.W.alike]
  show (if ((ns.map D.int).all shp && sortOk (toPs (ns.map D.int))) = true then some (D.lst (sortL (ns.map D.int))) else none) = _
  rw [h1, h2]
  show some (D.lst (sortL _)) = _
  unfold sortL sortI
  have e := List.map_mergeSort (r := fun a b : Int => decide (a ≤ b)) (s := PySem.W.dataLe false toP) (f := D.int) (l := ns) fun p _ q _ => by
    have := congrFun (congrFun (PySem.W.dataLe_int (fun x : Int => x)) p) q
    exact this.symm
  rw [e]
theorem sortI_perm (ns : List Int) : (sortI ns).Perm ns := List.mergeSort_perm _ _
theorem sortI_len (ns : List Int) : (sortI ns).length = ns.length := (sortI_perm ns).length_eq
theorem sortI_pw (ns : List Int) : (sortI ns).Pairwise (· ≤ ·) := by
  have h := List.pairwise_mergeSort (le := fun a b : Int => decide (a ≤ b)) (fun a b c h1 h2 => by simp at *; omega) (fun a b => by simp; omega) ns
  exact h.imp fun h => by simpa using h
theorem foldl_min_mem : ∀ (r : List Int) (n : Int), r.foldl min n ∈ n :: r ∧ ∀ y ∈ n :: r, r.foldl min n ≤ y
  | [], n => ⟨List.mem_singleton.mpr rfl, fun y hy => by rw [List.mem_singleton.mp hy]; exact Int.le_refl _⟩
  | x :: r, n => by
    obtain ⟨h1, h2⟩ := foldl_min_mem r (min n x)
    rw [List.foldl_cons]
    refine ⟨?_, fun y hy => ?_⟩
    · rcases List.mem_cons.mp h1 with h | h
      · rw [h, Int.min_def]; split <;> simp
      · exact List.mem_cons_of_mem _ (List.mem_cons_of_mem _ h)
    · have h3 := h2 (min n x) List.mem_cons_self
      rcases List.mem_cons.mp hy with h | h
      · rw [h]; omega
      · rcases List.mem_cons.mp h with h | h
        · rw [h]; omega
        · exact h2 y (List.mem_cons_of_mem _ h)
theorem foldl_max_mem : ∀ (r : List Int) (n : Int), r.foldl max n ∈ n :: r ∧ ∀ y ∈ n :: r, y ≤ r.foldl max n
  | [], n => ⟨List.mem_singleton.mpr rfl, fun y hy => by rw [List.mem_singleton.mp hy]; exact Int.le_refl _⟩
  | x :: r, n => by
    obtain ⟨h1, h2⟩ := foldl_max_mem r (max n x)
    rw [List.foldl_cons]
    refine ⟨?_, fun y hy => ?_⟩
    · rcases List.mem_cons.mp h1 with h | h
      · rw [h, Int.max_def]; split <;> simp
      · exact List.mem_cons_of_mem _ (List.mem_cons_of_mem _ h)
    · have h3 := h2 (max n x) List.mem_cons_self
      rcases List.mem_cons.mp hy with h | h
      · rw [h]; omega
      · rcases List.mem_cons.mp h with h | h
        · rw [h]; omega
        · exact h2 y (List.mem_cons_of_mem _ h)
theorem sortI_first (n : Int) (r : List Int) : atI (sortI (n :: r)) 0 = some (r.foldl min n) := by
  have hp := sortI_perm (n :: r)
  have hw := sortI_pw (n :: r)
  have hl := sortI_len (n :: r)
  cases hs : sortI (n :: r) with
  | nil => rw [hs] at hl; cases hl
  | cons a l =>
    rw [hs] at hp hw
    obtain ⟨m1, m2⟩ := foldl_min_mem r n
    have h1 := m2 a (hp.mem_iff.mp List.mem_cons_self)
    have h2 : a ≤ r.foldl min n := by
      rcases List.mem_cons.mp (hp.mem_iff.mpr m1) with h | h
      · omega
      · exact (List.pairwise_cons.mp hw).1 _ h
    rw [atI0]; congr 1; omega
theorem sortI_last (n : Int) (r : List Int) : atI (sortI (n :: r)) (r.length : Int) = some (r.foldl max n) := by
  have hp := sortI_perm (n :: r)
  have hw := sortI_pw (n :: r)
  have hl := sortI_len (n :: r)
  rcases List.eq_nil_or_concat (sortI (n :: r)) with hs | ⟨l, a, hs⟩
  · rw [hs] at hl; cases hl
  · rw [List.concat_eq_append] at hs
    rw [hs] at hp hw hl
    have hl' : l.length = r.length := by simpa using hl
    obtain ⟨m1, m2⟩ := foldl_max_mem r n
    have h1 := m2 a (hp.mem_iff.mp (by simp))
    have h2 : r.foldl max n ≤ a := by
      rcases List.mem_append.mp (hp.mem_iff.mpr m1) with h | h
      · exact (List.pairwise_append.mp hw).2.2 _ h a (by simp)
      · simp at h; omega
    rw [hs, atI_nat' (by omega) (x := a) (by rw [Int.toNat_natCast, ← hl']; simp)]
    congr 1; omega
theorem cut_from (xs : List D) (n : Nat) : cutD xs (some (n : Int)) none = xs.drop n := by
  unfold cutD
  rw [HT.sIx_none, HT.sIx_nat]
  rw [List.take_of_length_le (by rw [List.length_drop]; exact Nat.le_refl _)]
  by_cases h : n ≤ xs.length
  · rw [Nat.min_eq_left h]
  · rw [Nat.min_eq_right (by omega), List.drop_length, List.drop_of_length_le (by omega)]
theorem cut_to (xs : List D) (n : Nat) : cutD xs none (some (n : Int)) = xs.take n := by
  unfold cutD
  rw [HT.sIx_none, HT.sIx_nat, List.drop_zero, Nat.sub_zero]
  by_cases h : n ≤ xs.length
  · rw [Nat.min_eq_left h]
  · rw [Nat.min_eq_right (by omega), List.take_length, List.take_of_length_le (by omega)]
@[simp] theorem e_slL (xs : List D) (l u : Option Int) : slE (.lst xs) l u = some (.lst (cutD xs l u)) := rfl
end DL
namespace DL
open PySem L2
/-! ### drawn numbers, with other objects of one's own behind them -/
theorem ltO_mono {n m : Nat} (h : n ≤ m) (d : DV) (k : ltO n d = true) : ltO m d = true := by
  cases d with
  | p _ => rfl
  | o i => have k : decide (i < n) = true := k; exact decide_eq_true (by have := of_decide_eq_true k; omega)
theorem closed_mono {n m : Nat} (h : n ≤ m) (o : O) (k : closed n o = true) : closed m o = true := by
  cases o with
  | lst xs => exact List.all_eq_true.mpr fun d hd => ltO_mono h d (List.all_eq_true.mp k d hd)
  | dK xs => exact List.all_eq_true.mpr fun d hd => ltO_mono h d.2 (List.all_eq_true.mp k d hd)
  | dT xs => exact List.all_eq_true.mpr fun d hd => ltO_mono h d.2 (List.all_eq_true.mp k d hd)
  | ins C xs => exact List.all_eq_true.mpr fun d hd => ltO_mono h d.2 (List.all_eq_true.mp k d hd)
  | tbl _ _ => rfl
  | gone => rfl
theorem closed_data (n : Nat) (ds : List D) : closed n (.lst (ds.map .p)) = true := by
  show (ds.map DV.p).all (ltO n) = true
  rw [List.all_map]
  exact List.all_eq_true.mpr fun _ _ => rfl
def Dx (n : Nat) (sv : DV) (R M : List O) : Prop := ∃ B, M = B ++ R ∧ Dr n sv B
theorem Dx.of {n : Nat} {sv : DV} {M : List O} (h : Dr n sv M) : Dx n sv [] M := ⟨M, (List.append_nil _).symm, h⟩
theorem Dx.nil {n : Nat} {sv : DV} {M : List O} (h : Dx n sv [] M) : Dr n sv M := by obtain ⟨B, rfl, h⟩ := h; rwa [List.append_nil]
theorem Dx.len {n : Nat} {sv : DV} {R M : List O} (h : Dx n sv R M) : M.length = n + R.length := by obtain ⟨B, rfl, h⟩ := h; rw [List.length_append, h.len]
theorem Dx.get {n : Nat} {sv : DV} {R M : List O} (h : Dx n sv R M) (i : Nat) : M[n + i]? = R[i]? := by
  obtain ⟨B, rfl, h⟩ := h
  rw [List.getElem?_append_right (by rw [h.len]; omega), h.len]
  congr 1; omega
theorem Dx.set {n : Nat} {sv : DV} {R M : List O} (h : Dx n sv R M) (i : Nat) (o : O) : Dx n sv (R.set i o) (M.set (n + i) o) := by
  obtain ⟨B, rfl, h⟩ := h
  refine ⟨B, ?_, h⟩
  rw [List.set_append_right _ _ (by rw [h.len]; omega), h.len]
  congr 2; omega
theorem Dx.app {n : Nat} {sv : DV} {R M : List O} (h : Dx n sv R M) (o : O) : Dx n sv (R ++ [o]) (M ++ [o]) := by
  obtain ⟨B, rfl, h⟩ := h
  exact ⟨B, List.append_assoc _ _ _, h⟩
theorem Dx.drop {n : Nat} {sv : DV} {R G M : List O} {d : D} (h : Dx n sv (R ++ G) M) (hR : R.all (closed (n + R.length)) = true) {k : Nat} (hk : k = n + R.length) : Dx n sv R (dropM k (.p d) M) := by
  subst hk
  obtain ⟨B, rfl, h⟩ := h
  have e : (B ++ (R ++ G)).take (n + R.length) = B ++ R := by
    rw [← List.append_assoc, List.take_append_of_le_length (by rw [List.length_append, h.len]; exact Nat.le_refl _), List.take_of_length_le (by rw [List.length_append, h.len]; exact Nat.le_refl _)]
  have c : (B ++ R).all (closed (n + R.length)) = true := by
    rw [List.all_append, hR, Bool.and_true]
    exact List.all_eq_true.mpr fun o ho => closed_mono (Nat.le_add_right _ _) o (List.all_eq_true.mp h.cl o ho)
  unfold dropM
  rw [e, c]
  exact ⟨B, rfl, h⟩
theorem Dx.same {n : Nat} {sv : DV} {R M M' : List O} {d : D} (h : Dx n sv R M) (h' : Dx n sv R M') : dropM M.length (.p d) M' = M' := dropM_len (by rw [h.len, h'.len])
theorem wp_takeX {n : Nat} {sv : DV} {R M : List O} {most : Int} {P : DV → List O → Prop} (h : Dx n sv R M) (hm : most < 18446744073709551616) (k : ∀ r M', Dx n sv R M' → (most < 1 → r = 0) → (1 ≤ most → 0 ≤ r ∧ r < most) → P (.p (.int r)) M') : wpB (takeM [sv, .p (.int most)] M) P := by
  obtain ⟨B, rfl, h⟩ := h
  obtain ⟨kk, c, i, cells, rfl, hk, hc, kc, hi, ne, nn⟩ := h.ex
  have lk := (List.getElem?_eq_some_iff.mp hk).1
  have lc := (List.getElem?_eq_some_iff.mp hc).1
  obtain ⟨r, M', e, d, b0, b⟩ := take_raw (M := B ++ R) (by rw [List.getElem?_append_left lk]; exact hk) (by rw [List.getElem?_append_left lc]; exact hc) kc hi ne nn most hm
  refine ⟨_, _, e, ?_⟩
  rcases d with rfl | ⟨cells', rfl, ne', nn'⟩ | rfl
  · exact k r _ ⟨B, rfl, h⟩ b0 b
  · rw [List.set_append_left _ _ lc]
    exact k r _ ⟨_, rfl, ⟨by rw [List.length_set]; exact h.len, all_set h.cl (closed_ints n _) c, kk, c, i, cells', rfl, by rw [List.getElem?_set_ne kc.symm]; exact hk, by rw [List.getElem?_set_self lc]; rfl, kc, hi, ne', nn'⟩⟩ b0 b
  · rw [List.set_append_left _ _ lk]
    exact k r _ ⟨_, rfl, ⟨by rw [List.length_set]; exact h.len, all_set h.cl (show closed n (.lst [.p (.int (i + 1)), .o c]) = true from (List.all_eq_true.mp h.cl _ (List.mem_of_getElem? hk) : closed n (.lst [.p (.int i), .o c]) = true)) kk, kk, c, i + 1, cells, rfl, by rw [List.getElem?_set_self lk], by rw [List.getElem?_set_ne kc]; exact hc, kc, by omega, ne, nn⟩⟩ b0 b
/-- a loop that goes on or returns, its turns' places told -/
theorem wpS_mono {o : Option (Fl × S)} {P Q : Fl → S → Prop} (h : wpS o P) (k : ∀ f s, P f s → Q f s) : wpS o Q := wpS.imp h k
end DL
namespace DL
open PySem L2
theorem wp_lc {it : IM} {vs : List Nat} {g : GM} {e : EM} {s : S} {P : DV → List O → Prop} (h : wpB (it s) fun ds M => ∃ ys M', compL (wipeL s.l vs) g tYesM e ds [] M = some (ys, M') ∧ P (.p (.lst ys)) M') : wpB (mLc it vs g tYesM e s) P := by
  obtain ⟨ds, M, e1, ys, M', e2, p⟩ := h
  refine ⟨_, M', ?_, p⟩
  rw [e_lc, e_bnd, e1]
  show (match compL (wipeL s.l vs) g tYesM e ds [] M with | some (acc, M) => some (Rs.ok (DV.p (D.lst acc)) M) | none => none) = _
  rw [e2]
theorem wp_rng1 {m : EM} {s : S} {Q : List DV → List O → Prop} (h : wpB (m s) fun d M => ∃ j, d = .p (.int j) ∧ rngOk j = true ∧ Q (DL.intsFrom 0 j.toNat) M) : wpB (mRng rng1D (aCons m aNil) s) Q := by
  obtain ⟨d, M, e, j, rfl, hj, q⟩ := h
  refine ⟨_, M, ?_, q⟩
  rw [e_rng, e_bnd, e_aCons, e_bnd, e]
  simp [e_bnd, hj]
theorem wp_ix {m n : EM} {s : S} {P : DV → List O → Prop} (h : wpB (m s) fun d M => ∃ xs, d = .p (.lst xs) ∧ wpB (n ⟨s.l, M⟩) fun e M2 => ∃ i z, e = .p (.int i) ∧ atI xs i = some z ∧ P (.p z) M2) : wpB (mIx m n s) P := by
  obtain ⟨d, M, e1, xs, rfl, e, M2, e2, i, z, rfl, hz, p⟩ := h
  refine ⟨_, M2, ?_, p⟩
  rw [e_ix, e_bnd, e1]
  show bnd n (pur (ixK (.p (.lst xs)))) ⟨s.l, M⟩ = _
  rw [e_bnd, e2]
  simp [hz]
theorem wp_tup2 {k : String} {me : EM} {s : S} {P : DV → List O → Prop} (h : wpB (me s) fun d M => ∃ x, d = .p x ∧ P (.p (.tup [.str (Str.ofString k), x])) M) : wpB (disp .tup (aCons (mC (.str (PySem.Str.ofString k))) (aCons me aNil)) s) P := by
  obtain ⟨d, M, e, x, rfl, p⟩ := h
  refine ⟨_, M, ?_, p⟩
  simp [e_bnd, e]
theorem w_forT (it : IM) (g : GM) (b K : SM) (s : S) (P : Fl → S → Prop) (h : wpB (it s) fun ds M => wpS (loopS g b ds ⟨s.l, M⟩) (andS K P)) : wpS (sSeq (sFor it g b) K s) P := by
  rw [w_seq, e_for, w_lift]; exact h
theorem w_retT (m : EM) (s : S) (P : Fl → S → Prop) (h : wpB (m s) fun d M => P (.rt d) ⟨s.l, M⟩) : wpS (sRet m s) P := by
  obtain ⟨d, M, e, p⟩ := h
  exact ⟨_, _, ret_run m s d M e, rfl, p⟩
theorem w_ifT (c : EM) (a K : SM) (s : S) (P : Fl → S → Prop) (h : wpB (c s) fun d M => ∃ b, d = .p (.bl b) ∧ (b = true → wpS (a ⟨s.l, M⟩) (andS K P)) ∧ (b = false → wpS (K ⟨s.l, M⟩) P)) : wpS (sSeq (sIf c a sNil) K s) P := by
  obtain ⟨d, M, e, b, rfl, h1, h2⟩ := h
  rw [w_seq]
  cases b with
  | true => rw [sif_t _ _ _ _ M e]; exact h1 rfl
  | false => rw [sif_f _ _ _ _ M e]; rw [e_nil, w_sok]; exact ⟨rfl, h2 rfl⟩
end DL
namespace DL
open PySem PySem.Spec L2 PyProof.Rows
/-! ### a statement, or an expression, that no run reaches -/
def sFail : SM := fun _ => none
def mFail : EM := fun _ => none
section
variable {K : PySem.W.Frag} {X : Cx} {W : WX} {st : Stmt} {ex : Expr}
theorem ds_fail (k : X.K = K := by rfl) : DS K X W st (fun _ _ _ => False) sFail := ⟨k, ⟨fun pins s σ H D I h => h.elim⟩, ⟨fun σ H s Z I r D w rs e p => by cases e⟩⟩
theorem de_fail (k : X.K = K := by rfl) : DE K X W ex (fun _ _ _ => False) mFail := ⟨k, ⟨fun pins s σ H Q I h => h.elim⟩, ⟨fun σ H s Z I r Q w rs e p => by cases e⟩⟩
end
/-! ### a def that calls itself: the promise of no step -/
theorem fn_zeroA {P : Program} {w : World} {K : PySem.W.Frag} {mg : Str → Option Value} {base : Heap} {CX : CXT} {k n : Nat} {f : Addr} {fd : FuncData} {ps : List Str} : FnOk P w K mg base CX k f fd ps (spA K n fun _ => none) :=
  ⟨fun vs H Q E h => (by obtain ⟨_, _, _, _, _, _, e, _⟩ := h; cases e), fun A outer s H args us vs Q E _ _ _ _ h => by obtain ⟨_, _, _, _, _, _, e, _⟩ := h; cases e⟩
theorem fn_zeroB {P : Program} {w : World} {K : PySem.W.Frag} {mg : Str → Option Value} {base : Heap} {CX : CXT} {k n : Nat} {f : Addr} {fd : FuncData} {ps : List Str} : FnOk P w K mg base CX k f fd ps (spB K n fun _ _ => none) :=
  ⟨fun vs H Q E h => (by obtain ⟨_, _, _, _, _, _, _, _, e, _⟩ := h; cases e), fun A outer s H args us vs Q E _ _ _ _ h => by obtain ⟨_, _, _, _, _, _, _, _, e, _⟩ := h; cases e⟩
/-! ### attributes of an instance of one's own -/
def putD (f : Str) (v : DV) : List (Str × DV) → List (Str × DV)
  | [] => [(f, v)]
  | p :: r => if p.1 = f then (p.1, v) :: r else p :: putD f v r
theorem putf_rep {K : PySem.W.Frag} {Z : Hp} {I : List Addr} {f : Str} {v : V} {d : DV} (h : RepV K Z I v d) : ∀ {vs : List (Str × V)} {fs : List (Str × DV)}, Paired (FRel K Z I) vs fs → Paired (FRel K Z I) (putF f v vs) (putD f d fs)
  | _, _, .nil => .cons ⟨rfl, h⟩ .nil
  | (a, x) :: vs, (b, y) :: fs, .cons ⟨e, q⟩ r => by
    have e : a = b := e
    subst e
    unfold putD putF
    by_cases k : a = f
    · rw [if_pos k, if_pos k]; exact .cons ⟨rfl, h⟩ r
    · rw [if_neg k, if_neg k]; exact .cons ⟨rfl, q⟩ (putf_rep h r)
theorem look_rep {K : PySem.W.Frag} {Z : Hp} {I : List Addr} {f : Str} : ∀ {vs : List (Str × V)} {fs : List (Str × DV)}, Paired (FRel K Z I) vs fs → (∀ d, fs.lookup f = some d → ∃ v, vs.lookup f = some v ∧ RepV K Z I v d) ∧ (fs.lookup f = none → vs.lookup f = none)
  | _, _, .nil => ⟨fun d h => (by cases h), fun _ => rfl⟩
  | (a, x) :: vs, (b, y) :: fs, .cons ⟨e, q⟩ r => by
    have e : a = b := e
    subst e
    obtain ⟨h1, h2⟩ := look_rep (f := f) r
    rw [List.lookup_cons, List.lookup_cons]
    cases f == a with
    | true => exact ⟨fun d h => (by cases h; exact ⟨x, rfl, q⟩), fun h => (by cases h)⟩
    | false => exact ⟨h1, h2⟩
def insM (M : List O) (C : Addr) : DV → Option (Nat × List (Str × DV))
  | .o n => match M[n]? with
    | some (.ins c fs) => if c = C then some (n, fs) else none
    | _ => none
  | _ => none
theorem ins_rep {K : PySem.W.Frag} {Z H : Hp} {I : List Addr} {M : List O} {C : Addr} {x : V} {d : DV} {n : Nat} {fs : List (Str × DV)} (w : Wf K Z H I M) (h : RepV K Z I x d) (e : insM M C d = some (n, fs)) : ∃ a dx vs, x = .ref a ∧ I[n]? = some a ∧ M[n]? = some (.ins C fs) ∧ H a = some (.ins C dx vs) ∧ Paired (FRel K Z I) vs fs := by
  unfold insM at e
  cases d with
  | p _ => cases e
  | o m =>
    obtain ⟨a, ha, rfl⟩ := h
    dsimp only at e
    split at e
    · rename_i c gs hm
      split at e
      · rename_i hc
        cases e
        subst hc
        obtain ⟨_, dx, vs, h1, h2⟩ := w.ob n a _ ha hm (by intro z; cases z)
        exact ⟨a, dx, vs, rfl, ha, hm, h1, h2⟩
      · cases e
    · cases e
def mFld (C : Addr) (f : Str) (m : EM) : EM := bnd m fun d s => match insM s.m C d with
  | some (_, fs) => match fs.lookup f with
    | some v => some (.ok v s.m)
    | none => none
  | none => none
structure Kls (K : PySem.W.Frag) (C : Addr) (fs : List Str) : Prop where
  c : Cls K C
  n : ∀ f ∈ fs, NoAttr K C f
section
variable {K : PySem.W.Frag} {X : Cx} {W : WX} {o e value : Expr} {es : List Expr} {pos pos' apos tpos p : Pos} {ta tv te : TE} {t : TA} {m mv : EM} {ms : AM} {f : Str} {C : Addr} {fl : List Str}
theorem so_fld (c : Kls K C fl) (hf : f ∈ fl) (h : Sound K W (RepV K) ta m) : Sound K W (RepV K) (tFld K ta f) (mFld C f m) := ⟨fun σ H s Z I r0 Q w rs e1 p1 => by
  refine h.bnd w rs e1 p1.x fun d v M1 Z1 H1 I1 w1 rs1 x1 q1 e2 => ?_
  have e2 : (match insM M1 C d with | some (_, fs) => (match fs.lookup f with | some v => some (Rs.ok v M1) | none => none) | none => none) = some r0 := e2
  cases z : insM M1 C d with
  | none => rw [z] at e2; cases e2
  | some q =>
    obtain ⟨n, fs⟩ := q
    rw [z] at e2
    dsimp only at e2
    cases y : fs.lookup f with
    | none => rw [y] at e2; cases e2
    | some dv =>
      rw [y] at e2
      cases e2
      obtain ⟨a, dx, vs, rfl, ha, hm, hH, pr⟩ := ins_rep w1 q1 z
      obtain ⟨u, hu, ru⟩ := (look_rep pr).1 _ y
      exact ⟨a, C, dx, vs, u, rfl, hH, c.c, c.n f hf, hu, p1 u Z1 H1 I1 w1 x1 ru⟩⟩
theorem de_fld (c : Kls K C fl) (hf : f ∈ fl) (h : DE K X W e ta m) (hb : attributeBase e f X.env (eval e X.env) = eval e X.env := by rfl) : DE K X W (.Attribute e f pos) (tFld K ta f) (mFld C f m) :=
  ⟨h.k, by rw [← h.k]; exact pe_fld h.pe hb, so_fld c hf h.so⟩
def sFldK (C : Addr) (f : Str) (y d : DV) : SM := fun s => match insM s.m C d with
  | some (n, fs) => if fs.length < 1000 then some (.nx, ⟨s.l, s.m.set n (.ins C (putD f y fs))⟩) else none
  | none => none
def sFldM (C : Addr) (f : Str) (mv m : EM) : SM := liftS mv fun y => liftS m fun d => sFldK C f y d
theorem fld_set {Z H : Hp} {I : List Addr} {M : List O} {n : Nat} {a dx : Addr} {vs : List (Str × V)} {fs : List (Str × DV)} {v : V} {d : DV} (w : Wf K Z H I M) (ha : I[n]? = some a) (hm : M[n]? = some (.ins C fs)) (pr : Paired (FRel K Z I) vs fs) (r : RepV K Z I v d) :
    Wf K Z (upd H a (.ins C dx (putF f v vs))) I (M.set n (.ins C (putD f d fs))) := w.setO ha hm (by intro z; cases z) ⟨dx, _, upd_same, putf_rep r pr⟩
theorem so_setfld (c : Kls K C fl) (hf : f ∈ fl) (hv : Sound K W (RepV K) tv mv) (h : Sound K W (RepV K) ta m) : SoundS K W (sFld K ta tv f) (sFldM C f mv m) := ⟨fun σ H s Z I r D w rs e1 p1 => by
  refine hv.lift w rs e1 p1 fun y yv M1 Z1 H1 I1 w1 rs1 x1 q1 e2 p2 => ?_
  refine h.lift (s := ⟨s.l, M1⟩) w1 rs1 e2 p2 fun d v M2 Z2 H2 I2 w2 rs2 x2 q2 e3 p3 => ?_
  have e3 : (match insM M2 C d with | some (n, fs) => if fs.length < 1000 then some (Fl.nx, ⟨s.l, M2.set n (.ins C (putD f y fs))⟩) else none | none => none) = some r := e3
  cases z : insM M2 C d with
  | none => rw [z] at e3; cases e3
  | some q =>
    obtain ⟨n, fs⟩ := q
    rw [z] at e3
    dsimp only at e3
    split at e3
    · rename_i hl
      cases e3
      obtain ⟨a, dx, vs, rfl, ha, hm, hH, pr⟩ := ins_rep w2 q2 z
      have ry := RepV.mono x2 q1
      refine ⟨a, C, dx, vs, rfl, hH, c.c, c.n f hf, by rw [paired_len pr]; exact hl, ?_⟩
      exact p3 σ Z2 _ I2 (fld_set w2 ha hm pr ry) rs2 (ext_set (List.mem_of_getElem? ha))
    · cases e3⟩
theorem ds_setfld (c : Kls K C fl) (hf : f ∈ fl) (hv : DE K X W value tv mv) (h : DE K X W o ta m) (hs : swapsWith value (some (.Attribute o f pos')) pos.line X.env = pure false := by rfl) : DS K X W (.Assign [.Attribute o f pos'] value pos) (sFld K ta tv f) (sFldM C f mv m) :=
  ⟨h.k, by rw [← h.k]; exact ps_fld h.pe hv.pe hs, so_setfld c hf hv.so h.so⟩
/-- o.f += an int -/
def sFldAdd (C : Addr) (f : Str) (m mv : EM) : SM := liftS m fun d => liftS mv fun y s => match insM s.m C d with
  | some (n, fs) => match fs.lookup f, y with
    | some (.p (.int i)), .p (.int j) => if fs.length < 1000 then some (.nx, ⟨s.l, s.m.set n (.ins C (putD f (.p (.int (i + j))) fs))⟩) else none
    | _, _ => none
  | none => none
theorem so_fldadd (c : Kls K C fl) (hf : f ∈ fl) (h : Sound K W (RepV K) ta m) (hv : ∀ s, ∃ j : Int, mv s = some (.ok (.p (.int j)) s.m)) (hv2 : Sound K W (RepV K) tv mv) : SoundS K W (sFldAug K ta tv rAdd f) (sFldAdd C f m mv) := ⟨fun σ H s Z I r D w rs e1 p1 => by
  refine h.lift w rs e1 p1 fun d v M1 Z1 H1 I1 w1 rs1 x1 q1 e2 p2 => ?_
  obtain ⟨j, hj⟩ := hv ⟨s.l, M1⟩
  unfold liftS at e2
  rw [hj] at e2
  have e2 : (match insM M1 C d with
    | some (n, fs) => match fs.lookup f, (DV.p (.int j)) with
      | some (.p (.int i)), .p (.int j) => if fs.length < 1000 then some (Fl.nx, (⟨s.l, M1.set n (.ins C (putD f (.p (.int (i + j))) fs))⟩ : S)) else none
      | _, _ => none
    | none => none) = some r := e2
  cases z : insM M1 C d with
  | none => rw [z] at e2; cases e2
  | some q =>
    obtain ⟨n, fs⟩ := q
    rw [z] at e2
    dsimp only at e2
    obtain ⟨a, dx, vs, rfl, ha, hm, hH, pr⟩ := ins_rep w1 q1 z
    split at e2
    · rename_i i j' hi hj'
      cases hj'
      split at e2
      · rename_i hl
        cases e2
        obtain ⟨u, hu, ru⟩ := (look_rep pr).1 _ hi
        cases ru
        refine ⟨a, C, dx, vs, .int i, rfl, hH, c.c, c.n f hf, hu, ?_⟩
        refine hv2.ok σ H1 ⟨s.l, M1⟩ Z1 I1 _ _ w1 rs1 hj fun b Z2 H2 I2 w2 x2 q2 => ?_
        cases q2
        have ha2 : I2[n]? = some a := by
          obtain ⟨t, rfl⟩ := x2.i
          rw [List.getElem?_append_left (List.getElem?_eq_some_iff.mp ha).1]; exact ha
        obtain ⟨_, dx2, vs2, hH2, pr2⟩ := w2.ob n a _ ha2 hm (by intro z; cases z)
        refine ⟨i, j, rfl, rfl, dx2, vs2, hH2, by rw [paired_len pr2]; exact hl, ?_⟩
        exact p2 σ Z2 _ I2 (fld_set w2 ha2 hm pr2 (.int _)) (rs1.mono x2) (x2.trans (ext_set (List.mem_of_getElem? ha2)))
      · cases e2
    · cases e2⟩
theorem ds_fldadd (c : Kls K C fl) (hf : f ∈ fl) (h : DE K X W o ta m) (hv2 : DE K X W value tv mv) (hv : ∀ s, ∃ j : Int, mv s = some (.ok (.p (.int j)) s.m)) : DS K X W (.AugAssign (.Attribute o f tpos) .Add value pos) (sFldAug K ta tv rAdd f) (sFldAdd C f m mv) :=
  ⟨h.k, by rw [← h.k]; exact ps_fldaug h.pe hv2.pe in_add, so_fldadd c hf h.so hv hv2.so⟩
end
/-! ### methods of one's own classes -/
def tMethS (C : Addr) (mn : Str) (sp : Sp) (E : L2.St → XK) (ta : TE) (t : TA) : TE := fun σ H Q => ta σ H fun x H1 => ∃ a dx fs, x = .ref a ∧ H1 a = some (.ins C dx fs) ∧ fs.lookup mn = none ∧
  t σ H1 fun vs H2 => sp (x :: vs) H2 Q (E σ)
section
variable {X : Cx} {CX : CXT} {k : Nat} {C f : Addr} {fd : FuncData} {ps : List Str} {mn : Str} {sp : Sp} {E : L2.St → XK} {o e : Expr} {es : List Expr} {ta : TE} {t : TA} {apos pos : Pos}
theorem pe_methS' {pl : Sem Bool} (he : PE X o ta) (c : Cls X.K C) (hm : Meth X.K C mn f) (F : FnOk X.prog X.w X.K X.mg X.base CX k f fd ps sp) (hr : Room k X.A) (hb : Binds X.K fd ps []) (hx : ∀ σ, PassesAt CX X σ (E σ)) (ha : PA X (e :: es) t)
    (hst : starEach (e :: es) X.env = (false, eval e X.env) :: starEach es X.env := by rfl) (hpl : (backTo pos (starEach es X.env)).any (·.1) = false := by rfl)
    (ht : eval (.Call (.Attribute o mn apos) (e :: es) [] pos) X.env = (do
      let ov ← eval o X.env
      standAt apos.atName
      let (f, first) ← holding [ov] (getMethod ov mn pl)
      callWith pos f first (backTo pos (starEach (e :: es) X.env)) (backToKw pos (keywordEach [] X.env))) := by rfl) :
    PE X (.Call (.Attribute o mn apos) (e :: es) [] pos) (tMethS C mn sp E ta t) := by
  refine ⟨fun pins s σ H Q I h => ?_⟩
  refine PySem.W.methodCall_KW (pl := pl) (thn (he.run pins s σ H _ I h) fun u s1 ⟨x, H1, I1, rx, a, dx, fs, ex, ea, l, q⟩ => ?_) ht
  subst ex
  obtain rfl : u = Value.ref a := rx
  refine getmeth_ok I1 ea c hm l ?_
  refine PySem.W.callWith_K (first := [.ref a]) (h₀ := X.base) I.ok.mod.kin hm.kp (thn (ha.run pos pins s1 σ H1 _ I1 q) fun us s2 ⟨vs, H2, I2, r, q2⟩ => ⟨I2.kIn, ?_⟩) hst hpl
  exact run_fnS (us := .ref a :: us) (vs := .ref a :: vs) F hr hb (hx σ) I2 (.cons rfl r) q2
theorem pe_methS0' {pl : Sem Bool} (he : PE X o ta) (c : Cls X.K C) (hm : Meth X.K C mn f) (F : FnOk X.prog X.w X.K X.mg X.base CX k f fd ps sp) (hr : Room k X.A) (hb : Binds X.K fd ps []) (hx : ∀ σ, PassesAt CX X σ (E σ))
    (ht : eval (.Call (.Attribute o mn apos) [] [] pos) X.env = (do
      let ov ← eval o X.env
      standAt apos.atName
      let (f, first) ← holding [ov] (getMethod ov mn pl)
      callWith pos f first (backTo pos (starEach [] X.env)) (backToKw pos (keywordEach [] X.env))) := by rfl) :
    PE X (.Call (.Attribute o mn apos) [] [] pos) (tMethS C mn sp E ta tNil) := by
  refine ⟨fun pins s σ H Q I h => ?_⟩
  refine PySem.W.methodCall_KW (pl := pl) (thn (he.run pins s σ H _ I h) fun u s1 ⟨x, H1, I1, rx, a, dx, fs, ex, ea, l, q⟩ => ?_) ht
  subst ex
  obtain rfl : u = Value.ref a := rx
  refine getmeth_ok I1 ea c hm l ?_
  exact PySem.W.callWith_K0 (first := [.ref a]) I1.kIn hm.kp (run_fnS (us := [.ref a]) (vs := [.ref a]) F hr hb (hx σ) I1 (.cons rfl .nil) q)
end
/-- o.m(..): the instance goes first -/
def mMeth (C : Addr) (mn : Str) (n : Nat) (g : List DV → List O → Option (Rs DV)) (m : EM) (ms : AM) : EM := bnd m fun d s => match insM s.m C d with
  | some (_, fs) => match fs.lookup mn with
    | none => bnd ms (fun ds s => if ds.length = n then g (d :: ds) s.m else none) s
    | some _ => none
  | none => none
section
variable {K : PySem.W.Frag} {X : Cx} {W : WX} {o e : Expr} {es : List Expr} {pos apos : Pos} {ta : TE} {t : TA} {m : EM} {ms : AM} {mn : Str} {C fa : Addr} {fl : List Str} {n k : Nat} {g : List DV → List O → Option (Rs DV)} {fd : FuncData} {ps : List Str}
theorem so_meth (h : Sound K W (RepV K) ta m) (ha : Sound K W (RepVs K) t ms) : Sound K W (RepV K) (tMethS C mn (spB K (n + 1) g) (fun σ => WE W σ) ta t) (mMeth C mn n g m ms) := ⟨fun σ H s Z I r0 Q w rs e1 p1 => by
  refine h.bnd w rs e1 p1.x fun d v M1 Z1 H1 I1 w1 rs1 x1 q1 e2 => ?_
  have p2 := p1.mono x1
  have e2 : (match insM M1 C d with | some (_, fs) => (match fs.lookup mn with | none => bnd ms (fun ds s => if ds.length = n then g (d :: ds) s.m else none) ⟨s.l, M1⟩ | some _ => none) | none => none) = some r0 := e2
  cases z : insM M1 C d with
  | none => rw [z] at e2; cases e2
  | some q =>
    obtain ⟨i, fs⟩ := q
    rw [z] at e2
    dsimp only at e2
    cases y : fs.lookup mn with
    | some _ => rw [y] at e2; cases e2
    | none =>
      rw [y] at e2
      dsimp only at e2
      obtain ⟨a, dx, vs, rfl, hi, hm, hH, pr⟩ := ins_rep w1 q1 z
      refine ⟨a, dx, vs, rfl, hH, (look_rep pr).2 y, ?_⟩
      refine ha.bnd (s := ⟨s.l, M1⟩) w1 rs1 e2 p2.x fun ds us M2 Z2 H2 I2 w2 rs2 x2 q2 e3 => ?_
      have p3 := p2.mono x2
      have e3 : (if ds.length = n then g (d :: ds) M2 else none) = some r0 := e3
      split at e3
      · rename_i hl
        refine ⟨by rw [List.length_cons, paired_len q2, hl], Z2, I2, M2, d :: ds, r0, w2, .cons (RepV.mono x2 q1) q2, e3, ?_⟩
        cases r0 with
        | ok d M' => exact p3
        | ex c fs M' => exact p3
      · cases e3⟩
theorem de_meth (c : Kls K C fl) (hm : Meth K C mn fa) (F : FnOk X.prog X.w K X.mg X.base (L2.CX X.prog X.w) k fa fd ps (spB K (n + 1) g)) (hr : Room k X.A) (tk : Takes X W) (hb : Binds K fd ps []) (h : DE K X W o ta m) (ha : DA K X W (e :: es) t ms)
    {pl : Sem Bool} (hst : starEach (e :: es) X.env = (false, eval e X.env) :: starEach es X.env := by rfl) (hpl : (backTo pos (starEach es X.env)).any (·.1) = false := by rfl)
    (ht : eval (.Call (.Attribute o mn apos) (e :: es) [] pos) X.env = (do
      let ov ← eval o X.env
      standAt apos.atName
      let (f, first) ← holding [ov] (getMethod ov mn pl)
      callWith pos f first (backTo pos (starEach (e :: es) X.env)) (backToKw pos (keywordEach [] X.env))) := by rfl) :
    DE K X W (.Call (.Attribute o mn apos) (e :: es) [] pos) (tMethS C mn (spB K (n + 1) g) (fun σ => WE W σ) ta t) (mMeth C mn n g m ms) := by
  have k := h.k
  subst k
  exact ⟨rfl, pe_methS' h.pe c.c hm F hr hb (fun σ => passAt tk σ) ha.pa hst hpl ht, so_meth h.so ha.so⟩
theorem de_meth0 (c : Kls K C fl) (hm : Meth K C mn fa) (F : FnOk X.prog X.w K X.mg X.base (L2.CX X.prog X.w) k fa fd ps (spB K 1 g)) (hr : Room k X.A) (tk : Takes X W) (hb : Binds K fd ps []) (h : DE K X W o ta m) (ha : DA K X W [] tNil aNil)
    {pl : Sem Bool} (ht : eval (.Call (.Attribute o mn apos) [] [] pos) X.env = (do
      let ov ← eval o X.env
      standAt apos.atName
      let (f, first) ← holding [ov] (getMethod ov mn pl)
      callWith pos f first (backTo pos (starEach [] X.env)) (backToKw pos (keywordEach [] X.env))) := by rfl) :
    DE K X W (.Call (.Attribute o mn apos) [] [] pos) (tMethS C mn (spB K 1 g) (fun σ => WE W σ) ta tNil) (mMeth C mn 0 g m aNil) := by
  have k := h.k
  subst k
  exact ⟨rfl, pe_methS0' h.pe c.c hm F hr hb (fun σ => passAt tk σ) ht, so_meth (n := 0) h.so ha.so⟩
end
end DL
namespace DL
open PySem PySem.Spec L2 PyProof.Rows
/-! ### an instance is made -/
def tMakeS (C : Addr) (sp : Sp) (E : L2.St → XK) (t : TA) : TE := fun σ H Q => t σ H fun vs H1 => ∀ x dx, H1 x = none → H1 dx = none → dx ≠ x →
  sp (.ref x :: vs) (upd (upd H1 dx (.own x)) x (.ins C dx [])) (fun v H2 => v = .non ∧ Q (.ref x) H2) (E σ)
section
variable {X : Cx} {CX : CXT} {k : Nat} {C f : Addr} {fd : FuncData} {ps : List Str} {sp : Sp} {E : L2.St → XK} {e : Expr} {es : List Expr} {t : TA} {pos p : Pos} {x : Str}
theorem run_makeS {pins : List (Addr × Obj)} {σ : L2.St} {H : Hp} {s : Shared} {Q : VK} {us : List Value} {vs : List V} (M : Mk X.K C f) (F : FnOk X.prog X.w X.K X.mg X.base CX k f fd ps sp) (hr : Room (k + 1) X.A) (hb : Binds X.K fd ps [])
    (hx : PassesAt CX X σ (E σ)) (I : Inv X pins σ H s) (r : Vals vs us)
    (h : ∀ x dx, H x = none → H dx = none → dx ≠ x → sp (.ref x :: vs) (upd (upd H dx (.own x)) x (.ins C dx [])) (fun v H2 => v = .non ∧ Q (.ref x) H2) (E σ)) :
    wpAny (model X.prog X.w) X.A (call (.ref C) us) (EP X pins σ Q) X.xe s := by
  have hq := h (s.heap.objs.size + 1) s.heap.objs.size (I.hok.fresh (Nat.le_succ _)) (I.hok.fresh (Nat.le_refl _)) (Nat.ne_of_lt (Nat.lt_succ_self _))
  have I2 := Inv.made (C := C) I
  have r2 : Vals (V.ref (s.heap.objs.size + 1) :: vs) (Value.ref (s.heap.objs.size + 1) :: us) := .cons rfl r
  have hl : (Value.ref (s.heap.objs.size + 1) :: us).length = ps.length := by
    have e := r2.length
    rw [F.len _ _ _ _ hq] at e
    exact e.symm
  have b := hb _ (Value.ref (s.heap.objs.size + 1) :: us) I2.kIn (by rw [List.append_nil]; exact hl)
  rw [List.append_nil] at b
  refine wpAny_call (make_map (f := f) I.kIn M.makes M.init (beq_iff_eq.mp M.fn) (codeAny_mono (F.run _ X.stack _ _ ⟨Value.ref (s.heap.objs.size + 1) :: us, []⟩ (Value.ref (s.heap.objs.size + 1) :: us) _ _ (E σ) (hr.make C us [])
    (I2.env0.make C us []) b r2 hq) fun r s' hq' => ?_))
  cases r with
  | error e => exact hx pins _ _ e s' I2 hq'
  | ok fl =>
    cases fl with
    | ret u =>
      obtain ⟨v, H', I3, rv, ev, q3⟩ := I2.after hq'
      subst ev
      exact ⟨rv, ⟨V.ref (s.heap.objs.size + 1), H', I3, rfl, q3⟩⟩
    | next => exact False.elim hq'
    | brk => exact False.elim hq'
    | cont => exact False.elim hq'
theorem pe_makeS (M : Mk X.K C f) (F : FnOk X.prog X.w X.K X.mg X.base CX k f fd ps sp) (hr : Room (k + 1) X.A) (hg : Gl X x) (hm : X.mg x = some (.ref C)) (hb : Binds X.K fd ps []) (hx : ∀ σ, PassesAt CX X σ (E σ))
    (ha : PA X (e :: es) t) (hdb : (x == ("__debug__" : Str)) = false := by decide) (he : starEach (e :: es) X.env = (false, eval e X.env) :: starEach es X.env := by rfl) (hpl : (backTo pos (starEach es X.env)).any (·.1) = false := by rfl) :
    PE X (.Call (.Name x p) (e :: es) [] pos) (tMakeS C sp E t) := by
  refine ⟨fun pins s σ H Q I h => ?_⟩
  refine wpAny_Call_Name_kw (ld_glob I hg hm ?_ hdb)
  refine PySem.W.callWith_K (h₀ := X.base) I.ok.mod.kin M.kp (thn (ha.run pos pins s σ H _ I h) fun us s1 ⟨vs, H1, I1, r, q⟩ => ⟨I1.kIn, ?_⟩) he hpl
  exact run_makeS M F hr hb (hx σ) I1 r q
theorem pe_makeS0 (M : Mk X.K C f) (F : FnOk X.prog X.w X.K X.mg X.base CX k f fd ps sp) (hr : Room (k + 1) X.A) (hg : Gl X x) (hm : X.mg x = some (.ref C)) (hb : Binds X.K fd ps []) (hx : ∀ σ, PassesAt CX X σ (E σ))
    (hdb : (x == ("__debug__" : Str)) = false := by decide) : PE X (.Call (.Name x p) [] [] pos) (tMakeS C sp E tNil) := by
  refine ⟨fun pins s σ H Q I h => ?_⟩
  refine wpAny_Call_Name_kw (ld_glob I hg hm ?_ hdb)
  exact PySem.W.callWith_K0 I.kIn M.kp (run_makeS (us := []) M F hr hb (hx σ) I .nil h)
end
def mMake (C : Addr) (n : Nat) (g : List DV → List O → Option (Rs DV)) (ms : AM) : EM := bnd ms fun ds s => if ds.length = n then match g (.o s.m.length :: ds) (s.m ++ [.ins C []]) with
  | some (.ok (.p .non) M) => some (.ok (.o s.m.length) M)
  | some (.ex c fs M) => some (.ex c fs M)
  | _ => none else none
section
variable {K : PySem.W.Frag} {X : Cx} {W : WX} {e : Expr} {es : List Expr} {pos p : Pos} {t : TA} {ms : AM} {x : Str} {C fa : Addr} {n k : Nat} {g : List DV → List O → Option (Rs DV)} {fd : FuncData} {ps : List Str}
theorem so_make (ha : Sound K W (RepVs K) t ms) : Sound K W (RepV K) (tMakeS C (spB K (n + 1) g) (fun σ => WE W σ) t) (mMake C n g ms) := ⟨fun σ H s Z I r0 Q w rs e1 p1 => by
  refine ha.bnd w rs e1 p1.x fun ds us M1 Z1 H1 I1 w1 rs1 x1 q1 e2 => ?_
  have p2 := p1.mono x1
  have e2 : (if ds.length = n then match g (.o M1.length :: ds) (M1 ++ [.ins C []]) with
    | some (.ok (.p .non) M) => some (Rs.ok (DV.o M1.length) M)
    | some (.ex c fs M) => some (Rs.ex c fs M)
    | _ => none else none) = some r0 := e2
  split at e2
  · rename_i hl
    intro a dx ha0 hd0 hne
    have hd1 : ExtP Z1 H1 Z1 (upd H1 dx (.own a)) := ⟨Same.refl _, same_upd hd0, fun b o q => by rw [upd_ne (ne_of_none (w1.sub b o q) hd0)]; exact w1.sub b o q, fun b q => .inl q⟩
    have w2 := w1.extP hd1
    have ha1 : upd H1 dx (.own a) a = none := by rw [upd_ne (Ne.symm hne)]; exact ha0
    have w3 : Wf K Z1 (upd (upd H1 dx (.own a)) a (.ins C dx [])) (I1 ++ [a]) (M1 ++ [.ins C []]) := w2.newO ha1 ⟨dx, [], upd_same, .nil⟩
    have x3 : Ext Z1 H1 I1 Z1 (upd (upd H1 dx (.own a)) a (.ins C dx [])) (I1 ++ [a]) := (hd1.ext w1).trans (ext_new w2.sub ha1)
    have p3 := p2.mono x3
    have ia : (I1 ++ [a])[M1.length]? = some a := by rw [← w1.len]; simp
    have rr : RepVs K Z1 (I1 ++ [a]) (.ref a :: us) (.o M1.length :: ds) := .cons ⟨a, ia, rfl⟩ (paired_imp (fun _ _ q => RepV.mono x3 q) q1)
    cases z : g (.o M1.length :: ds) (M1 ++ [.ins C []]) with
    | none => rw [z] at e2; cases e2
    | some r =>
      rw [z] at e2
      refine ⟨by rw [List.length_cons, paired_len q1, hl], Z1, I1 ++ [a], M1 ++ [.ins C []], _, r, w3, rr, z, ?_⟩
      cases r with
      | ok d M =>
        cases d with
        | o _ => cases e2
        | p d =>
          cases d with
          | non =>
            cases e2
            intro v Z' H' I' w' x' r'
            cases r'
            obtain ⟨tl, e⟩ := x'.i
            exact ⟨rfl, p3 _ Z' H' I' w' x' ⟨a, by rw [e, List.getElem?_append_left (List.getElem?_eq_some_iff.mp ia).1]; exact ia, rfl⟩⟩
          | _ => cases e2
      | ex c fs M => cases e2; exact p3
  · cases e2⟩
theorem de_make (Mc : Mk K C fa) (F : FnOk X.prog X.w K X.mg X.base (L2.CX X.prog X.w) k fa fd ps (spB K (n + 1) g)) (hr : Room (k + 1) X.A) (tk : Takes X W) (hm : X.mg x = some (.ref C)) (hb : Binds K fd ps []) (ha : DA K X W (e :: es) t ms)
    (hg : Gl X x := by rfl) (hdb : (x == ("__debug__" : Str)) = false := by decide) (he : starEach (e :: es) X.env = (false, eval e X.env) :: starEach es X.env := by rfl) (hpl : (backTo pos (starEach es X.env)).any (·.1) = false := by rfl) :
    DE K X W (.Call (.Name x p) (e :: es) [] pos) (tMakeS C (spB K (n + 1) g) (fun σ => WE W σ) t) (mMake C n g ms) := by
  have k := ha.k
  subst k
  exact ⟨rfl, pe_makeS Mc F hr hg hm hb (fun σ => passAt tk σ) ha.pa hdb he hpl, so_make ha.so⟩
theorem de_make0 (Mc : Mk K C fa) (F : FnOk X.prog X.w K X.mg X.base (L2.CX X.prog X.w) k fa fd ps (spB K 1 g)) (hr : Room (k + 1) X.A) (tk : Takes X W) (hm : X.mg x = some (.ref C)) (hb : Binds K fd ps []) (ha : DA K X W [] tNil aNil)
    (hg : Gl X x := by rfl) (hdb : (x == ("__debug__" : Str)) = false := by decide) :
    DE K X W (.Call (.Name x p) [] [] pos) (tMakeS C (spB K 1 g) (fun σ => WE W σ) tNil) (mMake C 0 g aNil) := by
  have k := ha.k
  subst k
  exact ⟨rfl, pe_makeS0 Mc F hr hg hm hb (fun σ => passAt tk σ) hdb, so_make (n := 0) ha.so⟩
end
/-- a method as the class holds it -/
structure Dm (K : PySem.W.Frag) (C : Addr) (nm qual : Str) (st : Stmt) (ps : List Str) where
  a : Addr
  fd : FuncData
  F : Fun K nm qual st a fd
  m : Meth K C nm a
  b : Binds K fd ps []
end DL
namespace DL
open PySem PySem.Spec L2 PyProof.Rows
/-! ### text.find(part, from) -/
def dFind3 : D → List D → Option D
  | .str x, [.str y, .int i] => some (.int (Txt.find3 x y i))
  | _, _ => none
section
variable {K : PySem.W.Frag} {X : Cx} {W : WX}
theorem md_find3 : MthD K X "str.find" (fun x xs H Q => ∃ (a b : Str) (i : Int), x = .str a ∧ xs = [.str b, .int i] ∧ Q (.int (Txt.find3 a b i)) H) (gP dFind3) := ⟨fun _ => mt_find3, gP_ok fun x d vs ds c Z H Q s hx hv hg p => by
  unfold dFind3 at hg
  split at hg
  · cases hv with
    | cons h1 h2 =>
    cases h2 with
    | cons h2 h3 =>
    cases h3; cases hx; cases h1; cases h2; cases hg
    exact ⟨_, _, _, rfl, rfl, p _ Z H (ExtP.refl s) (.int _)⟩
  · cases hg⟩
/-! ### xs[::-1] -/
def revD : D → Option D
  | .lst xs => some (.lst xs.reverse)
  | .klst xs => some (.lst xs.reverse)
  | _ => none
def mRevL (m : EM) : EM := bnd m (pur fun d => ret (revD d))
theorem repA_rev {Z : Hp} : ∀ {vs : List V} {ds : List D}, RepA K Z vs ds → RepA K Z vs.reverse ds.reverse
  | _, _, .nil => .nil
  | _, _, .cons h r => by rw [List.reverse_cons, List.reverse_cons]; exact (repA_rev r).append (.cons h .nil)
theorem so_revL {te : TE} {m : EM} (h : Sound K W (RepV K) te m) : Sound K W (RepV K) (tRevL K te) (mRevL m) := ⟨fun σ H s Z I r0 Q w rs e1 p1 => by
  refine h.bnd w rs e1 p1.x fun d v M1 Z1 H1 I1 w1 rs1 x1 q1 e2 => ?_
  obtain ⟨d, rfl, e2⟩ := pur_ok e2
  obtain ⟨c, hc, rfl⟩ := ret_ok e2
  have p2 := PostP.of w1 (p1.mono x1)
  cases d with
  | lst ds =>
    cases hc
    have q1 : Rep K Z1 v (.lst ds) := q1
    cases q1 with
    | lst g1 g2 =>
      rename_i a xs
      refine ⟨_, _, rfl, .inl (same_rd w1.sub g1), fun p hp => ?_⟩
      have x2 := ExtP.new (o := .lst xs.reverse) w1.sub hp
      exact p2 _ _ _ x2 (.lst (.inl upd_same) ((repA_rev g2).mono x2.z))
  | klst ds =>
    cases hc
    have q1 : Rep K Z1 v (.klst ds) := q1
    cases q1 with
    | klst g1 g2 =>
      rename_i a xs
      refine ⟨_, _, rfl, same_l w1.sub g1, fun p hp => ?_⟩
      have x2 := ExtP.new (o := .lst xs.reverse) w1.sub hp
      exact p2 _ _ _ x2 (.lst (.inl upd_same) ((repA_rev g2).mono x2.z))
  | _ => cases hc⟩
theorem de_revL {e : Expr} {te : TE} {m : EM} {k : Nat} {p1 p2 p3 pos : Pos} (h : DE K X W e te m) : DE K X W (.Subscript e (.Slice none none (some (.UnaryOp .USub (.Constant (.int 1) k p1) p2)) p3) pos) (tRevL K te) (mRevL m) :=
  ⟨h.k, by rw [← h.k]; exact pe_revL h.pe, so_revL h.so⟩
end
/-! ### d.get(k, z), k in d, k not in d, of a dict of the module -/
def tKGet (K : PySem.W.Frag) (w : World) (a : Addr) (te tz : TE) : TE := fun σ H Q => te σ H fun y H1 => tz σ H1 fun u H2 => ∃ z, y = .str z ∧ ((∃ v, KDct K w a z v ∧ (a == sysModules) = false ∧ Q v H2) ∨ (KIn K w a z false ∧ Q u H2))
section
variable {X : Cx} {e z : Expr} {te tz : TE} {x : Str} {a : Addr} {p apos pos : Pos}
theorem pe_kget (hg : Gl X x) (hm : X.mg x = some (.ref a)) (he : PE X e te) (hz : PE X z tz) (hd : (x == ("__debug__" : Str)) = false := by decide)
    (hbase : attributeBase (.Name x p) "get" X.env (eval (.Name x p) X.env) = eval (.Name x p) X.env := by rfl)
    (hfew : ((backTo pos (starEach [e, z] X.env)).all (fun x => !x.1) && (backToKw pos (keywordEach [] X.env)).all (fun x => x.1.isSome)
      && decide ([e, z].length + ([] : List Keyword).length + (if ([] : List Keyword).isEmpty then 0 else 1) < 30)) = true := by rfl)
    (hline : (apos.endLine == pos.line) = true := by rfl) (hs : starEach [e, z] X.env = [(false, eval e X.env), (false, eval z X.env)] := by rfl)
    (hK : (∃ es n, X.K.lookup a = some ⟨.type "dict", none, .dict es n, #[]⟩ ∧ PySem.W.KeysLit X.w.params es.toList)) :
    PE X (.Call (.Attribute (.Name x p) "get" apos) [e, z] [] pos) (tKGet X.K X.w a te tz) := by
  obtain ⟨es, n, hl, hk⟩ := hK
  refine ⟨fun pins s σ H Q I h => ?_⟩
  refine wpAny_Call_method_late hbase hfew hline rfl (ld_glob I hg hm ?_ hd)
  have hM := PySem.W.mapOf_K (prog := X.prog) (w := X.w) I.kIn hl hk
  refine ⟨"dict", "dict.get", PySem.F.plainAttrs_dict, PySem.F.slot_dict_get, PySem.F.type_dict_get, hM.typeIs, fun b e2 => ?_, ?_⟩
  · cases e2; exact ⟨_, I.kIn _ _ hl, rfl⟩
  rw [hs]
  refine Calls.callWith_builtin rfl (Calls.evalArgs_plain ?_)
  refine Calls.spliced_cons (thn (he.run pins s σ H _ I h) fun u1 s1 ⟨y, H1, I1, r1, q1⟩ => Calls.spliced_cons (thn (hz.run pins s1 σ H1 _ I1 q1) fun u2 s2 ⟨u, H2, I2, r2, q2⟩ => Calls.spliced_nil ?_))
  obtain ⟨zz, rfl, q2⟩ := q2
  obtain ⟨t, rfl⟩ := (show ∃ t, u1 = Value.str zz t from r1)
  have hM2 := PySem.W.mapOf_K (prog := X.prog) (w := X.w) I2.kIn hl hk
  rcases q2 with ⟨v, ⟨es', n', u', hl', hk', e', ru⟩, lo, q⟩ | ⟨⟨es', n', r, hl', hk', lo, e', hr⟩, q⟩
  · rw [hl] at hl'; cases hl'
    refine call_meetsIn PySem.F.slot_dict_get hM2.typeIs PySem.F.entry_dict_get (PySem.F.args_dict_get_3 _ _ _) (meets_dict_get_default (strKind X.prog X.w) a (strKind_is X.prog X.w zz t) lo u2) ⟨_, hM2, ?_⟩
    rw [PySem.W.find_K hl e']
    exact ⟨v, H2, I2.tok _, ru, q⟩
  · rw [hl] at hl'; cases hl'
    refine call_meetsIn PySem.F.slot_dict_get hM2.typeIs PySem.F.entry_dict_get (PySem.F.args_dict_get_3 _ _ _) (meets_dict_get_default (strKind X.prog X.w) a (strKind_is X.prog X.w zz t) lo u2) ⟨_, hM2, ?_⟩
    rw [PySem.W.find_K hl e']
    cases r with
    | none => exact ⟨u, H2, I2.tok _, r2, q⟩
    | some _ => cases hr
end
def mKGet (kvs : List (Str × D)) (miss : List Str) (m n : EM) : EM := bnd m (pur fun d => bnd n fun z s => match d with
  | .str k => match kvs.lookup k with
    | some v => some (.ok (.p v) s.m)
    | none => if k ∈ miss then some (.ok z s.m) else none
  | _ => none)
structure GK (K : PySem.W.Frag) (w : World) (mg : Str → Option Value) (x : Str) (kvs : List (Str × D)) (miss : List Str) where
  a : Addr
  m : mg x = some (.ref a)
  ex : ∃ es n, K.lookup a = some ⟨.type "dict", none, .dict es n, #[]⟩ ∧ PySem.W.KeysLit w.params es.toList
  lo : (a == sysModules) = false
  at_ : ∀ z d, kvs.lookup z = some d → ∃ v, KDct K w a z v ∧ ∀ Z, Rep K Z v d
  no : ∀ z, z ∈ miss → KIn K w a z false
section
variable {K : PySem.W.Frag} {X : Cx} {W : WX} {e z : Expr} {te tz : TE} {m n : EM} {mg : Str → Option Value} {w : World} {x : Str} {kvs : List (Str × D)} {miss keys : List Str} {p apos pos : Pos}
theorem de_kget (g : GK K w mg x kvs miss) (h : DE K X W e te m) (h2 : DE K X W z tz n) (hm : X.mg = mg := by rfl) (hw : X.w = w := by rfl) (hg : Gl X x := by rfl) (hd : (x == ("__debug__" : Str)) = false := by decide)
    (hbase : attributeBase (.Name x p) "get" X.env (eval (.Name x p) X.env) = eval (.Name x p) X.env := by rfl)
    (hfew : ((backTo pos (starEach [e, z] X.env)).all (fun x => !x.1) && (backToKw pos (keywordEach [] X.env)).all (fun x => x.1.isSome)
      && decide ([e, z].length + ([] : List Keyword).length + (if ([] : List Keyword).isEmpty then 0 else 1) < 30)) = true := by rfl)
    (hline : (apos.endLine == pos.line) = true := by rfl) (hs : starEach [e, z] X.env = [(false, eval e X.env), (false, eval z X.env)] := by rfl) :
    DE K X W (.Call (.Attribute (.Name x p) "get" apos) [e, z] [] pos) (tKGet K w g.a te tz) (mKGet kvs miss m n) := by
  subst hm hw
  have k0 := h.k
  refine ⟨k0, ?_, ⟨fun σ H s Z I r0 Q wf rs e1 p1 => ?_⟩⟩
  · have q := pe_kget (X := X) (p := p) (apos := apos) (pos := pos) hg g.m h.pe h2.pe hd hbase hfew hline hs (by rw [k0]; exact g.ex)
    rw [k0] at q
    exact q
  · refine h.so.bnd wf rs e1 p1.x fun d v M1 Z1 H1 I1 w1 rs1 x1 q1 e2 => ?_
    obtain ⟨d, rfl, e2⟩ := pur_ok e2
    have e2 : bnd n (fun z s => match d with
      | .str k => match kvs.lookup k with
        | some v => some (.ok (.p v) s.m)
        | none => if k ∈ miss then some (.ok z s.m) else none
      | _ => none) ⟨s.l, M1⟩ = some r0 := e2
    have p2 := p1.mono x1
    refine h2.so.bnd (s := ⟨s.l, M1⟩) w1 rs1 e2 p2.x fun dz u M2 Z2 H2 I2 w2 rs2 x2 q2 e3 => ?_
    have p3 := p2.mono x2
    cases d with
    | str k =>
      have q1 : Rep K Z1 v (.str k) := q1
      cases q1
      have e3 : (match kvs.lookup k with
        | some v => some (Rs.ok (DV.p v) M2)
        | none => if k ∈ miss then some (Rs.ok dz M2) else none) = some r0 := e3
      cases hl : kvs.lookup k with
      | some d =>
        rw [hl] at e3
        cases e3
        obtain ⟨v, hv, hr⟩ := g.at_ k d hl
        exact ⟨k, rfl, .inl ⟨v, hv, g.lo, PostP.of w2 p3 _ Z2 H2 (ExtP.refl w2.sub) (hr Z2)⟩⟩
      | none =>
        rw [hl] at e3
        dsimp only at e3
        split at e3
        · rename_i hk
          cases e3
          exact ⟨k, rfl, .inr ⟨g.no k hk, p3 u Z2 H2 I2 w2 Ext.refl q2⟩⟩
        · cases e3
    | _ => cases e3
theorem op_ninKd : OpR X (compareOp .NotIn) (rInKd X.K X.w true) := by
  intro pins s σ H x y v u Q I rx ry h
  obtain ⟨p, z, b, rfl, rfl, ⟨es, n, r, hl, hk, lo, e, rfl⟩, q⟩ := h
  obtain rfl : u = Value.ref p := ry
  obtain ⟨t, rfl⟩ := (show ∃ t, v = Value.str z t from rx)
  refine wpAny_notIn_of (strKind_is X.prog X.w z t) lo (PySem.W.mapOf_K (prog := X.prog) (w := X.w) I.kIn hl hk) ?_
  show EP X pins σ Q _ _
  rw [PySem.W.find_K hl e]
  exact ⟨.bl _, H, I.tok _, rfl, q⟩
def ninKd (keys miss : List Str) : D → EM
  | .str z => fun s => if z ∈ keys then some (.ok (.p (.bl false)) s.m) else if z ∈ miss then some (.ok (.p (.bl true)) s.m) else none
  | _ => fun _ => none
def mNinKd (keys miss : List Str) (m : EM) : EM := bnd m (pur (ninKd keys miss))
theorem so_ninKd (g : GIn K w mg x keys miss) (h : Sound K W (RepV K) te m) : Sound K W (RepV K) (tOp (rInKd K w true) te (tC (.ref g.a))) (mNinKd keys miss m) := ⟨fun σ H s Z I r0 Q w0 rs e1 p1 => by
  refine h.bnd w0 rs e1 p1.x fun d v M1 Z1 H1 I1 w1 rs1 x1 q1 e2 => ?_
  obtain ⟨d, rfl, e2⟩ := pur_ok e2
  cases d with
  | str z =>
    have q1 : Rep K Z1 v (.str z) := q1
    cases q1
    have e2 : (if z ∈ keys then some (Rs.ok (DV.p (D.bl false)) M1) else if z ∈ miss then some (Rs.ok (DV.p (D.bl true)) M1) else none) = some r0 := e2
    split at e2
    · rename_i hz
      cases e2
      exact ⟨g.a, z, true, rfl, rfl, g.at_ z hz, PostP.of w1 (p1.mono x1) _ Z1 H1 (ExtP.refl w1.sub) (.bl _)⟩
    · split at e2
      · rename_i hz
        cases e2
        exact ⟨g.a, z, false, rfl, rfl, g.no z hz, PostP.of w1 (p1.mono x1) _ Z1 H1 (ExtP.refl w1.sub) (.bl _)⟩
      · cases e2
  | _ => cases e2⟩
theorem ninKd_bool : ∀ s r, mNinKd keys miss m s = some r → ∀ v M, r = .ok v M → ∃ b, v = .p (.bl b) := by
  intro s r h v M e
  subst e
  obtain ⟨d, M1, _, h2⟩ := bnd_ok h
  obtain ⟨d, rfl, h2⟩ := pur_ok h2
  cases d with
  | str z =>
    have h2 : (if z ∈ keys then some (Rs.ok (DV.p (D.bl false)) M1) else if z ∈ miss then some (Rs.ok (DV.p (D.bl true)) M1) else none) = some (Rs.ok v M) := h2
    split at h2
    · cases h2; exact ⟨_, rfl⟩
    · split at h2
      · cases h2; exact ⟨_, rfl⟩
      · cases h2
  | _ => cases h2
theorem dt_ninKd (g : GIn K w mg x keys miss) (h : DE K X W e te m) (hm : X.mg = mg := by rfl) (hw : X.w = w := by rfl) (hg : Gl X x := by rfl) (hd : (x == ("__debug__" : Str)) = false := by decide) (hb : behindInMarks .NotIn (.Name x p) = false := by first | exact nomark _ | rfl) :
    DT K X W (.Compare e [.NotIn] [.Name x p] pos) (tTest (tOp (rInKd K w true) te (tC (.ref g.a)))) (mNinKd keys miss m) := by
  subst hm hw
  refine ⟨h.k, ?_, so_test (so_ninKd g h.so) ninKd_bool⟩
  have q := pt_cmpR (X := X) (pos := pos) op_ninKd h.pe (pe_glob (v := .ref g.a) (pos := p) hg g.m rfl hd) hb
  rw [h.k] at q
  exact q
@[simp] theorem e_ninKdm (s : S) : mNinKd keys miss m s = (bnd m (pur (ninKd keys miss))) s := rfl
@[simp] theorem e_ninKdS (z : Str) (s : S) : ninKd keys miss (.str z) s = if z ∈ keys then some (.ok (.p (.bl false)) s.m) else if z ∈ miss then some (.ok (.p (.bl true)) s.m) else none := rfl
end
end DL
namespace DL
open PySem PySem.Spec L2 PyProof.Rows
/-! ### text.replace('a', 'b'): a written text has been read ahead of it -/
structure DET (K : PySem.W.Frag) (X : Cx) (W : WX) (e : Expr) (t : TE) (m : EM) : Prop where
  k : X.K = K
  pe : PET X e t
  so : Sound K W (RepV K) t m
structure DSsT (K : PySem.W.Frag) (X : Cx) (W : WX) (st : List Stmt) (t : TS) (m : SM) : Prop where
  k : X.K = K
  ps : PSsT X st t
  so : SoundS K W t m
structure DST (K : PySem.W.Frag) (X : Cx) (W : WX) (st : Stmt) (t : TS) (m : SM) : Prop where
  k : X.K = K
  ps : PST X st t
  so : SoundS K W t m
def replD (y z : Str) : D → Option D
  | .str x => if x.length + (x.length + 1) * z.length ≤ 16777216 then some (.str (Txt.replace x y z)) else none
  | _ => none
def mRepl (y z : Str) (m : EM) : EM := bnd m (pur fun d => ret (replD y z d))
section
variable {K : PySem.W.Frag} {X : Cx} {W : WX} {o e : Expr} {te : TE} {m : EM} {pos p p' : Pos} {y z c : Str}
theorem det_repl {j k : Nat} {c0 c1 apos : Pos} (h : DE K X W o te m) (hyz : (y == z) = false := by decide)
    (hst : starEach [.Constant (.str y) j c0, .Constant (.str z) k c1] X.env = [(false, eval (.Constant (.str y) j c0) X.env), (false, eval (.Constant (.str z) k c1) X.env)] := by rfl)
    (hbase : attributeBase o "replace" X.env (eval o X.env) = eval o X.env := by rfl) (hline : (apos.endLine == pos.line) = true := by rfl) :
    DET K X W (.Call (.Attribute o "replace" apos) [.Constant (.str y) j c0, .Constant (.str z) k c1] [] pos) (CwR.tReplC te y z) (mRepl y z m) :=
  ⟨h.k, CwR.pet_replC h.pe hyz hst hbase hline, ⟨fun σ H s Z I r0 Q w rs e1 p1 => by
    refine h.so.bnd w rs e1 p1.x fun d v M1 Z1 H1 I1 w1 rs1 x1 q1 e2 => ?_
    obtain ⟨d, rfl, e2⟩ := pur_ok e2
    obtain ⟨r, hr, rfl⟩ := ret_ok e2
    have p2 := PostP.of w1 (p1.mono x1)
    cases d with
    | str x =>
      have q1 : Rep K Z1 v (.str x) := q1
      cases q1
      have hr : (if x.length + (x.length + 1) * z.length ≤ 16777216 then some (D.str (Txt.replace x y z)) else none) = some r := hr
      by_cases hl : x.length + (x.length + 1) * z.length ≤ 16777216
      · rw [if_pos hl] at hr
        cases hr
        exact ⟨x, rfl, hl, p2 _ Z1 H1 (ExtP.refl w1.sub) (.str _)⟩
      · rw [if_neg hl] at hr; cases hr
    | _ => exact absurd (show (none : Option D) = some r from hr) (fun q => by cases q)⟩⟩
/-- 'text' op e -/
theorem pe_constOp {op : Operator} {r : R2} {j : Nat} {tf : TE} (ho : OpR X (binaryOp op) r) (hb : PET X e tf) : PE X (.BinOp (.Constant (.str c) j p) op e pos) (tOp r (tC (.str c)) tf) := by
  refine ⟨fun pins s σ H Q I h => ?_⟩
  refine wpAny_BinOp (Calls.Constant_str ?_)
  exact thn (hb pins { s with toks := s.toks + 1 } σ H _ (by show 1 ≤ s.toks + 1; omega) (I.tok _) h) fun u s2 ⟨y, H2, I2, r2, q2⟩ => ho pins s2 σ H2 (.str c) y (.str c s.toks) u Q I2 ⟨_, rfl⟩ r2 q2
theorem de_constOp {op : Operator} {r : R2} {j : Nat} {g : D → D → Option D} (h : OpD K X (binaryOp op) r g) (hb : DET K X W e te m) : DE K X W (.BinOp (.Constant (.str c) j p) op e pos) (tOp r (tC (.str c)) te) (mBin g (mC (.str c)) m) := by
  have hk := hb.k
  exact ⟨hk, pe_constOp (h.op hk) hb.pe, so_bin h.ok (so_c fun _ => .str c) hb.so⟩
theorem dss_T {st : List Stmt} {t : TS} {m : SM} (h : DSs K X W st t m) : DSsT K X W st t m := ⟨h.k, PSsT.of h.ps, h.so⟩
theorem dssT_cons {st : Stmt} {rest : List Stmt} {t u : TS} {m n : SM} (ha : DST K X W st t m) (hb : DSsT K X W rest u n) : DSsT K X W (st :: rest) (tSeq t u) (sSeq m n) := ⟨ha.k, psst_cons ha.ps hb.ps, so_seq ha.so hb.so⟩
/-- name = e -/
theorem dst_set {i : Nat} {x : Str} {px : Pos} (hN : X.N.Nodup) (he : DET K X W e te m) (hi : X.N[i]? = some x := by rfl) (hx : Loc X.env.scope x := by first | exact Or.inl rfl | exact Or.inr rfl) (hf : X.fn x = true ∨ X.env.scope.names.lookup x = some .local := by first | exact .inl rfl | exact .inr rfl)
    (hs : swapsWith e (some (.Name x px)) pos.line X.env = pure false := by rfl) : DST K X W (.Assign [.Name x px] e pos) (tAsg te (gName i)) (sAsg m (gN i)) :=
  ⟨he.k, fun pins s σ H D h0 I h => wpAny_Assign_Name (thn (he.pe pins s σ H _ h0 I h) fun v s1 ⟨y, H1, I1, r1, q1⟩ => store_ok I1 hN hi hx r1 (fun s2 I2 => ⟨_, H1, I2, q1⟩) hf) hs, ⟨fun σ H s Z I r D w rs e1 p1 => by
    refine he.so.lift w rs e1 p1 fun d v M1 Z1 H1 I1 w1 rs1 x1 q1 e2 p2 => ?_
    cases e2
    exact p2 (σ.set i (some v)) Z1 H1 I1 w1 (rs1.set q1 i) Ext.refl⟩⟩
/-- if a == 'text': .. -/
theorem ds_ifT {a : Expr} {b r : List Stmt} {j : Nat} {ta : TE} {rr : R2} {t u : TS} {k : EM} {mm n : SM} {cp : Pos} (ho : OpR X (compareOp .Eq) rr) (ha : PE X a ta) (so : Sound K W RepB (tTest (tOp rr ta (tC (.str c)))) k) (hb : DSsT K X W b t mm) (hr : DSs K X W r u n) (hm : behindInMarks .Eq (.Constant (.str c) j p) = false := by rfl) :
    DS K X W (.If (.Compare a [.Eq] [.Constant (.str c) j p] cp) b r pos) (tIfS (tTest (tOp rr ta (tC (.str c)))) t u) (sIf k mm n) := by
  refine ⟨hb.k, ⟨fun pins s σ H D I h => ?_⟩, ⟨fun σ H s Z I r D w rs e p => ?_⟩⟩
  · have hq : wpAny (model X.prog X.w) X.A (isTrue (.Compare a [.Eq] [.Constant (.str c) j p] cp) X.env (eval (.Compare a [.Eq] [.Constant (.str c) j p] cp) X.env)) (fun d s' => 1 ≤ s'.toks ∧ TP X pins σ (fun b H' => if b = true then t D σ H' else u D σ H') d s') X.xe s := by
      refine wpAny_isTrue_Compare1 (thn (ha.run pins s σ H _ I h) fun v s1 ⟨x, H1, I1, r1, q1⟩ => Calls.Constant_str ?_) hm
      refine wpAny_mono (wpAny_toks_of (n := 1) (by show 1 ≤ s1.toks + 1; omega) (ho pins { s1 with toks := s1.toks + 1 } σ H1 x (.str c) v (.str c s1.toks) _ (I1.tok _) r1 ⟨_, rfl⟩ q1)) (fun d s3 q => ?_) fun _ _ z => z.2
      obtain ⟨hk, z, H3, I3, r3, kk, e, q3⟩ := q
      subst e
      cases r3
      exact wpAny_truthy_bool ⟨hk, H3, I3, by cases kk <;> exact q3⟩
    refine wpAny_If (wpAny_mono hq (fun d s1 q => ?_) fun _ _ z => z)
    obtain ⟨hk, H1, I1, q1⟩ := q
    cases d with
    | true => exact hb.ps pins s1 σ H1 D hk I1 q1
    | false => exact hr.ps.run pins s1 σ H1 D I1 q1
  · refine so.lift w rs e p fun d v M1 Z1 H1 I1 w1 rs1 x1 q1 e1 p1 => ?_
    cases (show d = .p (.bl v) from q1)
    cases v with
    | true => exact hb.so.ok σ H1 ⟨s.l, M1⟩ Z1 I1 _ D w1 rs1 e1 p1
    | false => exact hr.so.ok σ H1 ⟨s.l, M1⟩ Z1 I1 _ D w1 rs1 e1 p1
/-- .. by the parts as gen.py writes them -/
theorem ds_ifTe {a : Expr} {b r : List Stmt} {j : Nat} {ta : TE} {t u : TS} {n1 : EM} {mm n : SM} {cp : Pos} {rr : R2} (h : OpD K X (compareOp .Eq) rr dEq) (ha : DE K X W a ta n1) (hb : DSsT K X W b t mm) (hr : DSs K X W r u n) (hm : behindInMarks .Eq (.Constant (.str c) j p) = false := by rfl) :
    DS K X W (.If (.Compare a [.Eq] [.Constant (.str c) j p] cp) b r pos) (tIfS (tTest (tOp rr ta (tC (.str c)))) t u) (sIf (mBin dEq n1 (mC (.str c))) mm n) :=
  ds_ifT (h.op ha.k) ha.pe (so_test (so_bin h.ok ha.so (so_c fun _ => .str c)) (mBin_bool bool_dEq)) hb hr hm
end
end DL
namespace DL
open PySem PySem.Spec L2 PyProof.Rows
/-- a class of one's own as the top holds it -/
structure Kl (K : PySem.W.Frag) (mg : Str → Option Value) (nm : Str) (fl : List Str) where
  a : Addr
  m : mg nm = some (.ref a)
  k : Kls K a fl
end DL
/-! a slice of a tuple (not the whole one) -/
namespace DL
open PySem PySem.Spec L2 PyProof.Rows
section
variable {K : PySem.W.Frag} {X : Cx} {W : WX} {e a b c : Expr} {es : List Expr} {pos : Pos}
def slT (d : D) (l u : Option Int) : Option D := match d with
  | .tup xs => if HT.sIx xs.length 0 l = 0 ∧ HT.sIx xs.length xs.length u = xs.length then none else some (.tup (cutD xs l u))
  | d => slD d l u
def mSlT (m : EM) (ml mu : PM) : EM := bnd m (pur fun d => bnd ml fun i => bnd mu fun j => ret (slT d i j))
theorem de_slT {te : TE} {tl th : TO} {m : EM} {ml mu : PM} {lo hi : Option Expr} {p2 : Pos} (h : DE K X W e te m) (hl : DP K X W lo tl ml) (hh : DP K X W hi th mu) : DE K X W (.Subscript e (.Slice lo hi none p2) pos) (tSl (rSl K) te tl th) (mSlT m ml mu) := by
  refine ⟨h.k, ?_, ⟨fun σ H s Z I r0 Q w rs e p => ?_⟩⟩
  · have q := pe_slice (X := X) (pos := pos) (p2 := p2) sl_any h.pe hl.po hh.po
    rw [h.k] at q
    exact q
  · refine h.so.bnd w rs e p.x fun d v M1 Z1 H1 I1 w1 rs1 x1 q1 e1 => ?_
    obtain ⟨d, rfl, e1⟩ := pur_ok e1
    have p1 := p.mono x1
    refine hl.so.bnd (s := ⟨s.l, M1⟩) w1 rs1 e1 p1.x fun i i' M2 Z2 H2 I2 w2 rs2 x2 q2 e2 => ?_
    cases (show i' = i from q2)
    have p2 := p1.mono x2
    refine hh.so.bnd (s := ⟨s.l, M2⟩) w2 rs2 e2 p2.x fun j j' M3 Z3 H3 I3 w3 rs3 x3 q3 e3 => ?_
    cases (show j' = j from q3)
    obtain ⟨c, hc, rfl⟩ := ret_ok e3
    have hx : Rep K Z3 v d := Rep.mono x3.z (Rep.mono x2.z q1)
    unfold slT at hc
    split at hc
    · rename_i xs
      split at hc
      · cases hc
      · rename_i hn
        cases hc
        cases hx with
        | tup h1 h2 =>
          have pp := PostP.of w3 (p2.mono x3)
          refine .inr (.inr ⟨_, _, rfl, .inl (.inl (w3.sub _ _ h1)), by rw [h2.length]; exact hn, fun l hl => pp _ _ _ (ExtP.new w3.sub hl) (.tup upd_same ((h2.cut _ _).mono (same_upd (none_of w3.sub hl))))⟩)
    · rename_i hn
      exact sl_ok w3.sub hx hc (PostP.of w3 (p2.mono x3)) fun xs h => hn xs h
end
end DL
namespace DL
open PySem L2
/-! exceptions of own classes: made, raised, caught -/
/-- what is known of a class over ValueError that has no own __init__ -/
structure Gx (K : PySem.W.Frag) (G : Addr) : Prop where
  g1 : PySem.W.specialIn K (.ref G) "__getattribute__" = some (some (.builtin "type.__getattribute__"))
  g2 : PySem.W.readsIn K G (.type "type") = true
  g3 : PySem.W.findCls K (.ref G) (.type "type") "__init__" = some (.val (.builtin "ValueError.__init__"))
section
variable {X : Cx} {x : Str} {G : Addr} {e : Expr} {es : List Expr} {ta : TA} {p1 p2 pos : Pos} {pl : Sem Bool}
theorem pe_ginit (g : Gx X.K G) (hm : X.mg x = some (.ref G)) (ha : PA X (e :: es) ta) (hg : Gl X x := by rfl) (hdb : (x == ("__debug__" : Str)) = false := by decide)
    (hc : eval (.Call (.Attribute (.Name x p1) "__init__" p2) (e :: es) [] pos) X.env = (do
      let cls ← eval (.Name x p1) X.env
      standAt p2.atName
      let (f, first) ← holding [cls] (getMethod cls "__init__" pl)
      callWith pos f first (backTo pos (starEach (e :: es) X.env)) (backToKw pos (keywordEach [] X.env))) := by rfl)
    (he : starEach (e :: es) X.env = (false, eval e X.env) :: starEach es X.env := by rfl) (hpl : (backTo pos (starEach es X.env)).any (·.1) = false := by rfl) :
    PE X (.Call (.Attribute (.Name x p1) "__init__" p2) (e :: es) [] pos) (tVeI X.K ta) := ⟨by
  intro pins s σ H Q I h
  refine PySem.W.methodCall_KW (ld_glob I hg hm ?_ hdb) hc
  refine PySem.W.method_cls I.kIn g.g1 (PySem.W.cls_value I.kIn g.g2 g.g3 rfl ?_)
  show wpAny _ _ (callWith pos (Value.builtin "ValueError.__init__") [] (backTo pos (starEach (e :: es) X.env)) []) _ _ _
  refine PyProof.Rows.callWith_method1 (thn (ha.run pos pins _ σ H _ (I.tok _) h) fun us s1 hh => ?_) he hpl
  obtain ⟨vs, H1, I1, r1, a, C, ws, ev, hl, T, ea, q⟩ := hh
  subst ev
  obtain _ | ⟨ra, rw'⟩ := r1
  rename_i u0 ur
  obtain rfl : u0 = Value.ref a := ra
  refine oinit_ok T I1 ea (Nat.le_trans (Nat.le_of_eq (Paired.length rw').symm) (by rw [sizeLine_eq]; omega)) fun s' J => ?_
  exact ⟨.non, H1, J, rfl, q⟩⟩
end
/-- what a text in braces may be: an int of few digits, a text -/
def fsOk : D → Bool
  | .int i => decide (0 ≤ i ∧ i ≤ 1000000)
  | .str x => decide (x.length ≤ 900000)
  | _ => false
/-- the promise of an own __init__ that keeps its argument in f -/
def spI (K : PySem.W.Frag) (C : Addr) (f : Str) : Sp := fun vs H Q _ => vs.length = 2 ∧ ∃ (a : Addr) (y : V) (d : D) (Z : Hp), vs = [.ref a, y] ∧ Same Z H ∧ Rep K Z y d ∧ fsOk d = true ∧ H a = some (exo a C none) ∧
  ∀ (Z' H' : Hp) (dx : Addr) (y' : V), Ext Z H [] Z' H' [] → Same Z' H' → Rep K Z' y' d → H' dx = none → dx ≠ a → Q .non (upd (upd H' dx (exd dx [(f, y')])) a (exo a C (some dx)))
theorem spI_len {K : PySem.W.Frag} {C : Addr} {f : Str} : ∀ vs H Q E, spI K C f vs H Q E → vs.length = 2 := fun _ _ _ _ h => h.1
structure IniB (K : PySem.W.Frag) (X : Cx) (W : WX) (fld : Str) (body : List Stmt) : Prop where
  ex : ∃ (ta : TA) (to te : TE) (ms : AM), PSs X body (tSeq (tDrop (tVeI K ta)) (tOst K fld to te)) ∧ Sound K W (RepVs K) ta ms ∧ Sound K W (RepV K) to (mVar 0) ∧ Sound K W (RepV K) te (mVar 1) ∧
    ∀ (a : Addr) (d : D), fsOk d = true → ∃ z, ms ⟨[some (.p (.fn a)), some (.p d)], []⟩ = some (.ok [.p (.fn a), .p (.str z)] [])
/-- a text in front of {..} -/
theorem fs_run {pre z : Str} {a : Addr} {d : D} (h1 : dFmt d = some (.str z)) (h2 : Str.empty.length + pre.length ≤ 1000000) (h3 : (Str.empty ++ pre).length + z.length ≤ 1000000) :
    aCons (mVar 0) (aCons (mJoined (jCons (mC (.str pre)) (jCons (mFmt (mVar 1)) jNil))) aNil) ⟨[some (.p (.fn a)), some (.p d)], []⟩ = some (.ok [.p (.fn a), .p (.str (Str.empty ++ pre ++ z))] []) := by
  have h4 : pre.length ≤ 1000000 := by have : Str.empty.length = 0 := rfl; omega
  have h5 : (tx [] ++ pre).length + z.length ≤ 1000000 := h3
  simp [aCons, aNil, bnd, mVar, gv, mJoined, jCons, jNil, mFmt, pur, ret, mC, h1, h4, h5]
theorem fs_ev {pre : Str} (h : pre.length ≤ 1000) (a : Addr) (d : D) (hd : fsOk d = true) :
    ∃ z, aCons (mVar 0) (aCons (mJoined (jCons (mC (.str pre)) (jCons (mFmt (mVar 1)) jNil))) aNil) ⟨[some (.p (.fn a)), some (.p d)], []⟩ = some (.ok [.p (.fn a), .p (.str z)] []) := by
  have he : Str.empty.length = 0 := rfl
  cases d with
  | int i =>
    have hd' : 0 ≤ i ∧ i ≤ 1000000 := of_decide_eq_true hd
    obtain ⟨n, rfl⟩ := Int.eq_ofNat_of_zero_le hd'.1
    have hn : n ≤ 1000000 := by omega
    have h1 : n.log2 < 1920 := log_ok (by omega)
    have h2 : (decs n).length ≤ 7 := decs_len 6 n (by omega)
    have h3 : (tx (decs n)).length = (decs n).length := by simp [tx, Str.length]
    have e1 : dFmt (.int (n : Int)) = some (.str (tx (decs n))) := by
      show (if ((n : Int)).natAbs.log2 < 1920 then _ else _) = _
      rw [Int.natAbs_natCast, if_pos h1, ofInt_tx]
    exact ⟨_, fs_run e1 (by omega) (by rw [len_app]; omega)⟩
  | str y =>
    have hd' : y.length ≤ 900000 := of_decide_eq_true hd
    exact ⟨_, fs_run (if_pos (by omega)) (by omega) (by rw [len_app]; omega)⟩
  | _ => cases hd
section
variable {K : PySem.W.Frag} {X : Cx} {W : WX} {x fld : Str} {G : Addr} {e1 e2 o y : Expr} {ta : TA} {ms : AM} {to te : TE} {p1 p2 pos p3 p4 spos : Pos} {pl : Sem Bool}
theorem ini_mk (g : Gx X.K G) (hm : X.mg x = some (.ref G)) (ha : DA K X W [e1, e2] ta ms) (ho : DE K X W o to (mVar 0)) (hy : DE K X W y te (mVar 1))
    (hev : ∀ (a : Addr) (d : D), fsOk d = true → ∃ z, ms ⟨[some (.p (.fn a)), some (.p d)], []⟩ = some (.ok [.p (.fn a), .p (.str z)] [])) (hg : Gl X x := by rfl) (hdb : (x == ("__debug__" : Str)) = false := by decide)
    (hc : eval (.Call (.Attribute (.Name x p1) "__init__" p2) [e1, e2] [] pos) X.env = (do
      let cls ← eval (.Name x p1) X.env
      standAt p2.atName
      let (f, first) ← holding [cls] (getMethod cls "__init__" pl)
      callWith pos f first (backTo pos (starEach [e1, e2] X.env)) (backToKw pos (keywordEach [] X.env))) := by rfl)
    (he : starEach [e1, e2] X.env = (false, eval e1 X.env) :: starEach [e2] X.env := by rfl) (hpl : (backTo pos (starEach [e2] X.env)).any (·.1) = false := by rfl)
    (hs : swapsWith (.Call (.Attribute (.Name x p1) "__init__" p2) [e1, e2] [] pos) none spos.line X.env = pure false := by rfl) (hs2 : swapsWith y (some (.Attribute o fld p3)) p4.line X.env = pure false := by rfl) :
    IniB K X W fld [.Expr (.Call (.Attribute (.Name x p1) "__init__" p2) [e1, e2] [] pos) spos, .Assign [.Attribute o fld p3] y p4] := by
  refine ⟨ta, to, te, ms, ?_, ha.so, ho.so, hy.so, hev⟩
  have k := ha.k
  subst k
  exact pss_cons (ps_expr (pe_ginit g hm ha.pa hg hdb hc he hpl) hs) (pss_one (ps_ost ho.pe hy.pe hs2))
end
section
variable {P : Program} {w : World} {K : PySem.W.Frag} {mg : Str → Option Value} {base : Heap} {x qual n fld : Str} {st : Stmt} {f C : Addr} {fd : FuncData} {k : Nat}
theorem fnI (F : Fun K x qual st f fd) (Sc : FnScope ["self", n] ["self", n] (defScope st)) (T : OexC K C) (hno : PySem.W.findIn K (.ref C) fld = some none)
    (body : ∀ (cdv : Value) (A : Around) (outer : List Env) (s : Shared) (H : Hp) (E : XK), Room k (A.deeper (PyProof.Rows.envOfC qual (defScope st) s.heap.objs.size f cdv)) →
      IniB K (cxOf (L2.CX P w) P w K mg base ["self", n] qual (defScope st) f cdv A outer s H E) (WE0 E) fld (defBody st)) : FnOk P w K mg base (L2.CX P w) (k + 1) f fd ["self", n] (spI K C fld) := by
  refine F.okX Sc spI_len fun cdv A outer s H vs Q E hr h => ?_
  obtain ⟨ta, to, te, ms, hps, sa, so, se, hev⟩ := (body cdv A outer s H E hr).ex
  refine ⟨_, hps, ?_⟩
  obtain ⟨hl, a, y, d, Z, rfl, sub, ry, ok, ea, hq⟩ := h
  obtain ⟨z, ez⟩ := hev a d ok
  have w0 : Wf K Z H [] [] := ⟨sub, rfl, List.nodup_nil, (by simp), fun n a o h => by simp at h⟩
  have rs : RepS K Z [] (L2.start ["self", n] [.ref a, y]) [some (.p (.fn a)), some (.p d)] := by
    have := start_rep (K := K) (Z := Z) (I := []) (N := ["self", n]) (vs := [.ref a, y]) (ds := [.p (.fn a), .p d]) (.cons (.fn a) (.cons ry .nil))
    exact this
  refine sa.ok _ H ⟨_, []⟩ Z [] _ _ w0 rs ez fun vs Z1 H1 I1 w1 x1 r1 => ?_
  obtain _ | ⟨ra, _ | ⟨rz, _ | _⟩⟩ := r1
  obtain rfl : I1 = [] := List.length_eq_zero_iff.mp w1.len
  cases (show Rep K Z1 _ (.fn a) from ra)
  have ea1 : H1 a = some (exo a C none) := x1.fr a _ ea (by simp)
  refine ⟨a, C, _, rfl, by simp, T, ea1, ?_⟩
  have rs1 := rs.mono x1
  refine se.ok _ H1 ⟨[some (.p (.fn a)), some (.p d)], []⟩ Z1 [] (.ok (.p d) []) _ w1 rs1 rfl fun v2 Z2 H2 I2 w2 x2 r2 => ?_
  obtain rfl : I2 = [] := List.length_eq_zero_iff.mp w2.len
  refine so.ok _ H2 ⟨[some (.p (.fn a)), some (.p d)], []⟩ Z2 [] (.ok (.p (.fn a)) []) _ w2 (rs1.mono x2) rfl fun v3 Z3 H3 I3 w3 x3 r3 => ?_
  obtain rfl : I3 = [] := List.length_eq_zero_iff.mp w3.len
  cases (show Rep K Z3 _ (.fn a) from r3)
  have ea3 : H3 a = some (exo a C none) := x3.fr a _ (x2.fr a _ ea1 (by simp)) (by simp)
  refine ⟨a, C, rfl, T, hno, .inl ⟨ea3, fun dx n ne => ?_⟩⟩
  exact hq Z3 H3 dx v2 ((x1.trans x2).trans x3) w3.sub (Rep.mono x3.z r2) n ne
end
/-! raise C(e) -/
def sRaise (C : Addr) (f : Str) (m : EM) : SM := liftS m (purS fun d s => if fsOk d = true then some (.ex C [(f, d)], s) else none)
/-- what is known of a class whose exceptions are raised -/
structure Ek (K : PySem.W.Frag) (mg : Str → Option Value) (nm fld qual : Str) (st : Stmt) (n : Str) where
  a : Addr
  f : Addr
  fd : FuncData
  m : mg nm = some (.ref a)
  T : OexC K a
  no : PySem.W.findIn K (.ref a) fld = some none
  i : PySem.W.findIn K (.ref a) "__init__" = some (some (.ref f))
  t : PySem.W.typeIn K (.ref f) = some (.type "function")
  F : Fun K "__init__" qual st f fd
  b : Binds K fd ["self", n] []
  C : ExcC K a
  X : XfC K a
structure Gk (K : PySem.W.Frag) (mg : Str → Option Value) (nm : Str) where
  a : Addr
  m : mg nm = some (.ref a)
  g : Gx K a
section
variable {K : PySem.W.Frag} {X : Cx} {W : WX} {x n f qual : Str} {st : Stmt} {e : Expr} {te : TE} {m : EM} {p p2 pos : Pos} {C : Addr} {k kk : Nat} {mg : Str → Option Value}
theorem so_raise (he : Sound K W (RepV K) te m) (T : OexC K C) : SoundS K W (fun _ σ H => tMkO C (spI K C f) [] (tCons te tNil) σ H fun cls d H' => W cls d σ H') (sRaise C f m) := ⟨fun σ H s Z I r D w rs e1 p1 => by
  refine he.lift w rs e1 p1 fun d y M1 Z1 H1 I1 w1 rs1 x1 q1 e2 p2 => ?_
  obtain ⟨d, rfl, e2⟩ := purS_ok e2
  have e2 : (if fsOk d = true then some (Fl.ex C [(f, d)], (⟨s.l, M1⟩ : S)) else none) = some r := e2
  split at e2
  · rename_i ok
    cases e2
    refine ⟨by simp, fun a hn => ⟨rfl, a, y, d, Z1, rfl, fun b o q => ?_, q1, ok, upd_same, fun Z2 H2 dx y2 x2 sub ry hd ne => ⟨rfl, dx, [(f, y2)], upd_same, ?_, ?_, ?_⟩⟩⟩
    · exact same_upd hn b o (w1.sub b o q)
    · rw [upd_ne ne, upd_same]
    · cases z : H1 dx with
      | none => rfl
      | some o => exact absurd hd (x2.tr dx (by rw [upd_ne ne, z]; simp))
    · have za : Z2 a = none := by
        cases z : Z2 a with
        | none => rfl
        | some o =>
          rcases x2.zn a (by rw [z]; simp) with h | h | h
          · exact absurd (none_of w1.sub hn) h
          · rw [upd_same] at h; cases h
          · cases h
      have zd : Z2 dx = none := none_of sub hd
      have h4 : ∀ b o, b ≠ a → H2 b = some o → upd (del (upd (upd H2 dx (exd dx [(f, y2)])) a (exo a C (some dx))) a) dx (.xd [(f, y2)]) b = some o := fun b o ha q => by
        have hb : b ≠ dx := fun z => by rw [z, hd] at q; cases q
        rw [upd_ne hb, del_ne ha, upd_ne ha, upd_ne hb]; exact q
      have na : ∀ {b : Addr} {o : HO}, H1 b = some o → b ≠ a := fun {b o} q z => by rw [z, hn] at q; cases q
      have xp : ExtP Z1 H1 Z2 (upd (del (upd (upd H2 dx (exd dx [(f, y2)])) a (exo a C (some dx))) a) dx (.xd [(f, y2)])) := ⟨x2.z, fun b o q => h4 b o (na q) (x2.fr b o (by rw [upd_ne (na q)]; exact q) (by simp)), fun b o q => by
        refine h4 b o (fun z => by rw [z, za] at q; cases q) (sub b o q), fun b q => ?_⟩
      · have hd1 : H1 dx = none := by
          cases z : H1 dx with
          | none => rfl
          | some o => exact absurd hd (x2.tr dx (by rw [upd_ne ne, z]; simp))
        refine p2 σ (some dx) Z2 _ I1 (w1.extP xp) (rs1.mono (xp.ext w1)) (xp.ext w1) (.inr ⟨dx, _, rfl, upd_same, .cons ⟨rfl, ry⟩ .nil⟩) fun b q => ?_
        cases q
        exact ⟨hd1, fun hm => w1.tr _ hm hd1⟩
      · rcases x2.zn b q with h | h | h
        · exact .inl h
        · by_cases z : b = a
          · rw [z, upd_same] at h; cases h
          · rw [upd_ne z] at h; exact .inr h
        · cases h
  · cases e2⟩
theorem ds_raise (E : Ek K mg x f qual st n) (F : FnOk X.prog X.w K X.mg X.base (L2.CX X.prog X.w) k E.f E.fd ["self", n] (spI K E.a f)) (hr : Room kk X.A) (hkk : k + 1 ≤ kk) (tk : Takes X W) (he : DE K X W e te m) (hmg : X.mg = mg := by rfl) (hc : X.calm = true := by rfl) (hg : Gl X x := by rfl)
    (hdb : (x == ("__debug__" : Str)) = false := by decide) (hst : starEach [e] X.env = (false, eval e X.env) :: starEach [] X.env := by rfl) (hpl : (backTo pos (starEach [] X.env)).any (·.1) = false := by rfl) :
    DS K X W (.Raise (some (.Call (.Name x p) [e] [] pos)) none p2) (fun _ σ H => tMkO E.a (spI K E.a f) [] (tCons te tNil) σ H fun cls d H' => W cls d σ H') (sRaise E.a f m) := by
  have kk := he.k
  subst kk
  subst hmg
  refine ⟨rfl, ps_raise hc tk (pmk_oex (CX := L2.CX X.prog X.w) (ds := []) (dvs := []) E.T E.i E.t F (hr.mono hkk) E.b .nil ?_ hg E.m (pa_cons he.pe pa_nil hst) hdb hst hpl), so_raise he.so E.T⟩
  exact passes_call tk (E := fun _ _ _ => False) fun _ _ _ _ h => h.elim
end
/-! try: .. except G as e: .. -/
/-- what a suite does with the caught exception: a value is returned -/
structure TX (K : PySem.W.Frag) (i : Nat) (t : Addr → Value → Option Addr → TT) (m : Addr → Option Bool) : Prop where
  ok : ∀ (a c : Addr) (d : Option Addr) (fs : List (Str × D)) (σ : St) (H Z : Hp) (b : Bool) (Q : Bool → Hp → Prop), fs.isEmpty = false → Same Z H → σ[i]? = some (some (.ref a)) → ExcAt K Z H d fs → m c = some b → Q b H → t a (.ref c) d σ H Q
structure RX (K : PySem.W.Frag) (i : Nat) (t : Addr → Value → Option Addr → TE) (m : Addr → List (Str × D) → Option D) : Prop where
  ok : ∀ (a c : Addr) (d : Option Addr) (fs : List (Str × D)) (σ : St) (H Z : Hp) (y : D) (Q : VK), fs.isEmpty = false → Same Z H → σ[i]? = some (some (.ref a)) → ExcAt K Z H d fs → m c fs = some y → PostP K Z H y Q → t a (.ref c) d σ H Q
structure HXs (K : PySem.W.Frag) (X : Cx) (i : Nat) (body : List Stmt) (hm : Addr → List (Str × D) → Option D) : Prop where
  ex : ∃ ts : Addr → Value → Option Addr → TS, (∀ (a : Addr) (oe : Obj) (cls : Value) (d : Option Addr) (pn : List (Addr × Obj)), Zc cls d oe → (∃ vs, oe.data = .fields vs) → PSs (X.suite a ((a, oe) :: pn)) body (ts a cls d)) ∧
    ∀ (a c : Addr) (d : Option Addr) (fs : List (Str × D)) (σ : St) (H Z : Hp) (y : D) (E : Ends), fs.isEmpty = false → Same Z H → σ[i]? = some (some (.ref a)) → ExcAt K Z H d fs → hm c fs = some y → PostP K Z H y E.rt → ts a (.ref c) d E σ H
def sTry (cs : List (Addr × Bool)) (i : Nat) (mb : SM) (hm : Addr → List (Str × D) → Option D) : SM := fun s => match mb s with
  | some (.ex c fs, s1) => if i < s1.l.length ∧ fs.isEmpty = false then match cs.lookup c with
    | some true => match hm c fs with
      | some y => some (.rt (.p y), s1)
      | none => none
    | some false => some (.ex c fs, s1)
    | none => none else none
  | r => r
section
variable {K : PySem.W.Frag} {X : Cx} {W : WX} {x n : Str} {cc : Value} {i : Nat} {body suite : List Stmt} {b₀ : Stmt} {np pos pos' : Pos} {tb : WX → TS} {mb : SM} {hm : Addr → List (Str × D) → Option D} {cs : List (Addr × Bool)}
theorem ds_try (hN : X.N.Nodup) (tk : Takes X W) (hc : Names X x cc) (hcs : ∀ c b, cs.lookup c = some b → PySem.W.exmOne K (.ref c) cc = some b)
    (hb : ∀ (W : WX) (pn : List (Addr × Obj)) (xe : Value → Shared → Prop), Takes (X.tr pn xe) W → DSs K (X.tr pn xe) W body (tb W) mb) (hsu : HXs K X i (b₀ :: suite) hm)
    (hi : X.N[i]? = some n := by rfl) (hln : X.env.kindOf n = some .local := by rfl) (hs : X.stack = X.env :: X.outer := by rfl) (hf : X.env.frame = some X.env.locals := by rfl) :
    ∃ t, DS K X W (.Try body [.ExceptHandler (some (.Name x np)) (some n) (b₀ :: suite) pos'] [] [] pos) t (sTry cs i mb hm) := by
  have k : X.K = K := (hb (fun _ _ _ _ => True) [] (fun _ _ => True) (fun _ _ _ => trivial)).k
  subst k
  obtain ⟨ts, h1, h2⟩ := hsu.ex
  refine ⟨_, rfl, ps_try_as hs hf hN hi hln hc tk (fun W' pn xe tk' _ => (hb W' pn xe tk').ps) h1, ⟨fun σ H s Z I r D w rs e p => ?_⟩⟩
  unfold sTry at e
  have so := fun W => (hb W [] (fun _ _ => True) (fun _ _ _ => trivial)).so
  cases z : mb s with
  | none => rw [z] at e; cases e
  | some q =>
    obtain ⟨fl, s1⟩ := q
    rw [z] at e
    refine (so _).ok σ H s Z I _ D w rs z ?_
    cases fl with
    | ex c fs =>
      have e : (if i < s1.l.length ∧ fs.isEmpty = false then match cs.lookup c with
        | some true => match hm c fs with
          | some y => some (Fl.rt (.p y), s1)
          | none => none
        | some false => some (.ex c fs, s1)
        | none => none else none) = some r := e
      split at e
      · rename_i hl
        intro σ' d Z' H' I' w' rs' x' ea na
        cases y : cs.lookup c with
        | none => rw [y] at e; cases e
        | some b =>
          rw [y] at e
          refine ⟨b, hcs c b y, fun hb' a ha => ?_, fun hb' => ?_⟩
          · subst hb'
            dsimp only at e
            cases v : hm c fs with
            | none => rw [v] at e; cases e
            | some y =>
              rw [v] at e
              cases e
              refine h2 a c d fs _ H' Z' y _ hl.2 w'.sub (by rw [List.getElem?_set_self (by rw [rs'.len]; exact hl.1)]) ea v fun v2 Z2 H2 x2 r2 => ?_
              exact p v2 Z2 H2 I' (w'.extP x2) (x'.trans (x2.ext w')) r2
          · subst hb'
            cases e
            exact p σ' d Z' H' I' w' rs' x' ea na
      · cases e
    | nx => cases e; exact p
    | rt d => cases e; exact p
    | bk => cases e; exact p
    | ct => cases e; exact p
end
/-! what suites ask: isinstance(e, C), e.f -/
def rIsX (K : PySem.W.Frag) (a : Addr) (cls : Value) (d : Option Addr) : List V → Hp → VK → Prop := fun xs H Q => ∃ (C dd : Addr) (fs : List (Str × V)) (c : V) (cv : Value) (b : Bool), cls = .ref C ∧ ExcC K C ∧ d = some dd ∧ H dd = some (.xd fs) ∧ xs = [.ref a, c] ∧ RelV c cv ∧ (∀ u, RelV c u → u = cv) ∧ PySem.W.kitOne K (.ref C) cv = some b ∧ Q (.bl b) H
theorem call_isX {X : Cx} {a : Addr} {oe : Obj} {cls : Value} {d : Option Addr} {pn : List (Addr × Obj)} (hz : Zc cls d oe) (hf : ∃ vs, oe.data = .fields vs) : CallR (X.suite a ((a, oe) :: pn)) (.builtin "isinstance") (rIsX X.K a cls d) := by
  intro pins s σ H xs us Q I r h
  obtain ⟨C, dd, fs, c, cv, b, ec, T, ed, hx, ex, _, hcv, hk, q⟩ := h
  subst ec; subst ed; subst ex
  obtain _ | ⟨r1, _ | ⟨r2, _ | _⟩⟩ := r
  rename_i u1 u2
  have e1 : u1 = Value.ref a := r1
  have e2 := hcv _ r2
  subst e1; subst e2
  obtain ⟨hget, _⟩ := I.pin (a, oe) (List.mem_append_left _ List.mem_cons_self)
  obtain ⟨vs, hv⟩ := hf
  have hxd : ObjOk X.prog X.w H s.heap dd (.xd fs) := I.hok dd _ hx
  obtain ⟨mA, hns, hr⟩ := hxd
  obtain ⟨od, ho, _⟩ := lookIn_ns hns
  have J : PySem.W.InstAt s.heap a oe C (some od) := ⟨hget, hz.1, by unfold PySem.W.notCls; rw [hv] <;> rfl, by rw [hz.2]; exact ho⟩
  have hcl : (PySem.W.clsIn X.K C).isSome = true := by
    obtain ⟨cd, hc, _⟩ := PySem.W.any_some T.hd
    rw [hc]; rfl
  exact PySem.W.kia_one (PySem.W.kitx_exc hcl T.hg T.hk T.hs T.ha T.hn T.ht T.hm) I.kIn J hk (fun z => nomatch z) fun tk => ⟨.bl b, H, I.kept (t' := tk) fun _ _ z => z, rfl, q⟩
def SX (X : Cx) (K : PySem.W.Frag) (e : Expr) (t : Addr → Value → Option Addr → TT) : Prop := X.K = K ∧ ∀ (a : Addr) (oe : Obj) (cls : Value) (d : Option Addr) (pn : List (Addr × Obj)), Zc cls d oe → (∃ vs, oe.data = .fields vs) → PT (X.suite a ((a, oe) :: pn)) e (t a cls d)
def SW (X : Cx) (K : PySem.W.Frag) (e : Expr) (t : Addr → Value → Option Addr → TT) : Prop := X.K = K ∧ ∀ (a : Addr) (oe : Obj) (cls : Value) (d : Option Addr) (pn : List (Addr × Obj)), Zc cls d oe → (∃ vs, oe.data = .fields vs) → PW (X.suite a ((a, oe) :: pn)) e (t a cls d)
def SE (X : Cx) (K : PySem.W.Frag) (e : Expr) (t : Addr → Value → Option Addr → TE) : Prop := X.K = K ∧ ∀ (a : Addr) (oe : Obj) (cls : Value) (d : Option Addr) (pn : List (Addr × Obj)), Zc cls d oe → (∃ vs, oe.data = .fields vs) → PE (X.suite a ((a, oe) :: pn)) e (t a cls d)
/-- a test, a value of the suite -/
structure DTX (K : PySem.W.Frag) (X : Cx) (i : Nat) (e : Expr) (m : Addr → Option Bool) : Prop where
  ex : ∃ t, SX X K e t ∧ TX K i t m
structure DWX (K : PySem.W.Frag) (X : Cx) (i : Nat) (e : Expr) (m : Addr → Option Bool) : Prop where
  ex : ∃ t, SW X K e t ∧ TX K i t m
structure DEX (K : PySem.W.Frag) (X : Cx) (i : Nat) (e : Expr) (m : Addr → List (Str × D) → Option D) : Prop where
  ex : ∃ t, SE X K e t ∧ RX K i t m
def xIs (cs : List (Addr × Bool)) : Addr → Option Bool := fun c => cs.lookup c
def xAnd (m n : Addr → Option Bool) : Addr → Option Bool := fun c => match m c with
  | some true => n c
  | some false => some false
  | none => none
def xNot (m : Addr → Option Bool) : Addr → Option Bool := fun c => (m c).map (!·)
def xFld (cs : List (Addr × Bool)) (f : Str) : Addr → List (Str × D) → Option D := fun c fs => if cs.lookup c = some true then fs.lookup f else none
def xC (d : D) : Addr → List (Str × D) → Option D := fun _ _ => some d
def xIf (m : Addr → Option Bool) (n k : Addr → List (Str × D) → Option D) : Addr → List (Str × D) → Option D := fun c fs => match m c with
  | some true => n c fs
  | some false => k c fs
  | none => none
theorem exc_at {K : PySem.W.Frag} {Z H : Hp} {d : Option Addr} {fs : List (Str × D)} {f : Str} {y : D} (h : ExcAt K Z H d fs) (l : fs.lookup f = some y) : ∃ dd vs v, d = some dd ∧ H dd = some (.xd vs) ∧ vs.lookup f = some v ∧ Rep K Z v y := by
  rcases h with ⟨_, rfl⟩ | ⟨dd, vs, e, hx, p⟩
  · cases l
  · refine ⟨dd, vs, ?_⟩
    have : ∃ v, vs.lookup f = some v ∧ Rep K Z v y := by
      clear hx
      induction p with
      | nil => cases l
      | @cons u q us qs hp hr ih =>
        obtain ⟨u1, u2⟩ := u
        obtain ⟨q1, q2⟩ := q
        obtain ⟨e1, e2⟩ := hp
        have e1' : u1 = q1 := e1
        subst e1'
        simp only [List.lookup] at l ⊢
        split at l
        · cases l; exact ⟨u2, rfl, e2⟩
        · exact ih l
    obtain ⟨v, h1, h2⟩ := this
    exact ⟨v, e, hx, h1, h2⟩
section
variable {K : PySem.W.Frag} {X : Cx} {e e1 e2 : Expr} {i : Nat} {pos p p1 p2 : Pos} {x y f : Str} {cc : Addr} {cs : List (Addr × Bool)} {m m1 m2 : Addr → Option Bool} {h h1 h2 : Addr → List (Str × D) → Option D}
theorem dtx_is0 {v : V} {cv : Value} {e2 : Expr} (hs : X.mg "isinstance" = none) (hc : ∀ (a : Addr) (pn : List (Addr × Obj)), PE (X.suite a pn) e2 (tC v)) (rv : RelV v cv) (hu : ∀ u, RelV v u → u = cv)
    (hcs : ∀ c b, cs.lookup c = some b → ExcC K c ∧ PySem.W.kitOne K (.ref c) cv = some b) (hN : X.N[i]? = some x := by rfl) (k : X.K = K := by rfl) (hg : Gl X "isinstance" := by rfl)
    (hvv : bootBuiltins "isinstance" = some (.builtin "isinstance") := by decide +kernel) (hvs : Vis X.env.scope x := by first | exact Or.inl rfl | exact Or.inr (Or.inl rfl) | exact Or.inr (Or.inr rfl)) (hd : (x == ("__debug__" : Str)) = false := by decide) (hcd : (x == ("__classdict__" : Str)) = false := by decide)
    (h1 : starEach [.Name x p1, e2] X.env = (false, eval (.Name x p1) X.env) :: starEach [e2] X.env := by rfl) (h2 : starEach [e2] X.env = (false, eval e2 X.env) :: starEach [] X.env := by rfl) (hpl : (backTo pos (starEach [e2] X.env)).any (·.1) = false := by rfl)
    (he : ∀ whole, isTrue (.Call (.Name "isinstance" p) [.Name x p1, e2] [] pos) X.env whole = (do let v ← whole; standAt (Expr.pos (.Call (.Name "isinstance" p) [.Name x p1, e2] [] pos)); holding [v] (truthy v)) := by intro _; rfl) :
    DTX K X i (.Call (.Name "isinstance" p) [.Name x p1, e2] [] pos) (xIs cs) := by
  subst k
  refine ⟨fun a cls d σ H Q => tCB (rIsX X.K a cls d) (tCons (tVar i) (tCons (tC v) tNil)) σ H fun x H' => ∃ k, TruV X.K x H' k ∧ Q k H', ⟨rfl, fun a oe cls d pn hz hf => pt_truth (X := X.suite a ((a, oe) :: pn)) (pe_callB (call_isX (pn := pn) hz hf) hg hs hvv (pa_cons (pe_var hN hvs hd hcd) (pa_cons (hc a ((a, oe) :: pn)) pa_nil h2) h1) (by decide) (by decide) h1 hpl) he⟩, ⟨fun a c d fs σ H Z b Q ne sub hi ea hm q => ?_⟩⟩
  obtain ⟨T, hk⟩ := hcs c b hm
  rcases ea with ⟨rfl, rfl⟩ | ⟨dd, vs, rfl, hx, _⟩
  · cases ne
  · exact ⟨_, hi, c, dd, vs, v, cv, b, rfl, T, rfl, hx, rfl, rv, hu, hk, b, rfl, q⟩
theorem dtx_is (hs : X.mg "isinstance" = none) (hm : X.mg y = some (.ref cc)) (hcs : ∀ c b, cs.lookup c = some b → ExcC K c ∧ PySem.W.kitOne K (.ref c) (.ref cc) = some b) (hN : X.N[i]? = some x := by rfl) (k : X.K = K := by rfl) (hg : Gl X "isinstance" := by rfl) (hgy : Gl X y := by rfl)
    (hy : (y == ("__debug__" : Str)) = false := by decide) (hvs : Vis X.env.scope x := by first | exact Or.inl rfl | exact Or.inr (Or.inl rfl) | exact Or.inr (Or.inr rfl)) (hd : (x == ("__debug__" : Str)) = false := by decide) (hcd : (x == ("__classdict__" : Str)) = false := by decide)
    (h1 : starEach [.Name x p1, .Name y p2] X.env = (false, eval (.Name x p1) X.env) :: starEach [.Name y p2] X.env := by rfl) (h2 : starEach [.Name y p2] X.env = (false, eval (.Name y p2) X.env) :: starEach [] X.env := by rfl) (hpl : (backTo pos (starEach [.Name y p2] X.env)).any (·.1) = false := by rfl)
    (he : ∀ whole, isTrue (.Call (.Name "isinstance" p) [.Name x p1, .Name y p2] [] pos) X.env whole = (do let v ← whole; standAt (Expr.pos (.Call (.Name "isinstance" p) [.Name x p1, .Name y p2] [] pos)); holding [v] (truthy v)) := by intro _; rfl) :
    DTX K X i (.Call (.Name "isinstance" p) [.Name x p1, .Name y p2] [] pos) (xIs cs) :=
  dtx_is0 (v := .ref cc) hs (fun a pn => pe_glob (X := X.suite a pn) hgy hm rfl hy) rfl (fun u h => h) hcs hN k hg (by decide +kernel) hvs hd hcd h1 h2 hpl he
theorem dtx_isT {n : String} (hs : X.mg "isinstance" = none) (hm : X.mg y = none) (hv : bootBuiltins y = some (.type n)) (hcs : ∀ c b, cs.lookup c = some b → ExcC K c ∧ PySem.W.kitOne K (.ref c) (.type n) = some b) (hN : X.N[i]? = some x := by rfl) (k : X.K = K := by rfl) (hg : Gl X "isinstance" := by rfl) (hgy : Gl X y := by rfl)
    (hn : y ≠ "__name__" := by decide) (hy : (y == ("__debug__" : Str)) = false := by decide) (hvs : Vis X.env.scope x := by first | exact Or.inl rfl | exact Or.inr (Or.inl rfl) | exact Or.inr (Or.inr rfl)) (hd : (x == ("__debug__" : Str)) = false := by decide) (hcd : (x == ("__classdict__" : Str)) = false := by decide)
    (h1 : starEach [.Name x p1, .Name y p2] X.env = (false, eval (.Name x p1) X.env) :: starEach [.Name y p2] X.env := by rfl) (h2 : starEach [.Name y p2] X.env = (false, eval (.Name y p2) X.env) :: starEach [] X.env := by rfl) (hpl : (backTo pos (starEach [.Name y p2] X.env)).any (·.1) = false := by rfl)
    (he : ∀ whole, isTrue (.Call (.Name "isinstance" p) [.Name x p1, .Name y p2] [] pos) X.env whole = (do let v ← whole; standAt (Expr.pos (.Call (.Name "isinstance" p) [.Name x p1, .Name y p2] [] pos)); holding [v] (truthy v)) := by intro _; rfl) :
    DTX K X i (.Call (.Name "isinstance" p) [.Name x p1, .Name y p2] [] pos) (xIs cs) :=
  dtx_is0 (v := .ty n) hs (fun a pn => pe_bltn (X := X.suite a pn) hgy hm hv rfl hn hy) rfl (fun u h => h) hcs hN k hg (by decide +kernel) hvs hd hcd h1 h2 hpl he
theorem dwx_and1 (h : DTX K X i e m) : DWX K X i (.BoolOp .And [e] pos) m := by
  obtain ⟨t, ⟨k, hs⟩, ht⟩ := h.ex
  exact ⟨_, ⟨k, fun a oe cls d pn z f => pw_and1 (hs a oe cls d pn z f)⟩, ht⟩
theorem dwx_and {rest : List Expr} (h1 : DTX K X i e m1) (h2 : DWX K X i (.BoolOp .And (e2 :: rest) pos) m2) : DWX K X i (.BoolOp .And (e :: e2 :: rest) pos) (xAnd m1 m2) := by
  obtain ⟨t, ⟨k, hs⟩, ht⟩ := h1.ex
  obtain ⟨u, ⟨_, hs2⟩, hu⟩ := h2.ex
  refine ⟨_, ⟨k, fun a oe cls d pn z f => pw_and (hs a oe cls d pn z f) (hs2 a oe cls d pn z f)⟩, ⟨fun a c d fs σ H Z b Q ne sub hi ea hm q => ?_⟩⟩
  unfold xAnd at hm
  cases y : m1 c with
  | none => rw [y] at hm; cases hm
  | some b1 =>
    rw [y] at hm
    refine ht.ok a c d fs σ H Z b1 _ ne sub hi ea y ?_
    cases b1 with
    | true => rw [if_pos rfl]; exact hu.ok a c d fs σ H Z b Q ne sub hi ea hm q
    | false => rw [if_neg (by decide)]; cases hm; exact q
theorem dtx_w (h : DWX K X i e m) : DTX K X i e m := by
  obtain ⟨t, ⟨k, hs⟩, ht⟩ := h.ex
  exact ⟨_, ⟨k, fun a oe cls d pn z f => (hs a oe cls d pn z f).pt⟩, ht⟩
theorem dtx_not (h : DTX K X i e m) : DTX K X i (.UnaryOp .Not e pos) (xNot m) := by
  obtain ⟨t, ⟨k, hs⟩, ht⟩ := h.ex
  refine ⟨_, ⟨k, fun a oe cls d pn z f => pt_not (hs a oe cls d pn z f)⟩, ⟨fun a c d fs σ H Z b Q ne sub hi ea hm q => ?_⟩⟩
  unfold xNot at hm
  obtain ⟨b1, h1, rfl⟩ := Option.map_eq_some_iff.mp hm
  exact ht.ok a c d fs σ H Z b1 _ ne sub hi ea h1 q
def tXfA (K : PySem.W.Frag) (a : Addr) (cls : Value) (d : Option Addr) (f : Str) (te : TE) : TE := fun σ H Q => ∃ C, XfC K C ∧ PySem.W.findIn K (.ref C) f = some none ∧ tXf a cls d C f te σ H Q
theorem dex_fld (hcs : ∀ c, cs.lookup c = some true → XfC K c ∧ PySem.W.findIn K (.ref c) f = some none) (hN : X.N[i]? = some x := by rfl) (k : X.K = K := by rfl)
    (hvs : Vis X.env.scope x := by first | exact Or.inl rfl | exact Or.inr (Or.inl rfl) | exact Or.inr (Or.inr rfl)) (hd : (x == ("__debug__" : Str)) = false := by decide) (hcd : (x == ("__classdict__" : Str)) = false := by decide)
    (hb : attributeBase (.Name x p1) f X.env (eval (.Name x p1) X.env) = eval (.Name x p1) X.env := by rfl) : DEX K X i (.Attribute (.Name x p1) f pos) (xFld cs f) := by
  subst k
  refine ⟨fun a cls d σ H Q => tXfA X.K a cls d f (tVar i) σ H Q, ⟨rfl, fun a oe cls d pn z hf => ⟨fun pins s σ H Q I h => ?_⟩⟩, ⟨fun a c d fs σ H Z y Q ne sub hi ea hm q => ?_⟩⟩
  · obtain ⟨C, T, hno, h'⟩ := h
    exact (pe_xf (X := X) T hno z hf (pe_var hN hvs hd hcd) hb).run pins s σ H Q I h'
  · unfold xFld at hm
    split at hm
    · rename_i hc
      obtain ⟨T, hno⟩ := hcs c hc
      obtain ⟨dd, vs, v, e1, e2, e3, e4⟩ := exc_at ea hm
      exact ⟨c, T, hno, _, hi, rfl, rfl, dd, vs, v, e1, e2, e3, q v Z H (ExtP.refl sub) e4⟩
    · cases hm
theorem dex_de {te : TE} {m : EM} {y : D} (he : ∀ (a : Addr) (pn : List (Addr × Obj)), DE K (X.suite a pn) WF e te m) (hv : ∀ l, m ⟨l, []⟩ = some (.ok (.p y) [])) : DEX K X i e (xC y) := by
  refine ⟨fun _ _ _ => te, ⟨(he 0 []).k, fun a oe cls d pn _ _ => (he a _).pe⟩, ⟨fun a c d fs σ H Z z Q ne sub hi ea hm q => ?_⟩⟩
  cases hm
  have w0 : Wf K Z H [] [] := ⟨sub, rfl, List.nodup_nil, (by simp), fun n a o h => by simp at h⟩
  refine (he 0 []).so.ok σ H ⟨List.replicate σ.length none, []⟩ Z [] _ _ w0 ⟨by simp, fun j dv h => ?_⟩ (hv _) fun v Z' H' I' w' x' r' => ?_
  · rw [List.getElem?_replicate] at h; split at h <;> cases h
  · obtain rfl : I' = [] := List.length_eq_zero_iff.mp w'.len
    refine q v Z' H' ⟨x'.z, fun b o z => x'.fr b o z (by simp), w'.sub, fun b z => ?_⟩ r'
    rcases x'.zn b z with h | h | h
    · exact .inl h
    · exact .inr h
    · cases h
theorem hx_ret (h : DEX K X i e h1) : HXs K X i [.Return (some e) pos] h1 := by
  obtain ⟨t, ⟨k, hs⟩, ht⟩ := h.ex
  exact ⟨_, fun a oe cls d pn z f => pss_one (ps_ret (hs a oe cls d pn z f)), fun a c d fs σ H Z y E ne sub hi ea hm q => ht.ok a c d fs σ H Z y _ ne sub hi ea hm q⟩
theorem hx_if {b1 rest : List Stmt} (h : DTX K X i e m) (ha : HXs K X i b1 h1) (hr : HXs K X i rest h2) : HXs K X i (.If e b1 [] pos :: rest) (xIf m h1 h2) := by
  obtain ⟨t, ⟨k, hs⟩, ht⟩ := h.ex
  obtain ⟨u, hu, hu2⟩ := ha.ex
  obtain ⟨v, hv, hv2⟩ := hr.ex
  refine ⟨_, fun a oe cls d pn z f => pss_cons (ps_if (hs a oe cls d pn z f) (hu a oe cls d pn z f) pss_nil) (hv a oe cls d pn z f), fun a c d fs σ H Z y E ne sub hi ea hm q => ?_⟩
  unfold xIf at hm
  cases z : m c with
  | none => rw [z] at hm; cases hm
  | some b =>
    rw [z] at hm
    refine ht.ok a c d fs σ H Z b _ ne sub hi ea z ?_
    cases b with
    | true => rw [if_pos rfl]; exact hu2 a c d fs σ H Z y _ ne sub hi ea hm q
    | false => rw [if_neg (by decide)]; exact hv2 a c d fs σ H Z y E ne sub hi ea hm q
end
end DL
namespace DL
open PySem L2
structure Ok (K : PySem.W.Frag) (mg : Str → Option Value) (nm : Str) where
  a : Addr
  m : mg nm = some (.ref a)
section
variable {α : Type} {P : Addr → α → Prop} {Q : Addr → Prop} {a : Addr} {v : α} {cs : List (Addr × α)} {bs : List (Addr × Bool)}
theorem lkx_nil : ∀ c b, ([] : List (Addr × α)).lookup c = some b → P c b := fun _ _ h => by cases h
theorem lkx_cons (h : P a v) (r : ∀ c b, cs.lookup c = some b → P c b) : ∀ c b, ((a, v) :: cs).lookup c = some b → P c b := fun c b e => by
  simp only [List.lookup] at e
  split at e
  · rename_i z
    cases e
    rw [beq_iff_eq.mp z]; exact h
  · exact r c b e
theorem lkf_nil : ∀ c, ([] : List (Addr × Bool)).lookup c = some true → Q c := fun _ h => by cases h
theorem lkf_cons (h : Q a) (r : ∀ c, bs.lookup c = some true → Q c) : ∀ c, ((a, true) :: bs).lookup c = some true → Q c := fun c e => by
  simp only [List.lookup] at e
  split at e
  · rename_i z
    rw [beq_iff_eq.mp z]; exact h
  · exact r c e
end
end DL
namespace DL
open PySem L2 PyProof.Rows
section
variable {K : PySem.W.Frag} {X : Cx}
/-! lists times an int, longer texts times an int -/
def rRepL (K : PySem.W.Frag) : R2 := fun x y H Q => ∃ (l : Addr) (n : Int) (xs : List V), x = .ref l ∧ y = .int n ∧ SqL K H l xs ∧ 0 ≤ n ∧ n ≤ 1000 ∧ xs.length ≤ 1000 ∧ ∀ p, H p = none → Q (.ref p) (upd H p (.lst (List.replicate n.toNat xs).flatten))
theorem op_repL : OpR X (binaryOp .Mult) (rRepL X.K) := by
  intro pins s σ H x y v u Q I rx ry h
  obtain ⟨l, n, xs, rfl, rfl, hx, h1, h2, h3, q⟩ := h
  obtain rfl : v = Value.ref l := rx
  obtain ⟨t, rfl⟩ := ry
  obtain ⟨its, r, ⟨⟨cls, dd0, data, sl⟩, m, ho, hc, hdn, hd⟩, _⟩ := I.list hx
  simp only at hc hd hdn
  subst hc hd hdn
  have hl := r.length
  have big : its.length * n.toNat ≤ 1000000 := by
    have a1 : its.length ≤ 1000 := by omega
    have a2 : n.toNat ≤ 1000 := by omega
    exact Nat.le_trans (Nat.mul_le_mul a1 a2) (by decide)
  have big2 : its.toArray.size * n.toNat ≤ 1000000 := by rw [List.size_toArray]; exact big
  have c1 : ¬ (!Builtin.List.listFitsIndex n) = true := by simp [Builtin.List.listFitsIndex]; omega
  have c2 : ¬ its.toArray.size * n.toNat > (2 ^ 63 - 1) / 8 := by omega
  have c3 : ¬ Builtin.List.listTooLong (its.toArray.size * n.toNat) = true := by simp [Builtin.List.listTooLong, sizeLine] at *; omega
  have mul := lm_list_mul_any l its.toArray m none sl n t c1 c2 c3
  have rmul := lm_int_rmul_list_any n t l its.toArray m none sl
  refine wpAny_binaryOp_repeat_ref (T := "list") (U := "int")
    (by decide) ⟨_, ho, rfl⟩ (fun s' => typeIs_int s' n t)
    PySem.noFill_list_mul PySem.F.fills_int_mul PySem.F.slot_int_rmul
    PySem.repeat_list PySem.F.slot_int_index.lookup ?_
  refine call_meets PySem.F.slot_int_rmul
    (typeIs_int s n t) PySem.F.entry_int_rmul (PySem.F.args_int_rmul_2 _ _) rmul ⟨ho, rfl, ⟨_, ho, rfl⟩, ?_⟩
  refine call_meets PySem.F.slot_list_mul
    ⟨_, ho, rfl⟩ PySem.F.entry_list_mul (PySem.F.args_list_mul_2 _ _) mul ⟨ho, ?_⟩
  rw [listMul_foldl_if]
  have hr : Vals (List.replicate n.toNat xs).flatten (List.replicate n.toNat its).flatten := r.rep n.toNat
  exact ⟨.ref _, _, I.lnew (t' := s.toks) hr (by rw [lm_len_rep_flat, Nat.mul_comm, hl, sizeLine_eq]; omega), rfl, q _ I.fresh⟩
def dRepL : D → D → Option D
  | .lst xs, .int n => if 0 ≤ n ∧ n ≤ 1000 ∧ xs.length ≤ 1000 then some (.lst (List.replicate n.toNat xs).flatten) else none
  | _, _ => none
theorem repA_rep {Z : Hp} {vs : List V} {ds : List D} (h : RepA K Z vs ds) : ∀ n : Nat, RepA K Z (List.replicate n vs).flatten (List.replicate n ds).flatten
  | 0 => .nil
  | n + 1 => by rw [List.replicate_succ, List.replicate_succ, List.flatten_cons, List.flatten_cons]; exact h.append (repA_rep h n)
theorem od_repL : OpD K X (binaryOp .Mult) (rRepL K) dRepL where
  op := fun k => by subst k; exact op_repL
  ok := by
    intro x y d e c Z H Q s hx hy hg p
    unfold dRepL at hg
    split at hg
    · split at hg
      · rename_i hl
        cases hg
        cases hy
        obtain _ | _ | _ | _ | ⟨h1, h2⟩ := hx
        exact ⟨_, _, _, rfl, rfl, .inl (same_rd s h1), hl.1, hl.2.1, by rw [h2.length]; exact hl.2.2, fun l hn => p _ _ _ (ExtP.new s hn) (.lst (.inl upd_same) ((repA_rep h2 _).mono (same_upd (none_of s hn))))⟩
      · cases hg
    · cases hg
def dMulT : D → D → Option D
  | .str x, .int n => if x.length ≤ 1000 ∧ 0 ≤ n ∧ n ≤ 1000 then some (.str (repS x n)) else none
  | _, _ => none
theorem od_mulT : OpD K X (binaryOp .Mult) (fun x y H Q => ∃ (z : Str) (n : Int), x = .str z ∧ y = .int n ∧ z.length ≤ 1000 ∧ 0 ≤ n ∧ n ≤ 1000 ∧ Q (.str (repS z n)) H) dMulT where
  op := fun _ pins s σ H x y v u Q I rx ry h => by
    obtain ⟨z, n, rfl, rfl, hl, h1, h2, q⟩ := h
    obtain ⟨t, rfl⟩ := rx
    obtain ⟨t', rfl⟩ := ry
    have big : z.length * n.toNat ≤ 1000000 := Nat.le_trans (Nat.mul_le_mul hl (by omega : n.toNat ≤ 1000)) (by decide)
    refine PySem.P.mul_str ?_ ?_ ?_ ?_
    · rw [decide_eq_false (by omega : ¬ n < -(2 ^ 63 : Int)), decide_eq_false (by omega : ¬ n ≥ 2 ^ 63)]; rfl
    · intro a1 a2 a3
      have b2 := (Int.le_ediv_iff_mul_le (a := 1000) (b := (2 ^ 63 - 1 : Int)) (by omega : 0 < n)).mpr (by omega)
      omega
    · intro a1 a2
      unfold PySem.Builtin.Str.tooLong
      refine decide_eq_false ?_
      have : (1000000 : Nat) ≤ sizeLine := by decide
      omega
    · unfold repS at q
      by_cases c1 : n < 1
      · rw [if_pos c1] at q ⊢
        exact ⟨by decide, .str _, H, I.tok _, ⟨_, rfl⟩, q⟩
      · rw [if_neg c1] at q ⊢
        split
        · rename_i c2; rw [if_pos c2] at q; exact ⟨.str _, H, I, ⟨_, rfl⟩, q⟩
        · rename_i c2; rw [if_neg c2] at q
          refine ⟨?_, .str _, H, I.tok _, ⟨_, rfl⟩, q⟩
          show Array.size _ ≤ _
          rw [foldl_size]
          have : (1000000 : Nat) ≤ sizeLine := by decide
          have e2 : n.toNat * z.cps.size = z.length * n.toNat := Nat.mul_comm _ _
          rw [e2]; simp; omega
  ok := by
    intro x y d e c Z H Q s hx hy hg p
    unfold dMulT at hg
    split at hg
    · split at hg
      · rename_i hl
        cases hx; cases hy; cases hg
        exact ⟨_, _, rfl, rfl, hl.1, hl.2.1, hl.2.2, p _ Z H (ExtP.refl s) (.str _)⟩
      · cases hg
    · cases hg
/-! calls without arguments -/
theorem pe_call00 {k : Nat} {f : Addr} {fd : FuncData} {sp : Sp} {E : L2.St → XK} {x : Str} {p pos : Pos} {CX : CXT} (F : FnOk X.prog X.w X.K X.mg X.base CX k f fd [] sp) (hr : Room k X.A) (hg : Gl X x) (hm : X.mg x = some (.ref f)) (hk : PySem.W.keepIn X.K (.ref f) = true)
    (hb : Binds X.K fd [] []) (hx : ∀ σ, PassesAt CX X σ (E σ)) (hdb : (x == ("__debug__" : Str)) = false := by decide) : PE X (.Call (.Name x p) [] [] pos) (tCallS sp E tNil) := ⟨by
  intro pins s σ H Q I h
  refine wpAny_Call_Name_kw (ld_glob I hg hm ?_ hdb)
  exact PySem.W.callWith_K0 I.kIn hk (run_fnS (us := []) F hr hb (hx σ) I .nil h)⟩
theorem de_call0A {W : WX} {k : Nat} {f : MA} {fa : Addr} {fd : FuncData} {x : Str} {p pos : Pos} (F : FnOk X.prog X.w K X.mg X.base (L2.CX X.prog X.w) k fa fd [] (spA K 0 f)) (hr : Room k X.A) (tk : Takes X W) (hm : X.mg x = some (.ref fa)) (hk : PySem.W.keepIn K (.ref fa) = true) (hb : Binds K fd [] [])
    (ha : DA K X W [] tNil aNil) (hg : Gl X x := by rfl) (hdb : (x == ("__debug__" : Str)) = false := by decide) : DE K X W (.Call (.Name x p) [] [] pos) (tCallS (spA K 0 f) (fun σ => WE W σ) tNil) (mCallA 0 f aNil) := by
  have k := ha.k
  subst k
  exact ⟨rfl, pe_call00 F hr hg hm hk hb (fun σ => passAt tk σ) hdb, so_callA ha.so⟩
theorem de_call0B {W : WX} {k : Nat} {f : List DV → List O → Option (Rs DV)} {fa : Addr} {fd : FuncData} {x : Str} {p pos : Pos} (F : FnOk X.prog X.w K X.mg X.base (L2.CX X.prog X.w) k fa fd [] (spB K 0 f)) (hr : Room k X.A) (tk : Takes X W) (hm : X.mg x = some (.ref fa)) (hk : PySem.W.keepIn K (.ref fa) = true) (hb : Binds K fd [] [])
    (ha : DA K X W [] tNil aNil) (hg : Gl X x := by rfl) (hdb : (x == ("__debug__" : Str)) = false := by decide) : DE K X W (.Call (.Name x p) [] [] pos) (tCallS (spB K 0 f) (fun σ => WE W σ) tNil) (mCallB 0 f aNil) := by
  have k := ha.k
  subst k
  exact ⟨rfl, pe_call00 F hr hg hm hk hb (fun σ => passAt tk σ) hdb, so_callB ha.so⟩
theorem nm_of {x : Str} {c : Addr} (hm : X.mg x = some (.ref c)) (hg : Gl X x := by rfl) (hdb : (x == ("__debug__" : Str)) = false := by decide) : Names X x (.ref c) := ⟨hg, hdb, .inl hm⟩
end
end DL
namespace DL
open PySem L2 PyProof.Rows
/-! any text in a dict of the module whose keys are texts -/
def kStr : Value → Option Str
  | .str x _ => some x
  | _ => none
theorem kStr_eq {v : Value} {x : Str} (h : kStr v = some x) : ∃ t, v = .str x t := by
  cases v <;> first | (cases h; exact ⟨_, rfl⟩) | cases h
theorem find_miss : ∀ {es : List DictEntry} {ks : List Str}, es.map (fun e => kStr e.key) = ks.map some → ∀ z, z ∉ ks → es.find? (·.key.isStr z) = none ∧ es.any (·.refKey) = false
  | [], [], _, z, _ => ⟨rfl, rfl⟩
  | [], _ :: _, h, _, _ => by cases h
  | _ :: _, [], h, _, _ => by cases h
  | e :: es, k :: ks, h, z, hz => by
    have h1 : kStr e.key = some k := (List.cons.inj h).1
    obtain ⟨i1, i2⟩ := find_miss (List.cons.inj h).2 z (fun m => hz (by simp [m]))
    obtain ⟨t, e1⟩ := kStr_eq h1
    have ne : k ≠ z := fun q => hz (by simp [q])
    have e2 : e.key.isStr z = false := by
      rw [e1]
      show (k == z) = false
      simpa using ne
    have e3 : e.refKey = false := by
      unfold DictEntry.refKey
      rw [e1]
    exact ⟨by rw [List.find?_cons, e2]; exact i1, by rw [List.any_cons, e3, i2]; rfl⟩
structure GInA (K : PySem.W.Frag) (w : World) (mg : Str → Option Value) (x : Str) (keys : List Str) where
  a : Addr
  m : mg x = some (.ref a)
  all : ∀ z, KIn K w a z (decide (z ∈ keys))
theorem gina {K : PySem.W.Frag} {w : World} {a : Addr} {es : Array DictEntry} {n : Nat} {keys : List Str} (hl : K.lookup a = some ⟨.type "dict", none, .dict es n, #[]⟩) (hk : PySem.W.KeysLit w.params es.toList) (lo : (a == sysModules) = false)
    (ha : ∀ z, z ∈ keys → KIn K w a z true) (hs : es.toList.map (fun e => kStr e.key) = keys.map some) (z : Str) : KIn K w a z (decide (z ∈ keys)) := by
  by_cases h : z ∈ keys
  · rw [decide_eq_true h]; exact ha z h
  · rw [decide_eq_false h]
    obtain ⟨f1, f2⟩ := find_miss hs z h
    refine ⟨es, n, none, hl, hk, lo, ?_, rfl⟩
    unfold PySem.W.nsIn
    rw [hl]
    dsimp only
    rw [f1, f2]
    rfl
def inKdA (keys : List Str) : D → EM
  | .str z => fun s => some (.ok (.p (.bl (decide (z ∈ keys)))) s.m)
  | _ => fun _ => none
def mInKdA (keys : List Str) (m : EM) : EM := bnd m (pur (inKdA keys))
section
variable {K : PySem.W.Frag} {X : Cx} {W : WX} {e : Expr} {pos p : Pos} {te : TE} {m : EM} {mg : Str → Option Value} {w : World} {x : Str} {keys : List Str}
theorem so_inKdA (g : GInA K w mg x keys) (h : Sound K W (RepV K) te m) : Sound K W (RepV K) (tOp (rInKd K w false) te (tC (.ref g.a))) (mInKdA keys m) := ⟨fun σ H s Z I r0 Q w0 rs e1 p1 => by
  refine h.bnd w0 rs e1 p1.x fun d v M1 Z1 H1 I1 w1 rs1 x1 q1 e2 => ?_
  obtain ⟨d, rfl, e2⟩ := pur_ok e2
  cases d with
  | str z =>
    have q1 : Rep K Z1 v (.str z) := q1
    cases q1
    cases e2
    exact ⟨g.a, z, _, rfl, rfl, g.all z, PostP.of w1 (p1.mono x1) _ Z1 H1 (ExtP.refl w1.sub) (.bl _)⟩
  | _ => cases e2⟩
theorem de_inKdA (g : GInA K w mg x keys) (h : DE K X W e te m) (hm : X.mg = mg := by rfl) (hw : X.w = w := by rfl) (hg : Gl X x := by rfl) (hd : (x == ("__debug__" : Str)) = false := by decide) (hb : behindInMarks .In (.Name x p) = false := by first | exact nomark _ | rfl) :
    DE K X W (.Compare e [.In] [.Name x p] pos) (tOp (rInKd K w false) te (tC (.ref g.a))) (mInKdA keys m) := by
  subst hm hw
  refine ⟨h.k, ?_, so_inKdA g h.so⟩
  have q := pe_cmpR (X := X) (pos := pos) op_inKd h.pe (pe_glob (v := .ref g.a) (pos := p) hg g.m rfl hd) hb
  rw [h.k] at q
  exact q
theorem inKdA_bool : ∀ s r, mInKdA keys m s = some r → ∀ v M, r = .ok v M → ∃ b, v = .p (.bl b) := by
  intro s r h v M e
  subst e
  obtain ⟨d, M1, _, h2⟩ := bnd_ok h
  obtain ⟨d, rfl, h2⟩ := pur_ok h2
  cases d with
  | str z => cases h2; exact ⟨_, rfl⟩
  | _ => cases h2
theorem dt_inKdA (g : GInA K w mg x keys) (h : DE K X W e te m) (hm : X.mg = mg := by rfl) (hw : X.w = w := by rfl) (hg : Gl X x := by rfl) (hd : (x == ("__debug__" : Str)) = false := by decide) (hb : behindInMarks .In (.Name x p) = false := by first | exact nomark _ | rfl) :
    DT K X W (.Compare e [.In] [.Name x p] pos) (tTest (tOp (rInKd K w false) te (tC (.ref g.a)))) (mInKdA keys m) := by
  subst hm hw
  refine ⟨h.k, ?_, so_test (so_inKdA g h.so) inKdA_bool⟩
  have q := pt_cmpR (X := X) (pos := pos) op_inKd h.pe (pe_glob (v := .ref g.a) (pos := p) hg g.m rfl hd) hb
  rw [h.k] at q
  exact q
end
/-! a pair as a suite's value -/
theorem ExcAt.mono {K : PySem.W.Frag} {Z H Z' H' : Hp} {d : Option Addr} {fs : List (Str × D)} (x : ExtP Z H Z' H') (h : ExcAt K Z H d fs) : ExcAt K Z' H' d fs := by
  rcases h with h | ⟨a, vs, h1, h2, h3⟩
  · exact .inl h
  · exact .inr ⟨a, vs, h1, x.h _ _ h2, paired_imp (fun _ _ q => ⟨q.1, q.2.mono x.z⟩) h3⟩
def xPair (m n : Addr → List (Str × D) → Option D) : Addr → List (Str × D) → Option D := fun c fs => match m c fs, n c fs with
  | some x, some y => some (.tup [x, y])
  | _, _ => none
section
variable {K : PySem.W.Frag} {X : Cx} {e1 e2 : Expr} {i : Nat} {pos : Pos} {m n : Addr → List (Str × D) → Option D}
theorem dex_pair {x1} (h1 : DEX K X i e1 m) (h2 : DEX K X i e2 n) (s1 : starEach [e1, e2] X.env = (false, eval e1 X.env) :: starEach [e2] X.env := by rfl) (s2 : starEach [e2] X.env = (false, eval e2 X.env) :: starEach [] X.env := by rfl) :
    DEX K X i (.Tuple [e1, e2] x1 pos) (xPair m n) := by
  obtain ⟨t, ⟨k, hs⟩, ht⟩ := h1.ex
  obtain ⟨u, ⟨_, hs2⟩, hu⟩ := h2.ex
  refine ⟨fun a cls d => tTup (tCons (t a cls d) (tCons (u a cls d) tNil)), ⟨k, fun a oe cls d pn z f => pe_tup (pa_cons (hs a oe cls d pn z f) (pa_cons (hs2 a oe cls d pn z f) pa_nil s2) s1)⟩, ⟨fun a c d fs σ H Z y Q ne sub hi ea hm q => ?_⟩⟩
  unfold xPair at hm
  cases y1 : m c fs with
  | none => rw [y1] at hm; cases hm
  | some v1 =>
    rw [y1] at hm
    cases y2 : n c fs with
    | none => rw [y2] at hm; cases hm
    | some v2 =>
      rw [y2] at hm
      cases hm
      refine ht.ok a c d fs σ H Z v1 _ ne sub hi ea y1 fun w1 Z1 H1 x1 r1 => ?_
      refine hu.ok a c d fs σ H1 Z1 v2 _ ne x1.sub hi (ea.mono x1) y2 fun w2 Z2 H2 x2 r2 => ?_
      refine ⟨by simp [sizeLine_eq], fun l hl => ?_⟩
      have y := ExtP.new (o := .tup [w1, w2]) x2.sub hl
      exact q _ _ _ ((x1.trans x2).trans y) (.tup upd_same (.cons (r1.mono (x2.z.trans y.z)) (.cons (r2.mono y.z) .nil)))
end
end DL
namespace DL
open PySem PySem.Spec PyProof.Rows L2 LamX NdefX
/-! ### cells that are held still for a call, or let go for one -/
def without (H : Hp) (cs : Addr → Option Obj) : Hp := fun b => if (cs b).isSome then none else H b
def withC (H : Hp) (cs : Addr → Option Obj) : Hp := fun b => match cs b with
  | some o => some (cellO o)
  | none => H b
theorem without_in {H : Hp} {cs : Addr → Option Obj} {b : Addr} {o : Obj} (h : cs b = some o) : without H cs b = none := by unfold without; rw [h]; rfl
theorem without_out {H : Hp} {cs : Addr → Option Obj} {b : Addr} (h : cs b = none) : without H cs b = H b := by unfold without; rw [h]; rfl
theorem withC_in {H : Hp} {cs : Addr → Option Obj} {b : Addr} {o : Obj} (h : cs b = some o) : withC H cs b = some (cellO o) := by unfold withC; rw [h]
theorem withC_out {H : Hp} {cs : Addr → Option Obj} {b : Addr} (h : cs b = none) : withC H cs b = H b := by unfold withC; rw [h]
section
variable {P : Program} {w : World} {H H' : Hp} {h : Heap} {cs : Addr → Option Obj}
/-- only what is an object's own dict is looked up elsewhere -/
theorem prd_imp {α β : Type} {R S : α → β → Prop} (h : ∀ a b, R a b → S a b) : ∀ {xs : List α} {ys : List β}, Paired R xs ys → Paired S xs ys
  | _, _, .nil => .nil
  | _, _, .cons p r => .cons (h _ _ p) (prd_imp h r)
theorem objOk_of (hk : ∀ b C, H b = some (.own C) → H' b = some (.own C)) (ht : ∀ b xs, H b = some (.tup xs) → H' b = some (.tup xs)) {a : Addr} : ∀ {x : HO}, ObjOk P w H h a x → ObjOk P w H' h a x
  | .dT _, ⟨q1, q2, xs, q3, q4⟩ => ⟨q1, q2, xs, prd_imp (fun _ _ ⟨p1, p2, p3⟩ => ⟨p1, ht _ _ p2, p3⟩) q3, q4⟩
  | .lst _, q => q | .tup _, q => q | .dK _, q => q | .set _ _, q => q | .own _, q => q | .xd _, q => q | .met _ _, q => q | .rng _ _, q => q | .tbl _, q => q | .ext _, q => q
  | .ins _ _ _, q => ⟨hk _ _ q.1, q.2⟩
  | .frz o u, q => ⟨q.1, objOk_of hk ht (x := u) q.2⟩
theorem hok_without (hk : HOk P w H h) (hc : ∀ b o, cs b = some o → H b = some (cellO o)) : HOk P w (without H cs) h := fun a x e => by
  cases q : cs a with
  | some o => rw [without_in q] at e; cases e
  | none =>
    rw [without_out q] at e
    refine objOk_of (fun b C z => ?_) (fun b C z => ?_) (hk a x e)
    all_goals
      cases r : cs b with
      | some o => rw [hc b o r] at z; cases z
      | none => rw [without_out r]; exact z
theorem hok_withC (hk : HOk P w H h) (hc : ∀ b o, cs b = some o → H b = none ∧ h.get? b = some o) : HOk P w (withC H cs) h := fun a x e => by
  cases q : cs a with
  | some o =>
    rw [withC_in q] at e
    cases e
    exact ⟨(hc a o q).2, _, (hc a o q).2⟩
  | none =>
    rw [withC_out q] at e
    refine objOk_of (fun b C z => ?_) (fun b C z => ?_) (hk a x e)
    all_goals
      cases r : cs b with
      | some o => rw [(hc b o r).1] at z; cases z
      | none => rw [withC_out r]; exact z
end
section
variable {P : Program} {w : World} {H : Hp} {cs : Addr → Option Obj} {outer : List Env} {s s' : Shared} {Q : VK} {u : Value}
/-- cells held still for the call -/
theorem ce_with (hc : ∀ b o, cs b = some o → H b = none ∧ s.heap.get? b = some o) (c : CE outer P w (withC H cs) s (fun v H' => (∀ b o, cs b = some o → H' b = some (cellO o)) → Q v (without H' cs)) u s') : CE outer P w H s Q u s' := by
  obtain ⟨v, H', os, br, un, hk, rv, q⟩ := c
  have st : ∀ b o, cs b = some o → H' b = some (cellO o) := fun b o e => un.frzs b o _ (withC_in e)
  have sh : ∀ b o, cs b = some o → s'.heap.get? b = some o := fun b o e => (hk b _ (st b o e)).1
  refine ⟨v, without H' cs, os, br, ⟨fun b o e n f x => ?_, fun b o e n f x => ?_, fun b o e n x => ?_, fun b o e x => un.there b o e x, fun b xs e => ?_, fun b o x e => ?_, fun b ps e => ?_⟩, hok_without hk st, rv, q st⟩
  · cases q : cs b with
    | some o' =>
      have := (hc b o' q).2
      rw [e] at this; cases this
      exact sh b o q
    | none => exact un.keep b o e (by rw [withC_out q]; exact n) f x
  · cases q : cs b with
    | some o' =>
      have := (hc b o' q).2
      rw [e] at this; cases this
      exact ⟨o.slots, sh b o q⟩
    | none => exact un.slot b o e (by rw [withC_out q]; exact n) f x
  · cases q : cs b with
    | some o' => exact without_in q
    | none => rw [without_out q]; exact un.free b o e (by rw [withC_out q]; exact n) x
  · cases q : cs b with
    | some o' => rw [(hc b o' q).1] at e; cases e
    | none => rw [without_out q]; exact un.tups b xs (by rw [withC_out q]; exact e)
  · cases q : cs b with
    | some o' => rw [(hc b o' q).1] at e; cases e
    | none => rw [without_out q]; exact un.frzs b o x (by rw [withC_out q]; exact e)
  · cases q : cs b with
    | some o' => rw [(hc b o' q).1] at e; cases e
    | none =>
      rw [without_out q]; exact un.tbls b ps (by rw [withC_out q]; exact e)
/-- cells let go for the call -/
theorem ce_without (hk0 : HOk P w H s.heap) (hf : ∀ b ∈ frs outer, H b = none) (hc : ∀ b o, cs b = some o → H b = some (cellO o)) (c : CE outer P w (without H cs) s (fun v H' => (∀ b o, cs b = some o → H' b = none) → Q v (withC H' cs)) u s') : CE outer P w H s Q u s' := by
  obtain ⟨v, H', os, br, un, hk, rv, q⟩ := c
  have s0 : ∀ b o, cs b = some o → s.heap.get? b = some o := fun b o e => (hk0 b _ (hc b o e)).1
  have nf : ∀ b o, cs b = some o → ¬ b ∈ frs outer := fun b o e z => by have := hc b o e; rw [hf b z] at this; cases this
  have sh : ∀ b o, cs b = some o → H' b = none ∧ s'.heap.get? b = some o := fun b o e => ⟨un.free b o (s0 b o e) (without_in e) (by simp), un.keep b o (s0 b o e) (without_in e) (nf b o e) (by simp)⟩
  refine ⟨v, withC H' cs, os, br, ⟨fun b o e n f x => ?_, fun b o e n f x => ?_, fun b o e n x => ?_, fun b o e x => un.there b o e x, fun b xs e => ?_, fun b o x e => ?_, fun b ps e => ?_⟩, hok_withC hk sh, rv, q fun b o e => (sh b o e).1⟩
  · cases q : cs b with
    | some o' => rw [hc b o' q] at n; cases n
    | none => exact un.keep b o e (by rw [without_out q]; exact n) f x
  · cases q : cs b with
    | some o' => rw [hc b o' q] at n; cases n
    | none => exact un.slot b o e (by rw [without_out q]; exact n) f x
  · cases q : cs b with
    | some o' => rw [hc b o' q] at n; cases n
    | none => rw [withC_out q]; exact un.free b o e (by rw [without_out q]; exact n) x
  · cases q : cs b with
    | some o' => rw [hc b o' q] at e; cases e
    | none => rw [withC_out q]; exact un.tups b xs (by rw [without_out q]; exact e)
  · cases q : cs b with
    | some o' =>
      rw [hc b o' q] at e
      cases e
      exact withC_in q
    | none => rw [withC_out q]; exact un.frzs b o x (by rw [without_out q]; exact e)
  · cases q : cs b with
    | some o' => rw [hc b o' q] at e; cases e
    | none => rw [withC_out q]; exact un.tbls b ps (by rw [without_out q]; exact e)
end
end DL
namespace DL
open PySem PySem.Spec PyProof.Rows L2 LamX NdefX
/-! ### data without closures -/
mutual
def noClo : D → Bool
  | .clo _ _ => false
  | .lst xs => noClos xs
  | .tup xs => noClos xs
  | .ktup xs => noClos xs
  | .klst xs => noClos xs
  | .scr xs => noClos xs
  | .dK _ => false
  | .dT _ => false
  | .non => true | .bl _ => true | .int _ => true | .str _ => true | .fn _ => true | .ty _ => true | .rng _ _ => true
def noClos : List D → Bool
  | [] => true
  | d :: r => noClo d && noClos r
end
section
variable {K : PySem.W.Frag} {Z Z' : Hp}
theorem seq_keep (e : ∀ b x, Z b = some x → (∀ o, x ≠ cellO o) → Z' b = some x) {a : Addr} {xs : List V} (h : SqL K Z a xs) : SqL K Z' a xs := by
  rcases h with (h | ⟨o, h⟩) | h
  · exact .inl (.inl (e _ _ h fun o z => by cases z))
  · exact .inl (.inr ⟨o, e _ _ h fun o z => by cases z⟩)
  · exact .inr h
mutual
/-- what is no cell is kept: so is what stands for data -/
theorem Rep.keep (e : ∀ b x, Z b = some x → (∀ o, x ≠ cellO o) → Z' b = some x) : ∀ {v : V} {d : D}, noClo d = true → Rep K Z v d → Rep K Z' v d
  | _, _, _, .non => .non
  | _, _, _, .bl b => .bl b
  | _, _, _, .int i => .int i
  | _, _, _, .str x => .str x
  | _, _, n, .lst h r => .lst (by
    rcases h with h | ⟨o, h⟩
    · exact .inl (e _ _ h fun o z => by cases z)
    · exact .inr ⟨o, e _ _ h fun o z => by cases z⟩) (RepA.keep e (by simpa [noClo] using n) r)
  | _, _, n, .tup h r => .tup (e _ _ h fun o z => by cases z) (RepA.keep e (by simpa [noClo] using n) r)
  | _, _, n, .ktup h r => .ktup (by
    rcases h with (h | ⟨o, h⟩) | h
    · exact .inl (.inl (e _ _ h fun o z => by cases z))
    · exact .inl (.inr ⟨o, e _ _ h fun o z => by cases z⟩)
    · exact .inr h) (RepA.keep e (by simpa [noClo] using n) r)
  | _, _, n, .klst h r => .klst (seq_keep e h) (RepA.keep e (by simpa [noClo] using n) r)
  | _, _, _, .fn a => .fn a
  | _, _, _, .ty n => .ty n
  | _, _, _, .rng h => .rng (e _ _ h fun o z => by cases z)
  | _, _, n, .scr h r => .scr (seq_keep e h) (RepA.keep e (by simpa [noClo] using n) r)
  | _, _, n, .clo _ _ => by simp [noClo] at n
  | _, _, n, .dK _ _ => by simp [noClo] at n
  | _, _, n, .dT _ _ => by simp [noClo] at n
theorem RepA.keep (e : ∀ b x, Z b = some x → (∀ o, x ≠ cellO o) → Z' b = some x) : ∀ {v : List V} {d : List D}, noClos d = true → RepA K Z v d → RepA K Z' v d
  | _, _, _, .nil => .nil
  | _, _, n, .cons h r => by
    have n : (noClo _ && noClos _) = true := n
    rw [Bool.and_eq_true] at n
    exact .cons (Rep.keep e n.1 h) (RepA.keep e n.2 r)
end
end
end DL
namespace DL
open PySem PySem.Spec PyProof.Rows L2 LamX NdefX
/-! ### the promise of a lambda that captures: its mirror takes the arguments and what is captured -/
def spW (K : PySem.W.Frag) (n : Nat) (m : MA) (ws : List (Option V)) : Sp := fun vs H Q _ => vs.length = n ∧ ∃ Z ds cvs cs r, Same Z H ∧ RepA K Z vs ds ∧ ws = cvs.map some ∧ RepA K Z cvs cs ∧ m (ds ++ cs) = some (.ok r) ∧ PostP K Z H r Q
theorem repA_app {K : PySem.W.Frag} {Z : Hp} : ∀ {vs ws : List V} {ds cs : List D}, RepA K Z vs ds → RepA K Z ws cs → RepA K Z (vs ++ ws) (ds ++ cs)
  | _, _, _, _, .nil, h => h
  | _, _, _, _, .cons h r, q => .cons h (repA_app r q)
section
variable {P : Program} {w : World} {K : PySem.W.Frag} {mg : Str → Option Value} {base : Heap} {N ps fr : List Str} {F : NF} {f : Addr} {k : Nat} {body : Expr} {em : EM}
theorem lamC (S : NScope N ps fr F.scope) (hb : ∀ (pm ctv : Value) (us : List Value), us.length = ps.length → bindArgs (PySem.W.kla_fn F.name F.qual F.params body F.scope F.cl pm (.ref F.c) ctv) ⟨us, []⟩ = pure (ps.zip us))
    (hbody : ∀ (A : Around) (outer : List Env) (s : Shared) (H : Hp) (E : XK), Room k (A.deeper (envF F f s.heap.objs.size)) → ∃ t, DE K (ncx (L2.CX P w) P w K mg base N F f A outer s H E) WF body t em) :
    LOk P w K mg base (L2.CX P w) (k + 1) f F body ps fr (fun ws => spW K ps.length (lamK N.length em) ws) := by
  refine lok_of S hb (fun ws vs H Q E h => h.1) fun A outer s H vs ws Q E hr hl hsp => ?_
  obtain ⟨hl2, Z, ds, cvs, cs, r, sub, rp, rfl, rc, e, q⟩ := hsp
  obtain ⟨t, b⟩ := hbody A outer s H E hr
  refine ⟨t, b.pe, ?_⟩
  have w0 : Wf K Z H [] [] := ⟨sub, rfl, List.nodup_nil, (by simp), fun n a o h => by simp at h⟩
  have es : startF N vs (cvs.map some) = L2.start N (vs ++ cvs) := by
    unfold startF L2.start
    simp [List.append_assoc, Nat.sub_sub]
  rw [es]
  unfold lamK at e
  cases z : em ⟨slotsOf N.length ((ds ++ cs).map .p), []⟩ with
  | none => rw [z] at e; cases e
  | some r0 =>
    rw [z] at e
    cases r0 with
    | ex c fs M => cases e
    | ok d M =>
      cases d with
      | o n => cases e
      | p d =>
        cases e
        refine b.so.ok (L2.start N (vs ++ cvs)) H _ Z [] _ _ w0 (start_rep (allP_map (repA_app rp rc))) z fun v Z' H' I' w' x' r' => ?_
        exact q v Z' H' ⟨x'.z, fun a o q => x'.fr a o q (by simp), w'.sub, fun a q => by
          rcases x'.zn a q with k | k | k
          · exact .inl k
          · exact .inr k
          · cases k⟩ r'
end
/-! ### the call of a closure -/
/-- the cells of a closure, as Z knows them -/
def cellsOf (Z : Hp) (cl : List (Str × Addr)) : Addr → Option Obj := fun b => if b ∈ cl.map (·.2) then (match Z b with
  | some (.frz o (.own 0)) => some o
  | _ => none) else none
theorem cellsOf_z {Z : Hp} {cl : List (Str × Addr)} {b : Addr} {o : Obj} (h : cellsOf Z cl b = some o) : Z b = some (cellO o) := by
  unfold cellsOf at h
  split at h
  · split at h
    · rename_i e
      cases h
      exact e
    · cases h
  · cases h
theorem look_mem {α β : Type} [BEq α] [LawfulBEq α] {y : α} {b : β} : ∀ {l : List (α × β)}, l.lookup y = some b → (y, b) ∈ l
  | [], h => by cases h
  | (z, c) :: r, h => by
    rw [List.lookup_cons] at h
    cases q : y == z with
    | true =>
      rw [q] at h
      cases h
      rw [eq_of_beq q]
      exact .head _
    | false =>
      rw [q] at h
      exact .tail _ (look_mem h)
theorem cellsOf_of {Z : Hp} {cl : List (Str × Addr)} {y : Str} {b : Addr} {o : Obj} (h : cl.lookup y = some b) (e : Z b = some (cellO o)) : cellsOf Z cl b = some o := by
  have hm : b ∈ cl.map (·.2) := List.mem_map.mpr ⟨(y, b), look_mem h, rfl⟩
  unfold cellsOf
  rw [if_pos hm, e]
  rfl
/-- what a lambda of the text does, wherever it was made -/
def CloOk (P : Program) (w : World) (K : PySem.W.Frag) (mg : Str → Option Value) (base : Heap) (k n : Nat) (L : LamS) (m : MA) : Prop :=
  ∃ ps : List Str, ps.length = n ∧ ∀ a c cl, LOk P w K mg base (L2.CX P w) k a (L.nf cl c) L.body ps L.fr (fun ws => spW K n m ws)
section
variable {X : Cx} {pins : List (Addr × Obj)} {σ : L2.St} {H : Hp} {s : Shared}
theorem run_clo {k n : Nat} {L : LamS} {m : MA} {a c : Addr} {cl : List (Str × Addr)} {cvs vs : List V} {us : List Value} {ds cs : List D} {r : D} {Z : Hp} {Q : VK} (F : CloOk X.prog X.w X.K X.mg X.base k n L m) (hr : Room k X.A) (I : L2.Inv X pins σ H s)
    (C : CloAt Z L a c cl cvs) (sub : Same Z H) (rv : Vals vs us) (hn : vs.length = n) (rd : RepA X.K Z vs ds) (nd : noClos ds = true) (rc : RepA X.K Z cvs cs) (nc : noClos cs = true) (e : m (ds ++ cs) = some (.ok r)) (nr : noClo r = true) (p : PostP X.K Z H r Q) :
    wpAny (model X.prog X.w) X.A (call (.ref a) us) (EP X pins σ Q) X.xe s := by
  obtain ⟨ps, hps, F⟩ := F
  have E0 := I.env0
  have hz : ∀ b o, cellsOf Z cl b = some o → H b = some (cellO o) := fun b o q => sub b _ (cellsOf_z q)
  have hkp : ∀ b x, Z b = some x → (∀ o, x ≠ cellO o) → without Z (cellsOf Z cl) b = some x := fun b x q n => by
    rw [without_out ?_]
    · exact q
    · cases z : cellsOf Z cl b with
      | none => rfl
      | some o =>
        have := cellsOf_z z
        rw [q] at this
        exact absurd (Option.some.inj this) (n o)
  have hkh : ∀ b x, H b = some x → (∀ o, x ≠ cellO o) → without H (cellsOf Z cl) b = some x := fun b x q n => by
    rw [without_out ?_]
    · exact q
    · cases z : cellsOf Z cl b with
      | none => rfl
      | some o =>
        have := hz b o z
        rw [q] at this
        exact absurd (Option.some.inj this) (n o)
  have e0 : Env0 X.prog X.w X.K X.mg X.base X.A X.stack s (without H (cellsOf Z cl)) := ⟨E0.frames, E0.mod, fun b o q => ⟨(E0.bs b o q).1, by
      cases z : cellsOf Z cl b with
      | some o' => exact without_in z
      | none => rw [without_out z]; exact (E0.bs b o q).2⟩, E0.bsz, E0.funs, fun b q => by
      cases z : cellsOf Z cl b with
      | some o' => exact without_in z
      | none => rw [without_out z]; exact E0.frf b q, hok_without E0.hok hz, E0.bare⟩
  have hf : without H (cellsOf Z cl) a = some (LamO a (L.nf cl c) L.body) := hkh a _ (sub _ _ C.fn) fun o z => by cases z
  have hc : without H (cellsOf Z cl) c = some (CodeO c L.nm) := hkh c _ (sub _ _ C.code) fun o z => by cases z
  have CA : CellsAt cl L.fr (cvs.map some) s.heap (without H (cellsOf Z cl)) := ⟨by rw [List.length_map]; exact C.len, fun y b q => by
      obtain ⟨o, v, h1, h2⟩ := C.all y b q
      have z := cellsOf_of q h1
      exact ⟨without_in z, v, o, (E0.hok b _ (sub _ _ h1)).1, h2⟩, C.inj, fun i y q => by
      obtain ⟨b, o, v, u, h1, h2, h3, h4, h5⟩ := C.has i y q
      refine ⟨b, h1, fun v' hv => ?_⟩
      rw [List.getElem?_map, h4] at hv
      cases hv
      exact ⟨u, h5, o, (E0.hok b _ (sub _ _ h2)).1, h3⟩⟩
  refine wpAny_call (codeAny_mono ((F a c cl).run X.A X.stack s (without H (cellsOf Z cl)) us vs (cvs.map some) (fun v H' => (∀ b o, cellsOf Z cl b = some o → H' b = none) → Q v (withC H' (cellsOf Z cl))) (fun _ _ _ => False) hr e0 hf hc CA rv ?_) fun rr s' hq => ?_)
  · refine ⟨hn, without Z (cellsOf Z cl), ds, cvs, cs, r, fun b x q => ?_, RepA.keep hkp nd rd, rfl, RepA.keep hkp nc rc, e, fun v Z' H' x rv' hH => ?_⟩
    · cases z : cellsOf Z cl b with
      | some o => rw [without_in z] at q; cases q
      | none => rw [without_out z] at q ⊢; exact sub b x q
    · have hZ' : ∀ b o, cellsOf Z cl b = some o → Z' b = none := fun b o z => by
        cases y : Z' b with
        | none => rfl
        | some x' =>
          have := x.sub b x' y
          rw [hH b o z] at this
          cases this
      refine p v (withC Z' (cellsOf Z cl)) (withC H' (cellsOf Z cl)) ⟨fun b x' q => ?_, fun b x' q => ?_, fun b x' q => ?_, fun b q => ?_⟩ (rv'.mono fun b x' q => ?_)
      · cases z : cellsOf Z cl b with
        | some o => rw [withC_in z, ← cellsOf_z z]; exact q
        | none => rw [withC_out z]; exact x.z b x' (by rw [without_out z]; exact q)
      · cases z : cellsOf Z cl b with
        | some o => rw [withC_in z, ← hz b o z]; exact q
        | none => rw [withC_out z]; exact x.h b x' (by rw [without_out z]; exact q)
      · cases z : cellsOf Z cl b with
        | some o => rw [withC_in z] at q ⊢; exact q
        | none => rw [withC_out z] at q ⊢; exact x.sub b x' q
      · cases z : cellsOf Z cl b with
        | some o => exact .inl (by rw [cellsOf_z z]; simp)
        | none =>
          rw [withC_out z] at q
          rcases x.zn b q with g | g
          · rw [without_out z] at g; exact .inl g
          · rw [without_out z] at g; exact .inr g
      · cases z : cellsOf Z cl b with
        | some o => rw [hZ' b o z] at q; cases q
        | none => rw [withC_out z]; exact q
  · cases rr with
    | error e' =>
      obtain ⟨a', B, H', cls, d, h1, h2, h3, h4, h5, h6, h7, h8⟩ := hq
      exact h8.elim
    | ok fl =>
      cases fl with
      | ret u => exact I.after (ce_without E0.hok E0.frf hz hq)
      | _ => exact hq.elim
end
end DL
namespace DL
open PySem PySem.Spec PyProof.Rows L2 LamX NdefX
/-! ### the call of a local that holds a closure -/
open Classical in
/-- the mirror of a lambda: told by its number, then known to be the same -/
noncomputable def tbm : List (LamS × MA) → LamS → Option MA
  | [], _ => none
  | (L0, m) :: r, L => if L0.ix = L.ix then (if L0 = L then some m else none) else tbm r L
def cloA (m : MA) (cs : List D) (n : Nat) : List DV → Mi DV := fun ds s => if ds.length = n then match allP ds with
  | some xs => if noClos xs then match m (xs ++ cs) with
    | some (.ok d) => if noClo d then some (.ok (.p d) s.m) else none
    | _ => none
    else none
  | none => none else none
noncomputable def mCallC (i n : Nat) (tb : List (LamS × MA)) (ms : AM) : EM := fun s => match gv s.l i with
  | some (.p (.clo L cs)) => match tbm tb L with
    | some m => if noClos cs then bnd ms (cloA m cs n) s else none
    | none => none
  | _ => none
def spC (K : PySem.W.Frag) (n : Nat) (tb : List (LamS × MA)) (a : Addr) : List V → Hp → VK → Prop := fun vs H Q => ∃ L m c cl cvs ds cs r Z, tbm tb L = some m ∧ CloAt Z L a c cl cvs ∧ Same Z H ∧ vs.length = n ∧ RepA K Z vs ds ∧ noClos ds = true ∧ RepA K Z cvs cs ∧ noClos cs = true ∧ m (ds ++ cs) = some (.ok r) ∧ noClo r = true ∧ PostP K Z H r Q
def tCallC (K : PySem.W.Frag) (i n : Nat) (tb : List (LamS × MA)) (t : TA) : TE := fun σ H Q => ∃ a, σ[i]? = some (some (.ref a)) ∧ (∃ F b, H a = some (LamO a F b)) ∧ t σ H fun vs H2 => (∃ F b, H2 a = some (LamO a F b)) ∧ spC K n tb a vs H2 Q
theorem lam_fnAt {P : Program} {w : World} {H : Hp} {h : Heap} {a : Addr} (hk : HOk P w H h) (e : ∃ F b, H a = some (LamO a F b)) : PySem.W.FnAt a h := by
  obtain ⟨F, b, e⟩ := e
  obtain ⟨od, sl, pm, ctv, ho⟩ := lamO_at hk e
  exact ⟨_, _, _, _, ho⟩
section
variable {K : PySem.W.Frag} {X : Cx} {W : WX} {e : Expr} {es : List Expr} {pos p : Pos} {x : Str} {i n k : Nat} {tb : List (LamS × MA)} {t : TA} {ms : AM}
theorem pe_callC (A : ∀ L m, tbm tb L = some m → CloOk X.prog X.w X.K X.mg X.base k n L m) (hr : Room k X.A) (hN : X.N[i]? = some x) (hv : Vis X.env.scope x) (ha : PA X (e :: es) t)
    (hdb : (x == ("__debug__" : Str)) = false := by decide) (hcd : (x == ("__classdict__" : Str)) = false := by decide)
    (he : starEach (e :: es) X.env = (false, eval e X.env) :: starEach es X.env := by rfl) (hpl : (backTo pos (starEach es X.env)).any (·.1) = false := by rfl) : PE X (.Call (.Name x p) (e :: es) [] pos) (tCallC X.K i n tb t) := by
  refine ⟨fun pins s σ H Q I h => ?_⟩
  obtain ⟨f, hs, hf, ht⟩ := h
  refine wpAny_Call_Name_kw (thn ((pe_var (pos := p) hN hv hdb hcd).run pins s σ H (fun v H1 => v = .ref f ∧ H1 = H) I ⟨.ref f, hs, rfl, rfl⟩) fun u s1 ⟨v, H1, I1, r1, q1⟩ => ?_)
  obtain ⟨rfl, rfl⟩ := q1
  cases r1
  refine PySem.W.callWith_F (lam_fnAt I1.hok hf) (thn (ha.run pos pins s1 σ _ _ I1 ht) fun us s2 ⟨vs, H2, I2, r, q⟩ => ?_) he hpl
  obtain ⟨q1, L, m, c, cl, cvs, ds, cs, rr, Z, h1, h2, h3, h4, h5, h6, h7, h8, h9, h10, h11⟩ := q
  exact ⟨lam_fnAt I2.hok q1, run_clo (A L m h1) hr I2 h2 h3 r h4 h5 h6 h7 h8 h9 h10 h11⟩
theorem so_callC (ha : Sound K W (RepVs K) t ms) : Sound K W (RepV K) (tCallC K i n tb t) (mCallC i n tb ms) := ⟨fun σ H s Z I r0 Q w rs e p => by
  unfold mCallC at e
  cases hg : gv s.l i with
  | none => rw [hg] at e; cases e
  | some dv =>
    rw [hg] at e
    cases dv with
    | o j => cases e
    | p d =>
      cases d with
      | clo L cs =>
        dsimp only at e
        cases hl : tbm tb L with
        | none => rw [hl] at e; cases e
        | some m =>
          rw [hl] at e
          have h1 : s.l[i]? = some (some (.p (.clo L cs))) := by
            unfold gv at hg
            cases q : s.l[i]? with
            | none => rw [q] at hg; cases hg
            | some o => rw [q] at hg; cases o <;> simp_all
          obtain ⟨v, hv, rv⟩ := rs.at_ i _ h1
          have rv : Rep K Z v (.clo L cs) := rv
          cases rv with
          | clo C rc =>
            rename_i a c cl cvs
            dsimp only at e
            split at e
            · rename_i nc
              refine ⟨a, hv, ⟨_, _, w.sub _ _ C.fn⟩, ha.bnd w rs e (p.x) fun ds vs M1 Z1 H1 I1 w1 rs1 x1 q1 e1 => ?_⟩
              have p1 := p.mono x1
              have C1 := C.mono x1.z
              refine ⟨⟨_, _, w1.sub _ _ C1.fn⟩, ?_⟩
              unfold cloA at e1
              split at e1
              · rename_i hlen
                cases z : allP ds with
                | none => rw [z] at e1; cases e1
                | some xs =>
                  rw [z] at e1
                  dsimp only at e1
                  split at e1
                  · rename_i nx
                    cases y : m (xs ++ cs) with
                    | none => rw [y] at e1; cases e1
                    | some r =>
                      rw [y] at e1
                      cases r with
                      | ex c' fs => cases e1
                      | ok d =>
                        dsimp only at e1
                        split at e1
                        · rename_i nd
                          cases e1
                          exact ⟨L, m, c, cl, cvs, xs, cs, d, Z1, hl, C1, w1.sub, by rw [paired_len q1]; exact hlen, allP_rep q1 z, nx, rc.mono x1.z, nc, y, nd, PostP.of w1 p1⟩
                        · cases e1
                  · cases e1
              · cases e1
            · cases e
      | _ => cases e⟩
theorem de_callC (A : ∀ L m, tbm tb L = some m → CloOk X.prog X.w K X.mg X.base k n L m) (hr : Room k X.A) (ha : DA K X W (e :: es) t ms) (hN : X.N[i]? = some x := by rfl) (hv : Vis X.env.scope x := by first | exact Or.inl rfl | exact Or.inr (Or.inl rfl) | exact Or.inr (Or.inr rfl))
    (hdb : (x == ("__debug__" : Str)) = false := by decide) (hcd : (x == ("__classdict__" : Str)) = false := by decide)
    (he : starEach (e :: es) X.env = (false, eval e X.env) :: starEach es X.env := by rfl) (hpl : (backTo pos (starEach es X.env)).any (·.1) = false := by rfl) :
    DE K X W (.Call (.Name x p) (e :: es) [] pos) (tCallC K i n tb t) (mCallC i n tb ms) := by
  have k := ha.k
  subst k
  exact ⟨rfl, pe_callC A hr hN hv ha.pa hdb hcd he hpl, so_callC ha.so⟩
end
end DL
namespace DL
open PySem PySem.Spec PyProof.Rows L2 LamX NdefX
/-! ### a def is called with a lambda that is made for the call -/
theorem funs_at {h base : Heap} : ∀ {l : List Env}, h.FunFrames base l → ∀ b ∈ frs l, ∃ o, h.get? b = some o
  | [], _, b, hb => by simp [frs] at hb
  | e :: r, q, b, hb => by
    simp only [Heap.FunFrames] at q
    obtain ⟨_, ⟨L, o, h1, _, h3, _⟩, h4⟩ := q
    simp only [frs, List.filterMap_cons, h1] at hb
    rcases List.mem_cons.mp hb with rfl | hb
    · exact ⟨o, h3⟩
    · exact funs_at h4 b hb
open Classical in
/-- the cells of a list, as the heap has them -/
noncomputable def cellsH (h : Heap) (cl : List (Str × Addr)) : Addr → Option Obj := fun b => if ∃ y, cl.lookup y = some b then h.get? b else none
theorem cellsH_in {h : Heap} {cl : List (Str × Addr)} {b : Addr} {o : Obj} (q : cellsH h cl b = some o) : (∃ y, cl.lookup y = some b) ∧ h.get? b = some o := by
  unfold cellsH at q
  split at q
  · rename_i y; exact ⟨y, q⟩
  · cases q
theorem cellsH_of {h : Heap} {cl : List (Str × Addr)} {y : Str} {b : Addr} (q : cl.lookup y = some b) : cellsH h cl b = h.get? b := by
  unfold cellsH
  rw [if_pos ⟨y, q⟩]
theorem vals_app : ∀ {vs ws : List V} {us xs : List Value}, Vals vs us → Vals ws xs → Vals (vs ++ ws) (us ++ xs)
  | _, _, _, _, .nil, h => h
  | _, _, _, _, .cons h r, q => .cons h (vals_app r q)
section
variable {X : Cx} {pins : List (Addr × Obj)} {σ : L2.St} {H : Hp} {s : Shared}
theorem run_fnL {k : Nat} {f : Addr} {fd : FuncData} {ps : List Str} {m : MA} {L : LamS} {a c : Addr} {cl : List (Str × Addr)} {cvs : List V} {vs : List V} {us : List Value} {ds cs : List D} {r : D} {Z : Hp} {Q : VK} (F : FnOk X.prog X.w X.K X.mg X.base (L2.CX X.prog X.w) k f fd ps (spA X.K (vs.length + 1) m)) (hr : Room k X.A) (hb : Binds X.K fd ps [])
    (hfn : ∀ x, X.fn x = true) (hcl : ∀ y b, cl.lookup y = some b → X.env.cells.lookup y = some b) (I : L2.Inv X pins σ H s) (CA : CellsAt cl L.fr (cvs.map some) s.heap H) (sub : Same Z H) (hf : Z a = some (LamO a (L.nf cl c) L.body)) (hc : Z c = some (CodeO c L.nm))
    (rv : Vals vs us) (rd : RepA X.K Z vs ds) (rc : RepA X.K Z cvs cs) (e : m (ds ++ [.clo L cs]) = some (.ok r)) (nr : noClo r = true) (p : PostP X.K Z H r Q) :
    wpAny (model X.prog X.w) X.A (call (.ref f) (us ++ [.ref a])) (EP X pins σ Q) X.xe s := by
  have E0 := I.env0
  have hz : ∀ b o, cellsH s.heap cl b = some o → H b = none ∧ s.heap.get? b = some o := fun b o q => by
    obtain ⟨⟨y, h1⟩, h2⟩ := cellsH_in q
    exact ⟨(CA.all y b h1).1, h2⟩
  have hzZ : ∀ b o, cellsH s.heap cl b = some o → Z b = none := fun b o q => none_of sub (hz b o q).1
  have hcell : ∀ b o, cellsH s.heap cl b = some o → ∃ v, o.data = .cell v := fun b o q => by
    obtain ⟨⟨y, h1⟩, h2⟩ := cellsH_in q
    obtain ⟨_, v, o', h3, h4⟩ := CA.all y b h1
    rw [h2] at h3
    cases h3
    exact ⟨v, h4⟩
  have hge : ∀ b o, cellsH s.heap cl b = some o → X.s_0.heap.objs.size ≤ b := fun b o q => by
    obtain ⟨⟨y, h1⟩, h2⟩ := cellsH_in q
    exact I.ok.cab y b (hfn y) (hcl y b h1)
  have hfr : ∀ b ∈ frs X.stack, cellsH s.heap cl b = none := fun b q => by
    cases z : cellsH s.heap cl b with
    | none => rfl
    | some o =>
      exfalso
      have out : ∀ b' ∈ frs X.outer, b' = b → False := fun b' q' e' => by
        obtain ⟨o', ho⟩ := funs_at I.ok.funs b' q'
        have h1 := Heap.lt_size ho
        have h2 := hge b o z
        rw [e'] at h1
        exact absurd h1 (Nat.not_lt.mpr h2)
      rcases I.ok.stk with q1 | ⟨q1, q2⟩
      · rw [q1] at q; exact out b q rfl
      · rw [q1] at q
        simp only [frs, List.filterMap_cons, q2] at q
        rcases List.mem_cons.mp q with q | q
        · obtain ⟨mm, ⟨o1, es, ep, g1, g2, _⟩, _⟩ := I.loc
          rw [← q, (hz b o z).2] at g1
          cases g1
          obtain ⟨v, g3⟩ := hcell b o z
          rw [g3] at g2
          cases g2
        · exact out b q rfl
  have e0 : Env0 X.prog X.w X.K X.mg X.base X.A X.stack s (withC H (cellsH s.heap cl)) := ⟨E0.frames, E0.mod, fun b o q => ⟨(E0.bs b o q).1, by
      cases z : cellsH s.heap cl b with
      | some o' =>
        have h1 := Heap.lt_size q
        have h2 := hge b o' z
        have h3 := I.ok.bsz
        exact absurd h1 (Nat.not_lt.mpr (Nat.le_trans h3 h2))
      | none => rw [withC_out z]; exact (E0.bs b o q).2⟩, E0.bsz, E0.funs, fun b q => by
      rw [withC_out (hfr b q)]; exact E0.frf b q, hok_withC E0.hok hz, E0.bare⟩
  have sZ : Same Z (withC Z (cellsH s.heap cl)) := fun b x q => by
    cases z : cellsH s.heap cl b with
    | some o => rw [hzZ b o z] at q; cases q
    | none => rw [withC_out z]; exact q
  have C : CloAt (withC Z (cellsH s.heap cl)) L a c cl cvs := ⟨sZ _ _ hf, sZ _ _ hc, fun y b q => by
      obtain ⟨_, v, o, h3, h4⟩ := CA.all y b q
      exact ⟨o, v, withC_in (by rw [cellsH_of q]; exact h3), h4⟩, CA.inj, by have := CA.len; rw [List.length_map] at this; exact this, fun i y q => by
      obtain ⟨b, h1, h2⟩ := CA.has i y q
      have hi : i < cvs.length := by
        have := CA.len
        rw [List.length_map] at this
        rw [this]
        exact (List.getElem?_eq_some_iff.mp q).1
      have hv : cvs[i]? = some cvs[i] := List.getElem?_eq_getElem hi
      obtain ⟨u, h3, o, h4, h5⟩ := h2 cvs[i] (by rw [List.getElem?_map, hv]; rfl)
      exact ⟨b, o, cvs[i], u, h1, withC_in (by rw [cellsH_of h1]; exact h4), h5, hv, h3⟩⟩
  have r2 : Vals (vs ++ [.ref a]) (us ++ [.ref a]) := vals_app rv (.cons rfl .nil)
  have hl : (vs ++ [V.ref a]).length = ps.length := F.len _ (withC H (cellsH s.heap cl)) (fun _ _ => True) (fun _ _ _ => True) ⟨by simp, withC Z (cellsH s.heap cl), ds ++ [.clo L cs], .ok r, fun b x q => by
    cases z : cellsH s.heap cl b with
    | some o => rw [withC_in z] at q ⊢; exact q
    | none => rw [withC_out z] at q ⊢; exact sub b x q, repA_app (rd.mono sZ) (.cons (.clo C (rc.mono sZ)) .nil), e, fun _ _ _ _ _ => trivial⟩
  have b := hb s (us ++ [.ref a]) I.kIn (by rw [List.append_nil, ← r2.length]; exact hl)
  rw [List.append_nil] at b
  refine wpAny_call (codeAny_mono (F.run X.A X.stack s (withC H (cellsH s.heap cl)) ⟨us ++ [.ref a], []⟩ (us ++ [.ref a]) (vs ++ [.ref a]) (fun v H' => (∀ b o, cellsH s.heap cl b = some o → H' b = some (cellO o)) → Q v (without H' (cellsH s.heap cl))) (fun _ _ _ => False) hr e0 b r2 ?_) fun rr s' hq => ?_)
  · refine ⟨by simp, withC Z (cellsH s.heap cl), ds ++ [.clo L cs], .ok r, fun b x q => ?_, repA_app (rd.mono sZ) (.cons (.clo C (rc.mono sZ)) .nil), e, fun v Z' H' x rv' hH => ?_⟩
    · cases z : cellsH s.heap cl b with
      | some o => rw [withC_in z] at q ⊢; exact q
      | none => rw [withC_out z] at q ⊢; exact sub b x q
    · refine p v (without Z' (cellsH s.heap cl)) (without H' (cellsH s.heap cl)) ⟨fun b x' q => ?_, fun b x' q => ?_, fun b x' q => ?_, fun b q => ?_⟩ (Rep.keep (fun b x' q n => ?_) nr rv')
      · cases z : cellsH s.heap cl b with
        | some o => rw [hzZ b o z] at q; cases q
        | none => rw [without_out z]; exact x.z b x' (by rw [withC_out z]; exact q)
      · cases z : cellsH s.heap cl b with
        | some o => rw [(hz b o z).1] at q; cases q
        | none => rw [without_out z]; exact x.h b x' (by rw [withC_out z]; exact q)
      · cases z : cellsH s.heap cl b with
        | some o => rw [without_in z] at q; cases q
        | none => rw [without_out z] at q ⊢; exact x.sub b x' q
      · cases z : cellsH s.heap cl b with
        | some o => rw [without_in z] at q; exact absurd rfl q
        | none =>
          rw [without_out z] at q
          rcases x.zn b q with g | g
          · rw [withC_out z] at g; exact .inl g
          · rw [withC_out z] at g; exact .inr g
      · cases z : cellsH s.heap cl b with
        | some o =>
          have h1 := x.z b _ (withC_in z)
          rw [q] at h1
          exact absurd (Option.some.inj h1) (n o)
        | none => rw [without_out z]; exact q
  · cases rr with
    | error e' =>
      obtain ⟨a', B, H', cls, d, h1, h2, h3, h4, h5, h6, h7, h8⟩ := hq
      exact h8.elim
    | ok fl =>
      cases fl with
      | ret u => exact I.after (ce_with hz hq)
      | _ => exact hq.elim
end
end DL
namespace DL
open PySem PySem.Spec PyProof.Rows L2 LamX NdefX
/-! ### f(e, lambda ..): the rule -/
def capsD (l : List (Option DV)) : List Nat → Option (List D)
  | [] => some []
  | j :: js => match gv l j with
    | some (.p d) => match capsD l js with
      | some ds => some (d :: ds)
      | none => none
    | _ => none
theorem capsD_rep {K : PySem.W.Frag} {Z : Hp} {I : List Addr} {σ : L2.St} {l : List (Option DV)} (rs : RepS K Z I σ l) : ∀ {js : List Nat} {cs : List D}, capsD l js = some cs → ∃ cvs : List V, js.map (NdefX.slotAt σ) = cvs.map some ∧ RepA K Z cvs cs
  | [], cs, e => by cases e; exact ⟨[], rfl, .nil⟩
  | j :: js, cs, e => by
    unfold capsD at e
    cases hg : gv l j with
    | none => rw [hg] at e; cases e
    | some dv =>
      rw [hg] at e
      cases dv with
      | o n => cases e
      | p d =>
        dsimp only at e
        cases hc : capsD l js with
        | none => rw [hc] at e; cases e
        | some ds =>
          rw [hc] at e
          cases e
          have h1 : l[j]? = some (some (.p d)) := by
            unfold gv at hg
            cases q : l[j]? with
            | none => rw [q] at hg; cases hg
            | some o => rw [q] at hg; cases o <;> simp_all
          obtain ⟨v, hv, rv⟩ := rs.at_ j _ h1
          obtain ⟨cvs, e1, r1⟩ := capsD_rep rs hc
          exact ⟨v :: cvs, by rw [List.map_cons, List.map_cons, e1]; unfold NdefX.slotAt; rw [hv], .cons rv r1⟩
noncomputable def callL (i : Nat) (P : Addr) (nm : Str) (L : LamS) (js : List Nat) (m : MA) : DV → Mi DV := fun d s => match d with
  | .p d => if tblAt s.m i P nm = true then match capsD s.l js with
    | some cs => match m [d, .clo L cs] with
      | some (.ok r) => if noClo r then some (.ok (.p r) s.m) else none
      | _ => none
    | none => none else none
  | _ => none
noncomputable def mCallL (i : Nat) (P : Addr) (nm : Str) (L : LamS) (js : List Nat) (m : MA) (me : EM) : EM := bnd me (callL i P nm L js m)
def spL (K : PySem.W.Frag) (L : LamS) (cl : List (Str × Addr)) (js : List Nat) (m : MA) (σ : L2.St) : List V → Hp → VK → Prop := fun vs H Q => ∃ v a c d cvs cs r Z, vs = [v, .ref a] ∧ Same Z H ∧ Z a = some (LamO a (L.nf cl c) L.body) ∧ Z c = some (CodeO c L.nm) ∧ js.map (NdefX.slotAt σ) = cvs.map some ∧ Rep K Z v d ∧ RepA K Z cvs cs ∧ m [d, .clo L cs] = some (.ok r) ∧ noClo r = true ∧ PostP K Z H r Q
def tCallL (K : PySem.W.Frag) (L : LamS) (cl : List (Str × Addr)) (js : List Nat) (m : MA) (t : TA) : TE := fun σ H Q => t σ H fun vs H2 => spL K L cl js m σ vs H2 Q
section
variable {K : PySem.W.Frag} {X : Cx} {W : WX} {e : Expr} {pos p lpos : Pos} {x : Str} {k : Nat}
theorem pe_callL {f c P : Addr} {fd : FuncData} {ps fr : List Str} {js : List Nat} {m : MA} {ix : Nat} {nm : Str} {params : Arguments} {body : Expr} {scope : Scope} {te : TE} (F : FnOk X.prog X.w X.K X.mg X.base (L2.CX X.prog X.w) k f fd ps (spA X.K 2 m)) (hr : Room k X.A) (hg : Gl X x) (hm : X.mg x = some (.ref f)) (hk : PySem.W.keepIn X.K (.ref f) = true) (hb : Binds X.K fd ps [])
    (TB : TabB X.base X.mg c P) (hcode : X.env.code = .ref c) (hn : nm = X.env.qual ++ "<lambda>") (hdef : defaultsOf params X.env = ([], [])) (hfree : ∀ y ∈ scope.names, y.2 = .free → X.env.scope.names.lookup y.1 = some .cell ∨ X.env.scope.names.lookup y.1 = some .free)
    (hfn : ∀ x, X.fn x = true) (hfm : ∀ y ∈ fr, (y, NameKind.free) ∈ scope.names) (hjs : js.map (fun j => X.N[j]?) = fr.map some) (he : PE X e te)
    (hdb : (x == ("__debug__" : Str)) = false := by decide) (hs : starEach [e, .Lambda params body scope lpos] X.env = (false, eval e X.env) :: starEach [.Lambda params body scope lpos] X.env := by rfl) (hs2 : starEach [.Lambda params body scope lpos] X.env = (false, eval (.Lambda params body scope lpos) X.env) :: starEach [] X.env := by rfl) (hpl : (backTo pos (starEach [.Lambda params body scope lpos] X.env)).any (·.1) = false := by rfl) :
    PE X (.Call (.Name x p) [e, .Lambda params body scope lpos] [] pos) (tCallL X.K ⟨ix, nm, params, body, scope, fr⟩ (cloFrom X.env.cells scope.names []) js m (tCons te (tCons (tLam P nm (lamF X nm params scope) body) tNil))) := by
  have ha : PA X [e, .Lambda params body scope lpos] (tCons te (tCons (tLam P nm (lamF X nm params scope) body) tNil)) := pa_cons he (pa_cons (pe_lam TB hcode hn hdef hfree) pa_nil hs2) hs
  refine ⟨fun pins s σ H Q I h => wpAny_Call_Name_kw (ld_glob I hg hm (PySem.W.callWith_K I.ok.mod.kin hk (thn (ha.run pos pins s σ H _ I h) fun us s1 ⟨vs, H1, I1, r, q⟩ => ⟨I1.kIn, ?_⟩) hs hpl) hdb)⟩
  obtain ⟨v, a, c', d, cvs, cs, rr, Z, rfl, h2, h3, h4, h5, h6, h7, h8, h9, h10⟩ := q
  have hfr : ∀ y ∈ scope.names, y.2 = .free → ∃ c, X.env.cells.lookup y.1 = some c := fun y hy e => (hfree y hy e).elim (fun z => I.ok.has _ (.inl z)) fun z => I.ok.has _ (.inr z)
  have cp : Caps X (cloFrom X.env.cells scope.names []) fr js := ⟨fun y c q => clo_cm hfr q, fun y hy => hfree _ (hfm y hy) rfl, fun y hy c q => clo_has hfr (hfm y hy) q, hjs⟩
  have CA := cells_of I1 cp
  rw [h5] at CA
  cases r with
  | cons r1 r =>
    cases r with
    | cons r2 r =>
      cases r
      cases r2
      exact run_fnL (L := ⟨ix, nm, params, body, scope, fr⟩) (vs := [v]) (ds := [d]) F hr hb hfn (fun y b q => clo_cm hfr q) I1 CA h2 h3 h4 (.cons r1 .nil) (.cons h6 .nil) h7 h8 h9 h10
theorem so_callL {i : Nat} {P : Addr} {nm : Str} {ix : Nat} {fr : List Str} {js : List Nat} {m : MA} {me : EM} {params : Arguments} {body : Expr} {scope : Scope} {te : TE} (h : Sound K W (RepV K) te me) :
    Sound K W (RepV K) (tCallL K ⟨ix, nm, params, body, scope, fr⟩ (cloFrom X.env.cells scope.names []) js m (tCons te (tCons (tLam P nm (lamF X nm params scope) body) tNil))) (mCallL i P nm ⟨ix, nm, params, body, scope, fr⟩ js m me) := ⟨fun σ H s Z I r0 Q w rs e1 p1 => by
  refine h.bnd w rs e1 p1.x fun d v M1 Z1 H1 I1 w1 rs1 x1 q1 e2 => ?_
  cases d with
  | o n => cases e2
  | p d =>
    unfold callL at e2
    dsimp only at e2
    split at e2
    · rename_i htb
      cases hcs : capsD s.l js with
      | none => rw [hcs] at e2; cases e2
      | some cs =>
        rw [hcs] at e2
        dsimp only at e2
        cases hm : m [d, .clo ⟨ix, nm, params, body, scope, fr⟩ cs] with
        | none => rw [hm] at e2; cases e2
        | some rr =>
          rw [hm] at e2
          cases rr with
          | ex c fs => cases e2
          | ok r =>
            dsimp only at e2
            split at e2
            · rename_i nr
              cases e2
              obtain ⟨hi, hmm⟩ := tbl_at w1 htb
              obtain ⟨_, _, ps, hP, ht, hz⟩ := w1.ob i P _ hi hmm (by intro z; cases z)
              obtain ⟨cvs, e3, rc⟩ := capsD_rep rs1 hcs
              refine ⟨ps, hP, ht, fun pos cv hcv => ?_, fun f c' H2 ps' k1 k2 k3 k4 k5 k6 k6' k7 k8 k9 => ?_⟩
              · obtain ⟨c1, e3, e4⟩ := hz pos cv hcv
                exact ⟨c1, e3, w1.sub _ _ e4⟩
              · obtain ⟨Z2, w2, x2, f2, c2⟩ := lam_wf w1 hi hmm hP hz k1 k2 k3 k4 k5 k6 k6' k7 k8 k9
                exact ⟨v, f, c', d, cvs, cs, r, Z2, rfl, w2.sub, f2, c2, e3, Rep.mono x2.z q1, rc.mono x2.z, hm, nr, PostP.of w2 ((p1.mono x1).mono x2)⟩
            · cases e2
    · cases e2⟩
theorem de_callL {f c P : Addr} {fd : FuncData} {ps fr : List Str} {js : List Nat} {m : MA} {nm : Str} {params : Arguments} {body : Expr} {scope : Scope} {te : TE} {me : EM} (i ix : Nat) (F : FnOk X.prog X.w K X.mg X.base (L2.CX X.prog X.w) k f fd ps (spA K 2 m)) (hr : Room k X.A) (hm : X.mg x = some (.ref f)) (hk : PySem.W.keepIn K (.ref f) = true) (hb : Binds K fd ps [])
    (TB : TabB X.base X.mg c P) (hcode : X.env.code = .ref c) (he : DE K X W e te me) (hfm : ∀ y ∈ fr, (y, NameKind.free) ∈ scope.names := by decide) (hjs : js.map (fun j => X.N[j]?) = fr.map some := by rfl)
    (hn : nm = X.env.qual ++ "<lambda>" := by rfl) (hdef : defaultsOf params X.env = ([], []) := by rfl) (hfree : ∀ y ∈ scope.names, y.2 = .free → X.env.scope.names.lookup y.1 = some .cell ∨ X.env.scope.names.lookup y.1 = some .free := by (intro y hy e; simp only [List.mem_cons, List.not_mem_nil, or_false] at hy; (repeat' (rcases hy with hy | hy)); all_goals ((try subst hy); first | (cases e; done) | exact Or.inl rfl | exact Or.inr rfl)))
    (hfn : ∀ x, X.fn x = true := by exact fun _ => rfl) (hg : Gl X x := by rfl)
    (hdb : (x == ("__debug__" : Str)) = false := by decide) (hs : starEach [e, .Lambda params body scope lpos] X.env = (false, eval e X.env) :: starEach [.Lambda params body scope lpos] X.env := by rfl) (hs2 : starEach [.Lambda params body scope lpos] X.env = (false, eval (.Lambda params body scope lpos) X.env) :: starEach [] X.env := by rfl) (hpl : (backTo pos (starEach [.Lambda params body scope lpos] X.env)).any (·.1) = false := by rfl) :
    DE K X W (.Call (.Name x p) [e, .Lambda params body scope lpos] [] pos) (tCallL K ⟨ix, nm, params, body, scope, fr⟩ (cloFrom X.env.cells scope.names []) js m (tCons te (tCons (tLam P nm (lamF X nm params scope) body) tNil))) (mCallL i P nm ⟨ix, nm, params, body, scope, fr⟩ js m me) := by
  have k0 := he.k
  subst k0
  exact ⟨rfl, pe_callL F hr hg hm hk hb TB hcode hn hdef hfree hfn hfm hjs he.pe hdb hs hs2 hpl, so_callL he.so⟩
end
end DL
namespace DL
open PySem PySem.Spec PyProof.Rows L2 LamX NdefX
/-! ### lambdas out of the text -/
def lamPs : Expr → Arguments
  | .Lambda p _ _ _ => p
  | _ => defArgs (.Pass ⟨0, 0, 0, 0⟩)
def lamBd : Expr → Expr
  | .Lambda _ b _ _ => b
  | e => e
def lamSc : Expr → Scope
  | .Lambda _ _ s _ => s
  | _ => defScope (.Pass ⟨0, 0, 0, 0⟩)
/-- the lambda that a def gives its last call as its last argument -/
def lamIn (st : Stmt) : Expr := match (defBody st).getLast? with
  | some (.Return (some (.Call _ es _ _)) _) => es.getLastD (.Name "" ⟨0, 0, 0, 0⟩)
  | _ => .Name "" ⟨0, 0, 0, 0⟩
def lamS (ix : Nat) (q : Str) (fr : List Str) (e : Expr) : LamS := ⟨ix, q, lamPs e, lamBd e, lamSc e, fr⟩
section
variable {P : Program} {w : World} {K : PySem.W.Frag} {mg : Str → Option Value} {base : Heap}
theorem CloOk.mono {k k' n : Nat} {L : LamS} {m : MA} (h : CloOk P w K mg base k n L m) (e : k ≤ k') : CloOk P w K mg base k' n L m := by
  obtain ⟨ps, hp, F⟩ := h
  exact ⟨ps, hp, fun a c cl => ⟨(F a c cl).len, fun A outer s H us vs ws Q E hr => (F a c cl).run A outer s H us vs ws Q E (hr.mono e)⟩⟩
end
theorem tbm_cases {L0 L : LamS} {m0 m : MA} {r : List (LamS × MA)} (h : tbm ((L0, m0) :: r) L = some m) : (L = L0 ∧ m = m0) ∨ tbm r L = some m := by
  unfold tbm at h
  split at h
  · split at h
    · rename_i e
      cases h
      exact .inl ⟨e.symm, rfl⟩
    · cases h
  · exact .inr h
theorem tbm_nil {L : LamS} {m : MA} (h : tbm [] L = some m) : False := by cases h
@[simp] theorem tbm_hit (L : LamS) (m : MA) (r : List (LamS × MA)) : tbm ((L, m) :: r) L = some m := by
  unfold tbm
  rw [if_pos rfl, if_pos rfl]
theorem tbm_miss {L0 L : LamS} {m : MA} {r : List (LamS × MA)} (h : L0.ix ≠ L.ix) : tbm ((L0, m) :: r) L = tbm r L := by
  unfold tbm
  rw [if_neg h]
  cases r <;> rfl
/-! ### methods without arguments: l.pop(), l.clear() -/
section
variable {K : PySem.W.Frag} {X : Cx} {W : WX} {e : Expr} {es : List Expr} {pos : Pos}
def mMth0 (T : String) (g : MtG) (o : EM) : EM := bnd o fun d s => if tyOk T s.m d = true then g d [] s else none
theorem so_mth0 {T : String} {r : V → List V → Hp → VK → Prop} {g : MtG} {to : TE} {mo : EM}
    (h : ∀ (W : WX) (σ : L2.St) (x : V) (d : DV) (vs : List V) (ds : List DV) (Z H : Hp) (I : List Addr) (s : S) (r0 : Rs DV) (Q : VK), Wf K Z H I s.m → RepV K Z I x d → RepVs K Z I vs ds → g d ds s = some r0 → PostR K W (RepV K) Z H I σ Q r0 → r x vs H Q)
    (ho : Sound K W (RepV K) to mo) : Sound K W (RepV K) (tBM0 K T r to) (mMth0 T g mo) := ⟨fun σ H s Z I r0 Q w rs e p => by
  refine ho.bnd w rs e p.x fun d v M1 Z1 H1 I1 w1 rs1 x1 q1 e1 => ?_
  have e1 : (if tyOk T M1 d = true then g d [] ⟨s.l, M1⟩ else none) = some r0 := e1
  split at e1
  · rename_i hty
    exact ⟨ty_of w1 q1 hty, h W σ v d [] [] Z1 H1 I1 ⟨s.l, M1⟩ r0 Q w1 q1 .nil e1 (p.mono x1)⟩
  · cases e1⟩
theorem de_mth0 {T id : String} {r : V → List V → Hp → VK → Prop} {g : MtG} {o : Expr} {name : Str} {apos cpos : Pos} {to : TE} {mo : EM} (h : MthD K X id r g) (ho : DE K X W o to mo) (pa : PlainAttrs T) (slot : Slot T name id) (hty : typeOf (.builtin id) = pure (.type "method_descriptor"))
    (hbase : attributeBase o name X.env (eval o X.env) = eval o X.env := by rfl) (hline : (apos.endLine == cpos.line) = true := by rfl) : DE K X W (.Call (.Attribute o name apos) [] [] cpos) (tBM0 K T r to) (mMth0 T g mo) := by
  refine ⟨ho.k, ?_, so_mth0 h.ok ho.so⟩
  have q := pe_bm0 (X := X) (cpos := cpos) (apos := apos) pa slot hty (h.op ho.k) ho.pe hbase hline
  rw [ho.k] at q
  exact q
def gPop : MtG := fun d ds s => match d, ds with
  | .o n, [] => match s.m[n]? with
    | some (.lst xs) => match xs[xs.length - 1]? with
      | some x => some (.ok x (s.m.set n (.lst xs.dropLast)))
      | none => none
    | _ => none
  | _, _ => none
theorem paired_dropLast {α β : Type} {R : α → β → Prop} : ∀ {xs : List α} {ys : List β}, Paired R xs ys → Paired R xs.dropLast ys.dropLast
  | _, _, .nil => .nil
  | _, _, .cons h .nil => .nil
  | _, _, .cons h (.cons h2 r) => .cons h (paired_dropLast (.cons h2 r))
theorem md_pop : MthD K X "list.pop" rPop gPop := ⟨fun _ => mt_pop, fun W σ x d vs ds Z H I s r0 Q w hx hv e p => by
  unfold gPop at e
  split at e
  · rename_i n
    obtain ⟨a, ha, rfl⟩ := hx
    cases hv
    split at e
    · rename_i xs hm
      split at e
      · rename_i y hy
        cases e
        obtain ⟨_, ys, g1, g2⟩ := w.ob n a _ ha hm (by intro z; cases z)
        obtain ⟨u, g3, g4⟩ := paired_get g2 hy
        refine ⟨a, ys, u, rfl, rfl, g1, by rw [paired_len g2]; exact g3, ?_⟩
        exact p u Z _ I (w.setO ha hm (by intro z; cases z) ⟨_, upd_same, paired_dropLast g2⟩) (ext_set (List.mem_of_getElem? ha)) (RepV.mono (ext_set (Z := Z) (H := H) (ho := .lst ys.dropLast) (I := I) (List.mem_of_getElem? ha)) g4)
      · cases e
    · cases e
  · cases e⟩
def gClear : MtG := fun d ds s => match d, ds with
  | .o n, [] => match s.m[n]? with
    | some (.lst _) => some (.ok (.p .non) (s.m.set n (.lst [])))
    | _ => none
  | _, _ => none
theorem md_clear : MthD K X "list.clear" rClear gClear := ⟨fun _ => mt_clear, fun W σ x d vs ds Z H I s r0 Q w hx hv e p => by
  unfold gClear at e
  split at e
  · rename_i n
    obtain ⟨a, ha, rfl⟩ := hx
    cases hv
    split at e
    · rename_i xs hm
      cases e
      obtain ⟨_, ys, g1, g2⟩ := w.ob n a _ ha hm (by intro z; cases z)
      refine ⟨a, ys, rfl, rfl, g1, ?_⟩
      exact p .non Z _ I (w.setO ha hm (by intro z; cases z) ⟨[], upd_same, .nil⟩) (ext_set (List.mem_of_getElem? ha)) .non
    · cases e
  · cases e⟩
/-! ### tuples one behind the other -/
def dCatT : D → D → Option D
  | .tup (x :: xs), .tup (y :: ys) => if xs.length + ys.length + 2 ≤ 1000000 then some (.tup (x :: xs ++ y :: ys)) else none
  | _, _ => none
theorem od_catT : OpD K X (binaryOp .Add) (rCatT K) dCatT where
  op := fun k pins s σ H x y v u Q I rx ry h => by
    subst k
    exact op_catT pins s σ H x y v u Q I rx ry h
  ok := by
    intro x y d e c Z H Q s hx hy hg p
    unfold dCatT at hg
    split at hg
    · split at hg
      · rename_i hl
        cases hg
        cases hx with
        | tup h1 h2 =>
        cases hy with
        | tup h3 h4 =>
        cases h2 with
        | cons h5 h6 =>
        cases h4 with
        | cons h7 h8 =>
        refine ⟨_, _, _, _, rfl, rfl, sqt s h1, sqt s h3, by simp, ?_, (fun z => by cases z), fun _ l hl => p _ _ _ (ExtP.new s hl) (.tup upd_same (((RepA.cons h5 h6).append (.cons h7 h8)).mono (same_upd (none_of s hl))))⟩
        have := h6.length
        have := h8.length
        exact size_le (by simp only [List.length_cons]; omega)
      · cases hg
    · cases hg
end
@[simp] theorem e_catT (x y : D) (xs ys : List D) : dCatT (.tup (x :: xs)) (.tup (y :: ys)) = if xs.length + ys.length + 2 ≤ 1000000 then some (.tup (x :: xs ++ y :: ys)) else none := rfl
@[simp] theorem e_pop (n : Nat) (s : S) : gPop (.o n) [] s = (match s.m[n]? with | some (.lst xs) => (match xs[xs.length - 1]? with | some x => some (.ok x (s.m.set n (.lst xs.dropLast))) | none => none) | _ => none) := rfl
@[simp] theorem e_clear (n : Nat) (s : S) : gClear (.o n) [] s = (match s.m[n]? with | some (.lst _) => some (.ok (.p .non) (s.m.set n (.lst []))) | _ => none) := rfl
end DL
namespace DL
open PySem
/-! ### addresses that differ, by computing -/
def nodupB : List Addr → Bool
  | [] => true
  | a :: r => (r.all fun b => !(Nat.beq a b)) && nodupB r
theorem nodupB_ok : ∀ {l : List Addr}, nodupB l = true → l.Nodup
  | [], _ => List.nodup_nil
  | a :: r, h => by
    have h : ((r.all fun b => !(Nat.beq a b)) && nodupB r) = true := h
    rw [Bool.and_eq_true] at h
    refine List.nodup_cons.mpr ⟨fun m => ?_, nodupB_ok h.2⟩
    have := List.all_eq_true.mp h.1 a m
    have e : Nat.beq a a = true := Nat.beq_refl a
    rw [e] at this
    cases this
end DL
namespace DL
open PySem L2
/-! ### drawing over any invariant that a draw keeps; the drawn state behind any number of tables -/
structure Dw (sv : DV) (n : Nat) (Iv : List O → Prop) : Prop where
  len : ∀ {M : List O}, Iv M → M.length = n
  tk : ∀ {M : List O} {most : Int} {P : DV → List O → Prop}, Iv M → most < 18446744073709551616 → (∀ r M', Iv M' → (most < 1 → r = 0) → (1 ≤ most → 0 ≤ r ∧ r < most) → P (.p (.int r)) M') → wpB (takeM [sv, .p (.int most)] M) P
theorem Dw.dr (n : Nat) (sv : DV) : Dw sv n (Dr n sv) := ⟨fun h => h.len, fun h hm k => wp_take h hm k⟩
theorem Dw.dx (n : Nat) (sv : DV) (R : List O) : Dw sv (n + R.length) (Dx n sv R) := ⟨fun h => h.len, fun h hm k => wp_takeX h hm k⟩
theorem Dw.drop {sv : DV} {n : Nat} {Iv : List O → Prop} (W : Dw sv n Iv) {M M' : List O} (h : Iv M) (h' : Iv M') (d : DV) : dropM M.length d M' = M' := dropM_len (by rw [W.len h, W.len h'])
structure Db (Ts : List O) (n : Nat) (sv : DV) (B : List O) : Prop where
  len : B.length = n
  tb : ∀ i, i < Ts.length → B[i]? = Ts[i]?
  cl : B.all (closed n) = true
  ex : ∃ (k c : Nat) (i : Int) (cells : List Int), sv = .o k ∧ Ts.length ≤ k ∧ Ts.length ≤ c ∧ B[k]? = some (.lst [.p (.int i), .o c]) ∧ B[c]? = some (intL cells) ∧ k ≠ c ∧ 0 ≤ i ∧ cells ≠ [] ∧ ∀ z ∈ cells, 0 ≤ z
def Dbx (Ts : List O) (n : Nat) (sv : DV) (R M : List O) : Prop := ∃ B, M = B ++ R ∧ Db Ts n sv B
theorem Dbx.of {Ts : List O} {n : Nat} {sv : DV} {M : List O} (h : Db Ts n sv M) : Dbx Ts n sv [] M := ⟨M, (List.append_nil _).symm, h⟩
theorem Dbx.nil {Ts : List O} {n : Nat} {sv : DV} {M : List O} (h : Dbx Ts n sv [] M) : Db Ts n sv M := by obtain ⟨B, rfl, h⟩ := h; rwa [List.append_nil]
theorem Dbx.len {Ts : List O} {n : Nat} {sv : DV} {R M : List O} (h : Dbx Ts n sv R M) : M.length = n + R.length := by obtain ⟨B, rfl, h⟩ := h; rw [List.length_append, h.len]
theorem Dbx.get {Ts : List O} {n : Nat} {sv : DV} {R M : List O} (h : Dbx Ts n sv R M) (i : Nat) : M[n + i]? = R[i]? := by
  obtain ⟨B, rfl, h⟩ := h
  rw [List.getElem?_append_right (by rw [h.len]; omega), h.len]
  congr 1; omega
theorem Dbx.set {Ts : List O} {n : Nat} {sv : DV} {R M : List O} (h : Dbx Ts n sv R M) (i : Nat) (o : O) : Dbx Ts n sv (R.set i o) (M.set (n + i) o) := by
  obtain ⟨B, rfl, h⟩ := h
  refine ⟨B, ?_, h⟩
  rw [List.set_append_right _ _ (by rw [h.len]; omega), h.len]
  congr 2; omega
theorem Dbx.app {Ts : List O} {n : Nat} {sv : DV} {R M : List O} (h : Dbx Ts n sv R M) (Q : List O) : Dbx Ts n sv (R ++ Q) (M ++ Q) := by
  obtain ⟨B, rfl, h⟩ := h
  exact ⟨B, List.append_assoc _ _ _, h⟩
theorem Dbx.tab {Ts : List O} {n : Nat} {sv : DV} {R M : List O} (h : Dbx Ts n sv R M) (hn : Ts.length ≤ n) (i : Nat) (hi : i < Ts.length) : M[i]? = Ts[i]? := by
  obtain ⟨B, rfl, h⟩ := h
  rw [List.getElem?_append_left (by rw [h.len]; omega), h.tb i hi]
theorem Db.le {Ts : List O} {n : Nat} {sv : DV} {B : List O} (h : Db Ts n sv B) : Ts.length ≤ n := by
  obtain ⟨k, c, i, cells, rfl, k0, c0, hk, _⟩ := h.ex
  have := (List.getElem?_eq_some_iff.mp hk).1
  rw [h.len] at this
  omega
theorem Dbx.drop {Ts : List O} {n : Nat} {sv : DV} {R G M : List O} {d : D} (h : Dbx Ts n sv (R ++ G) M) (hR : R.all (closed (n + R.length)) = true) {k : Nat} (hk : k = n + R.length) : Dbx Ts n sv R (dropM k (.p d) M) := by
  subst hk
  obtain ⟨B, rfl, h⟩ := h
  have e : (B ++ (R ++ G)).take (n + R.length) = B ++ R := by
    rw [← List.append_assoc, List.take_append_of_le_length (by rw [List.length_append, h.len]; exact Nat.le_refl _), List.take_of_length_le (by rw [List.length_append, h.len]; exact Nat.le_refl _)]
  have c : (B ++ R).all (closed (n + R.length)) = true := by
    rw [List.all_append, hR, Bool.and_true]
    exact List.all_eq_true.mpr fun o ho => closed_mono (Nat.le_add_right _ _) o (List.all_eq_true.mp h.cl o ho)
  unfold dropM
  rw [e, c]
  exact ⟨B, rfl, h⟩
theorem wp_takeB {Ts : List O} {n : Nat} {sv : DV} {R M : List O} {most : Int} {P : DV → List O → Prop} (h : Dbx Ts n sv R M) (hm : most < 18446744073709551616) (k : ∀ r M', Dbx Ts n sv R M' → (most < 1 → r = 0) → (1 ≤ most → 0 ≤ r ∧ r < most) → P (.p (.int r)) M') : wpB (takeM [sv, .p (.int most)] M) P := by
  obtain ⟨B, rfl, h⟩ := h
  obtain ⟨kk, c, i, cells, rfl, k0, c0, hk, hc, kc, hi, ne, nn⟩ := h.ex
  have lk := (List.getElem?_eq_some_iff.mp hk).1
  have lc := (List.getElem?_eq_some_iff.mp hc).1
  obtain ⟨r, M', e, d, b0, b⟩ := take_raw (M := B ++ R) (by rw [List.getElem?_append_left lk]; exact hk) (by rw [List.getElem?_append_left lc]; exact hc) kc hi ne nn most hm
  refine ⟨_, _, e, ?_⟩
  rcases d with rfl | ⟨cells', rfl, ne', nn'⟩ | rfl
  · exact k r _ ⟨B, rfl, h⟩ b0 b
  · rw [List.set_append_left _ _ lc]
    exact k r _ ⟨_, rfl, ⟨by rw [List.length_set]; exact h.len, fun j hj => by rw [List.getElem?_set_ne (by omega)]; exact h.tb j hj, all_set h.cl (closed_ints n _) c, kk, c, i, cells', rfl, k0, c0, by rw [List.getElem?_set_ne kc.symm]; exact hk, by rw [List.getElem?_set_self lc], kc, hi, ne', nn'⟩⟩ b0 b
  · rw [List.set_append_left _ _ lk]
    exact k r _ ⟨_, rfl, ⟨by rw [List.length_set]; exact h.len, fun j hj => by rw [List.getElem?_set_ne (by omega)]; exact h.tb j hj, all_set h.cl (show closed n (.lst [.p (.int (i + 1)), .o c]) = true from (List.all_eq_true.mp h.cl _ (List.mem_of_getElem? hk) : closed n (.lst [.p (.int i), .o c]) = true)) kk, kk, c, i + 1, cells, rfl, k0, c0, by rw [List.getElem?_set_self lk], by rw [List.getElem?_set_ne kc]; exact hc, kc, by omega, ne, nn⟩⟩ b0 b
theorem Dw.dbx (Ts : List O) (n : Nat) (sv : DV) (R : List O) : Dw sv (n + R.length) (Dbx Ts n sv R) := ⟨fun h => h.len, fun h hm k => wp_takeB h hm k⟩
theorem Dw.db (Ts : List O) (n : Nat) (sv : DV) : Dw sv n (Db Ts n sv) := ⟨fun h => h.len, fun h hm k => wp_takeB (Dbx.of h) hm fun r M' h' => k r M' h'.nil⟩
theorem state_Ts (Ts : List O) (hT : ∀ o ∈ Ts, ∃ P q, o = O.tbl P q) (ns : List Int) (hl : ns.length ≤ 63) : ∃ n sv B, stateM [.p (.scr (ns.map .int))] Ts = some (.ok sv B) ∧ Db Ts n sv B := by
  have hcl : ∀ m, Ts.all (closed m) = true := fun m => List.all_eq_true.mpr fun o ho => by
    obtain ⟨P, q, rfl⟩ := hT o ho; rfl
  have hc : slE (.scr (ns.map D.int)) none (some 63) = some (.lst (ns.map D.int)) := by
    show some (D.lst (cutD (ns.map D.int) none (some 63))) = _
    rw [cut63 _ (by simpa using hl)]
  have hm : compL [some (.p (.scr (ns.map .int))), none, none] (gN 2) tYesM (mCB (g1 dAbs) (aCons (mVar 2) aNil)) ((ns.map D.int).map DV.p) [] Ts = some ((ns.map iabs).map D.int, Ts) := by
    rw [compL_map (f := fun d => match d with | .p (.int i) => .int (iabs i) | _ => .non) ((ns.map D.int).map DV.p) (fun d hd => by
      rw [List.map_map] at hd
      obtain ⟨i, _, rfl⟩ := List.mem_map.mp hd
      exact ⟨_, rfl, rfl, by simp [e_bnd, iabs]⟩) (by simp; omega)]
    simp
  have dr : ∀ (j : Nat) (M : List O), Ts.length ≤ j → dropM Ts.length (.o j) M = M := fun j M hj => by
    unfold dropM
    have : ltO Ts.length (.o j) = false := by simp [ltO]; omega
    rw [this]; rfl
  by_cases he : ns = []
  · refine ⟨Ts.length + 3, .o (Ts.length + 2), Ts ++ [.lst [], .lst [.p (.int 0)], .lst [.p (.int 0), .o (Ts.length + 1)]], ?_, by simp, fun i hi => by rw [List.getElem?_append_left hi], ?_, Ts.length + 2, Ts.length + 1, 0, [0], rfl, by omega, by omega, ?_, ?_, by omega, by decide, by simp, by simp⟩
    · subst he
      simp only [List.map_nil] at hc hm
      simp [e_bnd, e_seq, e_lift, e_runA, e_runB, stateM, stateB, hc, hm, dr]
    · rw [List.all_append, hcl, Bool.true_and]
      simp [closed, ltO]
    · rw [List.getElem?_append_right (by omega)]; simp
    · rw [List.getElem?_append_right (by omega)]; simp [intL]
  · refine ⟨Ts.length + 2, .o (Ts.length + 1), Ts ++ [.lst ((ns.map iabs).map fun z => .p (.int z)), .lst [.p (.int 0), .o Ts.length]], ?_, by simp, fun i hi => by rw [List.getElem?_append_left hi], ?_, Ts.length + 1, Ts.length, 0, ns.map iabs, rfl, by omega, by omega, ?_, ?_, by omega, by decide, by simpa using he, ?_⟩
    · generalize hA : (ns.map iabs) = A at hm
      have hA' : A ≠ [] := by rw [← hA]; simpa using he
      have hA2 : ¬ A.length = 0 := by
        intro h; exact hA' (List.length_eq_zero_iff.mp h)
      generalize hB : ns.map D.int = B at hm hc
      simp [e_bnd, e_seq, e_lift, e_runA, e_runB, stateM, stateB, hc, hm, dr, hA', hA2]
    · have := closed_ints (Ts.length + 2) (ns.map iabs)
      rw [List.all_append, hcl, Bool.true_and]
      simp only [List.all_cons, List.all_nil, this]
      simp [closed, ltO]
    · rw [List.getElem?_append_right (by omega)]; simp
    · rw [List.getElem?_append_right (by omega)]; simp [intL]
    · intro z hz
      obtain ⟨y, _, rfl⟩ := List.mem_map.mp hz
      unfold iabs
      split <;> omega
end DL
namespace Law
open PySem L2 DL
def topS (i : Nat) : Stmt := PySem.Challenge.pw_labelgrid_k07_parts_calls_and_moves.main.body.getD i (.Pass ⟨0, 0, 0, 0⟩)
def k_SHEET : D := (.ktup [(.ktup [(.int 0), (.int 0)]), (.ktup [(.int 25), (.int 98)])])
def lamNms : List Str := [lamq (PySem.Str.ofString "_copied"), lamq (PySem.Str.ofString "moved")]
def kd_RANKS : List (Str × D) := [((PySem.Str.ofString "="), (.int 1)), ((PySem.Str.ofString "!="), (.int 1)), ((PySem.Str.ofString "<"), (.int 1)), ((PySem.Str.ofString "<="), (.int 1)), ((PySem.Str.ofString "&"), (.int 2)), ((PySem.Str.ofString "+"), (.int 3)), ((PySem.Str.ofString "-"), (.int 3)), ((PySem.Str.ofString "*"), (.int 4)), ((PySem.Str.ofString "/"), (.int 4))]
def ki_RANKS : List Str := [(PySem.Str.ofString "="), (PySem.Str.ofString "!="), (PySem.Str.ofString "<"), (PySem.Str.ofString "<="), (PySem.Str.ofString "&"), (PySem.Str.ofString "+"), (PySem.Str.ofString "-"), (PySem.Str.ofString "*"), (PySem.Str.ofString "/")]
def km_RANKS : List Str := [(PySem.Str.ofString ""), (PySem.Str.ofString "num"), (PySem.Str.ofString "text"), (PySem.Str.ofString "bool"), (PySem.Str.ofString "ref"), (PySem.Str.ofString "range"), (PySem.Str.ofString "call"), (PySem.Str.ofString "neg")]
noncomputable def b_l_inside : SM := (sSeq (sIf (mBin dEq (mIx (mVar 0) (mC (.int 0))) (mC (.str (PySem.Str.ofString "call")))) (sRet (mCB (g1 dList) (aCons (mIx (mVar 0) (mC (.int 2))) aNil))) sNil)
  (sSeq (sIf (mBin dEq (mIx (mVar 0) (mC (.int 0))) (mC (.str (PySem.Str.ofString "neg")))) (sRet (disp .lst (aCons (mIx (mVar 0) (mC (.int 1))) aNil))) sNil)
  (sSeq (sIf (mBin dEq (mCB dLen (aCons (mVar 0) aNil)) (mC (.int 3))) (sRet (disp .lst (aCons (mIx (mVar 0) (mC (.int 1))) (aCons (mIx (mVar 0) (mC (.int 2))) aNil)))) sNil)
  (sRet (disp .lst aNil)))))
noncomputable def m_l_inside : MA := runA 1 b_l_inside
noncomputable def b_l_calls (g_l_calls : MA) : SM := (sSeq (sAsg (disp .lst aNil) (gN 1))
  (sSeq (sIf (mBin dEq (mIx (mVar 0) (mC (.int 0))) (mC (.str (PySem.Str.ofString "call")))) (sAsg (disp .lst (aCons (mVar 0) aNil)) (gN 1)) sNil)
  (sSeq (sFor (mItD itL (mCallA 1 m_l_inside (aCons (mVar 0) aNil))) (gN 2) (sAsg (mBin dAdd2 (mVar 1) (mCallA 1 g_l_calls (aCons (mVar 2) aNil))) (gN 1)))
  (sRet (mVar 1)))))
noncomputable def grp_l_calls : Nat → (MA)
  | 0 => (fun _ => none)
  | j + 1 => (runA 3 (b_l_calls (grp_l_calls j)))
noncomputable def m_l_calls (j : Nat) : MA := (grp_l_calls j)
theorem m_l_calls_succ (j : Nat) : m_l_calls (j + 1) = runA 3 (b_l_calls (m_l_calls j)) := rfl
noncomputable def b_l_shifted (g_l_shifted : MA) : SM := (sSeq (sIf (mBin dEq (mIx (mVar 0) (mC (.int 0))) (mC (.str (PySem.Str.ofString "ref")))) (sRet (disp .tup (aCons (mC (.str (PySem.Str.ofString "ref"))) (aCons (disp .tup (aCons (mBin dAdd (mIx (mIx (mVar 0) (mC (.int 1))) (mC (.int 0))) (mIx (mVar 1) (mC (.int 0)))) (aCons (mBin dAdd (mIx (mIx (mVar 0) (mC (.int 1))) (mC (.int 1))) (mIx (mVar 1) (mC (.int 1)))) aNil))) aNil)))) sNil)
  (sSeq (sIf (mBin dEq (mIx (mVar 0) (mC (.int 0))) (mC (.str (PySem.Str.ofString "range")))) (sRet (disp .tup (aCons (mC (.str (PySem.Str.ofString "range"))) (aCons (mCB (g1 dTuple) (aCons (mLc (mItD itT (mIx (mVar 0) (mC (.int 1)))) [2] (gN 2) tYesM (disp .tup (aCons (mBin dAdd (mIx (mVar 2) (mC (.int 0))) (mIx (mVar 1) (mC (.int 0)))) (aCons (mBin dAdd (mIx (mVar 2) (mC (.int 1))) (mIx (mVar 1) (mC (.int 1)))) aNil)))) aNil)) aNil)))) sNil)
  (sSeq (sIf (mBin dEq (mIx (mVar 0) (mC (.int 0))) (mC (.str (PySem.Str.ofString "call")))) (sRet (disp .tup (aCons (mC (.str (PySem.Str.ofString "call"))) (aCons (mIx (mVar 0) (mC (.int 1))) (aCons (mLc (mItD itL (mIx (mVar 0) (mC (.int 2)))) [3] (gN 3) tYesM (mCallA 2 g_l_shifted (aCons (mVar 3) (aCons (mVar 1) aNil)))) aNil))))) sNil)
  (sSeq (sIf (mBin dIn (mIx (mVar 0) (mC (.int 0))) (disp .lst (aCons (mC (.str (PySem.Str.ofString "num"))) (aCons (mC (.str (PySem.Str.ofString "text"))) (aCons (mC (.str (PySem.Str.ofString "bool"))) aNil))))) (sRet (mVar 0)) sNil)
  (sRet (mBin dCatT (disp .tup (aCons (mIx (mVar 0) (mC (.int 0))) aNil)) (mCB (g1 dTuple) (aCons (mLc (mItD itL (mCallA 1 m_l_inside (aCons (mVar 0) aNil))) [3] (gN 3) tYesM (mCallA 2 g_l_shifted (aCons (mVar 3) (aCons (mVar 1) aNil)))) aNil))))))))
noncomputable def grp_l_shifted : Nat → (MA)
  | 0 => (fun _ => none)
  | j + 1 => (runA 4 (b_l_shifted (grp_l_shifted j)))
noncomputable def m_l_shifted (j : Nat) : MA := (grp_l_shifted j)
theorem m_l_shifted_succ (j : Nat) : m_l_shifted (j + 1) = runA 4 (b_l_shifted (m_l_shifted j)) := rfl
noncomputable def b_l_spots (g_l_spots : MA) : SM := (sSeq (sIf (mBin dEq (mIx (mVar 0) (mC (.int 0))) (mC (.str (PySem.Str.ofString "ref")))) (sRet (disp .lst (aCons (mIx (mVar 0) (mC (.int 1))) aNil))) sNil)
  (sSeq (sIf (mBin dEq (mIx (mVar 0) (mC (.int 0))) (mC (.str (PySem.Str.ofString "range")))) (sRet (mCB (g1 dList) (aCons (mIx (mVar 0) (mC (.int 1))) aNil))) sNil)
  (sSeq (sAsg (disp .lst aNil) (gN 1))
  (sSeq (sFor (mItD itL (mCallA 1 m_l_inside (aCons (mVar 0) aNil))) (gN 2) (sAsg (mBin dAdd2 (mVar 1) (mCallA 1 g_l_spots (aCons (mVar 2) aNil))) (gN 1)))
  (sRet (mVar 1))))))
noncomputable def grp_l_spots : Nat → (MA)
  | 0 => (fun _ => none)
  | j + 1 => (runA 3 (b_l_spots (grp_l_spots j)))
noncomputable def m_l_spots (j : Nat) : MA := (grp_l_spots j)
theorem m_l_spots_succ (j : Nat) : m_l_spots (j + 1) = runA 3 (b_l_spots (m_l_spots j)) := rfl
noncomputable def b_l_state : SM := (sSeq (sAsg (mLcO (mItD itL (mSlE (mVar 0) pNone (pSome (mC (.int 63))))) [2] (gN 2) tYesM (mCB (g1 dAbs) (aCons (mVar 2) aNil))) (gN 1))
  (sSeq (sIf (mBin dEq (mCB dLen (aCons (mVar 1) aNil)) (mC (.int 0))) (sAsg (dispO (aCons (mC (.int 0)) aNil)) (gN 1)) sNil)
  (sRet (dispO (aCons (mC (.int 0)) (aCons (mVar 1) aNil))))))
noncomputable def m_l_state : List DV → List O → Option (Rs DV) := runB 3 b_l_state
noncomputable def b_l_take : SM := (sSeq (sIf (mBin dLt (mVar 1) (mC (.int 1))) (sRet (mC (.int 0))) sNil)
  (sSeq (sAsg (mIx (mVar 0) (mC (.int 1))) (gN 2))
  (sSeq (sAsg (mBin dMod (mIx (mVar 0) (mC (.int 0))) (mCB dLen (aCons (mVar 2) aNil))) (gN 3))
  (sSeq (sAsg (mIx (mVar 2) (mVar 3)) (gN 4))
  (sSeq (sIf (mBin dGe (mVar 4) (mC (.int 1000000000000000000))) (sSeq (sAsg (mBin dDiv (mVar 4) (mVar 1)) (gSet (mVar 2) (mVar 3)))
  (sRet (mBin dMod (mVar 4) (mVar 1)))) sNil)
  (sSeq (sAsg (mBin dAdd (mIx (mVar 0) (mC (.int 0))) (mC (.int 1))) (gSet (mVar 0) (mC (.int 0))))
  (sSeq (sAsg (mBin dMod (mCB (g1 dInt) (aCons (mBin dAdd (mBin dMul (mVar 4) (mC (.int 48271))) (mBin dMul (mIx (mVar 0) (mC (.int 0))) (mC (.int 69621)))) aNil)) (mC (.int 2147483647))) (gN 5))
  (sSeq (sAsg (mBin dMod (mCB (g1 dInt) (aCons (mBin dAdd (mBin dMul (mVar 5) (mC (.int 16807))) (mBin dMul (mIx (mVar 0) (mC (.int 0))) (mC (.int 7919)))) aNil)) (mC (.int 1000000007))) (gN 5))
  (sRet (mBin dMod (mBin dDiv (mVar 5) (mC (.int 7))) (mVar 1)))))))))))
noncomputable def m_l_take : List DV → List O → Option (Rs DV) := runB 6 b_l_take
noncomputable def b_l_range : SM := (sSeq (sAsg (disp .lst (aCons (disp .tup (aCons (disp .tup (aCons (mC (.int 0)) (aCons (mC (.int 0)) aNil))) (aCons (disp .tup (aCons (mC (.int 1)) (aCons (mC (.int 1)) aNil))) aNil))) (aCons (disp .tup (aCons (disp .tup (aCons (mC (.int 0)) (aCons (mC (.int 0)) aNil))) (aCons (disp .tup (aCons (mC (.int 0)) (aCons (mC (.int 0)) aNil))) aNil))) (aCons (disp .tup (aCons (disp .tup (aCons (mC (.int 0)) (aCons (mC (.int 0)) aNil))) (aCons (disp .tup (aCons (mC (.int 2)) (aCons (mC (.int 0)) aNil))) aNil))) (aCons (disp .tup (aCons (disp .tup (aCons (mC (.int 1)) (aCons (mC (.int 0)) aNil))) (aCons (disp .tup (aCons (mC (.int 25)) (aCons (mC (.int 98)) aNil))) aNil))) (aCons (disp .tup (aCons (disp .tup (aCons (mC (.int 0)) (aCons (mC (.int 1)) aNil))) (aCons (disp .tup (aCons (mC (.int 2)) (aCons (mC (.int 1)) aNil))) aNil))) aNil)))))) (gN 1))
  (sSeq (sIf (mBin dEq (mCallB 2 m_l_take (aCons (mVar 0) (aCons (mC (.int 2)) aNil))) (mC (.int 0))) (sRet (disp .tup (aCons (mC (.str (PySem.Str.ofString "range"))) (aCons (mIx (mVar 1) (mCallB 2 m_l_take (aCons (mVar 0) (aCons (mC (.int 3)) aNil)))) aNil)))) sNil)
  (sRet (disp .tup (aCons (mC (.str (PySem.Str.ofString "range"))) (aCons (mIx (mVar 1) (mIx (disp .lst (aCons (mC (.int 0)) (aCons (mC (.int 1)) (aCons (mC (.int 2)) (aCons (mC (.int 4)) aNil))))) (mCallB 2 m_l_take (aCons (mVar 0) (aCons (mC (.int 4)) aNil))))) aNil))))))
noncomputable def m_l_range : List DV → List O → Option (Rs DV) := runB 2 b_l_range
noncomputable def b_l_leaf : SM := (sSeq (sAsg (mCallB 2 m_l_take (aCons (mVar 0) (aCons (mC (.int 8)) aNil))) (gN 1))
  (sSeq (sIf (mBin dLt (mVar 1) (mC (.int 3))) (sRet (disp .tup (aCons (mC (.str (PySem.Str.ofString "ref"))) (aCons (mIx (disp .lst (aCons (disp .tup (aCons (mC (.int 0)) (aCons (mC (.int 0)) aNil))) (aCons (disp .tup (aCons (mC (.int 1)) (aCons (mC (.int 0)) aNil))) (aCons (disp .tup (aCons (mC (.int 0)) (aCons (mC (.int 1)) aNil))) (aCons (disp .tup (aCons (mC (.int 25)) (aCons (mC (.int 98)) aNil))) (aCons (disp .tup (aCons (mC (.int 2)) (aCons (mC (.int 1)) aNil))) (aCons (disp .tup (aCons (mC (.int 1)) (aCons (mC (.int 1)) aNil))) aNil))))))) (mCallB 2 m_l_take (aCons (mVar 0) (aCons (mC (.int 6)) aNil)))) aNil)))) sNil)
  (sSeq (sIf (mBin dLt (mVar 1) (mC (.int 5))) (sRet (disp .tup (aCons (mC (.str (PySem.Str.ofString "num"))) (aCons (mIx (disp .lst (aCons (mC (.int 0)) (aCons (mC (.int 10000)) (aCons (mC (.int 20000)) (aCons (mC (.int 25000)) (aCons (mC (.int 1)) (aCons (mC (.int 1000000000000000)) (aCons (mC (.int 70000)) aNil)))))))) (mCallB 2 m_l_take (aCons (mVar 0) (aCons (mC (.int 7)) aNil)))) aNil)))) sNil)
  (sSeq (sIf (mBin dEq (mVar 1) (mC (.int 5))) (sRet (disp .tup (aCons (mC (.str (PySem.Str.ofString "bool"))) (aCons (mBin dEq (mCallB 2 m_l_take (aCons (mVar 0) (aCons (mC (.int 2)) aNil))) (mC (.int 0))) aNil)))) sNil)
  (sRet (disp .tup (aCons (mC (.str (PySem.Str.ofString "text"))) (aCons (mIx (disp .lst (aCons (mC (.str (PySem.Str.ofString ""))) (aCons (mC (.str (PySem.Str.ofString "a"))) (aCons (mC (.str (PySem.Str.ofString "ab"))) (aCons (mC (.str (PySem.Str.ofString "A1"))) (aCons (mC (.str (PySem.Str.ofString "\""))) (aCons (mC (.str (PySem.Str.ofString "x \"y\", "))) (aCons (mC (.str (PySem.Str.ofString "TRUE"))) (aCons (mBin dMulS (mC (.str (PySem.Str.ofString "b"))) (mC (.int 60))) aNil))))))))) (mCallB 2 m_l_take (aCons (mVar 0) (aCons (mC (.int 8)) aNil)))) aNil))))))))
noncomputable def m_l_leaf : List DV → List O → Option (Rs DV) := runB 2 b_l_leaf
noncomputable def b_l_call_5 (g_l_call : List DV → List O → Option (Rs DV)) (g_l_tree : List DV → List O → Option (Rs DV)) (g_l_wide : List DV → List O → Option (Rs DV)) : SM := (sRet (disp .tup (aCons (mC (.str (PySem.Str.ofString "call"))) (aCons (mIx (disp .lst (aCons (mC (.str (PySem.Str.ofString "NOT"))) (aCons (mC (.str (PySem.Str.ofString "LEN"))) (aCons (mC (.str (PySem.Str.ofString "ABS"))) aNil)))) (mCallB 2 m_l_take (aCons (mVar 0) (aCons (mC (.int 3)) aNil)))) (aCons (disp .lst (aCons (mCallB 2 g_l_tree (aCons (mVar 0) (aCons (mVar 1) aNil))) aNil)) aNil)))))
noncomputable def b_l_call_4 (g_l_call : List DV → List O → Option (Rs DV)) (g_l_tree : List DV → List O → Option (Rs DV)) (g_l_wide : List DV → List O → Option (Rs DV)) : SM := (sSeq (sIf (mBin dEq (mVar 2) (mC (.int 9))) (sRet (disp .tup (aCons (mC (.str (PySem.Str.ofString "call"))) (aCons (mIx (disp .lst (aCons (mC (.str (PySem.Str.ofString "LEFT"))) (aCons (mC (.str (PySem.Str.ofString "ROUND"))) aNil))) (mCallB 2 m_l_take (aCons (mVar 0) (aCons (mC (.int 2)) aNil)))) (aCons (disp .lst (aCons (mCallB 2 g_l_tree (aCons (mVar 0) (aCons (mVar 1) aNil))) (aCons (mCallB 2 g_l_tree (aCons (mVar 0) (aCons (mVar 1) aNil))) aNil))) aNil))))) sNil) (b_l_call_5 g_l_call g_l_tree g_l_wide))
noncomputable def b_l_call_3 (g_l_call : List DV → List O → Option (Rs DV)) (g_l_tree : List DV → List O → Option (Rs DV)) (g_l_wide : List DV → List O → Option (Rs DV)) : SM := (sSeq (sIf (mBin dLt (mVar 2) (mC (.int 9))) (sRet (disp .tup (aCons (mC (.str (PySem.Str.ofString "call"))) (aCons (mC (.str (PySem.Str.ofString "IF"))) (aCons (mLc (mRng rng1D (aCons (mC (.int 3)) aNil)) [4] (gN 4) tYesM (mCallB 2 g_l_tree (aCons (mVar 0) (aCons (mVar 1) aNil)))) aNil))))) sNil) (b_l_call_4 g_l_call g_l_tree g_l_wide))
noncomputable def b_l_call_2 (g_l_call : List DV → List O → Option (Rs DV)) (g_l_tree : List DV → List O → Option (Rs DV)) (g_l_wide : List DV → List O → Option (Rs DV)) : SM := (sSeq (sIf (mBin dLt (mVar 2) (mC (.int 7))) (sSeq (sAsg (mIx (disp .lst (aCons (mC (.str (PySem.Str.ofString "RSUM"))) (aCons (mC (.str (PySem.Str.ofString "RCOUNT"))) (aCons (mC (.str (PySem.Str.ofString "RAVG"))) (aCons (mC (.str (PySem.Str.ofString "RMIN"))) (aCons (mC (.str (PySem.Str.ofString "RMAX"))) aNil)))))) (mCallB 2 m_l_take (aCons (mVar 0) (aCons (mC (.int 5)) aNil)))) (gN 3))
  (sSeq (sIf (mBin dEq (mCallB 2 m_l_take (aCons (mVar 0) (aCons (mC (.int 4)) aNil))) (mC (.int 0))) (sRet (disp .tup (aCons (mC (.str (PySem.Str.ofString "call"))) (aCons (mVar 3) (aCons (disp .lst (aCons (disp .tup (aCons (mC (.str (PySem.Str.ofString "ref"))) (aCons (disp .tup (aCons (mCallB 2 m_l_take (aCons (mVar 0) (aCons (mC (.int 3)) aNil))) (aCons (mC (.int 0)) aNil))) aNil))) aNil)) aNil))))) sNil)
  (sRet (disp .tup (aCons (mC (.str (PySem.Str.ofString "call"))) (aCons (mVar 3) (aCons (disp .lst (aCons (mCallB 1 m_l_range (aCons (mVar 0) aNil)) aNil)) aNil))))))) sNil) (b_l_call_3 g_l_call g_l_tree g_l_wide))
noncomputable def b_l_call_1 (g_l_call : List DV → List O → Option (Rs DV)) (g_l_tree : List DV → List O → Option (Rs DV)) (g_l_wide : List DV → List O → Option (Rs DV)) : SM := (sSeq (sIf (mBin dLt (mVar 2) (mC (.int 5))) (sSeq (sAsg (mIx (disp .lst (aCons (mC (.str (PySem.Str.ofString "SUM"))) (aCons (mC (.str (PySem.Str.ofString "COUNT"))) (aCons (mC (.str (PySem.Str.ofString "AVG"))) (aCons (mC (.str (PySem.Str.ofString "MIN"))) (aCons (mC (.str (PySem.Str.ofString "MAX"))) (aCons (mC (.str (PySem.Str.ofString "AND"))) (aCons (mC (.str (PySem.Str.ofString "OR"))) (aCons (mC (.str (PySem.Str.ofString "JOIN"))) aNil))))))))) (mCallB 2 m_l_take (aCons (mVar 0) (aCons (mC (.int 8)) aNil)))) (gN 3))
  (sRet (disp .tup (aCons (mC (.str (PySem.Str.ofString "call"))) (aCons (mVar 3) (aCons (mLc (mRng rng1D (aCons (mIx (disp .lst (aCons (mC (.int 1)) (aCons (mC (.int 1)) (aCons (mC (.int 2)) (aCons (mC (.int 2)) (aCons (mC (.int 3)) (aCons (mC (.int 8)) aNil))))))) (mCallB 2 m_l_take (aCons (mVar 0) (aCons (mC (.int 6)) aNil)))) aNil)) [4] (gN 4) tYesM (mCallB 2 g_l_wide (aCons (mVar 0) (aCons (mVar 1) aNil)))) aNil)))))) sNil) (b_l_call_2 g_l_call g_l_tree g_l_wide))
noncomputable def b_l_call (g_l_call : List DV → List O → Option (Rs DV)) (g_l_tree : List DV → List O → Option (Rs DV)) (g_l_wide : List DV → List O → Option (Rs DV)) : SM := (sSeq (sAsg (mCallB 2 m_l_take (aCons (mVar 0) (aCons (mC (.int 12)) aNil))) (gN 2)) (b_l_call_1 g_l_call g_l_tree g_l_wide))
noncomputable def b_l_tree (g_l_call : List DV → List O → Option (Rs DV)) (g_l_tree : List DV → List O → Option (Rs DV)) (g_l_wide : List DV → List O → Option (Rs DV)) : SM := (sSeq (sAsg (mCallB 2 m_l_take (aCons (mVar 0) (aCons (mC (.int 9)) aNil))) (gN 2))
  (sSeq (sIf (mOr (mBin dEq (mVar 1) (mC (.int 0))) (mBin dLt (mVar 2) (mC (.int 2)))) (sRet (mCallB 1 m_l_leaf (aCons (mVar 0) aNil))) sNil)
  (sSeq (sIf (mBin dEq (mVar 2) (mC (.int 2))) (sRet (disp .tup (aCons (mC (.str (PySem.Str.ofString "neg"))) (aCons (mCallB 2 g_l_tree (aCons (mVar 0) (aCons (mBin dSub (mVar 1) (mC (.int 1))) aNil))) aNil)))) sNil)
  (sSeq (sIf (mBin dLt (mVar 2) (mC (.int 5))) (sRet (mCallB 2 g_l_call (aCons (mVar 0) (aCons (mBin dSub (mVar 1) (mC (.int 1))) aNil)))) sNil)
  (sSeq (sAsg (mIx (disp .lst (aCons (mC (.str (PySem.Str.ofString "+"))) (aCons (mC (.str (PySem.Str.ofString "-"))) (aCons (mC (.str (PySem.Str.ofString "*"))) (aCons (mC (.str (PySem.Str.ofString "/"))) (aCons (mC (.str (PySem.Str.ofString "&"))) (aCons (mC (.str (PySem.Str.ofString "="))) (aCons (mC (.str (PySem.Str.ofString "!="))) (aCons (mC (.str (PySem.Str.ofString "<"))) (aCons (mC (.str (PySem.Str.ofString "<="))) aNil)))))))))) (mCallB 2 m_l_take (aCons (mVar 0) (aCons (mC (.int 9)) aNil)))) (gN 3))
  (sSeq (sAsg (mCallB 2 g_l_tree (aCons (mVar 0) (aCons (mBin dSub (mVar 1) (mC (.int 1))) aNil))) (gN 4))
  (sRet (disp .tup (aCons (mVar 3) (aCons (mVar 4) (aCons (mCallB 2 g_l_tree (aCons (mVar 0) (aCons (mBin dSub (mVar 1) (mC (.int 1))) aNil))) aNil)))))))))))
noncomputable def b_l_wide (g_l_call : List DV → List O → Option (Rs DV)) (g_l_tree : List DV → List O → Option (Rs DV)) (g_l_wide : List DV → List O → Option (Rs DV)) : SM := (sSeq (sIf (mBin dEq (mCallB 2 m_l_take (aCons (mVar 0) (aCons (mC (.int 2)) aNil))) (mC (.int 0))) (sRet (mCallB 1 m_l_range (aCons (mVar 0) aNil))) sNil)
  (sRet (mCallB 2 g_l_tree (aCons (mVar 0) (aCons (mVar 1) aNil)))))
noncomputable def grp_l_call : Nat → (List DV → List O → Option (Rs DV)) × (List DV → List O → Option (Rs DV)) × (List DV → List O → Option (Rs DV))
  | 0 => (fun _ _ => none, fun _ _ => none, fun _ _ => none)
  | j + 1 => (runB 5 (b_l_call (grp_l_call j).1 (grp_l_call j).2.1 (grp_l_call j).2.2), runB 5 (b_l_tree (grp_l_call j).1 (grp_l_call j).2.1 (grp_l_call j).2.2), runB 2 (b_l_wide (grp_l_call j).1 (grp_l_call j).2.1 (grp_l_call j).2.2))
noncomputable def m_l_call (j : Nat) : List DV → List O → Option (Rs DV) := (grp_l_call j).1
noncomputable def m_l_tree (j : Nat) : List DV → List O → Option (Rs DV) := (grp_l_call j).2.1
noncomputable def m_l_wide (j : Nat) : List DV → List O → Option (Rs DV) := (grp_l_call j).2.2
theorem m_l_call_succ (j : Nat) : m_l_call (j + 1) = runB 5 (b_l_call (m_l_call j) (m_l_tree j) (m_l_wide j)) := rfl
theorem m_l_tree_succ (j : Nat) : m_l_tree (j + 1) = runB 5 (b_l_tree (m_l_call j) (m_l_tree j) (m_l_wide j)) := rfl
theorem m_l_wide_succ (j : Nat) : m_l_wide (j + 1) = runB 2 (b_l_wide (m_l_call j) (m_l_tree j) (m_l_wide j)) := rfl
noncomputable def b_inside : SM := (sSeq (sAsg (mVar 1) (gT 2 (gsCons (gN 2) (gsCons (gN 3) gsNil))))
  (sRet (mAnd (mChain dLe dLe (mIx (mVar 2) (mC (.int 0))) (mIx (mVar 0) (mC (.int 0))) (mIx (mVar 3) (mC (.int 0)))) (mChain dLe dLe (mIx (mVar 2) (mC (.int 1))) (mIx (mVar 0) (mC (.int 1))) (mIx (mVar 3) (mC (.int 1)))))))
noncomputable def m_inside : MA := runA 4 b_inside
noncomputable def b_moved_address : SM := (sSeq (sAsg (disp .tup (aCons (mBin dAdd (mIx (mVar 0) (mC (.int 0))) (mIx (mVar 1) (mC (.int 0)))) (aCons (mBin dAdd (mIx (mVar 0) (mC (.int 1))) (mIx (mVar 1) (mC (.int 1)))) aNil))) (gN 2))
  (sRet (mIf (mTru (mCallA 2 m_inside (aCons (mVar 2) (aCons (mC k_SHEET) aNil)))) (mVar 2) (mC .non))))
noncomputable def m_moved_address : MA := runA 3 b_moved_address
noncomputable def b_moved_part : SM := (sSeq (sIf (mBin dEq (mIx (mVar 0) (mC (.int 0))) (mC (.str (PySem.Str.ofString "ref")))) (sSeq (sAsg (mCallA 2 m_moved_address (aCons (mIx (mVar 0) (mC (.int 1))) (aCons (mVar 1) aNil))) (gN 2))
  (sRet (mIf (mIsN (mVar 2)) (mC .non) (disp .tup (aCons (mC (.str (PySem.Str.ofString "ref"))) (aCons (mVar 2) aNil)))))) sNil)
  (sSeq (sAsg (mCallA 2 m_moved_address (aCons (mIx (mIx (mVar 0) (mC (.int 1))) (mC (.int 0))) (aCons (mVar 1) aNil))) (gN 3))
  (sSeq (sAsg (mCallA 2 m_moved_address (aCons (mIx (mIx (mVar 0) (mC (.int 1))) (mC (.int 1))) (aCons (mVar 1) aNil))) (gN 4))
  (sRet (mIf (mOr (mIsN (mVar 3)) (mIsN (mVar 4))) (mC .non) (disp .tup (aCons (mC (.str (PySem.Str.ofString "range"))) (aCons (disp .tup (aCons (mVar 3) (aCons (mVar 4) aNil))) aNil))))))))
noncomputable def m_moved_part : MA := runA 5 b_moved_part
noncomputable def b_spine_of : SM := (sSeq (sAsg (dispO aNil) (gN 1))
  (sSeq (sWhile 1000000 (mInKd ki_RANKS km_RANKS (mIx (mVar 0) (mC (.int 0)))) (sSeq (sExpr (mMth "list" gApp (mVar 1) (aCons (disp .tup (aCons (mIx (mVar 0) (mC (.int 0))) (aCons (mIx (mVar 0) (mC (.int 2))) aNil))) aNil)))
  (sAsg (mIx (mVar 0) (mC (.int 1))) (gN 0))))
  (sRet (disp .tup (aCons (mVar 0) (aCons (mRevL (mFrz (mVar 1))) aNil))))))
noncomputable def m_spine_of : MA := runA 2 b_spine_of
def lam_0 : LamS := lamS 0 (lamq (PySem.Str.ofString "_copied")) [] (lamIn (topS 9))
noncomputable def ml_0 : MA := lamK 1 (mVar 0)
theorem lam_ix_0 : lam_0.ix = 0 := rfl
def lam_1 : LamS := lamS 1 (lamq (PySem.Str.ofString "moved")) ["by"] (lamIn (topS 12))
noncomputable def ml_1 : MA := lamK 2 (mCallA 2 m_moved_part (aCons (mVar 0) (aCons (mVar 1) aNil)))
theorem lam_ix_1 : lam_1.ix = 1 := rfl
noncomputable def cloT : List (LamS × MA) := [(lam_0, ml_0), (lam_1, ml_1)]
noncomputable def b_rebuilt_part (g_rebuilt_part : MA) (g_rebuilt : MA) : SM := (sSeq (sIf (mBin dIn (mIx (mVar 0) (mC (.int 0))) (disp .tup (aCons (mC (.str (PySem.Str.ofString "ref"))) (aCons (mC (.str (PySem.Str.ofString "range"))) aNil)))) (sRet (mCallC 1 1 cloT (aCons (mVar 0) aNil))) sNil)
  (sSeq (sIf (mBin dEq (mIx (mVar 0) (mC (.int 0))) (mC (.str (PySem.Str.ofString "neg")))) (sSeq (sAsg (mCallA 2 g_rebuilt (aCons (mIx (mVar 0) (mC (.int 1))) (aCons (mVar 1) aNil))) (gN 2))
  (sRet (mIf (mIsN (mVar 2)) (mC .non) (disp .tup (aCons (mC (.str (PySem.Str.ofString "neg"))) (aCons (mVar 2) aNil)))))) sNil)
  (sSeq (sIf (mBin dEq (mIx (mVar 0) (mC (.int 0))) (mC (.str (PySem.Str.ofString "call")))) (sSeq (sAsg (mLc (mItD itL (mIx (mVar 0) (mC (.int 2)))) [4] (gN 4) tYesM (mCallA 2 g_rebuilt (aCons (mVar 4) (aCons (mVar 1) aNil)))) (gN 3))
  (sRet (mIf (mBin dIn (mC .non) (mVar 3)) (mC .non) (disp .tup (aCons (mC (.str (PySem.Str.ofString "call"))) (aCons (mIx (mVar 0) (mC (.int 1))) (aCons (mVar 3) aNil))))))) sNil)
  (sRet (mVar 0)))))
noncomputable def b_rebuilt (g_rebuilt_part : MA) (g_rebuilt : MA) : SM := (sSeq (sAsg (mCallA 1 m_spine_of (aCons (mVar 0) aNil)) (gT 2 (gsCons (gN 2) (gsCons (gN 3) gsNil))))
  (sSeq (sAsg (mCallA 2 g_rebuilt_part (aCons (mVar 2) (aCons (mVar 1) aNil))) (gN 4))
  (sSeq (sFor (mItD itL (mVar 3)) (gT 2 (gsCons (gN 5) (gsCons (gN 6) gsNil))) (sSeq (sAsg (mCallA 2 g_rebuilt (aCons (mVar 6) (aCons (mVar 1) aNil))) (gN 7))
  (sSeq (sIf (mOr (mIsN (mVar 4)) (mIsN (mVar 7))) (sRet (mC .non)) sNil)
  (sAsg (disp .tup (aCons (mVar 5) (aCons (mVar 4) (aCons (mVar 7) aNil)))) (gN 4)))))
  (sRet (mVar 4)))))
noncomputable def grp_rebuilt_part : Nat → (MA) × (MA)
  | 0 => (fun _ => none, fun _ => none)
  | j + 1 => (runA 5 (b_rebuilt_part (grp_rebuilt_part j).1 (grp_rebuilt_part j).2), runA 8 (b_rebuilt (grp_rebuilt_part j).1 (grp_rebuilt_part j).2))
noncomputable def m_rebuilt_part (j : Nat) : MA := (grp_rebuilt_part j).1
noncomputable def m_rebuilt (j : Nat) : MA := (grp_rebuilt_part j).2
theorem m_rebuilt_part_succ (j : Nat) : m_rebuilt_part (j + 1) = runA 5 (b_rebuilt_part (m_rebuilt_part j) (m_rebuilt j)) := rfl
theorem m_rebuilt_succ (j : Nat) : m_rebuilt (j + 1) = runA 8 (b_rebuilt (m_rebuilt_part j) (m_rebuilt j)) := rfl
noncomputable def b_copied (Ps : List Addr) : SM := (sRet (mCallL 0 (Ps.getD 0 0) (lamq (PySem.Str.ofString "_copied")) lam_0 [] (m_rebuilt 60) (mVar 0)))
noncomputable def m_copied (Ps : List Addr) : List DV → List O → Option (Rs DV) := runB 1 (b_copied Ps)
noncomputable def b_inner_parts : SM := (sSeq (sIf (mInKd ki_RANKS km_RANKS (mIx (mVar 0) (mC (.int 0)))) (sRet (disp .lst (aCons (mIx (mVar 0) (mC (.int 1))) (aCons (mIx (mVar 0) (mC (.int 2))) aNil)))) sNil)
  (sSeq (sIf (mBin dEq (mIx (mVar 0) (mC (.int 0))) (mC (.str (PySem.Str.ofString "neg")))) (sRet (disp .lst (aCons (mIx (mVar 0) (mC (.int 1))) aNil))) sNil)
  (sSeq (sIf (mBin dEq (mIx (mVar 0) (mC (.int 0))) (mC (.str (PySem.Str.ofString "call")))) (sRet (mCB (g1 dList) (aCons (mIx (mVar 0) (mC (.int 2))) aNil))) sNil)
  (sRet (disp .lst aNil)))))
noncomputable def m_inner_parts : MA := runA 1 b_inner_parts
noncomputable def b_calls_of (Ps : List Addr) : SM := (sSeq (sAsg (dispO aNil) (gN 1))
  (sSeq (sAsg (dispO (aCons (mVar 0) aNil)) (gN 2))
  (sSeq (sWhile 1000000 (mTru (mVar 2)) (sSeq (sAsg (mMth0 "list" gPop (mVar 2)) (gN 3))
  (sSeq (sIf (mBin dEq (mIx (mVar 3) (mC (.int 0))) (mC (.str (PySem.Str.ofString "call")))) (sExpr (mMth "list" gApp (mVar 1) (aCons (mCallB 1 (m_copied Ps) (aCons (mVar 3) aNil)) aNil))) sNil)
  (sExpr (mMth "list" gExt (mVar 2) (aCons (mRevL (mCallA 1 m_inner_parts (aCons (mVar 3) aNil))) aNil))))))
  (sRet (mVar 1)))))
noncomputable def m_calls_of (Ps : List Addr) : List DV → List O → Option (Rs DV) := runB 4 (b_calls_of Ps)
noncomputable def b_moved (Ps : List Addr) : SM := (sRet (mCallL 1 (Ps.getD 1 0) (lamq (PySem.Str.ofString "moved")) lam_1 [1] (m_rebuilt 60) (mVar 0)))
noncomputable def m_moved (Ps : List Addr) : List DV → List O → Option (Rs DV) := runB 2 (b_moved Ps)
noncomputable def b_parts_of (Ps : List Addr) : SM := (sRet (mLc (mItD itL (mCallA 1 m_inner_parts (aCons (mVar 0) aNil))) [1] (gN 1) tYesM (mCallB 1 (m_copied Ps) (aCons (mVar 1) aNil))))
noncomputable def m_parts_of (Ps : List Addr) : List DV → List O → Option (Rs DV) := runB 2 (b_parts_of Ps)
noncomputable def b_law_6 (Ps : List Addr) : SM := (sRet (mBin dEq (mCB (g1 dRepr) (aCons (mVar 2) aNil)) (mVar 3)))
noncomputable def b_law_5 (Ps : List Addr) : SM := (sSeq (sFor (mRng rng1D (aCons (mC (.int 3)) aNil)) (gN 4) (sSeq (sAsg (mIx (disp .lst (aCons (disp .tup (aCons (mC (.int 1)) (aCons (mC (.int 2)) aNil))) (aCons (disp .tup (aCons (mC (.int 0)) (aCons (mC (.int 0)) aNil))) (aCons (disp .tup (aCons (mUn dNeg (mC (.int 1))) (aCons (mC (.int 0)) aNil))) (aCons (disp .tup (aCons (mC (.int 0)) (aCons (mC (.int 97)) aNil))) (aCons (disp .tup (aCons (mC (.int 23)) (aCons (mC (.int 0)) aNil))) (aCons (disp .tup (aCons (mC (.int 25)) (aCons (mC (.int 98)) aNil))) (aCons (disp .tup (aCons (mBin dSub (mCallB 2 m_l_take (aCons (mVar 1) (aCons (mC (.int 30)) aNil))) (mC (.int 5))) (aCons (mBin dSub (mCallB 2 m_l_take (aCons (mVar 1) (aCons (mC (.int 110)) aNil))) (mC (.int 10))) aNil))) aNil)))))))) (mCallB 2 m_l_take (aCons (mVar 1) (aCons (mC (.int 7)) aNil)))) (gN 5))
  (sSeq (sAsg (mCallA 2 (m_l_shifted 60) (aCons (mVar 2) (aCons (mVar 5) aNil))) (gN 6))
  (sSeq (sFor (mItD itL (mCallA 1 (m_l_spots 60) (aCons (mVar 6) aNil))) (gT 2 (gsCons (gN 7) (gsCons (gN 8) gsNil))) (sIf (mOr (mBin dLt (mVar 7) (mC (.int 0))) (mOr (mBin dGt (mVar 7) (mC (.int 25))) (mOr (mBin dLt (mVar 8) (mC (.int 0))) (mBin dGt (mVar 8) (mC (.int 98)))))) (sSeq (sAsg (mC .non) (gN 6))
  sBrk) sNil))
  (sSeq (sAsg (mCallB 2 (m_moved Ps) (aCons (mVar 2) (aCons (mVar 5) aNil))) (gN 9))
  (sIf (mOr (mBin dNe (mVar 9) (mVar 6)) (mAnd (mNotN (mVar 9)) (mBin dNe (mCallB 2 (m_moved Ps) (aCons (mVar 9) (aCons (disp .tup (aCons (mUn dNeg (mIx (mVar 5) (mC (.int 0)))) (aCons (mUn dNeg (mIx (mVar 5) (mC (.int 1)))) aNil))) aNil))) (mVar 2)))) (sRet (mC (.bl false))) sNil)))))) (b_law_6 Ps))
noncomputable def b_law_4 (Ps : List Addr) : SM := (sSeq (sExpr (mMth0 "list" gClear (mCallB 1 (m_calls_of Ps) (aCons (mVar 2) aNil)))) (b_law_5 Ps))
noncomputable def b_law_3 (Ps : List Addr) : SM := (sSeq (sIf (mOr (mBin dNe (mCB (g1 dList) (aCons (mCallB 1 (m_parts_of Ps) (aCons (mVar 2) aNil)) aNil)) (mCallA 1 m_l_inside (aCons (mVar 2) aNil))) (mBin dNe (mFrz (mCallB 1 (m_calls_of Ps) (aCons (mVar 2) aNil))) (mCallA 1 (m_l_calls 60) (aCons (mVar 2) aNil)))) (sRet (mC (.bl false))) sNil) (b_law_4 Ps))
noncomputable def b_law_2 (Ps : List Addr) : SM := (sSeq (sAsg (mCB (g1 dRepr) (aCons (mVar 2) aNil)) (gN 3)) (b_law_3 Ps))
noncomputable def b_law_1 (Ps : List Addr) : SM := (sSeq (sAsg (mCallB 2 (m_l_tree 60) (aCons (mVar 1) (aCons (mBin dAdd (mC (.int 1)) (mCallB 2 m_l_take (aCons (mVar 1) (aCons (mC (.int 4)) aNil)))) aNil))) (gN 2)) (b_law_2 Ps))
noncomputable def b_law (Ps : List Addr) : SM := (sSeq (sAsg (mCallB 1 m_l_state (aCons (mVar 0) aNil)) (gN 1)) (b_law_1 Ps))
noncomputable def m_law (Ps : List Addr) : MA := runA 10 (b_law Ps)
end Law
namespace Law
open PySem L2 DL
abbrev s_l_inside : Stmt := topS 23
abbrev n_l_inside : List Str := ["tree"]
theorem sc_l_inside : FnScope n_l_inside ["tree"] (defScope s_l_inside) := ⟨rfl, rfl, rfl, by decide +kernel, rfl, by decide +kernel, by decide +kernel⟩
abbrev s_l_calls : Stmt := topS 24
abbrev n_l_calls : List Str := ["tree", "rows", "part"]
theorem sc_l_calls : FnScope n_l_calls ["tree"] (defScope s_l_calls) := ⟨rfl, rfl, rfl, by decide +kernel, rfl, by decide +kernel, by decide +kernel⟩
abbrev s_l_shifted : Stmt := topS 26
abbrev n_l_shifted : List Str := ["tree", "by", "spot", "part"]
theorem sc_l_shifted : FnScope n_l_shifted ["tree", "by"] (defScope s_l_shifted) := ⟨rfl, rfl, rfl, by decide +kernel, rfl, by decide +kernel, by decide +kernel⟩
abbrev s_l_spots : Stmt := topS 25
abbrev n_l_spots : List Str := ["tree", "rows", "part"]
theorem sc_l_spots : FnScope n_l_spots ["tree"] (defScope s_l_spots) := ⟨rfl, rfl, rfl, by decide +kernel, rfl, by decide +kernel, by decide +kernel⟩
abbrev s_l_state : Stmt := topS 16
abbrev n_l_state : List Str := ["script", "cells", "cell"]
theorem sc_l_state : FnScope n_l_state ["script"] (defScope s_l_state) := ⟨rfl, rfl, rfl, by decide +kernel, rfl, by decide +kernel, by decide +kernel⟩
abbrev s_l_take : Stmt := topS 17
abbrev n_l_take : List Str := ["state", "most", "cells", "at", "cell", "mixed"]
theorem sc_l_take : FnScope n_l_take ["state", "most"] (defScope s_l_take) := ⟨rfl, rfl, rfl, by decide +kernel, rfl, by decide +kernel, by decide +kernel⟩
abbrev s_l_range : Stmt := topS 19
abbrev n_l_range : List Str := ["state", "areas"]
theorem sc_l_range : FnScope n_l_range ["state"] (defScope s_l_range) := ⟨rfl, rfl, rfl, by decide +kernel, rfl, by decide +kernel, by decide +kernel⟩
abbrev s_l_leaf : Stmt := topS 18
abbrev n_l_leaf : List Str := ["state", "kind"]
theorem sc_l_leaf : FnScope n_l_leaf ["state"] (defScope s_l_leaf) := ⟨rfl, rfl, rfl, by decide +kernel, rfl, by decide +kernel, by decide +kernel⟩
abbrev s_l_call : Stmt := topS 21
abbrev n_l_call : List Str := ["state", "depth", "kind", "name", "k"]
theorem sc_l_call : FnScope n_l_call ["state", "depth"] (defScope s_l_call) := ⟨rfl, rfl, rfl, by decide +kernel, rfl, by decide +kernel, by decide +kernel⟩
abbrev s_l_tree : Stmt := topS 22
abbrev n_l_tree : List Str := ["state", "depth", "kind", "sign", "one"]
theorem sc_l_tree : FnScope n_l_tree ["state", "depth"] (defScope s_l_tree) := ⟨rfl, rfl, rfl, by decide +kernel, rfl, by decide +kernel, by decide +kernel⟩
abbrev s_l_wide : Stmt := topS 20
abbrev n_l_wide : List Str := ["state", "depth"]
theorem sc_l_wide : FnScope n_l_wide ["state", "depth"] (defScope s_l_wide) := ⟨rfl, rfl, rfl, by decide +kernel, rfl, by decide +kernel, by decide +kernel⟩
abbrev s_inside : Stmt := topS 2
abbrev n_inside : List Str := ["address", "area", "first", "last"]
theorem sc_inside : FnScope n_inside ["address", "area"] (defScope s_inside) := ⟨rfl, rfl, rfl, by decide +kernel, rfl, by decide +kernel, by decide +kernel⟩
abbrev s_moved_address : Stmt := topS 14
abbrev n_moved_address : List Str := ["address", "by", "goal"]
theorem sc_moved_address : FnScope n_moved_address ["address", "by"] (defScope s_moved_address) := ⟨rfl, rfl, rfl, by decide +kernel, rfl, by decide +kernel, by decide +kernel⟩
abbrev s_moved_part : Stmt := topS 13
abbrev n_moved_part : List Str := ["part", "by", "address", "first", "last"]
theorem sc_moved_part : FnScope n_moved_part ["part", "by"] (defScope s_moved_part) := ⟨rfl, rfl, rfl, by decide +kernel, rfl, by decide +kernel, by decide +kernel⟩
abbrev s_spine_of : Stmt := topS 5
abbrev n_spine_of : List Str := ["tree", "links"]
theorem sc_spine_of : FnScope n_spine_of ["tree"] (defScope s_spine_of) := ⟨rfl, rfl, rfl, by decide +kernel, rfl, by decide +kernel, by decide +kernel⟩
abbrev s_rebuilt_part : Stmt := topS 11
abbrev n_rebuilt_part : List Str := ["part", "change", "inner", "args", "arg"]
theorem sc_rebuilt_part : FnScope n_rebuilt_part ["part", "change"] (defScope s_rebuilt_part) := ⟨rfl, rfl, rfl, by decide +kernel, rfl, by decide +kernel, by decide +kernel⟩
abbrev s_rebuilt : Stmt := topS 10
abbrev n_rebuilt : List Str := ["tree", "change", "first", "links", "made", "sign", "right", "other"]
theorem sc_rebuilt : FnScope n_rebuilt ["tree", "change"] (defScope s_rebuilt) := ⟨rfl, rfl, rfl, by decide +kernel, rfl, by decide +kernel, by decide +kernel⟩
abbrev s_copied : Stmt := topS 9
abbrev n_copied : List Str := ["tree"]
theorem sc_copied : FnScope n_copied ["tree"] (defScope s_copied) := ⟨rfl, rfl, rfl, by decide +kernel, rfl, by decide +kernel, by decide +kernel⟩
abbrev s_inner_parts : Stmt := topS 6
abbrev n_inner_parts : List Str := ["tree"]
theorem sc_inner_parts : FnScope n_inner_parts ["tree"] (defScope s_inner_parts) := ⟨rfl, rfl, rfl, by decide +kernel, rfl, by decide +kernel, by decide +kernel⟩
abbrev s_calls_of : Stmt := topS 8
abbrev n_calls_of : List Str := ["tree", "calls", "waiting", "part"]
theorem sc_calls_of : FnScope n_calls_of ["tree"] (defScope s_calls_of) := ⟨rfl, rfl, rfl, by decide +kernel, rfl, by decide +kernel, by decide +kernel⟩
abbrev s_moved : Stmt := topS 12
abbrev n_moved : List Str := ["tree", "by"]
theorem sc_moved : FnScope n_moved ["tree", "by"] (defScope s_moved) := ⟨rfl, rfl, rfl, by decide +kernel, rfl, by decide +kernel, by decide +kernel⟩
abbrev s_parts_of : Stmt := topS 7
abbrev n_parts_of : List Str := ["tree", "part"]
theorem sc_parts_of : FnScope n_parts_of ["tree"] (defScope s_parts_of) := ⟨rfl, rfl, rfl, by decide +kernel, rfl, by decide +kernel, by decide +kernel⟩
abbrev s_law : Stmt := topS 27
abbrev n_law : List Str := ["script", "state", "tree", "kept", "turn", "by", "due", "column", "row", "told"]
theorem sc_law : FnScope n_law ["script"] (defScope s_law) := ⟨rfl, rfl, rfl, by decide +kernel, rfl, by decide +kernel, by decide +kernel⟩
structure Tx (K : PySem.W.Frag) (w : World) (mg : Str → Option Value) where
  f__law_inside : Df K mg "_law_inside" s_l_inside ["tree"]
  f__law_calls : Df K mg "_law_calls" s_l_calls ["tree"]
  f__law_shifted : Df K mg "_law_shifted" s_l_shifted ["tree", "by"]
  f__law_spots : Df K mg "_law_spots" s_l_spots ["tree"]
  f__law_state : Df K mg "_law_state" s_l_state ["script"]
  f__law_take : Df K mg "_law_take" s_l_take ["state", "most"]
  f__law_range : Df K mg "_law_range" s_l_range ["state"]
  f__law_leaf : Df K mg "_law_leaf" s_l_leaf ["state"]
  f__law_call : Df K mg "_law_call" s_l_call ["state", "depth"]
  f__law_tree : Df K mg "_law_tree" s_l_tree ["state", "depth"]
  f__law_wide : Df K mg "_law_wide" s_l_wide ["state", "depth"]
  f_inside : Df K mg "inside" s_inside ["address", "area"]
  f__moved_address : Df K mg "_moved_address" s_moved_address ["address", "by"]
  f__moved_part : Df K mg "_moved_part" s_moved_part ["part", "by"]
  f_spine_of : Df K mg "spine_of" s_spine_of ["tree"]
  f__rebuilt_part : Df K mg "_rebuilt_part" s_rebuilt_part ["part", "change"]
  f_rebuilt : Df K mg "rebuilt" s_rebuilt ["tree", "change"]
  f__copied : Df K mg "_copied" s_copied ["tree"]
  f_inner_parts : Df K mg "inner_parts" s_inner_parts ["tree"]
  f_calls_of : Df K mg "calls_of" s_calls_of ["tree"]
  f_moved : Df K mg "moved" s_moved ["tree", "by"]
  f_parts_of : Df K mg "parts_of" s_parts_of ["tree"]
  f_law : Df K mg "law" s_law ["script"]
  c_SHEET : GC K mg "SHEET" k_SHEET
  d_RANKS : GD K w mg "RANKS" kd_RANKS
  i_RANKS : GIn K w mg "RANKS" ki_RANKS km_RANKS
  n_abs : mg "abs" = none
  n_int : mg "int" = none
  n_len : mg "len" = none
  n_list : mg "list" = none
  n_range : mg "range" = none
  n_repr : mg "repr" = none
  n_tuple : mg "tuple" = none
  cs : List (Addr × Addr)
  lam__copied : ∃ c, f__copied.fd.code = .ref c ∧ ∃ P, cs[0]? = some (c, P)
  lam_moved : ∃ c, f_moved.fd.code = .ref c ∧ ∃ P, cs[1]? = some (c, P)
section
variable {P : Program} {w : World} {K : PySem.W.Frag} {mg : Str → Option Value} {base : Heap}
theorem ok_l_inside (T : Tx K w mg) : FnOk P w K mg base (L2.CX P w) 1 T.f__law_inside.a T.f__law_inside.fd ["tree"] (spA K 1 m_l_inside) := by
  refine fnA (N := n_l_inside) T.f__law_inside.F sc_l_inside fun cdv A outer s H E hr => ?_
  have nd := sc_l_inside.nd
  have tk := takes_of (X := cxOf (L2.CX P w) P w K mg base n_l_inside "_law_inside" (defScope s_l_inside) T.f__law_inside.a cdv A outer s H E) (E := E) rfl rfl rfl rfl
  exact ⟨_, (dss_cons (ds_if (dt_cmp (od_eq hr.units) bool_dEq (de_ix (de_var 0) de_int) de_str) (dss_one (ds_ret (de_callTy cd_list T.n_list (da_cons (de_ix (de_var 0) de_int) da_nil)))) dss_nil)
  (dss_cons (ds_if (dt_cmp (od_eq hr.units) bool_dEq (de_ix (de_var 0) de_int) de_str) (dss_one (ds_ret (de_lst (da_cons (de_ix (de_var 0) de_int) da_nil)))) dss_nil)
  (dss_cons (ds_if (dt_cmp (od_eq hr.units) bool_dEq (de_callB cd_len T.n_len (da_cons (de_var 0) da_nil)) de_int) (dss_one (ds_ret (de_lst (da_cons (de_ix (de_var 0) de_int) (da_cons (de_ix (de_var 0) de_int) da_nil))))) dss_nil)
  (dss_one (ds_ret (de_lst da_nil))))))⟩
theorem okg_l_calls (T : Tx K w mg) : ∀ j : Nat, (FnOk P w K mg base (L2.CX P w) (1 + j) T.f__law_calls.a T.f__law_calls.fd ["tree"] (spA K 1 (m_l_calls j)))
  | 0 => fn_zeroA
  | j + 1 => by
    have h_l_calls := okg_l_calls T j
    · refine fnA (k := 1 + j) (N := n_l_calls) T.f__law_calls.F sc_l_calls fun cdv A outer s H E hr => ?_
      have nd := sc_l_calls.nd
      have tk := takes_of (X := cxOf (L2.CX P w) P w K mg base n_l_calls "_law_calls" (defScope s_l_calls) T.f__law_calls.a cdv A outer s H E) (E := E) rfl rfl rfl rfl
      exact ⟨_, (dss_cons (ds_set (i := 1) nd (de_lst da_nil))
  (dss_cons (ds_if (dt_cmp (od_eq hr.units) bool_dEq (de_ix (de_var 0) de_int) de_str) (dss_one (ds_set (i := 1) nd (de_lst (da_cons (de_var 0) da_nil)))) dss_nil)
  (dss_cons (ds_for (passes_of rfl) rfl (di_list (de_callA ((ok_l_inside T).mono (by omega)) hr tk T.f__law_inside.m T.f__law_inside.F.kp T.f__law_inside.b (da_cons (de_var 0) da_nil))) (dg_name (i := 2) nd) (dss_one (ds_set (i := 1) nd (de_bin od_add2 (de_var 1) (de_callA h_l_calls hr tk T.f__law_calls.m T.f__law_calls.F.kp T.f__law_calls.b (da_cons (de_var 2) da_nil))))))
  (dss_one (ds_ret (de_var 1))))))⟩
theorem ok_l_calls (T : Tx K w mg) (j : Nat) : FnOk P w K mg base (L2.CX P w) (1 + j) T.f__law_calls.a T.f__law_calls.fd ["tree"] (spA K 1 (m_l_calls j)) := (okg_l_calls T j)
theorem okg_l_shifted (T : Tx K w mg) : ∀ j : Nat, (FnOk P w K mg base (L2.CX P w) (1 + j) T.f__law_shifted.a T.f__law_shifted.fd ["tree", "by"] (spA K 2 (m_l_shifted j)))
  | 0 => fn_zeroA
  | j + 1 => by
    have h_l_shifted := okg_l_shifted T j
    · refine fnA (k := 1 + j) (N := n_l_shifted) T.f__law_shifted.F sc_l_shifted fun cdv A outer s H E hr => ?_
      have nd := sc_l_shifted.nd
      have tk := takes_of (X := cxOf (L2.CX P w) P w K mg base n_l_shifted "_law_shifted" (defScope s_l_shifted) T.f__law_shifted.a cdv A outer s H E) (E := E) rfl rfl rfl rfl
      exact ⟨_, (dss_cons (ds_if (dt_cmp (od_eq hr.units) bool_dEq (de_ix (de_var 0) de_int) de_str) (dss_one (ds_ret (de_tup (da_cons de_str (da_cons (de_tup (da_cons (de_bin od_add (de_ix (de_ix (de_var 0) de_int) de_int) (de_ix (de_var 1) de_int)) (da_cons (de_bin od_add (de_ix (de_ix (de_var 0) de_int) de_int) (de_ix (de_var 1) de_int)) da_nil))) da_nil))))) dss_nil)
  (dss_cons (ds_if (dt_cmp (od_eq hr.units) bool_dEq (de_ix (de_var 0) de_int) de_str) (dss_one (ds_ret (de_tup (da_cons de_str (da_cons (de_callTy cd_tuple T.n_tuple (da_cons (de_lc nd rfl (di_tup (de_ix (de_var 0) de_int)) (blkOk_by (own := [((PySem.Str.ofString "spot"), 2)]) (N := n_l_shifted) (sc := defScope s_l_shifted) (by decide +kernel)) (fun _ _ _ _ _ => (dg_name (i := 2) nd)) (fun _ _ _ _ _ => dpt_nil) (fun _ _ _ _ _ => (de_tup (da_cons (de_bin od_add (de_ix (de_var 2) de_int) (de_ix (de_var 1) de_int)) (da_cons (de_bin od_add (de_ix (de_var 2) de_int) (de_ix (de_var 1) de_int)) da_nil))))) da_nil)) da_nil))))) dss_nil)
  (dss_cons (ds_if (dt_cmp (od_eq hr.units) bool_dEq (de_ix (de_var 0) de_int) de_str) (dss_one (ds_ret (de_tup (da_cons de_str (da_cons (de_ix (de_var 0) de_int) (da_cons (de_lc nd rfl (di_list (de_ix (de_var 0) de_int)) (blkOk_by (own := [((PySem.Str.ofString "part"), 3)]) (N := n_l_shifted) (sc := defScope s_l_shifted) (by decide +kernel)) (fun _ _ _ _ _ => (dg_name (i := 3) nd)) (fun _ _ _ _ _ => dpt_nil) (fun _ _ _ _ _ => (de_callA h_l_shifted hr takes0 T.f__law_shifted.m T.f__law_shifted.F.kp T.f__law_shifted.b (da_cons (de_var 3) (da_cons (de_var 1) da_nil))))) da_nil)))))) dss_nil)
  (dss_cons (ds_if (dt_cmp (od_in (units65 hr)) bool_dIn (de_ix (de_var 0) de_int) (de_lst (da_cons de_str (da_cons de_str (da_cons de_str da_nil))))) (dss_one (ds_ret (de_var 0))) dss_nil)
  (dss_one (ds_ret (de_bin od_catT (de_tup (da_cons (de_ix (de_var 0) de_int) da_nil)) (de_callTy cd_tuple T.n_tuple (da_cons (de_lc nd rfl (di_list (de_callA ((ok_l_inside T).mono (by omega)) hr tk T.f__law_inside.m T.f__law_inside.F.kp T.f__law_inside.b (da_cons (de_var 0) da_nil))) (blkOk_by (own := [((PySem.Str.ofString "part"), 3)]) (N := n_l_shifted) (sc := defScope s_l_shifted) (by decide +kernel)) (fun _ _ _ _ _ => (dg_name (i := 3) nd)) (fun _ _ _ _ _ => dpt_nil) (fun _ _ _ _ _ => (de_callA h_l_shifted hr takes0 T.f__law_shifted.m T.f__law_shifted.F.kp T.f__law_shifted.b (da_cons (de_var 3) (da_cons (de_var 1) da_nil))))) da_nil)))))))))⟩
theorem ok_l_shifted (T : Tx K w mg) (j : Nat) : FnOk P w K mg base (L2.CX P w) (1 + j) T.f__law_shifted.a T.f__law_shifted.fd ["tree", "by"] (spA K 2 (m_l_shifted j)) := (okg_l_shifted T j)
theorem okg_l_spots (T : Tx K w mg) : ∀ j : Nat, (FnOk P w K mg base (L2.CX P w) (1 + j) T.f__law_spots.a T.f__law_spots.fd ["tree"] (spA K 1 (m_l_spots j)))
  | 0 => fn_zeroA
  | j + 1 => by
    have h_l_spots := okg_l_spots T j
    · refine fnA (k := 1 + j) (N := n_l_spots) T.f__law_spots.F sc_l_spots fun cdv A outer s H E hr => ?_
      have nd := sc_l_spots.nd
      have tk := takes_of (X := cxOf (L2.CX P w) P w K mg base n_l_spots "_law_spots" (defScope s_l_spots) T.f__law_spots.a cdv A outer s H E) (E := E) rfl rfl rfl rfl
      exact ⟨_, (dss_cons (ds_if (dt_cmp (od_eq hr.units) bool_dEq (de_ix (de_var 0) de_int) de_str) (dss_one (ds_ret (de_lst (da_cons (de_ix (de_var 0) de_int) da_nil)))) dss_nil)
  (dss_cons (ds_if (dt_cmp (od_eq hr.units) bool_dEq (de_ix (de_var 0) de_int) de_str) (dss_one (ds_ret (de_callTy cd_list T.n_list (da_cons (de_ix (de_var 0) de_int) da_nil)))) dss_nil)
  (dss_cons (ds_set (i := 1) nd (de_lst da_nil))
  (dss_cons (ds_for (passes_of rfl) rfl (di_list (de_callA ((ok_l_inside T).mono (by omega)) hr tk T.f__law_inside.m T.f__law_inside.F.kp T.f__law_inside.b (da_cons (de_var 0) da_nil))) (dg_name (i := 2) nd) (dss_one (ds_set (i := 1) nd (de_bin od_add2 (de_var 1) (de_callA h_l_spots hr tk T.f__law_spots.m T.f__law_spots.F.kp T.f__law_spots.b (da_cons (de_var 2) da_nil))))))
  (dss_one (ds_ret (de_var 1)))))))⟩
theorem ok_l_spots (T : Tx K w mg) (j : Nat) : FnOk P w K mg base (L2.CX P w) (1 + j) T.f__law_spots.a T.f__law_spots.fd ["tree"] (spA K 1 (m_l_spots j)) := (okg_l_spots T j)
theorem ok_l_state (T : Tx K w mg) : FnOk P w K mg base (L2.CX P w) 1 T.f__law_state.a T.f__law_state.fd ["script"] (spB K 1 m_l_state) := by
  refine fnB (N := n_l_state) T.f__law_state.F sc_l_state fun cdv A outer s H E hr => ?_
  have nd := sc_l_state.nd
  have tk := takes_of (X := cxOf (L2.CX P w) P w K mg base n_l_state "_law_state" (defScope s_l_state) T.f__law_state.a cdv A outer s H E) (E := E) rfl rfl rfl rfl
  exact ⟨_, (dss_cons (ds_setLcO (i := 1) nd rfl (di_list (de_sl (de_var 0) dp_none (dp_some de_int))) (blkOk_by (own := [((PySem.Str.ofString "cell"), 2)]) (N := n_l_state) (sc := defScope s_l_state) (by decide +kernel)) (fun _ _ _ _ _ => (dg_name (i := 2) nd)) (fun _ _ _ _ _ => dpt_nil) (fun _ _ _ _ _ => (de_callB cd_abs T.n_abs (da_cons (de_var 2) da_nil))))
  (dss_cons (ds_if (dt_cmp (od_eq hr.units) bool_dEq (de_callB cd_len T.n_len (da_cons (de_var 1) da_nil)) de_int) (dss_one (ds_set (i := 1) nd (de_lstO (da_cons de_int da_nil)))) dss_nil)
  (dss_one (ds_ret (de_lstO (da_cons de_int (da_cons (de_var 1) da_nil)))))))⟩
theorem ok_l_take (T : Tx K w mg) : FnOk P w K mg base (L2.CX P w) 1 T.f__law_take.a T.f__law_take.fd ["state", "most"] (spB K 2 m_l_take) := by
  refine fnB (N := n_l_take) T.f__law_take.F sc_l_take fun cdv A outer s H E hr => ?_
  have nd := sc_l_take.nd
  have tk := takes_of (X := cxOf (L2.CX P w) P w K mg base n_l_take "_law_take" (defScope s_l_take) T.f__law_take.a cdv A outer s H E) (E := E) rfl rfl rfl rfl
  exact ⟨_, (dss_cons (ds_if (dt_cmp od_lt bool_dIb (de_var 1) de_int) (dss_one (ds_ret de_int)) dss_nil)
  (dss_cons (ds_set (i := 2) nd (de_ix (de_var 0) de_int))
  (dss_cons (ds_set (i := 3) nd (de_bin od_mod (de_ix (de_var 0) de_int) (de_callB cd_len T.n_len (da_cons (de_var 2) da_nil))))
  (dss_cons (ds_set (i := 4) nd (de_ix (de_var 2) (de_var 3)))
  (dss_cons (ds_if (dt_cmp od_ge bool_dIb (de_var 4) de_int) (dss_cons (ds_asg (de_bin od_fdiv (de_var 4) (de_var 1)) (dg_set (de_var 2) (de_var 3)))
  (dss_one (ds_ret (de_bin od_mod (de_var 4) (de_var 1))))) dss_nil)
  (dss_cons (ds_asg (de_bin od_add (de_ix (de_var 0) de_int) de_int) (dg_set (de_var 0) de_int))
  (dss_cons (ds_set (i := 5) nd (de_bin od_mod (de_callTy cd_int T.n_int (da_cons (de_bin od_add (de_bin od_mul (de_var 4) de_int) (de_bin od_mul (de_ix (de_var 0) de_int) de_int)) da_nil)) de_int))
  (dss_cons (ds_set (i := 5) nd (de_bin od_mod (de_callTy cd_int T.n_int (da_cons (de_bin od_add (de_bin od_mul (de_var 5) de_int) (de_bin od_mul (de_ix (de_var 0) de_int) de_int)) da_nil)) de_int))
  (dss_one (ds_ret (de_bin od_mod (de_bin od_fdiv (de_var 5) de_int) (de_var 1))))))))))))⟩
theorem ok_l_range (T : Tx K w mg) : FnOk P w K mg base (L2.CX P w) 2 T.f__law_range.a T.f__law_range.fd ["state"] (spB K 1 m_l_range) := by
  refine fnB (N := n_l_range) T.f__law_range.F sc_l_range fun cdv A outer s H E hr => ?_
  have nd := sc_l_range.nd
  have tk := takes_of (X := cxOf (L2.CX P w) P w K mg base n_l_range "_law_range" (defScope s_l_range) T.f__law_range.a cdv A outer s H E) (E := E) rfl rfl rfl rfl
  exact ⟨_, (dss_cons (ds_set (i := 1) nd (de_lst (da_cons (de_tup (da_cons (de_tup (da_cons de_int (da_cons de_int da_nil))) (da_cons (de_tup (da_cons de_int (da_cons de_int da_nil))) da_nil))) (da_cons (de_tup (da_cons (de_tup (da_cons de_int (da_cons de_int da_nil))) (da_cons (de_tup (da_cons de_int (da_cons de_int da_nil))) da_nil))) (da_cons (de_tup (da_cons (de_tup (da_cons de_int (da_cons de_int da_nil))) (da_cons (de_tup (da_cons de_int (da_cons de_int da_nil))) da_nil))) (da_cons (de_tup (da_cons (de_tup (da_cons de_int (da_cons de_int da_nil))) (da_cons (de_tup (da_cons de_int (da_cons de_int da_nil))) da_nil))) (da_cons (de_tup (da_cons (de_tup (da_cons de_int (da_cons de_int da_nil))) (da_cons (de_tup (da_cons de_int (da_cons de_int da_nil))) da_nil))) da_nil)))))))
  (dss_cons (ds_if (dt_cmp (od_eq hr.units) bool_dEq (de_callB' ((ok_l_take T).mono (by decide)) hr tk T.f__law_take.m T.f__law_take.F.kp T.f__law_take.b (da_cons (de_var 0) (da_cons de_int da_nil))) de_int) (dss_one (ds_ret (de_tup (da_cons de_str (da_cons (de_ix (de_var 1) (de_callB' ((ok_l_take T).mono (by decide)) hr tk T.f__law_take.m T.f__law_take.F.kp T.f__law_take.b (da_cons (de_var 0) (da_cons de_int da_nil)))) da_nil))))) dss_nil)
  (dss_one (ds_ret (de_tup (da_cons de_str (da_cons (de_ix (de_var 1) (de_ix (de_lst (da_cons de_int (da_cons de_int (da_cons de_int (da_cons de_int da_nil))))) (de_callB' ((ok_l_take T).mono (by decide)) hr tk T.f__law_take.m T.f__law_take.F.kp T.f__law_take.b (da_cons (de_var 0) (da_cons de_int da_nil))))) da_nil)))))))⟩
theorem ok_l_leaf (T : Tx K w mg) : FnOk P w K mg base (L2.CX P w) 2 T.f__law_leaf.a T.f__law_leaf.fd ["state"] (spB K 1 m_l_leaf) := by
  refine fnB (N := n_l_leaf) T.f__law_leaf.F sc_l_leaf fun cdv A outer s H E hr => ?_
  have nd := sc_l_leaf.nd
  have tk := takes_of (X := cxOf (L2.CX P w) P w K mg base n_l_leaf "_law_leaf" (defScope s_l_leaf) T.f__law_leaf.a cdv A outer s H E) (E := E) rfl rfl rfl rfl
  exact ⟨_, (dss_cons (ds_set (i := 1) nd (de_callB' ((ok_l_take T).mono (by decide)) hr tk T.f__law_take.m T.f__law_take.F.kp T.f__law_take.b (da_cons (de_var 0) (da_cons de_int da_nil))))
  (dss_cons (ds_if (dt_cmp od_lt bool_dIb (de_var 1) de_int) (dss_one (ds_ret (de_tup (da_cons de_str (da_cons (de_ix (de_lst (da_cons (de_tup (da_cons de_int (da_cons de_int da_nil))) (da_cons (de_tup (da_cons de_int (da_cons de_int da_nil))) (da_cons (de_tup (da_cons de_int (da_cons de_int da_nil))) (da_cons (de_tup (da_cons de_int (da_cons de_int da_nil))) (da_cons (de_tup (da_cons de_int (da_cons de_int da_nil))) (da_cons (de_tup (da_cons de_int (da_cons de_int da_nil))) da_nil))))))) (de_callB' ((ok_l_take T).mono (by decide)) hr tk T.f__law_take.m T.f__law_take.F.kp T.f__law_take.b (da_cons (de_var 0) (da_cons de_int da_nil)))) da_nil))))) dss_nil)
  (dss_cons (ds_if (dt_cmp od_lt bool_dIb (de_var 1) de_int) (dss_one (ds_ret (de_tup (da_cons de_str (da_cons (de_ix (de_lst (da_cons de_int (da_cons de_int (da_cons de_int (da_cons de_int (da_cons de_int (da_cons de_int (da_cons de_int da_nil)))))))) (de_callB' ((ok_l_take T).mono (by decide)) hr tk T.f__law_take.m T.f__law_take.F.kp T.f__law_take.b (da_cons (de_var 0) (da_cons de_int da_nil)))) da_nil))))) dss_nil)
  (dss_cons (ds_if (dt_cmp (od_eq hr.units) bool_dEq (de_var 1) de_int) (dss_one (ds_ret (de_tup (da_cons de_str (da_cons (de_cmp (od_eq hr.units) (de_callB' ((ok_l_take T).mono (by decide)) hr tk T.f__law_take.m T.f__law_take.F.kp T.f__law_take.b (da_cons (de_var 0) (da_cons de_int da_nil))) de_int) da_nil))))) dss_nil)
  (dss_one (ds_ret (de_tup (da_cons de_str (da_cons (de_ix (de_lst (da_cons de_str (da_cons de_str (da_cons de_str (da_cons de_str (da_cons de_str (da_cons de_str (da_cons de_str (da_cons (de_bin od_mulS de_str de_int) da_nil))))))))) (de_callB' ((ok_l_take T).mono (by decide)) hr tk T.f__law_take.m T.f__law_take.F.kp T.f__law_take.b (da_cons (de_var 0) (da_cons de_int da_nil)))) da_nil)))))))))⟩
theorem okg_l_call (T : Tx K w mg) : ∀ j : Nat, (FnOk P w K mg base (L2.CX P w) (2 + j) T.f__law_call.a T.f__law_call.fd ["state", "depth"] (spB K 2 (m_l_call j))) ∧ (FnOk P w K mg base (L2.CX P w) (2 + j) T.f__law_tree.a T.f__law_tree.fd ["state", "depth"] (spB K 2 (m_l_tree j))) ∧ (FnOk P w K mg base (L2.CX P w) (2 + j) T.f__law_wide.a T.f__law_wide.fd ["state", "depth"] (spB K 2 (m_l_wide j)))
  | 0 => ⟨fn_zeroB, fn_zeroB, fn_zeroB⟩
  | j + 1 => by
    obtain ⟨h_l_call, h_l_tree, h_l_wide⟩ := okg_l_call T j
    refine ⟨?_, ?_, ?_⟩
    · refine fnB (k := 2 + j) (N := n_l_call) T.f__law_call.F sc_l_call fun cdv A outer s H E hr => ?_
      have nd := sc_l_call.nd
      have tk := takes_of (X := cxOf (L2.CX P w) P w K mg base n_l_call "_law_call" (defScope s_l_call) T.f__law_call.a cdv A outer s H E) (E := E) rfl rfl rfl rfl
      exact ⟨_, (dss_cons (ds_set (i := 2) nd (de_callB' ((ok_l_take T).mono (by omega)) hr tk T.f__law_take.m T.f__law_take.F.kp T.f__law_take.b (da_cons (de_var 0) (da_cons de_int da_nil))))
  (dss_cons (ds_if (dt_cmp od_lt bool_dIb (de_var 2) de_int) (dss_cons (ds_set (i := 3) nd (de_ix (de_lst (da_cons de_str (da_cons de_str (da_cons de_str (da_cons de_str (da_cons de_str (da_cons de_str (da_cons de_str (da_cons de_str da_nil))))))))) (de_callB' ((ok_l_take T).mono (by omega)) hr tk T.f__law_take.m T.f__law_take.F.kp T.f__law_take.b (da_cons (de_var 0) (da_cons de_int da_nil)))))
  (dss_one (ds_ret (de_tup (da_cons de_str (da_cons (de_var 3) (da_cons (de_lc nd rfl (di_range1 T.n_range (da_cons (de_ix (de_lst (da_cons de_int (da_cons de_int (da_cons de_int (da_cons de_int (da_cons de_int (da_cons de_int da_nil))))))) (de_callB' ((ok_l_take T).mono (by omega)) hr tk T.f__law_take.m T.f__law_take.F.kp T.f__law_take.b (da_cons (de_var 0) (da_cons de_int da_nil)))) da_nil)) (blkOk_by (own := [((PySem.Str.ofString "k"), 4)]) (N := n_l_call) (sc := defScope s_l_call) (by decide +kernel)) (fun _ _ _ _ _ => (dg_name (i := 4) nd)) (fun _ _ _ _ _ => dpt_nil) (fun _ _ _ _ _ => (de_callB' h_l_wide hr takes0 T.f__law_wide.m T.f__law_wide.F.kp T.f__law_wide.b (da_cons (de_var 0) (da_cons (de_var 1) da_nil))))) da_nil))))))) dss_nil)
  (dss_cons (ds_if (dt_cmp od_lt bool_dIb (de_var 2) de_int) (dss_cons (ds_set (i := 3) nd (de_ix (de_lst (da_cons de_str (da_cons de_str (da_cons de_str (da_cons de_str (da_cons de_str da_nil)))))) (de_callB' ((ok_l_take T).mono (by omega)) hr tk T.f__law_take.m T.f__law_take.F.kp T.f__law_take.b (da_cons (de_var 0) (da_cons de_int da_nil)))))
  (dss_cons (ds_if (dt_cmp (od_eq hr.units) bool_dEq (de_callB' ((ok_l_take T).mono (by omega)) hr tk T.f__law_take.m T.f__law_take.F.kp T.f__law_take.b (da_cons (de_var 0) (da_cons de_int da_nil))) de_int) (dss_one (ds_ret (de_tup (da_cons de_str (da_cons (de_var 3) (da_cons (de_lst (da_cons (de_tup (da_cons de_str (da_cons (de_tup (da_cons (de_callB' ((ok_l_take T).mono (by omega)) hr tk T.f__law_take.m T.f__law_take.F.kp T.f__law_take.b (da_cons (de_var 0) (da_cons de_int da_nil))) (da_cons de_int da_nil))) da_nil))) da_nil)) da_nil)))))) dss_nil)
  (dss_one (ds_ret (de_tup (da_cons de_str (da_cons (de_var 3) (da_cons (de_lst (da_cons (de_callB' ((ok_l_range T).mono (by omega)) hr tk T.f__law_range.m T.f__law_range.F.kp T.f__law_range.b (da_cons (de_var 0) da_nil)) da_nil)) da_nil)))))))) dss_nil)
  (dss_cons (ds_if (dt_cmp od_lt bool_dIb (de_var 2) de_int) (dss_one (ds_ret (de_tup (da_cons de_str (da_cons de_str (da_cons (de_lc nd rfl (di_range1 T.n_range (da_cons de_int da_nil)) (blkOk_by (own := [((PySem.Str.ofString "k"), 4)]) (N := n_l_call) (sc := defScope s_l_call) (by decide +kernel)) (fun _ _ _ _ _ => (dg_name (i := 4) nd)) (fun _ _ _ _ _ => dpt_nil) (fun _ _ _ _ _ => (de_callB' h_l_tree hr takes0 T.f__law_tree.m T.f__law_tree.F.kp T.f__law_tree.b (da_cons (de_var 0) (da_cons (de_var 1) da_nil))))) da_nil)))))) dss_nil)
  (dss_cons (ds_if (dt_cmp (od_eq hr.units) bool_dEq (de_var 2) de_int) (dss_one (ds_ret (de_tup (da_cons de_str (da_cons (de_ix (de_lst (da_cons de_str (da_cons de_str da_nil))) (de_callB' ((ok_l_take T).mono (by omega)) hr tk T.f__law_take.m T.f__law_take.F.kp T.f__law_take.b (da_cons (de_var 0) (da_cons de_int da_nil)))) (da_cons (de_lst (da_cons (de_callB' h_l_tree hr tk T.f__law_tree.m T.f__law_tree.F.kp T.f__law_tree.b (da_cons (de_var 0) (da_cons (de_var 1) da_nil))) (da_cons (de_callB' h_l_tree hr tk T.f__law_tree.m T.f__law_tree.F.kp T.f__law_tree.b (da_cons (de_var 0) (da_cons (de_var 1) da_nil))) da_nil))) da_nil)))))) dss_nil)
  (dss_one (ds_ret (de_tup (da_cons de_str (da_cons (de_ix (de_lst (da_cons de_str (da_cons de_str (da_cons de_str da_nil)))) (de_callB' ((ok_l_take T).mono (by omega)) hr tk T.f__law_take.m T.f__law_take.F.kp T.f__law_take.b (da_cons (de_var 0) (da_cons de_int da_nil)))) (da_cons (de_lst (da_cons (de_callB' h_l_tree hr tk T.f__law_tree.m T.f__law_tree.F.kp T.f__law_tree.b (da_cons (de_var 0) (da_cons (de_var 1) da_nil))) da_nil)) da_nil)))))))))))⟩
    · refine fnB (k := 2 + j) (N := n_l_tree) T.f__law_tree.F sc_l_tree fun cdv A outer s H E hr => ?_
      have nd := sc_l_tree.nd
      have tk := takes_of (X := cxOf (L2.CX P w) P w K mg base n_l_tree "_law_tree" (defScope s_l_tree) T.f__law_tree.a cdv A outer s H E) (E := E) rfl rfl rfl rfl
      exact ⟨_, (dss_cons (ds_set (i := 2) nd (de_callB' ((ok_l_take T).mono (by omega)) hr tk T.f__law_take.m T.f__law_take.F.kp T.f__law_take.b (da_cons (de_var 0) (da_cons de_int da_nil))))
  (dss_cons (ds_if (dt_w (dw_or (dt_cmp (od_eq hr.units) bool_dEq (de_var 1) de_int) (dw_or1 (dt_cmp od_lt bool_dIb (de_var 2) de_int)))) (dss_one (ds_ret (de_callB' ((ok_l_leaf T).mono (by omega)) hr tk T.f__law_leaf.m T.f__law_leaf.F.kp T.f__law_leaf.b (da_cons (de_var 0) da_nil)))) dss_nil)
  (dss_cons (ds_if (dt_cmp (od_eq hr.units) bool_dEq (de_var 2) de_int) (dss_one (ds_ret (de_tup (da_cons de_str (da_cons (de_callB' h_l_tree hr tk T.f__law_tree.m T.f__law_tree.F.kp T.f__law_tree.b (da_cons (de_var 0) (da_cons (de_bin od_sub (de_var 1) de_int) da_nil))) da_nil))))) dss_nil)
  (dss_cons (ds_if (dt_cmp od_lt bool_dIb (de_var 2) de_int) (dss_one (ds_ret (de_callB' h_l_call hr tk T.f__law_call.m T.f__law_call.F.kp T.f__law_call.b (da_cons (de_var 0) (da_cons (de_bin od_sub (de_var 1) de_int) da_nil))))) dss_nil)
  (dss_cons (ds_set (i := 3) nd (de_ix (de_lst (da_cons de_str (da_cons de_str (da_cons de_str (da_cons de_str (da_cons de_str (da_cons de_str (da_cons de_str (da_cons de_str (da_cons de_str da_nil)))))))))) (de_callB' ((ok_l_take T).mono (by omega)) hr tk T.f__law_take.m T.f__law_take.F.kp T.f__law_take.b (da_cons (de_var 0) (da_cons de_int da_nil)))))
  (dss_cons (ds_set (i := 4) nd (de_callB' h_l_tree hr tk T.f__law_tree.m T.f__law_tree.F.kp T.f__law_tree.b (da_cons (de_var 0) (da_cons (de_bin od_sub (de_var 1) de_int) da_nil))))
  (dss_one (ds_ret (de_tup (da_cons (de_var 3) (da_cons (de_var 4) (da_cons (de_callB' h_l_tree hr tk T.f__law_tree.m T.f__law_tree.F.kp T.f__law_tree.b (da_cons (de_var 0) (da_cons (de_bin od_sub (de_var 1) de_int) da_nil))) da_nil))))))))))))⟩
    · refine fnB (k := 2 + j) (N := n_l_wide) T.f__law_wide.F sc_l_wide fun cdv A outer s H E hr => ?_
      have nd := sc_l_wide.nd
      have tk := takes_of (X := cxOf (L2.CX P w) P w K mg base n_l_wide "_law_wide" (defScope s_l_wide) T.f__law_wide.a cdv A outer s H E) (E := E) rfl rfl rfl rfl
      exact ⟨_, (dss_cons (ds_if (dt_cmp (od_eq hr.units) bool_dEq (de_callB' ((ok_l_take T).mono (by omega)) hr tk T.f__law_take.m T.f__law_take.F.kp T.f__law_take.b (da_cons (de_var 0) (da_cons de_int da_nil))) de_int) (dss_one (ds_ret (de_callB' ((ok_l_range T).mono (by omega)) hr tk T.f__law_range.m T.f__law_range.F.kp T.f__law_range.b (da_cons (de_var 0) da_nil)))) dss_nil)
  (dss_one (ds_ret (de_callB' h_l_tree hr tk T.f__law_tree.m T.f__law_tree.F.kp T.f__law_tree.b (da_cons (de_var 0) (da_cons (de_var 1) da_nil))))))⟩
theorem ok_l_call (T : Tx K w mg) (j : Nat) : FnOk P w K mg base (L2.CX P w) (2 + j) T.f__law_call.a T.f__law_call.fd ["state", "depth"] (spB K 2 (m_l_call j)) := (okg_l_call T j).1
theorem ok_l_tree (T : Tx K w mg) (j : Nat) : FnOk P w K mg base (L2.CX P w) (2 + j) T.f__law_tree.a T.f__law_tree.fd ["state", "depth"] (spB K 2 (m_l_tree j)) := (okg_l_call T j).2.1
theorem ok_l_wide (T : Tx K w mg) (j : Nat) : FnOk P w K mg base (L2.CX P w) (2 + j) T.f__law_wide.a T.f__law_wide.fd ["state", "depth"] (spB K 2 (m_l_wide j)) := (okg_l_call T j).2.2
theorem ok_inside (T : Tx K w mg) : FnOk P w K mg base (L2.CX P w) 1 T.f_inside.a T.f_inside.fd ["address", "area"] (spA K 2 m_inside) := by
  refine fnA (N := n_inside) T.f_inside.F sc_inside fun cdv A outer s H E hr => ?_
  have nd := sc_inside.nd
  have tk := takes_of (X := cxOf (L2.CX P w) P w K mg base n_inside "inside" (defScope s_inside) T.f_inside.a cdv A outer s H E) (E := E) rfl rfl rfl rfl
  exact ⟨_, (dss_cons (ds_asg (de_var 1) (dg_tup rfl (dgs_cons (dg_name (i := 2) nd) (dgs_cons (dg_name (i := 3) nd) dgs_nil))))
  (dss_one (ds_ret (de_and (de_chain od_le od_le (de_ix (de_var 2) de_int) (de_ix (de_var 0) de_int) (de_ix (de_var 3) de_int)) (de_one (de_chain od_le od_le (de_ix (de_var 2) de_int) (de_ix (de_var 0) de_int) (de_ix (de_var 3) de_int)))))))⟩
theorem ok_moved_address (T : Tx K w mg) : FnOk P w K mg base (L2.CX P w) 2 T.f__moved_address.a T.f__moved_address.fd ["address", "by"] (spA K 2 m_moved_address) := by
  refine fnA (N := n_moved_address) T.f__moved_address.F sc_moved_address fun cdv A outer s H E hr => ?_
  have nd := sc_moved_address.nd
  have tk := takes_of (X := cxOf (L2.CX P w) P w K mg base n_moved_address "_moved_address" (defScope s_moved_address) T.f__moved_address.a cdv A outer s H E) (E := E) rfl rfl rfl rfl
  exact ⟨_, (dss_cons (ds_set (i := 2) nd (de_tup (da_cons (de_bin od_add (de_ix (de_var 0) de_int) (de_ix (de_var 1) de_int)) (da_cons (de_bin od_add (de_ix (de_var 0) de_int) (de_ix (de_var 1) de_int)) da_nil))))
  (dss_one (ds_ret (de_ifE (dt_tru (de_callA ((ok_inside T).mono (by decide)) hr tk T.f_inside.m T.f_inside.F.kp T.f_inside.b (da_cons (de_var 2) (da_cons (de_gc T.c_SHEET) da_nil)))) (de_var 2) de_non))))⟩
theorem ok_moved_part (T : Tx K w mg) : FnOk P w K mg base (L2.CX P w) 3 T.f__moved_part.a T.f__moved_part.fd ["part", "by"] (spA K 2 m_moved_part) := by
  refine fnA (N := n_moved_part) T.f__moved_part.F sc_moved_part fun cdv A outer s H E hr => ?_
  have nd := sc_moved_part.nd
  have tk := takes_of (X := cxOf (L2.CX P w) P w K mg base n_moved_part "_moved_part" (defScope s_moved_part) T.f__moved_part.a cdv A outer s H E) (E := E) rfl rfl rfl rfl
  exact ⟨_, (dss_cons (ds_if (dt_cmp (od_eq hr.units) bool_dEq (de_ix (de_var 0) de_int) de_str) (dss_cons (ds_set (i := 2) nd (de_callA ((ok_moved_address T).mono (by decide)) hr tk T.f__moved_address.m T.f__moved_address.F.kp T.f__moved_address.b (da_cons (de_ix (de_var 0) de_int) (da_cons (de_var 1) da_nil))))
  (dss_one (ds_ret (de_ifE (dt_isN (de_var 2)) de_non (de_tup (da_cons de_str (da_cons (de_var 2) da_nil))))))) dss_nil)
  (dss_cons (ds_set (i := 3) nd (de_callA ((ok_moved_address T).mono (by decide)) hr tk T.f__moved_address.m T.f__moved_address.F.kp T.f__moved_address.b (da_cons (de_ix (de_ix (de_var 0) de_int) de_int) (da_cons (de_var 1) da_nil))))
  (dss_cons (ds_set (i := 4) nd (de_callA ((ok_moved_address T).mono (by decide)) hr tk T.f__moved_address.m T.f__moved_address.F.kp T.f__moved_address.b (da_cons (de_ix (de_ix (de_var 0) de_int) de_int) (da_cons (de_var 1) da_nil))))
  (dss_one (ds_ret (de_ifE (dt_w (dw_or (dt_isN (de_var 3)) (dw_or1 (dt_isN (de_var 4))))) de_non (de_tup (da_cons de_str (da_cons (de_tup (da_cons (de_var 3) (da_cons (de_var 4) da_nil))) da_nil)))))))))⟩
theorem ok_spine_of (T : Tx K w mg) : FnOk P w K mg base (L2.CX P w) 1 T.f_spine_of.a T.f_spine_of.fd ["tree"] (spA K 1 m_spine_of) := by
  refine fnA (N := n_spine_of) T.f_spine_of.F sc_spine_of fun cdv A outer s H E hr => ?_
  have nd := sc_spine_of.nd
  have tk := takes_of (X := cxOf (L2.CX P w) P w K mg base n_spine_of "spine_of" (defScope s_spine_of) T.f_spine_of.a cdv A outer s H E) (E := E) rfl rfl rfl rfl
  exact ⟨_, (dss_cons (ds_set (i := 1) nd (de_lstO da_nil))
  (dss_cons (ds_while 1000000 (passes_of rfl) (dt_inKd T.i_RANKS (de_ix (de_var 0) de_int)) (dss_cons (ds_expr (de_mth md_app (de_var 1) (da_cons (de_tup (da_cons (de_ix (de_var 0) de_int) (da_cons (de_ix (de_var 0) de_int) da_nil))) da_nil) PySem.F.plainAttrs_list PySem.F.slot_list_append PySem.F.type_list_append))
  (dss_one (ds_set (i := 0) nd (de_ix (de_var 0) de_int)))))
  (dss_one (ds_ret (de_tup (da_cons (de_var 0) (da_cons (de_revL (de_frz (de_var 1))) da_nil)))))))⟩
theorem okl_0 (T : Tx K w mg) : CloOk P w K mg base 1 1 lam_0 ml_0 := ⟨["part"], rfl, fun a c cl =>
  lamC (N := ["part"]) (show NdefX.NScope ["part"] ["part"] [] lam_0.scope from NdefX.nscope_by (by decide +kernel)) (fun _ _ us hl => match us, hl with | [_], _ => rfl) (fun A outer s H E hr => ⟨_, (de_var 0)⟩)⟩
theorem okl_1 (T : Tx K w mg) : CloOk P w K mg base 4 1 lam_1 ml_1 := ⟨["part"], rfl, fun a c cl =>
  lamC (N := ["part", "by"]) (show NdefX.NScope ["part", "by"] ["part"] ["by"] lam_1.scope from NdefX.nscope_by (by decide +kernel)) (fun _ _ us hl => match us, hl with | [_], _ => rfl) (fun A outer s H E hr => ⟨_, (de_callA ((ok_moved_part T).mono (by decide)) hr takes0 T.f__moved_part.m T.f__moved_part.F.kp T.f__moved_part.b (da_cons (de_var 0) (da_cons (de_var 1) da_nil)))⟩)⟩
theorem ok_clo (T : Tx K w mg) : ∀ L m, tbm cloT L = some m → CloOk P w K mg base 4 1 L m := fun L m h => by
  rcases tbm_cases h with ⟨rfl, rfl⟩ | h
  · exact (okl_0 T).mono (by decide)
  rcases tbm_cases h with ⟨rfl, rfl⟩ | h
  · exact (okl_1 T).mono (by decide)
  exact (tbm_nil h).elim
theorem okg_rebuilt_part (T : Tx K w mg) : ∀ j : Nat, (FnOk P w K mg base (L2.CX P w) (4 + j) T.f__rebuilt_part.a T.f__rebuilt_part.fd ["part", "change"] (spA K 2 (m_rebuilt_part j))) ∧ (FnOk P w K mg base (L2.CX P w) (4 + j) T.f_rebuilt.a T.f_rebuilt.fd ["tree", "change"] (spA K 2 (m_rebuilt j)))
  | 0 => ⟨fn_zeroA, fn_zeroA⟩
  | j + 1 => by
    obtain ⟨h_rebuilt_part, h_rebuilt⟩ := okg_rebuilt_part T j
    refine ⟨?_, ?_⟩
    · refine fnA (k := 4 + j) (N := n_rebuilt_part) T.f__rebuilt_part.F sc_rebuilt_part fun cdv A outer s H E hr => ?_
      have nd := sc_rebuilt_part.nd
      have tk := takes_of (X := cxOf (L2.CX P w) P w K mg base n_rebuilt_part "_rebuilt_part" (defScope s_rebuilt_part) T.f__rebuilt_part.a cdv A outer s H E) (E := E) rfl rfl rfl rfl
      exact ⟨_, (dss_cons (ds_if (dt_cmp (od_in (units65 hr)) bool_dIn (de_ix (de_var 0) de_int) (de_tup (da_cons de_str (da_cons de_str da_nil)))) (dss_one (ds_ret (de_callC (i := 1) (fun L m q => (ok_clo T L m q).mono (by omega)) hr (da_cons (de_var 0) da_nil)))) dss_nil)
  (dss_cons (ds_if (dt_cmp (od_eq hr.units) bool_dEq (de_ix (de_var 0) de_int) de_str) (dss_cons (ds_set (i := 2) nd (de_callA h_rebuilt hr tk T.f_rebuilt.m T.f_rebuilt.F.kp T.f_rebuilt.b (da_cons (de_ix (de_var 0) de_int) (da_cons (de_var 1) da_nil))))
  (dss_one (ds_ret (de_ifE (dt_isN (de_var 2)) de_non (de_tup (da_cons de_str (da_cons (de_var 2) da_nil))))))) dss_nil)
  (dss_cons (ds_if (dt_cmp (od_eq hr.units) bool_dEq (de_ix (de_var 0) de_int) de_str) (dss_cons (ds_setLc (i := 3) nd rfl (di_list (de_ix (de_var 0) de_int)) (blkOk_by (own := [((PySem.Str.ofString "arg"), 4)]) (N := n_rebuilt_part) (sc := defScope s_rebuilt_part) (by decide +kernel)) (fun _ _ _ _ _ => (dg_name (i := 4) nd)) (fun _ _ _ _ _ => dpt_nil) (fun _ _ _ _ _ => (de_callA h_rebuilt hr takes0 T.f_rebuilt.m T.f_rebuilt.F.kp T.f_rebuilt.b (da_cons (de_var 4) (da_cons (de_var 1) da_nil)))))
  (dss_one (ds_ret (de_ifE (dt_cmp (od_in (units65 hr)) bool_dIn de_non (de_var 3)) de_non (de_tup (da_cons de_str (da_cons (de_ix (de_var 0) de_int) (da_cons (de_var 3) da_nil)))))))) dss_nil)
  (dss_one (ds_ret (de_var 0))))))⟩
    · refine fnA (k := 4 + j) (N := n_rebuilt) T.f_rebuilt.F sc_rebuilt fun cdv A outer s H E hr => ?_
      have nd := sc_rebuilt.nd
      have tk := takes_of (X := cxOf (L2.CX P w) P w K mg base n_rebuilt "rebuilt" (defScope s_rebuilt) T.f_rebuilt.a cdv A outer s H E) (E := E) rfl rfl rfl rfl
      exact ⟨_, (dss_cons (ds_asg (de_callA ((ok_spine_of T).mono (by omega)) hr tk T.f_spine_of.m T.f_spine_of.F.kp T.f_spine_of.b (da_cons (de_var 0) da_nil)) (dg_tup rfl (dgs_cons (dg_name (i := 2) nd) (dgs_cons (dg_name (i := 3) nd) dgs_nil))))
  (dss_cons (ds_set (i := 4) nd (de_callA h_rebuilt_part hr tk T.f__rebuilt_part.m T.f__rebuilt_part.F.kp T.f__rebuilt_part.b (da_cons (de_var 2) (da_cons (de_var 1) da_nil))))
  (dss_cons (ds_for (passes_of rfl) rfl (di_list (de_var 3)) (dg_tup rfl (dgs_cons (dg_name (i := 5) nd) (dgs_cons (dg_name (i := 6) nd) dgs_nil))) (dss_cons (ds_set (i := 7) nd (de_callA h_rebuilt hr tk T.f_rebuilt.m T.f_rebuilt.F.kp T.f_rebuilt.b (da_cons (de_var 6) (da_cons (de_var 1) da_nil))))
  (dss_cons (ds_if (dt_w (dw_or (dt_isN (de_var 4)) (dw_or1 (dt_isN (de_var 7))))) (dss_one (ds_ret de_non)) dss_nil)
  (dss_one (ds_set (i := 4) nd (de_tup (da_cons (de_var 5) (da_cons (de_var 4) (da_cons (de_var 7) da_nil)))))))))
  (dss_one (ds_ret (de_var 4))))))⟩
theorem ok_rebuilt_part (T : Tx K w mg) (j : Nat) : FnOk P w K mg base (L2.CX P w) (4 + j) T.f__rebuilt_part.a T.f__rebuilt_part.fd ["part", "change"] (spA K 2 (m_rebuilt_part j)) := (okg_rebuilt_part T j).1
theorem ok_rebuilt (T : Tx K w mg) (j : Nat) : FnOk P w K mg base (L2.CX P w) (4 + j) T.f_rebuilt.a T.f_rebuilt.fd ["tree", "change"] (spA K 2 (m_rebuilt j)) := (okg_rebuilt_part T j).2
theorem ok_copied (T : Tx K w mg) (hB : ∀ p ∈ T.cs, LamX.TabB base mg p.1 p.2) : FnOk P w K mg base (L2.CX P w) 65 T.f__copied.a T.f__copied.fd ["tree"] (spB K 1 (m_copied (T.cs.map (·.2)))) := by
  obtain ⟨c0, hcd, P0, hcs⟩ := T.lam__copied
  refine fnBC (N := n_copied) T.f__copied.F sc_copied fun A outer s H E hr => ?_
  have nd := sc_copied.nd
  have tk := takes_of (X := cxOf (L2.CX P w) P w K mg base n_copied "_copied" (defScope s_copied) T.f__copied.a T.f__copied.fd.code A outer s H E) (E := E) rfl rfl rfl rfl
  exact ⟨_, (dss_one (ds_ret (de_callL (fr := []) (js := []) 0 0 ((ok_rebuilt T 60).mono (by decide)) hr T.f_rebuilt.m T.f_rebuilt.F.kp T.f_rebuilt.b (tb_of hB hcs) hcd (de_var 0))))⟩
theorem ok_inner_parts (T : Tx K w mg) : FnOk P w K mg base (L2.CX P w) 1 T.f_inner_parts.a T.f_inner_parts.fd ["tree"] (spA K 1 m_inner_parts) := by
  refine fnA (N := n_inner_parts) T.f_inner_parts.F sc_inner_parts fun cdv A outer s H E hr => ?_
  have nd := sc_inner_parts.nd
  have tk := takes_of (X := cxOf (L2.CX P w) P w K mg base n_inner_parts "inner_parts" (defScope s_inner_parts) T.f_inner_parts.a cdv A outer s H E) (E := E) rfl rfl rfl rfl
  exact ⟨_, (dss_cons (ds_if (dt_inKd T.i_RANKS (de_ix (de_var 0) de_int)) (dss_one (ds_ret (de_lst (da_cons (de_ix (de_var 0) de_int) (da_cons (de_ix (de_var 0) de_int) da_nil))))) dss_nil)
  (dss_cons (ds_if (dt_cmp (od_eq hr.units) bool_dEq (de_ix (de_var 0) de_int) de_str) (dss_one (ds_ret (de_lst (da_cons (de_ix (de_var 0) de_int) da_nil)))) dss_nil)
  (dss_cons (ds_if (dt_cmp (od_eq hr.units) bool_dEq (de_ix (de_var 0) de_int) de_str) (dss_one (ds_ret (de_callTy cd_list T.n_list (da_cons (de_ix (de_var 0) de_int) da_nil)))) dss_nil)
  (dss_one (ds_ret (de_lst da_nil))))))⟩
theorem ok_calls_of (T : Tx K w mg) (hB : ∀ p ∈ T.cs, LamX.TabB base mg p.1 p.2) : FnOk P w K mg base (L2.CX P w) 66 T.f_calls_of.a T.f_calls_of.fd ["tree"] (spB K 1 (m_calls_of (T.cs.map (·.2)))) := by
  refine fnB (N := n_calls_of) T.f_calls_of.F sc_calls_of fun cdv A outer s H E hr => ?_
  have nd := sc_calls_of.nd
  have tk := takes_of (X := cxOf (L2.CX P w) P w K mg base n_calls_of "calls_of" (defScope s_calls_of) T.f_calls_of.a cdv A outer s H E) (E := E) rfl rfl rfl rfl
  exact ⟨_, (dss_cons (ds_set (i := 1) nd (de_lstO da_nil))
  (dss_cons (ds_set (i := 2) nd (de_lstO (da_cons (de_var 0) da_nil)))
  (dss_cons (ds_while 1000000 (passes_of rfl) (dt_tru (de_var 2)) (dss_cons (ds_set (i := 3) nd (de_mth0 md_pop (de_var 2) PySem.F.plainAttrs_list PySem.F.slot_list_pop PySem.F.type_list_pop))
  (dss_cons (ds_if (dt_cmp (od_eq hr.units) bool_dEq (de_ix (de_var 3) de_int) de_str) (dss_one (ds_expr (de_mth md_app (de_var 1) (da_cons (de_callB' ((ok_copied T hB).mono (by decide)) hr tk T.f__copied.m T.f__copied.F.kp T.f__copied.b (da_cons (de_var 3) da_nil)) da_nil) PySem.F.plainAttrs_list PySem.F.slot_list_append PySem.F.type_list_append))) dss_nil)
  (dss_one (ds_expr (de_mth md_ext (de_var 2) (da_cons (de_revL (de_callA ((ok_inner_parts T).mono (by decide)) hr tk T.f_inner_parts.m T.f_inner_parts.F.kp T.f_inner_parts.b (da_cons (de_var 3) da_nil))) da_nil) PySem.F.plainAttrs_list PySem.F.slot_list_extend PySem.F.type_list_extend))))))
  (dss_one (ds_ret (de_var 1))))))⟩
theorem ok_moved (T : Tx K w mg) (hB : ∀ p ∈ T.cs, LamX.TabB base mg p.1 p.2) : FnOk P w K mg base (L2.CX P w) 65 T.f_moved.a T.f_moved.fd ["tree", "by"] (spB K 2 (m_moved (T.cs.map (·.2)))) := by
  obtain ⟨c0, hcd, P0, hcs⟩ := T.lam_moved
  refine fnBC (N := n_moved) T.f_moved.F sc_moved fun A outer s H E hr => ?_
  have nd := sc_moved.nd
  have tk := takes_of (X := cxOf (L2.CX P w) P w K mg base n_moved "moved" (defScope s_moved) T.f_moved.a T.f_moved.fd.code A outer s H E) (E := E) rfl rfl rfl rfl
  exact ⟨_, (dss_one (ds_ret (de_callL (fr := ["by"]) (js := [1]) 1 1 ((ok_rebuilt T 60).mono (by decide)) hr T.f_rebuilt.m T.f_rebuilt.F.kp T.f_rebuilt.b (tb_of hB hcs) hcd (de_var 0))))⟩
theorem ok_parts_of (T : Tx K w mg) (hB : ∀ p ∈ T.cs, LamX.TabB base mg p.1 p.2) : FnOk P w K mg base (L2.CX P w) 66 T.f_parts_of.a T.f_parts_of.fd ["tree"] (spB K 1 (m_parts_of (T.cs.map (·.2)))) := by
  refine fnB (N := n_parts_of) T.f_parts_of.F sc_parts_of fun cdv A outer s H E hr => ?_
  have nd := sc_parts_of.nd
  have tk := takes_of (X := cxOf (L2.CX P w) P w K mg base n_parts_of "parts_of" (defScope s_parts_of) T.f_parts_of.a cdv A outer s H E) (E := E) rfl rfl rfl rfl
  exact ⟨_, (dss_one (ds_ret (de_lc nd rfl (di_list (de_callA ((ok_inner_parts T).mono (by decide)) hr tk T.f_inner_parts.m T.f_inner_parts.F.kp T.f_inner_parts.b (da_cons (de_var 0) da_nil))) (blkOk_by (own := [((PySem.Str.ofString "part"), 1)]) (N := n_parts_of) (sc := defScope s_parts_of) (by decide +kernel)) (fun _ _ _ _ _ => (dg_name (i := 1) nd)) (fun _ _ _ _ _ => dpt_nil) (fun _ _ _ _ _ => (de_callB' ((ok_copied T hB).mono (by decide)) hr takes0 T.f__copied.m T.f__copied.F.kp T.f__copied.b (da_cons (de_var 1) da_nil))))))⟩
theorem top_law (T : Tx K w mg) (hB : ∀ p ∈ T.cs, LamX.TabB base mg p.1 p.2) : TopB P w K mg base n_law "law" s_law T.f_law.a 66 (b_law (T.cs.map (·.2))) := by
  intro cdv s H E hr
  have nd := sc_law.nd
  have tk := takes_of (X := cxOf (L2.CX P w) P w K mg base n_law "law" (defScope s_law) T.f_law.a cdv callerA [] s H E) (E := E) rfl rfl rfl rfl
  exact ⟨_, (dss_cons (ds_set (i := 1) nd (de_callB' ((ok_l_state T).mono (by decide)) hr tk T.f__law_state.m T.f__law_state.F.kp T.f__law_state.b (da_cons (de_var 0) da_nil)))
  (dss_cons (ds_set (i := 2) nd (de_callB' ((ok_l_tree T 60).mono (by decide)) hr tk T.f__law_tree.m T.f__law_tree.F.kp T.f__law_tree.b (da_cons (de_var 1) (da_cons (de_bin od_add de_int (de_callB' ((ok_l_take T).mono (by decide)) hr tk T.f__law_take.m T.f__law_take.F.kp T.f__law_take.b (da_cons (de_var 1) (da_cons de_int da_nil)))) da_nil))))
  (dss_cons (ds_set (i := 3) nd (de_callB (cd_repr rfl (units66 hr)) T.n_repr (da_cons (de_var 2) da_nil)))
  (dss_cons (ds_if (dt_w (dw_or (dt_cmp (od_ne hr.units) bool_dNe (de_callTy cd_list T.n_list (da_cons (de_callB' ((ok_parts_of T hB).mono (by decide)) hr tk T.f_parts_of.m T.f_parts_of.F.kp T.f_parts_of.b (da_cons (de_var 2) da_nil)) da_nil)) (de_callA ((ok_l_inside T).mono (by decide)) hr tk T.f__law_inside.m T.f__law_inside.F.kp T.f__law_inside.b (da_cons (de_var 2) da_nil))) (dw_or1 (dt_cmp (od_ne hr.units) bool_dNe (de_frz (de_callB' ((ok_calls_of T hB).mono (by decide)) hr tk T.f_calls_of.m T.f_calls_of.F.kp T.f_calls_of.b (da_cons (de_var 2) da_nil))) (de_callA ((ok_l_calls T 60).mono (by decide)) hr tk T.f__law_calls.m T.f__law_calls.F.kp T.f__law_calls.b (da_cons (de_var 2) da_nil)))))) (dss_one (ds_ret de_bl)) dss_nil)
  (dss_cons (ds_expr (de_mth0 md_clear (de_callB' ((ok_calls_of T hB).mono (by decide)) hr tk T.f_calls_of.m T.f_calls_of.F.kp T.f_calls_of.b (da_cons (de_var 2) da_nil)) PySem.F.plainAttrs_list PySem.F.slot_list_clear PySem.F.type_list_clear))
  (dss_cons (ds_for (passes_of rfl) rfl (di_range1 T.n_range (da_cons de_int da_nil)) (dg_name (i := 4) nd) (dss_cons (ds_set (i := 5) nd (de_ix (de_lst (da_cons (de_tup (da_cons de_int (da_cons de_int da_nil))) (da_cons (de_tup (da_cons de_int (da_cons de_int da_nil))) (da_cons (de_tup (da_cons (de_usub de_int) (da_cons de_int da_nil))) (da_cons (de_tup (da_cons de_int (da_cons de_int da_nil))) (da_cons (de_tup (da_cons de_int (da_cons de_int da_nil))) (da_cons (de_tup (da_cons de_int (da_cons de_int da_nil))) (da_cons (de_tup (da_cons (de_bin od_sub (de_callB' ((ok_l_take T).mono (by decide)) hr tk T.f__law_take.m T.f__law_take.F.kp T.f__law_take.b (da_cons (de_var 1) (da_cons de_int da_nil))) de_int) (da_cons (de_bin od_sub (de_callB' ((ok_l_take T).mono (by decide)) hr tk T.f__law_take.m T.f__law_take.F.kp T.f__law_take.b (da_cons (de_var 1) (da_cons de_int da_nil))) de_int) da_nil))) da_nil)))))))) (de_callB' ((ok_l_take T).mono (by decide)) hr tk T.f__law_take.m T.f__law_take.F.kp T.f__law_take.b (da_cons (de_var 1) (da_cons de_int da_nil)))))
  (dss_cons (ds_set (i := 6) nd (de_callA ((ok_l_shifted T 60).mono (by decide)) hr tk T.f__law_shifted.m T.f__law_shifted.F.kp T.f__law_shifted.b (da_cons (de_var 2) (da_cons (de_var 5) da_nil))))
  (dss_cons (ds_for (passes_of rfl) rfl (di_list (de_callA ((ok_l_spots T 60).mono (by decide)) hr tk T.f__law_spots.m T.f__law_spots.F.kp T.f__law_spots.b (da_cons (de_var 6) da_nil))) (dg_tup rfl (dgs_cons (dg_name (i := 7) nd) (dgs_cons (dg_name (i := 8) nd) dgs_nil))) (dss_one (ds_if (dt_w (dw_or (dt_cmp od_lt bool_dIb (de_var 7) de_int) (dw_or (dt_cmp od_gt bool_dIb (de_var 7) de_int) (dw_or (dt_cmp od_lt bool_dIb (de_var 8) de_int) (dw_or1 (dt_cmp od_gt bool_dIb (de_var 8) de_int)))))) (dss_cons (ds_set (i := 6) nd de_non)
  (dss_one ds_break)) dss_nil)))
  (dss_cons (ds_set (i := 9) nd (de_callB' ((ok_moved T hB).mono (by decide)) hr tk T.f_moved.m T.f_moved.F.kp T.f_moved.b (da_cons (de_var 2) (da_cons (de_var 5) da_nil))))
  (dss_one (ds_if (dt_w (dw_or (dt_cmp (od_ne hr.units) bool_dNe (de_var 9) (de_var 6)) (dw_or1 (dt_w (dw_and (dt_notN (de_var 9)) (dw_and1 (dt_cmp (od_ne hr.units) bool_dNe (de_callB' ((ok_moved T hB).mono (by decide)) hr tk T.f_moved.m T.f_moved.F.kp T.f_moved.b (da_cons (de_var 9) (da_cons (de_tup (da_cons (de_usub (de_ix (de_var 5) de_int)) (da_cons (de_usub (de_ix (de_var 5) de_int)) da_nil))) da_nil))) (de_var 2)))))))) (dss_one (ds_ret de_bl)) dss_nil)))))))
  (dss_one (ds_ret (de_cmp (od_eq hr.units) (de_callB (cd_repr rfl (units66 hr)) T.n_repr (da_cons (de_var 2) da_nil)) (de_var 3))))))))))⟩
end
theorem all_mk {l : PySem.W.OpenLaw} {w : World} {K : PySem.W.Frag} {h : Heap} {mg : Str → Option Value} {fa f0 f1 f2 f3 f4 f5 f6 f7 f8 f9 f10 f11 f12 f13 f14 f15 f16 f17 f18 f19 f20 f21 f22 cc17 cc20 : Addr} (X : K.In h) (G : h.Ns mainGlobals mg) (hfa : mg "law" = some (.ref fa))
    {od0 an0 od1 an1 od2 an2 od3 an3 od4 an4 od5 an5 od6 an6 od7 an7 od8 an8 od9 an9 od10 an10 od11 an11 od12 an12 od13 an13 od14 an14 od15 an15 od16 an16 od17 an17 od18 an18 od19 an19 od20 an20 od21 an21 od22 an22 : Option Addr} {sl0 sl1 sl2 sl3 sl4 sl5 sl6 sl7 sl8 sl9 sl10 sl11 sl12 sl13 sl14 sl15 sl16 sl17 sl18 sl19 sl20 sl21 sl22 : Array (Option Value)} {oc0 kV0 dc0 pm0 cd0 ct0 oc1 kV1 dc1 pm1 cd1 ct1 oc2 kV2 dc2 pm2 cd2 ct2 oc3 kV3 dc3 pm3 cd3 ct3 oc4 kV4 dc4 pm4 cd4 ct4 oc5 kV5 dc5 pm5 cd5 ct5 oc6 kV6 dc6 pm6 cd6 ct6 oc7 kV7 dc7 pm7 cd7 ct7 oc8 kV8 dc8 pm8 cd8 ct8 oc9 kV9 dc9 pm9 cd9 ct9 oc10 kV10 dc10 pm10 cd10 ct10 oc11 kV11 dc11 pm11 cd11 ct11 oc12 kV12 dc12 pm12 cd12 ct12 oc13 kV13 dc13 pm13 cd13 ct13 oc14 kV14 dc14 pm14 cd14 ct14 oc15 kV15 dc15 pm15 cd15 ct15 oc16 kV16 dc16 pm16 cd16 ct16 oc17 kV17 dc17 pm17 ct17 oc18 kV18 dc18 pm18 cd18 ct18 oc19 kV19 dc19 pm19 cd19 ct19 oc20 kV20 dc20 pm20 ct20 oc21 kV21 dc21 pm21 cd21 ct21 oc22 kV22 dc22 pm22 cd22 ct22 : Value} {t_SHEET_0_0 : Tok} {t_SHEET_0_1 : Tok} {a_SHEET_0 : Addr} {d_SHEET_0 : Option Addr} {z_SHEET_0 : Nat} {w_SHEET_0 : Array (Option Value)} {t_SHEET_1_0 : Tok} {t_SHEET_1_1 : Tok} {a_SHEET_1 : Addr} {d_SHEET_1 : Option Addr} {z_SHEET_1 : Nat} {w_SHEET_1 : Array (Option Value)} {a_SHEET : Addr} {d_SHEET : Option Addr} {z_SHEET : Nat} {w_SHEET : Array (Option Value)} {a_RANKS : Addr} {es_RANKS : Array DictEntry} {n_RANKS : Nat} {t_RANKS_0 : Tok} {t_RANKS_1 : Tok} {t_RANKS_2 : Tok} {t_RANKS_3 : Tok} {t_RANKS_4 : Tok} {t_RANKS_5 : Tok} {t_RANKS_6 : Tok} {t_RANKS_7 : Tok} {t_RANKS_8 : Tok}
        (a0 : PySem.W.nsIn K mainGlobals "_law_inside" = some (some (.ref f0))) (l0 : K.lookup f0 = some ⟨oc0, od0, .func (PySem.W.fnOf "_law_inside" "_law_inside" (defArgs s_l_inside) (defBody s_l_inside) (defScope s_l_inside) .none kV0 dc0 pm0 an0 cd0 ct0), sl0⟩) (c0 : PySem.W.codeIn K cd0 "_law_inside" = true) (k0 : PySem.W.keepIn K (.ref f0) = true)
    (a1 : PySem.W.nsIn K mainGlobals "_law_calls" = some (some (.ref f1))) (l1 : K.lookup f1 = some ⟨oc1, od1, .func (PySem.W.fnOf "_law_calls" "_law_calls" (defArgs s_l_calls) (defBody s_l_calls) (defScope s_l_calls) .none kV1 dc1 pm1 an1 cd1 ct1), sl1⟩) (c1 : PySem.W.codeIn K cd1 "_law_calls" = true) (k1 : PySem.W.keepIn K (.ref f1) = true)
    (a2 : PySem.W.nsIn K mainGlobals "_law_shifted" = some (some (.ref f2))) (l2 : K.lookup f2 = some ⟨oc2, od2, .func (PySem.W.fnOf "_law_shifted" "_law_shifted" (defArgs s_l_shifted) (defBody s_l_shifted) (defScope s_l_shifted) .none kV2 dc2 pm2 an2 cd2 ct2), sl2⟩) (c2 : PySem.W.codeIn K cd2 "_law_shifted" = true) (k2 : PySem.W.keepIn K (.ref f2) = true)
    (a3 : PySem.W.nsIn K mainGlobals "_law_spots" = some (some (.ref f3))) (l3 : K.lookup f3 = some ⟨oc3, od3, .func (PySem.W.fnOf "_law_spots" "_law_spots" (defArgs s_l_spots) (defBody s_l_spots) (defScope s_l_spots) .none kV3 dc3 pm3 an3 cd3 ct3), sl3⟩) (c3 : PySem.W.codeIn K cd3 "_law_spots" = true) (k3 : PySem.W.keepIn K (.ref f3) = true)
    (a4 : PySem.W.nsIn K mainGlobals "_law_state" = some (some (.ref f4))) (l4 : K.lookup f4 = some ⟨oc4, od4, .func (PySem.W.fnOf "_law_state" "_law_state" (defArgs s_l_state) (defBody s_l_state) (defScope s_l_state) .none kV4 dc4 pm4 an4 cd4 ct4), sl4⟩) (c4 : PySem.W.codeIn K cd4 "_law_state" = true) (k4 : PySem.W.keepIn K (.ref f4) = true)
    (a5 : PySem.W.nsIn K mainGlobals "_law_take" = some (some (.ref f5))) (l5 : K.lookup f5 = some ⟨oc5, od5, .func (PySem.W.fnOf "_law_take" "_law_take" (defArgs s_l_take) (defBody s_l_take) (defScope s_l_take) .none kV5 dc5 pm5 an5 cd5 ct5), sl5⟩) (c5 : PySem.W.codeIn K cd5 "_law_take" = true) (k5 : PySem.W.keepIn K (.ref f5) = true)
    (a6 : PySem.W.nsIn K mainGlobals "_law_range" = some (some (.ref f6))) (l6 : K.lookup f6 = some ⟨oc6, od6, .func (PySem.W.fnOf "_law_range" "_law_range" (defArgs s_l_range) (defBody s_l_range) (defScope s_l_range) .none kV6 dc6 pm6 an6 cd6 ct6), sl6⟩) (c6 : PySem.W.codeIn K cd6 "_law_range" = true) (k6 : PySem.W.keepIn K (.ref f6) = true)
    (a7 : PySem.W.nsIn K mainGlobals "_law_leaf" = some (some (.ref f7))) (l7 : K.lookup f7 = some ⟨oc7, od7, .func (PySem.W.fnOf "_law_leaf" "_law_leaf" (defArgs s_l_leaf) (defBody s_l_leaf) (defScope s_l_leaf) .none kV7 dc7 pm7 an7 cd7 ct7), sl7⟩) (c7 : PySem.W.codeIn K cd7 "_law_leaf" = true) (k7 : PySem.W.keepIn K (.ref f7) = true)
    (a8 : PySem.W.nsIn K mainGlobals "_law_call" = some (some (.ref f8))) (l8 : K.lookup f8 = some ⟨oc8, od8, .func (PySem.W.fnOf "_law_call" "_law_call" (defArgs s_l_call) (defBody s_l_call) (defScope s_l_call) .none kV8 dc8 pm8 an8 cd8 ct8), sl8⟩) (c8 : PySem.W.codeIn K cd8 "_law_call" = true) (k8 : PySem.W.keepIn K (.ref f8) = true)
    (a9 : PySem.W.nsIn K mainGlobals "_law_tree" = some (some (.ref f9))) (l9 : K.lookup f9 = some ⟨oc9, od9, .func (PySem.W.fnOf "_law_tree" "_law_tree" (defArgs s_l_tree) (defBody s_l_tree) (defScope s_l_tree) .none kV9 dc9 pm9 an9 cd9 ct9), sl9⟩) (c9 : PySem.W.codeIn K cd9 "_law_tree" = true) (k9 : PySem.W.keepIn K (.ref f9) = true)
    (a10 : PySem.W.nsIn K mainGlobals "_law_wide" = some (some (.ref f10))) (l10 : K.lookup f10 = some ⟨oc10, od10, .func (PySem.W.fnOf "_law_wide" "_law_wide" (defArgs s_l_wide) (defBody s_l_wide) (defScope s_l_wide) .none kV10 dc10 pm10 an10 cd10 ct10), sl10⟩) (c10 : PySem.W.codeIn K cd10 "_law_wide" = true) (k10 : PySem.W.keepIn K (.ref f10) = true)
    (a11 : PySem.W.nsIn K mainGlobals "inside" = some (some (.ref f11))) (l11 : K.lookup f11 = some ⟨oc11, od11, .func (PySem.W.fnOf "inside" "inside" (defArgs s_inside) (defBody s_inside) (defScope s_inside) .none kV11 dc11 pm11 an11 cd11 ct11), sl11⟩) (c11 : PySem.W.codeIn K cd11 "inside" = true) (k11 : PySem.W.keepIn K (.ref f11) = true)
    (a12 : PySem.W.nsIn K mainGlobals "_moved_address" = some (some (.ref f12))) (l12 : K.lookup f12 = some ⟨oc12, od12, .func (PySem.W.fnOf "_moved_address" "_moved_address" (defArgs s_moved_address) (defBody s_moved_address) (defScope s_moved_address) .none kV12 dc12 pm12 an12 cd12 ct12), sl12⟩) (c12 : PySem.W.codeIn K cd12 "_moved_address" = true) (k12 : PySem.W.keepIn K (.ref f12) = true)
    (a13 : PySem.W.nsIn K mainGlobals "_moved_part" = some (some (.ref f13))) (l13 : K.lookup f13 = some ⟨oc13, od13, .func (PySem.W.fnOf "_moved_part" "_moved_part" (defArgs s_moved_part) (defBody s_moved_part) (defScope s_moved_part) .none kV13 dc13 pm13 an13 cd13 ct13), sl13⟩) (c13 : PySem.W.codeIn K cd13 "_moved_part" = true) (k13 : PySem.W.keepIn K (.ref f13) = true)
    (a14 : PySem.W.nsIn K mainGlobals "spine_of" = some (some (.ref f14))) (l14 : K.lookup f14 = some ⟨oc14, od14, .func (PySem.W.fnOf "spine_of" "spine_of" (defArgs s_spine_of) (defBody s_spine_of) (defScope s_spine_of) .none kV14 dc14 pm14 an14 cd14 ct14), sl14⟩) (c14 : PySem.W.codeIn K cd14 "spine_of" = true) (k14 : PySem.W.keepIn K (.ref f14) = true)
    (a15 : PySem.W.nsIn K mainGlobals "_rebuilt_part" = some (some (.ref f15))) (l15 : K.lookup f15 = some ⟨oc15, od15, .func (PySem.W.fnOf "_rebuilt_part" "_rebuilt_part" (defArgs s_rebuilt_part) (defBody s_rebuilt_part) (defScope s_rebuilt_part) .none kV15 dc15 pm15 an15 cd15 ct15), sl15⟩) (c15 : PySem.W.codeIn K cd15 "_rebuilt_part" = true) (k15 : PySem.W.keepIn K (.ref f15) = true)
    (a16 : PySem.W.nsIn K mainGlobals "rebuilt" = some (some (.ref f16))) (l16 : K.lookup f16 = some ⟨oc16, od16, .func (PySem.W.fnOf "rebuilt" "rebuilt" (defArgs s_rebuilt) (defBody s_rebuilt) (defScope s_rebuilt) .none kV16 dc16 pm16 an16 cd16 ct16), sl16⟩) (c16 : PySem.W.codeIn K cd16 "rebuilt" = true) (k16 : PySem.W.keepIn K (.ref f16) = true)
    (a17 : PySem.W.nsIn K mainGlobals "_copied" = some (some (.ref f17))) (l17 : K.lookup f17 = some ⟨oc17, od17, .func (PySem.W.fnOf "_copied" "_copied" (defArgs s_copied) (defBody s_copied) (defScope s_copied) .none kV17 dc17 pm17 an17 (.ref cc17) ct17), sl17⟩) (c17 : PySem.W.codeIn K (.ref cc17) "_copied" = true) (k17 : PySem.W.keepIn K (.ref f17) = true)
    (a18 : PySem.W.nsIn K mainGlobals "inner_parts" = some (some (.ref f18))) (l18 : K.lookup f18 = some ⟨oc18, od18, .func (PySem.W.fnOf "inner_parts" "inner_parts" (defArgs s_inner_parts) (defBody s_inner_parts) (defScope s_inner_parts) .none kV18 dc18 pm18 an18 cd18 ct18), sl18⟩) (c18 : PySem.W.codeIn K cd18 "inner_parts" = true) (k18 : PySem.W.keepIn K (.ref f18) = true)
    (a19 : PySem.W.nsIn K mainGlobals "calls_of" = some (some (.ref f19))) (l19 : K.lookup f19 = some ⟨oc19, od19, .func (PySem.W.fnOf "calls_of" "calls_of" (defArgs s_calls_of) (defBody s_calls_of) (defScope s_calls_of) .none kV19 dc19 pm19 an19 cd19 ct19), sl19⟩) (c19 : PySem.W.codeIn K cd19 "calls_of" = true) (k19 : PySem.W.keepIn K (.ref f19) = true)
    (a20 : PySem.W.nsIn K mainGlobals "moved" = some (some (.ref f20))) (l20 : K.lookup f20 = some ⟨oc20, od20, .func (PySem.W.fnOf "moved" "moved" (defArgs s_moved) (defBody s_moved) (defScope s_moved) .none kV20 dc20 pm20 an20 (.ref cc20) ct20), sl20⟩) (c20 : PySem.W.codeIn K (.ref cc20) "moved" = true) (k20 : PySem.W.keepIn K (.ref f20) = true)
    (a21 : PySem.W.nsIn K mainGlobals "parts_of" = some (some (.ref f21))) (l21 : K.lookup f21 = some ⟨oc21, od21, .func (PySem.W.fnOf "parts_of" "parts_of" (defArgs s_parts_of) (defBody s_parts_of) (defScope s_parts_of) .none kV21 dc21 pm21 an21 cd21 ct21), sl21⟩) (c21 : PySem.W.codeIn K cd21 "parts_of" = true) (k21 : PySem.W.keepIn K (.ref f21) = true)
    (a22 : PySem.W.nsIn K mainGlobals "law" = some (some (.ref f22))) (l22 : K.lookup f22 = some ⟨oc22, od22, .func (PySem.W.fnOf "law" "law" (defArgs s_law) (defBody s_law) (defScope s_law) .none kV22 dc22 pm22 an22 cd22 ct22), sl22⟩) (c22 : PySem.W.codeIn K cd22 "law" = true) (k22 : PySem.W.keepIn K (.ref f22) = true)
    (g_SHEET : PySem.W.nsIn K mainGlobals "SHEET" = some (some (.ref a_SHEET))) (l_SHEET : K.lookup a_SHEET = some ⟨.type "tuple", d_SHEET, .seq #[(.ref a_SHEET_0), (.ref a_SHEET_1)] z_SHEET, w_SHEET⟩) (l_SHEET_0 : K.lookup a_SHEET_0 = some ⟨.type "tuple", d_SHEET_0, .seq #[(.int 0 t_SHEET_0_0), (.int 0 t_SHEET_0_1)] z_SHEET_0, w_SHEET_0⟩) (l_SHEET_1 : K.lookup a_SHEET_1 = some ⟨.type "tuple", d_SHEET_1, .seq #[(.int 25 t_SHEET_1_0), (.int 98 t_SHEET_1_1)] z_SHEET_1, w_SHEET_1⟩)
    (g_RANKS : PySem.W.nsIn K mainGlobals "RANKS" = some (some (.ref a_RANKS))) (l_RANKS : K.lookup a_RANKS = some ⟨.type "dict", none, .dict es_RANKS n_RANKS, #[]⟩) (kl_RANKS : PySem.W.KeysLit w.params es_RANKS.toList) (i_RANKS_0 : PySem.W.nsIn K a_RANKS "=" = some (some (.int 1 t_RANKS_0))) (i_RANKS_1 : PySem.W.nsIn K a_RANKS "!=" = some (some (.int 1 t_RANKS_1))) (i_RANKS_2 : PySem.W.nsIn K a_RANKS "<" = some (some (.int 1 t_RANKS_2))) (i_RANKS_3 : PySem.W.nsIn K a_RANKS "<=" = some (some (.int 1 t_RANKS_3))) (i_RANKS_4 : PySem.W.nsIn K a_RANKS "&" = some (some (.int 2 t_RANKS_4))) (i_RANKS_5 : PySem.W.nsIn K a_RANKS "+" = some (some (.int 3 t_RANKS_5))) (i_RANKS_6 : PySem.W.nsIn K a_RANKS "-" = some (some (.int 3 t_RANKS_6))) (i_RANKS_7 : PySem.W.nsIn K a_RANKS "*" = some (some (.int 4 t_RANKS_7))) (i_RANKS_8 : PySem.W.nsIn K a_RANKS "/" = some (some (.int 4 t_RANKS_8))) (lo_RANKS : (a_RANKS == sysModules) = false) (mi_RANKS_0 : PySem.W.nsIn K a_RANKS "" = some none) (mi_RANKS_1 : PySem.W.nsIn K a_RANKS "num" = some none) (mi_RANKS_2 : PySem.W.nsIn K a_RANKS "text" = some none) (mi_RANKS_3 : PySem.W.nsIn K a_RANKS "bool" = some none) (mi_RANKS_4 : PySem.W.nsIn K a_RANKS "ref" = some none) (mi_RANKS_5 : PySem.W.nsIn K a_RANKS "range" = some none) (mi_RANKS_6 : PySem.W.nsIn K a_RANKS "call" = some none) (mi_RANKS_7 : PySem.W.nsIn K a_RANKS "neg" = some none)
    (z_abs : PySem.W.nsIn K mainGlobals "abs" = some none)
    (z_int : PySem.W.nsIn K mainGlobals "int" = some none)
    (z_len : PySem.W.nsIn K mainGlobals "len" = some none)
    (z_list : PySem.W.nsIn K mainGlobals "list" = some none)
    (z_range : PySem.W.nsIn K mainGlobals "range" = some none)
    (z_repr : PySem.W.nsIn K mainGlobals "repr" = some none)
    (z_tuple : PySem.W.nsIn K mainGlobals "tuple" = some none)
    (h17 : PySem.W.codeHdIn K cc17 (codeTab K cc17) = true) (u17 : K.lookup (codeTab K cc17) = none) (t17 : h.get? (codeTab K cc17) = some (PySem.W.tabObj #[]))
    (h20 : PySem.W.codeHdIn K cc20 (codeTab K cc20) = true) (u20 : K.lookup (codeTab K cc20) = none) (t20 : h.get? (codeTab K cc20) = some (PySem.W.tabObj #[]))
    (nd : ([codeTab K cc17, codeTab K cc20] : List Addr).Nodup) :
    ∃ (fd : FuncData) (cs : List (Addr × Addr)), (∀ p ∈ cs, h.get? p.2 = some { cls := .none, data := .fields #[] }) ∧ (∀ p ∈ cs, K.lookup p.2 = none) ∧ (∀ p ∈ cs, PySem.W.CodeHd h p.1 p.2) ∧ (cs.map (·.2)).Nodup ∧ cs.length = lamNms.length ∧
      Fun K "law" "law" s_law fa fd ∧ (∀ (s : Shared) (v : Value), BindsTo s fd ⟨[v], []⟩ [("script", v)]) ∧ ∀ base : Heap, K.In base → base.Ns mainGlobals mg → (∀ p ∈ cs, LamX.TabB base mg p.1 p.2) → TopB l.prog w K mg base n_law "law" s_law fa 66 (b_law (cs.map (·.2))) := by
  have e := hfa.symm.trans (PySem.W.mg_of X G a22)
  cases e
  let T : Tx K w mg := {
    f__law_inside := ⟨_, _, fun_mk (st := s_l_inside) l0 c0 k0, PySem.W.mg_of X G a0, (fun_mk (st := s_l_inside) l0 c0 k0).binds (ps := ["tree"]) fun _ _ _ _ _ _ us hl => match us, hl with | [_], _ => rfl⟩
    f__law_calls := ⟨_, _, fun_mk (st := s_l_calls) l1 c1 k1, PySem.W.mg_of X G a1, (fun_mk (st := s_l_calls) l1 c1 k1).binds (ps := ["tree"]) fun _ _ _ _ _ _ us hl => match us, hl with | [_], _ => rfl⟩
    f__law_shifted := ⟨_, _, fun_mk (st := s_l_shifted) l2 c2 k2, PySem.W.mg_of X G a2, (fun_mk (st := s_l_shifted) l2 c2 k2).binds (ps := ["tree", "by"]) fun _ _ _ _ _ _ us hl => match us, hl with | [_, _], _ => rfl⟩
    f__law_spots := ⟨_, _, fun_mk (st := s_l_spots) l3 c3 k3, PySem.W.mg_of X G a3, (fun_mk (st := s_l_spots) l3 c3 k3).binds (ps := ["tree"]) fun _ _ _ _ _ _ us hl => match us, hl with | [_], _ => rfl⟩
    f__law_state := ⟨_, _, fun_mk (st := s_l_state) l4 c4 k4, PySem.W.mg_of X G a4, (fun_mk (st := s_l_state) l4 c4 k4).binds (ps := ["script"]) fun _ _ _ _ _ _ us hl => match us, hl with | [_], _ => rfl⟩
    f__law_take := ⟨_, _, fun_mk (st := s_l_take) l5 c5 k5, PySem.W.mg_of X G a5, (fun_mk (st := s_l_take) l5 c5 k5).binds (ps := ["state", "most"]) fun _ _ _ _ _ _ us hl => match us, hl with | [_, _], _ => rfl⟩
    f__law_range := ⟨_, _, fun_mk (st := s_l_range) l6 c6 k6, PySem.W.mg_of X G a6, (fun_mk (st := s_l_range) l6 c6 k6).binds (ps := ["state"]) fun _ _ _ _ _ _ us hl => match us, hl with | [_], _ => rfl⟩
    f__law_leaf := ⟨_, _, fun_mk (st := s_l_leaf) l7 c7 k7, PySem.W.mg_of X G a7, (fun_mk (st := s_l_leaf) l7 c7 k7).binds (ps := ["state"]) fun _ _ _ _ _ _ us hl => match us, hl with | [_], _ => rfl⟩
    f__law_call := ⟨_, _, fun_mk (st := s_l_call) l8 c8 k8, PySem.W.mg_of X G a8, (fun_mk (st := s_l_call) l8 c8 k8).binds (ps := ["state", "depth"]) fun _ _ _ _ _ _ us hl => match us, hl with | [_, _], _ => rfl⟩
    f__law_tree := ⟨_, _, fun_mk (st := s_l_tree) l9 c9 k9, PySem.W.mg_of X G a9, (fun_mk (st := s_l_tree) l9 c9 k9).binds (ps := ["state", "depth"]) fun _ _ _ _ _ _ us hl => match us, hl with | [_, _], _ => rfl⟩
    f__law_wide := ⟨_, _, fun_mk (st := s_l_wide) l10 c10 k10, PySem.W.mg_of X G a10, (fun_mk (st := s_l_wide) l10 c10 k10).binds (ps := ["state", "depth"]) fun _ _ _ _ _ _ us hl => match us, hl with | [_, _], _ => rfl⟩
    f_inside := ⟨_, _, fun_mk (st := s_inside) l11 c11 k11, PySem.W.mg_of X G a11, (fun_mk (st := s_inside) l11 c11 k11).binds (ps := ["address", "area"]) fun _ _ _ _ _ _ us hl => match us, hl with | [_, _], _ => rfl⟩
    f__moved_address := ⟨_, _, fun_mk (st := s_moved_address) l12 c12 k12, PySem.W.mg_of X G a12, (fun_mk (st := s_moved_address) l12 c12 k12).binds (ps := ["address", "by"]) fun _ _ _ _ _ _ us hl => match us, hl with | [_, _], _ => rfl⟩
    f__moved_part := ⟨_, _, fun_mk (st := s_moved_part) l13 c13 k13, PySem.W.mg_of X G a13, (fun_mk (st := s_moved_part) l13 c13 k13).binds (ps := ["part", "by"]) fun _ _ _ _ _ _ us hl => match us, hl with | [_, _], _ => rfl⟩
    f_spine_of := ⟨_, _, fun_mk (st := s_spine_of) l14 c14 k14, PySem.W.mg_of X G a14, (fun_mk (st := s_spine_of) l14 c14 k14).binds (ps := ["tree"]) fun _ _ _ _ _ _ us hl => match us, hl with | [_], _ => rfl⟩
    f__rebuilt_part := ⟨_, _, fun_mk (st := s_rebuilt_part) l15 c15 k15, PySem.W.mg_of X G a15, (fun_mk (st := s_rebuilt_part) l15 c15 k15).binds (ps := ["part", "change"]) fun _ _ _ _ _ _ us hl => match us, hl with | [_, _], _ => rfl⟩
    f_rebuilt := ⟨_, _, fun_mk (st := s_rebuilt) l16 c16 k16, PySem.W.mg_of X G a16, (fun_mk (st := s_rebuilt) l16 c16 k16).binds (ps := ["tree", "change"]) fun _ _ _ _ _ _ us hl => match us, hl with | [_, _], _ => rfl⟩
    f__copied := ⟨_, _, fun_mk (st := s_copied) l17 c17 k17, PySem.W.mg_of X G a17, (fun_mk (st := s_copied) l17 c17 k17).binds (ps := ["tree"]) fun _ _ _ _ _ _ us hl => match us, hl with | [_], _ => rfl⟩
    f_inner_parts := ⟨_, _, fun_mk (st := s_inner_parts) l18 c18 k18, PySem.W.mg_of X G a18, (fun_mk (st := s_inner_parts) l18 c18 k18).binds (ps := ["tree"]) fun _ _ _ _ _ _ us hl => match us, hl with | [_], _ => rfl⟩
    f_calls_of := ⟨_, _, fun_mk (st := s_calls_of) l19 c19 k19, PySem.W.mg_of X G a19, (fun_mk (st := s_calls_of) l19 c19 k19).binds (ps := ["tree"]) fun _ _ _ _ _ _ us hl => match us, hl with | [_], _ => rfl⟩
    f_moved := ⟨_, _, fun_mk (st := s_moved) l20 c20 k20, PySem.W.mg_of X G a20, (fun_mk (st := s_moved) l20 c20 k20).binds (ps := ["tree", "by"]) fun _ _ _ _ _ _ us hl => match us, hl with | [_, _], _ => rfl⟩
    f_parts_of := ⟨_, _, fun_mk (st := s_parts_of) l21 c21 k21, PySem.W.mg_of X G a21, (fun_mk (st := s_parts_of) l21 c21 k21).binds (ps := ["tree"]) fun _ _ _ _ _ _ us hl => match us, hl with | [_], _ => rfl⟩
    f_law := ⟨_, _, fun_mk (st := s_law) l22 c22 k22, PySem.W.mg_of X G a22, (fun_mk (st := s_law) l22 c22 k22).binds (ps := ["script"]) fun _ _ _ _ _ _ us hl => match us, hl with | [_], _ => rfl⟩
    c_SHEET := gc_mk (v := (.ref a_SHEET)) (PySem.W.mg_of X G g_SHEET) rfl fun _ => (rep_ktup (xs := [(.ref a_SHEET_0), (.ref a_SHEET_1)]) l_SHEET (by exact (by decide : 2 ≤ sizeLine)) (.cons rfl (.cons rfl .nil)) (.cons (rep_ktup (xs := [(.int 0), (.int 0)]) l_SHEET_0 (by exact (by decide : 2 ≤ sizeLine)) (.cons ⟨_, rfl⟩ (.cons ⟨_, rfl⟩ .nil)) (.cons (.int _) (.cons (.int _) .nil))) (.cons (rep_ktup (xs := [(.int 25), (.int 98)]) l_SHEET_1 (by exact (by decide : 2 ≤ sizeLine)) (.cons ⟨_, rfl⟩ (.cons ⟨_, rfl⟩ .nil)) (.cons (.int _) (.cons (.int _) .nil))) .nil)))
    i_RANKS := ⟨a_RANKS, PySem.W.mg_of X G g_RANKS, (kin_cons ⟨es_RANKS, n_RANKS, _, l_RANKS, kl_RANKS, lo_RANKS, i_RANKS_0, rfl⟩ (kin_cons ⟨es_RANKS, n_RANKS, _, l_RANKS, kl_RANKS, lo_RANKS, i_RANKS_1, rfl⟩ (kin_cons ⟨es_RANKS, n_RANKS, _, l_RANKS, kl_RANKS, lo_RANKS, i_RANKS_2, rfl⟩ (kin_cons ⟨es_RANKS, n_RANKS, _, l_RANKS, kl_RANKS, lo_RANKS, i_RANKS_3, rfl⟩ (kin_cons ⟨es_RANKS, n_RANKS, _, l_RANKS, kl_RANKS, lo_RANKS, i_RANKS_4, rfl⟩ (kin_cons ⟨es_RANKS, n_RANKS, _, l_RANKS, kl_RANKS, lo_RANKS, i_RANKS_5, rfl⟩ (kin_cons ⟨es_RANKS, n_RANKS, _, l_RANKS, kl_RANKS, lo_RANKS, i_RANKS_6, rfl⟩ (kin_cons ⟨es_RANKS, n_RANKS, _, l_RANKS, kl_RANKS, lo_RANKS, i_RANKS_7, rfl⟩ (kin_cons ⟨es_RANKS, n_RANKS, _, l_RANKS, kl_RANKS, lo_RANKS, i_RANKS_8, rfl⟩ kin_nil))))))))), (kin_cons ⟨es_RANKS, n_RANKS, _, l_RANKS, kl_RANKS, lo_RANKS, mi_RANKS_0, rfl⟩ (kin_cons ⟨es_RANKS, n_RANKS, _, l_RANKS, kl_RANKS, lo_RANKS, mi_RANKS_1, rfl⟩ (kin_cons ⟨es_RANKS, n_RANKS, _, l_RANKS, kl_RANKS, lo_RANKS, mi_RANKS_2, rfl⟩ (kin_cons ⟨es_RANKS, n_RANKS, _, l_RANKS, kl_RANKS, lo_RANKS, mi_RANKS_3, rfl⟩ (kin_cons ⟨es_RANKS, n_RANKS, _, l_RANKS, kl_RANKS, lo_RANKS, mi_RANKS_4, rfl⟩ (kin_cons ⟨es_RANKS, n_RANKS, _, l_RANKS, kl_RANKS, lo_RANKS, mi_RANKS_5, rfl⟩ (kin_cons ⟨es_RANKS, n_RANKS, _, l_RANKS, kl_RANKS, lo_RANKS, mi_RANKS_6, rfl⟩ (kin_cons ⟨es_RANKS, n_RANKS, _, l_RANKS, kl_RANKS, lo_RANKS, mi_RANKS_7, rfl⟩ kin_nil))))))))⟩
    d_RANKS := ⟨a_RANKS, PySem.W.mg_of X G g_RANKS, (lk_cons ⟨(.int 1), ⟨es_RANKS, n_RANKS, _, l_RANKS, kl_RANKS, i_RANKS_0, ⟨_, rfl⟩⟩, fun _ => (.int _)⟩ (lk_cons ⟨(.int 1), ⟨es_RANKS, n_RANKS, _, l_RANKS, kl_RANKS, i_RANKS_1, ⟨_, rfl⟩⟩, fun _ => (.int _)⟩ (lk_cons ⟨(.int 1), ⟨es_RANKS, n_RANKS, _, l_RANKS, kl_RANKS, i_RANKS_2, ⟨_, rfl⟩⟩, fun _ => (.int _)⟩ (lk_cons ⟨(.int 1), ⟨es_RANKS, n_RANKS, _, l_RANKS, kl_RANKS, i_RANKS_3, ⟨_, rfl⟩⟩, fun _ => (.int _)⟩ (lk_cons ⟨(.int 2), ⟨es_RANKS, n_RANKS, _, l_RANKS, kl_RANKS, i_RANKS_4, ⟨_, rfl⟩⟩, fun _ => (.int _)⟩ (lk_cons ⟨(.int 3), ⟨es_RANKS, n_RANKS, _, l_RANKS, kl_RANKS, i_RANKS_5, ⟨_, rfl⟩⟩, fun _ => (.int _)⟩ (lk_cons ⟨(.int 3), ⟨es_RANKS, n_RANKS, _, l_RANKS, kl_RANKS, i_RANKS_6, ⟨_, rfl⟩⟩, fun _ => (.int _)⟩ (lk_cons ⟨(.int 4), ⟨es_RANKS, n_RANKS, _, l_RANKS, kl_RANKS, i_RANKS_7, ⟨_, rfl⟩⟩, fun _ => (.int _)⟩ (lk_cons ⟨(.int 4), ⟨es_RANKS, n_RANKS, _, l_RANKS, kl_RANKS, i_RANKS_8, ⟨_, rfl⟩⟩, fun _ => (.int _)⟩ lk_nil)))))))))⟩
    n_abs := PySem.W.mg_none_of X G z_abs
    n_int := PySem.W.mg_none_of X G z_int
    n_len := PySem.W.mg_none_of X G z_len
    n_list := PySem.W.mg_none_of X G z_list
    n_range := PySem.W.mg_none_of X G z_range
    n_repr := PySem.W.mg_none_of X G z_repr
    n_tuple := PySem.W.mg_none_of X G z_tuple
    cs := [(cc17, codeTab K cc17), (cc20, codeTab K cc20)]
    lam__copied := ⟨cc17, rfl, _, rfl⟩
    lam_moved := ⟨cc20, rfl, _, rfl⟩ }
  exact ⟨PySem.W.fnOf "law" "law" (defArgs s_law) (defBody s_law) (defScope s_law) .none kV22 dc22 pm22 an22 cd22 ct22, [(cc17, codeTab K cc17), (cc20, codeTab K cc20)], (List.forall_mem_cons.mpr ⟨t17, (List.forall_mem_cons.mpr ⟨t20, (fun _ h => nomatch h)⟩)⟩), (List.forall_mem_cons.mpr ⟨u17, (List.forall_mem_cons.mpr ⟨u20, (fun _ h => nomatch h)⟩)⟩), (List.forall_mem_cons.mpr ⟨PySem.W.codeHd_of_K X h17, (List.forall_mem_cons.mpr ⟨PySem.W.codeHd_of_K X h20, (fun _ h => nomatch h)⟩)⟩), nd, rfl, T.f_law.F, fun s v => .of_eq rfl, fun base _ _ hB => top_law T hB⟩
end Law
namespace Law
open PySem L2 DL
/-! ## trees; a leaf that is no address is any kind of datum -/
inductive Op | eq | ne | lt | le | am | pl | mi | mu | di
deriving DecidableEq
def Op.s : Op → String
  | .eq => "=" | .ne => "!=" | .lt => "<" | .le => "<=" | .am => "&" | .pl => "+" | .mi => "-" | .mu => "*" | .di => "/"
inductive At | num | txt | bl
deriving DecidableEq
def At.s : At → String
  | .num => "num" | .txt => "text" | .bl => "bool"
def ad (c r : Int) : D := .tup [.int c, .int r]
inductive Tr
  | atom (k : At) (d : D) | ref (c r : Int) | rng (a b c d : Int) | neg (t : Tr) | call (f : Str) (as : List Tr) | bin (o : Op) (l r : Tr)
mutual
def Tr.val : Tr → D
  | .atom k d => .tup [.str (Str.ofString k.s), d]
  | .ref c r => .tup [.str (Str.ofString "ref"), ad c r]
  | .rng a b c d => .tup [.str (Str.ofString "range"), .tup [ad a b, ad c d]]
  | .neg t => .tup [.str (Str.ofString "neg"), t.val]
  | .call f as => .tup [.str (Str.ofString "call"), .str f, .lst (Tr.vals as)]
  | .bin o l r => .tup [.str (Str.ofString o.s), l.val, r.val]
def Tr.vals : List Tr → List D
  | [] => []
  | t :: r => t.val :: Tr.vals r
end
mutual
/-- levels of calls that a walk takes -/
def Tr.gu : Tr → Nat
  | .neg t => t.gu + 2
  | .call _ as => Tr.gus as + 2
  | .bin _ l r => max l.gu (r.gu + 1)
  | _ => 2
def Tr.gus : List Tr → Nat
  | [] => 0
  | t :: r => max t.gu (Tr.gus r)
end
mutual
/-- the longest spine anywhere, and the most arguments -/
def Tr.ok : Tr → Prop
  | .neg t => t.ok
  | .call _ as => as.length ≤ 1000 ∧ Tr.oks as
  | .bin _ l r => l.ok ∧ r.ok
  | .atom _ d => noClo d = true
  | _ => True
def Tr.oks : List Tr → Prop
  | [] => True
  | t :: r => t.ok ∧ Tr.oks r
end
theorem vals_map : ∀ l : List Tr, Tr.vals l = l.map Tr.val
  | [] => rfl
  | t :: r => by simp [Tr.vals, vals_map r]
/-! ### the spine -/
def Tr.fst : Tr → Tr
  | .bin _ l _ => l.fst
  | p => p
def Tr.lnk : Tr → List (Op × Tr)
  | .bin o l r => l.lnk ++ [(o, r)]
  | _ => []
def lkE (x : Op × Tr) : D := .tup [.str (Str.ofString x.1.s), x.2.val]
theorem op_in (o : Op) : Str.ofString o.s ∈ ki_RANKS := by cases o <;> decide +kernel
theorem miss_n : ∀ k ∈ ["num", "text", "bool", "ref", "range", "neg", "call"], ¬ Str.ofString k ∈ ki_RANKS := by decide +kernel
theorem miss_k : ∀ k ∈ ["num", "text", "bool", "ref", "range", "neg", "call"], Str.ofString k ∈ km_RANKS := by decide +kernel
noncomputable abbrev sC : EM := (mInKd ki_RANKS km_RANKS (mIx (mVar 0) (mC (.int 0))))
noncomputable abbrev sB : SM := (sSeq (sExpr (mMth "list" gApp (mVar 1) (aCons (disp .tup (aCons (mIx (mVar 0) (mC (.int 0))) (aCons (mIx (mVar 0) (mC (.int 2))) aNil))) aNil)))
  (sAsg (mIx (mVar 0) (mC (.int 1))) (gN 0)))
abbrev spS (d : D) (acc : List D) : S := ⟨[some (.p d), some (.o 0)], [.lst (acc.map .p)]⟩
/-- what a tree's text of its kind is, when it is no operator -/
theorem sp_end (k : String) (hk : k ∈ ["num", "text", "bool", "ref", "range", "neg", "call"]) (rest : List D) (n : Nat) (acc : List D) : sWhile (n + 1) sC sB (spS (.tup (.str (Str.ofString k) :: rest)) acc) = some (.nx, spS (.tup (.str (Str.ofString k) :: rest)) acc) := by
  have h1 := miss_n k hk
  have h2 := miss_k k hk
  have h3 := atI0 (.str (Str.ofString k)) rest
  rw [sWhile]
  simp [e_lift, e_bnd, mInKd, inKd, h1, h2, h3]
theorem sp_loop : ∀ (t : Tr) (n : Nat) (acc : List D), t.lnk.length < n → acc.length + t.lnk.length < 1000000 → sWhile n sC sB (spS t.val acc) = some (.nx, spS t.fst.val (acc ++ t.lnk.reverse.map lkE))
  | .bin o l r, 0, _, h, _ => by omega
  | .bin o l r, n + 1, acc, h, hl => by
    simp only [Tr.lnk, List.length_append, List.length_cons, List.length_nil] at h hl
    have ih := sp_loop l n (acc ++ [lkE (o, r)]) (by omega) (by simp; omega)
    have ho := op_in o
    have a2 : ∀ (x y z : D), atI [x, y, z] 2 = some z := fun _ _ _ => rfl
    have a3 : ∀ (x y z : D), atI [x, y, z] 1 = some y := fun _ _ _ => rfl
    have a4 : ∀ (x y z : D), atI [x, y, z] 0 = some x := fun _ _ _ => rfl
    have ha : acc.length < 1000000 := by omega
    have e : acc ++ (Tr.lnk (.bin o l r)).reverse.map lkE = acc ++ [lkE (o, r)] ++ l.lnk.reverse.map lkE := by simp [Tr.lnk]
    have e2 : (Tr.bin o l r).fst = l.fst := rfl
    have e3 : spS l.val (acc ++ [lkE (o, r)]) = ⟨[some (.p l.val), some (.o 0)], [.lst (acc.map .p ++ [.p (lkE (o, r))])]⟩ := by simp [spS]
    rw [e, e2, ← ih, e3, sWhile]
    simp [e_seq, e_lift, e_bnd, sExpr, tyOk, gApp, mInKd, inKd, Tr.val, a2, a3, a4, ho, ha, lkE]
  | .atom _ _, 0, _, h, _ | .ref .., 0, _, h, _ | .rng .., 0, _, h, _ | .neg _, 0, _, h, _ | .call .., 0, _, h, _ => by omega
  | .atom k d, n + 1, acc, _, _ => by
    have e := sp_end k.s (by cases k <;> simp [At.s]) [d] n acc
    simpa [Tr.val, Tr.fst, Tr.lnk] using e
  | .ref c r, n + 1, acc, _, _ => by
    have e := sp_end "ref" (by simp) [ad c r] n acc
    simpa [Tr.val, Tr.fst, Tr.lnk] using e
  | .rng a b c d, n + 1, acc, _, _ => by
    have e := sp_end "range" (by simp) [.tup [ad a b, ad c d]] n acc
    simpa [Tr.val, Tr.fst, Tr.lnk] using e
  | .neg t, n + 1, acc, _, _ => by
    have e := sp_end "neg" (by simp) [t.val] n acc
    simpa [Tr.val, Tr.fst, Tr.lnk] using e
  | .call f as, n + 1, acc, _, _ => by
    have e := sp_end "call" (by simp) [.str f, .lst (Tr.vals as)] n acc
    simpa [Tr.val, Tr.fst, Tr.lnk] using e
theorem spine_spec (t : Tr) (hl : t.lnk.length < 999999) : m_spine_of [t.val] = some (.ok (.tup [t.fst.val, .lst (t.lnk.map lkE)])) := by
  have e := sp_loop t 1000000 [] (by omega) (by simp; omega)
  have hy : (t.lnk.reverse.map lkE).reverse = t.lnk.map lkE := by rw [← List.map_reverse, List.reverse_reverse]
  rw [List.nil_append] at e
  generalize t.lnk.reverse.map lkE = ys at *
  rw [← hy]
  have e' : sWhile 1000000 sC sB ⟨[some (.p t.val), some (.o 0)], [.lst []]⟩ = some (.nx, ⟨[some (.p t.fst.val), some (.o 0)], [.lst (ys.map .p)]⟩) := e
  apply wpA.eq
  simp only [m_spine_of, b_spine_of]
  simp
  rw [e']
  simp [e_bnd, mRevL, revD]
end Law
namespace Law
open PySem L2 DL
/-! ## a tree made anew with what a closure makes of its addresses -/
def oE : Option Tr → D
  | none => .non
  | some t => t.val
mutual
def rb (g : Tr → Option Tr) : Tr → Option Tr
  | .ref c r => g (.ref c r)
  | .rng a b c d => g (.rng a b c d)
  | .neg t => (rb g t).map .neg
  | .call f as => (rbs g as).map (.call f)
  | .bin o l r => match rb g l, rb g r with
    | some a, some b => some (.bin o a b)
    | _, _ => none
  | .atom k d => some (.atom k d)
def rbs (g : Tr → Option Tr) : List Tr → Option (List Tr)
  | [] => some []
  | t :: r => match rb g t, rbs g r with
    | some a, some b => some (a :: b)
    | _, _ => none
end
def lf (g : Tr → Option Tr) : Option Tr → List (Op × Tr) → Option Tr
  | a, [] => a
  | a, (o, r) :: ls => match a, rb g r with
    | some x, some y => lf g (some (.bin o x y)) ls
    | _, _ => none
theorem lf_none (g : Tr → Option Tr) : ∀ ls, lf g none ls = none
  | [] => rfl
  | (o, r) :: ls => rfl
theorem lf_app (g : Tr → Option Tr) (o : Op) (r : Tr) : ∀ (ls : List (Op × Tr)) (a : Option Tr), lf g a (ls ++ [(o, r)]) = (match lf g a ls, rb g r with
    | some x, some y => some (.bin o x y)
    | _, _ => none)
  | [], a => by
    simp only [List.nil_append, lf]
    try (cases a <;> cases rb g r <;> rfl)
  | (o', r') :: ls, a => by
    simp only [List.cons_append, lf]
    cases a with
    | none => simp
    | some x =>
      cases rb g r' with
      | none => simp
      | some y => simp only; exact lf_app g o r ls _
theorem rb_lf (g : Tr → Option Tr) : ∀ t : Tr, rb g t = lf g (rb g t.fst) t.lnk
  | .bin o l r => by
    rw [Tr.lnk, Tr.fst, lf_app, ← rb_lf g l, rb]
  | .atom _ _ | .ref .. | .rng .. | .neg _ | .call .. => rfl
section
variable {L : LamS} {m : MA} {cs : List D} {g : Tr → Option Tr}
/-- what the closure does -/
structure Clo (L : LamS) (m : MA) (cs : List D) (g : Tr → Option Tr) : Prop where
  tb : tbm cloT L = some m
  nc : noClos cs = true
  rf : ∀ c r, m ((Tr.ref c r).val :: cs) = some (.ok (oE (g (.ref c r)))) ∧ noClo (oE (g (.ref c r))) = true
  rg : ∀ a b c d, m ((Tr.rng a b c d).val :: cs) = some (.ok (oE (g (.rng a b c d)))) ∧ noClo (oE (g (.rng a b c d))) = true
theorem callC_eq (h1 : tbm cloT L = some m) (h2 : noClos cs = true) {d r : D} (h3 : noClo d = true) (h4 : m (d :: cs) = some (.ok r)) (h5 : noClo r = true) (l : List (Option DV)) (M : List O) :
    mCallC 1 1 cloT (aCons (mVar 0) aNil) ⟨some (.p d) :: some (.p (.clo L cs)) :: l, M⟩ = some (.ok (.p r) M) := by
  have h6 : noClos [d] = true := by simp [noClos, h3]
  have hg : gv (some (.p d) :: some (.p (.clo L cs)) :: l) 1 = some (.p (.clo L cs)) := rfl
  unfold mCallC
  simp [hg, h1, h2, e_bnd, cloA, h6, h4, h5]
end
end Law
namespace Law
open PySem L2 DL
section
variable {L : LamS} {m : MA} {cs : List D} {g : Tr → Option Tr}
theorem in_rr : ∀ k ∈ ["num", "text", "bool", "ref", "range", "neg", "call"], inD (.str (Str.ofString k)) (.tup [.str (Str.ofString "ref"), .str (Str.ofString "range")]) = some (decide (k ∈ ["ref", "range"])) := by decide +kernel
theorem ne_k : ∀ k ∈ ["num", "text", "bool"], Str.ofString k ≠ Str.ofString "neg" ∧ Str.ofString k ≠ Str.ofString "call" := by decide +kernel
theorem k_cn : Str.ofString "call" ≠ Str.ofString "neg" := by decide +kernel
def RP (L : LamS) (cs : List D) (g : Tr → Option Tr) (j : Nat) (t : Tr) : Prop := m_rebuilt_part j [t.val, .clo L cs] = some (.ok (oE (rb g t)))
def RB (L : LamS) (cs : List D) (g : Tr → Option Tr) (j : Nat) (t : Tr) : Prop := m_rebuilt j [t.val, .clo L cs] = some (.ok (oE (rb g t)))
theorem rp_ref (h : Clo L m cs g) (j : Nat) (c r : Int) : RP L cs g (j + 1) (.ref c r) := by
  have h1 := (h.rf c r)
  have e := callC_eq h.tb h.nc (d := (Tr.ref c r).val) rfl h1.1 h1.2 [none, none, none] []
  have k := in_rr "ref" (by simp)
  unfold RP
  rw [m_rebuilt_part_succ]
  apply wpA.eq
  simp only [Tr.val] at e ⊢
  simp [b_rebuilt_part, k, e, rb]
theorem rp_rng (h : Clo L m cs g) (j : Nat) (a b c d : Int) : RP L cs g (j + 1) (.rng a b c d) := by
  have h1 := (h.rg a b c d)
  have e := callC_eq h.tb h.nc (d := (Tr.rng a b c d).val) rfl h1.1 h1.2 [none, none, none] []
  have k := in_rr "range" (by simp)
  unfold RP
  rw [m_rebuilt_part_succ]
  apply wpA.eq
  simp only [Tr.val] at e ⊢
  simp [b_rebuilt_part, k, e, rb]
theorem rp_atom (j : Nat) (k : At) (d : D) : RP L cs g (j + 1) (.atom k d) := by
  have hk : k.s ∈ ["num", "text", "bool"] := by cases k <;> simp [At.s]
  have k1 := in_rr k.s (by cases k <;> simp [At.s])
  have k2 : decide (k.s ∈ ["ref", "range"]) = false := by cases k <;> decide
  have k3 := ne_k k.s hk
  rw [k2] at k1
  unfold RP
  rw [m_rebuilt_part_succ]
  apply wpA.eq
  simp [b_rebuilt_part, k1, k3.1, k3.2, rb, oE, Tr.val]
theorem rp_neg (j : Nat) (t : Tr) (ih : RB L cs g j t) : RP L cs g (j + 1) (.neg t) := by
  have k1 := in_rr "neg" (by simp)
  have a3 : ∀ (x y : D), atI [x, y] 1 = some y := fun _ _ => rfl
  unfold RB at ih
  unfold RP
  rw [m_rebuilt_part_succ]
  apply wpA.eq
  cases e : rb g t with
  | none =>
    rw [e] at ih
    simp [b_rebuilt_part, k1, a3, rb, oE, Tr.val, ih, e]
  | some u =>
    rw [e] at ih
    have hu : ∃ s l, u.val = .tup (.str s :: l) := by cases u <;> exact ⟨_, _, rfl⟩
    obtain ⟨s, l, hu⟩ := hu
    have ih : m_rebuilt j [t.val, .clo L cs] = some (.ok u.val) := ih
    rw [hu] at ih
    simp [b_rebuilt_part, k1, a3, rb, oE, Tr.val, ih, e, hu]
end
end Law
namespace Law
open PySem L2 DL
section
variable {L : LamS} {m : MA} {cs : List D} {g : Tr → Option Tr}
theorem deq_non (t : Tr) : deq t.val .non = false := by cases t <;> rfl
theorem rbs_any (g : Tr → Option Tr) : ∀ as : List Tr, (rbs g as = none ∧ (as.map fun t => oE (rb g t)).any (fun z => deq z .non) = true) ∨ ∃ bs, rbs g as = some bs ∧ (as.map fun t => oE (rb g t)) = Tr.vals bs ∧ (as.map fun t => oE (rb g t)).any (fun z => deq z .non) = false
  | [] => .inr ⟨[], rfl, rfl, rfl⟩
  | t :: r => by
    cases e : rb g t with
    | none => exact .inl ⟨by simp [rbs, e], by simp only [List.map_cons, List.any_cons, e]; rfl⟩
    | some u =>
      have d : deq (oE (some u)) .non = false := deq_non u
      rcases rbs_any g r with ⟨h1, h2⟩ | ⟨bs, h1, h2, h3⟩
      · exact .inl ⟨by simp [rbs, e, h1], by simp only [List.map_cons, List.any_cons, e, h2, Bool.or_true]⟩
      · exact .inr ⟨u :: bs, by simp [rbs, e, h1], by simp only [List.map_cons, e, h2]; rfl, by simp only [List.map_cons, List.any_cons, e, d, h3, Bool.or_false]⟩
theorem rp_call (j : Nat) (f : Str) (as : List Tr) (hn : as.length ≤ 1000000) (hs : shp (.lst (as.map fun t => oE (rb g t))) = true) (ih : ∀ t ∈ as, RB L cs g j t) : RP L cs g (j + 1) (.call f as) := by
  have k1 := in_rr "call" (by simp)
  have k2 := k_cn
  have a1 : ∀ (x y z : D), atI [x, y, z] 1 = some y := fun _ _ _ => rfl
  have a2 : ∀ (x y z : D), atI [x, y, z] 2 = some z := fun _ _ _ => rfl
  have hc : ∀ (x0 x2 x3 : Option DV), compL [x0, some (.p (.clo L cs)), x2, x3, none] (gN 4) tYesM (mCallA 2 (m_rebuilt j) (aCons (mVar 4) (aCons (mVar 1) aNil))) ((as.map Tr.val).map .p) [] [] = some (as.map fun t => oE (rb g t), []) := by
    intro x0 x2 x3
    refine map_compE Tr.val (fun t => oE (rb g t)) as (fun t ht => ⟨_, rfl, rfl, ?_⟩) hn
    have := ih t ht
    unfold RB at this
    simp [e_bnd, this]
  have hc' := hc
  simp only [List.map_map] at hc'
  have hi : inD .non (.lst (as.map fun t => oE (rb g t))) = some ((as.map fun t => oE (rb g t)).any fun z => deq z .non) := inD_shp rfl hs
  unfold RP
  rw [m_rebuilt_part_succ]
  apply wpA.eq
  rcases rbs_any g as with ⟨h1, h2⟩ | ⟨bs, h1, h2, h3⟩
  · rw [h2] at hi
    generalize (as.map fun t => oE (rb g t)) = R at *
    simp [b_rebuilt_part, k1, k2, a1, a2, rb, oE, Tr.val, vals_map, hc, hc', hi, h1]
  · rw [h3] at hi
    rw [h2] at hi hc hc'
    generalize hR : Tr.vals bs = R at *
    simp [b_rebuilt_part, k1, k2, a1, a2, rb, oE, Tr.val, vals_map, hc, hc', hi, h1]
    rw [← hR, vals_map]
end
end Law
namespace Law
open PySem L2 DL
section
variable {L : LamS} {m : MA} {cs : List D} {g : Tr → Option Tr}
noncomputable abbrev rbT (f : MA) : SM := (sSeq (sAsg (mCallA 2 f (aCons (mVar 6) (aCons (mVar 1) aNil))) (gN 7))
  (sSeq (sIf (mOr (mIsN (mVar 4)) (mIsN (mVar 7))) (sRet (mC .non)) sNil)
  (sAsg (disp .tup (aCons (mVar 5) (aCons (mVar 4) (aCons (mVar 7) aNil)))) (gN 4))))
noncomputable abbrev rbG : GM := gT 2 (gsCons (gN 5) (gsCons (gN 6) gsNil))
theorem val_tup (u : Tr) : ∃ s l, u.val = .tup (.str s :: l) := by cases u <;> exact ⟨_, _, rfl⟩
/-- the loop over the links of a spine -/
theorem rb_loop (f : MA) : ∀ (ls : List (Op × Tr)) (a : Option Tr) (x0 x2 x3 x5 x6 x7 : Option DV), (∀ x ∈ ls, f [x.2.val, .clo L cs] = some (.ok (oE (rb g x.2)))) →
    (∃ y5 y6 y7, loopS rbG (rbT f) ((ls.map lkE).map .p) ⟨[x0, some (.p (.clo L cs)), x2, x3, some (.p (oE a)), x5, x6, x7], []⟩ = some (.nx, ⟨[x0, some (.p (.clo L cs)), x2, x3, some (.p (oE (lf g a ls))), y5, y6, y7], []⟩)) ∨
    (lf g a ls = none ∧ ∃ s, loopS rbG (rbT f) ((ls.map lkE).map .p) ⟨[x0, some (.p (.clo L cs)), x2, x3, some (.p (oE a)), x5, x6, x7], []⟩ = some (.rt (.p .non), s))
  | [], a, x0, x2, x3, x5, x6, x7, _ => .inl ⟨x5, x6, x7, rfl⟩
  | (o, r) :: ls, a, x0, x2, x3, x5, x6, x7, h => by
    have h1 := h (o, r) (by simp)
    have hr := fun x hx => h x (List.mem_cons_of_mem _ hx)
    dsimp only at h1
    cases a with
    | none =>
      refine .inr ⟨rfl, ⟨[x0, some (.p (.clo L cs)), x2, x3, some (.p .non), some (.p (.str (Str.ofString o.s))), some (.p r.val), some (.p (oE (rb g r)))], []⟩, ?_⟩
      rw [List.map_cons, List.map_cons, loopS]
      have h1 : f [r.val, .clo L cs] = some (.ok (oE (rb g r))) := h1
      generalize oE (rb g r) = z at *
      simp [lkE, e_seq, e_lift, e_bnd, oE, h1]
    | some u =>
      obtain ⟨su, lu, hu⟩ := val_tup u
      cases e : rb g r with
      | none =>
        rw [e] at h1
        refine .inr ⟨by simp [lf, e], ⟨[x0, some (.p (.clo L cs)), x2, x3, some (.p u.val), some (.p (.str (Str.ofString o.s))), some (.p r.val), some (.p .non)], []⟩, ?_⟩
        rw [List.map_cons, List.map_cons, loopS]
        have h1 : f [r.val, .clo L cs] = some (.ok .non) := h1
        simp [lkE, e_seq, e_lift, e_bnd, oE, h1, hu]
      | some v =>
        obtain ⟨sv, lv, hv⟩ := val_tup v
        rw [e] at h1
        have ih := rb_loop f ls (some (.bin o u v)) x0 x2 x3 (some (.p (.str (Str.ofString o.s)))) (some (.p r.val)) (some (.p v.val)) hr
        have el : lf g (some u) ((o, r) :: ls) = lf g (some (.bin o u v)) ls := by simp [lf, e]
        rw [el]
        have st : loopS rbG (rbT f) ((((o, r) :: ls).map lkE).map .p) ⟨[x0, some (.p (.clo L cs)), x2, x3, some (.p (oE (some u))), x5, x6, x7], []⟩ = loopS rbG (rbT f) ((ls.map lkE).map .p) ⟨[x0, some (.p (.clo L cs)), x2, x3, some (.p (oE (some (.bin o u v)))), some (.p (.str (Str.ofString o.s))), some (.p r.val), some (.p v.val)], []⟩ := by
          rw [List.map_cons, List.map_cons]
          refine loop_step _ _ _ _ _ _ _ rfl ?_
          simp [e_seq, e_lift, e_bnd, oE, h1, hu, hv, Tr.val]
        rw [st]
        exact ih
end
end Law
namespace Law
open PySem L2 DL
section
variable {L : LamS} {m : MA} {cs : List D} {g : Tr → Option Tr}
/-- the first of a spine by rebuilt_part, the others by rebuilt -/
def QR (L : LamS) (cs : List D) (g : Tr → Option Tr) (j : Nat) (t : Tr) : Prop := RP L cs g j t.fst ∧ ∀ x ∈ t.lnk, RB L cs g j x.2
theorem qr_full (j : Nat) (t : Tr) (hl : t.lnk.length < 999999) (h : QR L cs g j t) : RB L cs g (j + 1) t := by
  obtain ⟨h1, h2⟩ := h
  have hs := spine_spec t hl
  have lp := rb_loop (m_rebuilt j) t.lnk (rb g t.fst) (some (.p t.val)) (some (.p t.fst.val)) (some (.p (.lst (t.lnk.map lkE)))) none none none h2
  have e := rb_lf g t
  unfold RP at h1
  unfold RB
  rw [m_rebuilt_succ, e]
  apply wpA.eq
  generalize lf g (rb g t.fst) t.lnk = R at *
  generalize oE (rb g t.fst) = F at *
  generalize hE : t.lnk.map lkE = E at *
  generalize t.fst.val = V0 at *
  generalize t.val = V at *
  rcases lp with ⟨y5, y6, y7, lp⟩ | ⟨e2, s, lp⟩
  · simp [b_rebuilt, hs, h1]
    rw [lp]
    simp
  · subst e2
    simp [b_rebuilt, hs, h1]
    rw [lp]
    simp [oE]
end
end Law
namespace Law
open PySem L2 DL
mutual
/-- how high -/
def Tr.ht : Tr → Nat
  | .neg t => t.ht + 1
  | .call _ as => Tr.hts as + 1
  | .bin _ l r => max l.ht r.ht + 1
  | _ => 0
def Tr.hts : List Tr → Nat
  | [] => 0
  | t :: r => max t.ht (Tr.hts r)
end
mutual
/-- of texts and data that stand in the model, calls of few arguments -/
def Tr.sm : Tr → Prop
  | .atom _ d => okD d = true ∧ depD d = 0
  | .neg t => t.sm
  | .call f as => PyData.strOk f = true ∧ as.length ≤ 1000000 ∧ Tr.sms as
  | .bin _ l r => l.sm ∧ r.sm
  | _ => True
def Tr.sms : List Tr → Prop
  | [] => True
  | t :: r => t.sm ∧ Tr.sms r
end
theorem sms_mem : ∀ {l : List Tr}, Tr.sms l → ∀ t ∈ l, t.sm
  | _ :: _, h, t, ht => by
    rcases List.mem_cons.mp ht with rfl | ht
    · exact h.1
    · exact sms_mem h.2 t ht
theorem hts_mem : ∀ {l : List Tr}, ∀ t ∈ l, t.ht ≤ Tr.hts l
  | u :: r, t, ht => by
    simp only [Tr.hts]
    rcases List.mem_cons.mp ht with rfl | ht
    · omega
    · have := hts_mem (l := r) t ht; omega
theorem lnk_ht : ∀ t : Tr, t.lnk.length ≤ t.ht
  | .bin o l r => by
    have := lnk_ht l
    simp only [Tr.lnk, Tr.ht, List.length_append, List.length_cons, List.length_nil]
    omega
  | .atom _ _ | .ref .. | .rng .. | .neg _ | .call .. => Nat.zero_le _
/-- what an address becomes is small -/
structure GS (g : Tr → Option Tr) : Prop where
  rf : ∀ c r, okD (oE (g (.ref c r))) = true ∧ depD (oE (g (.ref c r))) ≤ 3
  rg : ∀ a b c d, okD (oE (g (.rng a b c d))) = true ∧ depD (oE (g (.rng a b c d))) ≤ 3
theorem kd_ok : ∀ k ∈ ["num", "text", "bool", "neg", "call"], PyData.strOk (Str.ofString k) = true := by decide +kernel
theorem op_ok (o : Op) : PyData.strOk (Str.ofString o.s) = true := by cases o <;> decide +kernel
section
variable {g : Tr → Option Tr}
mutual
theorem rb_sm (hg : GS g) : ∀ t : Tr, t.sm → okD (oE (rb g t)) = true ∧ depD (oE (rb g t)) ≤ 2 * t.ht + 3
  | .atom k d, h => by
    have hk := kd_ok k.s (by cases k <;> simp [At.s])
    have h1 : okD d = true := h.1
    have h2 : depD d = 0 := h.2
    simp [rb, oE, Tr.val, okD, okDs, depD, depDs, hk, h1, h2]
  | .ref c r, _ => by
    have := hg.rf c r
    rw [rb]
    exact ⟨this.1, by omega⟩
  | .rng a b c d, _ => by
    have := hg.rg a b c d
    rw [rb]
    exact ⟨this.1, by omega⟩
  | .neg t, h => by
    obtain ⟨h1, h2⟩ := rb_sm hg t h
    have hk := kd_ok "neg" (by simp)
    rw [rb]
    cases e : rb g t with
    | none => simp [oE, okD, depD]
    | some u =>
      rw [e] at h1 h2
      simp only [oE] at h1 h2
      simp only [Option.map_some, oE, Tr.val, okD, okDs, depD, depDs, hk, h1, Tr.ht]
      simp
      omega
  | .call f as, h => by
    obtain ⟨h1, h2⟩ := rbs_sm hg as h.2.2
    have hk := kd_ok "call" (by simp)
    have hf : PyData.strOk f = true := h.1
    rw [rb]
    rcases rbs_any g as with ⟨e, _⟩ | ⟨bs, e, e2, _⟩
    · rw [e]; simp [oE, okD, depD]
    · rw [e2] at h1 h2
      rw [e]
      simp only [Option.map_some, oE, Tr.val, okD, okDs, depD, depDs, hk, hf, h1, Tr.ht]
      simp
      omega
  | .bin o l r, h => by
    obtain ⟨h1, h2⟩ := rb_sm hg l h.1
    obtain ⟨h3, h4⟩ := rb_sm hg r h.2
    have hk := op_ok o
    rw [rb]
    cases e : rb g l with
    | none => simp [oE, okD, depD]
    | some u =>
      cases e2 : rb g r with
      | none => simp [oE, okD, depD]
      | some v =>
        rw [e] at h1 h2
        rw [e2] at h3 h4
        simp only [oE] at h1 h2 h3 h4
        simp only [oE, Tr.val, okD, okDs, depD, depDs, hk, h1, h3, Tr.ht]
        simp
        omega
theorem rbs_sm (hg : GS g) : ∀ l : List Tr, Tr.sms l → okDs (l.map fun t => oE (rb g t)) = true ∧ depDs (l.map fun t => oE (rb g t)) ≤ 2 * Tr.hts l + 3
  | [], _ => ⟨rfl, Nat.zero_le _⟩
  | t :: r, h => by
    obtain ⟨h1, h2⟩ := rb_sm hg t h.1
    obtain ⟨h3, h4⟩ := rbs_sm hg r h.2
    simp only [List.map_cons, okDs, depDs, h1, h3, Tr.hts]
    refine ⟨rfl, ?_⟩
    omega
end
end
end Law
namespace Law
open PySem L2 DL
section
variable {L : LamS} {m : MA} {cs : List D} {g : Tr → Option Tr}
theorem shp_of {d : D} (h1 : okD d = true) (h2 : depD d ≤ 64) : shp d = true := by
  unfold shp
  rw [h1, Bool.true_and]
  exact decide_eq_true h2
mutual
theorem qr_all (h : Clo L m cs g) (hg : GS g) : ∀ (t : Tr), t.sm → t.ht ≤ 28 → ∀ j, 2 * t.ht + 1 ≤ j → QR L cs g j t
  | .atom k d, _, _, j, hj => by
    obtain ⟨j, rfl⟩ : ∃ i, j = i + 1 := ⟨j - 1, by omega⟩
    exact ⟨rp_atom j k d, fun x hx => by cases hx⟩
  | .ref c r, _, _, j, hj => by
    obtain ⟨j, rfl⟩ : ∃ i, j = i + 1 := ⟨j - 1, by omega⟩
    exact ⟨rp_ref h j c r, fun x hx => by cases hx⟩
  | .rng a b c d, _, _, j, hj => by
    obtain ⟨j, rfl⟩ : ∃ i, j = i + 1 := ⟨j - 1, by omega⟩
    exact ⟨rp_rng h j a b c d, fun x hx => by cases hx⟩
  | .neg t, hs, hh, j, hj => by
    simp only [Tr.ht] at hh hj
    obtain ⟨j, rfl⟩ : ∃ i, j = i + 2 := ⟨j - 2, by omega⟩
    have hl := lnk_ht t
    exact ⟨rp_neg (j + 1) t (qr_full j t (by omega) (qr_all h hg t hs (by omega) j (by omega))), fun x hx => by cases hx⟩
  | .call f as, hs, hh, j, hj => by
    simp only [Tr.ht] at hh hj
    obtain ⟨j, rfl⟩ : ∃ i, j = i + 2 := ⟨j - 2, by omega⟩
    obtain ⟨q1, q2⟩ := rbs_sm hg as hs.2.2
    exact ⟨rp_call (j + 1) f as hs.2.1 (shp_of q1 (by simp only [depD]; omega)) (qr_list h hg as hs.2.2 (by omega) j (by omega)), fun x hx => by cases hx⟩
  | .bin o l r, hs, hh, j, hj => by
    simp only [Tr.ht] at hh hj
    obtain ⟨j, rfl⟩ : ∃ i, j = i + 1 := ⟨j - 1, by omega⟩
    have hl := lnk_ht r
    obtain ⟨q1, q2⟩ := qr_all h hg l hs.1 (by omega) (j + 1) (by omega)
    refine ⟨q1, fun x hx => ?_⟩
    rcases List.mem_append.mp hx with hx | hx
    · exact q2 x hx
    · rw [List.mem_singleton.mp hx]
      exact qr_full j r (by omega) (qr_all h hg r hs.2 (by omega) j (by omega))
theorem qr_list (h : Clo L m cs g) (hg : GS g) : ∀ (l : List Tr), Tr.sms l → Tr.hts l ≤ 28 → ∀ j, 2 * Tr.hts l + 1 ≤ j → ∀ t ∈ l, RB L cs g (j + 1) t
  | [], _, _, _, _, t, ht => by cases ht
  | u :: r, hs, hh, j, hj, t, ht => by
    simp only [Tr.hts] at hh hj
    rcases List.mem_cons.mp ht with e | ht
    · rw [e]
      have hl := lnk_ht u
      exact qr_full j u (by omega) (qr_all h hg u hs.1 (by omega) j (by omega))
    · exact qr_list h hg r hs.2 (by omega) j (by omega) t ht
end
theorem rebuilt_spec (h : Clo L m cs g) (hg : GS g) (t : Tr) (hs : t.sm) (hh : t.ht ≤ 28) : m_rebuilt 60 [t.val, .clo L cs] = some (.ok (oE (rb g t))) := by
  have hl := lnk_ht t
  exact qr_full 59 t (by omega) (qr_all h hg t hs hh 59 (by omega))
end
/-! ### the two closures of the law -/
mutual
theorem rb_id : ∀ t : Tr, rb some t = some t
  | .atom _ _ | .ref .. | .rng .. => rfl
  | .neg t => by rw [rb, rb_id t]; rfl
  | .call f as => by rw [rb, rbs_id as]; rfl
  | .bin o l r => by rw [rb, rb_id l, rb_id r]
theorem rbs_id : ∀ l : List Tr, rbs some l = some l
  | [] => rfl
  | t :: r => by rw [rbs, rb_id t, rbs_id r]
end
theorem clo_0 : Clo lam_0 ml_0 [] some := ⟨tbm_hit _ _ _, rfl, fun c r => ⟨by simp [ml_0, lamK, slotsOf, oE], rfl⟩, fun a b c d => ⟨by simp [ml_0, lamK, slotsOf, oE], rfl⟩⟩
theorem gs_0 : GS some := ⟨fun c r => by
    have hk : PyData.strOk (Str.ofString "ref") = true := by decide +kernel
    simp [oE, Tr.val, ad, okD, okDs, depD, depDs, hk], fun a b c d => by
    have hk : PyData.strOk (Str.ofString "range") = true := by decide +kernel
    simp [oE, Tr.val, ad, okD, okDs, depD, depDs, hk]⟩
def inS (c r : Int) : Bool := decide (0 ≤ c ∧ c ≤ 25 ∧ 0 ≤ r ∧ r ≤ 98)
/-- an address or a range moved, or none -/
def gM (x y : Int) : Tr → Option Tr
  | .ref c r => if inS (c + x) (r + y) then some (.ref (c + x) (r + y)) else none
  | .rng a b c d => if inS (a + x) (b + y) && inS (c + x) (d + y) then some (.rng (a + x) (b + y) (c + x) (d + y)) else none
  | t => some t
theorem gs_m (x y : Int) : GS (gM x y) := ⟨fun c r => by
    have := gs_0.rf (c + x) (r + y)
    have e : gM x y (.ref c r) = if inS (c + x) (r + y) then some (.ref (c + x) (r + y)) else none := rfl
    rw [e]
    split
    · exact this
    · simp [oE, okD, depD], fun a b c d => by
    have := gs_0.rg (a + x) (b + y) (c + x) (d + y)
    have e : gM x y (.rng a b c d) = if inS (a + x) (b + y) && inS (c + x) (d + y) then some (.rng (a + x) (b + y) (c + x) (d + y)) else none := rfl
    rw [e]
    split
    · exact this
    · simp [oE, okD, depD]⟩
theorem inside_spec (c r : Int) : m_inside [ad c r, k_SHEET] = some (.ok (.bl (inS c r))) := by
  have a0 : ∀ (x y : D), atI [x, y] 0 = some x := fun _ _ => rfl
  have a1 : ∀ (x y : D), atI [x, y] 1 = some y := fun _ _ => rfl
  have hg : ∀ d : D, gT 2 (gsCons (gN 2) (gsCons (gN 3) gsNil)) (.p k_SHEET) ⟨[some (.p d), some (.p k_SHEET), none, none], []⟩ = some ⟨[some (.p d), some (.p k_SHEET), some (.p (.ktup [.int 0, .int 0])), some (.p (.ktup [.int 25, .int 98]))], []⟩ := fun _ => rfl
  have b0 : ∀ (x y : D), ixD (.ktup [x, y]) 0 = some x := fun _ _ => rfl
  have b1 : ∀ (x y : D), ixD (.ktup [x, y]) 1 = some y := fun _ _ => rfl
  apply wpA.eq
  generalize k_SHEET = SH at *
  unfold ad
  simp [m_inside, b_inside, hg, a0, a1, b0, b1, inS]
  by_cases h1 : 0 ≤ c <;> by_cases h2 : c ≤ 25 <;> by_cases h3 : 0 ≤ r <;> by_cases h4 : r ≤ 98 <;> simp [h1, h2, h3, h4] <;> omega
theorem maddr_spec (c r x y : Int) : m_moved_address [ad c r, ad x y] = some (.ok (if inS (c + x) (r + y) then ad (c + x) (r + y) else .non)) := by
  have h := inside_spec (c + x) (r + y)
  have a0 : ∀ (x y : D), atI [x, y] 0 = some x := fun _ _ => rfl
  have a1 : ∀ (x y : D), atI [x, y] 1 = some y := fun _ _ => rfl
  apply wpA.eq
  unfold ad at *
  cases e : inS (c + x) (r + y) <;> rw [e] at h <;> simp [m_moved_address, b_moved_address, a0, a1, h]
end Law
namespace Law
open PySem L2 DL
theorem ad_tup (c r : Int) : ad c r = .tup [.int c, .int r] := rfl
theorem mpart_ref (c r x y : Int) : m_moved_part [(Tr.ref c r).val, ad x y] = some (.ok (oE (gM x y (.ref c r)))) := by
  have h := maddr_spec c r x y
  have a1 : ∀ (x y : D), atI [x, y] 1 = some y := fun _ _ => rfl
  have e : gM x y (.ref c r) = if inS (c + x) (r + y) then some (.ref (c + x) (r + y)) else none := rfl
  have ev : (Tr.ref c r).val = .tup [.str (Str.ofString "ref"), ad c r] := rfl
  have ev2 : oE (some (.ref (c + x) (r + y))) = .tup [.str (Str.ofString "ref"), ad (c + x) (r + y)] := rfl
  have ev3 : oE none = .non := rfl
  have ht := ad_tup (c + x) (r + y)
  rw [e, ev]
  apply wpA.eq
  generalize ad (c + x) (r + y) = G at *
  generalize ad c r = A at *
  generalize ad x y = B at *
  cases q : inS (c + x) (r + y) with
  | false => rw [q] at h; simp [m_moved_part, b_moved_part, a1, h, ev3]
  | true => rw [q] at h; subst ht; simp [m_moved_part, b_moved_part, a1, h, ev2]
theorem mpart_rng (a b c d x y : Int) : m_moved_part [(Tr.rng a b c d).val, ad x y] = some (.ok (oE (gM x y (.rng a b c d)))) := by
  have h1 := maddr_spec a b x y
  have h2 := maddr_spec c d x y
  have a0 : ∀ (x y : D), atI [x, y] 0 = some x := fun _ _ => rfl
  have a1 : ∀ (x y : D), atI [x, y] 1 = some y := fun _ _ => rfl
  have e : gM x y (.rng a b c d) = if inS (a + x) (b + y) && inS (c + x) (d + y) then some (.rng (a + x) (b + y) (c + x) (d + y)) else none := rfl
  have ev : (Tr.rng a b c d).val = .tup [.str (Str.ofString "range"), .tup [ad a b, ad c d]] := rfl
  have ev2 : oE (some (.rng (a + x) (b + y) (c + x) (d + y))) = .tup [.str (Str.ofString "range"), .tup [ad (a + x) (b + y), ad (c + x) (d + y)]] := rfl
  have ev3 : oE none = .non := rfl
  have hk : Str.ofString "range" ≠ Str.ofString "ref" := by decide +kernel
  have t1 := ad_tup (a + x) (b + y)
  have t2 := ad_tup (c + x) (d + y)
  rw [e, ev]
  apply wpA.eq
  generalize ad (a + x) (b + y) = G1 at *
  generalize ad (c + x) (d + y) = G2 at *
  generalize ad a b = A1 at *
  generalize ad c d = A2 at *
  generalize ad x y = B at *
  cases q1 : inS (a + x) (b + y) <;> cases q2 : inS (c + x) (d + y) <;> rw [q1] at h1 <;> rw [q2] at h2 <;> subst t1 <;> subst t2 <;> simp [m_moved_part, b_moved_part, a0, a1, h1, h2, ev2, ev3, hk]
theorem clo_1 (x y : Int) : Clo lam_1 ml_1 [ad x y] (gM x y) := ⟨by
    unfold cloT
    rw [tbm_miss (by rw [lam_ix_0, lam_ix_1]; decide)]
    exact tbm_hit _ _ _, rfl, fun c r => ⟨by
    have h := mpart_ref c r x y
    generalize (Tr.ref c r).val = V at *
    generalize ad x y = B at *
    simp [ml_1, lamK, slotsOf, h, e_bnd], by
    have e : gM x y (.ref c r) = if inS (c + x) (r + y) then some (.ref (c + x) (r + y)) else none := rfl
    rw [e]; split <;> rfl⟩, fun a b c d => ⟨by
    have h := mpart_rng a b c d x y
    generalize (Tr.rng a b c d).val = V at *
    generalize ad x y = B at *
    simp [ml_1, lamK, slotsOf, h, e_bnd], by
    have e : gM x y (.rng a b c d) = if inS (a + x) (b + y) && inS (c + x) (d + y) then some (.rng (a + x) (b + y) (c + x) (d + y)) else none := rfl
    rw [e]; split <;> rfl⟩⟩
end Law
namespace Law
open PySem L2 DL
mutual
theorem okD_noClo : ∀ {d : D}, okD d = true → noClo d = true
  | .non, _ | .bl _, _ | .int _, _ | .str _, _ | .fn _, _ | .ty _, _ | .rng _ _, _ => rfl
  | .lst xs, h => okDs_noClo (ds := xs) h
  | .tup xs, h => okDs_noClo (ds := xs) h
  | .ktup xs, h => okDs_noClo (ds := xs) h
  | .klst xs, h => okDs_noClo (ds := xs) h
  | .clo _ _, h => by cases h
  | .dK _, h => by cases h
  | .dT _, h => by cases h
  | .scr _, h => by cases h
theorem okDs_noClo : ∀ {ds : List D}, okDs ds = true → noClos ds = true
  | [], _ => rfl
  | x :: r, h => by
    have h : (okD x && okDs r) = true := h
    rw [Bool.and_eq_true] at h
    show (noClo x && noClos r) = true
    rw [okD_noClo h.1, okDs_noClo h.2]; rfl
end
theorem val_ok (t : Tr) (h : t.sm) : okD t.val = true ∧ depD t.val ≤ 2 * t.ht + 3 := by
  have := rb_sm gs_0 t h
  rw [rb_id] at this
  exact this
theorem bret (e : EM) (V : D) (l : List (Option DV)) (M : List O) (h : e ⟨l, M⟩ = some (.ok (.p V) M)) : sRet e ⟨l, M⟩ = some (.rt (.p V), ⟨l, M⟩) := by
  simp [sRet, e_lift, h]
theorem runB_dat {n : Nat} {b : SM} {ds : List DV} {M : List O} {V : D} {l : List (Option DV)} (h : b ⟨slotsOf n ds, M⟩ = some (.rt (.p V), ⟨l, M⟩)) : runB n b ds M = some (.ok (.p V) M) := by
  have hd : dropM M.length (.p V) M = M := dropM_len rfl
  unfold runB
  rw [h]
  dsimp only
  rw [hd]
theorem copied_spec (Ps : List Addr) (M : List O) (t : Tr) (hs : t.sm) (hh : t.ht ≤ 28) (hm : tblAt M 0 (Ps.getD 0 0) (lamq (PySem.Str.ofString "_copied")) = true) : m_copied Ps [.p t.val] M = some (.ok (.p t.val) M) := by
  have h := rebuilt_spec clo_0 gs_0 t hs hh
  have hv := okD_noClo (val_ok t hs).1
  rw [rb_id] at h
  have h : m_rebuilt 60 [t.val, .clo lam_0 []] = some (.ok t.val) := h
  generalize t.val = V at *
  have e : mCallL 0 (Ps.getD 0 0) (lamq (PySem.Str.ofString "_copied")) lam_0 [] (m_rebuilt 60) (mVar 0) ⟨slotsOf 1 [.p V], M⟩ = some (.ok (.p V) M) := by
    generalize Ps.getD 0 0 = P at *
    simp [mCallL, callL, e_bnd, hm, capsD, h, hv, slotsOf]
  have e2 := bret _ V _ M e
  exact runB_dat e2
theorem moved_spec (Ps : List Addr) (M : List O) (t : Tr) (x y : Int) (hs : t.sm) (hh : t.ht ≤ 28) (hm : tblAt M 1 (Ps.getD 1 0) (lamq (PySem.Str.ofString "moved")) = true) : m_moved Ps [.p t.val, .p (ad x y)] M = some (.ok (.p (oE (rb (gM x y) t))) M) := by
  have h := rebuilt_spec (clo_1 x y) (gs_m x y) t hs hh
  have hv := okD_noClo (rb_sm (gs_m x y) t hs).1
  generalize t.val = V at *
  generalize oE (rb (gM x y) t) = R at *
  have e : mCallL 1 (Ps.getD 1 0) (lamq (PySem.Str.ofString "moved")) lam_1 [1] (m_rebuilt 60) (mVar 0) ⟨slotsOf 2 [.p V, .p (ad x y)], M⟩ = some (.ok (.p R) M) := by
    generalize Ps.getD 1 0 = P at *
    generalize ad x y = B at *
    have hg : gv (slotsOf 2 [.p V, .p B]) 1 = some (.p B) := rfl
    simp [slotsOf] at hg
    simp [mCallL, callL, e_bnd, hm, capsD, h, hv, slotsOf, hg]
  have e2 := bret _ R _ M e
  exact runB_dat e2
end Law
namespace Law
open PySem L2 DL
/-! ### what is directly inside -/
def inn : Tr → List Tr
  | .bin _ l r => [l, r]
  | .neg t => [t]
  | .call _ as => as
  | _ => []
def innE (t : Tr) : D := .lst ((inn t).map Tr.val)
theorem op_ne (o : Op) : Str.ofString o.s ≠ Str.ofString "call" ∧ Str.ofString o.s ≠ Str.ofString "neg" ∧ Str.ofString o.s ≠ Str.ofString "ref" ∧ Str.ofString o.s ≠ Str.ofString "range" := by cases o <;> decide +kernel
theorem kk_ne : ∀ k ∈ ["num", "text", "bool", "ref", "range"], Str.ofString k ≠ Str.ofString "neg" ∧ Str.ofString k ≠ Str.ofString "call" := by decide +kernel
theorem k_nc : Str.ofString "neg" ≠ Str.ofString "call" := by decide +kernel
theorem inner_leaf (k : String) (hk : k ∈ ["num", "text", "bool", "ref", "range"]) (d : D) : m_inner_parts [.tup [.str (Str.ofString k), d]] = some (.ok (.lst [])) ∧ m_l_inside [.tup [.str (Str.ofString k), d]] = some (.ok (.lst [])) := by
  have hk7 : k ∈ ["num", "text", "bool", "ref", "range", "neg", "call"] := by simp at hk ⊢; rcases hk with h | h | h | h | h <;> simp [h]
  have h1 := miss_n k hk7
  have h2 := miss_k k hk7
  have h3 := kk_ne k hk
  constructor <;> apply wpA.eq
  · simp [m_inner_parts, b_inner_parts, mInKd, inKd, h1, h2, h3.1, h3.2]
  · simp [m_l_inside, b_l_inside, h3.1, h3.2]
theorem inner_spec : ∀ t : Tr, t.sm → m_inner_parts [t.val] = some (.ok (innE t)) ∧ m_l_inside [t.val] = some (.ok (innE t))
  | .atom k d, _ => inner_leaf k.s (by cases k <;> simp [At.s]) d
  | .ref c r, _ => inner_leaf "ref" (by simp) (ad c r)
  | .rng a b c d, _ => inner_leaf "range" (by simp) (.tup [ad a b, ad c d])
  | .neg t, _ => by
    have h1 := miss_n "neg" (by simp)
    have h2 := miss_k "neg" (by simp)
    have h3 := k_nc
    have a1 : ∀ (x y : D), atI [x, y] 1 = some y := fun _ _ => rfl
    have ev : (Tr.neg t).val = .tup [.str (Str.ofString "neg"), t.val] := rfl
    have ei : innE (.neg t) = .lst [t.val] := rfl
    rw [ev, ei]
    constructor <;> apply wpA.eq
    · simp [m_inner_parts, b_inner_parts, mInKd, inKd, h1, h2, a1]
    · simp [m_l_inside, b_l_inside, h3, a1]
  | .call f as, hs => by
    have h1 := miss_n "call" (by simp)
    have h2 := miss_k "call" (by simp)
    have h3 := k_cn
    have a2 : ∀ (x y z : D), atI [x, y, z] 2 = some z := fun _ _ _ => rfl
    have ev : (Tr.call f as).val = .tup [.str (Str.ofString "call"), .str f, .lst (as.map Tr.val)] := by rw [Tr.val, vals_map]
    have ei : innE (.call f as) = .lst (as.map Tr.val) := rfl
    have hn : (as.map Tr.val).length ≤ 1000000 := by rw [List.length_map]; exact hs.2.1
    rw [ev, ei]
    generalize as.map Tr.val = E at *
    have hE : dList (.lst E) = some (.lst E) := by simp [dList, hn]
    constructor <;> apply wpA.eq
    · simp [m_inner_parts, b_inner_parts, mInKd, inKd, h1, h2, h3, a2, hE]
    · simp [m_l_inside, b_l_inside, a2, hE]
  | .bin o l r, _ => by
    have h1 := op_in o
    have h3 := op_ne o
    have a1 : ∀ (x y z : D), atI [x, y, z] 1 = some y := fun _ _ _ => rfl
    have a2 : ∀ (x y z : D), atI [x, y, z] 2 = some z := fun _ _ _ => rfl
    have ev : (Tr.bin o l r).val = .tup [.str (Str.ofString o.s), l.val, r.val] := rfl
    have ei : innE (.bin o l r) = .lst [l.val, r.val] := rfl
    rw [ev, ei]
    constructor <;> apply wpA.eq
    · simp [m_inner_parts, b_inner_parts, mInKd, inKd, h1, a1, a2]
    · simp [m_l_inside, b_l_inside, h3.1, h3.2.1, a1, a2]
end Law
namespace Law
open PySem L2 DL
theorem inn_sm {t : Tr} (h : t.sm) : ∀ u ∈ inn t, u.sm ∧ u.ht ≤ t.ht := by
  cases t with
  | bin o l r =>
    intro u hu
    simp only [inn, List.mem_cons, List.not_mem_nil, or_false] at hu
    simp only [Tr.ht]
    rcases hu with rfl | rfl
    · exact ⟨h.1, by omega⟩
    · exact ⟨h.2, by omega⟩
  | neg t =>
    intro u hu
    simp only [inn, List.mem_cons, List.not_mem_nil, or_false] at hu
    subst hu
    exact ⟨h, by simp only [Tr.ht]; omega⟩
  | call f as =>
    intro u hu
    have : u.ht ≤ Tr.hts as := hts_mem (l := as) u hu
    exact ⟨sms_mem h.2.2 u hu, by simp only [Tr.ht]; omega⟩
  | _ => intro u hu; cases hu
theorem inn_len {t : Tr} (h : t.sm) : (inn t).length ≤ 1000000 := by
  cases t with
  | call f as => exact h.2.1
  | _ => simp [inn]
theorem parts_spec (Ps : List Addr) (M : List O) (t : Tr) (hs : t.sm) (hh : t.ht ≤ 28) (hm : tblAt M 0 (Ps.getD 0 0) (lamq (PySem.Str.ofString "_copied")) = true) : m_parts_of Ps [.p t.val] M = some (.ok (.p (innE t)) M) := by
  have hi := (inner_spec t hs).1
  have hc := fun u (hu : u ∈ inn t) => copied_spec Ps M u (inn_sm hs u hu).1 (by have := (inn_sm hs u hu).2; omega) hm
  have hn := inn_len hs
  have lp : ∀ x0 : Option DV, compL [x0, none] (gN 1) tYesM (mCallB 1 (m_copied Ps) (aCons (mVar 1) aNil)) (((inn t).map Tr.val).map .p) [] M = some ((inn t).map Tr.val, M) := by
    intro x0
    refine map_compE Tr.val Tr.val (inn t) (fun u hu => ⟨_, rfl, rfl, ?_⟩) hn
    have := hc u hu
    simp [e_bnd, mCallB, this]
  have e : mLc (mItD itL (mCallA 1 m_inner_parts (aCons (mVar 0) aNil))) [1] (gN 1) tYesM (mCallB 1 (m_copied Ps) (aCons (mVar 1) aNil)) ⟨slotsOf 2 [.p t.val], M⟩ = some (.ok (.p (innE t)) M) := by
    unfold innE at *
    generalize hE : (inn t).map Tr.val = E at *
    generalize t.val = V at *
    rw [e_lc]
    simp [e_bnd, hi, slotsOf, wipeL, lp]
  exact runB_dat (bret _ _ _ M e)
end Law
namespace Law
open PySem L2 DL
mutual
/-- the calls, each ahead of those inside of it -/
def calls : Tr → List Tr
  | .call f as => .call f as :: callsL as
  | .neg t => calls t ++ []
  | .bin _ l r => calls l ++ (calls r ++ [])
  | _ => []
def callsL : List Tr → List Tr
  | [] => []
  | t :: r => calls t ++ callsL r
end
def isC : Tr → List Tr
  | .call f as => [.call f as]
  | _ => []
theorem calls_inn (t : Tr) : calls t = isC t ++ callsL (inn t) := by
  cases t <;> simp [calls, isC, inn, callsL]
theorem calls_loop (f : MA) (x0 : Option DV) : ∀ (us : List Tr) (acc : List Tr) (x2 : Option DV), (∀ u ∈ us, f [u.val] = some (.ok (.lst ((calls u).map Tr.val)))) → acc.length + (callsL us).length ≤ 1000000 →
    ∃ y2, loopS (gN 2) (sAsg (mBin dAdd2 (mVar 1) (mCallA 1 f (aCons (mVar 2) aNil))) (gN 1)) ((us.map Tr.val).map .p) ⟨[x0, some (.p (.lst (acc.map Tr.val))), x2], []⟩ = some (.nx, ⟨[x0, some (.p (.lst ((acc ++ callsL us).map Tr.val))), y2], []⟩)
  | [], acc, x2, _, _ => ⟨x2, by simp [callsL, loopS]⟩
  | u :: us, acc, x2, h, hl => by
    have h1 := h u (by simp)
    simp only [callsL, List.length_append] at hl
    obtain ⟨y2, ih⟩ := calls_loop f x0 us (acc ++ calls u) (some (.p u.val)) (fun v hv => h v (by simp [hv])) (by rw [List.length_append]; omega)
    refine ⟨y2, ?_⟩
    have e : acc ++ callsL (u :: us) = acc ++ calls u ++ callsL us := by simp [callsL]
    rw [e, ← ih, List.map_cons, List.map_cons]
    refine loop_step _ _ _ _ _ _ _ rfl ?_
    have hn : (acc.map Tr.val).length + ((calls u).map Tr.val).length ≤ 1000000 := by rw [List.length_map, List.length_map]; omega
    rw [List.map_append]
    generalize acc.map Tr.val = A at *
    generalize (calls u).map Tr.val = B at *
    generalize u.val = V at *
    simp [e_lift, e_bnd, h1, hn]
end Law
namespace Law
open PySem L2 DL
theorem kind_c (t : Tr) : (∃ l, t.val = .tup (.str (Str.ofString "call") :: l) ∧ isC t = [t]) ∨ ∃ s l, t.val = .tup (.str s :: l) ∧ s ≠ Str.ofString "call" ∧ isC t = [] := by
  cases t with
  | atom k d => exact .inr ⟨_, _, rfl, (kk_ne k.s (by cases k <;> simp [At.s])).2, rfl⟩
  | ref c r => exact .inr ⟨_, _, rfl, (kk_ne "ref" (by simp)).2, rfl⟩
  | rng a b c d => exact .inr ⟨_, _, rfl, (kk_ne "range" (by simp)).2, rfl⟩
  | neg t => exact .inr ⟨_, _, rfl, k_nc, rfl⟩
  | call f as => exact .inl ⟨_, rfl, rfl⟩
  | bin o l r => exact .inr ⟨_, _, rfl, (op_ne o).1, rfl⟩
theorem callsL_mem : ∀ {l : List Tr} {t : Tr}, t ∈ l → (calls t).length ≤ (callsL l).length
  | u :: r, t, ht => by
    simp only [callsL, List.length_append]
    rcases List.mem_cons.mp ht with rfl | ht
    · omega
    · have := callsL_mem (l := r) ht; omega
theorem inn_ht (t : Tr) : ∀ u ∈ inn t, u.ht < t.ht := by
  cases t with
  | bin o l r =>
    intro u hu
    simp only [inn, List.mem_cons, List.not_mem_nil, or_false] at hu
    simp only [Tr.ht]
    rcases hu with rfl | rfl <;> omega
  | neg t =>
    intro u hu
    simp only [inn, List.mem_cons, List.not_mem_nil, or_false] at hu
    subst hu
    simp only [Tr.ht]; omega
  | call f as =>
    intro u hu
    have : u.ht ≤ Tr.hts as := hts_mem (l := as) u hu
    simp only [Tr.ht]; omega
  | _ => intro u hu; cases hu
theorem calls_spec : ∀ (j : Nat) (t : Tr), t.sm → t.ht < j → (calls t).length ≤ 1000000 → m_l_calls j [t.val] = some (.ok (.lst ((calls t).map Tr.val)))
  | 0, t, _, h, _ => by omega
  | j + 1, t, hs, h, hl => by
    have hi := (inner_spec t hs).2
    have ec := calls_inn t
    rw [ec, List.length_append] at hl
    have ih := fun u (hu : u ∈ inn t) => calls_spec j u (inn_sm hs u hu).1 (by have := inn_ht t u hu; omega) (by have := callsL_mem hu; omega)
    obtain ⟨y2, lp⟩ := calls_loop (m_l_calls j) (some (.p t.val)) (inn t) (isC t) none ih hl
    rw [ec, m_l_calls_succ]
    unfold innE at hi
    apply wpA.eq
    rcases kind_c t with ⟨l, e1, e2⟩ | ⟨s, l, e1, e2, e3⟩
    · rw [e2] at lp ⊢
      simp only [List.map_cons, List.map_nil] at lp
      generalize (inn t).map Tr.val = E at *
      generalize ([t] ++ callsL (inn t)).map Tr.val = R at *
      rw [e1] at hi lp ⊢
      simp [b_l_calls, hi]
      rw [lp]
      simp
    · rw [e3] at lp ⊢
      simp only [List.map_nil] at lp
      generalize (inn t).map Tr.val = E at *
      generalize ([] ++ callsL (inn t)).map Tr.val = R at *
      rw [e1] at hi lp ⊢
      simp [b_l_calls, hi, e2]
      rw [lp]
      simp
end Law
namespace Law
open PySem L2 DL
/-! ### calls_of: the turn -/
theorem g2_0 (B : List O) (a b : O) : (B ++ [a, b])[B.length]? = some a := by simp
theorem g2_1 (B : List O) (a b : O) : (B ++ [a, b])[B.length + 1]? = some b := by simp
theorem s2_0 (B : List O) (a b c : O) : (B ++ [a, b]).set B.length c = B ++ [c, b] := by simp
theorem s2_1 (B : List O) (a b c : O) : (B ++ [a, b]).set (B.length + 1) c = B ++ [a, c] := by simp
noncomputable abbrev coC : EM := mTru (mVar 2)
noncomputable abbrev coB (gC : List DV → List O → Option (Rs DV)) : SM := (sSeq (sAsg (mMth0 "list" gPop (mVar 2)) (gN 3))
  (sSeq (sIf (mBin dEq (mIx (mVar 3) (mC (.int 0))) (mC (.str (PySem.Str.ofString "call")))) (sExpr (mMth "list" gApp (mVar 1) (aCons (mCallB 1 gC (aCons (mVar 3) aNil)) aNil))) sNil)
  (sExpr (mMth "list" gExt (mVar 2) (aCons (mRevL (mCallA 1 m_inner_parts (aCons (mVar 3) aNil))) aNil)))))
theorem pop_step (x0 x3 : Option DV) (B : List O) (A W : List DV) (d : DV) : sAsg (mMth0 "list" gPop (mVar 2)) (gN 3) ⟨[x0, some (.o B.length), some (.o (B.length + 1)), x3], B ++ [.lst A, .lst (W ++ [d])]⟩ = some (.nx, ⟨[x0, some (.o B.length), some (.o (B.length + 1)), some d], B ++ [.lst A, .lst W]⟩) := by
  have h1 := g2_1 B (.lst A) (.lst (W ++ [d]))
  have h2 := s2_1 B (.lst A) (.lst (W ++ [d])) (.lst W)
  generalize B ++ [O.lst A, .lst (W ++ [d])] = M at *
  generalize B.length + 1 = k1 at *
  have h3 : (W ++ [d])[(W ++ [d]).length - 1]? = some d := by simp
  have h4 : (W ++ [d]).dropLast = W := by simp
  have hv : gv [x0, some (.o B.length), some (.o k1), x3] 2 = some (.o k1) := rfl
  simp [-List.length_append, -getElem?_pos, e_lift, e_bnd, mMth0, tyOk, h1, h3, h4, h2]
theorem ext_step (x0 : Option DV) (B : List O) (A W : List DV) (V : D) (E : List D) (hi : m_inner_parts [V] = some (.ok (.lst E))) (hl : W.length + E.length ≤ 1000000) : sExpr (mMth "list" gExt (mVar 2) (aCons (mRevL (mCallA 1 m_inner_parts (aCons (mVar 3) aNil))) aNil)) ⟨[x0, some (.o B.length), some (.o (B.length + 1)), some (.p V)], B ++ [.lst A, .lst W]⟩ = some (.nx, ⟨[x0, some (.o B.length), some (.o (B.length + 1)), some (.p V)], B ++ [.lst A, .lst (W ++ E.reverse.map .p)]⟩) := by
  have h1 := g2_1 B (.lst A) (.lst W)
  have h2 := s2_1 B (.lst A) (.lst W) (.lst (W ++ E.reverse.map .p))
  generalize B ++ [O.lst A, .lst W] = M at *
  generalize B.length + 1 = k1 at *
  have hl2 : W.length + E.reverse.length ≤ 1000000 := by rw [List.length_reverse]; exact hl
  have hr : revD (.lst E) = some (.lst E.reverse) := rfl
  generalize E.reverse = E2 at *
  simp [-List.length_append, -getElem?_pos, sExpr, e_lift, e_bnd, mMth, tyOk, gExt, mRevL, hr, h1, h2, hi, hl2]
theorem app_step (gC : List DV → List O → Option (Rs DV)) (x0 : Option DV) (B : List O) (A W : List DV) (V : D) (hc : gC [.p V] (B ++ [.lst A, .lst W]) = some (.ok (.p V) (B ++ [.lst A, .lst W]))) (hl : A.length < 1000000) : sExpr (mMth "list" gApp (mVar 1) (aCons (mCallB 1 gC (aCons (mVar 3) aNil)) aNil)) ⟨[x0, some (.o B.length), some (.o (B.length + 1)), some (.p V)], B ++ [.lst A, .lst W]⟩ = some (.nx, ⟨[x0, some (.o B.length), some (.o (B.length + 1)), some (.p V)], B ++ [.lst (A ++ [.p V]), .lst W]⟩) := by
  have h1 := g2_0 B (.lst A) (.lst W)
  have h2 := s2_0 B (.lst A) (.lst W) (.lst (A ++ [.p V]))
  generalize B ++ [O.lst A, .lst W] = M at *
  generalize B.length + 1 = k1 at *
  generalize B.length = k at *
  simp [-List.length_append, -getElem?_pos, sExpr, e_lift, e_bnd, mMth, tyOk, gApp, mCallB, h1, h2, hc, hl]
mutual
/-- how many trees a walk meets -/
def nsz : Tr → Nat
  | .call _ as => nszL as + 1
  | .neg t => nsz t + 1
  | .bin _ l r => nsz l + (nsz r + 0) + 1
  | _ => 1
def nszL : List Tr → Nat
  | [] => 0
  | t :: r => nsz t + nszL r
end
theorem nsz_inn (t : Tr) : nsz t = nszL (inn t) + 1 := by cases t <;> simp [nsz, inn, nszL]
theorem nszL_app : ∀ (a b : List Tr), nszL (a ++ b) = nszL a + nszL b
  | [], b => by simp [nszL]
  | t :: r, b => by simp [nszL, nszL_app r b]; omega
theorem nszL_len : ∀ l : List Tr, l.length ≤ nszL l
  | [] => Nat.le_refl _
  | t :: r => by
    have := nszL_len r
    have := nsz_inn t
    simp only [nszL, List.length_cons]; omega
theorem callsL_app : ∀ (a b : List Tr), callsL (a ++ b) = callsL a ++ callsL b
  | [], b => rfl
  | t :: r, b => by simp [callsL, callsL_app r b]
def ws (l : List Tr) : List DV := (l.reverse.map Tr.val).map .p
theorem co_tru {M : List O} {k1 : Nat} {W : List DV} (x0 x1 x3 : Option DV) (h1 : M[k1]? = some (.lst W)) : coC ⟨[x0, x1, some (.o k1), x3], M⟩ = some (.ok (.p (.bl (!W.isEmpty))) M) := by
  simp [-getElem?_pos, mTru, e_bnd, truM, truO, h1]
theorem co_tst (x0 x1 x2 : Option DV) (k : Str) (l : List D) (M : List O) : mBin dEq (mIx (mVar 3) (mC (.int 0))) (mC (.str (PySem.Str.ofString "call"))) ⟨[x0, x1, x2, some (.p (.tup (.str k :: l)))], M⟩ = some (.ok (.p (.bl (decide (k = PySem.Str.ofString "call")))) M) := by
  simp [e_bnd]
/-- the whole loop -/
theorem co_loop (gC : List DV → List O → Option (Rs DV)) (B : List O) (hc : ∀ (u : Tr) (a b : O), u.sm → u.ht ≤ 28 → gC [.p u.val] (B ++ [a, b]) = some (.ok (.p u.val) (B ++ [a, b]))) (x0 : Option DV) : ∀ (n : Nat) (st : List Tr) (A : List Tr) (x3 : Option DV), (∀ u ∈ st, u.sm ∧ u.ht ≤ 28) → nszL st < n → A.length + nszL st ≤ 900000 →
    ∃ y3, sWhile n coC (coB gC) ⟨[x0, some (.o B.length), some (.o (B.length + 1)), x3], B ++ [.lst ((A.map Tr.val).map .p), .lst (ws st)]⟩ = some (.nx, ⟨[x0, some (.o B.length), some (.o (B.length + 1)), y3], B ++ [.lst (((A ++ callsL st).map Tr.val).map .p), .lst []]⟩)
  | 0, st, A, x3, _, h, _ => by omega
  | n + 1, [], A, x3, hs, h, hl => by
    refine ⟨x3, ?_⟩
    have h1 := g2_1 B (.lst ((A.map Tr.val).map .p)) (.lst (ws []))
    have e0 : ws [] = [] := rfl
    rw [e0] at h1 ⊢
    have ec : A ++ callsL [] = A := List.append_nil A
    rw [ec, sWhile, e_lift, co_tru _ _ _ h1]
    rfl
  | n + 1, u :: st, A, x3, hs, h, hl => by
    obtain ⟨us, uh⟩ := hs u (by simp)
    have hn := nsz_inn u
    simp only [nszL] at h hl
    have hw : ws (u :: st) = ws st ++ [.p u.val] := by simp [ws]
    have hw2 : ws st ++ (((inn u).map Tr.val).reverse).map .p = ws (inn u ++ st) := by simp [ws]
    have hlen : (ws st).length + ((inn u).map Tr.val).length ≤ 1000000 := by
      have := nszL_len st
      have := nszL_len (inn u)
      simp [ws]; omega
    have e1 := pop_step x0 x3 B ((A.map Tr.val).map .p) (ws st) (.p u.val)
    have e3 := ext_step x0 B (((A ++ isC u).map Tr.val).map .p) (ws st) u.val _ (inner_spec u us).1 hlen
    have hcc := hc u (.lst ((A.map Tr.val).map .p)) (.lst (ws st)) us uh
    have e2 := app_step gC x0 B ((A.map Tr.val).map .p) (ws st) u.val hcc (by simp; omega)
    obtain ⟨y3, ih⟩ := co_loop gC B hc x0 n (inn u ++ st) (A ++ isC u) (some (.p u.val)) (fun v hv => by
      rcases List.mem_append.mp hv with hv | hv
      · have := inn_sm us v hv; exact ⟨this.1, by omega⟩
      · exact hs v (by simp [hv])) (by rw [nszL_app]; omega) (by
        have : (isC u).length ≤ 1 := by cases u <;> simp [isC]
        rw [nszL_app, List.length_append]; omega)
    refine ⟨y3, ?_⟩
    have ea : A ++ isC u ++ callsL (inn u ++ st) = A ++ callsL (u :: st) := by rw [callsL_app, callsL, calls_inn u]; simp
    rw [ea] at ih
    rw [hw2] at e3
    have h1 := g2_1 B (.lst ((A.map Tr.val).map .p)) (.lst (ws st ++ [.p u.val]))
    have hne : (!(ws st ++ [DV.p u.val]).isEmpty) = true := by simp
    rw [← ih, sWhile, hw, e_lift, co_tru _ _ _ h1, hne]
    have body : coB gC ⟨[x0, some (.o B.length), some (.o (B.length + 1)), x3], B ++ [.lst ((A.map Tr.val).map .p), .lst (ws st ++ [.p u.val])]⟩ = some (.nx, ⟨[x0, some (.o B.length), some (.o (B.length + 1)), some (.p u.val)], B ++ [.lst (((A ++ isC u).map Tr.val).map .p), .lst (ws (inn u ++ st))]⟩) := by
      rw [show coB gC = sSeq (sAsg (mMth0 "list" gPop (mVar 2)) (gN 3)) (sSeq (sIf (mBin dEq (mIx (mVar 3) (mC (.int 0))) (mC (.str (PySem.Str.ofString "call")))) (sExpr (mMth "list" gApp (mVar 1) (aCons (mCallB 1 gC (aCons (mVar 3) aNil)) aNil))) sNil) (sExpr (mMth "list" gExt (mVar 2) (aCons (mRevL (mCallA 1 m_inner_parts (aCons (mVar 3) aNil))) aNil)))) from rfl]
      rw [seq_nx _ _ _ _ e1]
      have e4 : sIf (mBin dEq (mIx (mVar 3) (mC (.int 0))) (mC (.str (PySem.Str.ofString "call")))) (sExpr (mMth "list" gApp (mVar 1) (aCons (mCallB 1 gC (aCons (mVar 3) aNil)) aNil))) sNil ⟨[x0, some (.o B.length), some (.o (B.length + 1)), some (.p u.val)], B ++ [.lst ((A.map Tr.val).map .p), .lst (ws st)]⟩ = some (.nx, ⟨[x0, some (.o B.length), some (.o (B.length + 1)), some (.p u.val)], B ++ [.lst (((A ++ isC u).map Tr.val).map .p), .lst (ws st)]⟩) := by
        rcases kind_c u with ⟨l, q1, q2⟩ | ⟨k, l, q1, q2, q3⟩
        · rw [sif_t _ _ _ _ (B ++ [.lst ((A.map Tr.val).map .p), .lst (ws st)]) (by rw [q1, co_tst]; simp)]
          rw [q2]
          have : (((A ++ [u]).map Tr.val).map DV.p) = (A.map Tr.val).map .p ++ [.p u.val] := by simp
          rw [this]
          exact e2
        · rw [sif_f _ _ _ _ (B ++ [.lst ((A.map Tr.val).map .p), .lst (ws st)]) (by rw [q1, co_tst]; simp [q2])]
          rw [q3, List.append_nil]
          rfl
      rw [seq_nx _ _ _ _ e4]
      exact e3
    dsimp only
    rw [body]
end Law
namespace Law
open PySem L2 DL
theorem tbl_app {M R : List O} {P : Addr} {q : Str} {i : Nat} (h : tblAt M i P q = true) : tblAt (M ++ R) i P q = true := by
  unfold tblAt at h ⊢
  cases e : M[i]? with
  | none => rw [e] at h; cases h
  | some o =>
    rw [e] at h
    rw [List.getElem?_append_left (List.getElem?_eq_some_iff.mp e).1, e]
    exact h
theorem callsof_spec (Ps : List Addr) (M : List O) (t : Tr) (hs : t.sm) (hh : t.ht ≤ 28) (hz : nsz t ≤ 800000) (hm : tblAt M 0 (Ps.getD 0 0) (lamq (PySem.Str.ofString "_copied")) = true) : m_calls_of Ps [.p t.val] M = some (.ok (.o M.length) (M ++ [.lst (((calls t).map Tr.val).map .p), .lst []])) := by
  obtain ⟨y3, lp⟩ := co_loop (m_copied Ps) M (fun u a b us uh => copied_spec Ps _ u us uh (tbl_app hm)) (some (.p t.val)) 1000000 [t] [] none (fun u hu => by rw [List.mem_singleton.mp hu]; exact ⟨hs, hh⟩) (by simp [nszL]; omega) (by simp [nszL]; omega)
  have ew : ws [t] = [.p t.val] := by simp [ws]
  have ec : [] ++ callsL [t] = calls t := by simp [callsL]
  rw [ew, ec] at lp
  have hd : ∀ M' : List O, dropM M.length (.o M.length) M' = M' := fun M' => by
    unfold dropM
    have : ltO M.length (.o M.length) = false := by simp [ltO]
    rw [this]; rfl
  have lp' : sWhile 1000000 coC (coB (m_copied Ps)) ⟨[some (.p t.val), some (.o M.length), some (.o (M.length + 1)), none], M ++ [.lst [], .lst [.p t.val]]⟩ = _ := lp
  have e : b_calls_of Ps ⟨slotsOf 4 [.p t.val], M⟩ = some (.rt (.o M.length), ⟨[some (.p t.val), some (.o M.length), some (.o (M.length + 1)), y3], M ++ [.lst (((calls t).map Tr.val).map .p), .lst []]⟩) := by
    unfold b_calls_of
    generalize m_copied Ps = gC at *
    generalize t.val = V at *
    generalize ((calls t).map Tr.val).map DV.p = R at *
    have e1 : sAsg (dispO aNil) (gN 1) ⟨slotsOf 4 [.p V], M⟩ = some (.nx, ⟨[some (.p V), some (.o M.length), none, none], M ++ [.lst []]⟩) := by
      simp [slotsOf, e_lift, e_bnd, dispO]
    have e2 : sAsg (dispO (aCons (mVar 0) aNil)) (gN 2) ⟨[some (.p V), some (.o M.length), none, none], M ++ [.lst []]⟩ = some (.nx, ⟨[some (.p V), some (.o M.length), some (.o (M.length + 1)), none], M ++ [.lst [], .lst [.p V]]⟩) := by
      simp [e_lift, e_bnd, dispO]
    rw [seq_nx _ _ _ _ e1, seq_nx _ _ _ _ e2, seq_nx _ _ _ _ lp']
    rfl
  unfold m_calls_of runB
  rw [e]
  dsimp only
  rw [hd]
end Law
namespace Law
open PySem L2 DL
/-! ### the addresses of a tree -/
mutual
def spots : Tr → List (Int × Int)
  | .ref c r => [(c, r)]
  | .rng a b c d => [(a, b), (c, d)]
  | .neg t => spots t ++ []
  | .call _ as => spotsL as
  | .bin _ l r => spots l ++ (spots r ++ [])
  | .atom _ _ => []
def spotsL : List Tr → List (Int × Int)
  | [] => []
  | t :: r => spots t ++ spotsL r
end
def adP (p : Int × Int) : D := ad p.1 p.2
def isA : Tr → Bool
  | .ref .. => true | .rng .. => true | _ => false
theorem spots_inn (t : Tr) (h : isA t = false) : spots t = spotsL (inn t) := by cases t <;> simp [spots, spotsL, inn, isA] at h ⊢
theorem spots_loop (f : MA) (x0 : Option DV) : ∀ (us : List Tr) (acc : List (Int × Int)) (x2 : Option DV), (∀ u ∈ us, f [u.val] = some (.ok (.lst ((spots u).map adP)))) → acc.length + (spotsL us).length ≤ 1000000 →
    ∃ y2, loopS (gN 2) (sAsg (mBin dAdd2 (mVar 1) (mCallA 1 f (aCons (mVar 2) aNil))) (gN 1)) ((us.map Tr.val).map .p) ⟨[x0, some (.p (.lst (acc.map adP))), x2], []⟩ = some (.nx, ⟨[x0, some (.p (.lst ((acc ++ spotsL us).map adP))), y2], []⟩)
  | [], acc, x2, _, _ => ⟨x2, by simp [spotsL, loopS]⟩
  | u :: us, acc, x2, h, hl => by
    have h1 := h u (by simp)
    simp only [spotsL, List.length_append] at hl
    obtain ⟨y2, ih⟩ := spots_loop f x0 us (acc ++ spots u) (some (.p u.val)) (fun v hv => h v (by simp [hv])) (by rw [List.length_append]; omega)
    refine ⟨y2, ?_⟩
    have e : acc ++ spotsL (u :: us) = acc ++ spots u ++ spotsL us := by simp [spotsL]
    rw [e, ← ih, List.map_cons, List.map_cons]
    refine loop_step _ _ _ _ _ _ _ rfl ?_
    have hn : (acc.map adP).length + ((spots u).map adP).length ≤ 1000000 := by rw [List.length_map, List.length_map]; omega
    rw [List.map_append]
    generalize acc.map adP = A at *
    generalize (spots u).map adP = B at *
    generalize u.val = V at *
    simp [e_lift, e_bnd, h1, hn]
theorem spotsL_mem : ∀ {l : List Tr} {t : Tr}, t ∈ l → (spots t).length ≤ (spotsL l).length
  | u :: r, t, ht => by
    simp only [spotsL, List.length_append]
    rcases List.mem_cons.mp ht with rfl | ht
    · omega
    · have := spotsL_mem (l := r) ht; omega
theorem kind_a (t : Tr) : (∃ c r, t = .ref c r) ∨ (∃ a b c d, t = .rng a b c d) ∨ ∃ s l, t.val = .tup (.str s :: l) ∧ s ≠ Str.ofString "ref" ∧ s ≠ Str.ofString "range" ∧ isA t = false := by
  have hk : ∀ k ∈ ["num", "text", "bool", "neg", "call"], Str.ofString k ≠ Str.ofString "ref" ∧ Str.ofString k ≠ Str.ofString "range" := by decide +kernel
  cases t with
  | atom k d => have := hk k.s (by cases k <;> simp [At.s]); exact .inr (.inr ⟨_, _, rfl, this.1, this.2, rfl⟩)
  | ref c r => exact .inl ⟨c, r, rfl⟩
  | rng a b c d => exact .inr (.inl ⟨a, b, c, d, rfl⟩)
  | neg t => have := hk "neg" (by simp); exact .inr (.inr ⟨_, _, rfl, this.1, this.2, rfl⟩)
  | call f as => have := hk "call" (by simp); exact .inr (.inr ⟨_, _, rfl, this.1, this.2, rfl⟩)
  | bin o l r => have := op_ne o; exact .inr (.inr ⟨_, _, rfl, this.2.2.1, this.2.2.2, rfl⟩)
theorem spots_spec : ∀ (j : Nat) (t : Tr), t.sm → t.ht < j → (spots t).length ≤ 1000000 → m_l_spots j [t.val] = some (.ok (.lst ((spots t).map adP)))
  | 0, t, _, h, _ => by omega
  | j + 1, t, hs, h, hl => by
    have a1 : ∀ (x y : D), atI [x, y] 1 = some y := fun _ _ => rfl
    have hk : Str.ofString "range" ≠ Str.ofString "ref" := by decide +kernel
    rw [m_l_spots_succ]
    rcases kind_a t with ⟨c, r, rfl⟩ | ⟨a, b, c, d, rfl⟩ | ⟨s, l, e1, e2, e3, e4⟩
    · have ev : (Tr.ref c r).val = .tup [.str (Str.ofString "ref"), ad c r] := rfl
      have es : (spots (.ref c r)).map adP = [ad c r] := rfl
      rw [ev, es]
      apply wpA.eq
      simp [b_l_spots, a1]
    · have ev : (Tr.rng a b c d).val = .tup [.str (Str.ofString "range"), .tup [ad a b, ad c d]] := rfl
      have es : (spots (.rng a b c d)).map adP = [ad a b, ad c d] := rfl
      have hE : ∀ x y : D, dList (.tup [x, y]) = some (.lst [x, y]) := fun _ _ => rfl
      rw [ev, es]
      apply wpA.eq
      simp [b_l_spots, a1, hk, hE]
    · have hi := (inner_spec t hs).2
      have ec := spots_inn t e4
      rw [ec] at hl
      have ih := fun u (hu : u ∈ inn t) => spots_spec j u (inn_sm hs u hu).1 (by have := inn_ht t u hu; omega) (by have := spotsL_mem hu; omega)
      obtain ⟨y2, lp⟩ := spots_loop (m_l_spots j) (some (.p t.val)) (inn t) [] none ih (by simpa using hl)
      rw [ec]
      unfold innE at hi
      rw [List.nil_append] at lp
      apply wpA.eq
      simp only [List.map_nil] at lp
      generalize (inn t).map Tr.val = E at *
      generalize (spotsL (inn t)).map adP = R at *
      rw [e1] at hi lp ⊢
      simp [b_l_spots, hi, e2, e3]
      rw [lp]
      simp
end Law
namespace Law
open PySem L2 DL
/-! ### the tree shifted, wherever its addresses come to lie -/
mutual
def sh (x y : Int) : Tr → Tr
  | .ref c r => .ref (c + x) (r + y)
  | .rng a b c d => .rng (a + x) (b + y) (c + x) (d + y)
  | .neg t => .neg (sh x y t)
  | .call f as => .call f (shL x y as)
  | .bin o l r => .bin o (sh x y l) (sh x y r)
  | .atom k d => .atom k d
def shL (x y : Int) : List Tr → List Tr
  | [] => []
  | t :: r => sh x y t :: shL x y r
end
theorem shL_map (x y : Int) : ∀ l : List Tr, shL x y l = l.map (sh x y)
  | [] => rfl
  | t :: r => by simp [shL, shL_map x y r]
theorem in_ntb : ∀ k ∈ ["num", "text", "bool", "neg"], inD (.str (Str.ofString k)) (.lst [.str (Str.ofString "num"), .str (Str.ofString "text"), .str (Str.ofString "bool")]) = some (decide (k ∈ ["num", "text", "bool"])) := by decide +kernel
theorem in_ntbo (o : Op) : inD (.str (Str.ofString o.s)) (.lst [.str (Str.ofString "num"), .str (Str.ofString "text"), .str (Str.ofString "bool")]) = some false := by cases o <;> decide +kernel
theorem sh_comp (f : MA) (x y : Int) (us : List Tr) (hn : us.length ≤ 1000000) (h : ∀ u ∈ us, f [u.val, ad x y] = some (.ok (sh x y u).val)) (x0 x2 : Option DV) : compL [x0, some (.p (ad x y)), x2, none] (gN 3) tYesM (mCallA 2 f (aCons (mVar 3) (aCons (mVar 1) aNil))) ((us.map Tr.val).map .p) [] [] = some (us.map fun u => (sh x y u).val, []) := by
  refine map_compE Tr.val (fun u => (sh x y u).val) us (fun u hu => ⟨_, rfl, rfl, ?_⟩) hn
  have := h u hu
  generalize ad x y = B at *
  simp [e_bnd, this]
theorem shifted_spec (x y : Int) : ∀ (j : Nat) (t : Tr), t.sm → t.ht < j → m_l_shifted j [t.val, ad x y] = some (.ok (sh x y t).val)
  | 0, t, _, h => by omega
  | j + 1, t, hs, h => by
    have hi := (inner_spec t hs).2
    have ih := fun u (hu : u ∈ inn t) => shifted_spec x y j u (inn_sm hs u hu).1 (by have := inn_ht t u hu; omega)
    have cm := sh_comp (m_l_shifted j) x y (inn t) (inn_len hs) ih
    have a1 : ∀ (x y : D), atI [x, y] 1 = some y := fun _ _ => rfl
    have hk : Str.ofString "range" ≠ Str.ofString "ref" := by decide +kernel
    rw [m_l_shifted_succ]
    cases t with
    | atom k d =>
      have h1 := in_ntb k.s (by cases k <;> simp [At.s])
      have h2 : decide (k.s ∈ ["num", "text", "bool"]) = true := by cases k <;> decide
      have h3 : Str.ofString k.s ≠ Str.ofString "ref" ∧ Str.ofString k.s ≠ Str.ofString "range" ∧ Str.ofString k.s ≠ Str.ofString "call" := by cases k <;> decide +kernel
      rw [h2] at h1
      have ev : (Tr.atom k d).val = .tup [.str (Str.ofString k.s), d] := rfl
      have es : sh x y (.atom k d) = .atom k d := rfl
      rw [es, ev]
      apply wpA.eq
      generalize ad x y = B at *
      simp [b_l_shifted, h1, h3.1, h3.2.1, h3.2.2]
    | ref c r =>
      have ev : (Tr.ref c r).val = .tup [.str (Str.ofString "ref"), ad c r] := rfl
      have es : (sh x y (.ref c r)).val = .tup [.str (Str.ofString "ref"), ad (c + x) (r + y)] := rfl
      rw [es, ev]
      apply wpA.eq
      unfold ad
      simp [b_l_shifted, a1]
    | rng a b c d =>
      have ev : (Tr.rng a b c d).val = .tup [.str (Str.ofString "range"), .tup [.tup [.int a, .int b], .tup [.int c, .int d]]] := rfl
      have es : (sh x y (.rng a b c d)).val = .tup [.str (Str.ofString "range"), .tup [ad (a + x) (b + y), ad (c + x) (d + y)]] := rfl
      have hc : ∀ x0 x3 : Option DV, compL [x0, some (.p (.tup [.int x, .int y])), none, x3] (gN 2) tYesM (disp .tup (aCons (mBin dAdd (mIx (mVar 2) (mC (.int 0))) (mIx (mVar 1) (mC (.int 0)))) (aCons (mBin dAdd (mIx (mVar 2) (mC (.int 1))) (mIx (mVar 1) (mC (.int 1)))) aNil))) [.p (.tup [.int a, .int b]), .p (.tup [.int c, .int d])] [] [] = some ([ad (a + x) (b + y), ad (c + x) (d + y)], []) := fun x0 x3 => rfl
      have hT : ∀ l : List D, dTuple (.lst l) = some (.tup l) := fun _ => rfl
      rw [es, ev, ad_tup x y]
      apply wpA.eq
      simp [b_l_shifted, a1, hk, hc, hT]
    | neg t =>
      have h1 := in_ntb "neg" (by simp)
      have h2 : decide ("neg" ∈ ["num", "text", "bool"]) = false := by decide
      rw [h2] at h1
      have h3 : Str.ofString "neg" ≠ Str.ofString "ref" ∧ Str.ofString "neg" ≠ Str.ofString "range" ∧ Str.ofString "neg" ≠ Str.ofString "call" := by decide +kernel
      have ev : (Tr.neg t).val = .tup [.str (Str.ofString "neg"), t.val] := rfl
      have es : (sh x y (.neg t)).val = .tup [.str (Str.ofString "neg"), (sh x y t).val] := rfl
      have hT : ∀ l : List D, dTuple (.lst l) = some (.tup l) := fun _ => rfl
      have cm' : ∀ x0 x2 : Option DV, compL [x0, some (.p (ad x y)), x2, none] (gN 3) tYesM (mCallA 2 (m_l_shifted j) (aCons (mVar 3) (aCons (mVar 1) aNil))) [.p t.val] [] [] = some ([(sh x y t).val], []) := cm
      have hi' : m_l_inside [.tup [.str (Str.ofString "neg"), t.val]] = some (.ok (.lst [t.val])) := hi
      rw [es, ev]
      apply wpA.eq
      generalize ad x y = B at *
      generalize (sh x y t).val = V2 at *
      generalize t.val = V at *
      simp [b_l_shifted, h1, h3.1, h3.2.1, h3.2.2, hi', cm', hT]
    | call f as =>
      have h3 : Str.ofString "call" ≠ Str.ofString "ref" ∧ Str.ofString "call" ≠ Str.ofString "range" := by decide +kernel
      have b1 : ∀ (x y z : D), atI [x, y, z] 1 = some y := fun _ _ _ => rfl
      have b2 : ∀ (x y z : D), atI [x, y, z] 2 = some z := fun _ _ _ => rfl
      have ev : (Tr.call f as).val = .tup [.str (Str.ofString "call"), .str f, .lst (as.map Tr.val)] := by rw [Tr.val, vals_map]
      have es : (sh x y (.call f as)).val = .tup [.str (Str.ofString "call"), .str f, .lst (as.map fun u => (sh x y u).val)] := by
        rw [sh, Tr.val, vals_map, shL_map, List.map_map]; rfl
      have cm' : ∀ x0 x2 : Option DV, compL [x0, some (.p (ad x y)), x2, none] (gN 3) tYesM (mCallA 2 (m_l_shifted j) (aCons (mVar 3) (aCons (mVar 1) aNil))) ((as.map Tr.val).map .p) [] [] = some (as.map fun u => (sh x y u).val, []) := cm
      rw [es, ev]
      apply wpA.eq
      generalize ad x y = B at *
      generalize (as.map fun u => (sh x y u).val) = R at *
      generalize as.map Tr.val = E at *
      simp [b_l_shifted, h3.1, h3.2, b1, b2, cm']
    | bin o l r =>
      have h1 := in_ntbo o
      have h3 := op_ne o
      have ev : (Tr.bin o l r).val = .tup [.str (Str.ofString o.s), l.val, r.val] := rfl
      have es : (sh x y (.bin o l r)).val = .tup [.str (Str.ofString o.s), (sh x y l).val, (sh x y r).val] := rfl
      have hT : ∀ l : List D, dTuple (.lst l) = some (.tup l) := fun _ => rfl
      have cm' : ∀ x0 x2 : Option DV, compL [x0, some (.p (ad x y)), x2, none] (gN 3) tYesM (mCallA 2 (m_l_shifted j) (aCons (mVar 3) (aCons (mVar 1) aNil))) [.p l.val, .p r.val] [] [] = some ([(sh x y l).val, (sh x y r).val], []) := cm
      have hi' : m_l_inside [.tup [.str (Str.ofString o.s), l.val, r.val]] = some (.ok (.lst [l.val, r.val])) := hi
      rw [es, ev]
      apply wpA.eq
      generalize ad x y = B at *
      generalize (sh x y l).val = V2 at *
      generalize (sh x y r).val = V3 at *
      generalize l.val = V at *
      generalize r.val = V4 at *
      simp [b_l_shifted, h1, h3.1, h3.2.2.1, h3.2.2.2, hi', cm', hT]
end Law
namespace Law
open PySem L2 DL
/-! ### moved or not; back again -/
def inP (p : Int × Int) : Bool := inS p.1 p.2
mutual
theorem rb_sh (x y : Int) : ∀ t : Tr, rb (gM x y) t = if (spots (sh x y t)).all inP = true then some (sh x y t) else none
  | .atom k d => by simp [rb, sh, spots]
  | .ref c r => by simp [rb, gM, sh, spots, inP]
  | .rng a b c d => by simp [rb, gM, sh, spots, inP]
  | .neg t => by
    have h := rb_sh x y t
    simp only [rb, sh, spots, List.append_nil, h]
    by_cases q : (spots (sh x y t)).all inP = true
    · rw [if_pos q, if_pos q]; rfl
    · rw [if_neg q, if_neg q]; rfl
  | .call f as => by
    have h := rbs_sh x y as
    simp only [rb, sh, spots, h]
    by_cases q : (spotsL (shL x y as)).all inP = true
    · rw [if_pos q, if_pos q]; rfl
    · rw [if_neg q, if_neg q]; rfl
  | .bin o l r => by
    have h := rb_sh x y l
    have h2 := rb_sh x y r
    simp only [rb, sh, spots, List.append_nil, List.all_append, h, h2]
    cases q : (spots (sh x y l)).all inP <;> cases q2 : (spots (sh x y r)).all inP <;> simp
theorem rbs_sh (x y : Int) : ∀ l : List Tr, rbs (gM x y) l = if (spotsL (shL x y l)).all inP = true then some (shL x y l) else none
  | [] => by simp [rbs, shL, spotsL]
  | t :: r => by
    have h := rb_sh x y t
    have h2 := rbs_sh x y r
    simp only [rbs, shL, spotsL, List.all_append, h, h2]
    cases q : (spots (sh x y t)).all inP <;> cases q2 : (spotsL (shL x y r)).all inP <;> simp
end
mutual
theorem sh_back (x y : Int) : ∀ t : Tr, sh (-x) (-y) (sh x y t) = t
  | .atom k d => rfl
  | .ref c r => by simp only [sh, Int.add_neg_cancel_right]
  | .rng a b c d => by simp only [sh, Int.add_neg_cancel_right]
  | .neg t => by simp only [sh, sh_back x y t]
  | .call f as => by simp only [sh, shL_back x y as]
  | .bin o l r => by simp only [sh, sh_back x y l, sh_back x y r]
theorem shL_back (x y : Int) : ∀ l : List Tr, shL (-x) (-y) (shL x y l) = l
  | [] => rfl
  | t :: r => by simp only [shL, sh_back x y t, shL_back x y r]
end
mutual
theorem sh_sm (x y : Int) : ∀ t : Tr, t.sm → (sh x y t).sm ∧ (sh x y t).ht = t.ht ∧ (spots (sh x y t)).length = (spots t).length
  | .atom k d, h => ⟨h, rfl, rfl⟩
  | .ref c r, h => ⟨h, rfl, rfl⟩
  | .rng a b c d, h => ⟨h, rfl, rfl⟩
  | .neg t, h => by
    have a := sh_sm x y t h
    simp only [sh, Tr.sm, Tr.ht, spots, List.length_append, a.2.1, a.2.2]
    exact ⟨a.1, trivial, trivial⟩
  | .call f as, h => by
    have a := shL_sm x y as h.2.2
    have e : (shL x y as).length = as.length := by rw [shL_map, List.length_map]
    simp only [sh, Tr.sm, Tr.ht, spots, a.2.1, a.2.2, e]
    exact ⟨⟨h.1, h.2.1, a.1⟩, trivial, trivial⟩
  | .bin o l r, h => by
    have a := sh_sm x y l h.1
    have b := sh_sm x y r h.2
    simp only [sh, Tr.sm, Tr.ht, spots, List.length_append, a.2.1, a.2.2, b.2.1, b.2.2]
    exact ⟨⟨a.1, b.1⟩, trivial, trivial⟩
theorem shL_sm (x y : Int) : ∀ l : List Tr, Tr.sms l → Tr.sms (shL x y l) ∧ Tr.hts (shL x y l) = Tr.hts l ∧ (spotsL (shL x y l)).length = (spotsL l).length
  | [], _ => ⟨trivial, rfl, rfl⟩
  | t :: r, h => by
    have a := sh_sm x y t h.1
    have b := shL_sm x y r h.2
    simp only [shL, Tr.sms, Tr.hts, spotsL, List.length_append, a.2.1, a.2.2, b.2.1, b.2.2]
    exact ⟨⟨a.1, b.1⟩, trivial, trivial⟩
end
end Law
namespace Law
open PySem L2 DL
/-! ### drawn trees and how great they are -/
def RW : Nat → Nat
  | 0 => 100
  | n + 1 => 8 * RW n + 152
theorem RW_mono {a b : Nat} (h : a ≤ b) : RW a ≤ RW b := by
  induction h with
  | refl => exact Nat.le_refl _
  | step _ ih => exact Nat.le_trans ih (by show _ ≤ 8 * _ + 152; omega)
theorem RW_ge (n : Nat) : 100 ≤ RW n := RW_mono (Nat.zero_le n)
def smB (d : D) : Bool := okD d && decide (depD d ≤ 3) && showD d && decide (DL.rb d ≤ 100)
theorem smB_ok {d : D} (h : smB d = true) (n : Nat) : Sm (2 * n + 3) (RW n) d := by
  unfold smB at h
  simp only [Bool.and_eq_true, decide_eq_true_eq] at h
  exact ⟨h.1.1.1, by omega, h.1.2, Nat.le_trans h.2 (RW_ge n)⟩
mutual
def Tr.gd : Tr → Prop
  | .atom k d => smB (.tup [.str (Str.ofString k.s), d]) = true ∧ okD d = true ∧ depD d = 0
  | .ref c r => inS c r = true
  | .rng a b c d => inS a b = true ∧ inS c d = true
  | .neg t => t.gd
  | .call f as => (smB (.str f) = true ∧ DL.rb (.str f) ≤ 10) ∧ as.length ≤ 8 ∧ Tr.gds as
  | .bin _ l r => l.gd ∧ r.gd
def Tr.gds : List Tr → Prop
  | [] => True
  | t :: r => t.gd ∧ Tr.gds r
end
theorem sB_ok {f : Str} (h : smB (.str f) = true) : PyData.strOk f = true := by
  unfold smB at h
  simp only [Bool.and_eq_true] at h
  exact h.1.1.1
mutual
theorem gd_sm : ∀ t : Tr, t.gd → t.sm ∧ (spots t).all inP = true
  | .atom k d, h => ⟨h.2, rfl⟩
  | .ref c r, h => ⟨trivial, by simp only [spots, List.all_cons, List.all_nil, Bool.and_true]; exact h⟩
  | .rng a b c d, h => ⟨trivial, by simp only [spots, List.all_cons, List.all_nil, Bool.and_true]; exact Bool.and_eq_true_iff.mpr h⟩
  | .neg t, h => by
    have a := gd_sm t h
    simp only [Tr.sm, spots, List.append_nil]
    exact a
  | .call f as, h => by
    have a := gds_sm as h.2.2
    have := h.2.1
    exact ⟨⟨sB_ok h.1.1, by omega, a.1⟩, a.2⟩
  | .bin o l r, h => by
    have a := gd_sm l h.1
    have b := gd_sm r h.2
    simp only [Tr.sm, spots, List.append_nil, List.all_append, a.2, b.2]
    exact ⟨⟨a.1, b.1⟩, rfl⟩
theorem gds_sm : ∀ l : List Tr, Tr.gds l → Tr.sms l ∧ (spotsL l).all inP = true
  | [], _ => ⟨trivial, rfl⟩
  | t :: r, h => by
    have a := gd_sm t h.1
    have b := gds_sm r h.2
    simp only [Tr.sms, spotsL, List.all_append, a.2, b.2]
    exact ⟨⟨a.1, b.1⟩, rfl⟩
end
def NW : Nat → Nat
  | 0 => 2
  | n + 1 => 8 * NW n + 1
theorem NW_mono {a b : Nat} (h : a ≤ b) : NW a ≤ NW b := by
  induction h with
  | refl => exact Nat.le_refl _
  | step _ ih => exact Nat.le_trans ih (by show _ ≤ 8 * _ + 1; omega)
theorem NW_ge (n : Nat) : 2 ≤ NW n := NW_mono (Nat.zero_le n)
mutual
theorem gd_nw : ∀ t : Tr, t.gd → nsz t ≤ NW t.ht ∧ (spots t).length ≤ NW t.ht
  | .atom k d, h => by simp [nsz, spots, Tr.ht, NW]
  | .ref c r, h => by simp [nsz, spots, Tr.ht, NW]
  | .rng a b c d, h => by simp [nsz, spots, Tr.ht, NW]
  | .neg t, h => by
    have a := gd_nw t h
    simp only [nsz, spots, Tr.ht, NW, List.append_nil]
    omega
  | .call f as, h => by
    have a := gds_nw as h.2.2
    have e : NW (Tr.hts as) * as.length ≤ NW (Tr.hts as) * 8 := Nat.mul_le_mul (Nat.le_refl _) h.2.1
    simp only [nsz, spots, Tr.ht, NW]
    omega
  | .bin o l r, h => by
    have a := gd_nw l h.1
    have b := gd_nw r h.2
    have m1 := NW_mono (Nat.le_max_left l.ht r.ht)
    have m2 := NW_mono (Nat.le_max_right l.ht r.ht)
    have g := NW_ge (max l.ht r.ht)
    simp only [nsz, spots, Tr.ht, NW, List.length_append, List.length_nil]
    omega
theorem gds_nw : ∀ l : List Tr, Tr.gds l → nszL l ≤ NW (Tr.hts l) * l.length ∧ (spotsL l).length ≤ NW (Tr.hts l) * l.length
  | [], _ => ⟨Nat.zero_le _, Nat.zero_le _⟩
  | t :: r, h => by
    have a := gd_nw t h.1
    have b := gds_nw r h.2
    have m1 := NW_mono (Nat.le_max_left t.ht (Tr.hts r))
    have m2 := Nat.mul_le_mul (NW_mono (Nat.le_max_right t.ht (Tr.hts r))) (Nat.le_refl r.length)
    simp only [nszL, spotsL, Tr.hts, List.length_append, List.length_cons, Nat.mul_succ]
    omega
end
theorem sm_op (o : Op) : smB (.str (Str.ofString o.s)) = true := by cases o <;> decide +kernel
theorem sm_k : ∀ k ∈ ["neg", "call", "ref", "range"], smB (.str (Str.ofString k)) = true ∧ DL.rb (.str (Str.ofString k)) ≤ 10 := by decide +kernel
theorem sm_w {d : D} (h : smB d = true) (n w : Nat) (hn : 3 ≤ n) (hw : 100 ≤ w) : Sm n w d := (smB_ok h 0).mono hn hw
theorem rb_99 : ∀ z : Fin 99, DL.rb (.int ((z.val : Nat) : Int)) ≤ 3 := by decide +kernel
theorem rb_int {z : Int} (h : 0 ≤ z ∧ z ≤ 98) : DL.rb (.int z) ≤ 3 := by
  obtain ⟨n, rfl⟩ : ∃ n : Nat, z = n := ⟨z.toNat, by omega⟩
  exact rb_99 ⟨n, by omega⟩
theorem ad_rb {c r : Int} (h : inS c r = true) : Sm 1 13 (ad c r) := by
  unfold inS at h
  rw [decide_eq_true_eq] at h
  have s : Sm 1 207 (ad c r) := Sm.tup (n := 0) (w := 100) (ds := [.int c, .int r]) (fun d hd => by
    simp only [List.mem_cons, List.not_mem_nil, or_false] at hd
    rcases hd with rfl | rfl <;> exact Sm.int (by omega) (by decide)) (by simp)
  refine ⟨s.ok, s.dp, s.sh, ?_⟩
  have h1 := rb_int (z := c) (by omega)
  have h2 := rb_int (z := r) (by omega)
  show DL.rb (.int c) + 2 + (DL.rb (.int r) + 2 + 0) + 3 ≤ 13
  omega
theorem ref_Sm {c r : Int} (h : inS c r = true) : Sm 3 100 (Tr.ref c r).val := by
  have k := sm_k "ref" (by simp)
  have a := ad_rb h
  have s := Sm.tup (n := 2) (w := 30) (v := 67) (ds := [.str (Str.ofString "ref"), ad c r]) (fun d hd => by
    simp only [List.mem_cons, List.not_mem_nil, or_false] at hd
    rcases hd with rfl | rfl
    · have b := sm_w k.1 3 100 (by omega) (by omega)
      exact ⟨b.ok, Nat.zero_le _, b.sh, by omega⟩
    · exact a.mono (by omega) (by omega)) (by simp)
  exact s.mono (by omega) (by omega)
theorem rng_Sm {a b c d : Int} (h : inS a b = true) (h2 : inS c d = true) : Sm 3 100 (Tr.rng a b c d).val := by
  have k := sm_k "range" (by simp)
  have x := ad_rb h
  have y := ad_rb h2
  have z := Sm.tup (n := 1) (w := 13) (v := 33) (ds := [ad a b, ad c d]) (fun d hd => by
    simp only [List.mem_cons, List.not_mem_nil, or_false] at hd
    rcases hd with rfl | rfl
    · exact x
    · exact y) (by simp)
  have s := Sm.tup (n := 2) (w := 33) (v := 73) (ds := [.str (Str.ofString "range"), .tup [ad a b, ad c d]]) (fun d hd => by
    simp only [List.mem_cons, List.not_mem_nil, or_false] at hd
    rcases hd with rfl | rfl
    · have b := sm_w k.1 3 100 (by omega) (by omega)
      exact ⟨b.ok, Nat.zero_le _, b.sh, by omega⟩
    · exact z.mono (by omega) (by omega)) (by simp)
  exact s.mono (by omega) (by omega)
end Law
namespace Law
open PySem L2 DL
mutual
theorem gd_Sm : ∀ t : Tr, t.gd → Sm (2 * t.ht + 3) (RW t.ht) t.val
  | .atom k d, h => smB_ok h.1 0
  | .ref c r, h => ref_Sm h
  | .rng a b c d, h => rng_Sm h.1 h.2
  | .neg t, h => by
    have a := gd_Sm t h
    have g := RW_ge t.ht
    have e := Sm.tup (n := 2 * t.ht + 3) (w := RW t.ht) (v := 8 * RW t.ht + 152) (ds := [.str (Str.ofString "neg"), t.val]) (fun d hd => by
      simp only [List.mem_cons, List.not_mem_nil, or_false] at hd
      rcases hd with rfl | rfl
      · exact sm_w (sm_k "neg" (by simp)).1 _ _ (by omega) g
      · exact a) (by simp only [List.length_cons, List.length_nil]; omega)
    exact e.mono (by simp only [Tr.ht]; omega) (Nat.le_refl _)
  | .call f as, h => by
    have a := gds_Sm as h.2.2
    have g := RW_ge (Tr.hts as)
    have hn := h.2.1
    have hm : (RW (Tr.hts as) + 2) * (Tr.vals as).length ≤ (RW (Tr.hts as) + 2) * 8 := Nat.mul_le_mul (Nat.le_refl _) (by rw [vals_map, List.length_map]; exact hn)
    have l := Sm.lst (v := 8 * RW (Tr.hts as) + 19) a (by omega)
    have e : okD (Tr.call f as).val = true ∧ depD (Tr.call f as).val ≤ 2 * Tr.hts as + 5 ∧ showD (Tr.call f as).val = true ∧ DL.rb (Tr.call f as).val ≤ 8 * RW (Tr.hts as) + 152 := by
      have k1 := sm_w (sm_k "call" (by simp)).1 3 100 (by omega) (by omega)
      have k2 := sm_w h.1.1 3 100 (by omega) (by omega)
      have b1 := (sm_k "call" (by simp)).2
      have b2 := h.1.2
      have l2 := l.dp
      have l4 := l.rb
      obtain ⟨o1, o2, o3, _⟩ := sm_all (n := 2 * Tr.hts as + 4) (w := 8 * RW (Tr.hts as) + 19) (ds := [.str (Str.ofString "call"), .str f, .lst (Tr.vals as)]) (fun d hd => by
        simp only [List.mem_cons, List.not_mem_nil, or_false] at hd
        rcases hd with rfl | rfl | rfl
        · exact k1.mono (by omega) (by omega)
        · exact k2.mono (by omega) (by omega)
        · exact l)
      simp only [Tr.val]
      refine ⟨o1, Nat.succ_le_succ o2, o3, ?_⟩
      show DL.rb _ + 2 + (DL.rb _ + 2 + (DL.rb _ + 2 + 0)) + 3 ≤ _
      omega
    exact ⟨e.1, Nat.le_trans e.2.1 (by simp only [Tr.ht]; omega), e.2.2.1, e.2.2.2⟩
  | .bin o l r, h => by
    have a := gd_Sm l h.1
    have b := gd_Sm r h.2
    have m1 := RW_mono (Nat.le_max_left l.ht r.ht)
    have m2 := RW_mono (Nat.le_max_right l.ht r.ht)
    have g := RW_ge (max l.ht r.ht)
    have e := Sm.tup (n := 2 * max l.ht r.ht + 3) (w := RW (max l.ht r.ht)) (v := 8 * RW (max l.ht r.ht) + 152) (ds := [.str (Str.ofString o.s), l.val, r.val]) (fun d hd => by
      simp only [List.mem_cons, List.not_mem_nil, or_false] at hd
      rcases hd with rfl | rfl | rfl
      · exact sm_w (sm_op o) _ _ (by omega) g
      · exact a.mono (by omega) m1
      · exact b.mono (by omega) m2) (by simp only [List.length_cons, List.length_nil]; omega)
    exact e.mono (by simp only [Tr.ht]; omega) (Nat.le_refl _)
theorem gds_Sm : ∀ l : List Tr, Tr.gds l → ∀ d ∈ Tr.vals l, Sm (2 * Tr.hts l + 3) (RW (Tr.hts l)) d
  | [], _, d, hd => by cases hd
  | t :: r, ⟨h1, h2⟩, d, hd => by
    rcases List.mem_cons.mp hd with e | hd
    · rw [e]
      have s := gd_Sm t h1
      simp only [Tr.hts]
      exact s.mono (by omega) (RW_mono (Nat.le_max_left _ _))
    · have s := gds_Sm r h2 d hd
      simp only [Tr.hts]
      exact s.mono (by omega) (RW_mono (Nat.le_max_right _ _))
end
end Law
namespace Law
open PySem L2 DL
/-! ### drawing -/
theorem take_eq : m_l_take = takeM := rfl
theorem state_eq : m_l_state = stateM := rfl
def AREAS : List ((Int × Int) × (Int × Int)) := [((0, 0), (1, 1)), ((0, 0), (0, 0)), ((0, 0), (2, 0)), ((1, 0), (25, 98)), ((0, 1), (2, 1))]
def REFS : List (Int × Int) := [(0, 0), (1, 0), (0, 1), (25, 98), (2, 1), (1, 1)]
def NUMS : List Int := [0, 10000, 20000, 25000, 1, 1000000000000000, 70000]
def TXTS : List Str := [Str.ofString "", Str.ofString "a", Str.ofString "ab", Str.ofString "A1", Str.ofString "\"", Str.ofString "x \"y\", ", Str.ofString "TRUE", repS (Str.ofString "b") 60]
def FUNS : List String := ["SUM", "COUNT", "AVG", "MIN", "MAX", "AND", "OR", "JOIN", "RSUM", "RCOUNT", "RAVG", "RMIN", "RMAX", "IF", "LEFT", "ROUND", "NOT", "LEN", "ABS"]
def OPS : List Op := [.pl, .mi, .mu, .di, .am, .eq, .ne, .lt, .le]
theorem ar_ok : ∀ p ∈ AREAS, inS p.1.1 p.1.2 = true ∧ inS p.2.1 p.2.2 = true := by decide +kernel
theorem rf_ok : ∀ p ∈ REFS, inS p.1 p.2 = true := by decide +kernel
theorem nm_ok : ∀ n ∈ NUMS, smB (.tup [.str (Str.ofString "num"), .int n]) = true := by decide +kernel
theorem tx_ok : ∀ s ∈ TXTS, smB (.tup [.str (Str.ofString "text"), .str s]) = true := by decide +kernel
theorem bl_ok : ∀ b : Bool, smB (.tup [.str (Str.ofString "bool"), .bl b]) = true := by decide +kernel
theorem fn_ok : ∀ f ∈ FUNS, smB (.str (Str.ofString f)) = true ∧ DL.rb (.str (Str.ofString f)) ≤ 10 := by decide +kernel
theorem ts_ok : ∀ s ∈ TXTS, PyData.strOk s = true := by decide +kernel
abbrev arD (p : (Int × Int) × (Int × Int)) : D := .tup [ad p.1.1 p.1.2, ad p.2.1 p.2.2]
section
variable {m : Nat} {sv : DV} {Iv : List O → Prop}
theorem wp_range (W : Dw sv m Iv) {M : List O} {P : DV → List O → Prop} (h : Iv M) (k : ∀ a b c d M', Iv M' → (Tr.rng a b c d).gd → P (.p (Tr.rng a b c d).val) M') : wpB (m_l_range [sv] M) P := by
  have dl : ∀ {M' : List O} {d : DV}, Iv M' → dropM M.length d M' = M' := fun d => W.drop h d _
  have fin : ∀ (z : D) (M' : List O), Iv M' → z ∈ AREAS.map arD → P (.p (.tup [.str (Str.ofString "range"), z])) M' := fun z M' d hz => by
    obtain ⟨p, hp, rfl⟩ := List.mem_map.mp hz
    exact k p.1.1 p.1.2 p.2.1 p.2.2 M' d (ar_ok p hp)
  simp [m_l_range, b_l_range, take_eq]
  refine W.tk h (by decide) fun q M1 d1 _ q1 => ?_
  have q1 := q1 (by decide)
  simp
  refine ⟨fun h0 => ?_, fun h0 => ?_⟩
  · refine W.tk d1 (by decide) fun r M2 d2 _ r1 => ?_
    have r1 := r1 (by decide)
    obtain ⟨z, hz, mz⟩ := at_mem (xs := AREAS.map arD) r1.1 (by simp [AREAS]; omega)
    have hz' := hz
    simp only [AREAS, List.map_cons, List.map_nil, arD, ad] at hz'
    simp [hz', dl d2]
    exact fin z M2 d2 mz
  · refine W.tk d1 (by decide) fun r M2 d2 _ r1 => ?_
    have r1 := r1 (by decide)
    obtain ⟨y, hy, my⟩ := at_mem (xs := [D.int 0, .int 1, .int 2, .int 4]) r1.1 (by simpa using r1.2)
    have : ∃ i : Int, y = .int i ∧ 0 ≤ i ∧ i < 5 := by
      simp only [List.mem_cons, List.not_mem_nil, or_false] at my
      rcases my with rfl | rfl | rfl | rfl <;> exact ⟨_, rfl, by decide, by decide⟩
    obtain ⟨i, rfl, i0, i1⟩ := this
    obtain ⟨z, hz, mz⟩ := at_mem (xs := AREAS.map arD) i0 (by simp [AREAS]; omega)
    have hz' := hz
    simp only [AREAS, List.map_cons, List.map_nil, arD, ad] at hz'
    simp [hy, hz', dl d2]
    exact fin z M2 d2 mz
theorem wp_leaf (W : Dw sv m Iv) {M : List O} {P : DV → List O → Prop} (h : Iv M) (k : ∀ t M', Iv M' → t.gd → t.ht = 0 → P (.p (Tr.val t)) M') : wpB (m_l_leaf [sv] M) P := by
  have hb1 : (Str.ofString "b").length = 1 := by rw [ks_len]; rfl
  have dl : ∀ {M' : List O} {d : DV}, Iv M' → dropM M.length d M' = M' := fun d => W.drop h d _
  simp [m_l_leaf, b_l_leaf, take_eq, hb1]
  refine W.tk h (by decide) fun q M1 d1 _ q1 => ?_
  have q1 := q1 (by decide)
  simp
  refine ⟨fun h0 => ?_, fun h0 => ⟨fun h1 => ?_, fun h1 => ⟨fun h2 => ?_, fun h2 => ?_⟩⟩⟩
  · refine W.tk d1 (by decide) fun r M2 d2 _ r1 => ?_
    have r1 := r1 (by decide)
    obtain ⟨z, hz, mz⟩ := at_mem (xs := REFS.map (fun p => ad p.1 p.2)) r1.1 (by simp [REFS]; omega)
    have hz' := hz
    simp only [REFS, List.map_cons, List.map_nil, ad] at hz'
    simp [hz', dl d2]
    obtain ⟨p, hp, rfl⟩ := List.mem_map.mp mz
    exact k (.ref p.1 p.2) M2 d2 (rf_ok p hp) rfl
  · refine W.tk d1 (by decide) fun r M2 d2 _ r1 => ?_
    have r1 := r1 (by decide)
    obtain ⟨z, hz, mz⟩ := at_mem (xs := NUMS.map D.int) r1.1 (by simp [NUMS]; omega)
    have hz' := hz
    simp [NUMS] at hz'
    simp [hz', dl d2]
    obtain ⟨p, hp, rfl⟩ := List.mem_map.mp mz
    exact k (.atom .num (.int p)) M2 d2 ⟨nm_ok p hp, rfl, rfl⟩ rfl
  · refine W.tk d1 (by decide) fun r M2 d2 _ r1 => ?_
    simp [dl d2]
    exact k (.atom .bl (.bl (decide (r = 0)))) M2 d2 ⟨bl_ok _, rfl, rfl⟩ rfl
  · rw [if_pos hb1]
    simp
    refine W.tk d1 (by decide) fun r M2 d2 _ r1 => ?_
    have r1 := r1 (by decide)
    obtain ⟨z, hz, mz⟩ := at_mem (xs := TXTS.map D.str) r1.1 (by simp [TXTS]; omega)
    have hz' := hz
    simp only [TXTS, List.map_cons, List.map_nil] at hz'
    simp [hz', dl d2]
    obtain ⟨p, hp, rfl⟩ := List.mem_map.mp mz
    exact k (.atom .txt (.str p)) M2 d2 ⟨tx_ok p hp, ts_ok p hp, rfl⟩ rfl
end
end Law
namespace Law
open PySem L2 DL
section
variable {m : Nat} {sv : DV} {Iv : List O → Prop}
def TR (sv : DV) (Iv : List O → Prop) (j n : Nat) : Prop := ∀ (M : List O) (P : DV → List O → Prop), Iv M → (∀ (t : Tr) M', Iv M' → t.gd → t.ht ≤ n → P (.p t.val) M') → wpB (m_l_tree j [sv, .p (.int n)] M) P
def CA (sv : DV) (Iv : List O → Prop) (j n : Nat) : Prop := ∀ (M : List O) (P : DV → List O → Prop), Iv M → (∀ (t : Tr) M', Iv M' → t.gd → t.ht ≤ n + 1 → P (.p t.val) M') → wpB (m_l_call j [sv, .p (.int n)] M) P
def WI (sv : DV) (Iv : List O → Prop) (j n : Nat) : Prop := ∀ (M : List O) (P : DV → List O → Prop), Iv M → (∀ (t : Tr) M', Iv M' → t.gd → t.ht ≤ n → P (.p t.val) M') → wpB (m_l_wide j [sv, .p (.int n)] M) P
theorem tree_0 (W : Dw sv m Iv) (j n : Nat) (hc : n = 0 ∨ (TR sv Iv j (n - 1) ∧ CA sv Iv j (n - 1))) : TR sv Iv (j + 1) n := by
  intro M P h k
  rw [m_l_tree_succ]
  have dl : ∀ {M' : List O} {d : DV}, Iv M' → dropM M.length d M' = M' := fun d => W.drop h d _
  simp [b_l_tree, take_eq]
  refine W.tk h (by decide) fun q M1 d1 _ q1 => ?_
  have q1 := q1 (by decide)
  simp
  rcases hc with rfl | ⟨hT, hC⟩
  · simp
    refine wp_leaf W d1 fun t M2 d2 g hh => ?_
    simp [dl d2]
    exact k t M2 d2 g (by omega)
  · by_cases hn : n = 0
    · subst hn
      simp
      refine wp_leaf W d1 fun t M2 d2 g hh => ?_
      simp [dl d2]
      exact k t M2 d2 g (by omega)
    · obtain ⟨n, rfl⟩ : ∃ n', n = n' + 1 := ⟨n - 1, by omega⟩
      have e' : ((n : Int) + 1) - 1 = (n : Int) := by omega
      have e2 : ¬ ((n : Int) + 1 = 0) := by omega
      simp at hT hC
      simp [e2, e']
      refine ⟨fun h0 => ?_, fun h0 => ⟨fun h1 => ?_, fun h1 => ⟨fun h2 => ?_, fun h2 => ?_⟩⟩⟩
      · refine wp_leaf W d1 fun t M2 d2 g hh => ?_
        simp [dl d2]
        exact k t M2 d2 g (by omega)
      · refine hT M1 _ d1 fun t M2 d2 g hh => ?_
        simp [dl d2]
        exact k (.neg t) M2 d2 g (by simp only [Tr.ht]; omega)
      · refine hC M1 _ d1 fun t M2 d2 g hh => ?_
        simp [dl d2]
        exact k t M2 d2 g hh
      · refine W.tk d1 (by decide) fun r M2 d2 _ r1 => ?_
        have r1 := r1 (by decide)
        obtain ⟨z, hz, mz⟩ := at_mem (xs := OPS.map (fun o => D.str (Str.ofString o.s))) r1.1 (by simp [OPS]; omega)
        have hz' := hz
        simp only [OPS, List.map_cons, List.map_nil, Op.s] at hz'
        simp [hz']
        refine hT M2 _ d2 fun t M3 d3 g hh => ?_
        simp
        refine hT M3 _ d3 fun u M4 d4 g2 hh2 => ?_
        obtain ⟨o, ho, rfl⟩ := List.mem_map.mp mz
        simp [dl d4]
        exact k (.bin o t u) M4 d4 ⟨g, g2⟩ (by simp only [Tr.ht]; omega)
theorem wide_0 (W : Dw sv m Iv) (j n : Nat) (hT : TR sv Iv j n) : WI sv Iv (j + 1) n := by
  intro M P h k
  rw [m_l_wide_succ]
  have dl : ∀ {M' : List O} {d : DV}, Iv M' → dropM M.length d M' = M' := fun d => W.drop h d _
  simp [b_l_wide, take_eq]
  refine W.tk h (by decide) fun q M1 d1 _ q1 => ?_
  simp
  refine ⟨fun h0 => ?_, fun h0 => ?_⟩
  · refine wp_range W d1 fun a b c d M2 d2 g => ?_
    simp [dl d2]
    exact k (.rng a b c d) M2 d2 g (Nat.zero_le _)
  · refine hT M1 _ d1 fun t M2 d2 g hh => ?_
    simp [dl d2]
    exact k t M2 d2 g hh
theorem ex_vals {Q : Tr → Prop} : ∀ ys : List D, (∀ y ∈ ys, ∃ t : Tr, y = t.val ∧ Q t) → ∃ ts : List Tr, ys = Tr.vals ts ∧ (∀ t ∈ ts, Q t) ∧ ts.length = ys.length
  | [], _ => ⟨[], rfl, by simp, rfl⟩
  | y :: ys, h => by
    obtain ⟨t, rfl, hq⟩ := h y (by simp)
    obtain ⟨ts, rfl, h2, h3⟩ := ex_vals ys fun x hx => h x (List.mem_cons_of_mem _ hx)
    refine ⟨t :: ts, rfl, ?_, by simp [h3]⟩
    intro x hx
    rcases List.mem_cons.mp hx with rfl | hx
    · exact hq
    · exact h2 x hx
theorem gds_of : ∀ ts : List Tr, (∀ t ∈ ts, t.gd) → Tr.gds ts
  | [], _ => trivial
  | t :: r, h => ⟨h t (by simp), gds_of r fun x hx => h x (by simp [hx])⟩
theorem hts_le {n : Nat} : ∀ ts : List Tr, (∀ t ∈ ts, t.ht ≤ n) → Tr.hts ts ≤ n
  | [], _ => Nat.zero_le _
  | t :: r, h => by
    have a := h t (by simp)
    have b := hts_le r fun x hx => h x (by simp [hx])
    simp only [Tr.hts]
    omega
def GT (sv : DV) (Iv : List O → Prop) (g : List DV → List O → Option (Rs DV)) (N : Int) (Q : Tr → Prop) : Prop := ∀ (M : List O) (P : DV → List O → Prop), Iv M → (∀ (t : Tr) M', Iv M' → Q t → P (.p t.val) M') → wpB (g [sv, .p (.int N)] M) P
abbrev FN (Iv : List O → Prop) (Q : Tr → Prop) (L : Nat) (P : DV → List O → Prop) : Prop := ∀ (f : String) (as : List Tr) (M' : List O), Iv M' → f ∈ FUNS → as.length ≤ 8 → (∀ t ∈ as, Q t) → P (.p (.tup [.str (Str.ofString "call"), .str (Str.ofString f), .lst (Tr.vals as)])) (dropM L (.p (.tup [.str (Str.ofString "call"), .str (Str.ofString f), .lst (Tr.vals as)])) M')
abbrev cSt (sv : DV) (N q : Int) (M : List O) : S := ⟨[some sv, some (.p (.int N)), some (.p (.int q)), none, none], M⟩
section
variable {gC gT gW : List DV → List O → Option (Rs DV)} {N q : Int} {Q : Tr → Prop} {L : Nat} {P : DV → List O → Prop} {M1 : List O}
theorem mem_str {l : List String} {z : D} (h : z ∈ l.map fun f => D.str (Str.ofString f)) : ∃ f ∈ l, z = .str (Str.ofString f) := by
  obtain ⟨f, hf, rfl⟩ := List.mem_map.mp h
  exact ⟨f, hf, rfl⟩
theorem st_5 (W : Dw sv m Iv) (d1 : Iv M1) (hT : GT sv Iv gT N Q) (fin : FN Iv Q L P) : wpS (b_l_call_5 gC gT gW (cSt sv N q M1)) (endB L P) := by
  simp [b_l_call_5, take_eq]
  refine W.tk d1 (by decide) fun r M2 d2 _ r1 => ?_
  have r1 := r1 (by decide)
  obtain ⟨z, hz, mz⟩ := at_mem (xs := ["NOT", "LEN", "ABS"].map fun f => D.str (Str.ofString f)) r1.1 (by simpa using r1.2)
  obtain ⟨f, hf, rfl⟩ := mem_str mz
  have hf2 : f ∈ FUNS := (by decide +kernel : ∀ f ∈ (["NOT", "LEN", "ABS"] : List String), f ∈ FUNS) f hf
  simp at hz
  simp [hz]
  refine hT M2 _ d2 fun t M3 d3 g => ?_
  simp
  refine fin f [t] M3 d3 hf2 (by simp) (fun x h => ?_)
  rw [List.mem_singleton] at h
  subst h
  exact g
theorem st_4 (W : Dw sv m Iv) (d1 : Iv M1) (hT : GT sv Iv gT N Q) (fin : FN Iv Q L P) : wpS (b_l_call_4 gC gT gW (cSt sv N q M1)) (endB L P) := by
  have nx := st_5 (gC := gC) (gW := gW) (q := q) W d1 hT fin
  simp [b_l_call_4, take_eq]
  refine ⟨fun h3 => ?_, fun h3 => nx⟩
  refine W.tk d1 (by decide) fun r M2 d2 _ r1 => ?_
  have r1 := r1 (by decide)
  obtain ⟨z, hz, mz⟩ := at_mem (xs := ["LEFT", "ROUND"].map fun f => D.str (Str.ofString f)) r1.1 (by simpa using r1.2)
  obtain ⟨f, hf, rfl⟩ := mem_str mz
  have hf2 : f ∈ FUNS := (by decide +kernel : ∀ f ∈ (["LEFT", "ROUND"] : List String), f ∈ FUNS) f hf
  simp at hz
  simp [hz]
  refine hT M2 _ d2 fun t M3 d3 g => ?_
  simp
  refine hT M3 _ d3 fun u M4 d4 g2 => ?_
  simp
  refine fin f [t, u] M4 d4 hf2 (by simp) (fun x h => ?_)
  simp only [List.mem_cons, List.not_mem_nil, or_false] at h
  rcases h with rfl | rfl
  · exact g
  · exact g2
theorem comp_draw {g : List DV → List O → Option (Rs DV)} (hg : GT sv Iv g N Q) (x2 x3 : Option DV) (ds : List DV) (hn : ds.length ≤ 100) (M1 : List O) (d1 : Iv M1) :
    ∃ ts M4, compL [some sv, some (.p (.int N)), x2, x3, none] (gN 4) tYesM (mCallB 2 g (aCons (mVar 0) (aCons (mVar 1) aNil))) ds [] M1 = some (Tr.vals ts, M4) ∧ Iv M4 ∧ (∀ t ∈ ts, Q t) ∧ ts.length = ds.length := by
  obtain ⟨ys, M4, e4, d4, hy4, hl4⟩ := compL_draw (g := gN 4) (l := [some sv, some (.p (.int N)), x2, x3, none]) (e := mCallB 2 g (aCons (mVar 0) (aCons (mVar 1) aNil))) (Inv := Iv) (R := fun y => ∃ t : Tr, y = t.val ∧ Q t) ds [] M1 d1 (by simp) (by rw [List.length_nil]; omega) (fun d _ M d3 => by
    refine ⟨_, rfl, ?_⟩
    simp
    exact hg M _ d3 fun t M2 d2 g => ⟨_, rfl, ⟨t, rfl, g⟩, d2⟩)
  obtain ⟨ts, rfl, ht, hln⟩ := ex_vals ys hy4
  rw [hl4, List.length_nil, Nat.zero_add] at hln
  exact ⟨ts, M4, e4, d4, ht, hln⟩
theorem st_3 (W : Dw sv m Iv) (d1 : Iv M1) (hT : GT sv Iv gT N Q) (fin : FN Iv Q L P) : wpS (b_l_call_3 gC gT gW (cSt sv N q M1)) (endB L P) := by
  have nx := st_4 (gC := gC) (gW := gW) (q := q) W d1 hT fin
  have hr : rngOk 3 = true := by decide
  have hli : (DL.intsFrom 0 3).length = 3 := rfl
  obtain ⟨ts, M4, e4, d4, ht, hln⟩ := comp_draw hT (some (.p (.int q))) none (DL.intsFrom 0 3) (by rw [hli]; decide) M1 d1
  rw [hli] at hln
  have r := fin "IF" ts M4 d4 (by decide +kernel) (by rw [hln]; decide) ht
  generalize Tr.vals ts = vs at *
  simp [b_l_call_3, take_eq]
  refine ⟨fun h2 => ?_, fun h2 => nx⟩
  simp [hr, e4]
  exact r
theorem st_2 (W : Dw sv m Iv) (d1 : Iv M1) (hT : GT sv Iv gT N Q) (hQ : ∀ t : Tr, t.gd → t.ht = 0 → Q t) (fin : FN Iv Q L P) : wpS (b_l_call_2 gC gT gW (cSt sv N q M1)) (endB L P) := by
  have nx := st_3 (gC := gC) (gW := gW) (q := q) W d1 hT fin
  simp [b_l_call_2, take_eq]
  refine ⟨fun h1 => ?_, fun h1 => nx⟩
  refine W.tk d1 (by decide) fun r M2 d2 _ r1 => ?_
  have r1 := r1 (by decide)
  obtain ⟨z, hz, mz⟩ := at_mem (xs := ["RSUM", "RCOUNT", "RAVG", "RMIN", "RMAX"].map fun f => D.str (Str.ofString f)) r1.1 (by simpa using r1.2)
  obtain ⟨f, hf, rfl⟩ := mem_str mz
  have hf2 : f ∈ FUNS := (by decide +kernel : ∀ f ∈ (["RSUM", "RCOUNT", "RAVG", "RMIN", "RMAX"] : List String), f ∈ FUNS) f hf
  simp at hz
  simp [hz]
  refine W.tk d2 (by decide) fun s M3 d3 _ s1 => ?_
  simp
  refine ⟨fun h2 => ?_, fun h2 => ?_⟩
  · refine W.tk d3 (by decide) fun u M4 d4 _ u1 => ?_
    have u1 := u1 (by decide)
    simp
    refine fin f [.ref u 0] M4 d4 hf2 (by simp) (fun t h => ?_)
    rw [List.mem_singleton] at h
    subst h
    exact hQ _ (by show inS u 0 = true; unfold inS; simp; omega) rfl
  · refine wp_range W d3 fun a b c d M4 d4 g => ?_
    simp
    refine fin f [.rng a b c d] M4 d4 hf2 (by simp) (fun t h => ?_)
    rw [List.mem_singleton] at h
    subst h
    exact hQ _ g rfl
theorem st_1 (W : Dw sv m Iv) (d1 : Iv M1) (hT : GT sv Iv gT N Q) (hW : GT sv Iv gW N Q) (hQ : ∀ t : Tr, t.gd → t.ht = 0 → Q t) (fin : FN Iv Q L P) : wpS (b_l_call_1 gC gT gW (cSt sv N q M1)) (endB L P) := by
  have nx := st_2 (gC := gC) (gW := gW) (q := q) W d1 hT hQ fin
  simp [b_l_call_1, take_eq]
  refine ⟨fun h0 => ?_, fun h0 => nx⟩
  refine W.tk d1 (by decide) fun r M2 d2 _ r1 => ?_
  have r1 := r1 (by decide)
  obtain ⟨z, hz, mz⟩ := at_mem (xs := ["SUM", "COUNT", "AVG", "MIN", "MAX", "AND", "OR", "JOIN"].map fun f => D.str (Str.ofString f)) r1.1 (by simpa using r1.2)
  obtain ⟨f, hf, rfl⟩ := mem_str mz
  have hf2 : f ∈ FUNS := (by decide +kernel : ∀ f ∈ (["SUM", "COUNT", "AVG", "MIN", "MAX", "AND", "OR", "JOIN"] : List String), f ∈ FUNS) f hf
  simp at hz
  simp [hz]
  refine W.tk d2 (by decide) fun s M3 d3 _ s1 => ?_
  have s1 := s1 (by decide)
  obtain ⟨y, hy, my⟩ := at_mem (xs := [D.int 1, .int 1, .int 2, .int 2, .int 3, .int 8]) s1.1 (by simpa using s1.2)
  have : ∃ C : Int, y = .int C ∧ 1 ≤ C ∧ C ≤ 8 := by
    simp only [List.mem_cons, List.not_mem_nil, or_false] at my
    rcases my with rfl | rfl | rfl | rfl | rfl | rfl <;> exact ⟨_, rfl, by decide, by decide⟩
  obtain ⟨C, rfl, c1, c8⟩ := this
  have hr : rngOk C = true := by unfold rngOk; simp; omega
  have hli : (DL.intsFrom 0 C.toNat).length = C.toNat := by unfold DL.intsFrom; simp
  obtain ⟨ts, M4, e4, d4, ht, hln⟩ := comp_draw hW (some (.p (.int q))) (some (.p (.str (Str.ofString f)))) (DL.intsFrom 0 C.toNat) (by rw [hli]; omega) M3 d3
  rw [hli] at hln
  have r := fin f ts M4 d4 hf2 (by omega) ht
  generalize Tr.vals ts = vs at *
  simp [hy, hr, e4]
  exact r
end
theorem call_0 (W : Dw sv m Iv) (j n : Nat) (hT : TR sv Iv j n) (hW : WI sv Iv j n) : CA sv Iv (j + 1) n := by
  intro M P h k
  rw [m_l_call_succ]
  have fin : FN Iv (fun t => t.gd ∧ t.ht ≤ n) M.length P := fun f as M' d hf hc ha => by
    have e : dropM M.length (.p (.tup [.str (Str.ofString "call"), .str (Str.ofString f), .lst (Tr.vals as)])) M' = M' := W.drop h d _
    rw [e]
    exact k (.call (Str.ofString f) as) M' d ⟨fn_ok f hf, hc, gds_of as fun t ht => (ha t ht).1⟩ (by have := hts_le as fun t ht => (ha t ht).2; simp only [Tr.ht]; omega)
  have hT' : GT sv Iv (m_l_tree j) (n : Int) (fun t => t.gd ∧ t.ht ≤ n) := fun M P d k => hT M P d fun t M' d g hh => k t M' d ⟨g, hh⟩
  have hW' : GT sv Iv (m_l_wide j) (n : Int) (fun t => t.gd ∧ t.ht ≤ n) := fun M P d k => hW M P d fun t M' d g hh => k t M' d ⟨g, hh⟩
  have nx := fun q M1 d1 => st_1 (gC := m_l_call j) (N := (n : Int)) (q := q) (M1 := M1) W d1 hT' hW' (fun t g h => ⟨g, by omega⟩) fin
  simp [b_l_call, take_eq]
  refine W.tk h (by decide) fun q M1 d1 _ q1 => ?_
  exact nx q M1 d1
theorem sub_j (j : Nat) (h : 1 ≤ j) : ∃ i, j = i + 1 := ⟨j - 1, by omega⟩
theorem tree_all (W : Dw sv m Iv) : ∀ (n j : Nat), 3 * n + 1 ≤ j → TR sv Iv j n
  | 0, j, h => by
    obtain ⟨j, rfl⟩ := sub_j j (by omega)
    exact tree_0 W j 0 (.inl rfl)
  | n + 1, j, h => by
    obtain ⟨j, rfl⟩ := sub_j j (by omega)
    refine tree_0 W j (n + 1) (.inr ⟨tree_all W n j (by omega), ?_⟩)
    obtain ⟨j, rfl⟩ := sub_j j (by omega)
    refine call_0 W j n (tree_all W n j (by omega)) ?_
    obtain ⟨j, rfl⟩ := sub_j j (by omega)
    exact wide_0 W j n (tree_all W n j (by omega))
end
end Law
namespace Law
open PySem L2 DL
/-! ### the law's stages -/
theorem ok_list {n : Nat} : ∀ {ds : List D}, (∀ d ∈ ds, okD d = true ∧ depD d ≤ n) → okDs ds = true ∧ depDs ds ≤ n
  | [], _ => ⟨rfl, Nat.zero_le _⟩
  | d :: ds, h => by
    have a := h d (by simp)
    have b := ok_list (ds := ds) fun x hx => h x (by simp [hx])
    exact ⟨by rw [e_ok1, a.1, b.1]; rfl, by rw [e_dp1]; exact Nat.max_le.mpr ⟨a.2, b.2⟩⟩
theorem vs_ok (ts : List Tr) (n : Nat) (h : ∀ t ∈ ts, t.sm ∧ t.ht ≤ n) : okD (.lst (ts.map Tr.val)) = true ∧ depD (.lst (ts.map Tr.val)) ≤ 2 * n + 4 := by
  have a := ok_list (n := 2 * n + 3) (ds := ts.map Tr.val) fun d hd => by
    obtain ⟨t, ht, rfl⟩ := List.mem_map.mp hd
    have b := val_ok t (h t ht).1
    have c := (h t ht).2
    exact ⟨b.1, by omega⟩
  exact ⟨a.1, Nat.succ_le_succ a.2⟩
mutual
theorem calls_sm : ∀ t : Tr, t.sm → ∀ u ∈ calls t, u.sm ∧ u.ht ≤ t.ht
  | .atom _ _, _, u, hu => by cases hu
  | .ref .., _, u, hu => by cases hu
  | .rng .., _, u, hu => by cases hu
  | .neg t, h, u, hu => by
    rw [calls, List.append_nil] at hu
    have a := calls_sm t h u hu
    exact ⟨a.1, by simp only [Tr.ht]; omega⟩
  | .call f as, h, u, hu => by
    rw [calls] at hu
    rcases List.mem_cons.mp hu with rfl | hu
    · exact ⟨h, Nat.le_refl _⟩
    · have a := callsL_sm as h.2.2 u hu
      exact ⟨a.1, by simp only [Tr.ht]; omega⟩
  | .bin o l r, h, u, hu => by
    rw [calls, List.append_nil] at hu
    rcases List.mem_append.mp hu with hu | hu
    · have a := calls_sm l h.1 u hu
      exact ⟨a.1, by simp only [Tr.ht]; omega⟩
    · have a := calls_sm r h.2 u hu
      exact ⟨a.1, by simp only [Tr.ht]; omega⟩
theorem callsL_sm : ∀ l : List Tr, Tr.sms l → ∀ u ∈ callsL l, u.sm ∧ u.ht ≤ Tr.hts l
  | [], _, u, hu => by cases hu
  | t :: r, h, u, hu => by
    rw [callsL] at hu
    rcases List.mem_append.mp hu with hu | hu
    · have a := calls_sm t h.1 u hu
      exact ⟨a.1, by simp only [Tr.hts]; omega⟩
    · have a := callsL_sm r h.2 u hu
      exact ⟨a.1, by simp only [Tr.hts]; omega⟩
end
mutual
theorem calls_len : ∀ t : Tr, (calls t).length ≤ nsz t
  | .atom _ _ | .ref .. | .rng .. => Nat.zero_le _
  | .neg t => by
    have a := calls_len t
    simp only [calls, nsz, List.append_nil]; omega
  | .call f as => by
    have a := callsL_len as
    simp only [calls, nsz, List.length_cons]; omega
  | .bin o l r => by
    have a := calls_len l
    have b := calls_len r
    simp only [calls, nsz, List.append_nil, List.length_append]; omega
theorem callsL_len : ∀ l : List Tr, (callsL l).length ≤ nszL l
  | [] => Nat.zero_le _
  | t :: r => by
    have a := calls_len t
    have b := callsL_len r
    simp only [callsL, nszL, List.length_append]; omega
end
theorem condA_run (fP fC : List DV → List O → Option (Rs DV)) (fI fL : MA) (l : List (Option DV)) (M : List O) (V : D) (E R : List D) (h2 : gv l 2 = some (.p V))
    (hP : fP [.p V] M = some (.ok (.p (.lst E)) M)) (hI : fI [V] = some (.ok (.lst E))) (hE : eqD (.lst E) (.lst E) = some true) (hn : E.length ≤ 1000000)
    (hC : fC [.p V] M = some (.ok (.o M.length) (M ++ [.lst (R.map .p), .lst []]))) (hL : fL [V] = some (.ok (.lst R))) (hR : eqD (.lst R) (.lst R) = some true) :
    mOr (mBin dNe (mCB (g1 dList) (aCons (mCallB 1 fP (aCons (mVar 2) aNil)) aNil)) (mCallA 1 fI (aCons (mVar 2) aNil))) (mBin dNe (mFrz (mCallB 1 fC (aCons (mVar 2) aNil))) (mCallA 1 fL (aCons (mVar 2) aNil))) ⟨l, M⟩ = some (.ok (.p (.bl false)) (M ++ [.gone, .lst []])) := by
  have hl : dList (.lst E) = some (.lst E) := by simp [dList, hn]
  have g0 : (M ++ [O.lst (R.map .p), O.lst []])[M.length]? = some (O.lst (R.map .p)) := g2_0 _ _ _
  have s0 : (M ++ [O.lst (R.map .p), O.lst []]).set M.length .gone = M ++ [.gone, .lst []] := s2_0 _ _ _ _
  have aP : allP (R.map DV.p) = some R := by simp
  generalize R.map DV.p = RR at *
  simp [e_bnd, h2, hP, hI, hE, hl, hC, hL, hR, g0, s0, aP]
theorem clear_run (fC : List DV → List O → Option (Rs DV)) (l : List (Option DV)) (M : List O) (V : D) (R : List D) (h2 : gv l 2 = some (.p V))
    (hC : fC [.p V] M = some (.ok (.o M.length) (M ++ [.lst (R.map .p), .lst []]))) : sExpr (mMth0 "list" gClear (mCallB 1 fC (aCons (mVar 2) aNil))) ⟨l, M⟩ = some (.nx, ⟨l, M ++ [.lst [], .lst []]⟩) := by
  have g0 : (M ++ [O.lst (R.map .p), O.lst []])[M.length]? = some (O.lst (R.map .p)) := g2_0 _ _ _
  have s0 : (M ++ [O.lst (R.map .p), O.lst []]).set M.length (.lst []) = M ++ [.lst [], .lst []] := s2_0 _ _ _ _
  generalize R.map DV.p = RR at *
  simp [e_bnd, e_lift, sExpr, mMth0, h2, hC, g0, s0, tyOk]
/-! ### one turn -/
noncomputable abbrev byE : EM := (mIx (disp .lst (aCons (disp .tup (aCons (mC (.int 1)) (aCons (mC (.int 2)) aNil))) (aCons (disp .tup (aCons (mC (.int 0)) (aCons (mC (.int 0)) aNil))) (aCons (disp .tup (aCons (mUn dNeg (mC (.int 1))) (aCons (mC (.int 0)) aNil))) (aCons (disp .tup (aCons (mC (.int 0)) (aCons (mC (.int 97)) aNil))) (aCons (disp .tup (aCons (mC (.int 23)) (aCons (mC (.int 0)) aNil))) (aCons (disp .tup (aCons (mC (.int 25)) (aCons (mC (.int 98)) aNil))) (aCons (disp .tup (aCons (mBin dSub (mCallB 2 m_l_take (aCons (mVar 1) (aCons (mC (.int 30)) aNil))) (mC (.int 5))) (aCons (mBin dSub (mCallB 2 m_l_take (aCons (mVar 1) (aCons (mC (.int 110)) aNil))) (mC (.int 10))) aNil))) aNil)))))))) (mCallB 2 m_l_take (aCons (mVar 1) (aCons (mC (.int 7)) aNil))))
theorem by_run {m : Nat} {sv : DV} {Iv : List O → Prop} (W : Dw sv m Iv) (l : List (Option DV)) (M : List O) (h1 : gv l 1 = some sv) (h : Iv M) : wpB (byE ⟨l, M⟩) fun d M' => ∃ x y, d = .p (ad x y) ∧ Iv M' := by
  have n1 : dNeg (.int 1) = some (.int (-1)) := rfl
  unfold byE
  simp [take_eq, h1, n1]
  refine W.tk h (by decide) fun r M1 d1 _ r1 => ?_
  simp [h1]
  refine W.tk d1 (by decide) fun r2 M2 d2 _ r2' => ?_
  simp [h1]
  refine W.tk d2 (by decide) fun q M3 d3 _ q1 => ?_
  have q1 := q1 (by decide)
  obtain ⟨z, hz, mz⟩ := at_mem (xs := [(1, 2), (0, 0), (-1, 0), (0, 97), (23, 0), (25, 98), (r - 5, r2 - 10)].map adP) q1.1 (by simpa using q1.2)
  have hz' := hz
  simp only [List.map_cons, List.map_nil, adP, ad] at hz'
  simp [hz']
  obtain ⟨p, hp, rfl⟩ := List.mem_map.mp mz
  exact ⟨⟨p.1, p.2, rfl⟩, d3⟩
noncomputable abbrev outB : SM := (sIf (mOr (mBin dLt (mVar 7) (mC (.int 0))) (mOr (mBin dGt (mVar 7) (mC (.int 25))) (mOr (mBin dLt (mVar 8) (mC (.int 0))) (mBin dGt (mVar 8) (mC (.int 98)))))) (sSeq (sAsg (mC .non) (gN 6)) sBrk) sNil)
noncomputable abbrev outG : GM := gT 2 (gsCons (gN 7) (gsCons (gN 8) gsNil))
theorem out_loop (x0 x1 x2 x3 x4 x5 x9 : Option DV) (d6 : DV) (M : List O) : ∀ (ps : List (Int × Int)) (x7 x8 : Option DV), ∃ y7 y8, loopS outG outB ((ps.map adP).map .p) ⟨[x0, x1, x2, x3, x4, x5, some d6, x7, x8, x9], M⟩ = some (.nx, ⟨[x0, x1, x2, x3, x4, x5, some (if ps.all inP = true then d6 else .p .non), y7, y8, x9], M⟩)
  | [], x7, x8 => ⟨x7, x8, rfl⟩
  | (c, r) :: ps, x7, x8 => by
    obtain ⟨y7, y8, ih⟩ := out_loop x0 x1 x2 x3 x4 x5 x9 d6 M ps (some (.p (.int c))) (some (.p (.int r)))
    have hb : ∀ b : Bool, (decide (c < 0) || (decide (25 < c) || (decide (r < 0) || decide (98 < r)))) = b → outB ⟨[x0, x1, x2, x3, x4, x5, some d6, some (.p (.int c)), some (.p (.int r)), x9], M⟩ = if b = true then some (.bk, ⟨[x0, x1, x2, x3, x4, x5, some (.p .non), some (.p (.int c)), some (.p (.int r)), x9], M⟩) else some (.nx, ⟨[x0, x1, x2, x3, x4, x5, some d6, some (.p (.int c)), some (.p (.int r)), x9], M⟩) := by
      intro b e
      subst e
      by_cases q1 : c < 0 <;> by_cases q2 : 25 < c <;> by_cases q3 : r < 0 <;> by_cases q4 : 98 < r <;> simp [e_seq, e_lift, e_bnd, q1, q2, q3, q4, sBrk]
    have hi : inP (c, r) = !(decide (c < 0) || (decide (25 < c) || (decide (r < 0) || decide (98 < r)))) := by
      unfold inP inS
      rw [Bool.eq_iff_iff]
      simp
      try omega
    have hg : outG (.p (adP (c, r))) ⟨[x0, x1, x2, x3, x4, x5, some d6, x7, x8, x9], M⟩ = some ⟨[x0, x1, x2, x3, x4, x5, some d6, some (.p (.int c)), some (.p (.int r)), x9], M⟩ := rfl
    rw [List.map_cons, List.map_cons, loopS_cons, hg, List.all_cons, hi]
    dsimp only
    rw [hb _ rfl]
    cases q : (decide (c < 0) || (decide (25 < c) || (decide (r < 0) || decide (98 < r)))) with
    | true => exact ⟨_, _, rfl⟩
    | false =>
      refine ⟨y7, y8, ?_⟩
      simp only [Bool.not_false, Bool.true_and]
      exact ih
end Law
namespace Law
open PySem L2 DL
noncomputable abbrev turn (fM : List DV → List O → Option (Rs DV)) (fS fQ : MA) : SM := (sSeq (sAsg byE (gN 5))
  (sSeq (sAsg (mCallA 2 fS (aCons (mVar 2) (aCons (mVar 5) aNil))) (gN 6))
  (sSeq (sFor (mItD itL (mCallA 1 fQ (aCons (mVar 6) aNil))) outG outB)
  (sSeq (sAsg (mCallB 2 fM (aCons (mVar 2) (aCons (mVar 5) aNil))) (gN 9))
  (sIf (mOr (mBin dNe (mVar 9) (mVar 6)) (mAnd (mNotN (mVar 9)) (mBin dNe (mCallB 2 fM (aCons (mVar 9) (aCons (disp .tup (aCons (mUn dNeg (mIx (mVar 5) (mC (.int 0)))) (aCons (mUn dNeg (mIx (mVar 5) (mC (.int 1)))) aNil))) aNil))) (mVar 2)))) (sRet (mC (.bl false))) sNil)))))
theorem callB2r (f : List DV → List O → Option (Rs DV)) (i j : Nat) (l : List (Option DV)) (M : List O) (x y d : D) (h1 : gv l i = some (.p x)) (h2 : gv l j = some (.p y)) (e : f [.p x, .p y] M = some (.ok (.p d) M)) : mCallB 2 f (aCons (mVar i) (aCons (mVar j) aNil)) ⟨l, M⟩ = some (.ok (.p d) M) := by
  simp [e_bnd, h1, h2, e]
theorem cond_no (fM : List DV → List O → Option (Rs DV)) (l : List (Option DV)) (M : List O) (h6 : gv l 6 = some (.p .non)) (h9 : gv l 9 = some (.p .non)) :
    mOr (mBin dNe (mVar 9) (mVar 6)) (mAnd (mNotN (mVar 9)) (mBin dNe (mCallB 2 fM (aCons (mVar 9) (aCons (disp .tup (aCons (mUn dNeg (mIx (mVar 5) (mC (.int 0)))) (aCons (mUn dNeg (mIx (mVar 5) (mC (.int 1)))) aNil))) aNil))) (mVar 2))) ⟨l, M⟩ = some (.ok (.p (.bl false)) M) := by
  have e : eqD .non .non = some true := eqD_refl rfl (by decide)
  simp [e_bnd, h6, h9, e]
theorem cond_yes (fM : List DV → List O → Option (Rs DV)) (l : List (Option DV)) (M : List O) (x y : Int) (U : List D) (V : D) (h6 : gv l 6 = some (.p (.tup U))) (h9 : gv l 9 = some (.p (.tup U))) (h5 : gv l 5 = some (.p (ad x y))) (h2 : gv l 2 = some (.p V))
    (e1 : eqD (.tup U) (.tup U) = some true) (e2 : eqD V V = some true) (hM : fM [.p (.tup U), .p (ad (-x) (-y))] M = some (.ok (.p V) M)) :
    mOr (mBin dNe (mVar 9) (mVar 6)) (mAnd (mNotN (mVar 9)) (mBin dNe (mCallB 2 fM (aCons (mVar 9) (aCons (disp .tup (aCons (mUn dNeg (mIx (mVar 5) (mC (.int 0)))) (aCons (mUn dNeg (mIx (mVar 5) (mC (.int 1)))) aNil))) aNil))) (mVar 2))) ⟨l, M⟩ = some (.ok (.p (.bl false)) M) := by
  have hM : fM [.p (.tup U), .p (.tup [.int (-x), .int (-y)])] M = some (.ok (.p V) M) := hM
  have n1 : ∀ z : Int, dNeg (.int z) = some (.int (-z)) := fun z => rfl
  unfold ad at h5
  simp [e_bnd, h6, h9, h5, h2, e1, e2, hM, n1, atI0, atI1]
theorem turn_ok {m : Nat} {sv : DV} {Iv : List O → Prop} (W : Dw sv m Iv) (fM : List DV → List O → Option (Rs DV)) (fS fQ : MA) (t : Tr) (hg : t.gd) (hh : t.ht ≤ 4)
    (hM : ∀ (M : List O) (t : Tr) (x y : Int), Iv M → t.sm → t.ht ≤ 4 → fM [.p t.val, .p (ad x y)] M = some (.ok (.p (oE (rb (gM x y) t))) M))
    (hS : ∀ (t : Tr) (x y : Int), t.sm → t.ht ≤ 4 → fS [t.val, ad x y] = some (.ok (sh x y t).val))
    (hQ : ∀ (t : Tr), t.sm → t.ht ≤ 4 → (spots t).length ≤ 1000000 → fQ [t.val] = some (.ok (.lst ((spots t).map adP))))
    (s0 s3 s4 s5 s6 s7 s8 s9 : Option DV) (M : List O) (h : Iv M) (P : Fl → S → Prop)
    (k : ∀ M' t5 t6 t7 t8 t9, Iv M' → P .nx ⟨[s0, some sv, some (.p t.val), s3, s4, t5, t6, t7, t8, t9], M'⟩) :
    wpS (turn fM fS fQ ⟨[s0, some sv, some (.p t.val), s3, s4, s5, s6, s7, s8, s9], M⟩) P := by
  have hs := gd_sm t hg
  have hz := (gd_nw t hg).2
  have hn : NW t.ht ≤ 1000000 := Nat.le_trans (NW_mono hh) (by decide)
  unfold turn
  refine w_asgT _ 5 _ _ _ ((by_run W _ M rfl h).imp fun d M1 hd => ?_)
  obtain ⟨x, y, rfl, h1⟩ := hd
  have a := sh_sm x y t hs.1
  refine w_asgE _ 6 _ _ _ _ _ (callA2 fS 2 5 _ M1 t.val (ad x y) (sh x y t).val rfl rfl (hS t x y hs.1 hh)) ?_
  have q := hQ (sh x y t) a.1 (by omega) (by rw [a.2.2]; omega)
  obtain ⟨y7, y8, lp⟩ := out_loop s0 (some sv) (some (.p t.val)) s3 s4 (some (.p (ad x y))) s9 (.p (sh x y t).val) M1 (spots (sh x y t)) s7 s8
  refine w_forE _ outG outB _ _ _ _ _ (callA1 fQ 6 _ M1 (sh x y t).val _ rfl q) lp ?_
  refine w_asgE _ 9 _ _ _ _ _ (callB2r fM 2 5 _ M1 t.val (ad x y) _ rfl rfl (hM M1 t x y h1 hs.1 hh)) ?_
  have e := rb_sh x y t
  by_cases c : (spots (sh x y t)).all inP = true
  · rw [if_pos c] at e
    rw [e, if_pos c]
    obtain ⟨su, lu, hu⟩ := val_tup (sh x y t)
    have b1 := val_ok (sh x y t) a.1
    have b2 := val_ok t hs.1
    have back := hM M1 (sh x y t) (-x) (-y) h1 a.1 (by omega)
    rw [rb_sh, sh_back, if_pos hs.2] at back
    have e1 := eqD_refl b1.1 (by omega)
    have e2 := eqD_refl b2.1 (by omega)
    have back : fM [.p (sh x y t).val, .p (ad (-x) (-y))] M1 = some (.ok (.p t.val) M1) := back
    show wpS ((_ : SM) ⟨[s0, some sv, some (.p t.val), s3, s4, some (.p (ad x y)), some (.p (sh x y t).val), y7, y8, some (.p (sh x y t).val)], M1⟩) P
    rw [hu] at back e1 ⊢
    refine w_ifZ _ _ _ M1 P (cond_yes fM _ M1 x y _ t.val rfl rfl rfl rfl e1 e2 back) ?_
    exact k M1 _ _ _ _ _ h1
  · rw [if_neg c] at e
    rw [e, if_neg c]
    refine w_ifZ _ _ _ M1 P (cond_no fM _ M1 rfl rfl) ?_
    exact k M1 _ _ _ _ _ h1
end Law
namespace Law
open PySem L2 DL
theorem tbl_db {Ts : List O} {n : Nat} {sv : DV} {R M : List O} (h : Dbx Ts n sv R M) {i : Nat} {P : Addr} {q : Str} (hi : Ts[i]? = some (.tbl P q)) : tblAt M i P q = true := by
  have hl := (List.getElem?_eq_some_iff.mp hi).1
  obtain ⟨B, rfl, hB⟩ := h
  have e : (B ++ R)[i]? = some (.tbl P q) := by
    have := hB.le
    rw [List.getElem?_append_left (by rw [hB.len]; omega), hB.tb i hl, hi]
  unfold tblAt
  rw [e]
  simp
theorem w_seqE (a K : SM) (s s1 : S) (P : Fl → S → Prop) (h : a s = some (.nx, s1)) (h2 : wpS (K s1) P) : wpS (sSeq a K s) P := by
  rw [seq_nx _ _ _ _ h]; exact h2
theorem last_run (V z : D) (l : List (Option DV)) (M : List O) (h2 : gv l 2 = some (.p V)) (h3 : gv l 3 = some (.p z)) (e : dRepr V = some z) (e2 : eqD z z = some true) : mBin dEq (mCB (g1 dRepr) (aCons (mVar 2) aNil)) (mVar 3) ⟨l, M⟩ = some (.ok (.p (.bl true)) M) := by
  simp [e_bnd, h2, h3, e, e2]
theorem repr_run (V z : D) (l : List (Option DV)) (M : List O) (h2 : gv l 2 = some (.p V)) (e : dRepr V = some z) : mCB (g1 dRepr) (aCons (mVar 2) aNil) ⟨l, M⟩ = some (.ok (.p z) M) := by
  simp [e_bnd, h2, e]
theorem law_ok (Ps : List Addr) (ns : List Int) (hp : Ps.length = lamNms.length) (hl : ns.length ≤ 63) (hb : ∀ z ∈ ns, Builtin.Int.intBits z ≤ 1048576) : ∃ s, b_law Ps ⟨slotsOf 10 ([D.scr (ns.map .int)].map .p), tbls Ps lamNms⟩ = some (.rt (.p (.bl true)), s) := by
  obtain ⟨P0, P1, rfl⟩ : ∃ P0 P1, Ps = [P0, P1] := by
    match Ps, hp with
    | [P0, P1], _ => exact ⟨P0, P1, rfl⟩
  have ht : tbls [P0, P1] lamNms = [.tbl P0 (lamq (PySem.Str.ofString "_copied")), .tbl P1 (lamq (PySem.Str.ofString "moved"))] := rfl
  rw [ht]
  generalize hTs : [O.tbl P0 (lamq (PySem.Str.ofString "_copied")), .tbl P1 (lamq (PySem.Str.ofString "moved"))] = Ts
  have t0 : Ts[0]? = some (.tbl P0 (lamq (PySem.Str.ofString "_copied"))) := by rw [← hTs]; rfl
  have t1 : Ts[1]? = some (.tbl P1 (lamq (PySem.Str.ofString "moved"))) := by rw [← hTs]; rfl
  obtain ⟨n, sv, B0, e0, d0⟩ := state_Ts Ts (fun o ho => by
    rw [← hTs] at ho
    simp only [List.mem_cons, List.not_mem_nil, or_false] at ho
    rcases ho with rfl | rfl <;> exact ⟨_, _, rfl⟩) ns hl
  have hw : wpS (b_law [P0, P1] ⟨slotsOf 10 ([D.scr (ns.map .int)].map .p), Ts⟩) (fun f s => f = .rt (.p (.bl true))) := by
    have hs : slotsOf 10 ([D.scr (ns.map .int)].map .p) = [some (.p (.scr (ns.map .int))), none, none, none, none, none, none, none, none, none] := rfl
    rw [hs]
    unfold b_law
    refine w_asgT _ 1 _ _ _ (w_call1 m_l_state 0 _ _ (.p (.scr (ns.map .int))) _ rfl ⟨_, _, e0, ?_⟩)
    unfold b_law_1
    refine w_asgT _ 2 _ _ _ ?_
    have st : wpB (mCallB 2 (m_l_tree 60) (aCons (mVar 1) (aCons (mBin dAdd (mC (.int 1)) (mCallB 2 m_l_take (aCons (mVar 1) (aCons (mC (.int 4)) aNil)))) aNil)) ⟨[some (.p (.scr (ns.map .int))), some sv, none, none, none, none, none, none, none, none], B0⟩) (fun d M => ∃ t : Tr, d = .p t.val ∧ t.gd ∧ t.ht ≤ 4 ∧ Db Ts n sv M) := by
      generalize hG : m_l_tree 60 = G
      simp [take_eq]
      refine (Dw.db Ts n sv).tk d0 (by decide) fun r B1 d1 _ b1 => ?_
      have b1 := b1 (by decide)
      obtain ⟨k, hk⟩ : ∃ k : Nat, 1 + r = (k : Int) := ⟨(1 + r).toNat, by omega⟩
      simp [hk]
      rw [← hG]
      refine tree_all (Dw.db Ts n sv) k 60 (by omega) B1 _ d1 fun t M' d' g hh => ⟨t, rfl, g, by omega, d'⟩
    refine st.imp fun d B1 hd => ?_
    obtain ⟨t, rfl, hg, hh, d1⟩ := hd
    have d1 := Dbx.of d1
    have hs := gd_sm t hg
    have nw := gd_nw t hg
    have hn : NW t.ht ≤ 800000 := Nat.le_trans (NW_mono hh) (by decide)
    have vo := val_ok t hs.1
    have hz := (gd_Sm t hg).repr (by omega) (Nat.le_trans (RW_mono hh) (by decide))
    have hzz : eqD (.str (reprD t.val)) (.str (reprD t.val)) = some true := by rw [e_eqSS]; simp
    generalize (D.str (reprD t.val)) = z at hz hzz
    unfold b_law_2
    refine w_asgE _ 3 _ _ _ _ _ (repr_run t.val z _ B1 rfl hz) ?_
    unfold b_law_3
    have cl := calls_len t
    have m0 : ∀ {R M : List O}, Dbx Ts n sv R M → tblAt M 0 ([P0, P1].getD 0 0) (lamq (PySem.Str.ofString "_copied")) = true := fun h => tbl_db h t0
    have m1 : ∀ {R M : List O}, Dbx Ts n sv R M → tblAt M 1 ([P0, P1].getD 1 0) (lamq (PySem.Str.ofString "moved")) = true := fun h => tbl_db h t1
    have iE := vs_ok (inn t) t.ht fun u hu => inn_sm hs.1 u hu
    have cE := vs_ok (calls t) t.ht fun u hu => calls_sm t hs.1 u hu
    refine w_ifE _ _ _ _ _ _ (condA_run (m_parts_of [P0, P1]) (m_calls_of [P0, P1]) m_l_inside (m_l_calls 60) _ B1 t.val ((inn t).map Tr.val) ((calls t).map Tr.val) rfl (parts_spec _ _ t hs.1 (by omega) (m0 d1)) (inner_spec t hs.1).2 (eqD_refl iE.1 (by omega)) (by rw [List.length_map]; exact inn_len hs.1)
      (callsof_spec _ _ t hs.1 (by omega) (by omega) (m0 d1)) (calls_spec 60 t hs.1 (by omega) (by omega)) (eqD_refl cE.1 (by omega))) ?_
    have d2 := Dbx.app d1 [.gone, .lst []]
    rw [List.nil_append] at d2
    generalize B1 ++ [O.gone, .lst []] = B2 at d2 ⊢
    unfold b_law_4
    have cr := clear_run (m_calls_of [P0, P1]) [some (.p (.scr (ns.map .int))), some sv, some (.p t.val), some (.p z), none, none, none, none, none, none] B2 t.val ((calls t).map Tr.val) rfl (callsof_spec _ _ t hs.1 (by omega) (by omega) (m0 d2))
    refine w_seqE _ _ _ _ _ cr ?_
    have d3 := Dbx.app d2 [.lst [], .lst []]
    generalize [O.gone, O.lst []] ++ [.lst [], .lst []] = R3 at d3
    generalize B2 ++ [O.lst [], O.lst []] = B3 at d3 ⊢
    have W := Dw.dbx Ts n sv R3
    have lp := w_loopN (g := gN 4) (b := turn (m_moved [P0, P1]) (m_l_shifted 60) (m_l_spots 60)) (R := fun _ _ => False) (Inv := fun _ s => ∃ B s4 s5 s6 s7 s8 s9, Dbx Ts n sv R3 B ∧ s = ⟨[some (.p (.scr (ns.map .int))), some sv, some (.p t.val), some (.p z), s4, s5, s6, s7, s8, s9], B⟩) (DL.intsFrom 0 3) 0 ⟨[some (.p (.scr (ns.map .int))), some sv, some (.p t.val), some (.p z), none, none, none, none, none, none], B3⟩
      ⟨B3, none, none, none, none, none, none, d3, rfl⟩ (by
      rintro d hd _ _ _ s ⟨B, s4, s5, s6, s7, s8, s9, hB, rfl⟩
      refine ⟨⟨[some (.p (.scr (ns.map .int))), some sv, some (.p t.val), some (.p z), some d, s5, s6, s7, s8, s9], B⟩, rfl, ?_⟩
      refine turn_ok W _ _ _ t hg hh (fun M u x y hI us uh => moved_spec _ M u x y us (by omega) (m1 hI)) (fun u x y us uh => shifted_spec x y 60 u us (by omega)) (fun u us uh ul => spots_spec 60 u us (by omega) ul) _ _ _ _ _ _ _ _ B hB _ fun B' t5 t6 t7 t8 t9 hB' => .inl ⟨rfl, B', _, t5, t6, t7, t8, t9, hB', rfl⟩)
    obtain ⟨f, s, e, nn, hs⟩ := lp
    rcases hs with ⟨rfl, B, s4, s5, s6, s7, s8, s9, hB, rfl⟩ | ⟨_, _, hf⟩
    · unfold b_law_5
      refine w_forE _ (gN 4) (turn (m_moved [P0, P1]) (m_l_shifted 60) (m_l_spots 60)) _ _ _ _ _ rfl e ?_
      unfold b_law_6
      have er := last_run t.val z [some (.p (.scr (ns.map .int))), some sv, some (.p t.val), some (.p z), s4, s5, s6, s7, s8, s9] B rfl rfl hz hzz
      rw [e_sret, e_lift, er]
      exact ⟨_, _, rfl, rfl, rfl⟩
    · exact False.elim hf
  obtain ⟨f, s, e, _, rfl⟩ := hw
  exact ⟨s, e⟩
end Law

open PySem PySem.W PyProof.Rows in
set_option maxRecDepth 100000 in
set_option maxHeartbeats 0 in
theorem PySem.Challenge.cw_labelgrid_k07_parts_calls_and_moves_holds : PySem.Challenge.rw_labelgrid_k07_parts_calls_and_moves.Holds := by
  w_on; o_law; k_head; (case hw => w_witness2)
  k_fill
  refine DL.walk_dlT (l := PySem.Challenge.rw_labelgrid_k07_parts_calls_and_moves) (k := 66) (x := "law") (qual := "law") (st := Law.s_law) (N := Law.n_law) (m := Law.b_law) (nms := Law.lamNms) rfl rfl ⟨rfl, by decide, by decide⟩ (fun w h Y => PySem.W.km_in_of Y) Law.sc_law ?F Law.law_ok
  case F =>
    intro w mg fa h Y KX G hmg
    have hT := PySem.W.km_tabs_of Y
    refine' Law.all_mk KX G hmg ?a0 ?l0 ?c0 ?k0 ?a1 ?l1 ?c1 ?k1 ?a2 ?l2 ?c2 ?k2 ?a3 ?l3 ?c3 ?k3 ?a4 ?l4 ?c4 ?k4 ?a5 ?l5 ?c5 ?k5 ?a6 ?l6 ?c6 ?k6 ?a7 ?l7 ?c7 ?k7 ?a8 ?l8 ?c8 ?k8 ?a9 ?l9 ?c9 ?k9 ?a10 ?l10 ?c10 ?k10 ?a11 ?l11 ?c11 ?k11 ?a12 ?l12 ?c12 ?k12 ?a13 ?l13 ?c13 ?k13 ?a14 ?l14 ?c14 ?k14 ?a15 ?l15 ?c15 ?k15 ?a16 ?l16 ?c16 ?k16 ?a17 ?l17 ?c17 ?k17 ?a18 ?l18 ?c18 ?k18 ?a19 ?l19 ?c19 ?k19 ?a20 ?l20 ?c20 ?k20 ?a21 ?l21 ?c21 ?k21 ?a22 ?l22 ?c22 ?k22 ?g_SHEET ?l_SHEET ?l_SHEET_0 ?l_SHEET_1 ?g_RANKS ?l_RANKS ?kl_RANKS ?i_RANKS_0 ?i_RANKS_1 ?i_RANKS_2 ?i_RANKS_3 ?i_RANKS_4 ?i_RANKS_5 ?i_RANKS_6 ?i_RANKS_7 ?i_RANKS_8 ?lo_RANKS ?mi_RANKS_0 ?mi_RANKS_1 ?mi_RANKS_2 ?mi_RANKS_3 ?mi_RANKS_4 ?mi_RANKS_5 ?mi_RANKS_6 ?mi_RANKS_7 ?z_abs ?z_int ?z_len ?z_list ?z_range ?z_repr ?z_tuple ?h17 ?u17 ?t17 ?h20 ?u20 ?t20 ?nd
    (case a0 => k_is)
    (case l0 => k_is)
    (case c0 => k_is)
    (case k0 => k_is)
    (case a1 => k_is)
    (case l1 => k_is)
    (case c1 => k_is)
    (case k1 => k_is)
    (case a2 => k_is)
    (case l2 => k_is)
    (case c2 => k_is)
    (case k2 => k_is)
    (case a3 => k_is)
    (case l3 => k_is)
    (case c3 => k_is)
    (case k3 => k_is)
    (case a4 => k_is)
    (case l4 => k_is)
    (case c4 => k_is)
    (case k4 => k_is)
    (case a5 => k_is)
    (case l5 => k_is)
    (case c5 => k_is)
    (case k5 => k_is)
    (case a6 => k_is)
    (case l6 => k_is)
    (case c6 => k_is)
    (case k6 => k_is)
    (case a7 => k_is)
    (case l7 => k_is)
    (case c7 => k_is)
    (case k7 => k_is)
    (case a8 => k_is)
    (case l8 => k_is)
    (case c8 => k_is)
    (case k8 => k_is)
    (case a9 => k_is)
    (case l9 => k_is)
    (case c9 => k_is)
    (case k9 => k_is)
    (case a10 => k_is)
    (case l10 => k_is)
    (case c10 => k_is)
    (case k10 => k_is)
    (case a11 => k_is)
    (case l11 => k_is)
    (case c11 => k_is)
    (case k11 => k_is)
    (case a12 => k_is)
    (case l12 => k_is)
    (case c12 => k_is)
    (case k12 => k_is)
    (case a13 => k_is)
    (case l13 => k_is)
    (case c13 => k_is)
    (case k13 => k_is)
    (case a14 => k_is)
    (case l14 => k_is)
    (case c14 => k_is)
    (case k14 => k_is)
    (case a15 => k_is)
    (case l15 => k_is)
    (case c15 => k_is)
    (case k15 => k_is)
    (case a16 => k_is)
    (case l16 => k_is)
    (case c16 => k_is)
    (case k16 => k_is)
    (case a17 => k_is)
    (case l17 => k_is)
    (case c17 => k_is)
    (case k17 => k_is)
    (case a18 => k_is)
    (case l18 => k_is)
    (case c18 => k_is)
    (case k18 => k_is)
    (case a19 => k_is)
    (case l19 => k_is)
    (case c19 => k_is)
    (case k19 => k_is)
    (case a20 => k_is)
    (case l20 => k_is)
    (case c20 => k_is)
    (case k20 => k_is)
    (case a21 => k_is)
    (case l21 => k_is)
    (case c21 => k_is)
    (case k21 => k_is)
    (case a22 => k_is)
    (case l22 => k_is)
    (case c22 => k_is)
    (case k22 => k_is)
    (case g_SHEET => k_is)
    (case l_SHEET => k_is)
    (case l_SHEET_0 => k_is)
    (case l_SHEET_1 => k_is)
    (case g_RANKS => k_is)
    (case l_RANKS => k_is)
    (case kl_RANKS => exact ⟨⟨_, _, rfl, rfl⟩, ⟨_, _, rfl, rfl⟩, ⟨_, _, rfl, rfl⟩, ⟨_, _, rfl, rfl⟩, ⟨_, _, rfl, rfl⟩, ⟨_, _, rfl, rfl⟩, ⟨_, _, rfl, rfl⟩, ⟨_, _, rfl, rfl⟩, ⟨_, _, rfl, rfl⟩, trivial⟩)
    (case i_RANKS_0 => k_is)
    (case i_RANKS_1 => k_is)
    (case i_RANKS_2 => k_is)
    (case i_RANKS_3 => k_is)
    (case i_RANKS_4 => k_is)
    (case i_RANKS_5 => k_is)
    (case i_RANKS_6 => k_is)
    (case i_RANKS_7 => k_is)
    (case i_RANKS_8 => k_is)
    (case lo_RANKS => first | rfl | decide | kernel_rfl)
    (case mi_RANKS_0 => k_is)
    (case mi_RANKS_1 => k_is)
    (case mi_RANKS_2 => k_is)
    (case mi_RANKS_3 => k_is)
    (case mi_RANKS_4 => k_is)
    (case mi_RANKS_5 => k_is)
    (case mi_RANKS_6 => k_is)
    (case mi_RANKS_7 => k_is)
    (case z_abs => k_is)
    (case z_int => k_is)
    (case z_len => k_is)
    (case z_list => k_is)
    (case z_range => k_is)
    (case z_repr => k_is)
    (case z_tuple => k_is)
    (case h17 => kernel_rfl)
    (case u17 => kernel_rfl)
    (case t17 => exact hT _ (List.contains_iff_mem.mp (by kernel_rfl)))
    (case h20 => kernel_rfl)
    (case u20 => kernel_rfl)
    (case t20 => exact hT _ (List.contains_iff_mem.mp (by kernel_rfl)))
    (case nd => exact DL.nodupB_ok (by kernel_rfl))

