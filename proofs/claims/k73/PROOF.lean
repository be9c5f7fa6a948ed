import PyProof.Rows.All
import Wide.All
import OpenK.AllK
import Wide.FinOn
import HandS.ForMost
import HandS.ForExc
import HandS.Lambda
import HandS.Nested
import HandS.EndTab
import HandS.Wide
import HandS.Comp
import HandS.IsInst
import HandS.EndBits
import HandS.Text
import HandS.StrMore
import HandS.FStr
import HandS.Replace
import HandS.Deep
import HandS.RaiseMore
import PyProof.StrOps2
import PyProof.Rows.StrPadFill
import PyProof.StrLawsTight
import PyProof.StrLawsChain
import PyProof.Rows.StrItems
import PyProof.Rows.StrCut
import PyProof.Rows.StrPadWhole
import KE.IntTextLaws
import PyProof.ReprRoads
import PyProof.ReprLen
import PyProof.Rows.StrReprFit
import HandS.Style
import PyProof.Rows.RuleB_bool
import PyProof.Rows.SeqMore
import HandS.Dict
import HandS.More
import KE.SortKeyHeap
import HandS.ExcValue
import HandS.SortKw
import KE.KDictSum
import KE.KDictCopyH
import HandS.Sort
import HandS.HeadWalk
import HandS.WideBits
import HandS.RevRange
import HandS.Iter
import HandS.Conv
import KE.SortData
import KE.IntBitsLaws
import KE.DataMinMax
import ObjForm.LawKit
import HandS.CallLocal
import HandS.CallSlots
import HandS.WrittenGet
import HandS.ReplaceLit
import HandS.Exc
import HandS.ExcInit
import HandS.ExcField
import HandS.ExcIs
import HandS.ExcBuiltin
import KE.KExcIs
import KE.KxMul
import PyProof.DictMoreH
import HandS.DictEq
import KE.KDictOf
import HandS.DictComp
import KE.KNestM
import PySem.Challenge.RW_labelgrid_k73_merging_two_books
set_option Elab.async false
set_option linter.all false
set_option autoImplicit false
set_option maxRecDepth 100000
set_option maxHeartbeats 4000000
namespace DL
open PySem L2
/-! data, values with objects of one's own, objects -/
/-- a lambda as it stands in the text; ix tells it apart from the others of its law -/
structure LamS where
  ix : Nat
  nm : Str
  params : Arguments
  body : Expr
  scope : Scope
  fr : List Str
def LamS.nf (L : LamS) (cl : List (Str × Addr)) (c : Addr) : NdefX.NF := ⟨"<lambda>", L.nm, L.params, [], L.scope, cl, c⟩
def LamO (f : Addr) (F : NdefX.NF) (body : Expr) : HO := .ext fun h => ∃ (od : Option Addr) (sl : Array (Option Value)) (pm ctv : Value), h.get? f = some (⟨.type "function", od, .func (PySem.W.kla_fn F.name F.qual F.params body F.scope F.cl pm (.ref F.c) ctv), sl⟩ : Obj)
def cellO (o : Obj) : HO := .frz o (.own 0)
/-- a closure stands at a: its captured cells are still, and hold vs -/
structure CloAt (Z : Hp) (L : LamS) (a c : Addr) (cl : List (Str × Addr)) (vs : List V) : Prop where
  fn : Z a = some (LamO a (L.nf cl c) L.body)
  code : Z c = some (LamX.CodeO c L.nm)
  all : ∀ (y : Str) (b : Addr), cl.lookup y = some b → ∃ o v, Z b = some (cellO o) ∧ o.data = .cell v
  inj : ∀ (x y : Str) (b : Addr), cl.lookup x = some b → cl.lookup y = some b → x = y
  len : vs.length = L.fr.length
  has : ∀ (i : Nat) (y : Str), L.fr[i]? = some y → ∃ b o v u, cl.lookup y = some b ∧ Z b = some (cellO o) ∧ o.data = .cell (some u) ∧ vs[i]? = some v ∧ RelV v u
theorem CloAt.mono {Z Z' : Hp} {L : LamS} {a c : Addr} {cl : List (Str × Addr)} {vs : List V} (h : CloAt Z L a c cl vs) (e : Same Z Z') : CloAt Z' L a c cl vs :=
  ⟨e _ _ h.fn, e _ _ h.code, fun y b q => (h.all y b q).imp fun o ⟨v, h1, h2⟩ => ⟨v, e _ _ h1, h2⟩, h.inj, h.len, fun i y q => by
    obtain ⟨b, o, v, u, h1, h2, h3, h4, h5⟩ := h.has i y q
    exact ⟨b, o, v, u, h1, e _ _ h2, h3, h4, h5⟩⟩
inductive D where
  | non | bl (b : Bool) | int (i : Int) | str (s : Str)
  | tup (xs : List D) | ktup (xs : List D) | lst (xs : List D) | klst (xs : List D) | dK (kvs : List (Key × D)) | dT (kvs : List (List Key × D)) | fn (a : Addr) | clo (L : LamS) (xs : List D) | scr (xs : List D) | ty (n : String) | rng (lo hi : Int)
inductive DV where
  | p (d : D) | o (n : Nat)
inductive O where
  | lst (xs : List DV) | dK (kvs : List (Key × DV)) | dT (kvs : List (List Key × DV)) | ins (C : Addr) (fs : List (Str × DV)) | tbl (P : Addr) (q : Str) | gone
inductive Rs (α : Type) where
  | ok (v : α) (M : List O) | ex (c : Addr) (fs : List (Str × D)) (M : List O)
structure S where
  l : List (Option DV)
  m : List O
mutual
inductive Rep (K : PySem.W.Frag) (Z : Hp) : V → D → Prop
  | non : Rep K Z .non .non
  | bl (b : Bool) : Rep K Z (.bl b) (.bl b)
  | int (i : Int) : Rep K Z (.int i) (.int i)
  | str (x : Str) : Rep K Z (.str x) (.str x)
  | lst {a : Addr} {xs : List V} {ds : List D} : Rd Z a (.lst xs) → RepA K Z xs ds → Rep K Z (.ref a) (.lst ds)
  | tup {a : Addr} {xs : List V} {ds : List D} : Z a = some (.tup xs) → RepA K Z xs ds → Rep K Z (.ref a) (.tup ds)
  | ktup {a : Addr} {xs : List V} {ds : List D} : SqT K Z a xs → RepA K Z xs ds → Rep K Z (.ref a) (.ktup ds)
  | klst {a : Addr} {xs : List V} {ds : List D} : SqL K Z a xs → RepA K Z xs ds → Rep K Z (.ref a) (.klst ds)
  | dK {a : Addr} {o : Obj} {ks : List (Key × V)} {ds : List (Key × D)} : Z a = some (.frz o (.dK ks)) → RepK K Z ks ds → Rep K Z (.ref a) (.dK ds)
  | dT {a : Addr} {o : Obj} {ks : List (List Key × V)} {ds : List (List Key × D)} : Z a = some (.frz o (.dT ks)) → RepT K Z ks ds → Rep K Z (.ref a) (.dT ds)
  | fn (a : Addr) : Rep K Z (.ref a) (.fn a)
  | clo {a c : Addr} {cl : List (Str × Addr)} {vs : List V} {L : LamS} {ds : List D} : CloAt Z L a c cl vs → RepA K Z vs ds → Rep K Z (.ref a) (.clo L ds)
  | ty (n : String) : Rep K Z (.ty n) (.ty n)
  | rng {a : Addr} {lo hi : Int} : Z a = some (.rng lo hi) → Rep K Z (.ref a) (.rng lo hi)
  | scr {a : Addr} {xs : List V} {ds : List D} : SqL K Z a xs → RepA K Z xs ds → Rep K Z (.ref a) (.scr ds)
inductive RepA (K : PySem.W.Frag) (Z : Hp) : List V → List D → Prop
  | nil : RepA K Z [] []
  | cons {v : V} {vs : List V} {d : D} {ds : List D} : Rep K Z v d → RepA K Z vs ds → RepA K Z (v :: vs) (d :: ds)
inductive RepK (K : PySem.W.Frag) (Z : Hp) : List (Key × V) → List (Key × D) → Prop
  | nil : RepK K Z [] []
  | cons {k : Key} {v : V} {vs : List (Key × V)} {d : D} {ds : List (Key × D)} : Rep K Z v d → RepK K Z vs ds → RepK K Z ((k, v) :: vs) ((k, d) :: ds)
inductive RepT (K : PySem.W.Frag) (Z : Hp) : List (List Key × V) → List (List Key × D) → Prop
  | nil : RepT K Z [] []
  | cons {k : List Key} {v : V} {vs : List (List Key × V)} {d : D} {ds : List (List Key × D)} : Rep K Z v d → RepT K Z vs ds → RepT K Z ((k, v) :: vs) ((k, d) :: ds)
end
theorem same_l {K : PySem.W.Frag} {H H' : Hp} {a : Addr} {xs : List V} (e : Same H H') (h : SqL K H a xs) : SqL K H' a xs := e.seq h
theorem same_rd {H H' : Hp} {a : Addr} {u : HO} (e : Same H H') (h : Rd H a u) : Rd H' a u := by
  rcases h with h | ⟨o, h⟩
  · exact .inl (e a _ h)
  · exact .inr ⟨o, e a _ h⟩
theorem sqt {K : PySem.W.Frag} {H H' : Hp} {a : Addr} {xs : List V} (e : Same H H') (h : H a = some (.tup xs)) : SqT K H' a xs := .inl (.inl (e a _ h))
theorem same_t {K : PySem.W.Frag} {H H' : Hp} {a : Addr} {xs : List V} (e : Same H H') (h : SqT K H a xs) : SqT K H' a xs := by
  rcases h with (h | ⟨o, h⟩) | h
  · exact .inl (.inl (e a _ h))
  · exact .inl (.inr ⟨o, e a _ h⟩)
  · exact .inr h
section
variable {K : PySem.W.Frag} {Z Z' H H' : Hp}
mutual
theorem Rep.mono (e : Same Z Z') : ∀ {v : V} {d : D}, Rep K Z v d → Rep K Z' v d
  | _, _, .non => .non
  | _, _, .bl b => .bl b
  | _, _, .int i => .int i
  | _, _, .str x => .str x
  | _, _, .lst h r => .lst (same_rd e h) (RepA.mono e r)
  | _, _, .tup h r => .tup (e _ _ h) (RepA.mono e r)
  | _, _, .ktup h r => .ktup (same_t e h) (RepA.mono e r)
  | _, _, .klst h r => .klst (same_l e h) (RepA.mono e r)
  | _, _, .dK h r => .dK (e _ _ h) (RepK.mono e r)
  | _, _, .dT h r => .dT (e _ _ h) (RepT.mono e r)
  | _, _, .fn a => .fn a
  | _, _, .clo h r => .clo (h.mono e) (RepA.mono e r)
  | _, _, .ty n => .ty n
  | _, _, .rng h => .rng (e _ _ h)
  | _, _, .scr h r => .scr (same_l e h) (RepA.mono e r)
theorem RepA.mono (e : Same Z Z') : ∀ {v : List V} {d : List D}, RepA K Z v d → RepA K Z' v d
  | _, _, .nil => .nil
  | _, _, .cons h r => .cons (Rep.mono e h) (RepA.mono e r)
theorem RepK.mono (e : Same Z Z') : ∀ {v : List (Key × V)} {d : List (Key × D)}, RepK K Z v d → RepK K Z' v d
  | _, _, .nil => .nil
  | _, _, .cons h r => .cons (Rep.mono e h) (RepK.mono e r)
theorem RepT.mono (e : Same Z Z') : ∀ {v : List (List Key × V)} {d : List (List Key × D)}, RepT K Z v d → RepT K Z' v d
  | _, _, .nil => .nil
  | _, _, .cons h r => .cons (Rep.mono e h) (RepT.mono e r)
end
theorem RepA.length : ∀ {v : List V} {d : List D}, RepA K Z v d → v.length = d.length
  | _, _, .nil => rfl
  | _, _, .cons _ r => by rw [List.length_cons, List.length_cons, RepA.length r]
theorem RepA.get : ∀ {v : List V} {d : List D} {i : Nat} {x : D}, RepA K Z v d → d[i]? = some x → ∃ u, v[i]? = some u ∧ Rep K Z u x
  | _, _, _, _, .nil, e => by simp at e
  | _, _, 0, _, .cons h _, e => by simp at e; subst e; exact ⟨_, rfl, h⟩
  | _, _, i + 1, x, .cons _ r, e => by
    obtain ⟨u, h1, h2⟩ := RepA.get (i := i) (x := x) r (by simpa using e)
    exact ⟨u, by simpa using h1, h2⟩
theorem RepA.get' : ∀ {v : List V} {d : List D} {i : Nat} {u : V}, RepA K Z v d → v[i]? = some u → ∃ x, d[i]? = some x ∧ Rep K Z u x
  | _, _, _, _, .nil, e => by simp at e
  | _, _, 0, _, .cons h _, e => by simp at e; subst e; exact ⟨_, rfl, h⟩
  | _, _, i + 1, x, .cons _ r, e => by
    obtain ⟨u, h1, h2⟩ := RepA.get' (i := i) (u := x) r (by simpa using e)
    exact ⟨u, by simpa using h1, h2⟩
theorem RepA.append : ∀ {v w : List V} {d f : List D}, RepA K Z v d → RepA K Z w f → RepA K Z (v ++ w) (d ++ f)
  | _, _, _, _, .nil, s => s
  | _, _, _, _, .cons h r, s => .cons h (RepA.append r s)
theorem RepA.take : ∀ {v : List V} {d : List D} (n : Nat), RepA K Z v d → RepA K Z (v.take n) (d.take n)
  | _, _, 0, _ => .nil
  | _, _, _ + 1, .nil => .nil
  | _, _, n + 1, .cons h r => .cons h (RepA.take n r)
theorem RepA.drop : ∀ {v : List V} {d : List D} (n : Nat), RepA K Z v d → RepA K Z (v.drop n) (d.drop n)
  | _, _, 0, h => h
  | _, _, _ + 1, .nil => .nil
  | _, _, n + 1, .cons _ r => RepA.drop n r
/-! values with objects of one's own -/
def RepV (K : PySem.W.Frag) (Z : Hp) (I : List Addr) (v : V) : DV → Prop
  | .p d => Rep K Z v d
  | .o n => ∃ a, I[n]? = some a ∧ v = .ref a
abbrev RepVs (K : PySem.W.Frag) (Z : Hp) (I : List Addr) : List V → List DV → Prop := Paired (RepV K Z I)
theorem paired_len {α β : Type} {F : α → β → Prop} : ∀ {xs : List α} {ys : List β}, Paired F xs ys → xs.length = ys.length
  | _, _, .nil => rfl
  | _, _, .cons _ r => by rw [List.length_cons, List.length_cons, paired_len r]
theorem paired_get {α β : Type} {F : α → β → Prop} : ∀ {xs : List α} {ys : List β} {i : Nat} {y : β}, Paired F xs ys → ys[i]? = some y → ∃ x, xs[i]? = some x ∧ F x y
  | _, _, _, _, .nil, e => by simp at e
  | _, _, 0, _, .cons h _, e => by simp at e; subst e; exact ⟨_, rfl, h⟩
  | _, _, i + 1, x, .cons _ r, e => by
    obtain ⟨u, h1, h2⟩ := paired_get (i := i) (y := x) r (by simpa using e)
    exact ⟨u, by simpa using h1, h2⟩
theorem paired_set {α β : Type} {F : α → β → Prop} {x : α} {y : β} (h : F x y) : ∀ {xs : List α} {ys : List β} (i : Nat), Paired F xs ys → Paired F (xs.set i x) (ys.set i y)
  | _, _, _, .nil => .nil
  | _, _, 0, .cons _ r => .cons h r
  | _, _, i + 1, .cons q r => .cons q (paired_set h i r)
theorem paired_app {α β : Type} {F : α → β → Prop} : ∀ {xs zs : List α} {ys ws : List β}, Paired F xs ys → Paired F zs ws → Paired F (xs ++ zs) (ys ++ ws)
  | _, _, _, _, .nil, s => s
  | _, _, _, _, .cons h r, s => .cons h (paired_app r s)
theorem paired_imp {α β : Type} {F G : α → β → Prop} (k : ∀ a b, F a b → G a b) : ∀ {xs : List α} {ys : List β}, Paired F xs ys → Paired G xs ys
  | _, _, .nil => .nil
  | _, _, .cons h r => .cons (k _ _ h) (paired_imp k r)
def FRel (K : PySem.W.Frag) (Z : Hp) (I : List Addr) {κ : Type} (p : κ × V) (q : κ × DV) : Prop := p.1 = q.1 ∧ RepV K Z I p.2 q.2
def RepO (K : PySem.W.Frag) (Z : Hp) (I : List Addr) (H : Hp) (a : Addr) : O → Prop
  | .lst ds => ∃ xs, H a = some (.lst xs) ∧ RepVs K Z I xs ds
  | .dK ds => ∃ ks, H a = some (.dK ks) ∧ Paired (FRel K Z I) ks ds
  | .dT ds => ∃ ks, H a = some (.dT ks) ∧ Paired (FRel K Z I) ks ds
  | .ins C fs => ∃ dx vs, H a = some (.ins C dx vs) ∧ Paired (FRel K Z I) vs fs
  | .tbl P q => a = P ∧ ∃ ps : Array Value, H a = some (.tbl ps) ∧ TriplesOk ps.toList ∧ ∀ (pos : Pos) (cv : Value), codeAmong pos ps.toList = some cv → ∃ c, cv = .ref c ∧ Z c = some (LamX.CodeO c q)
  | .gone => True
structure Wf (K : PySem.W.Frag) (Z H : Hp) (I : List Addr) (M : List O) : Prop where
  sub : Same Z H
  len : I.length = M.length
  nd : I.Nodup
  tr : ∀ a ∈ I, H a ≠ none
  ob : ∀ (n : Nat) (a : Addr) (o : O), I[n]? = some a → M[n]? = some o → o ≠ .gone → Z a = none ∧ RepO K Z I H a o
/-- nobody's own: free, or a tuple -/
def Fr (H : Hp) (a : Addr) : Prop := H a = none ∨ ∃ xs, H a = some (.tup xs)
theorem Fr.no {H : Hp} {a : Addr} {u : HO} (h : H a = some u) (n : ∀ xs, u ≠ .tup xs) (f : Fr H a) : False := by
  rcases f with f | ⟨xs, f⟩
  · rw [h] at f; cases f
  · rw [h] at f; cases f; exact n xs rfl
theorem repO_nt {K : PySem.W.Frag} {Z H : Hp} {I : List Addr} {a : Addr} {o : O} (r : RepO K Z I H a o) (hg : o ≠ .gone) : ∃ u, H a = some u ∧ ∀ xs, u ≠ .tup xs := by
  cases o with
  | lst ds => obtain ⟨xs, h, _⟩ := r; exact ⟨_, h, fun _ e => nomatch e⟩
  | dK ds => obtain ⟨xs, h, _⟩ := r; exact ⟨_, h, fun _ e => nomatch e⟩
  | dT ds => obtain ⟨xs, h, _⟩ := r; exact ⟨_, h, fun _ e => nomatch e⟩
  | ins C fs => obtain ⟨dx, xs, h, _⟩ := r; exact ⟨_, h, fun _ e => nomatch e⟩
  | tbl P q => obtain ⟨e, ps, h, _⟩ := r; exact ⟨_, h, fun _ e => nomatch e⟩
  | gone => exact absurd rfl hg
structure Ext (Z H : Hp) (I : List Addr) (Z' H' : Hp) (I' : List Addr) : Prop where
  z : Same Z Z'
  i : ∃ t, I' = I ++ t
  fr : ∀ a o, H a = some o → a ∉ I → H' a = some o
  nw : ∀ a ∈ I', a ∈ I ∨ H a = none
  zn : ∀ a, Z' a ≠ none → Z a ≠ none ∨ Fr H a ∨ a ∈ I
  tr : ∀ a, H a ≠ none → H' a ≠ none
end
theorem Ext.refl {Z H : Hp} {I : List Addr} : Ext Z H I Z H I := ⟨Same.refl Z, ⟨[], by simp⟩, fun _ _ h _ => h, fun _ h => .inl h, fun _ h => .inl h, fun _ h => h⟩
theorem Ext.trans {Z H Z1 H1 Z2 H2 : Hp} {I I1 I2 : List Addr} (a : Ext Z H I Z1 H1 I1) (b : Ext Z1 H1 I1 Z2 H2 I2) : Ext Z H I Z2 H2 I2 where
  z := a.z.trans b.z
  i := by
    obtain ⟨t, e⟩ := a.i
    obtain ⟨u, f⟩ := b.i
    exact ⟨t ++ u, by rw [f, e, List.append_assoc]⟩
  fr := fun c o h n => b.fr c o (a.fr c o h n) fun m => by
    rcases a.nw c m with k | k
    · exact n k
    · rw [h] at k; cases k
  nw := fun c m => by
    rcases b.nw c m with k | k
    · exact a.nw c k
    · right
      cases e : H c with
      | none => rfl
      | some o => exact absurd k (a.tr c (by rw [e]; simp))
  zn := fun c h => by
    rcases b.zn c h with k | k | k
    · exact a.zn c k
    · cases e : H c with
      | none => exact .inr (.inl (.inl e))
      | some o =>
        by_cases q : c ∈ I
        · exact .inr (.inr q)
        · have e1 := a.fr c o e q
          rcases k with k | ⟨xs, k⟩
          · rw [e1] at k; cases k
          · rw [e1] at k; cases k; exact .inr (.inl (.inr ⟨xs, e⟩))
    · rcases a.nw c k with q | q
      · exact .inr (.inr q)
      · exact .inr (.inl (.inl q))
  tr := fun c h => b.tr c (a.tr c h)
section
variable {K : PySem.W.Frag} {Z H Z' H' : Hp} {I I' : List Addr}
theorem RepV.mono (e : Ext Z H I Z' H' I') {v : V} : ∀ {d : DV}, RepV K Z I v d → RepV K Z' I' v d
  | .p _, h => Rep.mono e.z h
  | .o n, ⟨a, h, q⟩ => by
    obtain ⟨t, rfl⟩ := e.i
    exact ⟨a, by rw [List.getElem?_append_left (List.getElem?_eq_some_iff.mp h).1]; exact h, q⟩
theorem RepV.mono' (z : Same Z Z') {v : V} : ∀ {d : DV}, RepV K Z I v d → RepV K Z' I v d
  | .p _, h => Rep.mono z h
  | .o _, h => h
/-- a pure step: nothing of one's own is touched -/
structure ExtP (Z H Z' H' : Hp) : Prop where
  z : Same Z Z'
  h : Same H H'
  sub : Same Z' H'
  zn : ∀ a, Z' a ≠ none → Z a ≠ none ∨ Fr H a
theorem ExtP.refl (h : Same Z H) : ExtP Z H Z H := ⟨Same.refl _, Same.refl _, h, fun _ h => .inl h⟩
theorem ExtP.trans {Z2 H2 : Hp} (a : ExtP Z H Z' H') (b : ExtP Z' H' Z2 H2) : ExtP Z H Z2 H2 := ⟨a.z.trans b.z, a.h.trans b.h, b.sub, fun c h => by
  rcases b.zn c h with k | k
  · exact a.zn c k
  · rcases k with k | ⟨xs, k⟩
    · exact .inr (.inl (a.h.free k))
    · cases e : H c with
      | none => exact .inr (.inl e)
      | some o => rw [a.h c o e] at k; cases k; exact .inr (.inr ⟨xs, e⟩)⟩
theorem none_of {Z H : Hp} (s : Same Z H) {p : Addr} (h : H p = none) : Z p = none := s.free h
theorem same_upd {H : Hp} {p : Addr} {o : HO} (h : H p = none) : Same H (upd H p o) := fun a u e => by
  rw [upd_ne (ne_of_none e h)]; exact e
theorem ExtP.new {p : Addr} {o : HO} (s : Same Z H) (h : H p = none) : ExtP Z H (upd Z p o) (upd H p o) := by
  refine ⟨same_upd (none_of s h), same_upd h, fun a u e => ?_, fun a e => ?_⟩
  · by_cases q : a = p
    · subst q; rw [upd_same] at e ⊢; exact e
    · rw [upd_ne q] at e ⊢; exact s a u e
  · by_cases q : a = p
    · subst q; exact .inr (.inl h)
    · rw [upd_ne q] at e; exact .inl e
theorem RepO.mono {a : Addr} (z : Same Z Z') (ha : H' a = H a) : ∀ {o : O}, RepO K Z I H a o → RepO K Z' I H' a o
  | .lst _, ⟨xs, h, r⟩ => ⟨xs, ha.trans h, paired_imp (fun _ _ q => RepV.mono' z q) r⟩
  | .dK _, ⟨xs, h, r⟩ => ⟨xs, ha.trans h, paired_imp (fun _ _ q => ⟨q.1, RepV.mono' z q.2⟩) r⟩
  | .dT _, ⟨xs, h, r⟩ => ⟨xs, ha.trans h, paired_imp (fun _ _ q => ⟨q.1, RepV.mono' z q.2⟩) r⟩
  | .ins _ _, ⟨dx, xs, h, r⟩ => ⟨dx, xs, ha.trans h, paired_imp (fun _ _ q => ⟨q.1, RepV.mono' z q.2⟩) r⟩
  | .tbl _ _, ⟨e, ps, h, t, r⟩ => ⟨e, ps, ha.trans h, t, fun pos cv hc => by
      obtain ⟨c, h1, h2⟩ := r pos cv hc
      exact ⟨c, h1, z _ _ h2⟩⟩
  | .gone, _ => trivial
theorem same_eq {H H' : Hp} (e : Same H H') {a : Addr} (h : H a ≠ none) : H' a = H a := by
  cases q : H a with
  | none => exact absurd q h
  | some o => exact e a o q
theorem Wf.extP {M : List O} (w : Wf K Z H I M) (e : ExtP Z H Z' H') : Wf K Z' H' I M where
  sub := e.sub
  len := w.len
  nd := w.nd
  tr := fun a h => by rw [same_eq e.h (w.tr a h)]; exact w.tr a h
  ob := fun n a o h1 h2 h3 => by
    obtain ⟨q1, q2⟩ := w.ob n a o h1 h2 h3
    have ha := w.tr a (List.mem_of_getElem? h1)
    refine ⟨?_, q2.mono e.z (same_eq e.h ha)⟩
    cases q : Z' a with
    | none => rfl
    | some u =>
      rcases e.zn a (by rw [q]; simp) with k | k
      · exact absurd q1 k
      · obtain ⟨u', hu, hn⟩ := repO_nt q2 h3
        exact (Fr.no hu hn k).elim
theorem ExtP.ext {M : List O} (w : Wf K Z H I M) (e : ExtP Z H Z' H') : Ext Z H I Z' H' I := ⟨e.z, ⟨[], by simp⟩, fun a o h _ => e.h a o h, fun _ h => .inl h, fun a h => (e.zn a h).imp_right .inl, fun a h => by rw [same_eq e.h h]; exact h⟩
/-! ### slots -/
structure RepS (K : PySem.W.Frag) (Z : Hp) (I : List Addr) (σ : St) (l : List (Option DV)) : Prop where
  len : σ.length = l.length
  at_ : ∀ (i : Nat) (dv : DV), l[i]? = some (some dv) → ∃ v, σ[i]? = some (some v) ∧ RepV K Z I v dv
theorem RepS.mono {σ : St} {l : List (Option DV)} (r : RepS K Z I σ l) (e : Ext Z H I Z' H' I') : RepS K Z' I' σ l := ⟨r.len, fun i dv h => by
  obtain ⟨v, h1, h2⟩ := r.at_ i dv h
  exact ⟨v, h1, h2.mono e⟩⟩
theorem RepS.set {σ : St} {l : List (Option DV)} (r : RepS K Z I σ l) {v : V} {dv : DV} (h : RepV K Z I v dv) (i : Nat) : RepS K Z I (σ.set i (some v)) (l.set i (some dv)) := by
  refine ⟨by simpa using r.len, fun j dw e => ?_⟩
  by_cases q : i = j
  · subst q
    by_cases b : i < l.length
    · rw [List.getElem?_set_self b] at e
      cases e
      exact ⟨v, by rw [List.getElem?_set_self (by rw [r.len]; exact b)], h⟩
    · rw [List.getElem?_eq_none (by simpa using b)] at e; cases e
  · rw [List.getElem?_set_ne q] at e ⊢
    exact r.at_ j dw e
/-! ### what is wanted -/
def ExcAt (K : PySem.W.Frag) (Z H : Hp) (d : Option Addr) (fs : List (Str × D)) : Prop :=
  (d = none ∧ fs = []) ∨ ∃ a vs, d = some a ∧ H a = some (.xd vs) ∧ Paired (fun (p : Str × V) (q : Str × D) => p.1 = q.1 ∧ Rep K Z p.2 q.2) vs fs
def PostX (K : PySem.W.Frag) (W : WX) (Z H : Hp) (I : List Addr) (σ : St) (M' : List O) (c : Addr) (fs : List (Str × D)) : Prop :=
  ∀ d Z' H' I', Wf K Z' H' I' M' → Ext Z H I Z' H' I' → ExcAt K Z' H' d fs → (∀ a, d = some a → H a = none ∧ a ∉ I') → W (.ref c) d σ H'
theorem PostX.mono {W : WX} {σ : St} {M' : List O} {c : Addr} {fs : List (Str × D)} {Z1 H1 : Hp} {I1 : List Addr} (e : Ext Z H I Z1 H1 I1) (h : PostX K W Z H I σ M' c fs) : PostX K W Z1 H1 I1 σ M' c fs :=
  fun d Z' H' I' w x a n => h d Z' H' I' w (e.trans x) a fun b q => ⟨by
    cases z : H b with
    | none => rfl
    | some o => exact absurd (n b q).1 (e.tr b (by rw [z]; simp)), (n b q).2⟩
def PostR {α β : Type} (K : PySem.W.Frag) (W : WX) (R : Hp → List Addr → β → α → Prop) (Z H : Hp) (I : List Addr) (σ : St) (Q : β → Hp → Prop) : Rs α → Prop
  | .ok a M' => ∀ b Z' H' I', Wf K Z' H' I' M' → Ext Z H I Z' H' I' → R Z' I' b a → Q b H'
  | .ex c fs M' => PostX K W Z H I σ M' c fs
theorem PostR.mono {α β : Type} {W : WX} {R : Hp → List Addr → β → α → Prop} {σ : St} {Q : β → Hp → Prop} {Z1 H1 : Hp} {I1 : List Addr} (e : Ext Z H I Z1 H1 I1) : ∀ {r : Rs α}, PostR K W R Z H I σ Q r → PostR K W R Z1 H1 I1 σ Q r
  | .ok _ _, h => fun b Z' H' I' w x q => h b Z' H' I' w (e.trans x) q
  | .ex _ _ _, h => PostX.mono e h
theorem PostR.x {α β : Type} {W : WX} {R : Hp → List Addr → β → α → Prop} {σ : St} {Q : β → Hp → Prop} {r : Rs α} (h : PostR K W R Z H I σ Q r) (c : Addr) (fs : List (Str × D)) (M : List O) (e : r = .ex c fs M) : PostX K W Z H I σ M c fs := by
  subst e; exact h
abbrev Mi (α : Type) := S → Option (Rs α)
structure Sound {α β : Type} (K : PySem.W.Frag) (W : WX) (R : Hp → List Addr → β → α → Prop) (t : St → Hp → (β → Hp → Prop) → Prop) (m : Mi α) : Prop where
  ok : ∀ (σ : St) (H : Hp) (s : S) (Z : Hp) (I : List Addr) (r : Rs α) (Q : β → Hp → Prop), Wf K Z H I s.m → RepS K Z I σ s.l → m s = some r → PostR K W R Z H I σ Q r → t σ H Q
def bnd {α γ : Type} (m : Mi α) (k : α → Mi γ) : Mi γ := fun s => match m s with
  | some (.ok v M) => k v ⟨s.l, M⟩
  | some (.ex c f M) => some (.ex c f M)
  | none => none
theorem Sound.bnd {α β γ : Type} {W : WX} {R : Hp → List Addr → β → α → Prop} {t : St → Hp → (β → Hp → Prop) → Prop} {m : Mi α} (h : Sound K W R t m) {σ : St} {s : S} {k : α → Mi γ} {r : Rs γ} {Q : β → Hp → Prop}
    (w : Wf K Z H I s.m) (rs : RepS K Z I σ s.l) (e : DL.bnd m k s = some r) (hx : ∀ c fs M, r = .ex c fs M → PostX K W Z H I σ M c fs)
    (hk : ∀ a b M' Z' H' I', Wf K Z' H' I' M' → RepS K Z' I' σ s.l → Ext Z H I Z' H' I' → R Z' I' b a → k a ⟨s.l, M'⟩ = some r → Q b H') : t σ H Q := by
  unfold DL.bnd at e
  cases q : m s with
  | none => rw [q] at e; cases e
  | some r0 =>
    rw [q] at e
    cases r0 with
    | ok v M => exact h.ok σ H s Z I _ Q w rs q fun b Z' H' I' w' x' r' => hk v b M Z' H' I' w' (rs.mono x') x' r' e
    | ex c f M =>
      obtain rfl := Option.some.inj e
      exact h.ok σ H s Z I _ Q w rs q (hx c f M rfl)
abbrev EM := Mi DV
abbrev AM := Mi (List DV)
structure DE (K : PySem.W.Frag) (X : Cx) (W : WX) (e : Expr) (t : TE) (m : EM) : Prop where
  k : X.K = K
  pe : PE X e t
  so : Sound K W (RepV K) t m
def RepB (_ : Hp) (_ : List Addr) (b : Bool) (d : DV) : Prop := d = .p (.bl b)
structure DT (K : PySem.W.Frag) (X : Cx) (W : WX) (e : Expr) (t : TT) (m : EM) : Prop where
  k : X.K = K
  pt : PT X e t
  so : Sound K W RepB t m
structure DW (K : PySem.W.Frag) (X : Cx) (W : WX) (e : Expr) (t : TT) (m : EM) : Prop where
  k : X.K = K
  pw : PW X e t
  so : Sound K W RepB t m
structure DA (K : PySem.W.Frag) (X : Cx) (W : WX) (es : List Expr) (t : TA) (m : AM) : Prop where
  k : X.K = K
  pa : PA X es t
  so : Sound K W (RepVs K) t m
/-- statements -/
inductive Fl where
  | nx | rt (v : DV) | bk | ct | ex (c : Addr) (fs : List (Str × D))
abbrev SM := S → Option (Fl × S)
def PostS (K : PySem.W.Frag) (W : WX) (Z H : Hp) (I : List Addr) (D : Ends) : Fl × S → Prop
  | (.nx, s') => ∀ σ' Z' H' I', Wf K Z' H' I' s'.m → RepS K Z' I' σ' s'.l → Ext Z H I Z' H' I' → D.nx σ' H'
  | (.rt dv, s') => ∀ v Z' H' I', Wf K Z' H' I' s'.m → Ext Z H I Z' H' I' → RepV K Z' I' v dv → D.rt v H'
  | (.bk, s') => ∀ σ' Z' H' I', Wf K Z' H' I' s'.m → RepS K Z' I' σ' s'.l → Ext Z H I Z' H' I' → D.bk σ' H'
  | (.ct, s') => ∀ σ' Z' H' I', Wf K Z' H' I' s'.m → RepS K Z' I' σ' s'.l → Ext Z H I Z' H' I' → D.ct σ' H'
  | (.ex c fs, s') => ∀ σ' d Z' H' I', Wf K Z' H' I' s'.m → RepS K Z' I' σ' s'.l → Ext Z H I Z' H' I' → ExcAt K Z' H' d fs → (∀ a, d = some a → H a = none ∧ a ∉ I') → W (.ref c) d σ' H'
structure SoundS (K : PySem.W.Frag) (W : WX) (t : TS) (m : SM) : Prop where
  ok : ∀ (σ : St) (H : Hp) (s : S) (Z : Hp) (I : List Addr) (r : Fl × S) (D : Ends), Wf K Z H I s.m → RepS K Z I σ s.l → m s = some r → PostS K W Z H I D r → t D σ H
structure DS (K : PySem.W.Frag) (X : Cx) (W : WX) (st : Stmt) (t : TS) (m : SM) : Prop where
  k : X.K = K
  ps : PS X st t
  so : SoundS K W t m
structure DSs (K : PySem.W.Frag) (X : Cx) (W : WX) (st : List Stmt) (t : TS) (m : SM) : Prop where
  k : X.K = K
  ps : PSs X st t
  so : SoundS K W t m
end
end DL
namespace DL
open PySem L2
section
variable {K : PySem.W.Frag} {X : Cx} {W : WX} {e a b c : Expr} {pos : Pos}
/-! ### names, constants -/
def gv (l : List (Option DV)) (i : Nat) : Option DV := match l[i]? with
  | some (some d) => some d
  | _ => none
def mVar (i : Nat) : EM := fun s => match gv s.l i with
  | some d => some (.ok d s.m)
  | none => none
theorem gv_some {l : List (Option DV)} {i : Nat} {d : DV} (h : gv l i = some d) : l[i]? = some (some d) := by
  unfold gv at h
  split at h
  · cases h; assumption
  · cases h
theorem so_var {i : Nat} : Sound K W (RepV K) (tVar i) (mVar i) := ⟨fun σ H s Z I r Q w rs e p => by
  unfold mVar at e
  split at e
  · rename_i d hd
    obtain rfl := Option.some.inj e
    obtain ⟨v, h1, h2⟩ := rs.at_ i d (gv_some hd)
    exact ⟨v, h1, p v Z H I w Ext.refl h2⟩
  · cases e⟩
def mC (d : D) : EM := fun s => some (.ok (.p d) s.m)
theorem so_c {v : V} {d : D} (h : ∀ Z, Rep K Z v d) : Sound K W (RepV K) (tC v) (mC d) := ⟨fun σ H s Z I r Q w rs e p => by
  obtain rfl := Option.some.inj e
  exact p v Z H I w Ext.refl (h Z)⟩
theorem de_var (i : Nat) {x : Str} (k : X.K = K := by rfl) (hN : X.N[i]? = some x := by rfl) (hv : Vis X.env.scope x := by first | exact Or.inl rfl | exact Or.inr (Or.inl rfl) | exact Or.inr (Or.inr rfl)) (hd : (x == ("__debug__" : Str)) = false := by decide)
    (hcd : (x == ("__classdict__" : Str)) = false := by decide) : DE K X W (.Name x pos) (tVar i) (mVar i) := ⟨k, pe_var hN hv hd hcd, so_var⟩
theorem de_int {i : Int} {j} (k : X.K = K := by rfl) : DE K X W (.Constant (.int i) j pos) (tC (.int i)) (mC (.int i)) := ⟨k, pe_int, so_c fun _ => .int i⟩
theorem de_bl {i : Bool} {j} (k : X.K = K := by rfl) : DE K X W (.Constant (.bool i) j pos) (tC (.bl i)) (mC (.bl i)) := ⟨k, pe_bl, so_c fun _ => .bl i⟩
theorem de_non {j} (k : X.K = K := by rfl) : DE K X W (.Constant .none j pos) (tC .non) (mC .non) := ⟨k, pe_non, so_c fun _ => .non⟩
theorem de_str {x : Str} {j} (k : X.K = K := by rfl) : DE K X W (.Constant (.str x) j pos) (tC (.str x)) (mC (.str x)) := ⟨k, pe_str, so_c fun _ => .str x⟩
/-! ### operations on data -/
def pur {γ : Type} (k : D → Mi γ) : DV → Mi γ
  | .p d, s => k d s
  | .o _, _ => none
/-- the value of an operation: at the heap as it is, or with new objects -/
def PostP (K : PySem.W.Frag) (Z H : Hp) (d : D) (Q : VK) : Prop := ∀ v Z' H', ExtP Z H Z' H' → Rep K Z' v d → Q v H'
def ret (o : Option D) : EM := fun s => match o with
  | some d => some (.ok (.p d) s.m)
  | none => none
theorem PostP.of {Z H : Hp} {I : List Addr} {σ : St} {Q : VK} {d : D} {M : List O} (w : Wf K Z H I M) (p : PostR K W (RepV K) Z H I σ Q (.ok (.p d) M)) : PostP K Z H d Q :=
  fun v Z' H' x r => p v Z' H' I (w.extP x) (x.ext w) r
structure OpD (K : PySem.W.Frag) (X : Cx) (f : Value → Value → Sem Value) (r : R2) (g : D → D → Option D) : Prop where
  op : X.K = K → OpR X f r
  ok : ∀ (x y : V) (d e c : D) (Z H : Hp) (Q : VK), Same Z H → Rep K Z x d → Rep K Z y e → g d e = some c → PostP K Z H c Q → r x y H Q
def mBin (g : D → D → Option D) (m n : EM) : EM := bnd m (pur fun d => bnd n (pur fun e => ret (g d e)))
theorem so_bin {r : R2} {g : D → D → Option D} {ta tb : TE} {m n : EM} (h : ∀ (x y : V) (d e c : D) (Z H : Hp) (Q : VK), Same Z H → Rep K Z x d → Rep K Z y e → g d e = some c → PostP K Z H c Q → r x y H Q)
    (ha : Sound K W (RepV K) ta m) (hb : Sound K W (RepV K) tb n) : Sound K W (RepV K) (tOp r ta tb) (mBin g m n) := ⟨fun σ H s Z I r0 Q w rs e p => by
  refine ha.bnd w rs e (p.x) fun d v M1 Z1 H1 I1 w1 rs1 x1 q1 e1 => ?_
  cases d with
  | o n => cases e1
  | p d =>
  have p1 := p.mono x1
  refine hb.bnd (s := ⟨s.l, M1⟩) w1 rs1 e1 (p1.x) fun d2 v2 M2 Z2 H2 I2 w2 rs2 x2 q2 e2 => ?_
  cases d2 with
  | o n => cases e2
  | p d2 =>
  have p2 := p1.mono x2
  have e3 : ret (g d d2) ⟨s.l, M2⟩ = some r0 := e2
  unfold ret at e3
  cases q : g d d2 with
  | none => rw [q] at e3; cases e3
  | some c =>
    rw [q] at e3
    obtain rfl := Option.some.inj e3
    exact h v v2 d d2 c Z2 H2 Q w2.sub (Rep.mono x2.z q1) q2 q (PostP.of w2 p2)⟩
theorem de_bin {op : Operator} {r : R2} {g : D → D → Option D} {ta tb : TE} {m n : EM} (h : OpD K X (binaryOp op) r g) (ha : DE K X W a ta m) (hb : DE K X W b tb n) : DE K X W (.BinOp a op b pos) (tOp r ta tb) (mBin g m n) :=
  ⟨ha.k, pe_op (h.op ha.k) ha.pe hb.pe, so_bin h.ok ha.so hb.so⟩
theorem de_cmp {op : CmpOp} {r : R2} {g : D → D → Option D} {ta tb : TE} {m n : EM} (h : OpD K X (compareOp op) r g) (ha : DE K X W a ta m) (hb : DE K X W b tb n) (hm : behindInMarks op b = false := by first | exact nomark _ | rfl) : DE K X W (.Compare a [op] [b] pos) (tOp r ta tb) (mBin g m n) :=
  ⟨ha.k, pe_cmpR (h.op ha.k) ha.pe hb.pe hm, so_bin h.ok ha.so hb.so⟩
theorem so_test {t : TE} {m : EM} (h : Sound K W (RepV K) t m) (hb : ∀ s r, m s = some r → ∀ v M, r = .ok v M → ∃ b, v = .p (.bl b)) : Sound K W RepB (tTest t) m := ⟨fun σ H s Z I r Q w rs e p => by
  refine h.ok σ H s Z I r _ w rs e ?_
  cases r with
  | ex c fs M => exact p
  | ok v M =>
    obtain ⟨b, rfl⟩ := hb s _ e v M rfl
    intro v Z' H' I' w' x' r'
    cases r'
    exact ⟨b, rfl, p b Z' H' I' w' x' rfl⟩⟩
/-- a result that is a truth -/
def boolD (g : D → D → Option D) : Prop := ∀ d e c, g d e = some c → ∃ b, c = .bl b
theorem bnd_ok {α γ : Type} {m : Mi α} {k : α → Mi γ} {s : S} {v : γ} {M : List O} (e : bnd m k s = some (.ok v M)) : ∃ a M1, m s = some (.ok a M1) ∧ k a ⟨s.l, M1⟩ = some (.ok v M) := by
  unfold bnd at e
  cases q : m s with
  | none => rw [q] at e; cases e
  | some r0 =>
    rw [q] at e
    cases r0 with
    | ok a M1 => exact ⟨a, M1, rfl, e⟩
    | ex c f M1 => cases e
theorem pur_ok {γ : Type} {k : D → Mi γ} {v : DV} {s : S} {r : Rs γ} (e : pur k v s = some r) : ∃ d, v = .p d ∧ k d s = some r := by
  cases v with
  | p d => exact ⟨d, rfl, e⟩
  | o n => cases e
theorem ret_ok {o : Option D} {s : S} {r : Rs DV} (e : ret o s = some r) : ∃ d, o = some d ∧ r = .ok (.p d) s.m := by
  cases o with
  | none => cases e
  | some d => exact ⟨d, rfl, (Option.some.inj e).symm⟩
theorem mBin_bool {g : D → D → Option D} {m n : EM} (hg : boolD g) (s : S) (r : Rs DV) (e : mBin g m n s = some r) (v : DV) (M : List O) (hr : r = .ok v M) : ∃ b, v = .p (.bl b) := by
  subst hr
  obtain ⟨a, M1, _, e⟩ := bnd_ok e
  obtain ⟨d, _, e⟩ := pur_ok e
  obtain ⟨a2, M2, _, e⟩ := bnd_ok e
  obtain ⟨d2, _, e⟩ := pur_ok e
  obtain ⟨c, q, e⟩ := ret_ok e
  cases e
  obtain ⟨b, rfl⟩ := hg _ _ _ q
  exact ⟨b, rfl⟩
theorem dt_cmp {op : CmpOp} {r : R2} {g : D → D → Option D} {ta tb : TE} {m n : EM} (h : OpD K X (compareOp op) r g) (hg : boolD g) (ha : DE K X W a ta m) (hb : DE K X W b tb n) (hm : behindInMarks op b = false := by first | exact nomark _ | rfl) : DT K X W (.Compare a [op] [b] pos) (tTest (tOp r ta tb)) (mBin g m n) :=
  ⟨ha.k, pt_cmpR (h.op ha.k) ha.pe hb.pe hm, so_test (so_bin h.ok ha.so hb.so) (mBin_bool hg)⟩
/-! the ints -/
def dI (g : Int → Int → Option D) : D → D → Option D
  | .int i, .int j => g i j
  | _, _ => none
theorem ok_rI {C : Int → Int → Prop} {h : Int → Int → V} {g : Int → Int → Option D} (hc : ∀ i j c, g i j = some c → C i j ∧ ∀ Z, Rep K Z (h i j) c) : ∀ (x y : V) (d e c : D) (Z H : Hp) (Q : VK), Same Z H → Rep K Z x d → Rep K Z y e → dI g d e = some c → PostP K Z H c Q → rI C h x y H Q := by
  intro x y d e c Z H Q s hx hy hg p
  unfold dI at hg
  split at hg
  · cases hx; cases hy
    obtain ⟨h1, h2⟩ := hc _ _ _ hg
    exact ⟨_, _, rfl, rfl, h1, p _ Z H (ExtP.refl s) (h2 Z)⟩
  · cases hg
theorem ok_rI0 {h : Int → Int → V} {g : Int → Int → Option D} (hc : ∀ i j c, g i j = some c → ∀ Z, Rep K Z (h i j) c) : ∀ (x y : V) (d e c : D) (Z H : Hp) (Q : VK), Same Z H → Rep K Z x d → Rep K Z y e → dI g d e = some c → PostP K Z H c Q → rI0 h x y H Q := by
  intro x y d e c Z H Q s hx hy hg p
  unfold dI at hg
  split at hg
  · cases hx; cases hy
    exact ⟨_, _, rfl, rfl, p _ Z H (ExtP.refl s) (hc _ _ _ hg Z)⟩
  · cases hg
abbrev dIi (g : Int → Int → Int) : D → D → Option D := dI fun i j => some (.int (g i j))
abbrev dIb (g : Int → Int → Bool) : D → D → Option D := dI fun i j => some (.bl (g i j))
def dAdd : D → D → Option D
  | .int i, .int j => some (.int (i + j))
  | .str x, .str y => if x.length + y.length ≤ 1000000 then some (.str (x ++ y)) else none
  | _, _ => none
theorem size_le {n : Nat} (h : n ≤ 1000000) : n ≤ sizeLine := Nat.le_trans h (by decide)
theorem size_lt {n : Nat} (h : n ≤ 1000000) : n < sizeLine := Nat.lt_of_le_of_lt h (by decide)
theorem od_add : OpD K X (binaryOp .Add) (fun x y H Q => rI0 (fun i j => .int (i + j)) x y H Q ∨ ∃ i j, x = .str i ∧ y = .str j ∧ i.length + j.length ≤ sizeLine ∧ Q (.str (i ++ j)) H) dAdd where
  op := fun _ pins s σ H x y v u Q I rx ry h => by
    rcases h with h | h
    · exact op_add pins s σ H x y v u Q I rx ry h
    · exact op_add_str pins s σ H x y v u Q I rx ry h
  ok := by
    intro x y d e c Z H Q s hx hy hg p
    unfold dAdd at hg
    split at hg
    · cases hx; cases hy; cases hg
      exact .inl ⟨_, _, rfl, rfl, p _ Z H (ExtP.refl s) (.int _)⟩
    · split at hg
      · rename_i hl
        cases hx; cases hy; cases hg
        exact .inr ⟨_, _, rfl, rfl, size_le hl, p _ Z H (ExtP.refl s) (.str _)⟩
      · cases hg
    · cases hg
theorem od_sub : OpD K X (binaryOp .Sub) (rI0 fun i j => .int (i - j)) (dIi fun i j => i - j) := ⟨fun _ => op_sub, ok_rI0 fun i j c h Z => by cases h; exact .int _⟩
def mulOk (i j : Int) : Bool := decide (-(2 ^ 64) < i ∧ i < 2 ^ 64) || decide (-(2 ^ 64) < j ∧ j < 2 ^ 64)
theorem od_mul : OpD K X (binaryOp .Mult) (rI CMul fun i j => .int (i * j)) (dI fun i j => if mulOk i j = true then some (.int (i * j)) else none) := ⟨fun _ => op_mul, ok_rI fun i j c h => by
  split at h
  · rename_i hc
    cases h
    refine ⟨?_, fun _ => .int _⟩
    unfold mulOk at hc
    simp only [Bool.or_eq_true, decide_eq_true_eq] at hc
    exact hc
  · cases h⟩
end
end DL
namespace DL
open PySem L2
section
variable {K : PySem.W.Frag} {X : Cx} {W : WX} {e a b c : Expr} {pos : Pos}
/-! ### more ints -/
theorem od_fdiv : OpD K X (binaryOp .FloorDiv) (rI CDivW fun i j => .int (i / j)) (dI fun i j => if 0 < j ∧ j < 18446744073709551616 then some (.int (i / j)) else none) := ⟨fun _ => op_fdivW, ok_rI fun i j c h => by
  split at h
  · rename_i hc
    cases h
    exact ⟨wide_div hc.1 (b := 64) (by have : (2 : Nat) ^ 64 = 18446744073709551616 := by decide
                                       omega) (by decide) (by decide), fun _ => .int _⟩
  · cases h⟩
theorem od_mod : OpD K X (binaryOp .Mod) (rI (fun _ j => 0 < j) fun i j => .int (i % j)) (dI fun i j => if 0 < j then some (.int (i % j)) else none) := ⟨fun _ => op_mod, ok_rI fun i j c h => by
  split at h
  · rename_i hc; cases h; exact ⟨hc, fun _ => .int _⟩
  · cases h⟩
theorem od_lt : OpD K X (compareOp .Lt) (rI0 fun i j => .bl (decide (i < j))) (dIb fun i j => decide (i < j)) := ⟨fun _ => op_lt, ok_rI0 fun i j c h Z => by cases h; exact .bl _⟩
theorem od_gt : OpD K X (compareOp .Gt) (rI0 fun i j => .bl (decide (j < i))) (dIb fun i j => decide (j < i)) := ⟨fun _ => op_gt, ok_rI0 fun i j c h Z => by cases h; exact .bl _⟩
theorem od_ge : OpD K X (compareOp .GtE) (rI0 fun i j => .bl (decide (j ≤ i))) (dIb fun i j => decide (j ≤ i)) := ⟨fun _ => op_ge, ok_rI0 fun i j c h Z => by cases h; exact .bl _⟩
theorem bool_dIb {g : Int → Int → Bool} : boolD (dIb g) := fun d e c h => by
  unfold dIb dI at h
  split at h
  · exact ⟨_, (Option.some.inj h).symm⟩
  · cases h
/-! ### one value in -/
def mUn (g : D → Option D) (m : EM) : EM := bnd m (pur fun d => ret (g d))
/-! ### is None -/
def isN : D → Bool
  | .non => true
  | _ => false
def isNV : DV → Bool
  | .p d => isN d
  | .o _ => false
def mIsN (m : EM) : EM := bnd m fun d s => some (.ok (.p (.bl (isNV d))) s.m)
def mNotN (m : EM) : EM := bnd m fun d s => some (.ok (.p (.bl (!isNV d))) s.m)
theorem so_B {t : TE} {m : EM} (h : Sound K W (RepV K) t m) (hb : ∀ s r, m s = some r → ∀ v M, r = .ok v M → ∃ b, v = .p (.bl b)) : Sound K W RepB (tB t) m := so_test h hb
/-! ### truth -/
def truD : D → Option Bool
  | .non => some false
  | .bl b => some b
  | .int i => some (i != 0)
  | .str y => if y.length ≤ 1000000 then some (!(y.length == 0)) else none
  | .lst xs => some (!xs.isEmpty)
  | .tup xs => some (!xs.isEmpty)
  | .ktup xs => some (!xs.isEmpty)
  | .klst xs => some (!xs.isEmpty)
  | _ => none
def truO : Option O → Option Bool
  | some (.lst xs) => some (!xs.isEmpty)
  | some (.dK xs) => some (!xs.isEmpty)
  | _ => none
def truM (M : List O) : DV → Option Bool
  | .p d => truD d
  | .o n => truO M[n]?
def mTru (m : EM) : EM := bnd m fun d s => match truM s.m d with
  | some b => some (.ok (.p (.bl b)) s.m)
  | none => none
theorem isEmpty_len {α β : Type} {xs : List α} {ys : List β} (h : xs.length = ys.length) : xs.isEmpty = ys.isEmpty := by
  cases xs <;> cases ys <;> first | rfl | cases h
theorem truV_of {Z H : Hp} {I : List Addr} {M : List O} {x : V} {d : DV} {b : Bool} (w : Wf K Z H I M) (h : RepV K Z I x d) (e : truM M d = some b) : TruV K x H b := by
  cases d with
  | o n =>
    obtain ⟨a, ha, rfl⟩ := h
    have e : truO M[n]? = some b := e
    cases q : M[n]? with
    | none => rw [q] at e; cases e
    | some o =>
      rw [q] at e
      cases o with
      | lst xs =>
        obtain ⟨_, ys, h1, h2⟩ := w.ob n a _ ha q (by intro z; cases z)
        cases e
        exact .inl ⟨ys, SqL.of h1, by rw [isEmpty_len (paired_len h2)]⟩
      | dK xs =>
        obtain ⟨_, ys, h1, h2⟩ := w.ob n a _ ha q (by intro z; cases z)
        cases e
        exact .inr (.inr ⟨ys, h1, by rw [isEmpty_len (paired_len h2)]⟩)
      | _ => cases e
  | p d =>
    have h : Rep K Z x d := h
    have e : truD d = some b := e
    cases h with
    | non => cases e; rfl
    | bl k => cases e; rfl
    | int i => cases e; rfl
    | str y =>
      have e : (if y.length ≤ 1000000 then some (!(y.length == 0)) else none) = some b := e
      split at e
      · rename_i hl
        cases e
        refine ⟨size_le hl, ?_⟩
        cases hz : y.length with
        | zero => rfl
        | succ n =>
          have : ¬ ((n : Int) + 1 = 0) := by omega
          simp [this]
      · cases e
    | lst h1 h2 => cases e; exact .inl ⟨_, .inl (same_rd w.sub h1), by rw [isEmpty_len h2.length]⟩
    | tup h1 h2 => cases e; exact .inr (.inl ⟨_, sqt w.sub h1, by rw [isEmpty_len h2.length]⟩)
    | ktup h1 h2 => cases e; exact .inr (.inl ⟨_, same_t w.sub h1, by rw [isEmpty_len h2.length]⟩)
    | klst h1 h2 => cases e; exact .inl ⟨_, same_l w.sub h1, by rw [isEmpty_len h2.length]⟩
    | dK _ _ => cases e
    | dT _ _ => cases e
    | fn _ => cases e
    | clo _ _ => cases e
    | scr _ _ => cases e
    | ty _ => cases e
    | rng _ => cases e
theorem dt_tru {ta : TE} {m : EM} (ha : DE K X W a ta m) (he : ∀ whole, isTrue a X.env whole = (do let v ← whole; standAt a.pos; holding [v] (truthy v)) := by intro _; rfl) : DT K X W a (fun σ H Q => ta σ H fun x H' => ∃ k, TruV K x H' k ∧ Q k H') (mTru m) := by
  refine ⟨ha.k, ?_, ⟨fun σ H s Z I r0 Q w rs e p => ?_⟩⟩
  · rw [← ha.k]; exact pt_truth ha.pe he
  refine ha.so.bnd w rs e (p.x) fun d v M1 Z1 H1 I1 w1 rs1 x1 q1 e1 => ?_
  have e1 : (match truM M1 d with | some b => some (Rs.ok (DV.p (.bl b)) M1) | none => none) = some r0 := e1
  cases q : truM M1 d with
  | none => rw [q] at e1; cases e1
  | some k =>
    rw [q] at e1
    obtain rfl := Option.some.inj e1
    exact ⟨k, truV_of w1 q1 q, p k Z1 H1 I1 w1 x1 rfl⟩
/-! ### and, or, not, if-else -/
def ifM {γ : Type} (n k : Mi γ) : DV → Mi γ
  | .p (.bl true), s => n s
  | .p (.bl false), s => k s
  | _, _ => none
def fls : EM := fun s => some (.ok (.p (.bl false)) s.m)
def tru : EM := fun s => some (.ok (.p (.bl true)) s.m)
def mAnd (m n : EM) : EM := bnd m (ifM n fls)
def mOr (m n : EM) : EM := bnd m (ifM tru n)
def mNot (m : EM) : EM := bnd m (ifM fls tru)
def mIf (c m n : EM) : EM := bnd c (ifM m n)
theorem so_and {t u : TT} {m n : EM} (ha : Sound K W RepB t m) (hb : Sound K W RepB u n) : Sound K W RepB (tAnd t u) (mAnd m n) := ⟨fun σ H s Z I r0 Q w rs e p => by
  refine ha.bnd w rs e (p.x) fun d v M1 Z1 H1 I1 w1 rs1 x1 q1 e1 => ?_
  cases (show d = .p (.bl v) from q1)
  cases v with
  | true => exact hb.ok σ H1 ⟨s.l, M1⟩ Z1 I1 r0 Q w1 rs1 e1 (p.mono x1)
  | false => cases e1; exact p false Z1 H1 I1 w1 x1 rfl⟩
theorem so_or {t u : TT} {m n : EM} (ha : Sound K W RepB t m) (hb : Sound K W RepB u n) : Sound K W RepB (tOr t u) (mOr m n) := ⟨fun σ H s Z I r0 Q w rs e p => by
  refine ha.bnd w rs e (p.x) fun d v M1 Z1 H1 I1 w1 rs1 x1 q1 e1 => ?_
  cases (show d = .p (.bl v) from q1)
  cases v with
  | false => exact hb.ok σ H1 ⟨s.l, M1⟩ Z1 I1 r0 Q w1 rs1 e1 (p.mono x1)
  | true => cases e1; exact p true Z1 H1 I1 w1 x1 rfl⟩
theorem dw_and1 {t : TT} {m : EM} (ha : DT K X W a t m) : DW K X W (.BoolOp .And [a] pos) t m := ⟨ha.k, pw_and1 ha.pt, ha.so⟩
theorem dw_or1 {t : TT} {m : EM} (ha : DT K X W a t m) : DW K X W (.BoolOp .Or [a] pos) t m := ⟨ha.k, pw_or1 ha.pt, ha.so⟩
theorem dw_and {t u : TT} {m n : EM} {rest : List Expr} (ha : DT K X W a t m) (hb : DW K X W (.BoolOp .And (b :: rest) pos) u n) : DW K X W (.BoolOp .And (a :: b :: rest) pos) (tAnd t u) (mAnd m n) := ⟨ha.k, pw_and ha.pt hb.pw, so_and ha.so hb.so⟩
theorem dw_or {t u : TT} {m n : EM} {rest : List Expr} (ha : DT K X W a t m) (hb : DW K X W (.BoolOp .Or (b :: rest) pos) u n) : DW K X W (.BoolOp .Or (a :: b :: rest) pos) (tOr t u) (mOr m n) := ⟨ha.k, pw_or ha.pt hb.pw, so_or ha.so hb.so⟩
theorem dt_w {t : TT} {m : EM} (h : DW K X W a t m) : DT K X W a t m := ⟨h.k, h.pw.pt, h.so⟩
/-- as values -/
theorem so_andV {t u : TE} {m n : EM} (ha : Sound K W (RepV K) t m) (hb : Sound K W (RepV K) u n) : Sound K W (RepV K) (tAndV t u) (mAnd m n) := ⟨fun σ H s Z I r0 Q w rs e p => by
  refine ha.bnd w rs e (p.x) fun d v M1 Z1 H1 I1 w1 rs1 x1 q1 e1 => ?_
  unfold ifM at e1
  split at e1
  · cases q1; exact ⟨true, rfl, by rw [if_pos rfl]; exact hb.ok σ H1 ⟨s.l, M1⟩ Z1 I1 r0 Q w1 rs1 e1 (p.mono x1)⟩
  · cases q1; cases e1; exact ⟨false, rfl, by rw [if_neg Bool.false_ne_true]; exact p _ Z1 H1 I1 w1 x1 (.bl _)⟩
  · cases e1⟩
theorem so_notV {t : TE} {m : EM} (ha : Sound K W (RepV K) t m) : Sound K W (RepV K) (tNotV t) (mNot m) := ⟨fun σ H s Z I r0 Q w rs e p => by
  refine ha.bnd w rs e (p.x) fun d v M1 Z1 H1 I1 w1 rs1 x1 q1 e1 => ?_
  unfold ifM at e1
  split at e1
  · cases q1; cases e1; exact ⟨true, rfl, p _ Z1 H1 I1 w1 x1 (.bl _)⟩
  · cases q1; cases e1; exact ⟨false, rfl, p _ Z1 H1 I1 w1 x1 (.bl _)⟩
  · cases e1⟩
theorem de_one {op} {t : TE} {m : EM} (ha : DE K X W a t m) : DE K X W (.BoolOp op [a] pos) t m := ⟨ha.k, pe_one ha.pe, ha.so⟩
theorem de_and {t u : TE} {m n : EM} {rest : List Expr} (ha : DE K X W a t m) (hb : DE K X W (.BoolOp .And (b :: rest) pos) u n) : DE K X W (.BoolOp .And (a :: b :: rest) pos) (tAndV t u) (mAnd m n) := ⟨ha.k, pe_and ha.pe hb.pe, so_andV ha.so hb.so⟩
theorem de_not {t : TE} {m : EM} (h : DE K X W a t m) : DE K X W (.UnaryOp .Not a pos) (tNotV t) (mNot m) := ⟨h.k, pe_not h.pe, so_notV h.so⟩
theorem so_ifE {t : TT} {ta tb : TE} {m n k : EM} (hc : Sound K W RepB t m) (ha : Sound K W (RepV K) ta n) (hb : Sound K W (RepV K) tb k) : Sound K W (RepV K) (tIf t ta tb) (mIf m n k) := ⟨fun σ H s Z I r0 Q w rs e p => by
  refine hc.bnd w rs e (p.x) fun d v M1 Z1 H1 I1 w1 rs1 x1 q1 e1 => ?_
  cases (show d = .p (.bl v) from q1)
  cases v with
  | true => exact ha.ok σ H1 ⟨s.l, M1⟩ Z1 I1 r0 Q w1 rs1 e1 (p.mono x1)
  | false => exact hb.ok σ H1 ⟨s.l, M1⟩ Z1 I1 r0 Q w1 rs1 e1 (p.mono x1)⟩
theorem de_ifE {t : TT} {ta tb : TE} {m n k : EM} (hc : DT K X W c t m) (ha : DE K X W a ta n) (hb : DE K X W b tb k) : DE K X W (.IfExp c a b pos) (tIf t ta tb) (mIf m n k) := ⟨hc.k, pe_ifExp hc.pt ha.pe hb.pe, so_ifE hc.so ha.so hb.so⟩
/-! ### a chain of two comparisons -/
def mChain (g h : D → D → Option D) (m n k : EM) : EM := bnd m (pur fun d => bnd n (pur fun e => bnd (ret (g d e)) (ifM (bnd k (pur fun f => ret (h e f))) fls)))
end
end DL
namespace DL
open PySem L2
section
variable {K : PySem.W.Frag} {Z H Z' H' : Hp} {I I' : List Addr} {M : List O}
/-! ### the store's steps -/
theorem RepO.ext {a : Addr} (x : Ext Z H I Z' H' I') (ha : H' a = H a) : ∀ {o : O}, RepO K Z I H a o → RepO K Z' I' H' a o
  | .lst _, ⟨xs, h, r⟩ => ⟨xs, ha.trans h, paired_imp (fun _ _ q => RepV.mono x q) r⟩
  | .dK _, ⟨xs, h, r⟩ => ⟨xs, ha.trans h, paired_imp (fun _ _ q => ⟨q.1, RepV.mono x q.2⟩) r⟩
  | .dT _, ⟨xs, h, r⟩ => ⟨xs, ha.trans h, paired_imp (fun _ _ q => ⟨q.1, RepV.mono x q.2⟩) r⟩
  | .ins _ _, ⟨dx, xs, h, r⟩ => ⟨dx, xs, ha.trans h, paired_imp (fun _ _ q => ⟨q.1, RepV.mono x q.2⟩) r⟩
  | .tbl _ _, ⟨e, ps, h, t, r⟩ => ⟨e, ps, ha.trans h, t, fun pos cv hc => by
      obtain ⟨c, h1, h2⟩ := r pos cv hc
      exact ⟨c, h1, x.z _ _ h2⟩⟩
  | .gone, _ => trivial
theorem ext_new {p : Addr} {o : HO} (s : Same Z H) (h : H p = none) : Ext Z H I Z (upd H p o) (I ++ [p]) where
  z := Same.refl _
  i := ⟨[p], rfl⟩
  fr := fun a u e _ => by rw [upd_ne (ne_of_none e h)]; exact e
  nw := fun a m => by
    rcases List.mem_append.mp m with k | k
    · exact .inl k
    · rw [List.mem_singleton.mp k]; exact .inr h
  zn := fun a e => .inl e
  tr := fun a e => by
    rw [upd_ne (fun q => e (by rw [q]; exact h))]; exact e
theorem Wf.newO (w : Wf K Z H I M) {p : Addr} {ho : HO} {o : O} (hp : H p = none) (r : RepO K Z (I ++ [p]) (upd H p ho) p o) : Wf K Z (upd H p ho) (I ++ [p]) (M ++ [o]) where
  sub := fun a u e => by rw [upd_ne (ne_of_none (w.sub a u e) hp)]; exact w.sub a u e
  len := by rw [List.length_append, List.length_append, w.len]; rfl
  nd := by
    refine List.nodup_append.mpr ⟨w.nd, by simp, fun a ha b hb => ?_⟩
    rw [List.mem_singleton.mp hb]
    intro q
    exact w.tr a ha (by rw [q]; exact hp)
  tr := fun a m => by
    rcases List.mem_append.mp m with k | k
    · rw [upd_ne (fun q => w.tr a k (by rw [q]; exact hp))]; exact w.tr a k
    · rw [List.mem_singleton.mp k, upd_same]; simp
  ob := fun n a o' h1 h2 h3 => by
    by_cases hn : n < I.length
    · rw [List.getElem?_append_left hn] at h1
      rw [List.getElem?_append_left (by rw [← w.len]; exact hn)] at h2
      obtain ⟨q1, q2⟩ := w.ob n a o' h1 h2 h3
      exact ⟨q1, q2.ext (ext_new w.sub hp) (upd_ne fun q => w.tr a (List.mem_of_getElem? h1) (by rw [q]; exact hp))⟩
    · have e1 : n = I.length := by
        have := (List.getElem?_eq_some_iff.mp h1).1
        rw [List.length_append, List.length_singleton] at this
        omega
      subst e1
      rw [List.getElem?_append_right (Nat.le_refl _), Nat.sub_self] at h1
      rw [List.getElem?_append_right (by rw [w.len]; exact Nat.le_refl _), w.len, Nat.sub_self] at h2
      cases h1
      cases h2
      exact ⟨none_of w.sub hp, r⟩
theorem ext_set {a : Addr} {ho : HO} (ha : a ∈ I) : Ext Z H I Z (upd H a ho) I where
  z := Same.refl _
  i := ⟨[], by simp⟩
  fr := fun b u e n => by rw [upd_ne (fun q => n (by rw [q]; exact ha))]; exact e
  nw := fun _ m => .inl m
  zn := fun _ e => .inl e
  tr := fun b e => by
    by_cases q : b = a
    · rw [q, upd_same]; simp
    · rw [upd_ne q]; exact e
theorem Wf.setO (w : Wf K Z H I M) {n : Nat} {a : Addr} {ho : HO} {o o' : O} (ha : I[n]? = some a) (hm : M[n]? = some o) (hg : o ≠ .gone) (r : RepO K Z I (upd H a ho) a o') : Wf K Z (upd H a ho) I (M.set n o') where
  sub := fun b u e => by
    have q := (w.ob n a o ha hm hg).1
    rw [upd_ne (fun z => by rw [z, q] at e; cases e)]; exact w.sub b u e
  len := by rw [List.length_set]; exact w.len
  nd := w.nd
  tr := fun b m => (ext_set (Z := Z) (I := I) (List.mem_of_getElem? ha)).tr b (w.tr b m)
  ob := fun j b u h1 h2 h3 => by
    by_cases q : n = j
    · subst q
      rw [ha] at h1; cases h1
      rw [List.getElem?_set_self (List.getElem?_eq_some_iff.mp hm).1] at h2
      cases h2
      exact ⟨(w.ob n a o ha hm hg).1, r⟩
    · rw [List.getElem?_set_ne q] at h2
      obtain ⟨q1, q2⟩ := w.ob j b u h1 h2 h3
      refine ⟨q1, q2.ext (ext_set (List.mem_of_getElem? ha)) (upd_ne fun z => ?_)⟩
      obtain ⟨l1, e1⟩ := List.getElem?_eq_some_iff.mp ha
      obtain ⟨l2, e2⟩ := List.getElem?_eq_some_iff.mp h1
      exact q ((List.getElem_inj w.nd).mp (e1.trans (z.symm.trans e2.symm)))
def allP : List DV → Option (List D)
  | [] => some []
  | .p d :: r => (allP r).map (d :: ·)
  | .o _ :: _ => none
theorem allP_rep : ∀ {vs : List V} {ds : List DV} {xs : List D}, RepVs K Z I vs ds → allP ds = some xs → RepA K Z vs xs
  | _, [], _, .nil, e => by cases e; exact .nil
  | _, .p d :: r, _, .cons h t, e => by
    have e : (allP r).map (d :: ·) = some _ := e
    cases q : allP r with
    | none => rw [q] at e; cases e
    | some ys =>
      rw [q] at e; cases e
      exact .cons h (allP_rep t q)
  | _, .o n :: r, _, .cons h t, e => by cases e
theorem allP_map : ∀ {vs : List V} {xs : List D}, RepA K Z vs xs → RepVs K Z I vs (xs.map .p)
  | _, _, .nil => .nil
  | _, _, .cons h t => .cons h (allP_map t)
/-- one's own list is given up: from now on it stays -/
theorem ext_frz {n : Nat} {a : Addr} {ho : HO} (w : Wf K Z H I M) (ha : I[n]? = some a) (hz : Z a = none) (hh : H a = some ho) : Ext Z H I (upd Z a ho) H I where
  z := same_upd hz
  i := ⟨[], by simp⟩
  fr := fun _ _ e _ => e
  nw := fun _ m => .inl m
  zn := fun b e => by
    by_cases q : b = a
    · rw [q]; exact .inr (.inr (List.mem_of_getElem? ha))
    · rw [upd_ne q] at e; exact .inl e
  tr := fun _ e => e
theorem Wf.frz (w : Wf K Z H I M) {n : Nat} {a : Addr} {ho : HO} {o : O} (ha : I[n]? = some a) (hm : M[n]? = some o) (hg : o ≠ .gone) (hh : H a = some ho) : Wf K (upd Z a ho) H I (M.set n .gone) where
  sub := fun b u e => by
    by_cases q : b = a
    · rw [q, upd_same] at e; rw [q, hh]; exact e
    · rw [upd_ne q] at e; exact w.sub b u e
  len := by rw [List.length_set]; exact w.len
  nd := w.nd
  tr := w.tr
  ob := fun j b u h1 h2 h3 => by
    by_cases q : n = j
    · subst q
      rw [List.getElem?_set_self (List.getElem?_eq_some_iff.mp hm).1] at h2
      cases h2
      exact absurd rfl h3
    · rw [List.getElem?_set_ne q] at h2
      obtain ⟨q1, q2⟩ := w.ob j b u h1 h2 h3
      have hz := (w.ob n a o ha hm hg).1
      refine ⟨?_, q2.ext (ext_frz w ha hz hh) rfl⟩
      rw [upd_ne fun z => ?_]
      · exact q1
      obtain ⟨l1, e1⟩ := List.getElem?_eq_some_iff.mp ha
      obtain ⟨l2, e2⟩ := List.getElem?_eq_some_iff.mp h1
      exact q ((List.getElem_inj w.nd).mp (e1.trans (z.symm.trans e2.symm)))
end
section
variable {K : PySem.W.Frag} {X : Cx} {W : WX} {e a b c : Expr} {es : List Expr} {pos : Pos}
/-! ### argument lists, displays -/
def aNil : AM := fun s => some (.ok [] s.m)
def aCons (m : EM) (ms : AM) : AM := bnd m fun d => bnd ms fun ds s => some (.ok (d :: ds) s.m)
theorem so_aNil : Sound K W (RepVs K) tNil aNil := ⟨fun σ H s Z I r Q w rs e p => by
  obtain rfl := Option.some.inj e
  exact p [] Z H I w Ext.refl .nil⟩
theorem so_aCons {ta : TE} {tr : TA} {m : EM} {ms : AM} (ha : Sound K W (RepV K) ta m) (hr : Sound K W (RepVs K) tr ms) : Sound K W (RepVs K) (tCons ta tr) (aCons m ms) := ⟨fun σ H s Z I r0 Q w rs e p => by
  refine ha.bnd w rs e (p.x) fun d v M1 Z1 H1 I1 w1 rs1 x1 q1 e1 => ?_
  have p1 := p.mono x1
  refine hr.bnd (s := ⟨s.l, M1⟩) w1 rs1 e1 (p1.x) fun ds vs M2 Z2 H2 I2 w2 rs2 x2 q2 e2 => ?_
  obtain rfl := Option.some.inj e2
  exact p1 _ Z2 H2 I2 w2 x2 (.cons (q1.mono x2) q2)⟩
theorem da_nil (k : X.K = K := by rfl) : DA K X W [] tNil aNil := ⟨k, pa_nil, so_aNil⟩
theorem da_cons {ta : TE} {tr : TA} {m : EM} {ms : AM} (ha : DE K X W e ta m) (hr : DA K X W es tr ms) (hs : starEach (e :: es) X.env = (false, eval e X.env) :: starEach es X.env := by rfl) : DA K X W (e :: es) (tCons ta tr) (aCons m ms) :=
  ⟨ha.k, pa_cons ha.pe hr.pa hs, so_aCons ha.so hr.so⟩
def disp (g : List D → D) (ms : AM) : EM := bnd ms fun ds s => match allP ds with
  | some xs => if xs.length ≤ 1000000 then some (.ok (.p (g xs)) s.m) else none
  | none => none
theorem so_tup {t : TA} {ms : AM} (h : Sound K W (RepVs K) t ms) : Sound K W (RepV K) (tTup t) (disp .tup ms) := ⟨fun σ H s Z I r0 Q w rs e p => by
  refine h.bnd w rs e (p.x) fun ds vs M1 Z1 H1 I1 w1 rs1 x1 q1 e1 => ?_
  have e1 : (match allP ds with | some xs => if xs.length ≤ 1000000 then some (Rs.ok (DV.p (D.tup xs)) M1) else none | none => none) = some r0 := e1
  cases q : allP ds with
  | none => rw [q] at e1; cases e1
  | some xs =>
    rw [q] at e1
    have e1 : (if xs.length ≤ 1000000 then some (Rs.ok (DV.p (D.tup xs)) M1) else none) = some r0 := e1
    split at e1
    · rename_i hl
      obtain rfl := Option.some.inj e1
      have ra := allP_rep q1 q
      refine ⟨by rw [ra.length]; exact size_le hl, fun l hl => ?_⟩
      have y := ExtP.new (o := .tup vs) w1.sub hl
      exact (p.mono x1) _ _ _ I1 (w1.extP y) (y.ext w1) (.tup upd_same (ra.mono y.z))
    · cases e1⟩
theorem so_lst {t : TA} {ms : AM} (h : Sound K W (RepVs K) t ms) : Sound K W (RepV K) (tLst t) (disp .lst ms) := ⟨fun σ H s Z I r0 Q w rs e p => by
  refine h.bnd w rs e (p.x) fun ds vs M1 Z1 H1 I1 w1 rs1 x1 q1 e1 => ?_
  have e1 : (match allP ds with | some xs => if xs.length ≤ 1000000 then some (Rs.ok (DV.p (D.lst xs)) M1) else none | none => none) = some r0 := e1
  cases q : allP ds with
  | none => rw [q] at e1; cases e1
  | some xs =>
    rw [q] at e1
    have e1 : (if xs.length ≤ 1000000 then some (Rs.ok (DV.p (D.lst xs)) M1) else none) = some r0 := e1
    split at e1
    · rename_i hl
      obtain rfl := Option.some.inj e1
      have ra := allP_rep q1 q
      refine ⟨by rw [ra.length]; exact size_le hl, fun l hl => ?_⟩
      have y := ExtP.new (o := .lst vs) w1.sub hl
      exact (p.mono x1) _ _ _ I1 (w1.extP y) (y.ext w1) (.lst (.inl upd_same) (ra.mono y.z))
    · cases e1⟩
def dispO (ms : AM) : EM := bnd ms fun ds s => if ds.length ≤ 1000000 then some (.ok (.o s.m.length) (s.m ++ [.lst ds])) else none
theorem so_lstO {t : TA} {ms : AM} (h : Sound K W (RepVs K) t ms) : Sound K W (RepV K) (tLst t) (dispO ms) := ⟨fun σ H s Z I r0 Q w rs e p => by
  refine h.bnd w rs e (p.x) fun ds vs M1 Z1 H1 I1 w1 rs1 x1 q1 e1 => ?_
  have e1 : (if ds.length ≤ 1000000 then some (Rs.ok (DV.o M1.length) (M1 ++ [.lst ds])) else none) = some r0 := e1
  split at e1
  · rename_i hl
    obtain rfl := Option.some.inj e1
    refine ⟨by rw [paired_len q1]; exact size_le hl, fun l hp => ?_⟩
    have y := ext_new (I := I1) (o := .lst vs) w1.sub hp
    refine (p.mono x1) _ Z1 _ (I1 ++ [l]) (w1.newO hp ⟨vs, upd_same, paired_imp (fun _ _ q => RepV.mono y q) q1⟩) y ⟨l, ?_, rfl⟩
    rw [← w1.len, List.getElem?_append_right (Nat.le_refl _), Nat.sub_self]
    rfl
  · cases e1⟩
theorem de_tup {t : TA} {ms : AM} {x1} (h : DA K X W es t ms) : DE K X W (.Tuple es x1 pos) (tTup t) (disp .tup ms) := ⟨h.k, pe_tup h.pa, so_tup h.so⟩
theorem de_lst {t : TA} {ms : AM} (h : DA K X W es t ms) : DE K X W (.List es pos) (tLst t) (disp .lst ms) := ⟨h.k, pe_lst h.pa, so_lst h.so⟩
theorem de_lstO {t : TA} {ms : AM} (h : DA K X W es t ms) : DE K X W (.List es pos) (tLst t) (dispO ms) := ⟨h.k, pe_lst h.pa, so_lstO h.so⟩
/-! ### an item -/
def ixD : D → Int → Option D
  | .lst xs, i => atI xs i
  | .tup xs, i => atI xs i
  | .ktup xs, i => atI xs i
  | .klst xs, i => atI xs i
  | .str z, i => if z.length ≤ 1000000 then (atI z.cps.toList i).map fun c => .str ⟨#[c]⟩ else none
  | _, _ => none
def ixO : Option O → Int → Option DV
  | some (.lst xs), i => atI xs i
  | _, _ => none
def ixM (M : List O) : DV → Int → Option DV
  | .p d, i => (ixD d i).map .p
  | .o n, i => ixO M[n]? i
def mIx (m n : EM) : EM := bnd m fun d => bnd n (pur fun i s => match i with
  | .int i => match ixM s.m d i with
    | some c => some (.ok c s.m)
    | none => none
  | _ => none)
theorem atI_get {α : Type} {xs : List α} {i : Int} {x : α} (h : atI xs i = some x) : ∃ j, ixN xs.length i = some j ∧ xs[j]? = some x := by
  unfold atI at h
  cases q : ixN xs.length i with
  | none => rw [q] at h; cases h
  | some j => rw [q] at h; exact ⟨j, rfl, h⟩
theorem atI_rep {Z : Hp} {xs : List V} {ds : List D} {i : Int} {d : D} (r : RepA K Z xs ds) (h : atI ds i = some d) : ∃ v, atI xs i = some v ∧ Rep K Z v d := by
  obtain ⟨j, h1, h2⟩ := atI_get h
  obtain ⟨v, h3, h4⟩ := r.get h2
  exact ⟨v, by unfold atI; rw [r.length, h1]; exact h3, h4⟩
theorem atI_repV {Z : Hp} {I : List Addr} {xs : List V} {ds : List DV} {i : Int} {d : DV} (r : RepVs K Z I xs ds) (h : atI ds i = some d) : ∃ v, atI xs i = some v ∧ RepV K Z I v d := by
  obtain ⟨j, h1, h2⟩ := atI_get h
  obtain ⟨v, h3, h4⟩ := paired_get r h2
  exact ⟨v, by unfold atI; rw [paired_len r, h1]; exact h3, h4⟩
theorem ix_ok {Z H : Hp} {I : List Addr} {M : List O} {x : V} {d c : DV} {i : Int} {Q : VK} (w : Wf K Z H I M) (h : RepV K Z I x d) (e : ixM M d i = some c) (q : ∀ v, RepV K Z I v c → Q v H) : rIx K x (.int i) H Q := by
  cases d with
  | o n =>
    obtain ⟨a, ha, rfl⟩ := h
    have e : ixO M[n]? i = some c := e
    cases z : M[n]? with
    | none => rw [z] at e; cases e
    | some o =>
      rw [z] at e
      cases o with
      | lst xs =>
        obtain ⟨_, ys, h1, h2⟩ := w.ob n a _ ha z (by intro z; cases z)
        obtain ⟨v, h3, h4⟩ := atI_repV h2 e
        exact .inl ⟨_, ys, i, v, rfl, rfl, SqL.of h1, h3, q v h4⟩
      | _ => cases e
  | p d =>
    have h : Rep K Z x d := h
    have e : (ixD d i).map .p = some c := e
    cases z : ixD d i with
    | none => rw [z] at e; cases e
    | some c' =>
    rw [z] at e; cases e
    cases h with
    | lst h1 h2 =>
      obtain ⟨v, h3, h4⟩ := atI_rep h2 (show atI _ i = some c' from z)
      exact .inl ⟨_, _, i, v, rfl, rfl, .inl (same_rd w.sub h1), h3, q v h4⟩
    | tup h1 h2 =>
      obtain ⟨v, h3, h4⟩ := atI_rep h2 (show atI _ i = some c' from z)
      exact .inr (.inl ⟨_, _, i, v, rfl, rfl, sqt w.sub h1, h3, q v h4⟩)
    | ktup h1 h2 =>
      obtain ⟨v, h3, h4⟩ := atI_rep h2 (show atI _ i = some c' from z)
      exact .inr (.inl ⟨_, _, i, v, rfl, rfl, same_t w.sub h1, h3, q v h4⟩)
    | klst h1 h2 =>
      obtain ⟨v, h3, h4⟩ := atI_rep h2 (show atI _ i = some c' from z)
      exact .inl ⟨_, _, i, v, rfl, rfl, same_l w.sub h1, h3, q v h4⟩
    | str y =>
      have z : (if y.length ≤ 1000000 then (atI y.cps.toList i).map fun c => D.str ⟨#[c]⟩ else none) = some c' := z
      split at z
      · rename_i hl
        cases z2 : atI y.cps.toList i with
        | none => rw [z2] at z; cases z
        | some k =>
          rw [z2] at z; cases z
          exact .inr (.inr ⟨y, i, k, rfl, rfl, size_le hl, z2, q _ (.str _)⟩)
      · cases z
    | _ => cases z
theorem so_ix {ta tb : TE} {m n : EM} (ha : Sound K W (RepV K) ta m) (hb : Sound K W (RepV K) tb n) : Sound K W (RepV K) (tOp (rIx K) ta tb) (mIx m n) := ⟨fun σ H s Z I r0 Q w rs e p => by
  refine ha.bnd w rs e (p.x) fun d v M1 Z1 H1 I1 w1 rs1 x1 q1 e1 => ?_
  have p1 := p.mono x1
  refine hb.bnd (s := ⟨s.l, M1⟩) w1 rs1 e1 (p1.x) fun d2 v2 M2 Z2 H2 I2 w2 rs2 x2 q2 e2 => ?_
  obtain ⟨d2, rfl, e2⟩ := pur_ok e2
  have p2 := p1.mono x2
  cases d2 with
  | int i =>
    have e2 : (match ixM M2 d i with | some c => some (Rs.ok c M2) | none => none) = some r0 := e2
    cases q2
    cases z : ixM M2 d i with
    | none => rw [z] at e2; cases e2
    | some c =>
      rw [z] at e2; cases e2
      exact ix_ok w2 (q1.mono x2) z fun v r => p2 v Z2 H2 I2 w2 Ext.refl r
  | _ => cases e2⟩
theorem de_ix {ta tb : TE} {m n : EM} (ha : DE K X W a ta m) (hb : DE K X W b tb n) (hs : PlainIx b := by exact fun _ _ => rfl) : DE K X W (.Subscript a b pos) (tOp (rIx K) ta tb) (mIx m n) := by
  refine ⟨ha.k, ?_, so_ix ha.so hb.so⟩
  have h := pe_ix (X := X) (pos := pos) ix_seq ha.pe hb.pe hs
  rw [ha.k] at h
  exact h
/-! ### built-in calls -/
structure CallD (K : PySem.W.Frag) (X : Cx) (f : Value) (r : List V → Hp → VK → Prop) (g : List O → List DV → Option D) : Prop where
  op : X.K = K → CallR X f r
  ok : ∀ (vs : List V) (ds : List DV) (c : D) (Z H : Hp) (I : List Addr) (M : List O) (Q : VK), Wf K Z H I M → RepVs K Z I vs ds → g M ds = some c → PostP K Z H c Q → r vs H Q
def mCB (g : List O → List DV → Option D) (ms : AM) : EM := bnd ms fun ds s => ret (g s.m ds) s
theorem so_cb {r : List V → Hp → VK → Prop} {g : List O → List DV → Option D} {t : TA} {ms : AM} (h : ∀ (vs : List V) (ds : List DV) (c : D) (Z H : Hp) (I : List Addr) (M : List O) (Q : VK), Wf K Z H I M → RepVs K Z I vs ds → g M ds = some c → PostP K Z H c Q → r vs H Q)
    (ha : Sound K W (RepVs K) t ms) : Sound K W (RepV K) (tCB r t) (mCB g ms) := ⟨fun σ H s Z I r0 Q w rs e p => by
  refine ha.bnd w rs e (p.x) fun ds vs M1 Z1 H1 I1 w1 rs1 x1 q1 e1 => ?_
  obtain ⟨c, q, rfl⟩ := ret_ok e1
  exact h vs ds c Z1 H1 I1 M1 Q w1 q1 q (PostP.of w1 (p.mono x1))⟩
theorem de_callB {id : String} {r : List V → Hp → VK → Prop} {g : List O → List DV → Option D} {t : TA} {ms : AM} {x : Str} {p : Pos} (h : CallD K X (.builtin id) r g) (hm : X.mg x = none) (ha : DA K X W (e :: es) t ms) (hv : bootBuiltins x = some (.builtin id) := by decide +kernel) (hg : Gl X x := by rfl) (hn : x ≠ "__name__" := by decide) (hdb : (x == ("__debug__" : Str)) = false := by decide)
    (he : starEach (e :: es) X.env = (false, eval e X.env) :: starEach es X.env := by rfl) (hpl : (backTo pos (starEach es X.env)).any (·.1) = false := by rfl) : DE K X W (.Call (.Name x p) (e :: es) [] pos) (tCB r t) (mCB g ms) :=
  ⟨ha.k, pe_callB (h.op ha.k) hg hm hv ha.pa hn hdb he hpl, so_cb h.ok ha.so⟩
theorem de_callTy {T : String} {r : List V → Hp → VK → Prop} {g : List O → List DV → Option D} {t : TA} {ms : AM} {x : Str} {p : Pos} (h : CallD K X (.type T) r g) (hm : X.mg x = none) (ha : DA K X W (e :: es) t ms) (hv : bootBuiltins x = some (.type T) := by decide +kernel) (hg : Gl X x := by rfl) (hn : x ≠ "__name__" := by decide) (hdb : (x == ("__debug__" : Str)) = false := by decide)
    (he : starEach (e :: es) X.env = (false, eval e X.env) :: starEach es X.env := by rfl) (hpl : (backTo pos (starEach es X.env)).any (·.1) = false := by rfl) : DE K X W (.Call (.Name x p) (e :: es) [] pos) (tCB r t) (mCB g ms) :=
  ⟨ha.k, pe_callTy (h.op ha.k) hg hm hv ha.pa hn hdb he hpl, so_cb h.ok ha.so⟩
def g1 (g : D → Option D) : List O → List DV → Option D
  | _, [.p d] => g d
  | _, _ => none
theorem g1_ok {r : List V → Hp → VK → Prop} {g : D → Option D} (h : ∀ (x : V) (d c : D) (Z H : Hp) (Q : VK), Same Z H → Rep K Z x d → g d = some c → PostP K Z H c Q → r [x] H Q) :
    ∀ (vs : List V) (ds : List DV) (c : D) (Z H : Hp) (I : List Addr) (M : List O) (Q : VK), Wf K Z H I M → RepVs K Z I vs ds → g1 g M ds = some c → PostP K Z H c Q → r vs H Q := by
  intro vs ds c Z H I M Q w rv hg p
  unfold g1 at hg
  split at hg
  · cases rv with
    | cons h1 h2 =>
      cases h2
      exact h _ _ c Z H Q w.sub h1 hg p
  · cases hg
def dAbs : D → Option D
  | .int i => some (.int (if i < 0 then -i else i))
  | _ => none
theorem cd_abs : CallD K X (.builtin "abs") (fun xs H Q => ∃ i, xs = [.int i] ∧ Q (.int (if i < 0 then -i else i)) H) (g1 dAbs) := ⟨fun _ => call_abs, g1_ok fun x d c Z H Q s hx hg p => by
  unfold dAbs at hg
  split at hg
  · cases hx; cases hg; exact ⟨_, rfl, p _ Z H (ExtP.refl s) (.int _)⟩
  · cases hg⟩
def dInt : D → Option D
  | .int i => some (.int i)
  | .bl b => some (.int (if b then 1 else 0))
  | _ => none
theorem cd_int : CallD K X (.type "int") (fun xs H Q => (∃ i, xs = [.int i] ∧ Q (.int i) H) ∨ ∃ k, xs = [.bl k] ∧ Q (.int (if k then 1 else 0)) H) (g1 dInt) := ⟨fun _ => call_int1, g1_ok fun x d c Z H Q s hx hg p => by
  unfold dInt at hg
  split at hg
  · cases hx; cases hg; exact .inl ⟨_, rfl, p _ Z H (ExtP.refl s) (.int _)⟩
  · cases hx; cases hg; exact .inr ⟨_, rfl, p _ Z H (ExtP.refl s) (.int _)⟩
  · cases hg⟩
def lenD : D → Option Nat
  | .lst xs => some xs.length
  | .tup xs => some xs.length
  | .ktup xs => some xs.length
  | .klst xs => some xs.length
  | .str y => if y.length ≤ 1000000 then some y.length else none
  | _ => none
def lenO : Option O → Option Nat
  | some (.lst xs) => some xs.length
  | _ => none
def lenM (M : List O) : DV → Option Nat
  | .p d => lenD d
  | .o n => lenO M[n]?
def dLen : List O → List DV → Option D
  | M, [d] => Option.map (fun (n : Nat) => D.int (n : Int)) (lenM M d)
  | _, _ => none
theorem cd_len : CallD K X (.builtin "len") (fun xs H Q => ∃ x n, xs = [x] ∧ LenV K x H n ∧ Q (.int n) H) dLen := ⟨fun k => by rw [← k]; exact call_len, fun vs ds c Z H I M Q w rv hg p => by
  unfold dLen at hg
  split at hg
  · rename_i d
    cases rv with
    | cons h1 h2 =>
    cases h2
    cases z : lenM M d with
    | none => rw [z] at hg; cases hg
    | some n =>
      rw [z] at hg; cases hg
      refine ⟨_, n, rfl, ?_, p _ Z H (ExtP.refl w.sub) (.int _)⟩
      cases d with
      | o j =>
        obtain ⟨a, ha, rfl⟩ := h1
        have z : lenO M[j]? = some n := z
        cases y : M[j]? with
        | none => rw [y] at z; cases z
        | some o =>
          rw [y] at z
          cases o with
          | lst xs =>
            obtain ⟨_, ys, g1, g2⟩ := w.ob j a _ ha y (by intro z; cases z)
            cases z
            exact .inl ⟨ys, SqL.of g1, (paired_len g2).symm⟩
          | _ => cases z
      | p d =>
        have h1 : Rep K Z _ d := h1
        have z : lenD d = some n := z
        cases h1 with
        | lst g1 g2 => cases z; exact .inl ⟨_, .inl (same_rd w.sub g1), g2.length.symm⟩
        | tup g1 g2 => cases z; exact .inr ⟨_, sqt w.sub g1, g2.length.symm⟩
        | ktup g1 g2 => cases z; exact .inr ⟨_, same_t w.sub g1, g2.length.symm⟩
        | klst g1 g2 => cases z; exact .inl ⟨_, same_l w.sub g1, g2.length.symm⟩
        | str y =>
          have z : (if y.length ≤ 1000000 then some y.length else none) = some n := z
          split at z
          · rename_i hl
            cases z
            exact ⟨size_le hl, rfl⟩
          · cases z
        | _ => cases z
  · cases hg⟩
end
end DL
namespace DL
open PySem L2
/-! ### defs: by data alone (A), with objects of one's own (B) -/
inductive RD where
  | ok (d : D) | ex (c : Addr) (fs : List (Str × D))
abbrev MA := List D → Option RD
def spA (K : PySem.W.Frag) (n : Nat) (f : MA) : Sp := fun vs H Q E => vs.length = n ∧ ∃ Z ds r, Same Z H ∧ RepA K Z vs ds ∧ f ds = some r ∧ (match r with
  | .ok d => PostP K Z H d Q
  | .ex c fs => ∀ d Z' H', ExtP Z H Z' H' → ExcAt K Z' H' d fs → (∀ a, d = some a → H a = none) → E (.ref c) d H')
def spB (K : PySem.W.Frag) (n : Nat) (f : List DV → List O → Option (Rs DV)) : Sp := fun vs H Q E => vs.length = n ∧ ∃ Z I M ds r, Wf K Z H I M ∧ RepVs K Z I vs ds ∧ f ds M = some r ∧ (match r with
  | .ok dv M' => ∀ v Z' H' I', Wf K Z' H' I' M' → Ext Z H I Z' H' I' → RepV K Z' I' v dv → Q v H'
  | .ex c fs M' => ∀ d Z' H' I', Wf K Z' H' I' M' → Ext Z H I Z' H' I' → ExcAt K Z' H' d fs → (∀ a, d = some a → H a = none ∧ a ∉ I') → E (.ref c) d H')
theorem spA_len {K : PySem.W.Frag} {n : Nat} {f : MA} : ∀ vs H Q E, spA K n f vs H Q E → vs.length = n := fun _ _ _ _ h => h.1
theorem spB_len {K : PySem.W.Frag} {n : Nat} {f : List DV → List O → Option (Rs DV)} : ∀ vs H Q E, spB K n f vs H Q E → vs.length = n := fun _ _ _ _ h => h.1
section
variable {K : PySem.W.Frag} {X : Cx} {W : WX} {e a b c : Expr} {es : List Expr} {pos : Pos}
/-! ### calls of defs -/
def mCallA (n : Nat) (f : MA) (ms : AM) : EM := bnd ms fun ds s => if ds.length = n then match allP ds with
  | some xs => match f xs with
    | some (.ok d) => some (.ok (.p d) s.m)
    | some (.ex c fs) => some (.ex c fs s.m)
    | none => none
  | none => none else none
def mCallB (n : Nat) (f : List DV → List O → Option (Rs DV)) (ms : AM) : EM := bnd ms fun ds s => if ds.length = n then f ds s.m else none
theorem so_callA {n : Nat} {f : MA} {t : TA} {ms : AM} (ha : Sound K W (RepVs K) t ms) : Sound K W (RepV K) (tCallS (spA K n f) (fun σ => WE W σ) t) (mCallA n f ms) := ⟨fun σ H s Z I r0 Q w rs e p => by
  refine ha.bnd w rs e (p.x) fun ds vs M1 Z1 H1 I1 w1 rs1 x1 q1 e1 => ?_
  have p1 := p.mono x1
  have e1 : (if ds.length = n then match allP ds with
    | some xs => match f xs with
      | some (.ok d) => some (Rs.ok (DV.p d) M1)
      | some (.ex c fs) => some (Rs.ex c fs M1)
      | none => none
    | none => none else none) = some r0 := e1
  split at e1
  · rename_i hl
    cases z : allP ds with
    | none => rw [z] at e1; cases e1
    | some xs =>
      rw [z] at e1
      have e1 : (match f xs with
        | some (.ok d) => some (Rs.ok (DV.p d) M1)
        | some (.ex c fs) => some (Rs.ex c fs M1)
        | none => none) = some r0 := e1
      have ra := allP_rep q1 z
      cases y : f xs with
      | none => rw [y] at e1; cases e1
      | some r =>
        rw [y] at e1
        refine ⟨by rw [paired_len q1]; exact hl, Z1, xs, r, w1.sub, ra, y, ?_⟩
        cases r with
        | ok d => cases e1; exact PostP.of w1 p1
        | ex c fs =>
          cases e1
          intro d Z2 H2 x2 ea na
          exact p1 d Z2 H2 I1 (w1.extP x2) (x2.ext w1) ea fun b q => ⟨na b q, fun m => w1.tr b m (na b q)⟩
  · cases e1⟩
theorem so_callB {n : Nat} {f : List DV → List O → Option (Rs DV)} {t : TA} {ms : AM} (ha : Sound K W (RepVs K) t ms) : Sound K W (RepV K) (tCallS (spB K n f) (fun σ => WE W σ) t) (mCallB n f ms) := ⟨fun σ H s Z I r0 Q w rs e p => by
  refine ha.bnd w rs e (p.x) fun ds vs M1 Z1 H1 I1 w1 rs1 x1 q1 e1 => ?_
  have p1 := p.mono x1
  have e1 : (if ds.length = n then f ds M1 else none) = some r0 := e1
  split at e1
  · rename_i hl
    refine ⟨by rw [paired_len q1]; exact hl, Z1, I1, M1, ds, r0, w1, q1, e1, ?_⟩
    cases r0 with
    | ok d M' => exact p1
    | ex c fs M' => exact p1
  · cases e1⟩
theorem de_callA {n k : Nat} {f : MA} {fa : Addr} {fd : FuncData} {ps : List Str} {t : TA} {ms : AM} {x : Str} {p : Pos} (F : FnOk X.prog X.w K X.mg X.base (L2.CX X.prog X.w) k fa fd ps (spA K n f)) (hr : Room k X.A) (tk : Takes X W) (hm : X.mg x = some (.ref fa)) (hk : PySem.W.keepIn K (.ref fa) = true) (hb : Binds K fd ps [])
    (ha : DA K X W (e :: es) t ms) (hg : Gl X x := by rfl) (hdb : (x == ("__debug__" : Str)) = false := by decide) (he : starEach (e :: es) X.env = (false, eval e X.env) :: starEach es X.env := by rfl) (hpl : (backTo pos (starEach es X.env)).any (·.1) = false := by rfl) :
    DE K X W (.Call (.Name x p) (e :: es) [] pos) (tCallS (spA K n f) (fun σ => WE W σ) t) (mCallA n f ms) := by
  have k := ha.k
  subst k
  exact ⟨rfl, pe_callS F hr hg hm hk hb (fun σ => passAt tk σ) ha.pa hdb he hpl, so_callA ha.so⟩
theorem de_callB' {n k : Nat} {f : List DV → List O → Option (Rs DV)} {fa : Addr} {fd : FuncData} {ps : List Str} {t : TA} {ms : AM} {x : Str} {p : Pos} (F : FnOk X.prog X.w K X.mg X.base (L2.CX X.prog X.w) k fa fd ps (spB K n f)) (hr : Room k X.A) (tk : Takes X W) (hm : X.mg x = some (.ref fa)) (hk : PySem.W.keepIn K (.ref fa) = true) (hb : Binds K fd ps [])
    (ha : DA K X W (e :: es) t ms) (hg : Gl X x := by rfl) (hdb : (x == ("__debug__" : Str)) = false := by decide) (he : starEach (e :: es) X.env = (false, eval e X.env) :: starEach es X.env := by rfl) (hpl : (backTo pos (starEach es X.env)).any (·.1) = false := by rfl) :
    DE K X W (.Call (.Name x p) (e :: es) [] pos) (tCallS (spB K n f) (fun σ => WE W σ) t) (mCallB n f ms) := by
  have k := ha.k
  subst k
  exact ⟨rfl, pe_callS F hr hg hm hk hb (fun σ => passAt tk σ) ha.pa hdb he hpl, so_callB ha.so⟩
/-! ### one's own list, given up -/
def mFrz (m : EM) : EM := bnd m fun d s => match d with
  | .p d => some (.ok (.p d) s.m)
  | .o n => match s.m[n]? with
    | some (.lst ds) => match allP ds with
      | some xs => some (.ok (.p (.lst xs)) (s.m.set n .gone))
      | none => none
    | _ => none
theorem so_frz {t : TE} {m : EM} (h : Sound K W (RepV K) t m) : Sound K W (RepV K) t (mFrz m) := ⟨fun σ H s Z I r0 Q w rs e p => by
  unfold mFrz bnd at e
  cases z : m s with
  | none => rw [z] at e; cases e
  | some r =>
    rw [z] at e
    refine h.ok σ H s Z I r Q w rs z ?_
    cases r with
    | ex c fs M => cases e; exact p
    | ok d M =>
      cases d with
      | p d => cases e; exact p
      | o n =>
        have e : (match M[n]? with
          | some (.lst ds) => match allP ds with
            | some xs => some (Rs.ok (DV.p (D.lst xs)) (M.set n .gone))
            | none => none
          | _ => none) = some r0 := e
        intro v Z' H' I' w' x' q'
        obtain ⟨a, ha, rfl⟩ := q'
        cases y : M[n]? with
        | none => rw [y] at e; cases e
        | some o =>
          rw [y] at e
          cases o with
          | lst ds =>
            have e : (match allP ds with
              | some xs => some (Rs.ok (DV.p (D.lst xs)) (M.set n .gone))
              | none => none) = some r0 := e
            cases u : allP ds with
            | none => rw [u] at e; cases e
            | some xs =>
              rw [u] at e; cases e
              obtain ⟨hz, ys, h1, h2⟩ := w'.ob n a _ ha y (by intro z; cases z)
              have x2 := ext_frz w' ha hz h1
              exact p _ _ _ I' (w'.frz ha y (by intro z; cases z) h1) (x'.trans x2) (.lst (.inl upd_same) ((allP_rep h2 u).mono x2.z))
          | _ => cases e⟩
theorem de_frz {t : TE} {m : EM} (h : DE K X W e t m) : DE K X W e t (mFrz m) := ⟨h.k, h.pe, so_frz h.so⟩
/-! ### statements -/
def liftS {α : Type} (m : Mi α) (k : α → SM) : SM := fun s => match m s with
  | some (.ok v M) => k v ⟨s.l, M⟩
  | some (.ex c f M) => some (.ex c f, ⟨s.l, M⟩)
  | none => none
theorem PostS.mono {Z H Z1 H1 : Hp} {I I1 : List Addr} {D : Ends} (x : Ext Z H I Z1 H1 I1) : ∀ {r : Fl × S}, PostS K W Z H I D r → PostS K W Z1 H1 I1 D r
  | (.nx, _), p => fun σ' Z' H' I' w r x' => p σ' Z' H' I' w r (x.trans x')
  | (.rt _, _), p => fun v Z' H' I' w x' r => p v Z' H' I' w (x.trans x') r
  | (.bk, _), p => fun σ' Z' H' I' w r x' => p σ' Z' H' I' w r (x.trans x')
  | (.ct, _), p => fun σ' Z' H' I' w r x' => p σ' Z' H' I' w r (x.trans x')
  | (.ex _ _, _), p => fun σ' d Z' H' I' w r x' ea na => p σ' d Z' H' I' w r (x.trans x') ea fun b q => ⟨by
      cases z : H b with
      | none => rfl
      | some o => exact absurd (na b q).1 (x.tr b (by rw [z]; simp)), (na b q).2⟩
theorem Sound.lift {α β : Type} {R : Hp → List Addr → β → α → Prop} {t : St → Hp → (β → Hp → Prop) → Prop} {m : Mi α} (h : Sound K W R t m) {σ : St} {H Z : Hp} {I : List Addr} {s : S} {k : α → SM} {r : Fl × S} {D : Ends} {Q : β → Hp → Prop}
    (w : Wf K Z H I s.m) (rs : RepS K Z I σ s.l) (e : liftS m k s = some r) (p : PostS K W Z H I D r)
    (hk : ∀ a b M' Z' H' I', Wf K Z' H' I' M' → RepS K Z' I' σ s.l → Ext Z H I Z' H' I' → R Z' I' b a → k a ⟨s.l, M'⟩ = some r → PostS K W Z' H' I' D r → Q b H') : t σ H Q := by
  unfold liftS at e
  cases q : m s with
  | none => rw [q] at e; cases e
  | some r0 =>
    rw [q] at e
    cases r0 with
    | ok v M => exact h.ok σ H s Z I _ Q w rs q fun b Z' H' I' w' x' r' => hk v b M Z' H' I' w' (rs.mono x') x' r' e (p.mono x')
    | ex c f M =>
      obtain rfl := Option.some.inj e
      exact h.ok σ H s Z I _ Q w rs q fun d Z' H' I' w' x' ea na => p σ d Z' H' I' w' (rs.mono x') x' ea na
def sNil : SM := fun s => some (.nx, s)
def sSeq (a b : SM) : SM := fun s => match a s with
  | some (.nx, s1) => b s1
  | r => r
theorem so_nil : SoundS K W tNext sNil := ⟨fun σ H s Z I r D w rs e p => by
  cases e; exact p σ Z H I w rs Ext.refl⟩
theorem so_seq {t u : TS} {m n : SM} (ha : SoundS K W t m) (hb : SoundS K W u n) : SoundS K W (tSeq t u) (sSeq m n) := ⟨fun σ H s Z I r D w rs e p => by
  unfold sSeq at e
  show t { D with nx := u D } σ H
  cases q : m s with
  | none => rw [q] at e; cases e
  | some r1 =>
    rw [q] at e
    obtain ⟨f, s1⟩ := r1
    cases f with
    | nx => exact ha.ok σ H s Z I _ _ w rs q fun σ' Z' H' I' w' rs' x' => hb.ok σ' H' s1 Z' I' r D w' rs' e (p.mono x')
    | rt v => cases e; exact ha.ok σ H s Z I _ _ w rs q p
    | bk => cases e; exact ha.ok σ H s Z I _ _ w rs q p
    | ct => cases e; exact ha.ok σ H s Z I _ _ w rs q p
    | ex c fs => cases e; exact ha.ok σ H s Z I _ _ w rs q p⟩
theorem dss_nil (k : X.K = K := by rfl) : DSs K X W [] tNext sNil := ⟨k, pss_nil, so_nil⟩
theorem dss_cons {st : Stmt} {rest : List Stmt} {t u : TS} {m n : SM} (ha : DS K X W st t m) (hb : DSs K X W rest u n) : DSs K X W (st :: rest) (tSeq t u) (sSeq m n) := ⟨ha.k, pss_cons ha.ps hb.ps, so_seq ha.so hb.so⟩
theorem dss_one {st : Stmt} {t : TS} {m : SM} (ha : DS K X W st t m) : DSs K X W [st] t m := ⟨ha.k, pss_one ha.ps, ha.so⟩
def sExpr (m : EM) : SM := liftS m fun _ s => some (.nx, s)
theorem ds_expr {te : TE} {m : EM} (h : DE K X W e te m) (hs : swapsWith e none pos.line X.env = pure false := by rfl) : DS K X W (.Expr e pos) (tDrop te) (sExpr m) := ⟨h.k, ps_expr h.pe hs, ⟨fun σ H s Z I r D w rs e p => by
  refine h.so.lift w rs e p fun d v M1 Z1 H1 I1 w1 rs1 x1 q1 e1 p1 => ?_
  cases e1; exact p1 σ Z1 H1 I1 w1 rs1 Ext.refl⟩⟩
def sRet (m : EM) : SM := liftS m fun d s => some (.rt d, s)
theorem ds_ret {te : TE} {m : EM} (h : DE K X W e te m) : DS K X W (.Return (some e) pos) (tRet te) (sRet m) := ⟨h.k, ps_ret h.pe, ⟨fun σ H s Z I r D w rs e p => by
  refine h.so.lift w rs e p fun d v M1 Z1 H1 I1 w1 rs1 x1 q1 e1 p1 => ?_
  cases e1; exact p1 v Z1 H1 I1 w1 Ext.refl q1⟩⟩
def ifS (n k : SM) : DV → SM
  | .p (.bl true), s => n s
  | .p (.bl false), s => k s
  | _, _ => none
def sIf (c : EM) (m n : SM) : SM := liftS c (ifS m n)
theorem ds_if {x y : List Stmt} {tc : TT} {t u : TS} {k : EM} {m n : SM} (hc : DT K X W c tc k) (ha : DSs K X W x t m) (hb : DSs K X W y u n) : DS K X W (.If c x y pos) (tIfS tc t u) (sIf k m n) := ⟨hc.k, ps_if hc.pt ha.ps hb.ps, ⟨fun σ H s Z I r D w rs e p => by
  refine hc.so.lift w rs e p fun d v M1 Z1 H1 I1 w1 rs1 x1 q1 e1 p1 => ?_
  cases (show d = .p (.bl v) from q1)
  cases v with
  | true => exact ha.so.ok σ H1 ⟨s.l, M1⟩ Z1 I1 r D w1 rs1 e1 p1
  | false => exact hb.so.ok σ H1 ⟨s.l, M1⟩ Z1 I1 r D w1 rs1 e1 p1⟩⟩
/-! ### targets -/
theorem wipe_set {σ : St} {i : Nat} {x : Option V} : ∀ {vs : List Nat}, i ∈ vs → wipe (σ.set i x) vs = wipe σ vs
  | v :: vs, h => by
    show (wipe (σ.set i x) vs).set v none = (wipe σ vs).set v none
    by_cases q : i ∈ vs
    · rw [wipe_set q]
    · have e : v = i := by
        rcases List.mem_cons.mp h with k | k
        · exact k.symm
        · exact absurd k q
      subst e
      have c : ∀ ws : List Nat, v ∉ ws → wipe (σ.set v x) ws = (wipe σ ws).set v x := by
        intro ws
        induction ws with
        | nil => intro _; rfl
        | cons w ws ih =>
          intro hw
          rw [List.mem_cons, not_or] at hw
          show (wipe (σ.set v x) ws).set w none = ((wipe σ ws).set w none).set v x
          rw [ih hw.2, List.set_comm _ _ hw.1]
      rw [c vs q, List.set_set]
abbrev GM := DV → S → Option S
structure DG (K : PySem.W.Frag) (X : Cx) (tg : Expr) (g : TG) (m : GM) (ix : List Nat) : Prop where
  k : X.K = K
  pg : PG X tg g
  ok : ∀ (v : V) (dv : DV) (σ : St) (H : Hp) (s s' : S) (Z : Hp) (I : List Addr) (Q : St → Hp → Prop), Wf K Z H I s.m → RepS K Z I σ s.l → RepV K Z I v dv → m dv s = some s' →
    (∀ σ' Z' H' I', Wf K Z' H' I' s'.m → RepS K Z' I' σ' s'.l → Ext Z H I Z' H' I' → (∀ vs, (∀ i ∈ ix, i ∈ vs) → wipe σ' vs = wipe σ vs) → Q σ' H') → g v σ H Q
def gN (i : Nat) : GM := fun d s => some ⟨s.l.set i (some d), s.m⟩
theorem dg_name {i : Nat} {x : Str} (hN : X.N.Nodup) (k : X.K = K := by rfl) (hi : X.N[i]? = some x := by rfl) (hx : Loc X.env.scope x := by first | exact Or.inl rfl | exact Or.inr rfl) (hf : X.fn x = true ∨ X.env.scope.names.lookup x = some .local := by first | exact .inl rfl | exact .inr rfl) : DG K X (.Name x pos) (gName i) (gN i) [i] :=
  ⟨k, pg_name hN hi hx hf, fun v dv σ H s s' Z I Q w rs rv e q => by
    cases e; exact q _ Z H I w (rs.set rv i) Ext.refl fun vs hv => wipe_set (hv i (by simp))⟩
structure DGs (K : PySem.W.Frag) (X : Cx) (tg : List Expr) (g : TGs) (m : List DV → S → Option S) (ix : List Nat) : Prop where
  k : X.K = K
  pg : PGs X tg g
  ok : ∀ (v : List V) (dv : List DV) (σ : St) (H : Hp) (s s' : S) (Z : Hp) (I : List Addr) (Q : St → Hp → Prop), Wf K Z H I s.m → RepS K Z I σ s.l → RepVs K Z I v dv → m dv s = some s' →
    (∀ σ' Z' H' I', Wf K Z' H' I' s'.m → RepS K Z' I' σ' s'.l → Ext Z H I Z' H' I' → (∀ vs, (∀ i ∈ ix, i ∈ vs) → wipe σ' vs = wipe σ vs) → Q σ' H') → g v σ H Q
def gsNil : List DV → S → Option S
  | [], s => some s
  | _, _ => none
def gsCons (m : GM) (n : List DV → S → Option S) : List DV → S → Option S
  | d :: r, s => match m d s with
    | some s1 => n r s1
    | none => none
  | [], _ => none
theorem dgs_nil (k : X.K = K := by rfl) : DGs K X [] gNil gsNil [] := ⟨k, pgs_nil, fun v dv σ H s s' Z I Q w rs rv e q => by
  cases rv with
  | nil => cases e; exact ⟨rfl, q σ Z H I w rs Ext.refl fun _ _ => rfl⟩
  | cons _ _ => cases e⟩
theorem dgs_cons {tg : Expr} {tgs : List Expr} {t : TG} {u : TGs} {m : GM} {n : List DV → S → Option S} {i1 i2 : List Nat} (h1 : DG K X tg t m i1) (h2 : DGs K X tgs u n i2)
    (hs : (assignEach (tg :: tgs) X.env).map (·.2) = assign tg X.env :: (assignEach tgs X.env).map (·.2) := by rfl) : DGs K X (tg :: tgs) (gCons t u) (gsCons m n) (i1 ++ i2) := ⟨h1.k, pgs_cons h1.pg h2.pg hs, fun v dv σ H s s' Z I Q w rs rv e q => by
  cases rv with
  | nil => cases e
  | @cons _ d _ _ r1 r2 =>
    have e : (match m d s with | some s1 => n _ s1 | none => none) = some s' := e
    refine ⟨_, _, rfl, ?_⟩
    cases z : m d s with
    | none => rw [z] at e; cases e
    | some s1 =>
      rw [z] at e
      refine h1.ok _ d σ H s s1 Z I _ w rs r1 z fun σ' Z' H' I' w' rs' x' k' => ?_
      exact h2.ok _ _ σ' H' s1 s' Z' I' Q w' rs' (paired_imp (fun _ _ q => RepV.mono x' q) r2) e fun σ2 Z2 H2 I2 w2 rs2 x2 k2 => q σ2 Z2 H2 I2 w2 rs2 (x'.trans x2) fun vs hv =>
        (k2 vs fun i hi => hv i (List.mem_append_right _ hi)).trans (k' vs fun i hi => hv i (List.mem_append_left _ hi))⟩
def gT (n : Nat) (m : List DV → S → Option S) : GM := fun d s => match d with
  | .p (.tup xs) => if xs.length = n then m (xs.map .p) s else none
  | .p (.ktup xs) => if xs.length = n then m (xs.map .p) s else none
  | _ => none
theorem dg_tup {tgs : List Expr} {k : Nat} {t : TGs} {m : List DV → S → Option S} {n : Nat} {ix : List Nat} (hc : X.calm = true) (h : DGs K X tgs t m ix) (hn : (assignEach tgs X.env).length = n := by rfl) (hst : (assignEach tgs X.env).findIdx? (·.1) = none := by rfl) :
    DG K X (.Tuple tgs k pos) (gTup K n t) (gT n m) ix := by
  have kk := h.k
  subst kk
  refine ⟨rfl, pg_tup hc h.pg hn hst, fun v dv σ H s s' Z I Q w rs rv e q => ?_⟩
  cases dv with
  | o j => cases e
  | p d =>
    have rv : Rep X.K Z v d := rv
    cases rv with
    | tup h1 h2 =>
      rename_i a xs ds
      have e : (if ds.length = n then m (ds.map .p) s else none) = some s' := e
      split at e
      · rename_i hl
        exact ⟨a, xs, rfl, sqt w.sub h1, by rw [h2.length]; exact hl, h.ok _ _ σ H s s' Z I Q w rs (allP_map h2) e q⟩
      · cases e
    | ktup h1 h2 =>
      rename_i a xs ds
      have e : (if ds.length = n then m (ds.map .p) s else none) = some s' := e
      split at e
      · rename_i hl
        exact ⟨a, xs, rfl, same_t w.sub h1, by rw [h2.length]; exact hl, h.ok _ _ σ H s s' Z I Q w rs (allP_map h2) e q⟩
      · cases e
    | _ => cases e
def sAsg (m : EM) (g : GM) : SM := liftS m fun d s => match g d s with
  | some s1 => some (.nx, s1)
  | none => none
theorem ds_asg {tg : Expr} {te : TE} {g : TG} {m : EM} {gm : GM} {ix : List Nat} (he : DE K X W e te m) (hg : DG K X tg g gm ix) (hs : swapsWithSole [tg] e pos.line X.env = pure false := by rfl) (hw : swappedStores [tg] e X.env = pure none := by rfl)
    (h1 : (assignEach [tg] X.env).map (·.2) = [assign tg X.env] := by rfl) : DS K X W (.Assign [tg] e pos) (tAsg te g) (sAsg m gm) := ⟨he.k, ps_asg he.pe hg.pg hs hw h1, ⟨fun σ H s Z I r D w rs e p => by
  refine he.so.lift w rs e p fun d v M1 Z1 H1 I1 w1 rs1 x1 q1 e1 p1 => ?_
  have e1 : (match gm d ⟨s.l, M1⟩ with | some s1 => some (Fl.nx, s1) | none => none) = some r := e1
  cases z : gm d ⟨s.l, M1⟩ with
  | none => rw [z] at e1; cases e1
  | some s1 =>
    rw [z] at e1; cases e1
    exact hg.ok v d σ H1 ⟨s.l, M1⟩ s1 Z1 I1 _ w1 rs1 q1 z fun σ' Z' H' I' w' rs' x' _ => p1 σ' Z' H' I' w' rs' x'⟩⟩
theorem ds_set {i : Nat} {x : Str} {te : TE} {m : EM} {px : Pos} (hN : X.N.Nodup) (he : DE K X W e te m) (hi : X.N[i]? = some x := by rfl) (hx : Loc X.env.scope x := by first | exact Or.inl rfl | exact Or.inr rfl) (hf : X.fn x = true ∨ X.env.scope.names.lookup x = some .local := by first | exact .inl rfl | exact .inr rfl)
    (hs : swapsWithSole [.Name x px] e pos.line X.env = pure false := by rfl) (hw : swappedStores [.Name x px] e X.env = pure none := by rfl) (h1 : (assignEach [.Name x px] X.env).map (·.2) = [assign (.Name x px) X.env] := by rfl) : DS K X W (.Assign [.Name x px] e pos) (tAsg te (gName i)) (sAsg m (gN i)) :=
  ds_asg he (dg_name hN he.k hi hx hf) hs hw h1
/-- a, b = x, y -/
def sPar (i j : Nat) (ms : AM) : SM := liftS ms fun ds s => match ds with
  | [d, f] => some (.nx, ⟨(s.l.set i (some d)).set j (some f), s.m⟩)
  | _ => none
theorem ds_par {i j : Nat} {x y : Str} {ta : TA} {ms : AM} {px py pt : Pos} {kt k2} {pt2 : Pos} (hc : X.calm = true) (hN : X.N.Nodup) (ha : DA K X W [a, b] ta ms) (hi : X.N[i]? = some x := by rfl) (hj : X.N[j]? = some y := by rfl) (hij : i ≠ j := by decide)
    (hx : X.env.scope.names.lookup x = some .local := by rfl) (hy : X.env.scope.names.lookup y = some .local := by rfl)
    (hw : swappedStores [.Tuple [.Name x px, .Name y py] kt pt] (.Tuple [a, b] k2 pt2) X.env = pure (some [x, y]) := by rfl) (hs : swapsWithSole [.Tuple [.Name x px, .Name y py] kt pt] (.Tuple [a, b] k2 pt2) pos.line X.env = pure false := by rfl) :
    DS K X W (.Assign [.Tuple [.Name x px, .Name y py] kt pt] (.Tuple [a, b] k2 pt2) pos) (tPar i j ta) (sPar i j ms) := ⟨ha.k, ps_par hc hN hi hj hij hx hy ha.pa hw hs, ⟨fun σ H s Z I r D w rs e p => by
  refine ha.so.lift w rs e p fun ds vs M1 Z1 H1 I1 w1 rs1 x1 q1 e1 p1 => ?_
  cases q1 with
  | nil => cases e1
  | cons r1 q1 =>
  cases q1 with
  | nil => cases e1
  | cons r2 q1 =>
  cases q1 with
  | nil =>
    cases e1
    exact ⟨_, _, rfl, p1 _ Z1 H1 I1 w1 ((rs1.set r1 i).set r2 j) Ext.refl⟩
  | cons _ _ => cases e1⟩⟩
end
end DL
namespace DL
open PySem L2
section
variable {K : PySem.W.Frag} {X : Cx} {W : WX} {e a b c tg iter : Expr} {es : List Expr} {pos : Pos}
/-! ### what is walked -/
def ItOk (K : PySem.W.Frag) (Z0 : Hp) (I0 : List Addr) (J : It) (items : List DV) : Prop :=
  ∀ Z H I, Same Z0 Z → (∃ t, I = I0 ++ t) → Same Z H → ∀ i : Nat, (∀ d, items[i]? = some d → J.go i H ∧ ∀ x H', J.yld i H x H' → ∃ Z', ExtP Z H Z' H' ∧ RepV K Z' I x d) ∧ (items.length ≤ i → J.stop i H)
abbrev IM := Mi (List DV)
structure DI (K : PySem.W.Frag) (X : Cx) (W : WX) (tg iter : Expr) (wi : TI) (m : IM) : Prop where
  k : X.K = K
  pi : PI X tg iter wi
  so : Sound K W (ItOk K) wi m
def mItD (g : D → Option (List DV)) (m : EM) : IM := bnd m (pur fun d s => match g d with
  | some ds => some (.ok ds s.m)
  | none => none)
theorem so_itD {g : D → Option (List DV)} {te : TE} {m : EM} {r : V → Hp → (It → Hp → Prop) → Prop} (h : Sound K W (RepV K) te m) (hr : ∀ v d ds Z H I (R : It → Hp → Prop), Same Z H → Rep K Z v d → g d = some ds → (∀ J, ItOk K Z I J ds → R J H) → r v H R) :
    Sound K W (ItOk K) (fun σ H R => te σ H fun x H1 => r x H1 R) (mItD g m) := ⟨fun σ H s Z I r0 Q w rs e p => by
  refine h.bnd w rs e (p.x) fun d v M1 Z1 H1 I1 w1 rs1 x1 q1 e1 => ?_
  obtain ⟨d, rfl, e1⟩ := pur_ok e1
  have e1 : (match g d with | some ds => some (Rs.ok ds M1) | none => none) = some r0 := e1
  cases z : g d with
  | none => rw [z] at e1; cases e1
  | some ds =>
    rw [z] at e1; cases e1
    exact hr v d ds Z1 H1 I1 Q w1.sub q1 z fun J hJ => p J Z1 H1 I1 w1 x1 hJ⟩
def itL : D → Option (List DV)
  | .lst xs => some (xs.map .p)
  | .klst xs => some (xs.map .p)
  | .scr xs => some (xs.map .p)
  | _ => none
def itT : D → Option (List DV)
  | .tup xs => some (xs.map .p)
  | .ktup xs => some (xs.map .p)
  | _ => none
theorem getP {α : Type} {xs : List D} {i : Nat} {d : DV} (h : (xs.map DV.p)[i]? = some d) : ∃ y, xs[i]? = some y ∧ d = .p y := by
  rw [List.getElem?_map] at h
  cases q : xs[i]? with
  | none => rw [q] at h; cases h
  | some y => rw [q] at h; cases h; exact ⟨y, rfl, rfl⟩
theorem di_list {te : TE} {m : EM} (h : DE K X W iter te m) : DI K X W tg iter (iList K te) (mItD itL m) := by
  refine ⟨h.k, ?_, ?_⟩
  · rw [← h.k]; exact pi_list h.pe
  · refine so_itD (r := fun x H1 R => ∃ a, x = .ref a ∧ (∃ xs, SqL K H1 a xs) ∧ R (Itl K a) H1) h.so fun v d ds Z H I R s hd hg q => ?_
    cases hd with
    | lst h1 h2 =>
      rename_i a vs xs
      cases hg
      refine ⟨a, rfl, ⟨vs, .inl (same_rd s h1)⟩, q _ fun Z' H' I' z _ s' i => ⟨fun d hd => ?_, fun hl => ⟨vs, .inl (same_rd s' (same_rd z h1)), by rw [h2.length]; simpa using hl⟩⟩⟩
      obtain ⟨y, hy, rfl⟩ := getP (α := Unit) hd
      obtain ⟨v, hv, rv⟩ := h2.get hy
      refine ⟨⟨vs, v, .inl (same_rd s' (same_rd z h1)), hv⟩, fun x H2 hx => ?_⟩
      obtain ⟨rfl, hx⟩ := hx
      have := hx vs (.inl (same_rd s' (same_rd z h1)))
      rw [hv] at this
      cases this
      exact ⟨Z', ExtP.refl s', rv.mono z⟩
    | klst h1 h2 =>
      rename_i a vs xs
      cases hg
      refine ⟨a, rfl, ⟨vs, same_l s h1⟩, q _ fun Z' H' I' z _ s' i => ⟨fun d hd => ?_, fun hl => ⟨vs, same_l s' (same_l z h1), by rw [h2.length]; simpa using hl⟩⟩⟩
      obtain ⟨y, hy, rfl⟩ := getP (α := Unit) hd
      obtain ⟨v, hv, rv⟩ := h2.get hy
      refine ⟨⟨vs, v, same_l s' (same_l z h1), hv⟩, fun x H2 hx => ?_⟩
      obtain ⟨rfl, hx⟩ := hx
      have := hx vs (same_l s' (same_l z h1))
      rw [hv] at this
      cases this
      exact ⟨Z', ExtP.refl s', rv.mono z⟩
    | scr h1 h2 =>
      rename_i a vs xs
      cases hg
      refine ⟨a, rfl, ⟨vs, same_l s h1⟩, q _ fun Z' H' I' z _ s' i => ⟨fun d hd => ?_, fun hl => ⟨vs, same_l s' (same_l z h1), by rw [h2.length]; simpa using hl⟩⟩⟩
      obtain ⟨y, hy, rfl⟩ := getP (α := Unit) hd
      obtain ⟨v, hv, rv⟩ := h2.get hy
      refine ⟨⟨vs, v, same_l s' (same_l z h1), hv⟩, fun x H2 hx => ?_⟩
      obtain ⟨rfl, hx⟩ := hx
      have := hx vs (same_l s' (same_l z h1))
      rw [hv] at this
      cases this
      exact ⟨Z', ExtP.refl s', rv.mono z⟩
    | _ => cases hg
def itS : D → Option (List DV)
  | .str x => some (x.cps.toList.map fun c => .p (.str ⟨#[c]⟩))
  | _ => none
def intsFrom (lo : Int) (n : Nat) : List DV := (List.range n).map fun (i : Nat) => .p (.int (lo + (i : Int)))
theorem itr_ok {Z : Hp} {I : List Addr} {lo : Int} {n : Nat} : ItOk K Z I (Itr lo n) (intsFrom lo n) := fun Z' H' I' z _ s' i => by
  refine ⟨fun d hd => ?_, fun hl => ?_⟩
  · unfold intsFrom at hd
    rw [List.getElem?_map] at hd
    cases q : (List.range n)[i]? with
    | none => rw [q] at hd; cases hd
    | some j =>
      rw [q] at hd
      have hi : i < n := by simpa using (List.getElem?_eq_some_iff.mp q).1
      have ej : j = i := by
        rw [List.getElem?_range hi] at q
        exact (Option.some.inj q).symm
      subst ej
      cases hd
      refine ⟨hi, fun x H2 hx => ?_⟩
      obtain ⟨rfl, rfl⟩ := hx
      exact ⟨Z', ExtP.refl s', .int _⟩
  · show n ≤ i
    simpa [intsFrom] using hl
def rngOk (i : Int) : Bool := decide (-4611686018427387904 ≤ i ∧ i < 4611686018427387904)
def rng1D : List DV → Option (List DV)
  | [.p (.int j)] => if rngOk j = true then some (intsFrom 0 j.toNat) else none
  | _ => none
def rng2D : List DV → Option (List DV)
  | [.p (.int i), .p (.int j)] => if rngOk i = true then if rngOk j = true then some (intsFrom i (j - i).toNat) else none else none
  | _ => none
def mRng (g : List DV → Option (List DV)) (ms : AM) : IM := bnd ms fun ds s => match g ds with
  | some xs => some (.ok xs s.m)
  | none => none
theorem rng_bound {i : Int} (h : rngOk i = true) : -(2 ^ 62) ≤ i ∧ i < 2 ^ 62 := by
  unfold rngOk at h
  simp only [decide_eq_true_eq] at h
  have : (2 : Int) ^ 62 = 4611686018427387904 := by decide
  omega
theorem so_rng {g : List DV → Option (List DV)} {ta : TA} {ms : AM} {r : List V → Hp → (It → Hp → Prop) → Prop} (h : Sound K W (RepVs K) ta ms) (hr : ∀ vs ds xs Z H I (R : It → Hp → Prop), RepVs K Z I vs ds → g ds = some xs → (∀ J, ItOk K Z I J xs → R J H) → r vs H R) :
    Sound K W (ItOk K) (fun σ H R => ta σ H fun vs H1 => r vs H1 R) (mRng g ms) := ⟨fun σ H s Z I r0 Q w rs e p => by
  refine h.bnd w rs e (p.x) fun ds vs M1 Z1 H1 I1 w1 rs1 x1 q1 e1 => ?_
  have e1 : (match g ds with | some xs => some (Rs.ok xs M1) | none => none) = some r0 := e1
  cases z : g ds with
  | none => rw [z] at e1; cases e1
  | some xs =>
    rw [z] at e1; cases e1
    exact hr vs ds xs Z1 H1 I1 Q q1 z fun J hJ => p J Z1 H1 I1 w1 x1 hJ⟩
theorem di_range1 {ta : TA} {ms : AM} {p : Pos} (hm : X.mg "range" = none) (h : DA K X W [a] ta ms) (hg : Gl X "range" := by rfl) (hs : starEach [a] X.env = [(false, eval a X.env)] := by rfl) : DI K X W tg (.Call (.Name "range" p) [a] [] pos) (iRng1 ta) (mRng rng1D ms) :=
  ⟨h.k, pi_range1 hg hm h.pa hs, so_rng (r := fun vs H1 R => ∃ j : Int, vs = [.int j] ∧ -(2 ^ 62) ≤ j ∧ j < 2 ^ 62 ∧ R (Itr 0 j.toNat) H1) h.so fun vs ds xs Z H I R rv z q => by
    unfold rng1D at z
    split at z
    · split at z
      · rename_i hb
        cases z
        cases rv with
        | cons g1 g2 =>
        cases g2
        cases g1
        obtain ⟨b1, b2⟩ := rng_bound hb
        exact ⟨_, rfl, b1, b2, q _ itr_ok⟩
      · cases z
    · cases z⟩
/-! ### for -/
def loopS (g : GM) (body : SM) : List DV → SM
  | [], s => some (.nx, s)
  | d :: ds, s => match g d s with
    | none => none
    | some s1 => match body s1 with
      | none => none
      | some (.nx, s2) => loopS g body ds s2
      | some (.ct, s2) => loopS g body ds s2
      | some (.bk, s2) => some (.nx, s2)
      | some (.rt v, s2) => some (.rt v, s2)
      | some (.ex c f, s2) => some (.ex c f, s2)
def sFor (it : IM) (g : GM) (body : SM) : SM := liftS it fun ds => loopS g body ds
theorem ds_for {body : List Stmt} {wi : TI} {g : TG} {tb : TS} {it : IM} {gm : GM} {ix : List Nat} {mb : SM} (hp : PassesOwn (model X.prog X.w) X.A X.env X.xe) (hc : X.calm = true) (hi : DI K X W tg iter wi it) (hg : DG K X tg g gm ix) (hb : DSs K X W body tb mb)
    (hs : ∀ x, foldedSetIterable iter X.env x = pure x := by intro _; rfl) : DS K X W (.For tg iter body [] pos) (tFor wi g tb) (sFor it gm mb) := ⟨hi.k, ps_for hp hc hi.pi hg.pg hb.ps hs, ⟨fun σ H s Z I r D w rs e p => by
  refine hi.so.lift w rs e p fun ds J M1 Z1 H1 I1 w1 rs1 x1 q1 e1 p1 => ?_
  refine ⟨fun i m σ' H' => m = ds.length - i ∧ i ≤ ds.length ∧ ∃ Z' I' s', Wf K Z' H' I' s'.m ∧ RepS K Z' I' σ' s'.l ∧ Ext Z1 H1 I1 Z' H' I' ∧ loopS gm mb (ds.drop i) s' = some r, ⟨ds.length, by simp, Nat.zero_le _, Z1, I1, ⟨s.l, M1⟩, w1, rs1, Ext.refl, e1⟩, ?_⟩
  rintro i m σ' H' ⟨rfl, hi', Z', I', s', w', rs', x', e'⟩
  have Jo := q1 Z' H' I' x'.z x'.i w'.sub i
  by_cases hlt : i < ds.length
  · right
    have hd : ds[i]? = some ds[i] := by simp [hlt]
    obtain ⟨go, yl⟩ := Jo.1 _ hd
    rw [List.drop_eq_getElem_cons hlt] at e'
    refine ⟨go, fun σ2 H2 => ∃ Z2 I2 s2, Wf K Z2 H2 I2 s2.m ∧ RepS K Z2 I2 σ2 s2.l ∧ Ext Z1 H1 I1 Z2 H2 I2 ∧ loopS gm mb (ds.drop (i + 1)) s2 = some r,
      fun σ2 H2 h2 => ⟨ds.length - (i + 1), by omega, rfl, hlt, h2⟩, fun x H2 hx => ?_⟩
    obtain ⟨Z2, x2, rx⟩ := yl x H2 hx
    have w2 := w'.extP x2
    have y2 := x2.ext w'
    have e' : (match gm ds[i] s' with
      | none => none
      | some s1 => match mb s1 with
        | none => none
        | some (.nx, s2) => loopS gm mb (ds.drop (i + 1)) s2
        | some (.ct, s2) => loopS gm mb (ds.drop (i + 1)) s2
        | some (.bk, s2) => some (.nx, s2)
        | some (.rt v, s2) => some (.rt v, s2)
        | some (.ex c f, s2) => some (.ex c f, s2)) = some r := e'
    cases z : gm ds[i] s' with
    | none => rw [z] at e'; cases e'
    | some s1 =>
      rw [z] at e'
      refine hg.ok x ds[i] σ' H2 s' s1 Z2 I' _ w2 (rs'.mono y2) rx z fun σ3 Z3 H3 I3 w3 rs3 x3 _ => ?_
      have xx := (x'.trans y2).trans x3
      cases z2 : mb s1 with
      | none =>
        have e' : (match mb s1 with
          | none => none
          | some (.nx, s2) => loopS gm mb (ds.drop (i + 1)) s2
          | some (.ct, s2) => loopS gm mb (ds.drop (i + 1)) s2
          | some (.bk, s2) => some (.nx, s2)
          | some (.rt v, s2) => some (.rt v, s2)
          | some (.ex c f, s2) => some (.ex c f, s2)) = some r := e'
        rw [z2] at e'; cases e'
      | some fr =>
        have e' : (match mb s1 with
          | none => none
          | some (.nx, s2) => loopS gm mb (ds.drop (i + 1)) s2
          | some (.ct, s2) => loopS gm mb (ds.drop (i + 1)) s2
          | some (.bk, s2) => some (.nx, s2)
          | some (.rt v, s2) => some (.rt v, s2)
          | some (.ex c f, s2) => some (.ex c f, s2)) = some r := e'
        rw [z2] at e'
        obtain ⟨f, s2⟩ := fr
        have p3 := p1.mono xx
        refine hb.so.ok σ3 H3 s1 Z3 I3 _ _ w3 rs3 z2 ?_
        cases f with
        | nx => exact fun σ4 Z4 H4 I4 w4 rs4 x4 => ⟨Z4, I4, s2, w4, rs4, xx.trans x4, e'⟩
        | ct => exact fun σ4 Z4 H4 I4 w4 rs4 x4 => ⟨Z4, I4, s2, w4, rs4, xx.trans x4, e'⟩
        | bk => cases e'; exact p3
        | rt v => cases e'; exact p3
        | ex c fs => cases e'; exact p3
  · left
    have e0 : ds.drop i = [] := List.drop_eq_nil_of_le (by omega)
    rw [e0] at e'
    cases e'
    exact ⟨Jo.2 (by omega), (p1.mono x') σ' Z' H' I' w' rs' Ext.refl⟩⟩⟩
/-! ### while -/
end
end DL
namespace DL
open PySem L2
abbrev WF : WX := fun _ _ _ _ => False
section
variable {K : PySem.W.Frag} {X : Cx} {W : WX} {e a b c tg iter : Expr} {es : List Expr} {pos : Pos}
def wipeL (l : List (Option DV)) : List Nat → List (Option DV)
  | [] => l
  | v :: vs => (wipeL l vs).set v none
theorem RepS.wipe {Z : Hp} {I : List Addr} {σ : St} {l : List (Option DV)} (r : RepS K Z I σ l) : ∀ vs : List Nat, RepS K Z I (L2.wipe σ vs) (wipeL l vs)
  | [] => r
  | v :: vs => by
    have h := RepS.wipe r vs
    refine ⟨by show ((L2.wipe σ vs).set v none).length = ((wipeL l vs).set v none).length; simpa using h.len, fun i dv e => ?_⟩
    have e : ((wipeL l vs).set v none)[i]? = some (some dv) := e
    by_cases q : v = i
    · subst q
      by_cases b : v < (wipeL l vs).length
      · rw [List.getElem?_set_self b] at e; cases e
      · rw [List.getElem?_eq_none (by simpa using b)] at e; cases e
    · rw [List.getElem?_set_ne q] at e
      obtain ⟨u, h1, h2⟩ := h.at_ i dv e
      refine ⟨u, ?_, h2⟩
      show ((L2.wipe σ vs).set v none)[i]? = _
      rw [List.getElem?_set_ne q]; exact h1
theorem wipe_wipe {σ : St} : ∀ vs ws : List Nat, (∀ i ∈ vs, i ∈ ws) → L2.wipe (L2.wipe σ vs) ws = L2.wipe σ ws
  | [], _, _ => rfl
  | v :: vs, ws, h => by
    show L2.wipe ((L2.wipe σ vs).set v none) ws = _
    rw [wipe_set (h v (by simp))]
    exact wipe_wipe vs ws fun i hi => h i (by simp [hi])
/-- the block of a list comprehension: results that are data -/
def compL (l : List (Option DV)) (g : GM) (t e : EM) : List DV → List D → List O → Option (List D × List O)
  | [], acc, M => some (acc, M)
  | d :: ds, acc, M => match g d ⟨l, M⟩ with
    | none => none
    | some s1 => match t s1 with
      | some (.ok (.p (.bl true)) M1) => match e ⟨s1.l, M1⟩ with
        | some (.ok (.p y) M2) => if acc.length < 1000000 then compL l g t e ds (acc ++ [y]) M2 else none
        | _ => none
      | some (.ok (.p (.bl false)) M1) => compL l g t e ds acc M1
      | _ => none
def mLc (it : IM) (vs : List Nat) (g : GM) (t e : EM) : EM := bnd it fun ds s => match compL (wipeL s.l vs) g t e ds [] s.m with
  | some (acc, M) => some (.ok (.p (.lst acc)) M)
  | none => none
def mLcO (it : IM) (vs : List Nat) (g : GM) (t e : EM) : EM := bnd it fun ds s => match compL (wipeL s.l vs) g t e ds [] s.m with
  | some (acc, M) => some (.ok (.o M.length) (M ++ [.lst (acc.map .p)]))
  | none => none
/-- what is known of the new list at D while it is filled -/
structure Fill (K : PySem.W.Frag) (Z1 H1 : Hp) (I1 : List Addr) (D : Addr) (Z H : Hp) (I : List Addr) (M : List O) (acc : List V) (ad : List DL.D) : Prop where
  w : Wf K Z H I M
  x : Ext Z1 H1 I1 Z H I
  at_ : H D = some (.lst acc)
  nz : Z D = none
  ni : D ∉ I
  r : RepA K Z acc ad
theorem Fill.step {Z1 H1 Z H Z' H' : Hp} {I1 I I' : List Addr} {D : Addr} {M M' : List O} {acc : List V} {ad : List DL.D} (f : Fill K Z1 H1 I1 D Z H I M acc ad) (w : Wf K Z' H' I' M') (x : Ext Z H I Z' H' I') : Fill K Z1 H1 I1 D Z' H' I' M' acc ad where
  w := w
  x := f.x.trans x
  at_ := x.fr D _ f.at_ f.ni
  nz := by
    cases q : Z' D with
    | none => rfl
    | some o =>
      rcases x.zn D (by rw [q]; simp) with k | k | k
      · exact absurd f.nz k
      · exact (Fr.no f.at_ (fun _ e => nomatch e) k).elim
      · exact absurd k f.ni
  ni := fun m => by
    rcases x.nw D m with k | k
    · exact f.ni k
    · rw [f.at_] at k; cases k
  r := f.r.mono x.z
theorem Fill.put {Z1 H1 Z H : Hp} {I1 I : List Addr} {D : Addr} {M : List O} {acc : List V} {ad : List DL.D} (f : Fill K Z1 H1 I1 D Z H I M acc ad) (h0 : H1 D = none) {v : V} {d : DL.D} (r : Rep K Z v d) : Fill K Z1 H1 I1 D Z (upd H D (.lst (acc ++ [v]))) I M (acc ++ [v]) (ad ++ [d]) where
  w := ⟨fun a u e => by rw [upd_ne (fun q => by rw [q, f.nz] at e; cases e)]; exact f.w.sub a u e, f.w.len, f.w.nd, fun a m => by rw [upd_ne (fun q => f.ni (by rw [← q]; exact m))]; exact f.w.tr a m, fun n a o h1 h2 h3 => by
    obtain ⟨q1, q2⟩ := f.w.ob n a o h1 h2 h3
    exact ⟨q1, q2.mono (Same.refl _) (upd_ne fun q => f.ni (by rw [← q]; exact List.mem_of_getElem? h1))⟩⟩
  x := ⟨f.x.z, f.x.i, fun a o e n => by rw [upd_ne (ne_of_none e h0)]; exact f.x.fr a o e n, f.x.nw, f.x.zn, fun a e => by
    by_cases q : a = D
    · rw [q, upd_same]; simp
    · rw [upd_ne q]; exact f.x.tr a e⟩
  at_ := upd_same
  nz := f.nz
  ni := f.ni
  r := f.r.append (.cons r .nil)
theorem tLc_ok {wi : TI} {g : TG} {tt : TT} {te : TE} {vs : List Nat} {it : IM} {gm : GM} {ix : List Nat} {t em : EM} (hi : Sound K W (ItOk K) wi it)
    (hg : ∀ (v : V) (dv : DV) (σ : St) (H : Hp) (s s' : S) (Z : Hp) (I : List Addr) (Q : St → Hp → Prop), Wf K Z H I s.m → RepS K Z I σ s.l → RepV K Z I v dv → gm dv s = some s' →
      (∀ σ' Z' H' I', Wf K Z' H' I' s'.m → RepS K Z' I' σ' s'.l → Ext Z H I Z' H' I' → (∀ vs, (∀ i ∈ ix, i ∈ vs) → L2.wipe σ' vs = L2.wipe σ vs) → Q σ' H') → g v σ H Q) (hix : ∀ i ∈ ix, i ∈ vs)
    (ht : Sound K WF RepB tt t) (he : Sound K WF (RepV K) te em) {σ : St} {H : Hp} {s : S} {Z : Hp} {I : List Addr} {r : Rs DV} {Q : VK} {k : List D → List O → Rs DV} (w : Wf K Z H I s.m) (rs : RepS K Z I σ s.l)
    (e : bnd it (fun ds s => match compL (wipeL s.l vs) gm t em ds [] s.m with | some (acc, M) => some (k acc M) | none => none) s = some r) (px : ∀ c fs M, r = .ex c fs M → PostX K W Z H I σ M c fs)
    (hk : ∀ Z1 H1 I1 D Z' H' I' M acc ad, r = k ad M → H1 D = none → Ext Z H I Z1 H1 I1 → Fill K Z1 H1 I1 D Z' H' I' M acc ad → Q (.ref D) H') : tLc wi g tt te vs σ H Q := by
  refine hi.bnd w rs e px fun ds J M1 Z1 H1 I1 w1 rs1 x1 q1 e1 => ?_
  have e1 : (match compL (wipeL s.l vs) gm t em ds [] M1 with | some (acc, M) => some (k acc M) | none => none) = some r := e1
  cases zc : compL (wipeL s.l vs) gm t em ds [] M1 with
  | none => rw [zc] at e1; cases e1
  | some am =>
    rw [zc] at e1
    obtain ⟨ad, Mf⟩ := am
    have e1 : some (k ad Mf) = some r := e1
    intro D hD
    have f0 : Fill K Z1 H1 I1 D Z1 (upd H1 D (.lst [])) I1 M1 [] [] := by
      refine ⟨⟨fun a u q => by rw [upd_ne (ne_of_none (w1.sub a u q) hD)]; exact w1.sub a u q, w1.len, w1.nd, fun a m => by rw [upd_ne (fun q => w1.tr a m (by rw [q]; exact hD))]; exact w1.tr a m, fun n a o h1 h2 h3 => ?_⟩, ⟨Same.refl _, ⟨[], by simp⟩, fun a o q _ => by rw [upd_ne (ne_of_none q hD)]; exact q, fun _ m => .inl m, fun _ m => .inl m, fun a q => by rw [upd_ne (fun y => q (by rw [y]; exact hD))]; exact q⟩, upd_same, none_of w1.sub hD, fun m => w1.tr D m hD, .nil⟩
      obtain ⟨q1, q2⟩ := w1.ob n a o h1 h2 h3
      exact ⟨q1, q2.mono (Same.refl _) (upd_ne fun q => w1.tr a (List.mem_of_getElem? h1) (by rw [q]; exact hD))⟩
    refine ⟨fun i m H' => m = ds.length - i ∧ i ≤ ds.length ∧ ∃ Z' I' M acc bd, Fill K Z1 H1 I1 D Z' H' I' M acc bd ∧ compL (wipeL s.l vs) gm t em (ds.drop i) bd M = some (ad, Mf), ⟨ds.length, by simp, Nat.zero_le _, Z1, I1, M1, [], [], f0, zc⟩, ?_⟩
    rintro i m H' ⟨rfl, hil, Z', I', M, acc, bd, f, e'⟩
    have Jo := q1 Z' H' I' f.x.z f.x.i f.w.sub i
    by_cases hlt : i < ds.length
    · right
      have hd : ds[i]? = some ds[i] := by simp [hlt]
      obtain ⟨go, yl⟩ := Jo.1 _ hd
      rw [List.drop_eq_getElem_cons hlt] at e'
      refine ⟨go, fun H2 => ∃ Z2 I2 M2 acc2 bd2, Fill K Z1 H1 I1 D Z2 H2 I2 M2 acc2 bd2 ∧ compL (wipeL s.l vs) gm t em (ds.drop (i + 1)) bd2 M2 = some (ad, Mf),
        fun H2 h2 => ⟨ds.length - (i + 1), by omega, rfl, hlt, h2⟩, fun x H2 hx => ?_⟩
      obtain ⟨Z2, x2, rx⟩ := yl x H2 hx
      have f2 := f.step (f.w.extP x2) (x2.ext f.w)
      have rs2 : RepS K Z2 I' (L2.wipe σ vs) (wipeL s.l vs) := ((rs1.mono f2.x)).wipe vs
      unfold compL at e'
      cases zg : gm ds[i] ⟨wipeL s.l vs, M⟩ with
      | none => rw [zg] at e'; cases e'
      | some s1 =>
        rw [zg] at e'
        refine hg x ds[i] (L2.wipe σ vs) H2 ⟨wipeL s.l vs, M⟩ s1 Z2 I' _ f2.w rs2 rx zg fun σ3 Z3 H3 I3 w3 rs3 x3 k3 => ?_
        have f3 := f2.step w3 x3
        refine ⟨(k3 vs hix).trans (wipe_wipe vs vs fun _ h => h) , ?_⟩
        have e' : (match t s1 with
          | some (.ok (.p (.bl true)) M1) => match em ⟨s1.l, M1⟩ with
            | some (.ok (.p y) M2) => if bd.length < 1000000 then compL (wipeL s.l vs) gm t em (ds.drop (i + 1)) (bd ++ [y]) M2 else none
            | _ => none
          | some (.ok (.p (.bl false)) M1) => compL (wipeL s.l vs) gm t em (ds.drop (i + 1)) bd M1
          | _ => none) = some (ad, Mf) := e'
        cases zt : t s1 with
        | none => rw [zt] at e'; cases e'
        | some rt =>
          rw [zt] at e'
          refine ht.ok σ3 H3 s1 Z3 I3 rt _ w3 rs3 zt ?_
          cases rt with
          | ex c fs M4 => cases e'
          | ok d4 M4 =>
            intro b Z4 H4 I4 w4 x4 r4
            cases (show d4 = .p (.bl b) from r4)
            have f4 := f3.step w4 x4
            cases b with
            | false =>
              rw [if_neg Bool.false_ne_true]
              exact ⟨Z4, I4, M4, acc, bd, f4, e'⟩
            | true =>
              rw [if_pos rfl]
              have e' : (match em ⟨s1.l, M4⟩ with
                | some (.ok (.p y) M2) => if bd.length < 1000000 then compL (wipeL s.l vs) gm t em (ds.drop (i + 1)) (bd ++ [y]) M2 else none
                | _ => none) = some (ad, Mf) := e'
              cases ze : em ⟨s1.l, M4⟩ with
              | none => rw [ze] at e'; cases e'
              | some re =>
                rw [ze] at e'
                refine he.ok σ3 H4 ⟨s1.l, M4⟩ Z4 I4 re _ w4 (rs3.mono x4) ze ?_
                cases re with
                | ex c fs M5 => cases e'
                | ok d5 M5 =>
                  intro y Z5 H5 I5 w5 x5 r5
                  have f5 := f4.step w5 x5
                  cases d5 with
                  | o n => cases e'
                  | p d5 =>
                    have e' : (if bd.length < 1000000 then compL (wipeL s.l vs) gm t em (ds.drop (i + 1)) (bd ++ [d5]) M5 else none) = some (ad, Mf) := e'
                    split at e'
                    · rename_i hlen
                      refine ⟨acc, f5.at_, by rw [f5.r.length]; exact size_lt (Nat.le_of_lt hlen), ?_⟩
                      exact ⟨Z5, I5, M5, _, _, f5.put hD r5, e'⟩
                    · cases e'
    · left
      have e0 : ds.drop i = [] := List.drop_eq_nil_of_le (by omega)
      rw [e0] at e'
      cases e'
      exact ⟨Jo.2 (by omega), hk Z1 H1 I1 D Z' H' I' _ acc _ (Option.some.inj e1).symm hD x1 f⟩
theorem Fill.frz {Z1 H1 Z H : Hp} {I1 I : List Addr} {D : Addr} {M : List O} {acc : List V} {ad : List DL.D} (f : Fill K Z1 H1 I1 D Z H I M acc ad) (h0 : H1 D = none) : Wf K (upd Z D (.lst acc)) H I M ∧ Ext Z1 H1 I1 (upd Z D (.lst acc)) H I := by
  refine ⟨⟨fun a u e => ?_, f.w.len, f.w.nd, f.w.tr, fun n a o h1 h2 h3 => ?_⟩, ⟨f.x.z.trans (same_upd f.nz), f.x.i, f.x.fr, f.x.nw, fun a e => ?_, f.x.tr⟩⟩
  · by_cases q : a = D
    · rw [q, upd_same] at e; rw [q, f.at_]; exact e
    · rw [upd_ne q] at e; exact f.w.sub a u e
  · obtain ⟨q1, q2⟩ := f.w.ob n a o h1 h2 h3
    exact ⟨by rw [upd_ne fun q => f.ni (by rw [← q]; exact List.mem_of_getElem? h1)]; exact q1, q2.mono (same_upd f.nz) rfl⟩
  · by_cases q : a = D
    · rw [q]; exact .inr (.inl (.inl h0))
    · rw [upd_ne q] at e; exact f.x.zn a e
theorem Fill.own {Z1 H1 Z H : Hp} {I1 I : List Addr} {D : Addr} {M : List O} {acc : List V} {ad : List DL.D} (f : Fill K Z1 H1 I1 D Z H I M acc ad) (h0 : H1 D = none) : Wf K Z H (I ++ [D]) (M ++ [.lst (ad.map .p)]) ∧ Ext Z1 H1 I1 Z H (I ++ [D]) := by
  have x : Ext Z1 H1 I1 Z H (I ++ [D]) := by
    refine ⟨f.x.z, ?_, f.x.fr, fun a m => ?_, f.x.zn, f.x.tr⟩
    · obtain ⟨t, e⟩ := f.x.i
      exact ⟨t ++ [D], by rw [e, List.append_assoc]⟩
    · rcases List.mem_append.mp m with k | k
      · exact f.x.nw a k
      · rw [List.mem_singleton.mp k]; exact .inr h0
  have x2 : Ext Z H I Z H (I ++ [D]) ∨ True := .inr trivial
  refine ⟨⟨f.w.sub, by rw [List.length_append, List.length_append, f.w.len]; rfl, ?_, fun a m => ?_, fun n a o h1 h2 h3 => ?_⟩, x⟩
  · refine List.nodup_append.mpr ⟨f.w.nd, by simp, fun a ha b hb => ?_⟩
    rw [List.mem_singleton.mp hb]
    intro q
    exact f.ni (by rw [← q]; exact ha)
  · rcases List.mem_append.mp m with k | k
    · exact f.w.tr a k
    · rw [List.mem_singleton.mp k, f.at_]; simp
  · have up : ∀ {v : V} {d : DV}, RepV K Z I v d → RepV K Z (I ++ [D]) v d := fun {v d} h => by
      cases d with
      | p d => exact h
      | o j =>
        obtain ⟨b, hb, q⟩ := h
        exact ⟨b, by rw [List.getElem?_append_left (List.getElem?_eq_some_iff.mp hb).1]; exact hb, q⟩
    by_cases hn : n < I.length
    · rw [List.getElem?_append_left hn] at h1
      rw [List.getElem?_append_left (by rw [← f.w.len]; exact hn)] at h2
      obtain ⟨q1, q2⟩ := f.w.ob n a o h1 h2 h3
      refine ⟨q1, ?_⟩
      cases o with
      | lst _ => obtain ⟨xs, h, r⟩ := q2; exact ⟨xs, h, paired_imp (fun _ _ q => up q) r⟩
      | dK _ => obtain ⟨xs, h, r⟩ := q2; exact ⟨xs, h, paired_imp (fun _ _ q => ⟨q.1, up q.2⟩) r⟩
      | dT _ => obtain ⟨xs, h, r⟩ := q2; exact ⟨xs, h, paired_imp (fun _ _ q => ⟨q.1, up q.2⟩) r⟩
      | ins _ _ => obtain ⟨dx, xs, h, r⟩ := q2; exact ⟨dx, xs, h, paired_imp (fun _ _ q => ⟨q.1, up q.2⟩) r⟩
      | tbl _ _ => exact q2
      | gone => trivial
    · have e1 : n = I.length := by
        have := (List.getElem?_eq_some_iff.mp h1).1
        rw [List.length_append, List.length_singleton] at this
        omega
      subst e1
      rw [List.getElem?_append_right (Nat.le_refl _), Nat.sub_self] at h1
      rw [List.getElem?_append_right (by rw [f.w.len]; exact Nat.le_refl _), f.w.len, Nat.sub_self] at h2
      cases h1
      cases h2
      exact ⟨f.nz, acc, f.at_, allP_map f.r⟩
def tYesM : EM := tru
theorem so_yes : Sound K WF RepB tYes tYesM := ⟨fun σ H s Z I r Q w rs e p => by
  cases e; exact p true Z H I w Ext.refl rfl⟩
structure DPT (K : PySem.W.Frag) (X : Cx) (es : List Expr) (t : TT) (m : EM) : Prop where
  k : X.K = K
  pt : PTs X es t
  so : Sound K WF RepB t m
theorem dpt_nil (k : X.K = K := by rfl) : DPT K X [] tYes tYesM := ⟨k, pts_nil, so_yes⟩
theorem dpt_one {t : TT} {m : EM} (h : DT K X WF c t m) : DPT K X [c] t m := ⟨h.k, pts_one h.pt, h.so⟩
section
variable {elt : Expr} {ifs : List Expr} {scope : Scope} {own : List (Str × Nat)} {wi : TI} {g : TG} {tt : TT} {te : TE} {it : IM} {gm : GM} {ix : List Nat} {t em : EM}
theorem so_lc (hi : Sound K W (ItOk K) wi it) (hg : ∃ X' tg', DG K X' tg' g gm ix) (hix : ∀ i ∈ ix, i ∈ own.map (·.2)) (ht : Sound K WF RepB tt t) (he : Sound K WF (RepV K) te em) : Sound K W (RepV K) (tLc wi g tt te (own.map (·.2))) (mLc it (own.map (·.2)) gm t em) := ⟨fun σ H s Z I r Q w rs e p => by
  obtain ⟨X', tg', hg⟩ := hg
  refine tLc_ok hi hg.ok hix ht he (k := fun acc M => .ok (.p (.lst acc)) M) w rs e p.x fun Z1 H1 I1 D Z' H' I' M acc ad er h0 x1 f => ?_
  subst er
  obtain ⟨w', x'⟩ := f.frz h0
  exact p _ _ H' I' w' (x1.trans x') (.lst (.inl upd_same) (f.r.mono (same_upd f.nz)))⟩
theorem so_lcO (hi : Sound K W (ItOk K) wi it) (hg : ∃ X' tg', DG K X' tg' g gm ix) (hix : ∀ i ∈ ix, i ∈ own.map (·.2)) (ht : Sound K WF RepB tt t) (he : Sound K WF (RepV K) te em) : Sound K W (RepV K) (tLc wi g tt te (own.map (·.2))) (mLcO it (own.map (·.2)) gm t em) := ⟨fun σ H s Z I r Q w rs e p => by
  obtain ⟨X', tg', hg⟩ := hg
  refine tLc_ok hi hg.ok hix ht he (k := fun (acc : List D) M => Rs.ok (DV.o M.length) (M ++ [O.lst (acc.map DV.p)])) w rs e p.x fun Z1 H1 I1 D Z' H' I' M acc ad er h0 x1 f => ?_
  subst er
  obtain ⟨w', x'⟩ := f.own h0
  exact p _ _ H' _ w' (x1.trans x') ⟨D, by rw [← f.w.len, List.getElem?_append_right (Nat.le_refl _), Nat.sub_self]; rfl, rfl⟩⟩
theorem de_lc {vs : List Nat} (hN : X.N.Nodup) (hc : X.calm = true) (hi : DI K X W tg iter wi it) (ok : BlkOk X.N X.env.scope scope own)
    (hg : ∀ (s : Shared) (H : Hp) (C : Addr) (cl : List (Str × Addr)) (fp : List Addr), DG K (X.blk s H scope (compEnvC scope cl C X.env) fp) tg g gm ix) (ht : ∀ (s : Shared) (H : Hp) (C : Addr) (cl : List (Str × Addr)) (fp : List Addr), DPT K (X.blk s H scope (compEnvC scope cl C X.env) fp) ifs tt t)
    (he : ∀ (s : Shared) (H : Hp) (C : Addr) (cl : List (Str × Addr)) (fp : List Addr), DE K (X.blk s H scope (compEnvC scope cl C X.env) fp) WF elt te em) (hix : ∀ i ∈ ix, i ∈ own.map (·.2) := by decide) (hs : ∀ x, foldedSetIterable iter X.env x = pure x := by intro _; rfl) (hv : own.map (·.2) = vs := by rfl) :
    DE K X W (.ListComp elt [⟨tg, iter, ifs, 0⟩] scope pos) (tLc wi g tt te vs) (mLc it vs gm t em) := by
  subst hv
  exact ⟨hi.k, pe_lc hc hN hi.pi ok (fun s H C cl fp => (hg s H C cl fp).pg) (fun s H C cl fp => (ht s H C cl fp).pt) (fun s H C cl fp => (he s H C cl fp).pe) hs,
    so_lc hi.so ⟨_, _, hg {} (fun _ => none) 0 [] []⟩ hix (ht {} (fun _ => none) 0 [] []).so (he {} (fun _ => none) 0 [] []).so⟩
end
end
end DL
namespace DL
open PySem L2
section
variable {K : PySem.W.Frag} {X : Cx} {W : WX} {e a b c tg iter : Expr} {es : List Expr} {pos : Pos}
section
variable {elt : Expr} {ifs : List Expr} {scope : Scope} {own : List (Str × Nat)} {wi : TI} {g : TG} {tt : TT} {te : TE} {it : IM} {gm : GM} {ix : List Nat} {t em : EM}
theorem so_asg {te : TE} {g : TG} {m : EM} {gm : GM} {ix : List Nat} {X' : Cx} {tg' : Expr} (he : Sound K W (RepV K) te m) (hg : DG K X' tg' g gm ix) : SoundS K W (tAsg te g) (sAsg m gm) := ⟨fun σ H s Z I r D w rs e p => by
  refine he.lift w rs e p fun d v M1 Z1 H1 I1 w1 rs1 x1 q1 e1 p1 => ?_
  have e1 : (match gm d ⟨s.l, M1⟩ with | some s1 => some (Fl.nx, s1) | none => none) = some r := e1
  cases z : gm d ⟨s.l, M1⟩ with
  | none => rw [z] at e1; cases e1
  | some s1 =>
    rw [z] at e1; cases e1
    exact hg.ok v d σ H1 ⟨s.l, M1⟩ s1 Z1 I1 _ w1 rs1 q1 z fun σ' Z' H' I' w' rs' x' _ => p1 σ' Z' H' I' w' rs' x'⟩
theorem ds_setLc {i : Nat} {vs : List Nat} {y : Str} {py spos : Pos} (hN : X.N.Nodup) (hc : X.calm = true) (hi : DI K X W tg iter wi it) (ok : BlkOk X.N X.env.scope scope own)
    (hg : ∀ (s : Shared) (H : Hp) (C : Addr) (cl : List (Str × Addr)) (fp : List Addr), DG K (X.blk s H scope (compEnvC scope cl C X.env) fp) tg g gm ix) (ht : ∀ (s : Shared) (H : Hp) (C : Addr) (cl : List (Str × Addr)) (fp : List Addr), DPT K (X.blk s H scope (compEnvC scope cl C X.env) fp) ifs tt t)
    (he : ∀ (s : Shared) (H : Hp) (C : Addr) (cl : List (Str × Addr)) (fp : List Addr), DE K (X.blk s H scope (compEnvC scope cl C X.env) fp) WF elt te em) (hy : X.N[i]? = some y := by rfl) (hyl : X.env.scope.names.lookup y = some .local := by rfl)
    (hsw : swapsWith (.ListComp elt [⟨tg, iter, ifs, 0⟩] scope pos) (some (.Name y py)) spos.line X.env = pure true := by exact sw_true rfl rfl rfl (by decide +kernel)) (hix : ∀ i ∈ ix, i ∈ own.map (·.2) := by decide) (hs : ∀ x, foldedSetIterable iter X.env x = pure x := by intro _; rfl) (hv : own.map (·.2) = vs := by rfl) :
    DS K X W (.Assign [.Name y py] (.ListComp elt [⟨tg, iter, ifs, 0⟩] scope pos) spos) (tAsg (tLc wi g tt te vs) (gName i)) (sAsg (mLc it vs gm t em) (gN i)) := by
  subst hv
  exact ⟨hi.k, ps_setLc hc hN hy hyl hsw hi.pi ok (fun s H C cl fp => (hg s H C cl fp).pg) (fun s H C cl fp => (ht s H C cl fp).pt) (fun s H C cl fp => (he s H C cl fp).pe) hs,
    so_asg (so_lc hi.so ⟨_, _, hg {} (fun _ => none) 0 [] []⟩ hix (ht {} (fun _ => none) 0 [] []).so (he {} (fun _ => none) 0 [] []).so) (dg_name hN hi.k hy (.inl hyl) (.inr hyl) : DG K X (.Name y py) _ _ _)⟩
theorem ds_setLcO {i : Nat} {vs : List Nat} {y : Str} {py spos : Pos} (hN : X.N.Nodup) (hc : X.calm = true) (hi : DI K X W tg iter wi it) (ok : BlkOk X.N X.env.scope scope own)
    (hg : ∀ (s : Shared) (H : Hp) (C : Addr) (cl : List (Str × Addr)) (fp : List Addr), DG K (X.blk s H scope (compEnvC scope cl C X.env) fp) tg g gm ix) (ht : ∀ (s : Shared) (H : Hp) (C : Addr) (cl : List (Str × Addr)) (fp : List Addr), DPT K (X.blk s H scope (compEnvC scope cl C X.env) fp) ifs tt t)
    (he : ∀ (s : Shared) (H : Hp) (C : Addr) (cl : List (Str × Addr)) (fp : List Addr), DE K (X.blk s H scope (compEnvC scope cl C X.env) fp) WF elt te em) (hy : X.N[i]? = some y := by rfl) (hyl : X.env.scope.names.lookup y = some .local := by rfl)
    (hsw : swapsWith (.ListComp elt [⟨tg, iter, ifs, 0⟩] scope pos) (some (.Name y py)) spos.line X.env = pure true := by exact sw_true rfl rfl rfl (by decide +kernel)) (hix : ∀ i ∈ ix, i ∈ own.map (·.2) := by decide) (hs : ∀ x, foldedSetIterable iter X.env x = pure x := by intro _; rfl) (hv : own.map (·.2) = vs := by rfl) :
    DS K X W (.Assign [.Name y py] (.ListComp elt [⟨tg, iter, ifs, 0⟩] scope pos) spos) (tAsg (tLc wi g tt te vs) (gName i)) (sAsg (mLcO it vs gm t em) (gN i)) := by
  subst hv
  exact ⟨hi.k, ps_setLc hc hN hy hyl hsw hi.pi ok (fun s H C cl fp => (hg s H C cl fp).pg) (fun s H C cl fp => (ht s H C cl fp).pt) (fun s H C cl fp => (he s H C cl fp).pe) hs,
    so_asg (so_lcO hi.so ⟨_, _, hg {} (fun _ => none) 0 [] []⟩ hix (ht {} (fun _ => none) 0 [] []).so (he {} (fun _ => none) 0 [] []).so) (dg_name hN hi.k hy (.inl hyl) (.inr hyl) : DG K X (.Name y py) _ _ _)⟩
end
/-! ### o[i] = v at a list of one's own -/
def setL (m : List O) (n : Nat) (i : Int) (d : DV) : Option (List O) := match m[n]? with
  | some (.lst ds) => match ixN ds.length i with
    | some j => some (m.set n (.lst (ds.set j d)))
    | none => none
  | _ => none
def gSetK (d x : DV) (y : D) : EM := fun s => match x, y with
  | .o n, .int j => match setL s.m n j d with
    | some M => some (.ok (.p .non) M)
    | none => none
  | _, _ => none
def gSet (o i : EM) : GM := fun d s => match bnd o (fun x => bnd i (pur (gSetK d x))) s with
  | some (.ok _ M) => some ⟨s.l, M⟩
  | _ => none
theorem dg_set {o i : Expr} {to ti : TE} {mo mi : EM} (ho : DE K X WF o to mo) (hi : DE K X WF i ti mi) (ha : ∀ v, assign (.Subscript o i pos) X.env v = (do
      let ov ← holding [v] (eval o X.env)
      let iv ← holding [v, ov] (eval i X.env)
      standAt pos
      holding [v, ov, iv] (setItem ov iv v)
      release [v, ov, iv] []) := by intro _; rfl) : DG K X (.Subscript o i pos) (gSub to ti rSetL) (gSet mo mi) [] :=
  ⟨ho.k, pg_sub ho.pe hi.pe set_list ha, fun v dv σ H s s' Z I Q w rs rv e q => by
    unfold gSet at e
    cases z : bnd mo (fun x => bnd mi (pur (gSetK dv x))) s with
    | none => rw [z] at e; cases e
    | some r0 =>
      rw [z] at e
      cases r0 with
      | ex c fs M => cases e
      | ok d0 M0 =>
        cases e
        refine ho.so.bnd w rs z (fun c fs M h => by cases h) fun x ov M1 Z1 H1 I1 w1 rs1 x1 q1 e1 => ?_
        refine hi.so.bnd (s := ⟨s.l, M1⟩) w1 rs1 e1 (fun c fs M h => by cases h) fun y iv M2 Z2 H2 I2 w2 rs2 x2 q2 e2 => ?_
        obtain ⟨y, rfl, e2⟩ := pur_ok e2
        cases x with
        | p d => cases e2
        | o n =>
          cases y with
          | int j =>
            have e2 : (match setL M2 n j dv with | some M => some (Rs.ok (DV.p .non) M) | none => none) = some (Rs.ok d0 M0) := e2
            obtain ⟨a, ha', rfl⟩ := q1.mono x2
            cases q2
            cases y : setL M2 n j dv with
            | none => rw [y] at e2; cases e2
            | some M3 =>
              rw [y] at e2
              obtain rfl : M3 = M0 := by cases e2; rfl
              unfold setL at y
              cases y1 : M2[n]? with
              | none => rw [y1] at y; cases y
              | some ob =>
                rw [y1] at y
                cases ob with
                | lst ds =>
                  have y : (match ixN ds.length j with | some j => some (M2.set n (.lst (ds.set j dv))) | none => none) = some M3 := y
                  cases y2 : ixN ds.length j with
                  | none => rw [y2] at y; cases y
                  | some k =>
                    rw [y2] at y; cases y
                    obtain ⟨_, xs, h1, h2⟩ := w2.ob n a _ ha' y1 (by intro z; cases z)
                    have y3 := ext_set (Z := Z2) (H := H2) (ho := .lst (xs.set k v)) (List.mem_of_getElem? ha')
                    have rv2 : RepV K Z2 I2 v dv := RepV.mono (x1.trans x2) rv
                    refine ⟨a, xs, j, k, rfl, rfl, h1, by rw [paired_len h2]; exact y2, ?_⟩
                    exact q σ Z2 _ I2 (w2.setO (o' := .lst (ds.set k dv)) ha' y1 (by intro z; cases z) ⟨_, upd_same, paired_set rv2 k h2⟩) (rs2.mono y3) ((x1.trans x2).trans y3) fun _ _ => rfl
                | _ => cases y
          | _ => cases e2⟩
/-! ### methods of built-in types -/
def tyOk (T : String) (M : List O) : DV → Bool
  | .p (.str _) => T == "str"
  | .p (.lst _) => T == "list"
  | .p (.klst _) => T == "list"
  | .o n => match M[n]? with
    | some (.lst _) => T == "list"
    | some (.dK _) => T == "dict"
    | some (.dT _) => T == "dict"
    | _ => false
  | _ => false
theorem ty_of {T : String} {Z H : Hp} {I : List Addr} {M : List O} {x : V} {d : DV} (w : Wf K Z H I M) (h : RepV K Z I x d) (e : tyOk T M d = true) : tyV K T x H := by
  cases d with
  | o n =>
    obtain ⟨a, ha, rfl⟩ := h
    unfold tyOk at e
    simp only at e
    cases z : M[n]? with
    | none => rw [z] at e; cases e
    | some o =>
      rw [z] at e
      cases o with
      | lst ds =>
        obtain ⟨_, xs, h1, _⟩ := w.ob n a _ ha z (by intro z; cases z)
        exact .inl ⟨by simpa using e, xs, SqL.of h1⟩
      | dK ds =>
        obtain ⟨_, xs, h1, _⟩ := w.ob n a _ ha z (by intro z; cases z)
        exact .inr (.inr (.inl ⟨by simpa using e, .inl ⟨xs, h1⟩⟩))
      | dT ds =>
        obtain ⟨_, xs, h1, _⟩ := w.ob n a _ ha z (by intro z; cases z)
        exact .inr (.inr (.inl ⟨by simpa using e, .inr ⟨xs, h1⟩⟩))
      | _ => cases e
  | p d =>
    have h : Rep K Z x d := h
    cases h with
    | str y => exact (by simpa [tyOk] using e : T = "str")
    | lst h1 h2 => exact .inl ⟨by simpa [tyOk] using e, _, .inl (same_rd w.sub h1)⟩
    | klst h1 h2 => exact .inl ⟨by simpa [tyOk] using e, _, same_l w.sub h1⟩
    | _ => cases e
abbrev MtG := DV → List DV → EM
structure MthD (K : PySem.W.Frag) (X : Cx) (id : String) (r : V → List V → Hp → VK → Prop) (g : MtG) : Prop where
  op : X.K = K → MtR X id r
  ok : ∀ (W : WX) (σ : St) (x : V) (d : DV) (vs : List V) (ds : List DV) (Z H : Hp) (I : List Addr) (s : S) (r0 : Rs DV) (Q : VK), Wf K Z H I s.m → RepV K Z I x d → RepVs K Z I vs ds → g d ds s = some r0 → PostR K W (RepV K) Z H I σ Q r0 → r x vs H Q
def mMth (T : String) (g : MtG) (o : EM) (ms : AM) : EM := bnd o fun d s => if tyOk T s.m d = true then bnd ms (fun ds => g d ds) s else none
theorem so_mth {T : String} {r : V → List V → Hp → VK → Prop} {g : MtG} {to : TE} {t : TA} {mo : EM} {ms : AM}
    (h : ∀ (W : WX) (σ : St) (x : V) (d : DV) (vs : List V) (ds : List DV) (Z H : Hp) (I : List Addr) (s : S) (r0 : Rs DV) (Q : VK), Wf K Z H I s.m → RepV K Z I x d → RepVs K Z I vs ds → g d ds s = some r0 → PostR K W (RepV K) Z H I σ Q r0 → r x vs H Q)
    (ho : Sound K W (RepV K) to mo) (ha : Sound K W (RepVs K) t ms) : Sound K W (RepV K) (tBM K T r to t) (mMth T g mo ms) := ⟨fun σ H s Z I r0 Q w rs e p => by
  refine ho.bnd w rs e p.x fun d v M1 Z1 H1 I1 w1 rs1 x1 q1 e1 => ?_
  have e1 : (if tyOk T M1 d = true then bnd ms (fun ds => g d ds) ⟨s.l, M1⟩ else none) = some r0 := e1
  split at e1
  · rename_i hty
    have p1 := p.mono x1
    refine ⟨ty_of w1 q1 hty, ha.bnd (s := ⟨s.l, M1⟩) w1 rs1 e1 p1.x fun ds vs M2 Z2 H2 I2 w2 rs2 x2 q2 e2 => ?_⟩
    exact h W σ v d vs ds Z2 H2 I2 ⟨s.l, M2⟩ r0 Q w2 (q1.mono x2) q2 e2 (p1.mono x2)
  · cases e1⟩
theorem de_mth {T id : String} {r : V → List V → Hp → VK → Prop} {g : MtG} {o : Expr} {name : Str} {apos cpos : Pos} {to : TE} {t : TA} {mo : EM} {ms : AM} (h : MthD K X id r g) (ho : DE K X W o to mo) (ha : DA K X W (e :: es) t ms) (pa : PlainAttrs T) (slot : Slot T name id) (hty : typeOf (.builtin id) = pure (.type "method_descriptor"))
    (hs : starEach (e :: es) X.env = (false, eval e X.env) :: starEach es X.env := by rfl) (hpl : (backTo cpos (starEach es X.env)).any (·.1) = false := by rfl)
    (hbase : attributeBase o name X.env (eval o X.env) = eval o X.env := by rfl) (hfew : ((((backTo cpos (starEach (e :: es) X.env)).all fun x => !x.1) && (backToKw cpos (keywordEach [] X.env)).all fun x => x.1.isSome) && decide (((e :: es).length + ([] : List Keyword).length + if ([] : List Keyword).isEmpty = true then 0 else 1) < 30)) = true := by rfl)
    (hline : (apos.endLine == cpos.line) = true := by rfl) : DE K X W (.Call (.Attribute o name apos) (e :: es) [] cpos) (tBM K T r to t) (mMth T g mo ms) := by
  refine ⟨ho.k, ?_, so_mth h.ok ho.so ha.so⟩
  have q := pe_bm (X := X) (cpos := cpos) (apos := apos) pa slot hty (h.op ho.k) ho.pe ha.pa (hbase := hbase) (hfew := hfew) (hline := hline) (hs := hs) (hplain := hpl)
  rw [ho.k] at q
  exact q
/-- data in, data out -/
def gP (g : D → List D → Option D) : MtG := fun d ds s => match d with
  | .p d => match allP ds with
    | some xs => ret (g d xs) s
    | none => none
  | .o _ => none
def gApp : MtG := fun d ds s => match d, ds with
  | .o n, [y] => match s.m[n]? with
    | some (.lst xs) => if xs.length < 1000000 then some (.ok (.p .non) (s.m.set n (.lst (xs ++ [y])))) else none
    | _ => none
  | _, _ => none
theorem md_app : MthD K X "list.append" rAppend gApp := ⟨fun _ => mt_append, fun W σ x d vs ds Z H I s r0 Q w hx hv e p => by
  unfold gApp at e
  split at e
  · rename_i n y
    obtain ⟨a, ha, rfl⟩ := hx
    cases hv with
    | cons h1 h2 =>
    cases h2
    split at e
    · rename_i xs hm
      split at e
      · rename_i hl
        cases e
        obtain ⟨_, ys, g1, g2⟩ := w.ob n a _ ha hm (by intro z; cases z)
        refine ⟨a, ys, _, rfl, rfl, g1, by rw [paired_len g2]; exact size_lt (Nat.le_of_lt hl), ?_⟩
        exact p _ Z _ I (w.setO ha hm (by intro z; cases z) ⟨_, upd_same, paired_app g2 (.cons h1 .nil)⟩) (ext_set (List.mem_of_getElem? ha)) .non
      · cases e
    · cases e
  · cases e⟩
/-! ### defs -/
def slotsOf (n : Nat) (ds : List DV) : List (Option DV) := ds.map some ++ List.replicate (n - ds.length) none
theorem start_rep {Z : Hp} {I : List Addr} {N : List Str} {vs : List V} {ds : List DV} (r : RepVs K Z I vs ds) : RepS K Z I (L2.start N vs) (slotsOf N.length ds) := by
  have hl := paired_len r
  refine ⟨by unfold L2.start slotsOf; simp [hl], fun i dv e => ?_⟩
  unfold slotsOf at e
  unfold L2.start
  by_cases hi : i < ds.length
  · rw [List.getElem?_append_left (by simpa using hi), List.getElem?_map] at e
    cases q : ds[i]? with
    | none => rw [q] at e; cases e
    | some d =>
      rw [q] at e
      cases e
      obtain ⟨v, h1, h2⟩ := paired_get r q
      exact ⟨v, by rw [List.getElem?_append_left (by simpa [hl] using hi), List.getElem?_map, h1]; rfl, h2⟩
  · rw [List.getElem?_append_right (by simpa using hi), List.getElem?_replicate] at e
    split at e <;> cases e
def runA (n : Nat) (m : SM) : MA := fun ds => match m ⟨slotsOf n (ds.map .p), []⟩ with
  | some (.nx, _) => some (.ok .non)
  | some (.rt (.p d), _) => some (.ok d)
  | some (.ex c fs, _) => some (.ex c fs)
  | _ => none
def ltO (k : Nat) : DV → Bool
  | .p _ => true
  | .o n => decide (n < k)
def closed (k : Nat) : O → Bool
  | .lst xs => xs.all (ltO k)
  | .dK xs => xs.all fun p => ltO k p.2
  | .dT xs => xs.all fun p => ltO k p.2
  | .ins _ xs => xs.all fun p => ltO k p.2
  | .tbl _ _ => true
  | .gone => true
def dropM (k : Nat) (d : DV) (M : List O) : List O := if (ltO k d && (M.take k).all (closed k)) = true then M.take k else M
def runB (n : Nat) (m : SM) : List DV → List O → Option (Rs DV) := fun ds M => match m ⟨slotsOf n ds, M⟩ with
  | some (.nx, s) => some (.ok (.p .non) (dropM M.length (.p .non) s.m))
  | some (.rt d, s) => some (.ok d (dropM M.length d s.m))
  | some (.ex c fs, s) => some (.ex c fs (dropM M.length (.p .non) s.m))
  | _ => none
theorem repV_take {Z : Hp} {I t : List Addr} {v : V} {d : DV} (h : RepV K Z (I ++ t) v d) (l : ltO I.length d = true) : RepV K Z I v d := by
  cases d with
  | p d => exact h
  | o n =>
    obtain ⟨a, ha, e⟩ := h
    have l : n < I.length := by simpa [ltO] using l
    exact ⟨a, by rw [List.getElem?_append_left l] at ha; exact ha, e⟩
theorem paired_all {α β : Type} {F G : α → β → Prop} {p : β → Bool} (k : ∀ a b, F a b → p b = true → G a b) : ∀ {xs : List α} {ys : List β}, Paired F xs ys → ys.all p = true → Paired G xs ys
  | _, _, .nil, _ => .nil
  | _, _, .cons h r, e => by
    rw [List.all_cons, Bool.and_eq_true] at e
    exact .cons (k _ _ h e.1) (paired_all k r e.2)
theorem wf_take {Z H : Hp} {I t : List Addr} {M : List O} (w : Wf K Z H (I ++ t) M) (l : (M.take I.length).all (closed I.length) = true) : Wf K Z H I (M.take I.length) where
  sub := w.sub
  len := by
    have := w.len
    rw [List.length_append] at this
    rw [List.length_take]; omega
  nd := (List.nodup_append.mp w.nd).1
  tr := fun a m => w.tr a (List.mem_append_left _ m)
  ob := fun n a o h1 h2 h3 => by
    have hn := (List.getElem?_eq_some_iff.mp h1).1
    have cl : closed I.length o = true := List.all_eq_true.mp l o (List.mem_of_getElem? h2)
    rw [List.getElem?_take_of_lt hn] at h2
    obtain ⟨q1, q2⟩ := w.ob n a o (by rw [List.getElem?_append_left hn]; exact h1) h2 h3
    refine ⟨q1, ?_⟩
    cases o with
    | lst ds => obtain ⟨xs, h, r⟩ := q2; exact ⟨xs, h, paired_all (p := ltO I.length) (fun _ _ q l => repV_take q l) r cl⟩
    | dK _ => obtain ⟨xs, h, r⟩ := q2; exact ⟨xs, h, paired_all (G := FRel K Z I) (p := fun p => ltO I.length p.2) (fun a b q l => (⟨q.1, repV_take q.2 l⟩ : FRel K Z I a b)) r cl⟩
    | dT _ => obtain ⟨xs, h, r⟩ := q2; exact ⟨xs, h, paired_all (G := FRel K Z I) (p := fun p => ltO I.length p.2) (fun a b q l => (⟨q.1, repV_take q.2 l⟩ : FRel K Z I a b)) r cl⟩
    | ins _ _ => obtain ⟨dx, xs, h, r⟩ := q2; exact ⟨dx, xs, h, paired_all (G := FRel K Z I) (p := fun p => ltO I.length p.2) (fun a b q l => (⟨q.1, repV_take q.2 l⟩ : FRel K Z I a b)) r cl⟩
    | tbl _ _ => exact q2
    | gone => trivial
theorem drop_ok {Z H Z' H' : Hp} {I I' : List Addr} {M M' : List O} {v : V} {d : DV} (w0 : Wf K Z H I M) (w : Wf K Z' H' I' M') (x : Ext Z H I Z' H' I') (r : RepV K Z' I' v d) : ∃ I2, Wf K Z' H' I2 (dropM M.length d M') ∧ Ext Z H I Z' H' I2 ∧ RepV K Z' I2 v d ∧ ∀ a ∈ I2, a ∈ I' := by
  unfold dropM
  split
  · rename_i h
    rw [Bool.and_eq_true] at h
    obtain ⟨t, rfl⟩ := x.i
    rw [← w0.len] at h ⊢
    exact ⟨I, wf_take w h.2, ⟨x.z, ⟨[], by simp⟩, x.fr, fun a m => .inl m, x.zn, x.tr⟩, repV_take r h.1, fun a m => List.mem_append_left _ m⟩
  · exact ⟨I', w, x, r, fun _ m => m⟩
section
variable {P : Program} {w : World} {mg : Str → Option Value} {base : Heap} {x qual : Str} {st : Stmt} {f : Addr} {fd : FuncData} {N ps : List Str} {k : Nat}
abbrev WE0 (E : XK) : WX := fun cls d _ H => E cls d H
theorem fnA {m : SM} (F : Fun K x qual st f fd) (Sc : FnScope N ps (defScope st))
    (body : ∀ (cdv : Value) (A : Around) (outer : List Env) (s : Shared) (H : Hp) (E : XK), Room k (A.deeper (PyProof.Rows.envOfC qual (defScope st) s.heap.objs.size f cdv)) →
      ∃ t, DSs K (cxOf (L2.CX P w) P w K mg base N qual (defScope st) f cdv A outer s H E) (WE0 E) (defBody st) t m) : FnOk P w K mg base (L2.CX P w) (k + 1) f fd ps (spA K ps.length (runA N.length m)) := by
  refine F.okX Sc spA_len fun cdv A outer s H vs Q E hr h => ?_
  obtain ⟨hl, Z, ds, r, sub, rp, e, p⟩ := h
  obtain ⟨t, b⟩ := body cdv A outer s H E hr
  refine ⟨t, b.ps, ?_⟩
  have w0 : Wf K Z H [] [] := ⟨sub, rfl, List.nodup_nil, (by simp), fun n a o h => by simp at h⟩
  unfold runA at e
  cases z : m ⟨slotsOf N.length (ds.map .p), []⟩ with
  | none => rw [z] at e; cases e
  | some fs =>
    rw [z] at e
    obtain ⟨fl, s1⟩ := fs
    have xp : ∀ {Z' H' I'}, Wf K Z' H' I' s1.m → Ext Z H [] Z' H' I' → ExtP Z H Z' H' := fun {Z' H' I'} w' x' => ⟨x'.z, fun a o q => x'.fr a o q (by simp), w'.sub, fun a q => by
      rcases x'.zn a q with k | k | k
      · exact .inl k
      · exact .inr k
      · cases k⟩
    refine b.so.ok (L2.start N vs) H _ Z [] _ _ w0 (start_rep (allP_map rp)) z ?_
    cases fl with
    | nx => cases e; exact fun σ' Z' H' I' w' rs' x' => p _ Z' H' (xp w' x') .non
    | rt d =>
      cases d with
      | p d => cases e; exact fun v Z' H' I' w' x' r' => p v Z' H' (xp w' x') r'
      | o n => cases e
    | ex c fs => cases e; exact fun σ' d Z' H' I' w' rs' x' ea na => p d Z' H' (xp w' x') ea fun a q => (na a q).1
    | bk => cases e
    | ct => cases e
theorem fnB {m : SM} (F : Fun K x qual st f fd) (Sc : FnScope N ps (defScope st))
    (body : ∀ (cdv : Value) (A : Around) (outer : List Env) (s : Shared) (H : Hp) (E : XK), Room k (A.deeper (PyProof.Rows.envOfC qual (defScope st) s.heap.objs.size f cdv)) →
      ∃ t, DSs K (cxOf (L2.CX P w) P w K mg base N qual (defScope st) f cdv A outer s H E) (WE0 E) (defBody st) t m) : FnOk P w K mg base (L2.CX P w) (k + 1) f fd ps (spB K ps.length (runB N.length m)) := by
  refine F.okX Sc spB_len fun cdv A outer s H vs Q E hr h => ?_
  obtain ⟨hl, Z, I, M, ds, r, w0, rp, e, p⟩ := h
  obtain ⟨t, b⟩ := body cdv A outer s H E hr
  refine ⟨t, b.ps, ?_⟩
  unfold runB at e
  cases z : m ⟨slotsOf N.length ds, M⟩ with
  | none => rw [z] at e; cases e
  | some fs =>
    rw [z] at e
    obtain ⟨fl, s1⟩ := fs
    refine b.so.ok (L2.start N vs) H ⟨slotsOf N.length ds, M⟩ Z I _ _ w0 (start_rep rp) z ?_
    cases fl with
    | nx =>
      cases e
      intro σ' Z' H' I' w' rs' x'
      obtain ⟨I2, w2, x2, r2, _⟩ := drop_ok (d := .p .non) (v := .non) w0 w' x' (show Rep K Z' .non .non from .non)
      exact p _ Z' H' I2 w2 x2 r2
    | rt d =>
      cases e
      intro v Z' H' I' w' x' r'
      obtain ⟨I2, w2, x2, r2, _⟩ := drop_ok w0 w' x' r'
      exact p v Z' H' I2 w2 x2 r2
    | ex c fs =>
      cases e
      intro σ' d Z' H' I' w' rs' x' ea na
      obtain ⟨I2, w2, x2, _, h2⟩ := drop_ok (d := .p .non) (v := .non) w0 w' x' (show Rep K Z' .non .non from .non)
      exact p d Z' H' I2 w2 x2 ea fun a q => ⟨(na a q).1, fun m => (na a q).2 (h2 a m)⟩
    | bk => cases e
    | ct => cases e
end
end
end DL
namespace DL
open PySem L2
/-! ### equality of data -/
mutual
def toP : D → PyData
  | .non => .none
  | .bl b => .bool b
  | .int i => .int i
  | .str s => .str s
  | .lst xs => .list (toPs xs)
  | .klst xs => .list (toPs xs)
  | .tup xs => .tuple (toPs xs)
  | .ktup xs => .tuple (toPs xs)
  | .dK _ => .dict []
  | .dT _ => .dict []
  | .fn _ => .dict []
  | .clo _ _ => .dict []
  | .scr _ => .dict []
  | .ty _ => .dict []
  | .rng _ _ => .dict []
def toPs : List D → List PyData
  | [] => []
  | d :: r => toP d :: toPs r
end
mutual
/-- the same, as == tells -/
def deq : D → D → Bool
  | .non, .non => true
  | .bl a, .bl b => a == b
  | .bl a, .int j => (if a then 1 else 0) == j
  | .int i, .bl b => i == (if b then 1 else 0)
  | .int i, .int j => i == j
  | .str x, .str y => x == y
  | .lst xs, .lst ys => deqs xs ys
  | .lst xs, .klst ys => deqs xs ys
  | .klst xs, .lst ys => deqs xs ys
  | .klst xs, .klst ys => deqs xs ys
  | .tup xs, .tup ys => deqs xs ys
  | .tup xs, .ktup ys => deqs xs ys
  | .ktup xs, .tup ys => deqs xs ys
  | .ktup xs, .ktup ys => deqs xs ys
  | _, _ => false
def deqs : List D → List D → Bool
  | [], [] => true
  | x :: xs, y :: ys => deq x y && deqs xs ys
  | _, _ => false
end
mutual
theorem deq_eqv : ∀ a b : D, PyData.eqv (toP a) (toP b) = deq a b
  | .lst xs, b => by
    cases b with
    | lst ys => exact deqs_eqv xs ys
    | klst ys => exact deqs_eqv xs ys
    | _ => rfl
  | .klst xs, b => by
    cases b with
    | lst ys => exact deqs_eqv xs ys
    | klst ys => exact deqs_eqv xs ys
    | _ => rfl
  | .tup xs, b => by
    cases b with
    | tup ys => exact deqs_eqv xs ys
    | ktup ys => exact deqs_eqv xs ys
    | _ => rfl
  | .ktup xs, b => by
    cases b with
    | tup ys => exact deqs_eqv xs ys
    | ktup ys => exact deqs_eqv xs ys
    | _ => rfl
  | .non, b => by cases b <;> rfl
  | .bl _, b => by cases b <;> rfl
  | .int _, b => by cases b <;> rfl
  | .str _, b => by cases b <;> rfl
  | .dK _, b => by cases b <;> rfl
  | .dT _, b => by cases b <;> rfl
  | .fn _, b => by cases b <;> rfl
  | .clo _ _, b => by cases b <;> rfl
  | .scr _, b => by cases b <;> rfl
  | .ty _, b => by cases b <;> rfl
  | .rng _ _, b => by cases b <;> rfl
theorem deqs_eqv : ∀ a b : List D, PyData.eqvAll (toPs a) (toPs b) = deqs a b
  | [], [] => rfl
  | x :: xs, y :: ys => by
    show (PyData.eqv (toP x) (toP y) && PyData.eqvAll (toPs xs) (toPs ys)) = (deq x y && deqs xs ys)
    rw [deq_eqv x y, deqs_eqv xs ys]
  | [], _ :: _ => rfl
  | _ :: _, [] => rfl
end
section
variable {K : PySem.W.Frag} {Z H : Hp}
mutual
theorem Rep.dp (s : Same Z H) : ∀ {v : V} {d : D}, Rep K Z v d → PyData.canLay0 (toP d) = true → Dp K H v (toP d)
  | _, _, .non, _ => .non
  | _, _, .bl b, _ => .bl b
  | _, _, .int i, _ => .int i
  | _, _, .str x, _ => .str x
  | _, _, .lst h r, e => .lst (.inl (same_rd s h)) (RepA.dp s r e)
  | _, _, .tup h r, e => .tup (sqt s h) (RepA.dp s r e)
  | _, _, .ktup h r, e => .tup (same_t s h) (RepA.dp s r e)
  | _, _, .klst h r, e => .lst (same_l s h) (RepA.dp s r e)
  | _, _, .dK _ _, e => by cases e
  | _, _, .dT _ _, e => by cases e
  | _, _, .fn _, e => by cases e
  | _, _, .clo _ _, e => by cases e
  | _, _, .scr _ _, e => by cases e
  | _, _, .ty _, e => by cases e
  | _, _, .rng _, e => by cases e
theorem RepA.dp (s : Same Z H) : ∀ {v : List V} {d : List D}, RepA K Z v d → PyData.canLayAll0 (toPs d) = true → DpAll K H v (toPs d)
  | _, _, .nil, _ => .nil
  | _, _, .cons h r, e => by
    have e : (PyData.canLay0 (toP _) && PyData.canLayAll0 (toPs _)) = true := e
    rw [Bool.and_eq_true] at e
    exact .cons (Rep.dp s h e.1) (RepA.dp s r e.2)
end
end
mutual
def okD : D → Bool
  | .non => true
  | .bl _ => true
  | .int _ => true
  | .str x => PyData.strOk x
  | .lst xs => okDs xs
  | .tup xs => okDs xs
  | .ktup xs => okDs xs
  | .klst xs => okDs xs
  | _ => false
def okDs : List D → Bool
  | [] => true
  | x :: xs => okD x && okDs xs
end
mutual
def depD : D → Nat
  | .lst xs => depDs xs + 1
  | .tup xs => depDs xs + 1
  | .ktup xs => depDs xs + 1
  | .klst xs => depDs xs + 1
  | _ => 0
def depDs : List D → Nat
  | [] => 0
  | x :: xs => max (depD x) (depDs xs)
end
mutual
theorem okD_can : ∀ d : D, okD d = true → PyData.canLay0 (toP d) = true
  | .non, _ => rfl
  | .bl _, _ => rfl
  | .int _, _ => rfl
  | .str x, h => h
  | .lst xs, h => okDs_can xs h
  | .tup xs, h => okDs_can xs h
  | .ktup xs, h => okDs_can xs h
  | .klst xs, h => okDs_can xs h
  | .dK _, h => by cases h
  | .dT _, h => by cases h
  | .fn _, h => by cases h
  | .clo _ _, h => by cases h
  | .scr _, h => by cases h
  | .ty _, h => by cases h
  | .rng _ _, h => by cases h
theorem okDs_can : ∀ d : List D, okDs d = true → PyData.canLayAll0 (toPs d) = true
  | [], _ => rfl
  | x :: xs, h => by
    have h : (okD x && okDs xs) = true := h
    rw [Bool.and_eq_true] at h
    show (PyData.canLay0 (toP x) && PyData.canLayAll0 (toPs xs)) = true
    rw [okD_can x h.1, okDs_can xs h.2]; rfl
end
mutual
theorem depD_dep : ∀ d : D, okD d = true → PyData.depth (toP d) = depD d
  | .non, _ => rfl
  | .bl _, _ => rfl
  | .int _, _ => rfl
  | .str x, _ => rfl
  | .lst xs, h => by show PyData.depthAll (toPs xs) + 1 = depDs xs + 1; rw [depDs_dep xs h]
  | .tup xs, h => by show PyData.depthAll (toPs xs) + 1 = depDs xs + 1; rw [depDs_dep xs h]
  | .ktup xs, h => by show PyData.depthAll (toPs xs) + 1 = depDs xs + 1; rw [depDs_dep xs h]
  | .klst xs, h => by show PyData.depthAll (toPs xs) + 1 = depDs xs + 1; rw [depDs_dep xs h]
  | .dK _, h => by cases h
  | .dT _, h => by cases h
  | .fn _, h => by cases h
  | .clo _ _, h => by cases h
  | .scr _, h => by cases h
  | .ty _, h => by cases h
  | .rng _ _, h => by cases h
theorem depDs_dep : ∀ d : List D, okDs d = true → PyData.depthAll (toPs d) = depDs d
  | [], _ => rfl
  | x :: xs, h => by
    have h : (okD x && okDs xs) = true := h
    rw [Bool.and_eq_true] at h
    show max (PyData.depth (toP x)) (PyData.depthAll (toPs xs)) = max (depD x) (depDs xs)
    rw [depD_dep x h.1, depDs_dep xs h.2]
end
def shp (d : D) : Bool := okD d && decide (depD d ≤ 64)
theorem shp_ok {d : D} (h : shp d = true) : SeqAt.shaped (toP d) = true := by
  unfold shp at h
  rw [Bool.and_eq_true] at h
  unfold SeqAt.shaped
  rw [okD_can d h.1, depD_dep d h.1, h.2]; rfl
/-- scalars are told apart at once; the rest has to be shaped -/
def scalD : D → D → Option Bool
  | .non, .non => some true
  | .non, .int _ => some false
  | .int _, .non => some false
  | .non, .bl _ => some false
  | .bl _, .non => some false
  | .non, .str _ => some false
  | .str _, .non => some false
  | .int i, .int j => some (i == j)
  | .bl i, .bl j => some (i == j)
  | .str x, .str y => some (x == y)
  | .int _, .str _ => some false
  | .str _, .int _ => some false
  | .bl _, .str _ => some false
  | .str _, .bl _ => some false
  | _, _ => none
def eqD (d e : D) : Option Bool := match scalD d e with
  | some b => some b
  | none => if (shp d && shp e) = true then some (deq d e) else none
def dEq (d e : D) : Option D := (eqD d e).map .bl
def dNe (d e : D) : Option D := (eqD d e).map fun b => .bl !b
theorem boolMap {α : Type} {o : Option α} {f : α → Bool} {c : D} (h : (o.map fun a => D.bl (f a)) = some c) : ∃ b, c = .bl b := by
  cases o with
  | none => cases h
  | some a => cases h; exact ⟨_, rfl⟩
theorem bool_dEq : boolD dEq := fun d e c h => boolMap (f := id) h
theorem bool_dNe : boolD dNe := fun d e c h => boolMap h
section
variable {K : PySem.W.Frag} {X : Cx}
theorem scal_ok {Z : Hp} {x y : V} {d e : D} {b : Bool} (hx : Rep K Z x d) (hy : Rep K Z y e) (h : scalD d e = some b) : scal x y = true ∧ decide (x = y) = b := by
  cases hx with
  | non => cases hy <;> cases h <;> exact ⟨rfl, rfl⟩
  | int i => cases hy with
    | int j => cases h; refine ⟨rfl, ?_⟩; by_cases q : i = j <;> simp [q]
    | non => cases h; exact ⟨rfl, rfl⟩
    | str _ => cases h; exact ⟨rfl, rfl⟩
    | _ => cases h
  | bl i => cases hy with
    | bl j => cases h; refine ⟨rfl, ?_⟩; by_cases q : i = j <;> simp [q]
    | non => cases h; exact ⟨rfl, rfl⟩
    | str _ => cases h; exact ⟨rfl, rfl⟩
    | _ => cases h
  | str i => cases hy with
    | str j => cases h; refine ⟨rfl, ?_⟩; by_cases q : i = j <;> simp [q]
    | non => cases h; exact ⟨rfl, rfl⟩
    | int _ => cases h; exact ⟨rfl, rfl⟩
    | bl _ => cases h; exact ⟨rfl, rfl⟩
    | _ => cases h
  | _ => cases hy <;> cases h
def rEqX (K : PySem.W.Frag) : R2 := fun x y H Q => rEq x y H Q ∨ rEqD K x y H Q
def rNeX (K : PySem.W.Frag) : R2 := fun x y H Q => rNe x y H Q ∨ rNeD K x y H Q
theorem shaped_can {d : D} (h : shp d = true) : PyData.canLay0 (toP d) = true := SeqAt.canLay_of_shaped (shp_ok h)
theorem od_eq (hu : X.A.units + 64 < cLine) : OpD K X (compareOp .Eq) (rEqX K) dEq where
  op := fun k pins s σ H x y v u Q I rx ry h => by
    subst k
    rcases h with h | h
    · exact op_eq pins s σ H x y v u Q I rx ry h
    · exact op_eqD hu pins s σ H x y v u Q I rx ry h
  ok := by
    intro x y d e c Z H Q s hx hy hg p
    unfold dEq eqD at hg
    cases z : scalD d e with
    | some b =>
      rw [z] at hg; cases hg
      obtain ⟨h1, h2⟩ := scal_ok hx hy z
      exact .inl ⟨h1, by rw [h2]; exact p _ Z H (ExtP.refl s) (.bl _)⟩
    | none =>
      rw [z] at hg
      have hg : (if (shp d && shp e) = true then some (deq d e) else none).map D.bl = some c := hg
      split at hg
      · rename_i hs
        cases hg
        rw [Bool.and_eq_true] at hs
        exact .inr ⟨_, _, hx.dp s (shaped_can hs.1), hy.dp s (shaped_can hs.2), shp_ok hs.1, shp_ok hs.2, by rw [deq_eqv]; exact p _ Z H (ExtP.refl s) (.bl _)⟩
      · cases hg
theorem od_ne (hu : X.A.units + 64 < cLine) : OpD K X (compareOp .NotEq) (rNeX K) dNe where
  op := fun k pins s σ H x y v u Q I rx ry h => by
    subst k
    rcases h with h | h
    · exact op_ne pins s σ H x y v u Q I rx ry h
    · exact op_neD hu pins s σ H x y v u Q I rx ry h
  ok := by
    intro x y d e c Z H Q s hx hy hg p
    unfold dNe eqD at hg
    cases z : scalD d e with
    | some b =>
      rw [z] at hg; cases hg
      obtain ⟨h1, h2⟩ := scal_ok hx hy z
      exact .inl ⟨h1, by rw [h2]; exact p _ Z H (ExtP.refl s) (.bl _)⟩
    | none =>
      rw [z] at hg
      have hg : (if (shp d && shp e) = true then some (deq d e) else none).map (fun b => D.bl !b) = some c := hg
      split at hg
      · rename_i hs
        cases hg
        rw [Bool.and_eq_true] at hs
        exact .inr ⟨_, _, hx.dp s (shaped_can hs.1), hy.dp s (shaped_can hs.2), shp_ok hs.1, shp_ok hs.2, by rw [deq_eqv]; exact p _ Z H (ExtP.refl s) (.bl _)⟩
      · cases hg
end
/-! ### slices -/
section
variable {K : PySem.W.Frag} {X : Cx} {W : WX} {e a b c : Expr} {es : List Expr} {pos : Pos}
def RepOI (_ : Hp) (_ : List Addr) (x y : Option Int) : Prop := x = y
abbrev PM := Mi (Option Int)
structure DP (K : PySem.W.Frag) (X : Cx) (W : WX) (e : Option Expr) (t : TO) (m : PM) : Prop where
  k : X.K = K
  po : PO X e t
  so : Sound K W RepOI t m
def pNone : PM := fun s => some (.ok none s.m)
def pSome (m : EM) : PM := bnd m (pur fun d s => match d with
  | .int i => some (.ok (some i) s.m)
  | _ => none)
theorem dp_none (k : X.K = K := by rfl) : DP K X W none tNoPart pNone := ⟨k, po_none, ⟨fun σ H s Z I r Q w rs e p => by
  cases e; exact p none Z H I w Ext.refl rfl⟩⟩
theorem dp_some {te : TE} {m : EM} (h : DE K X W e te m) : DP K X W (some e) (tPart te) (pSome m) := ⟨h.k, po_some h.pe, ⟨fun σ H s Z I r Q w rs e p => by
  refine h.so.bnd w rs e p.x fun d v M1 Z1 H1 I1 w1 rs1 x1 q1 e1 => ?_
  obtain ⟨d, rfl, e1⟩ := pur_ok e1
  cases d with
  | int i => cases q1; cases e1; exact ⟨i, rfl, p _ Z1 H1 I1 w1 x1 rfl⟩
  | _ => cases e1⟩⟩
def cutD {α : Type} (xs : List α) (lo hi : Option Int) : List α := (xs.drop (HT.sIx xs.length 0 lo)).take (HT.sIx xs.length xs.length hi - HT.sIx xs.length 0 lo)
def slD : D → Option Int → Option Int → Option D
  | .str z, l, u => if z.length ≤ 1000000 then some (.str (cutS z l u)) else none
  | .lst xs, l, u => some (.lst (cutD xs l u))
  | .scr xs, l, u => some (.lst (cutD xs l u))
  | .tup xs, l, u => if HT.sIx xs.length 0 l = 0 ∧ HT.sIx xs.length xs.length u = xs.length then some (.tup xs) else some (.tup (cutD xs l u))
  | _, _, _ => none
def rSl (K : PySem.W.Frag) : V → Option Int → Option Int → Hp → VK → Prop := fun x lo hi H Q => rSlS x lo hi H Q ∨ rSlL K x lo hi H Q ∨ (∃ a xs, x = .ref a ∧ SqT K H a xs ∧ ¬ (HT.sIx xs.length 0 lo = 0 ∧ HT.sIx xs.length xs.length hi = xs.length) ∧ ∀ p, H p = none → Q (.ref p) (upd H p (.tup (cutV xs lo hi))))
theorem RepA.cut {Z : Hp} {xs : List V} {ds : List D} (r : RepA K Z xs ds) (lo hi : Option Int) : RepA K Z (cutV xs lo hi) (cutD ds lo hi) := by
  unfold cutV cutD
  rw [r.length]
  exact (r.drop _).take _
theorem sl_any : SlR X (rSl X.K) := fun pins s σ H x v vl vu lo hi sl Q I rx hs pl pu h => by
  rcases h with h | h | h
  · exact sl_str pins s σ H x v vl vu lo hi sl Q I rx hs pl pu h
  · exact sl_list pins s σ H x v vl vu lo hi sl Q I rx hs pl pu h
  · exact sl_tup pins s σ H x v vl vu lo hi sl Q I rx hs pl pu h
theorem sl_ok {x : V} {d c : D} {lo hi : Option Int} {Z H : Hp} {Q : VK} (s : Same Z H) (hx : Rep K Z x d) (hg : slD d lo hi = some c) (p : PostP K Z H c Q) (nt : ∀ xs, d ≠ .tup xs) : rSl K x lo hi H Q := by
  cases hx with
  | str z =>
    have hg : (if z.length ≤ 1000000 then some (D.str (cutS z lo hi)) else none) = some c := hg
    split at hg
    · rename_i hl
      cases hg
      exact .inl ⟨z, rfl, size_le hl, p _ Z H (ExtP.refl s) (.str _)⟩
    · cases hg
  | lst h1 h2 =>
    cases hg
    exact .inr (.inl ⟨_, _, rfl, .inl (same_rd s h1), fun l hl => p _ _ _ (ExtP.new s hl) (.lst (.inl upd_same) ((h2.cut lo hi).mono (same_upd (none_of s hl))))⟩)
  | scr h1 h2 =>
    cases hg
    exact .inr (.inl ⟨_, _, rfl, same_l s h1, fun l hl => p _ _ _ (ExtP.new s hl) (.lst (.inl upd_same) ((h2.cut lo hi).mono (same_upd (none_of s hl))))⟩)
  | tup h1 h2 => exact absurd rfl (nt _)
  | _ => cases hg
/-- (tuples are not cut here) -/
def slE (d : D) (l u : Option Int) : Option D := match d with
  | .tup _ => none
  | d => slD d l u
theorem de_sl {te : TE} {tl th : TO} {m : EM} {ml mu : PM} {lo hi : Option Expr} {p2 : Pos} (h : DE K X W e te m) (hl : DP K X W lo tl ml) (hh : DP K X W hi th mu) : DE K X W (.Subscript e (.Slice lo hi none p2) pos) (tSl (rSl K) te tl th) (bnd m (pur fun d => bnd ml fun i => bnd mu fun j => ret (slE d i j))) := by
  refine ⟨h.k, ?_, ⟨fun σ H s Z I r0 Q w rs e p => ?_⟩⟩
  · have q := pe_slice (X := X) (pos := pos) (p2 := p2) sl_any h.pe hl.po hh.po
    rw [h.k] at q
    exact q
  · refine h.so.bnd w rs e p.x fun d v M1 Z1 H1 I1 w1 rs1 x1 q1 e1 => ?_
    obtain ⟨d, rfl, e1⟩ := pur_ok e1
    have p1 := p.mono x1
    refine hl.so.bnd (s := ⟨s.l, M1⟩) w1 rs1 e1 p1.x fun i i' M2 Z2 H2 I2 w2 rs2 x2 q2 e2 => ?_
    cases (show i' = i from q2)
    have p2 := p1.mono x2
    refine hh.so.bnd (s := ⟨s.l, M2⟩) w2 rs2 e2 p2.x fun j j' M3 Z3 H3 I3 w3 rs3 x3 q3 e3 => ?_
    cases (show j' = j from q3)
    obtain ⟨c, hc, rfl⟩ := ret_ok e3
    have hx : Rep K Z3 v d := Rep.mono x3.z (Rep.mono x2.z q1)
    unfold slE at hc
    split at hc
    · cases hc
    · rename_i hn
      exact sl_ok w3.sub hx hc (PostP.of w3 (p2.mono x3)) fun xs h => hn xs h
end
end DL
namespace DL
open PySem L2
section
variable {K : PySem.W.Frag} {X : Cx} {W : WX} {e a b c : Expr} {es : List Expr} {pos : Pos}
/-! ### isinstance -/
def tyName : D → Option String
  | .non => some "NoneType"
  | .bl _ => some "bool"
  | .int _ => some "int"
  | .str _ => some "str"
  | .lst _ => some "list"
  | .tup _ => some "tuple"
  | .ktup _ => some "tuple"
  | _ => none
def dIsi : List O → List DV → Option D
  | _, [.p d, .p (.ty n)] => match tyName d with
    | some t => (kitB t n).map .bl
    | none => none
  | _, _ => none
end
end DL
namespace DL
open PySem L2
abbrev dSub : D → D → Option D := dIi fun i j => i - j
abbrev dMul : D → D → Option D := dI fun i j => if mulOk i j = true then some (.int (i * j)) else none
abbrev dDiv : D → D → Option D := dI fun i j => if 0 < j ∧ j < 18446744073709551616 then some (.int (i / j)) else none
abbrev dMod : D → D → Option D := dI fun i j => if 0 < j then some (.int (i % j)) else none
abbrev dLt : D → D → Option D := dIb fun i j => decide (i < j)
abbrev dGt : D → D → Option D := dIb fun i j => decide (j < i)
abbrev dGe : D → D → Option D := dIb fun i j => decide (j ≤ i)
def dNeg : D → Option D
  | .int i => some (.int (-i))
  | _ => none
/-- a def of the top -/
structure Df (K : PySem.W.Frag) (mg : Str → Option Value) (nm : Str) (st : Stmt) (ps : List Str) where
  a : Addr
  fd : FuncData
  F : Fun K nm nm st a fd
  m : mg nm = some (.ref a)
  b : Binds K fd ps []
theorem intsRep {K : PySem.W.Frag} {Z : Hp} : ∀ ns : List Int, RepA K Z (ns.map V.int) (ns.map D.int)
  | [] => .nil
  | n :: r => .cons (.int n) (intsRep r)
end DL
namespace DL
open PySem L2
/-- a constant of the top -/
structure GC (K : PySem.W.Frag) (mg : Str → Option Value) (x : Str) (d : D) where
  v : V
  u : Value
  m : mg x = some u
  r : RelV v u
  h : ∀ Z, Rep K Z v d
def mSlE (m : EM) (l u : PM) : EM := bnd m (pur fun d => bnd l fun i => bnd u fun j => ret (slE d i j))
end DL
namespace DL
open PySem L2
/-! the mirror's equations -/
@[simp] theorem e_gv0 (x : Option DV) (r : List (Option DV)) : gv (x :: r) 0 = x := by unfold gv; cases x <;> rfl
@[simp] theorem e_gvS (x : Option DV) (r : List (Option DV)) (n : Nat) : gv (x :: r) (n + 1) = gv r n := by unfold gv; rfl
@[simp] theorem e_var (i : Nat) (s : S) : mVar i s = (match gv s.l i with | some d => some (.ok d s.m) | none => none) := rfl
@[simp] theorem e_c (d : D) (s : S) : mC d s = some (.ok (.p d) s.m) := rfl
theorem e_bnd {α γ : Type} (m : Mi α) (k : α → Mi γ) (s : S) : bnd m k s = (match m s with | some (.ok v M) => k v ⟨s.l, M⟩ | some (.ex c f M) => some (.ex c f M) | none => none) := rfl
@[simp] theorem e_pur {γ : Type} (k : D → Mi γ) (d : D) (s : S) : pur k (.p d) s = k d s := rfl
@[simp] theorem e_ret (d : D) (s : S) : ret (some d) s = some (.ok (.p d) s.m) := rfl
@[simp] theorem e_bin (g : D → D → Option D) (m n : EM) (s : S) : mBin g m n s = (bnd m (pur fun d => bnd n (pur fun e => ret (g d e)))) s := rfl
@[simp] theorem e_un (g : D → Option D) (m : EM) (s : S) : mUn g m s = (bnd m (pur fun d => ret (g d))) s := rfl
@[simp] theorem e_dI (g : Int → Int → Option D) (i j : Int) : dI g (.int i) (.int j) = g i j := rfl
@[simp] theorem e_addI (i j : Int) : dAdd (.int i) (.int j) = some (.int (i + j)) := rfl
@[simp] theorem e_addS (x y : Str) : dAdd (.str x) (.str y) = if x.length + y.length ≤ 1000000 then some (.str (x ++ y)) else none := rfl
@[simp] theorem e_neg (i : Int) : dNeg (.int i) = some (.int (-i)) := rfl
@[simp] theorem e_isN (m : EM) (s : S) : mIsN m s = (bnd m fun d s => some (.ok (.p (.bl (isNV d))) s.m)) s := rfl
@[simp] theorem e_notN (m : EM) (s : S) : mNotN m s = (bnd m fun d s => some (.ok (.p (.bl (!isNV d))) s.m)) s := rfl
@[simp] theorem e_isNVo (n : Nat) : isNV (.o n) = false := rfl
@[simp] theorem e_isNV0 : isNV (.p .non) = true := rfl
@[simp] theorem e_isNV1 (i : Int) : isNV (.p (.int i)) = false := rfl
@[simp] theorem e_isNV2 (i : Str) : isNV (.p (.str i)) = false := rfl
@[simp] theorem e_isNV3 (i : List D) : isNV (.p (.tup i)) = false := rfl
@[simp] theorem e_isNV4 (i : List D) : isNV (.p (.lst i)) = false := rfl
@[simp] theorem e_isNV5 (i : Bool) : isNV (.p (.bl i)) = false := rfl
@[simp] theorem e_tru (m : EM) (s : S) : mTru m s = (bnd m fun d s => match truM s.m d with | some b => some (.ok (.p (.bl b)) s.m) | none => none) s := rfl
@[simp] theorem e_truB (M : List O) (b : Bool) : truM M (.p (.bl b)) = some b := rfl
@[simp] theorem e_ifMt {γ : Type} (n k : Mi γ) (s : S) : ifM n k (.p (.bl true)) s = n s := rfl
@[simp] theorem e_ifMf {γ : Type} (n k : Mi γ) (s : S) : ifM n k (.p (.bl false)) s = k s := rfl
@[simp] theorem e_fls (s : S) : fls s = some (.ok (.p (.bl false)) s.m) := rfl
@[simp] theorem e_trus (s : S) : tru s = some (.ok (.p (.bl true)) s.m) := rfl
@[simp] theorem e_and (m n : EM) (s : S) : mAnd m n s = (bnd m (ifM n fls)) s := rfl
@[simp] theorem e_or (m n : EM) (s : S) : mOr m n s = (bnd m (ifM tru n)) s := rfl
@[simp] theorem e_not (m : EM) (s : S) : mNot m s = (bnd m (ifM fls tru)) s := rfl
@[simp] theorem e_ifE (c m n : EM) (s : S) : mIf c m n s = (bnd c (ifM m n)) s := rfl
@[simp] theorem e_chain (g h : D → D → Option D) (m n k : EM) (s : S) : mChain g h m n k s = (bnd m (pur fun d => bnd n (pur fun e => bnd (ret (g d e)) (ifM (bnd k (pur fun f => ret (h e f))) fls)))) s := rfl
@[simp] theorem e_aNil (s : S) : aNil s = some (.ok [] s.m) := rfl
@[simp] theorem e_aCons (m : EM) (ms : AM) (s : S) : aCons m ms s = (bnd m fun d => bnd ms fun ds s => some (.ok (d :: ds) s.m)) s := rfl
@[simp] theorem e_allP0 : allP [] = some [] := rfl
@[simp] theorem e_allP1 (d : D) (r : List DV) : allP (.p d :: r) = (allP r).map (d :: ·) := rfl
@[simp] theorem e_allPm (xs : List D) : allP (xs.map .p) = some xs := by
  induction xs with
  | nil => rfl
  | cons x r ih => show (allP (r.map .p)).map _ = _; rw [ih]; rfl
@[simp] theorem e_disp (g : List D → D) (ms : AM) (s : S) : disp g ms s = (bnd ms fun ds s => match allP ds with | some xs => if xs.length ≤ 1000000 then some (.ok (.p (g xs)) s.m) else none | none => none) s := rfl
@[simp] theorem e_dispO (ms : AM) (s : S) : dispO ms s = (bnd ms fun ds s => if ds.length ≤ 1000000 then some (.ok (.o s.m.length) (s.m ++ [.lst ds])) else none) s := rfl
def ixK (d : DV) (i : D) : EM := fun s => match i with
  | .int i => (match ixM s.m d i with
    | some c => some (.ok c s.m)
    | none => none)
  | _ => none
@[simp] theorem e_ix (m n : EM) (s : S) : mIx m n s = (bnd m fun d => bnd n (pur (ixK d))) s := rfl
@[simp] theorem e_ixK (d : DV) (i : Int) (s : S) : ixK d (.int i) s = (match ixM s.m d i with | some c => some (.ok c s.m) | none => none) := rfl
@[simp] theorem e_ixp (M : List O) (d : D) (i : Int) : ixM M (.p d) i = (ixD d i).map .p := rfl
@[simp] theorem e_ixo (M : List O) (n : Nat) (i : Int) : ixM M (.o n) i = ixO M[n]? i := rfl
@[simp] theorem e_ixl (xs : List D) (i : Int) : ixD (.lst xs) i = atI xs i := rfl
@[simp] theorem e_ixt (xs : List D) (i : Int) : ixD (.tup xs) i = atI xs i := rfl
@[simp] theorem e_ixO (xs : List DV) (i : Int) : ixO (some (.lst xs)) i = atI xs i := rfl
@[simp] theorem e_cb (g : List O → List DV → Option D) (ms : AM) (s : S) : mCB g ms s = (bnd ms fun ds s => ret (g s.m ds) s) s := rfl
@[simp] theorem e_g1 (g : D → Option D) (M : List O) (d : D) : g1 g M [.p d] = g d := rfl
@[simp] theorem e_abs (i : Int) : dAbs (.int i) = some (.int (if i < 0 then -i else i)) := rfl
@[simp] theorem e_int (i : Int) : dInt (.int i) = some (.int i) := rfl
@[simp] theorem e_intb (b : Bool) : dInt (.bl b) = some (.int (if b then 1 else 0)) := rfl
@[simp] theorem e_len (M : List O) (d : DV) : dLen M [d] = Option.map (fun (n : Nat) => D.int (n : Int)) (lenM M d) := rfl
@[simp] theorem e_lenp (M : List O) (d : D) : lenM M (.p d) = lenD d := rfl
@[simp] theorem e_leno (M : List O) (n : Nat) : lenM M (.o n) = lenO M[n]? := rfl
@[simp] theorem e_lenl (xs : List D) : lenD (.lst xs) = some xs.length := rfl
@[simp] theorem e_lent (xs : List D) : lenD (.tup xs) = some xs.length := rfl
@[simp] theorem e_lens (y : Str) : lenD (.str y) = if y.length ≤ 1000000 then some y.length else none := rfl
@[simp] theorem e_lenO (xs : List DV) : lenO (some (.lst xs)) = some xs.length := rfl
@[simp] theorem e_callA (n : Nat) (f : MA) (ms : AM) (s : S) : mCallA n f ms s = (bnd ms fun ds s => if ds.length = n then match allP ds with
  | some xs => match f xs with
    | some (.ok d) => some (.ok (.p d) s.m)
    | some (.ex c fs) => some (.ex c fs s.m)
    | none => none
  | none => none else none) s := rfl
@[simp] theorem e_callB (n : Nat) (f : List DV → List O → Option (Rs DV)) (ms : AM) (s : S) : mCallB n f ms s = (bnd ms fun ds s => if ds.length = n then f ds s.m else none) s := rfl
theorem e_lift {α : Type} (m : Mi α) (k : α → SM) (s : S) : liftS m k s = (match m s with | some (.ok v M) => k v ⟨s.l, M⟩ | some (.ex c f M) => some (.ex c f, ⟨s.l, M⟩) | none => none) := rfl
@[simp] theorem e_nil (s : S) : sNil s = some (.nx, s) := rfl
theorem e_seq (a b : SM) (s : S) : sSeq a b s = (match a s with | some (.nx, s1) => b s1 | r => r) := rfl
@[simp] theorem e_expr (m : EM) (s : S) : sExpr m s = (liftS m fun _ s => some (.nx, s)) s := rfl
@[simp] theorem e_sret (m : EM) (s : S) : sRet m s = (liftS m fun d s => some (.rt d, s)) s := rfl
@[simp] theorem e_ifSt (n k : SM) (s : S) : ifS n k (.p (.bl true)) s = n s := rfl
@[simp] theorem e_ifSf (n k : SM) (s : S) : ifS n k (.p (.bl false)) s = k s := rfl
@[simp] theorem e_sif (c : EM) (m n : SM) (s : S) : sIf c m n s = (liftS c (ifS m n)) s := rfl
@[simp] theorem e_gN (i : Nat) (d : DV) (s : S) : gN i d s = some ⟨s.l.set i (some d), s.m⟩ := rfl
@[simp] theorem e_asg (m : EM) (g : GM) (s : S) : sAsg m g s = (liftS m fun d s => match g d s with | some s1 => some (.nx, s1) | none => none) s := rfl
@[simp] theorem e_par (i j : Nat) (ms : AM) (s : S) : sPar i j ms s = (liftS ms fun ds s => match ds with | [d, f] => some (.nx, ⟨(s.l.set i (some d)).set j (some f), s.m⟩) | _ => none) s := rfl
@[simp] theorem e_loop0 (g : GM) (b : SM) (s : S) : loopS g b [] s = some (.nx, s) := rfl
@[simp] theorem e_for (it : IM) (g : GM) (b : SM) (s : S) : sFor it g b s = (liftS it fun ds => loopS g b ds) s := rfl
@[simp] theorem e_frz (m : EM) (s : S) : mFrz m s = (bnd m fun d s => match d with
  | .p d => some (.ok (.p d) s.m)
  | .o n => match s.m[n]? with
    | some (.lst ds) => match allP ds with
      | some xs => some (.ok (.p (.lst xs)) (s.m.set n .gone))
      | none => none
    | _ => none) s := rfl
theorem e_runA (n : Nat) (m : SM) (ds : List D) : runA n m ds = (match m ⟨slotsOf n (ds.map .p), []⟩ with
  | some (.nx, _) => some (.ok .non)
  | some (.rt (.p d), _) => some (.ok d)
  | some (.ex c fs, _) => some (.ex c fs)
  | _ => none) := rfl
theorem e_runB (n : Nat) (m : SM) (ds : List DV) (M : List O) : runB n m ds M = (match m ⟨slotsOf n ds, M⟩ with
  | some (.nx, s) => some (.ok (.p .non) (dropM M.length (.p .non) s.m))
  | some (.rt d, s) => some (.ok d (dropM M.length d s.m))
  | some (.ex c fs, s) => some (.ex c fs (dropM M.length (.p .non) s.m))
  | _ => none) := rfl
@[simp] theorem e_slots (n : Nat) (ds : List DV) : slotsOf n ds = ds.map some ++ List.replicate (n - ds.length) none := rfl
@[simp] theorem e_pNone (s : S) : pNone s = some (.ok none s.m) := rfl
@[simp] theorem e_pSome (m : EM) (s : S) : pSome m s = (bnd m (pur fun d s => match d with | .int i => some (.ok (some i) s.m) | _ => none)) s := rfl
@[simp] theorem e_slE (m : EM) (l u : PM) (s : S) : mSlE m l u s = (bnd m (pur fun d => bnd l fun i => bnd u fun j => ret (slE d i j))) s := rfl
@[simp] theorem e_itD (g : D → Option (List DV)) (m : EM) (s : S) : mItD g m s = (bnd m (pur fun d s => match g d with | some ds => some (.ok ds s.m) | none => none)) s := rfl
@[simp] theorem e_itL (xs : List D) : itL (.lst xs) = some (xs.map .p) := rfl
@[simp] theorem e_itT (xs : List D) : itT (.tup xs) = some (xs.map .p) := rfl
@[simp] theorem e_rng (g : List DV → Option (List DV)) (ms : AM) (s : S) : mRng g ms s = (bnd ms fun ds s => match g ds with | some xs => some (.ok xs s.m) | none => none) s := rfl
@[simp] theorem e_rng1 (j : Int) : rng1D [.p (.int j)] = if rngOk j = true then some (intsFrom 0 j.toNat) else none := rfl
@[simp] theorem e_rng2 (i j : Int) : rng2D [.p (.int i), .p (.int j)] = if rngOk i = true then if rngOk j = true then some (intsFrom i (j - i).toNat) else none else none := rfl
@[simp] theorem e_mth (T : String) (g : MtG) (o : EM) (ms : AM) (s : S) : mMth T g o ms s = (bnd o fun d s => if tyOk T s.m d = true then bnd ms (fun ds => g d ds) s else none) s := rfl
@[simp] theorem e_lc (it : IM) (vs : List Nat) (g : GM) (t e : EM) (s : S) : mLc it vs g t e s = (bnd it fun ds s => match compL (wipeL s.l vs) g t e ds [] s.m with | some (acc, M) => some (.ok (.p (.lst acc)) M) | none => none) s := rfl
@[simp] theorem e_lcO (it : IM) (vs : List Nat) (g : GM) (t e : EM) (s : S) : mLcO it vs g t e s = (bnd it fun ds s => match compL (wipeL s.l vs) g t e ds [] s.m with | some (acc, M) => some (.ok (.o M.length) (M ++ [.lst (acc.map .p)])) | none => none) s := rfl
@[simp] theorem e_wipe0 (l : List (Option DV)) : wipeL l [] = l := rfl
@[simp] theorem e_wipe1 (l : List (Option DV)) (v : Nat) (vs : List Nat) : wipeL l (v :: vs) = (wipeL l vs).set v none := rfl
@[simp] theorem e_yes (s : S) : tYesM s = some (.ok (.p (.bl true)) s.m) := rfl
@[simp] theorem e_eqD (d e : D) : dEq d e = (eqD d e).map .bl := rfl
@[simp] theorem e_neD (d e : D) : dNe d e = (eqD d e).map fun b => .bl !b := rfl
@[simp] theorem e_eqII (i j : Int) : eqD (.int i) (.int j) = some (decide (i = j)) := by show some (i == j) = _; rw [Bool.beq_eq_decide_eq]
@[simp] theorem e_eqSS (i j : Str) : eqD (.str i) (.str j) = some (decide (i = j)) := by
  show some (i == j) = _
  by_cases h : i = j <;> simp [h]
@[simp] theorem e_eqBB (i j : Bool) : eqD (.bl i) (.bl j) = some (decide (i = j)) := by show some (i == j) = _; rw [Bool.beq_eq_decide_eq]
@[simp] theorem e_eqNI (j : Int) : eqD .non (.int j) = some false := rfl
@[simp] theorem e_eqIN (j : Int) : eqD (.int j) .non = some false := rfl
@[simp] theorem e_eqNN : eqD .non .non = some true := rfl
@[simp] theorem mul2L (i : Int) : mulOk 2 i = true := by unfold mulOk; simp
end DL
namespace DL
open PySem L2
/-! the drawn numbers -/
def stateB : SM := (sSeq (sAsg (mLcO (mItD itL (mSlE (mVar 0) pNone (pSome (mC (.int 63))))) [2] (gN 2) tYesM (mCB (g1 dAbs) (aCons (mVar 2) aNil))) (gN 1))
  (sSeq (sIf (mBin dEq (mCB dLen (aCons (mVar 1) aNil)) (mC (.int 0))) (sAsg (dispO (aCons (mC (.int 0)) aNil)) (gN 1)) sNil)
  (sRet (dispO (aCons (mC (.int 0)) (aCons (mVar 1) aNil))))))
def stateM : List DV → List O → Option (Rs DV) := runB 3 stateB
def takeB : SM := (sSeq (sIf (mBin dLt (mVar 1) (mC (.int 1))) (sRet (mC (.int 0))) sNil)
  (sSeq (sAsg (mIx (mVar 0) (mC (.int 1))) (gN 2))
  (sSeq (sAsg (mBin dMod (mIx (mVar 0) (mC (.int 0))) (mCB dLen (aCons (mVar 2) aNil))) (gN 3))
  (sSeq (sAsg (mIx (mVar 2) (mVar 3)) (gN 4))
  (sSeq (sIf (mBin dGe (mVar 4) (mC (.int 1000000000000000000))) (sSeq (sAsg (mBin dDiv (mVar 4) (mVar 1)) (gSet (mVar 2) (mVar 3)))
  (sRet (mBin dMod (mVar 4) (mVar 1)))) sNil)
  (sSeq (sAsg (mBin dAdd (mIx (mVar 0) (mC (.int 0))) (mC (.int 1))) (gSet (mVar 0) (mC (.int 0))))
  (sSeq (sAsg (mBin dMod (mCB (g1 dInt) (aCons (mBin dAdd (mBin dMul (mVar 4) (mC (.int 48271))) (mBin dMul (mIx (mVar 0) (mC (.int 0))) (mC (.int 69621)))) aNil)) (mC (.int 2147483647))) (gN 5))
  (sSeq (sAsg (mBin dMod (mCB (g1 dInt) (aCons (mBin dAdd (mBin dMul (mVar 5) (mC (.int 16807))) (mBin dMul (mIx (mVar 0) (mC (.int 0))) (mC (.int 7919)))) aNil)) (mC (.int 1000000007))) (gN 5))
  (sRet (mBin dMod (mBin dDiv (mVar 5) (mC (.int 7))) (mVar 1)))))))))))
def takeM : List DV → List O → Option (Rs DV) := runB 6 takeB
structure Dr (n : Nat) (sv : DV) (M : List O) : Prop where
  len : M.length = n
  cl : M.all (closed n) = true
  ex : ∃ (k c : Nat) (i : Int) (cells : List Int), sv = .o k ∧ M[k]? = some (.lst [.p (.int i), .o c]) ∧ M[c]? = some (.lst (cells.map fun z => .p (.int z))) ∧ k ≠ c ∧ 0 ≤ i ∧ cells ≠ [] ∧ ∀ z ∈ cells, 0 ≤ z
theorem dropM_len {k : Nat} {d : DV} {M : List O} (h : M.length = k) : dropM k d M = M := by
  unfold dropM
  rw [List.take_of_length_le (by omega)]
  split <;> rfl
theorem dropM_app {k : Nat} {d : DL.D} {M g : List O} (h : M.length = k) (c : M.all (closed k) = true) : dropM k (.p d) (M ++ g) = M := by
  unfold dropM
  have e : (M ++ g).take k = M := by rw [← h, List.take_left]
  rw [e, c]
  rfl
theorem atI_nat' {α : Type} {xs : List α} {j : Int} {x : α} (h0 : 0 ≤ j) (h : xs[j.toNat]? = some x) : atI xs j = some x := by
  have hl := (List.getElem?_eq_some_iff.mp h).1
  unfold atI ixN
  rw [if_pos h0, if_pos (by omega)]
  exact h
theorem ixN_nat {n : Nat} {j : Int} (h0 : 0 ≤ j) (h : j < n) : ixN n j = some j.toNat := by
  unfold ixN
  rw [if_pos h0, if_pos h]
theorem atI0 {α : Type} (x : α) (xs : List α) : atI (x :: xs) 0 = some x := atI_nat' (by decide) rfl
theorem atI1 {α : Type} (x y : α) (xs : List α) : atI (x :: y :: xs) 1 = some y := atI_nat' (by decide) rfl
theorem all_set {p : O → Bool} {M : List O} {o : O} (h : M.all p = true) (ho : p o = true) (n : Nat) : (M.set n o).all p = true := by
  rw [List.all_eq_true] at h ⊢
  intro x hx
  rcases List.mem_or_eq_of_mem_set hx with h1 | h1
  · exact h x h1
  · rw [h1]; exact ho
theorem closed_ints (n : Nat) (cells : List Int) : closed n (.lst (cells.map fun z => .p (.int z))) = true := by
  show (cells.map fun z => DV.p (.int z)).all (ltO n) = true
  rw [List.all_map]
  exact List.all_eq_true.mpr fun _ _ => rfl
theorem get_map {cells : List Int} {j : Nat} (h : j < cells.length) : (cells.map fun z => DV.p (.int z))[j]? = some (.p (.int cells[j])) := by
  rw [List.getElem?_map, List.getElem?_eq_getElem h]; rfl
theorem e_set (o i : EM) (d : DV) (s : S) : gSet o i d s = (match bnd o (fun x => bnd i (pur (gSetK d x))) s with | some (.ok _ M) => some ⟨s.l, M⟩ | _ => none) := rfl
theorem e_setK (d : DV) (n : Nat) (j : Int) (s : S) : gSetK d (.o n) (.int j) s = (match setL s.m n j d with | some M => some (.ok (.p .non) M) | none => none) := rfl
theorem setL_ok {M : List O} {n : Nat} {ds : List DV} {j : Int} {d : DV} (h : M[n]? = some (.lst ds)) (h0 : 0 ≤ j) (h1 : j < ds.length) : setL M n j d = some (M.set n (.lst (ds.set j.toNat d))) := by
  unfold setL
  rw [h]
  show (match ixN ds.length j with | some j => some (M.set n (.lst (ds.set j d))) | none => none) = _
  rw [ixN_nat h0 h1]
theorem mulOkR (i j : Int) (h : -18446744073709551616 < j) (h' : j < 18446744073709551616) : mulOk i j = true := by
  unfold mulOk
  have e : (2 : Int) ^ 64 = 18446744073709551616 := by decide
  simp only [e, Bool.or_eq_true, decide_eq_true_eq]
  exact .inr ⟨h, h'⟩
theorem take_spec {n : Nat} {sv : DV} {M : List O} (h : Dr n sv M) (most : Int) (hm : most < 18446744073709551616) : ∃ r M', takeM [sv, .p (.int most)] M = some (.ok (.p (.int r)) M') ∧ Dr n sv M' ∧ (most < 1 → r = 0) ∧ (1 ≤ most → 0 ≤ r ∧ r < most) := by
  obtain ⟨k, c, i, cells, rfl, hk, hc, kc, hi, ne, nn⟩ := h.ex
  by_cases h1 : most < 1
  · refine ⟨0, M, ?_, h, fun _ => rfl, fun h2 => by omega⟩
    simp [e_bnd, e_seq, e_lift, e_runA, e_runB, takeM, takeB, h1, dropM_len h.len, h.len]
  · have hl : 0 < cells.length := List.length_pos_iff.mpr ne
    have hl' : (0 : Int) < (cells.length : Int) := by omega
    have a0 : 0 ≤ i % (cells.length : Int) := Int.emod_nonneg _ (by omega)
    have a1 : i % (cells.length : Int) < (cells.length : Int) := Int.emod_lt_of_pos _ hl'
    have aN : (i % (cells.length : Int)).toNat < cells.length := by omega
    have hg := atI_nat' (xs := cells.map fun z => DV.p (.int z)) a0 (get_map aN)
    have cn : 0 ≤ cells[(i % (cells.length : Int)).toNat] := nn _ (List.getElem_mem aN)
    generalize hz : cells[(i % (cells.length : Int)).toNat] = z at hg cn
    have m0 : 0 < most := by omega
    by_cases h2 : 1000000000000000000 ≤ z
    · refine ⟨z % most, M.set c (.lst ((cells.set (i % (cells.length : Int)).toNat (z / most)).map fun z => .p (.int z))), ?_, ⟨by rw [List.length_set]; exact h.len, all_set h.cl (closed_ints n _) c, k, c, i, _, rfl, by rw [List.getElem?_set_ne kc.symm]; exact hk, by rw [List.getElem?_set_self (List.getElem?_eq_some_iff.mp hc).1], kc, hi, ?_, ?_⟩, fun h3 => absurd h3 h1, fun _ => ⟨Int.emod_nonneg _ (by omega), Int.emod_lt_of_pos _ m0⟩⟩
      · have hs := setL_ok (M := M) (n := c) (d := .p (.int (z / most))) hc a0 (by rw [List.length_map]; exact a1)
        simp [e_bnd, e_seq, e_lift, e_runA, e_runB, takeM, takeB, h1, hk, hc, atI0, atI1, hl, hl', hg, h2, e_set, e_setK, m0, hm, hs, h.len, dropM_len]
      · simpa using ne
      · intro y hy
        rcases List.mem_or_eq_of_mem_set hy with q | q
        · exact nn y q
        · rw [q]; exact Int.ediv_nonneg cn (by omega)
    · have hs := setL_ok (M := M) (n := k) (d := .p (.int (i + 1))) (j := 0) hk (by decide) (by simp)
      have hk' : (M.set k (.lst [DV.p (.int (i + 1)), .o c]))[k]? = some (.lst [.p (.int (i + 1)), .o c]) := by
        rw [List.getElem?_set_self (List.getElem?_eq_some_iff.mp hk).1]
      refine ⟨((((z * 48271 + (i + 1) * 69621) % 2147483647) * 16807 + (i + 1) * 7919) % 1000000007) / 7 % most, M.set k (.lst [.p (.int (i + 1)), .o c]), ?_, ⟨by rw [List.length_set]; exact h.len, all_set h.cl ?_ k, k, c, i + 1, cells, rfl, hk', by rw [List.getElem?_set_ne kc]; exact hc, kc, by omega, ne, nn⟩, fun h3 => absurd h3 h1, fun _ => ⟨Int.emod_nonneg _ (by omega), Int.emod_lt_of_pos _ m0⟩⟩
      · simp [e_bnd, e_seq, e_lift, e_runA, e_runB, takeM, takeB, h1, hk, hc, atI0, atI1, hl, hl', hg, h2, e_set, e_setK, m0, hm, hs, hk', h.len, dropM_len, mulOkR]
      · have := List.all_eq_true.mp h.cl _ (List.mem_of_getElem? hk)
        exact this
end DL
namespace DL
open PySem L2
theorem compL_fm {l : List (Option DV)} {g : GM} {t e : EM} {p : DV → Bool} {f : DV → D} {M : List O} : ∀ (ds : List DV) (acc : List D),
    (∀ d ∈ ds, ∃ s1 : S, g d ⟨l, M⟩ = some s1 ∧ t s1 = some (.ok (.p (.bl (p d))) M) ∧ (p d = true → e ⟨s1.l, M⟩ = some (.ok (.p (f d)) M))) → acc.length + ds.length ≤ 1000000 →
    compL l g t e ds acc M = some (acc ++ (ds.filter p).map f, M)
  | [], acc, _, _ => by simp [compL]
  | d :: ds, acc, h, hl => by
    obtain ⟨s1, h1, h2, h3⟩ := h d (by simp)
    have hl' : acc.length + (ds.length + 1) ≤ 1000000 := hl
    unfold compL
    rw [h1]
    dsimp only
    rw [h2]
    cases hp : p d with
    | true =>
      dsimp only
      rw [h3 hp]
      dsimp only
      rw [if_pos (by omega), compL_fm ds (acc ++ [f d]) (fun x hx => h x (by simp [hx])) (by simp; omega)]
      simp [hp]
    | false =>
      dsimp only
      rw [compL_fm ds acc (fun x hx => h x (by simp [hx])) (by omega)]
      simp [hp]
theorem compL_map {l : List (Option DV)} {g : GM} {t e : EM} {f : DV → D} {M : List O} (ds : List DV)
    (h : ∀ d ∈ ds, ∃ s1 : S, g d ⟨l, M⟩ = some s1 ∧ t s1 = some (.ok (.p (.bl true)) M) ∧ e ⟨s1.l, M⟩ = some (.ok (.p (f d)) M)) (hl : ds.length ≤ 1000000) : compL l g t e ds [] M = some (ds.map f, M) := by
  have q := compL_fm (p := fun _ => true) (f := f) ds [] (l := l) (g := g) (t := t) (e := e) (M := M) (fun d hd => by
    obtain ⟨s1, h1, h2, h3⟩ := h d hd
    exact ⟨s1, h1, h2, fun _ => h3⟩) (by simpa using hl)
  rw [q, List.filter_eq_self.mpr (fun _ _ => rfl)]
  rfl
theorem cut63 {α : Type} (xs : List α) (h : xs.length ≤ 63) : cutD xs none (some 63) = xs := by
  unfold cutD
  rw [HT.sIx_none, show (63 : Int) = ((63 : Nat) : Int) from rfl, HT.sIx_nat, List.drop_zero]
  exact List.take_of_length_le (by omega)
def iabs (i : Int) : Int := if i < 0 then -i else i
theorem ints0 (lo : Int) : DL.intsFrom lo 0 = [] := rfl
theorem intsS (lo : Int) (n : Nat) : DL.intsFrom lo (n + 1) = .p (.int lo) :: DL.intsFrom (lo + 1) n := by
  unfold DL.intsFrom
  rw [List.range_succ_eq_map, List.map_cons, List.map_map]
  have e : lo + ((0 : Nat) : Int) = lo := by omega
  rw [e]
  congr 1
  refine List.map_congr_left fun i _ => ?_
  show DV.p (.int (lo + ((i + 1 : Nat) : Int))) = DV.p (.int (lo + 1 + (i : Int)))
  congr 2; omega
theorem loopS_cons {g : GM} {b : SM} {d : DV} {ds : List DV} {s : S} : loopS g b (d :: ds) s = (match g d s with
    | none => none
    | some s1 => match b s1 with
      | none => none
      | some (.nx, s2) => loopS g b ds s2
      | some (.ct, s2) => loopS g b ds s2
      | some (.bk, s2) => some (.nx, s2)
      | some (.rt v, s2) => some (.rt v, s2)
      | some (.ex c f, s2) => some (.ex c f, s2)) := rfl
end DL
namespace DL
open PySem L2
/-! going through a mirror step by step -/
def wpB {α : Type} (o : Option (Rs α)) (P : α → List O → Prop) : Prop := ∃ v M, o = some (.ok v M) ∧ P v M
def noX : Fl → Bool
  | .ex _ _ => false
  | _ => true
def wpS (o : Option (Fl × S)) (P : Fl → S → Prop) : Prop := ∃ f s, o = some (f, s) ∧ noX f = true ∧ P f s
def wpA (o : Option RD) (P : D → Prop) : Prop := ∃ d, o = some (.ok d) ∧ P d
@[simp] theorem w_ok {α : Type} (v : α) (M : List O) (P : α → List O → Prop) : wpB (some (.ok v M)) P ↔ P v M := ⟨fun ⟨_, _, e, h⟩ => by cases e; exact h, fun h => ⟨_, _, rfl, h⟩⟩
@[simp] theorem w_no {α : Type} (P : α → List O → Prop) : wpB none P ↔ False := ⟨fun ⟨_, _, e, h⟩ => (by cases e), fun h => False.elim h⟩
@[simp] theorem w_bnd {α γ : Type} (m : Mi α) (k : α → Mi γ) (s : S) (P : γ → List O → Prop) : wpB (bnd m k s) P ↔ wpB (m s) fun v M => wpB (k v ⟨s.l, M⟩) P := by
  constructor
  · rintro ⟨v, M, e, h⟩
    unfold bnd at e
    cases q : m s with
    | none => rw [q] at e; cases e
    | some r =>
      rw [q] at e
      cases r with
      | ok a M1 => exact ⟨a, M1, rfl, v, M, e, h⟩
      | ex c f M1 => cases e
  · rintro ⟨a, M1, e, v, M, e2, h⟩
    exact ⟨v, M, by unfold bnd; rw [e]; exact e2, h⟩
@[simp] theorem w_sok (f : Fl) (s : S) (P : Fl → S → Prop) : wpS (some (f, s)) P ↔ noX f = true ∧ P f s := ⟨fun ⟨_, _, e, h⟩ => by cases e; exact h, fun h => ⟨_, _, rfl, h⟩⟩
@[simp] theorem w_sno (P : Fl → S → Prop) : wpS none P ↔ False := ⟨fun ⟨_, _, e, h⟩ => (by cases e), fun h => False.elim h⟩
@[simp] theorem noX1 : noX .nx = true := rfl
@[simp] theorem noX2 (v : DV) : noX (.rt v) = true := rfl
@[simp] theorem noX3 : noX .bk = true := rfl
@[simp] theorem noX4 : noX .ct = true := rfl
/-- what follows a statement -/
def andS (b : SM) (P : Fl → S → Prop) : Fl → S → Prop
  | .nx, s => wpS (b s) P
  | f, s => P f s
@[simp] theorem w_andN (b : SM) (P : Fl → S → Prop) (s : S) : andS b P .nx s = wpS (b s) P := rfl
@[simp] theorem w_andR (b : SM) (P : Fl → S → Prop) (v : DV) (s : S) : andS b P (.rt v) s = P (.rt v) s := rfl
@[simp] theorem w_seq (a b : SM) (s : S) (P : Fl → S → Prop) : wpS (sSeq a b s) P ↔ wpS (a s) (andS b P) := by
  constructor
  · rintro ⟨f, s', e, n, h⟩
    unfold sSeq at e
    cases q : a s with
    | none => rw [q] at e; cases e
    | some r =>
      rw [q] at e
      obtain ⟨f1, s1⟩ := r
      refine ⟨f1, s1, rfl, ?_⟩
      cases f1 with
      | nx => exact ⟨rfl, f, s', e, n, h⟩
      | _ => cases e; exact ⟨n, h⟩
  · rintro ⟨f1, s1, e, n, h⟩
    cases f1 with
    | nx =>
      obtain ⟨f, s', e2, n, h⟩ := h
      exact ⟨f, s', by unfold sSeq; rw [e]; exact e2, n, h⟩
    | _ => exact ⟨_, s1, by unfold sSeq; rw [e], n, h⟩
@[simp] theorem w_lift {α : Type} (m : Mi α) (k : α → SM) (s : S) (P : Fl → S → Prop) : wpS (liftS m k s) P ↔ wpB (m s) fun v M => wpS (k v ⟨s.l, M⟩) P := by
  constructor
  · rintro ⟨f, s', e, n, h⟩
    unfold liftS at e
    cases q : m s with
    | none => rw [q] at e; cases e
    | some r =>
      rw [q] at e
      cases r with
      | ok a M1 => exact ⟨a, M1, rfl, f, s', e, n, h⟩
      | ex c f M1 => cases e; cases n
  · rintro ⟨a, M1, e, f, s', e2, n, h⟩
    exact ⟨f, s', by unfold liftS; rw [e]; exact e2, n, h⟩
def endB (k : Nat) (P : DV → List O → Prop) : Fl → S → Prop
  | .nx, s => P (.p .non) (dropM k (.p .non) s.m)
  | .rt d, s => P d (dropM k d s.m)
  | _, _ => False
@[simp] theorem w_endBn (k : Nat) (P : DV → List O → Prop) (s : S) : endB k P .nx s = P (.p .non) (dropM k (.p .non) s.m) := rfl
@[simp] theorem w_endBr (k : Nat) (P : DV → List O → Prop) (d : DV) (s : S) : endB k P (.rt d) s = P d (dropM k d s.m) := rfl
@[simp] theorem w_runB (n : Nat) (m : SM) (ds : List DV) (M : List O) (P : DV → List O → Prop) : wpB (runB n m ds M) P ↔ wpS (m ⟨slotsOf n ds, M⟩) (endB M.length P) := by
  constructor
  · rintro ⟨v, M1, e, h⟩
    rw [e_runB] at e
    cases q : m ⟨slotsOf n ds, M⟩ with
    | none => rw [q] at e; cases e
    | some r =>
      rw [q] at e
      obtain ⟨f1, s1⟩ := r
      cases f1 with
      | nx => cases e; exact ⟨_, _, rfl, rfl, h⟩
      | rt d => cases e; exact ⟨_, _, rfl, rfl, h⟩
      | _ => cases e
  · rintro ⟨f1, s1, e, n, h⟩
    cases f1 with
    | nx => exact ⟨_, _, by rw [e_runB, e], h⟩
    | rt d => exact ⟨_, _, by rw [e_runB, e], h⟩
    | _ => exact False.elim h
def endA (P : D → Prop) : Fl → S → Prop
  | .nx, s => P .non
  | .rt (.p d), s => P d
  | _, _ => False
@[simp] theorem w_endAn (P : D → Prop) (s : S) : endA P .nx s = P .non := rfl
@[simp] theorem w_endAr (P : D → Prop) (d : D) (s : S) : endA P (.rt (.p d)) s = P d := rfl
@[simp] theorem w_runA (n : Nat) (m : SM) (ds : List D) (P : D → Prop) : wpA (runA n m ds) P ↔ wpS (m ⟨slotsOf n (ds.map .p), []⟩) (endA P) := by
  constructor
  · rintro ⟨v, e, h⟩
    rw [e_runA] at e
    cases q : m ⟨slotsOf n (ds.map .p), []⟩ with
    | none => rw [q] at e; cases e
    | some r =>
      rw [q] at e
      obtain ⟨f1, s1⟩ := r
      cases f1 with
      | nx => cases e; exact ⟨_, _, rfl, rfl, h⟩
      | rt d =>
        cases d with
        | p d => cases e; exact ⟨_, _, rfl, rfl, h⟩
        | o n => cases e
      | _ => cases e
  · rintro ⟨f1, s1, e, n, h⟩
    cases f1 with
    | nx => exact ⟨_, by rw [e_runA, e], h⟩
    | rt d =>
      cases d with
      | p d => exact ⟨_, by rw [e_runA, e], h⟩
      | o n => exact False.elim h
    | _ => exact False.elim h
@[simp] theorem w_ifM {γ : Type} (n k : Mi γ) (b : Bool) (s : S) (P : γ → List O → Prop) : wpB (ifM n k (.p (.bl b)) s) P ↔ (b = true → wpB (n s) P) ∧ (b = false → wpB (k s) P) := by
  cases b
  · exact ⟨fun h => ⟨fun q => (by cases q), fun _ => h⟩, fun h => h.2 rfl⟩
  · exact ⟨fun h => ⟨fun _ => h, fun q => (by cases q)⟩, fun h => h.1 rfl⟩
@[simp] theorem w_ifS (n k : SM) (b : Bool) (s : S) (P : Fl → S → Prop) : wpS (ifS n k (.p (.bl b)) s) P ↔ (b = true → wpS (n s) P) ∧ (b = false → wpS (k s) P) := by
  cases b
  · exact ⟨fun h => ⟨fun q => (by cases q), fun _ => h⟩, fun h => h.2 rfl⟩
  · exact ⟨fun h => ⟨fun _ => h, fun q => (by cases q)⟩, fun h => h.1 rfl⟩
@[simp] theorem w_okA (d : D) (P : D → Prop) : wpA (some (.ok d)) P ↔ P d := ⟨fun ⟨_, e, h⟩ => by cases e; exact h, fun h => ⟨_, rfl, h⟩⟩
theorem wpB.imp {α : Type} {o : Option (Rs α)} {P Q : α → List O → Prop} (h : wpB o P) (k : ∀ v M, P v M → Q v M) : wpB o Q := by
  obtain ⟨v, M, e, p⟩ := h
  exact ⟨v, M, e, k v M p⟩
theorem wpA.imp {o : Option RD} {P Q : D → Prop} (h : wpA o P) (k : ∀ v, P v → Q v) : wpA o Q := by
  obtain ⟨v, e, p⟩ := h
  exact ⟨v, e, k v p⟩
theorem wpA.eq {o : Option RD} {d : D} (h : wpA o (· = d)) : o = some (.ok d) := by
  obtain ⟨v, e, p⟩ := h
  rw [e, p]
/-- a drawn number -/
theorem wp_take {n : Nat} {sv : DV} {M : List O} {most : Int} {P : DV → List O → Prop} (h : Dr n sv M) (hm : most < 18446744073709551616) (k : ∀ r M', Dr n sv M' → (most < 1 → r = 0) → (1 ≤ most → 0 ≤ r ∧ r < most) → P (.p (.int r)) M') : wpB (takeM [sv, .p (.int most)] M) P := by
  obtain ⟨r, M', e, d, b0, b⟩ := take_spec h most hm
  exact ⟨_, _, e, k r M' d b0 b⟩
end DL
namespace DL
open PySem L2
/-! texts that are written; comparing tuples -/
theorem char_inj {a b : Char} (h : a.toNat = b.toNat) : a = b := Char.toNat_inj.mp h
theorem map_toNat_inj : ∀ {a b : List Char}, a.map Char.toNat = b.map Char.toNat → a = b
  | [], [], _ => rfl
  | [], _ :: _, h => by cases h
  | _ :: _, [], h => by cases h
  | x :: a, y :: b, h => by
    injection h with h1 h2
    rw [char_inj h1, map_toNat_inj h2]
@[simp] theorem ofString_inj (a b : String) : (Str.ofString a = Str.ofString b) ↔ a = b := by
  constructor
  · intro h
    rw [Str.ofString_eq_toList, Str.ofString_eq_toList] at h
    injection h with h
    have h2 := congrArg Array.toList h
    exact String.toList_inj.mp (map_toNat_inj h2)
  · intro h; rw [h]
@[simp] theorem strOk_of (s : String) : PyData.strOk (Str.ofString s) = true := by
  rw [Str.ofString_eq_toList]
  unfold PyData.strOk
  rw [Array.all_eq_true]
  intro i hi
  simp
  have h := (s.toList[i]'(by simpa using hi)).valid
  rcases h with h | h
  · exact Nat.lt_of_lt_of_le h (by decide)
  · exact h.2
@[simp] theorem e_okN : okD .non = true := rfl
@[simp] theorem e_okI (i : Int) : okD (.int i) = true := rfl
@[simp] theorem e_okB (i : Bool) : okD (.bl i) = true := rfl
@[simp] theorem e_okS (i : Str) : okD (.str i) = PyData.strOk i := rfl
@[simp] theorem e_okL (i : List D) : okD (.lst i) = okDs i := rfl
@[simp] theorem e_okT (i : List D) : okD (.tup i) = okDs i := rfl
@[simp] theorem e_ok0 : okDs [] = true := rfl
@[simp] theorem e_ok1 (x : D) (r : List D) : okDs (x :: r) = (okD x && okDs r) := rfl
@[simp] theorem e_dpN : depD .non = 0 := rfl
@[simp] theorem e_dpI (i : Int) : depD (.int i) = 0 := rfl
@[simp] theorem e_dpB (i : Bool) : depD (.bl i) = 0 := rfl
@[simp] theorem e_dpS (i : Str) : depD (.str i) = 0 := rfl
@[simp] theorem e_dpL (i : List D) : depD (.lst i) = depDs i + 1 := rfl
@[simp] theorem e_dpT (i : List D) : depD (.tup i) = depDs i + 1 := rfl
@[simp] theorem e_dp0 : depDs [] = 0 := rfl
@[simp] theorem e_dp1 (x : D) (r : List D) : depDs (x :: r) = max (depD x) (depDs r) := rfl
@[simp] theorem e_shp (d : D) : shp d = (okD d && decide (depD d ≤ 64)) := rfl
@[simp] theorem e_eqTT (xs ys : List D) : eqD (.tup xs) (.tup ys) = if (shp (.tup xs) && shp (.tup ys)) = true then some (deqs xs ys) else none := rfl
@[simp] theorem e_eqLL (xs ys : List D) : eqD (.lst xs) (.lst ys) = if (shp (.lst xs) && shp (.lst ys)) = true then some (deqs xs ys) else none := rfl
@[simp] theorem e_eqTN (xs : List D) : eqD (.tup xs) .non = if (shp (.tup xs) && shp .non) = true then some false else none := rfl
@[simp] theorem e_eqNT (xs : List D) : eqD .non (.tup xs) = if (shp .non && shp (.tup xs)) = true then some false else none := rfl
@[simp] theorem e_deqII (i j : Int) : deq (.int i) (.int j) = decide (i = j) := by show (i == j) = _; rw [Bool.beq_eq_decide_eq]
@[simp] theorem e_deqSS (i j : Str) : deq (.str i) (.str j) = decide (i = j) := by
  show (i == j) = _
  by_cases h : i = j <;> simp [h]
@[simp] theorem e_deqBB (i j : Bool) : deq (.bl i) (.bl j) = decide (i = j) := by show (i == j) = _; rw [Bool.beq_eq_decide_eq]
@[simp] theorem e_deqNN : deq .non .non = true := rfl
@[simp] theorem e_deqTT (i j : List D) : deq (.tup i) (.tup j) = deqs i j := rfl
@[simp] theorem e_deqLL (i j : List D) : deq (.lst i) (.lst j) = deqs i j := rfl
@[simp] theorem e_deqIS (i : Int) (j : Str) : deq (.int i) (.str j) = false := rfl
@[simp] theorem e_deqSI (i : Int) (j : Str) : deq (.str j) (.int i) = false := rfl
@[simp] theorem e_deqNI (i : Int) : deq .non (.int i) = false := rfl
@[simp] theorem e_deqIN (i : Int) : deq (.int i) .non = false := rfl
@[simp] theorem e_deqNS (i : Str) : deq .non (.str i) = false := rfl
@[simp] theorem e_deqSN (i : Str) : deq (.str i) .non = false := rfl
@[simp] theorem e_deqNT (i : List D) : deq .non (.tup i) = false := rfl
@[simp] theorem e_deqTN (i : List D) : deq (.tup i) .non = false := rfl
@[simp] theorem e_deqs0 : deqs [] [] = true := rfl
@[simp] theorem e_deqs1 (x y : D) (xs ys : List D) : deqs (x :: xs) (y :: ys) = (deq x y && deqs xs ys) := rfl
@[simp] theorem e_deqs2 (x : D) (xs : List D) : deqs (x :: xs) [] = false := rfl
@[simp] theorem e_deqs3 (x : D) (xs : List D) : deqs [] (x :: xs) = false := rfl
@[simp] theorem e_isi (M : List O) (d : D) (n : String) : dIsi M [.p d, .p (.ty n)] = (match tyName d with | some t => (kitB t n).map .bl | none => none) := rfl
@[simp] theorem e_tyT (xs : List D) : tyName (.tup xs) = some "tuple" := rfl
@[simp] theorem kit_tt : kitB "tuple" "tuple" = some true := by decide +kernel
@[simp] theorem at0 {α : Type} (x : α) (xs : List α) : atI (x :: xs) 0 = some x := atI0 x xs
@[simp] theorem at1 {α : Type} (x y : α) (xs : List α) : atI (x :: y :: xs) 1 = some y := atI1 x y xs
end DL
namespace DL
open PySem L2
section
variable {K : PySem.W.Frag} {X : Cx} {W : WX} {e a b c : Expr} {es : List Expr} {pos : Pos}
/-! ### built-in calls on texts -/
def dStr : D → Option D
  | .int i => if i.natAbs.log2 < 1920 then some (.str (Str.ofString (toString i))) else none
  | .str x => some (.str x)
  | _ => none
def dIntS : D → Option D
  | .str x => if x.length ≤ 640 then (PySem.intText? x).map .int else none
  | _ => none
def allBl : List D → Option (List Bool)
  | [] => some []
  | .bl b :: r => (allBl r).map (b :: ·)
  | _ :: _ => none
def dAll : D → Option D
  | .lst ds => (allBl ds).map fun bs => .bl (bs.all id)
  | _ => none
/-! ### in, not in -/
def inS (i j : Str) : Bool := !(Builtin.Str.occurrences j i 0 j.length 1).isEmpty
def inD : D → D → Option Bool
  | .str i, .str j => some (inS i j)
  | d, .lst ds => if (shp d && shp (.lst ds)) = true then some (ds.any fun z => deq z d) else none
  | d, .klst ds => if (shp d && shp (.klst ds)) = true then some (ds.any fun z => deq z d) else none
  | d, .tup ds => if (shp d && shp (.tup ds)) = true then some (ds.any fun z => deq z d) else none
  | d, .ktup ds => if (shp d && shp (.ktup ds)) = true then some (ds.any fun z => deq z d) else none
  | _, _ => none
def dIn (d e : D) : Option D := (inD d e).map .bl
def dNin (d e : D) : Option D := (inD d e).map fun b => .bl !b
/-! ### a text times an int -/
def repS (x : Str) (n : Int) : Str := if n < 1 then Str.empty else if (n == 1 || x.length == 0) = true then x else ⟨(List.replicate n.toNat x.cps).foldl (· ++ ·) #[]⟩
def dMulS : D → D → Option D
  | .str x, .int n => if x.length = 1 ∧ -1000 ≤ n ∧ n ≤ 1000 then some (.str (repS x n)) else none
  | _, _ => none
/-! ### methods of texts -/
def dZfill : D → List D → Option D
  | .str x, [.int i] => if PadOk i = true then some (.str (Txt.zfill x i)) else none
  | _, _ => none
def dRstrip : D → List D → Option D
  | .str x, [.str y] => if x.length ≤ 1000000 then some (.str (Txt.rstripChars x y)) else none
  | _, _ => none
def dRmpre : D → List D → Option D
  | .str x, [.str y] => if x.length ≤ 1000000 then some (.str (Txt.removeprefix x y)) else none
  | _, _ => none
def dPart : D → List D → Option D
  | .str x, [.str y] => if (y.length == 0) = false ∧ x.length ≤ 1000000 then some (.tup [.str (Txt.partition x y).1, .str (Txt.partition x y).2.1, .str (Txt.partition x y).2.2]) else none
  | _, _ => none
def dSplit : D → List D → Option D
  | .str x, [.str y] => if (y.length == 0) = false ∧ x.length ≤ 1000000 then some (.lst ((Txt.split x y).map .str)) else none
  | _, _ => none
def allS : List D → Option (List Str)
  | [] => some []
  | .str x :: r => (allS r).map (x :: ·)
  | _ :: _ => none
def dJoin : D → List D → Option D
  | .str a, [.lst ds] => match allS ds with
    | some ys => if (ys.map (·.length)).sum + ys.length * a.length ≤ 16777216 then some (.str (Txt.join a ys)) else none
    | none => none
  | _, _ => none
def dLjust : D → List D → Option D
  | .str x, [.int i, .str f] => if PadOk i = true ∧ f.length = 1 then some (.str (Txt.ljustF x i (f.cps.getD 0 0))) else none
  | _, _ => none
/-! ### f-strings -/
def dFmt : D → Option D
  | .int i => if i.natAbs.log2 < 1920 then some (.str (Str.ofString (toString i))) else none
  | .str y => if y.length ≤ 1000000 then some (.str y) else none
  | _ => none
def mFmt (m : EM) : EM := bnd m (pur fun d => ret (dFmt d))
def RepStr (_ : Hp) (_ : List Addr) (x y : Str) : Prop := x = y
abbrev JM := Str → Mi Str
structure DJ (K : PySem.W.Frag) (X : Cx) (W : WX) (es : List Expr) (ts : List TE) (m : JM) : Prop where
  k : X.K = K
  pj : PJ X es ts
  so : ∀ acc, Sound K W RepStr (tJs ts acc) (m acc)
def jNil : JM := fun acc s => some (.ok acc s.m)
def jCons (m : EM) (r : JM) : JM := fun acc => bnd m (pur fun d => match d with
  | .str y => fun s => if acc.length + y.length ≤ 1000000 then r (acc ++ y) s else none
  | _ => fun _ => none)
def mJoined (r : JM) : EM := bnd (r Str.empty) fun y s => some (.ok (.p (.str y)) s.m)
end
end DL
namespace DL
open PySem L2
/-! ### texts as lists of their signs -/
def tx (l : List Nat) : Str := ⟨l.toArray⟩
@[simp] theorem tx_list (l : List Nat) : (tx l).cps.toList = l := List.toList_toArray
@[simp] theorem tx_len (l : List Nat) : (tx l).length = l.length := List.size_toArray
theorem tx_of (x : Str) : x = tx x.cps.toList := by
  cases x with
  | mk a => show Str.mk a = Str.mk a.toList.toArray; rw [Array.toArray_toList]
theorem eq_tx {x : Str} {l : List Nat} (h : x.cps.toList = l) : x = tx l := by rw [← h]; exact tx_of x
@[simp] theorem tx_inj (a b : List Nat) : tx a = tx b ↔ a = b := ⟨fun h => by have := congrArg (fun x : Str => x.cps.toList) h; simpa using this, fun h => by rw [h]⟩
@[simp] theorem tx_app (a b : List Nat) : tx a ++ tx b = tx (a ++ b) := by
  apply eq_tx
  show ((tx a).cps ++ (tx b).cps).toList = _
  rw [Array.toList_append, tx_list, tx_list]
@[simp] theorem tx_empty : Str.empty = tx [] := rfl
theorem tx_ofString (s : String) : Str.ofString s = tx (s.toList.map Char.toNat) := by
  rw [Str.ofString_eq_toList]; apply eq_tx; simp
@[simp] theorem in_tx (c : Nat) (l : List Nat) : inS (tx [c]) (tx l) = decide (c ∈ l) := by
  have h := StrLaws.found_one (tx l) c
  rw [tx_list] at h
  exact h
@[simp] theorem e_inSS (i j : Str) : inD (.str i) (.str j) = some (inS i j) := rfl
@[simp] theorem e_dIn (d e : D) : dIn d e = (inD d e).map .bl := rfl
@[simp] theorem e_dNin (d e : D) : dNin d e = (inD d e).map fun b => .bl !b := rfl
/-! slices -/
@[simp] theorem e_slS (z : Str) (lo hi : Option Int) : slE (.str z) lo hi = if z.length ≤ 1000000 then some (.str (cutS z lo hi)) else none := rfl
@[simp] theorem e_ixS (l : List Nat) (i : Int) : ixD (.str (tx l)) i = if l.length ≤ 1000000 then (atI l i).map fun c => .str (tx [c]) else none := by
  show (if (tx l).length ≤ 1000000 then (atI (tx l).cps.toList i).map fun c => D.str ⟨#[c]⟩ else none) = _
  rw [tx_len, tx_list]; rfl
/-! the digits of a number -/
def logOk (i : Int) : Bool := decide (i.natAbs.log2 < 1920)
def intS (i : Int) : Str := Str.ofString (toString i)
@[simp] theorem e_str (i : Int) : dStr (.int i) = if logOk i = true then some (.str (intS i)) else none := by
  show (if i.natAbs.log2 < 1920 then some (D.str (intS i)) else none) = _
  unfold logOk
  by_cases h : i.natAbs.log2 < 1920
  · rw [if_pos h, if_pos (decide_eq_true h)]
  · rw [if_neg h, if_neg (by simpa using h)]
@[simp] theorem e_intS (x : Str) : dIntS (.str x) = if x.length ≤ 640 then (PySem.intText? x).map .int else none := rfl
@[simp] theorem e_allL (ds : List D) : dAll (.lst ds) = (allBl ds).map fun bs => .bl (bs.all id) := rfl
@[simp] theorem e_mulS (x : Str) (n : Int) : dMulS (.str x) (.int n) = if x.length = 1 ∧ -1000 ≤ n ∧ n ≤ 1000 then some (.str (repS x n)) else none := rfl
@[simp] theorem e_gP (g : D → List D → Option D) (d : D) (ds : List DV) (s : S) : gP g (.p d) ds s = (match allP ds with | some xs => ret (g d xs) s | none => none) := rfl
@[simp] theorem e_zfill (x : Str) (i : Int) : dZfill (.str x) [.int i] = if PadOk i = true then some (.str (Txt.zfill x i)) else none := rfl
@[simp] theorem e_rstrip (x y : Str) : dRstrip (.str x) [.str y] = if x.length ≤ 1000000 then some (.str (Txt.rstripChars x y)) else none := rfl
@[simp] theorem e_rmpre (x y : Str) : dRmpre (.str x) [.str y] = if x.length ≤ 1000000 then some (.str (Txt.removeprefix x y)) else none := rfl
@[simp] theorem e_part (x y : Str) : dPart (.str x) [.str y] = if (y.length == 0) = false ∧ x.length ≤ 1000000 then some (.tup [.str (Txt.partition x y).1, .str (Txt.partition x y).2.1, .str (Txt.partition x y).2.2]) else none := rfl
@[simp] theorem e_split (x y : Str) : dSplit (.str x) [.str y] = if (y.length == 0) = false ∧ x.length ≤ 1000000 then some (.lst ((Txt.split x y).map .str)) else none := rfl
@[simp] theorem e_join (a : Str) (ds : List D) : dJoin (.str a) [.lst ds] = (match allS ds with | some ys => if (ys.map (·.length)).sum + ys.length * a.length ≤ 16777216 then some (.str (Txt.join a ys)) else none | none => none) := rfl
def sign1 (f : Str) : Nat := f.cps.getD 0 0
@[simp] theorem e_sign1 (c : Nat) : sign1 (tx [c]) = c := rfl
@[simp] theorem e_ljust (x : Str) (i : Int) (f : Str) : dLjust (.str x) [.int i, .str f] = if PadOk i = true ∧ f.length = 1 then some (.str (Txt.ljustF x i (sign1 f))) else none := rfl
@[simp] theorem e_fmt (m : EM) (s : S) : mFmt m s = (bnd m (pur fun d => ret (dFmt d))) s := rfl
@[simp] theorem e_fmtI (i : Int) : dFmt (.int i) = if logOk i = true then some (.str (intS i)) else none := e_str i
@[simp] theorem e_fmtS (y : Str) : dFmt (.str y) = if y.length ≤ 1000000 then some (.str y) else none := rfl
@[simp] theorem e_jNil (acc : Str) (s : S) : jNil acc s = some (.ok acc s.m) := rfl
def jK (r : JM) (acc : Str) (d : D) : Mi Str := match d with
  | .str y => fun s => if acc.length + y.length ≤ 1000000 then r (acc ++ y) s else none
  | _ => fun _ => none
@[simp] theorem e_jCons (m : EM) (r : JM) (acc : Str) (s : S) : jCons m r acc s = (bnd m (pur (jK r acc))) s := rfl
@[simp] theorem e_jK (r : JM) (acc y : Str) (s : S) : jK r acc (.str y) s = if acc.length + y.length ≤ 1000000 then r (acc ++ y) s else none := rfl
@[simp] theorem e_joined (r : JM) (s : S) : mJoined r s = (bnd (r Str.empty) fun y s => some (.ok (.p (.str y)) s.m)) s := rfl
theorem log_ok {n : Nat} (h : n ≤ 1000000000000000000) : n.log2 < 1920 := by
  by_cases q : n = 0
  · subst q; decide
  · exact Nat.lt_of_lt_of_le ((Nat.log2_lt q).mpr (Nat.lt_of_le_of_lt h (by decide : 1000000000000000000 < 2 ^ 64))) (by decide)
theorem logOk_of {i : Int} (h : i.natAbs ≤ 1000000000000000000) : logOk i = true := decide_eq_true (log_ok h)
@[simp] theorem e_itS (l : List Nat) : itS (.str (tx l)) = some (l.map fun c => .p (.str (tx [c]))) := by
  show some ((tx l).cps.toList.map _) = _
  rw [tx_list]; rfl
@[simp] theorem e_tyS (M : List O) (x : Str) : tyOk "str" M (.p (.str x)) = true := rfl
@[simp] theorem e_tyL (M : List O) (x : List D) : tyOk "list" M (.p (.lst x)) = true := rfl
@[simp] theorem e_gs0 (s : S) : gsNil [] s = some s := rfl
@[simp] theorem e_gs1 (m : GM) (n : List DV → S → Option S) (d : DV) (r : List DV) (s : S) : gsCons m n (d :: r) s = (match m d s with | some s1 => n r s1 | none => none) := rfl
@[simp] theorem e_gT (n : Nat) (m : List DV → S → Option S) (xs : List D) (s : S) : gT n m (.p (.tup xs)) s = if xs.length = n then m (xs.map .p) s else none := rfl
end DL
namespace DL
open PySem L2
/-! loops and comprehensions with what stays true -/
theorem wpS.imp {o : Option (Fl × S)} {P Q : Fl → S → Prop} (h : wpS o P) (k : ∀ f s, P f s → Q f s) : wpS o Q := by
  obtain ⟨f, s, e, n, p⟩ := h
  exact ⟨f, s, e, n, k f s p⟩
end DL
namespace DL
open PySem L2
open PyProof.Rows (AllBare IntsAre)
/-! ### the law's own def, run by the caller itself: no repr is under way -/
section
variable {P : Program} {w : World} {K : PySem.W.Frag} {mg : Str → Option Value} {base : Heap} {x qual : Str} {st : Stmt} {f a : Addr} {fd : FuncData} {N : List Str} {k : Nat}
def Told (s₁ : Shared) (r : Result) (s' : Shared) : Prop := r = .ok (.ret (.bool true)) ∧ OldK s₁.heap s'.heap ∧ s'.os = s₁.os ∧ AllBare s'.gens
abbrev TopB (P : Program) (w : World) (K : PySem.W.Frag) (mg : Str → Option Value) (base : Heap) (N : List Str) (qual : Str) (st : Stmt) (f : Addr) (k : Nat) (m : SM) : Prop :=
  ∀ (cdv : Value) (s : Shared) (H : Hp) (E : XK), Room k (callerA.deeper (PyProof.Rows.envOfC qual (defScope st) s.heap.objs.size f cdv)) →
    ∃ t, DSs K (cxOf (L2.CX P w) P w K mg base N qual (defScope st) f cdv callerA [] s H E) (WE0 E) (defBody st) t m
/-- the entry: what is tracked is the script at most -/
theorem entry {H : Hp} {s₁ : Shared} {mb : Str → Option Value} {vs : List Value} (KX : K.In s₁.heap) (hns : s₁.heap.Ns mainGlobals mg) (hb : s₁.heap.Ns builtinsNs mb) (hbb : ∀ x : Str, x ≠ "__name__" → mb x = bootBuiltins x) (hlim : s₁.heap.NoLimit) (hg : s₁.gens = #[])
    (ha : s₁.heap.get? a = some { cls := .type "list", data := .seq vs.toArray }) (hok : HOk P w H s₁.heap) (one : ∀ b, H b ≠ none → b = a) (out : H a ≠ none → K.lookup a = none) :
    Env0 P w K mg (hidT s₁.heap H) callerA [] s₁ H ∧ K.In (hidT s₁.heap H) ∧ (hidT s₁.heap H).Ns mainGlobals mg := by
  have free : ∀ {b : Addr}, b ≠ a → H b = none := fun {b} n => by
    cases q : H b with
    | none => rfl
    | some u => exact absurd (one b (by rw [q]; simp)) n
  have kin : K.In (hidT s₁.heap H) := fun b o e => by
    refine hidT_get (KX b o e) ?_
    by_cases n : b = a
    · subst n
      cases q : H b with
      | none => rfl
      | some u => rw [out (by rw [q]; simp)] at e; cases e
    · exact free n
  have ns : ∀ {b : Addr} {m : Str → Option Value}, s₁.heap.Ns b m → (hidT s₁.heap H).Ns b m := fun {b m} h => by
    obtain ⟨o, es, ep, e, d, r⟩ := h
    refine ⟨o, es, ep, hidT_get e ?_, d, r⟩
    by_cases n : b = a
    · subst n
      rw [ha] at e; cases e
      have d' : Data.seq vs.toArray _ = Data.dict es ep := d
      cases d'
    · exact free n
  refine ⟨⟨rfl, ⟨kin, ns hns, ⟨mb, ns hb, hbb⟩, ?_⟩, fun b o e => of_hidT e, Nat.le_of_eq (hidT_size _ _), trivial, fun b q => absurd (show b ∈ ([] : List Addr) from q) (by simp), hok, .of_eq hg⟩, kin, ns hns⟩
  obtain ⟨mc, h1, h2⟩ := hlim
  exact ⟨mc, ns h1, h2⟩
end
end DL
namespace DL
open PySem L2
/-! ### repr of data -/
section
variable {K : PySem.W.Frag} {X : Cx} {W : WX} {e a b c : Expr} {es : List Expr} {pos : Pos}
mutual
def showD : D → Bool
  | .int i => logOk i
  | .lst xs => showDs xs
  | .tup xs => showDs xs
  | .ktup xs => showDs xs
  | .klst xs => showDs xs
  | .non => true
  | .bl _ => true
  | .str _ => true
  | _ => false
def showDs : List D → Bool
  | [] => true
  | x :: xs => showD x && showDs xs
end
/-! what a text of it has at most -/
mutual
def rb : D → Nat
  | .int i => (intS i).length
  | .str x => (reprText x).length
  | .lst xs => rbs xs + 3
  | .tup xs => rbs xs + 3
  | .ktup xs => rbs xs + 3
  | .klst xs => rbs xs + 3
  | _ => 5
def rbs : List D → Nat
  | [] => 0
  | x :: xs => rb x + 2 + rbs xs
end
mutual
theorem showD_ok : ∀ d : D, showD d = true → (toP d).showable = true
  | .non, _ => by simp [toP, PyData.showable]
  | .bl _, _ => by simp [toP, PyData.showable]
  | .int i, h => h
  | .str x, _ => by simp [toP, PyData.showable]
  | .lst xs, h => by
    show PyData.showable (.list (toPs xs)) = true
    simp only [PyData.showable]
    exact showDs_ok xs h
  | .tup xs, h => by
    show PyData.showable (.tuple (toPs xs)) = true
    simp only [PyData.showable]
    exact showDs_ok xs h
  | .klst xs, h => by
    show PyData.showable (.list (toPs xs)) = true
    simp only [PyData.showable]
    exact showDs_ok xs h
  | .ktup xs, h => by
    show PyData.showable (.tuple (toPs xs)) = true
    simp only [PyData.showable]
    exact showDs_ok xs h
  | .dK _, h => by cases h
  | .dT _, h => by cases h
  | .fn _, h => by cases h
  | .clo _ _, h => by cases h
  | .scr _, h => by cases h
  | .ty _, h => by cases h
  | .rng _ _, h => by cases h
theorem showDs_ok : ∀ d : List D, showDs d = true → PyData.showableAll (toPs d) = true
  | [], _ => by simp [toPs, PyData.showableAll]
  | x :: xs, h => by
    have h : (showD x && showDs xs) = true := h
    rw [Bool.and_eq_true] at h
    show PyData.showableAll (toP x :: toPs xs) = true
    simp only [PyData.showableAll]
    rw [showD_ok x h.1, showDs_ok xs h.2]; rfl
end
theorem none_len : (PyData.shown .none).length ≤ 5 := by decide +kernel
theorem bool_len (b : Bool) : (PyData.shown (.bool b)).length ≤ 5 := by cases b <;> decide +kernel
mutual
theorem rb_ok : ∀ d : D, okD d = true → (toP d).shown.length ≤ rb d
  | .non, _ => none_len
  | .bl b, _ => bool_len b
  | .int i, _ => by
    show (PyData.shown (.int i)).length ≤ (intS i).length
    simp only [PyData.shown]
    exact Nat.le_refl _
  | .str x, _ => by
    show (PyData.shown (.str x)).length ≤ (reprText x).length
    simp only [PyData.shown]
    exact Nat.le_refl _
  | .lst xs, h => by
    show (PyData.shown (.list (toPs xs))).length ≤ rbs xs + 3
    simp only [PyData.shown]
    have a := listText_len_le (PyData.shownAll (toPs xs))
    have b := rbs_ok xs h
    omega
  | .tup xs, h => by
    show (PyData.shown (.tuple (toPs xs))).length ≤ rbs xs + 3
    simp only [PyData.shown]
    have a := tupleText_len_le (PyData.shownAll (toPs xs))
    have b := rbs_ok xs h
    omega
  | .klst xs, h => by
    show (PyData.shown (.list (toPs xs))).length ≤ rbs xs + 3
    simp only [PyData.shown]
    have a := listText_len_le (PyData.shownAll (toPs xs))
    have b := rbs_ok xs h
    omega
  | .ktup xs, h => by
    show (PyData.shown (.tuple (toPs xs))).length ≤ rbs xs + 3
    simp only [PyData.shown]
    have a := tupleText_len_le (PyData.shownAll (toPs xs))
    have b := rbs_ok xs h
    omega
  | .dK _, h => by cases h
  | .dT _, h => by cases h
  | .fn _, h => by cases h
  | .clo _ _, h => by cases h
  | .scr _, h => by cases h
  | .ty _, h => by cases h
  | .rng _ _, h => by cases h
theorem rbs_ok : ∀ d : List D, okDs d = true → ((PyData.shownAll (toPs d)).map (·.length)).sum + 2 * (PyData.shownAll (toPs d)).length ≤ rbs d
  | [], _ => by
    have e : PyData.shownAll (toPs []) = [] := by show PyData.shownAll [] = []; simp only [PyData.shownAll]
    rw [e]; simp [rbs]
  | x :: xs, h => by
    have h : (okD x && okDs xs) = true := h
    rw [Bool.and_eq_true] at h
    have e : PyData.shownAll (toPs (x :: xs)) = (toP x).shown :: PyData.shownAll (toPs xs) := by show PyData.shownAll (toP x :: toPs xs) = _; simp only [PyData.shownAll]
    have a := rb_ok x h.1
    have b := rbs_ok xs h.2
    rw [e, List.map_cons, List.sum_cons, List.length_cons]
    show _ ≤ rb x + 2 + rbs xs
    omega
end
def reprD (d : D) : Str := (toP d).shown
def dRepr (d : D) : Option D := if (shp d && showD d) = true then if rb d ≤ 1000000 then some (.str (reprD d)) else none else none
theorem units66 {k : Nat} {A : Around} (r : Room k A) : A.units + 66 < cLine := by have := r.un; omega
end
end DL
namespace DL
open PySem L2
section
variable {K : PySem.W.Frag} {X : Cx} {W : WX} {e a b c : Expr} {es : List Expr} {pos : Pos}
/-! ### order of ints, texts, truths -/
/-! ### is True, is False -/
/-! ### lists one behind the other -/
def rCatL (K : PySem.W.Frag) : R2 := fun x y H Q => ∃ l b xs zs, x = .ref l ∧ y = .ref b ∧ SqL K H l xs ∧ SqL K H b zs ∧ xs.length + zs.length ≤ sizeLine ∧ ∀ p, H p = none → Q (.ref p) (upd H p (.lst (xs ++ zs)))
theorem op_catL : OpR X (binaryOp .Add) (rCatL X.K) := by
  intro pins s σ H x y v u Q I rx ry h
  obtain ⟨l, b, xs, zs, rfl, rfl, hx, hy, hz, q⟩ := h
  obtain rfl : v = Value.ref l := rx
  obtain rfl : u = Value.ref b := ry
  obtain ⟨its, r, ⟨⟨cls, dd, data, sl⟩, n, ho, hc, hdn, hd⟩, _⟩ := I.list hx
  obtain ⟨its2, r2, ⟨⟨cls2, dd2, data2, sl2⟩, n2, ho2, hc2, hdn2, hd2⟩, _⟩ := I.list hy
  simp only at hc hd hdn hc2 hd2 hdn2
  subst hc hd hdn hc2 hd2 hdn2
  have hl := r.length
  have hl2 := r2.length
  refine concat_meets ⟨_, ho, rfl⟩ ⟨_, ho2, rfl⟩ noFill_list_add seq_list_add PySem.F.slot_list_add PySem.F.entry_list_add (PySem.F.args_list_add_2 _ _) (PyProof.Rows.list_addW l b its.toArray its2.toArray n n2 none none sl sl2 (by simp; omega)) ⟨ho, ho2, ?_⟩
  have e : its.toArray ++ its2.toArray = (its ++ its2).toArray := by simp
  rw [e]
  exact ⟨.ref _, _, I.lnew (t' := s.toks) (r.append r2) (by rw [List.length_append]; omega), rfl, q _ I.fresh⟩
def dAdd2 : D → D → Option D
  | .int i, .int j => some (.int (i + j))
  | .str x, .str y => if x.length + y.length ≤ 1000000 then some (.str (x ++ y)) else none
  | .lst x, .lst y => if x.length + y.length ≤ 1000000 then some (.lst (x ++ y)) else none
  | _, _ => none
theorem od_add2 : OpD K X (binaryOp .Add) (fun x y H Q => rI0 (fun i j => .int (i + j)) x y H Q ∨ (∃ i j, x = .str i ∧ y = .str j ∧ i.length + j.length ≤ sizeLine ∧ Q (.str (i ++ j)) H) ∨ rCatL K x y H Q) dAdd2 where
  op := fun k pins s σ H x y v u Q I rx ry h => by
    subst k
    rcases h with h | h | h
    · exact op_add pins s σ H x y v u Q I rx ry h
    · exact op_add_str pins s σ H x y v u Q I rx ry h
    · exact op_catL pins s σ H x y v u Q I rx ry h
  ok := by
    intro x y d e c Z H Q s hx hy hg p
    unfold dAdd2 at hg
    split at hg
    · cases hx; cases hy; cases hg
      exact .inl ⟨_, _, rfl, rfl, p _ Z H (ExtP.refl s) (.int _)⟩
    · split at hg
      · rename_i hl
        cases hx; cases hy; cases hg
        exact .inr (.inl ⟨_, _, rfl, rfl, size_le hl, p _ Z H (ExtP.refl s) (.str _)⟩)
      · cases hg
    · split at hg
      · rename_i hl
        cases hg
        cases hx with
        | lst h1 h2 =>
        cases hy with
        | lst h3 h4 =>
        exact .inr (.inr ⟨_, _, _, _, rfl, rfl, .inl (same_rd s h1), .inl (same_rd s h3), by rw [h2.length, h4.length]; exact size_le hl, fun l hl => p _ _ _ (ExtP.new s hl) (.lst (.inl upd_same) ((h2.append h4).mono (same_upd (none_of s hl))))⟩)
      · cases hg
    · cases hg
end
end DL
namespace DL
open PySem L2
section
variable {K : PySem.W.Frag} {X : Cx} {W : WX} {e a b c tg iter tg1 iter1 elt : Expr} {es : List Expr} {pos : Pos}
/-! ### a comprehension with two fors -/
theorem RepV.mono2 {Z Z' : Hp} {I I' : List Addr} (z : Same Z Z') (i : ∃ t, I' = I ++ t) {v : V} : ∀ {d : DV}, RepV K Z I v d → RepV K Z' I' v d
  | .p _, h => Rep.mono z h
  | .o n, ⟨a, h, q⟩ => by
    obtain ⟨t, rfl⟩ := i
    exact ⟨a, by rw [List.getElem?_append_left (List.getElem?_eq_some_iff.mp h).1]; exact h, q⟩
theorem RepS.mono2 {Z Z' : Hp} {I I' : List Addr} {σ : St} {l : List (Option DV)} (r : RepS K Z I σ l) (z : Same Z Z') (i : ∃ t, I' = I ++ t) : RepS K Z' I' σ l := ⟨r.len, fun n dv h => by
  obtain ⟨v, h1, h2⟩ := r.at_ n dv h
  exact ⟨v, h1, h2.mono2 z i⟩⟩
theorem ex_app {I1 I2 I3 : List Addr} (a : ∃ t, I2 = I1 ++ t) (b : ∃ t, I3 = I2 ++ t) : ∃ t, I3 = I1 ++ t := by
  obtain ⟨t, rfl⟩ := a
  obtain ⟨u, rfl⟩ := b
  exact ⟨t ++ u, by rw [List.append_assoc]⟩
abbrev HG (K : PySem.W.Frag) (g : TG) (gm : GM) (ix : List Nat) : Prop := ∀ (v : V) (dv : DV) (σ : St) (H : Hp) (s s' : S) (Z : Hp) (I : List Addr) (Q : St → Hp → Prop), Wf K Z H I s.m → RepS K Z I σ s.l → RepV K Z I v dv → gm dv s = some s' →
      (∀ σ' Z' H' I', Wf K Z' H' I' s'.m → RepS K Z' I' σ' s'.l → Ext Z H I Z' H' I' → (∀ vs, (∀ i ∈ ix, i ∈ vs) → L2.wipe σ' vs = L2.wipe σ vs) → Q σ' H') → g v σ H Q
section
variable {ifs ifs1 : List Expr} {scope : Scope} {own : List (Str × Nat)} {wi wi1 : TI} {g g1 : TG} {tt tt1 : TT} {te : TE} {it it1 : IM} {gm gm1 : GM} {ix ix1 : List Nat} {t t1 em : EM}
end
end
end DL
namespace DL
open PySem L2
end DL
namespace DL
open PySem L2
section
variable {K : PySem.W.Frag} {X : Cx} {W : WX} {e a b c : Expr} {es : List Expr} {pos : Pos}
/-! ### a dict of the module, keys texts -/
structure GD (K : PySem.W.Frag) (w : World) (mg : Str → Option Value) (x : Str) (kvs : List (Str × D)) where
  a : Addr
  m : mg x = some (.ref a)
  at_ : ∀ z d, kvs.lookup z = some d → ∃ v, KDct K w a z v ∧ ∀ Z, Rep K Z v d
/-! ### dicts with keys ints and texts -/
def keyD : D → Option Key
  | .int i => some (.inl i)
  | .str x => some (.inr x)
  | _ => none
def valD (kvs : List (Key × D)) (k : Key) : Option D := (kvs.find? fun kv => decide (kv.1 = k)).map (·.2)
theorem key_rep {Z : Hp} {v : V} {d : D} {k : Key} (h : Rep K Z v d) (e : keyD d = some k) : v = kV k := by
  unfold keyD at e
  split at e
  · cases h; cases e; rfl
  · cases h; cases e; rfl
  · cases e
def getD (d k : D) : Option (Option D) := match d with
  | .dK kvs => (keyD k).map (valD kvs)
  | _ => none
end
end DL
namespace DL
open PySem L2
section
variable {K : PySem.W.Frag} {X : Cx} {W : WX} {pos : Pos}
theorem units1 {k : Nat} {A : Around} (r : Room k A) : A.units + 1 < cLine := by have := r.un; omega
/-- what is made is locked: from now on it stays -/
def tLck (t : TE) : TE := fun σ H Q => t σ H fun v H1 => ∃ a u, v = .ref a ∧ H1 a = some u ∧ Mut (some u) ∧ ∀ od, Q v (upd H1 a (.frz od u))
theorem pe_lck {X : Cx} {e : Expr} {t : TE} (h : PE X e t) : PE X e (tLck t) := ⟨fun pins s σ H Q I q => thn (h.run pins s σ H _ I q) fun u s1 ⟨v, H1, I1, r, a, w, ev, e1, mu, k⟩ => by
  obtain ⟨od, I2⟩ := I1.lock e1 mu
  exact ⟨v, _, I2, r, k od⟩⟩
end
end DL
namespace DL
open PySem L2 PySem.W
/-! ### sorted: the data -/
def tupNE : PyData → Bool
  | .tuple (_ :: _) => true
  | _ => false
def plainK : PyData → Bool
  | .none => false
  | .tuple _ => false
  | _ => true
def sortOk (ks : List PyData) : Bool := (ks.all tupNE || ks.all plainK) && ks.all fun d => ks.all fun e => alike d e
theorem sortOk_like {ks : List PyData} (h : sortOk ks = true) : AllAlike ks := by
  intro d hd e he
  unfold sortOk at h
  rw [Bool.and_eq_true] at h
  exact List.all_eq_true.mp (List.all_eq_true.mp h.2 d hd) e he
theorem sortOk_sortable {ks : List PyData} (h : sortOk ks = true) : Sortable ks := by
  unfold sortOk at h
  rw [Bool.and_eq_true, Bool.or_eq_true] at h
  rcases h.1 with q | q
  · refine .inl fun d hd => ?_
    have z := List.all_eq_true.mp q d hd
    unfold tupNE at z
    split at z
    · exact ⟨_, _, rfl⟩
    · cases z
  · refine .inr fun d hd => ?_
    have z := List.all_eq_true.mp q d hd
    refine ⟨fun e => ?_, fun xs e => ?_⟩ <;> subst e <;> cases z
noncomputable def sortBy (ds ks : List D) : List D := ((ds.zip ks).mergeSort (dataLe false fun p => toP p.2)).map (·.1)
def keysM (f : MA) : List D → Option (List D)
  | [] => some []
  | d :: r => match f [d] with
    | some (.ok k) => match keysM f r with
      | some ks => some (k :: ks)
      | none => none
    | _ => none
theorem keysM_len {f : MA} : ∀ {ds ks : List D}, keysM f ds = some ks → ks.length = ds.length
  | [], _, e => by cases e; rfl
  | d :: r, ks, e => by
    unfold keysM at e
    split at e
    · split at e
      · rename_i q
        cases e
        rw [List.length_cons, List.length_cons, keysM_len q]
      · cases e
    · cases e
theorem keysM_at {f : MA} : ∀ {ds ks : List D} {i : Nat} {d : D}, keysM f ds = some ks → ds[i]? = some d → ∃ k, ks[i]? = some k ∧ f [d] = some (.ok k)
  | [], _, i, d, _, h => by simp at h
  | d0 :: r, ks, i, d, e, h => by
    unfold keysM at e
    split at e
    · rename_i q0
      split at e
      · rename_i q
        cases e
        cases i with
        | zero => simp at h; subst h; exact ⟨_, rfl, q0⟩
        | succ i =>
          obtain ⟨k', h1, h2⟩ := keysM_at (i := i) q (by simpa using h)
          exact ⟨k', by simpa using h1, h2⟩
      · cases e
    · cases e
theorem toPs_map : ∀ ds : List D, toPs ds = ds.map toP
  | [] => rfl
  | d :: r => by show toP d :: toPs r = _; rw [toPs_map r]; rfl
section
variable {X : Cx} {pins : List (Addr × Obj)} {σ : St} {H : Hp} {s : Shared}
/-- an object of one's own, newer than the entry's heap, may be forgotten -/
theorem forget {a : Addr} {φ : Heap → Prop} (I : Inv X pins σ H s) (ha : H a = some (.ext φ)) (hn : X.s_0.heap.objs.size ≤ a) (hx : X.ex = []) :
    ∃ G : Heap, (∀ b o, G.get? b = some o → s.heap.get? b = some o) ∧ G.get? a = none ∧ Inv X pins σ (delH H a) { s with heap := G } := by
  have n0 : X.s_0.heap.get? a = none := Heap.get?_none_of_le hn
  have nb : X.base.get? a = none := Heap.get?_none_of_le (Nat.le_trans I.ok.bsz hn)
  let Y : Cx := { X with H_0 := delH X.H_0 a }
  have ok : Y.Ok := ⟨I.ok.mod, I.ok.kind, I.ok.glob, I.ok.blt, I.ok.above, I.ok.inj, I.ok.has, I.ok.cab, I.ok.hd, I.ok.frames, I.ok.stk, I.ok.exf, fun b o e => ⟨(I.ok.bs b o e).1, by
      show delH X.H_0 a b = none
      unfold delH
      split
      · rfl
      · exact (I.ok.bs b o e).2⟩, I.ok.bsz, I.ok.noex, I.ok.exfs, I.ok.funs, fun b hb => by
      show delH X.H_0 a b = none
      unfold delH
      split
      · rfl
      · exact I.ok.frf b hb⟩
  have ne : ∀ {b : Addr} {o : Obj}, X.s_0.heap.get? b = some o → b ≠ a := fun e z => by rw [z, n0] at e; cases e
  have J : Inv Y pins σ H s := ⟨ok, I.os, I.bare, ⟨fun b o e n h1 h2 => I.base.keep b o e ((delH_ne (H := X.H_0) (ne e)).symm.trans n) h1 h2, fun b o e n h1 h2 => I.base.slot b o e ((delH_ne (H := X.H_0) (ne e)).symm.trans n) h1 h2,
      fun b o e n h2 => I.base.free b o e ((delH_ne (H := X.H_0) (ne e)).symm.trans n) h2, fun b o e h2 => I.base.there b o e h2,
      fun b xs e => I.base.tups b xs (by
        by_cases z : b = a
        · rw [z] at e; rw [show Y.H_0 a = delH X.H_0 a a from rfl, delH_same] at e; cases e
        · exact (delH_ne (H := X.H_0) z).symm.trans e),
      fun b o u e => I.base.frzs b o u (by
        by_cases z : b = a
        · rw [z] at e; rw [show Y.H_0 a = delH X.H_0 a a from rfl, delH_same] at e; cases e
        · exact (delH_ne (H := X.H_0) z).symm.trans e),
      fun b ps e => I.base.tbls b ps (by
        by_cases z : b = a
        · rw [z] at e; rw [show Y.H_0 a = delH X.H_0 a a from rfl, delH_same] at e; cases e
        · exact (delH_ne (H := X.H_0) z).symm.trans e)⟩, I.loc, I.cell, I.free, I.freeC, I.pin, I.hok, I.len⟩
  obtain ⟨G, g1, g2, J2⟩ := J.untrack ha (fr0_none (show delH X.H_0 a a = none from delH_same)) hx
  refine ⟨G, g1, g2, ⟨I.ok, J2.os, J2.bare, ⟨fun b o e n h1 h2 => J2.base.keep b o e (by show delH X.H_0 a b = none; rw [delH_ne (ne e)]; exact n) h1 h2, fun b o e n h1 h2 => J2.base.slot b o e (by show delH X.H_0 a b = none; rw [delH_ne (ne e)]; exact n) h1 h2,
      fun b o e n h2 => J2.base.free b o e (by show delH X.H_0 a b = none; rw [delH_ne (ne e)]; exact n) h2, fun b o e h2 => J2.base.there b o e h2,
      fun b xs e => ?_, fun b o u e => ?_, fun b ps e => ?_⟩, J2.loc, J2.cell, J2.free, J2.freeC, J2.pin, J2.hok, J2.len⟩⟩
  · have z : b ≠ a := fun z => by
      have := I.base.tups b xs e
      rw [z, ha] at this; cases this
    exact J2.base.tups b xs (by show delH X.H_0 a b = _; rw [delH_ne z]; exact e)
  · have z : b ≠ a := fun z => by
      have := I.base.frzs b o u e
      rw [z, ha] at this; cases this
    exact J2.base.frzs b o u (by show delH X.H_0 a b = _; rw [delH_ne z]; exact e)
  · have z : b ≠ a := fun z => by
      obtain ⟨m, this⟩ := I.base.tbls b ps e
      rw [z, ha] at this; cases this
    exact J2.base.tbls b ps (by show delH X.H_0 a b = _; rw [delH_ne z]; exact e)
/-- one call of the key -/
theorem key_turn {k : Nat} {f : MA} {fa : Addr} {fd : FuncData} {ps : List Str} {A : Around} (F : FnOk X.prog X.w X.K X.mg X.base (L2.CX X.prog X.w) k fa fd ps (spA X.K 1 f)) (hb : Binds X.K fd ps []) (hr : Room k A) (I : Inv X pins σ H s)
    (he : Env0 X.prog X.w X.K X.mg X.base A X.stack s H) {v : V} {u : Value} {d c : D} {Z : Hp} (rv : RelV v u) (sz : Same Z H) (hv : Rep X.K Z v d) (hf : f [d] = some (.ok c)) :
    wpAny (model X.prog X.w) A (call (.ref fa) [u]) (EP X pins σ fun v' H' => ∃ Z', ExtP Z H Z' H' ∧ Rep X.K Z' v' c) (fun _ _ => False) s := by
  have hsp : spA X.K 1 f [v] H (fun v' H' => ∃ Z', ExtP Z H Z' H' ∧ Rep X.K Z' v' c) (fun _ _ _ => False) := ⟨rfl, Z, [d], .ok c, sz, .cons hv .nil, hf, fun v' Z' H' x r => ⟨Z', x, r⟩⟩
  have hl : ([u] ++ []).length = ps.length := F.len _ _ _ _ hsp
  refine wpAny_call (codeAny_mono (F.run A X.stack s H ⟨[u], []⟩ [u] [v] _ (fun _ _ _ => False) hr he (hb s [u] I.kIn hl) (.cons rv .nil) hsp) fun r s' hq => ?_)
  cases r with
  | error e =>
    obtain ⟨_, _, _, _, _, _, _, _, _, _, _, _, z⟩ := hq
    exact z
  | ok fl =>
    cases fl with
    | ret u => exact I.after hq
    | next => exact False.elim hq
    | brk => exact False.elim hq
    | cont => exact False.elim hq
end
/-! ### what sorted goes over: a list, or the keys of a dict -/
section
variable {K : PySem.W.Frag}
def kD : Key → D
  | .inl i => .int i
  | .inr s => .str s
theorem kD_rep {Z : Hp} (k : Key) : Rep K Z (kV k) (kD k) := by cases k <;> first | exact .int _ | exact .str _
theorem kDs_rep {Z : Hp} : ∀ ks : List Key, RepA K Z (ks.map kV) (ks.map kD)
  | [] => .nil
  | k :: r => .cons (kD_rep k) (kDs_rep r)
end
theorem ext_tup {Z H : Hp} (s : Same Z H) {q : Addr} {xs : List V} (h : H q = some (.tup xs)) : ∃ Z', ExtP Z H Z' H ∧ Z' q = some (.tup xs) := by
  cases z : Z q with
  | some u =>
    have := s q u z
    rw [h] at this
    cases this
    exact ⟨Z, ExtP.refl s, z⟩
  | none =>
    refine ⟨upd Z q (.tup xs), ⟨same_upd z, Same.refl _, fun a u e => ?_, fun a e => ?_⟩, upd_same⟩
    · by_cases w : a = q
      · rw [w, upd_same] at e; rw [w, h]; exact e
      · rw [upd_ne w] at e; exact s a u e
    · by_cases w : a = q
      · rw [w]; exact .inr (.inr ⟨xs, h⟩)
      · rw [upd_ne w] at e; exact .inl e
theorem ext_tups {Z H : Hp} (s : Same Z H) : ∀ (l : List (Addr × List V)), (∀ p ∈ l, H p.1 = some (.tup p.2)) → ∃ Z', ExtP Z H Z' H ∧ ∀ p ∈ l, Z' p.1 = some (.tup p.2)
  | [], _ => ⟨Z, ExtP.refl s, fun _ h => nomatch h⟩
  | p :: l, h => by
    obtain ⟨Z1, x1, e1⟩ := ext_tups s l fun q hq => h q (List.mem_cons_of_mem _ hq)
    obtain ⟨Z2, x2, e2⟩ := ext_tup x1.sub (h p List.mem_cons_self)
    refine ⟨Z2, x1.trans x2, fun q hq => ?_⟩
    rcases List.mem_cons.mp hq with rfl | hq
    · exact e2
    · exact x2.z _ _ (e1 q hq)
section
open PySem.Spec PyProof.Rows
variable {X : Cx} {pins : List (Addr × Obj)} {σ : L2.St} {H Z : Hp} {s : Shared}
/-- what goes over u meets us -/
def Goes (X : Cx) (s : Shared) (u : Value) (us : List Value) : Prop := ∀ (E : Value → Shared → Prop) (R : List Value → Shared → Prop),
  (∀ (h' : Heap) (tk : Nat), (∀ b o, s.heap.get? b = some o → h'.get? b = some o) → R us { s with heap := h', toks := tk }) → wpAny (model X.prog X.w) X.A.in1 (collect u) R E s
theorem goes_list {l : Addr} {us : List Value} (hl : s.heap.IsList l us.toArray) (hz : us.length ≤ sizeLine) : Goes X s (.ref l) us := fun E R k =>
  collect_list hl (k _ s.toks fun b o e => by
    rw [Heap.get?_update_ne _ _ _ _ (Nat.ne_of_lt (Heap.lt_size e))]
    exact Heap.get?_push_of_some _ e) hz
theorem kt_refs {kvs : List (List Key × V)} {xs : List (List Key × Addr × Value)} (r : KT H kvs xs) : Vals (xs.map fun q => V.ref q.2.1) (xs.map fun q => Value.ref q.2.1) := by
  clear r kvs
  induction xs with
  | nil => exact .nil
  | cons q qs ih => exact .cons rfl ih
theorem kt_reps {K : PySem.W.Frag} : ∀ {kvs : List (List Key × V)} {xs : List (List Key × Addr × Value)}, KT H kvs xs → (∀ q ∈ xs, Z q.2.1 = some (.tup (q.1.map kV))) → RepA K Z (xs.map fun q => V.ref q.2.1) (kvs.map fun p => D.tup (p.1.map kD))
  | _, _, .nil, _ => .nil
  | _, _, .cons (a := p) (b := q) h r, k => by
    have e := k q List.mem_cons_self
    refine .cons ?_ (kt_reps r fun x hx => k x (List.mem_cons_of_mem _ hx))
    rw [← h.1] at e
    exact .tup e (kDs_rep p.1)
theorem kt_tups : ∀ {kvs : List (List Key × V)} {xs : List (List Key × Addr × Value)}, KT H kvs xs → ∀ q ∈ xs, H q.2.1 = some (.tup (q.1.map kV))
  | _, _, .nil, q, hq => nomatch hq
  | _, _, .cons h r, q, hq => by
    rcases List.mem_cons.mp hq with rfl | hq
    · rw [← h.1]; exact h.2.1
    · exact kt_tups r q hq
theorem rt_keys {K : PySem.W.Frag} : ∀ {ks : List (List Key × V)} {kvs : List (List Key × D)}, RepT K Z ks kvs → kvs.map (fun p => D.tup (p.1.map kD)) = ks.map fun p => D.tup (p.1.map kD)
  | _, _, .nil => rfl
  | _, _, .cons _ t => by rw [List.map_cons, List.map_cons, rt_keys t]
/-- the keys of a dict that is data -/
theorem goes_keys (hcalm : X.calm = true) (I : Inv X pins σ H s) (sz : Same Z H) {v : V} {u : Value} {kvs : List (List Key × D)} (hx : Rep X.K Z v (.dT kvs)) (rv : RelV v u) :
    ∃ us xs Z', Goes X s u us ∧ Vals xs us ∧ ExtP Z H Z' H ∧ RepA X.K Z' xs (kvs.map fun p => .tup (p.1.map kD)) ∧ us.length ≤ sizeLine := by
  cases hx with
  | dT h1 h2 =>
    rename_i a o ks
    cases rv
    obtain ⟨z, lo, xs, rel, dd⟩ := dt_rd I.hok (.inr ⟨_, sz _ _ h1⟩)
    obtain ⟨Z', x', e'⟩ := ext_tups sz (xs.map fun q => (q.2.1, q.1.map kV)) fun p hp => by
      obtain ⟨q, hq, rfl⟩ := List.mem_map.mp hp
      exact kt_tups rel q hq
    obtain ⟨o', es, ep, g1, g2, g3, g4, _, _⟩ := dd
    have hsz : es.size = xs.length := by rw [← Array.length_toList, g4, List.length_map]
    have hlen : xs.length ≤ sizeLine := by rw [← paired_len rel]; exact z
    have ek := rt_keys h2
    refine ⟨xs.map fun q => Value.ref q.2.1, xs.map fun q => V.ref q.2.1, Z', fun E R k => ?_, kt_refs rel, x', ?_, by rw [List.length_map]; exact hlen⟩
    · refine PySem.W.kdu_collect (A := X.A.in1) (KdlSrc.rawDict (es := es) (ep := ep) lo) (I.ok.hd hcalm) ⟨o', g1, g2, g3⟩ (by rw [hsz]; exact hlen) fun h' tk acc hk hacc => ?_
      have ea : acc.toList = xs.map fun q => Value.ref q.2.1 := by
        refine List.ext_getElem? fun j => ?_
        have l1 : acc.size = xs.length := by rw [hacc.1, hsz]
        by_cases hj : j < acc.size
        · obtain ⟨hi, e⟩ := hacc.2 j acc[j] (Array.getElem?_eq_getElem hj)
          rw [Array.getElem?_toList, Array.getElem?_eq_getElem hj, e]
          have e2 : es[j]? = (xs[j]?).map (entryOfKey (tupleKind (mixKind X.prog X.w))) := by rw [← Array.getElem?_toList, g4, List.getElem?_map]
          rw [Array.getElem?_eq_getElem hi] at e2
          rw [List.getElem?_map]
          have hj' : j < xs.length := by omega
          rw [List.getElem?_eq_getElem hj'] at e2 ⊢
          have e3 : es[j] = entryOfKey (tupleKind (mixKind X.prog X.w)) xs[j] := Option.some.inj e2
          rw [e3]; rfl
        · rw [List.getElem?_eq_none (by simpa using hj), List.getElem?_eq_none (by rw [List.length_map]; omega)]
      rw [ea]
      exact k h' tk hk
    · rw [ek]
      exact kt_reps rel fun q hq => e' (q.2.1, q.1.map kV) (List.mem_map.mpr ⟨q, hq, rfl⟩)
theorem sorted_goes {A : Around} {E : Value → Shared → Prop} {u : Value} {us : List Value} {kw : List (Str × Value)} {Q : Value → Shared → Prop} (hA : A = X.A) (hg : Goes X s u us) (hL : us.length ≤ sizeLine) (ha1 : argsOk "sorted" ⟨[u], kw⟩) (ha2 : ∀ x, argsOk "list.sort" ⟨[.ref x], kw⟩)
    (body : ∀ (h' : Heap) (tk : Nat), (∀ b o, s.heap.get? b = some o → h'.get? b = some o) → ∀ E' : Value → Shared → Prop, wpAny (model X.prog X.w) A.in1.in1 (Builtin.«list.sort» ⟨[.ref h'.objs.size], kw⟩)
      (fun f s' => f = .done (.ret .none) ∧ Q (.ref h'.objs.size) s') E' { s with heap := h'.push (seqObj "list" us.toArray 0), toks := tk }) :
    wpAny (model X.prog X.w) A (call (.builtin "sorted") [u] kw) Q E s := by
  subst hA
  refine call_function_entry_kw kind_sorted plain_sorted entry_sorted ha1 ?_
  unfold Builtin.«sorted»
  refine wpAny_bind (m := checkCount "sorted" 1 1 _) (wpAny_pure ?_)
  refine wpAny_bind (hg _ _ fun h' tk hk => ?_)
  refine wpAny_bind (wpAny_newList ?_ hL)
  have oL : (h'.push (seqObj "list" us.toArray 0)).get? h'.objs.size = some (seqObj "list" us.toArray 0) := Heap.get?_push_size _ rfl
  show wpAny _ _ _ _ _ { s with heap := h'.push (seqObj "list" us.toArray 0), toks := tk }
  refine wpAny_bind (wpAny_holding (wpAny_call_entry_kw slot_list_sort ⟨_, oL, rfl⟩ entry_list_sort ?_ (ha2 _)))
  refine wpAny_mono (body h' tk hk _) (fun f s' hf => ?_) fun _ _ e => e
  obtain ⟨rfl, hq⟩ := hf
  exact ⟨_, rfl, wpAny_pure ⟨_, rfl, hq⟩⟩
end
end DL
namespace DL
open PySem L2 PySem.W
open PyProof.Rows (seqObj get?_update_seq listUpdate_at listItems_at seqEpoch_at size_push' ksk_rest ksk_fold ksk_tree ksk_t1)
def atS (a : Addr) (xs : Array Value) (n : Nat) : HO := .ext fun h => h.get? a = some (seqObj "list" xs n)
theorem atS_ok {P : Program} {w : World} {H : Hp} {h : Heap} {a : Addr} {xs : Array Value} {n : Nat} (e : h.get? a = some (seqObj "list" xs n)) : ObjOk P w H h a (atS a xs n) := ⟨e, ⟨_, e⟩, fun _ _ q k => k _ q⟩
theorem atS_at {P : Program} {w : World} {H : Hp} {h : Heap} {a : Addr} {xs : Array Value} {n : Nat} (ok : HOk P w H h) (e : H a = some (atS a xs n)) : h.get? a = some (seqObj "list" xs n) := (ok a _ e).1
theorem each_vals {R : Value → D × D → Prop} {K : PySem.W.Frag} {Z : Hp} (hR : ∀ u p, R u p → ∃ v, RelV v u ∧ Rep K Z v p.1) : ∀ {us : List Value} {ps : List (D × D)}, EachIs R us ps → ∃ vs, Vals vs us ∧ RepA K Z vs (ps.map (·.1))
  | _, _, .nil => ⟨[], .nil, .nil⟩
  | _, _, .cons h t => by
    obtain ⟨v, r1, r2⟩ := hR _ _ h
    obtain ⟨vs, q1, q2⟩ := each_vals hR t
    exact ⟨v :: vs, .cons r1 q1, .cons r2 q2⟩
theorem each_mk {K : PySem.W.Frag} {Z : Hp} : ∀ {us : List Value} {vs : List V} {ds ks : List D}, Vals vs us → RepA K Z vs ds → ks.length = ds.length → EachIs (fun u (p : D × D) => ∃ v, RelV v u ∧ Rep K Z v p.1) us (ds.zip ks)
  | _, _, _, [], .nil, .nil, _ => .nil
  | _, _, _, _ :: _, .nil, .nil, e => by simp at e
  | _, _, _, [], .cons _ _, .cons _ _, e => by simp at e
  | _, _, _, k :: ks, .cons r1 t1, .cons r2 t2, e => .cons ⟨_, r1, r2⟩ (each_mk t1 t2 (by simpa using e))
theorem each_reads {X : Cx} {pins : List (Addr × Obj)} {σ : St} {H Z : Hp} {s : Shared} (I : Inv X pins σ H s) (sz : Same Z H) : ∀ {us : List Value} {vs : List V} {ks : List D}, Vals vs us → RepA X.K Z vs ks → (∀ k ∈ ks, shp k = true) → EachIs (fun u d => ∃ as, Reads s.heap u d as) us (ks.map toP)
  | _, _, _, .nil, .nil, _ => .nil
  | _, _, _, .cons r1 t1, .cons (d := d) r2 t2, h => .cons (Dp.reads I (toP d) _ _ (r2.dp sz (shaped_can (h d List.mem_cons_self))) r1) (each_reads I sz t1 t2 fun k hk => h k (List.mem_cons_of_mem _ hk))
section
variable {X : Cx} {pins : List (Addr × Obj)} {σ : St} {H Z : Hp} {s : Shared}
structure Turn (X : Cx) (pins : List (Addr × Obj)) (σ : St) (Z H : Hp) (a kS : Addr) (e1 : Nat) (ks : List D) (j : Nat) (s' : Shared) : Prop where
  ex : ∃ (Hj Zj : Hp) (kA : Array Value) (e : Nat) (kvs : List V), Inv X pins σ Hj s' ∧ ExtP Z H Zj Hj ∧ Hj kS = some (atS kS kA e) ∧ Hj a = some (atS a #[] e1) ∧ Zj kS = none ∧ Zj a = none ∧ Vals kvs kA.toList ∧ RepA X.K Zj kvs (ks.take j)
theorem Same.outer {Z1 H1 : Hp} {a : Addr} {o : HO} (h : Same Z1 H1) (e : Z1 a = none) : Same Z1 (upd H1 a o) := fun b u q => by
  rw [upd_ne (ne_of_none q e)]; exact h b u q
/-- all turns, and what is behind them -/
theorem turns_ok {k : Nat} {f : MA} {fa : Addr} {fd : FuncData} {ps : List Str} {A : Around} {E : Value → Shared → Prop} (F : FnOk X.prog X.w X.K X.mg X.base (L2.CX X.prog X.w) k fa fd ps (spA X.K 1 f)) (hb : Binds X.K fd ps []) (hr : Room k A) (he : ∀ {H' : Hp} {s' : Shared}, Inv X pins σ H' s' → Env0 X.prog X.w X.K X.mg X.base A X.stack s' H')
    {a kS : Addr} {e1 : Nat} {us : List Value} {xs : List V} {ds ks : List D} (hka : kS ≠ a) (nS : H kS = none) (nA : H a = none) (rv : Vals xs us) (hx : RepA X.K Z xs ds) (hk : keysM f ds = some ks) (hZ : us.length ≤ sizeLine) (hst : X.s_0.heap.objs.size ≤ kS) (hex : X.ex = [])
    (hsp : ∀ k ∈ ks, shp k = true) (ok : sortOk (toPs ks) = true) (hu : ∀ k ∈ ks, A.units + (toP k).depth < cLine) {Q : VK} (p : PostP X.K Z H (.lst (sortBy ds ks)) Q) {P : PySem.Fin → Shared → Prop} (hP : ∀ s', EP X pins σ Q (.ref a) s' → P (.done (.ret .none)) s')
    (T : Turn X pins σ Z H a kS e1 ks 0 s) : wpAny (model X.prog X.w) A (ksk_rest a (.ref fa) false us.toArray e1 (.ref kS)) P E s := by
  have hkl := keysM_len hk
  have hxl := hx.length
  have hul : us.length = xs.length := rv.length.symm
  unfold ksk_rest
  refine wpAny_bind (wpAny_rule ?_)
  rw [List.forIn_toArray]
  refine wpAny_bind (ksk_fold (fun i s' => Turn X pins σ Z H a kS e1 ks i s') us 0 s T (fun j x s' hxj t => ?_) fun s' t => ?_)
  · rw [Nat.zero_add] at t ⊢
    obtain ⟨Hj, Zj, kA, e, kvs, I, xt, hS, hA, zS, zA, rk, rr⟩ := t.ex
    have hj : j < us.length := (List.getElem?_eq_some_iff.mp hxj).1
    obtain ⟨v, hv⟩ : ∃ v, xs[j]? = some v := ⟨_, List.getElem?_eq_getElem (by omega)⟩
    obtain ⟨d, hd, rd⟩ := hx.get' hv
    obtain ⟨u, hu1, ru⟩ := rv.get hv
    rw [hxj] at hu1
    cases hu1
    obtain ⟨c, hc, hf⟩ := keysM_at hk hd
    have hz : kA.size ≤ sizeLine := by
      have h1 : kA.size = kvs.length := by rw [L2.Vals.length rk]; simp
      have h2 := rr.length
      rw [List.length_take] at h2
      omega
    refine wpAny_bind (wpAny_attempt (wpAny_mono (key_turn F hb hr I (he I) ru xt.sub (rd.mono xt.z) hf) (fun w s2 hw => ?_) fun _ _ z => z.elim))
    obtain ⟨wv, Hn, I2, rw2, Zn, xn, rn⟩ := hw
    have hS2 := xn.h _ _ hS
    have hA2 := xn.h _ _ hA
    have zS2 : Zn kS = none := by
      cases q : Zn kS with
      | none => rfl
      | some o =>
        rcases xn.zn kS (by rw [q]; simp) with z | z
        · exact absurd zS z
        · exact (Fr.no hS (fun _ e => nomatch e) z).elim
    have zA2 : Zn a = none := by
      cases q : Zn a with
      | none => rfl
      | some o =>
        rcases xn.zn a (by rw [q]; simp) with z | z
        · exact absurd zA z
        · exact (Fr.no hA (fun _ e => nomatch e) z).elim
    have nk := atS_at I2.hok hS2
    have sb := Heap.SameBut.update s2.heap kS (Obj.mapSeq (·.push w))
    obtain ⟨c2, hc2⟩ : ∃ c2, (s2.heap.update kS (Obj.mapSeq (·.push w))).get? kS = some (seqObj "list" (kA.push w) c2) := ⟨_, get?_update_seq nk (·.push w)⟩
    try dsimp only
    refine wpAny_bind (listUpdate_at nk rfl ?_ hz (Nat.le_trans (Nat.le_of_eq (Array.size_push ..)) (Nat.succ_le_succ hz)))
    have I3 := I2.write (x := kS) (e := kS) (o := atS kS (kA.push w) c2) (t' := s2.toks) (by rw [hS2]; trivial) (.inl rfl) (fun b u' hne q => (sb.2 b hne).trans q) ⟨_, hc2⟩ (atS_ok hc2)
    refine wpAny_pure ⟨rfl, ⟨upd Hn kS (atS kS (kA.push w) c2), Zn, kA.push w, c2, kvs ++ [wv], I3, ?_, upd_same, by rw [upd_ne hka.symm]; exact hA2, zS2, zA2, ?_, ?_⟩⟩
    · have x2 := xt.trans xn
      exact ⟨x2.z, fun b u' q => by rw [upd_ne (ne_of_none q nS)]; exact x2.h b u' q, Same.outer x2.sub zS2, x2.zn⟩
    · have ea : (kA.push w).toList = kA.toList ++ [w] := by simp
      rw [ea]
      exact paired_app rk (.cons rw2 .nil)
    · have ek : ks.take (j + 1) = ks.take j ++ [c] := by rw [List.take_add_one, hc]; rfl
      rw [ek]
      exact (rr.mono xn.z).append (.cons rn .nil)
  · rw [Nat.zero_add] at t
    obtain ⟨Hj, Zj, kA, e, kvs, I, xt, hS, hA, zS, zA, rk, rr⟩ := t.ex
    rw [List.take_of_length_le (by omega)] at rr
    have nk := atS_at I.hok hS
    have na := atS_at I.hok hA
    obtain ⟨G, gk, gn, J⟩ := forget I hS hst hex
    try dsimp only
    refine wpAny_bind (listItems_at nk rfl ?_)
    have er := each_reads I xt.sub rk rr hsp
    have hal : AllAlike (ks.map toP) := by rw [← toPs_map]; exact sortOk_like ok
    have hso : Sortable (ks.map toP) := by rw [← toPs_map]; exact sortOk_sortable ok
    have hsz : kA.size = us.length := by
      have h1 : kA.size = kvs.length := by rw [L2.Vals.length rk]; simp
      have h2 := rr.length
      omega
    refine keyH_end (κ := dataKind s'.heap (ks.map toP)) (h₁ := G) (fun b o _ q => gk b o q) gn nk na hka (SortsAt.data er hal hso fun d hd => ?_) hsz hZ fun h' tk c kp n => ?_
    · obtain ⟨k0, hk0, rfl⟩ := List.mem_map.mp hd
      exact hu k0 hk0
    · have ko : KeyedOut false ((ds.zip ks).map fun p => toP p.2) us (PySem.W.sortVals (dataKind s'.heap (ks.map toP)) false kA.toList us) := by
        have e1 : (ds.zip ks).map (fun p => toP p.2) = ks.map toP := by
          rw [show (fun p : D × D => toP p.2) = toP ∘ Prod.snd from rfl, ← List.map_map, List.map_snd_zip (by omega)]
        rw [e1]
        exact ⟨s'.heap, kA.toList, hal, rfl, er⟩
      have eo := keyedOut_each (R := fun u (p : D × D) => ∃ v, RelV v u ∧ Rep X.K Zj v p.1) (fun p : D × D => toP p.2) ko (each_mk rv (hx.mono xt.z) hkl)
      obtain ⟨ov, o1, o2⟩ := each_vals (fun _ _ q => q) eo
      have hol : ov.length ≤ sizeLine := by
        have h1 := o2.length
        rw [List.length_map, List.length_mergeSort, List.length_zip] at h1
        omega
      have hAd : delH Hj kS a = some (atS a #[] e1) := by rw [delH_ne hka.symm]; exact hA
      have J2 := J.write (h' := h') (x := a) (e := a) (o := .lst ov) (t' := tk) (by rw [hAd]; trivial) (.inl rfl) (fun b u' hne q => kp b u' hne q) ⟨_, n⟩ ⟨hol, _, c, o1, n⟩
      refine hP _ ⟨.ref a, _, J2, rfl, p _ (upd Zj a (.lst ov)) _ ⟨?_, ?_, ?_, ?_⟩ (.lst (.inl upd_same) (o2.mono ?_))⟩
      · exact fun b u' q => by rw [upd_ne (ne_of_none (xt.z b u' q) zA)]; exact xt.z b u' q
      · exact fun b u' q => by rw [upd_ne (ne_of_none q nA), delH_ne (ne_of_none q nS)]; exact xt.h b u' q
      · intro b u' q
        by_cases z : b = a
        · rw [z, upd_same] at q ⊢; exact q
        · rw [upd_ne z] at q ⊢
          rw [delH_ne (ne_of_none q zS)]
          exact xt.sub b u' q
      · intro b q
        by_cases z : b = a
        · rw [z]; exact .inr (.inl nA)
        · rw [upd_ne z] at q; exact xt.zn b q
      · exact fun b u' q => by rw [upd_ne (ne_of_none q zA)]; exact q
end
end DL
namespace DL
open PySem L2 PySem.W
open PyProof.Rows (seqObj get?_update_seq listUpdate_at listItems_at seqEpoch_at size_push' ksk_rest ksk_fold ksk_tree ksk_t1 ksk_s1 ksk_l1)
section
variable {X : Cx} {pins : List (Addr × Obj)} {σ : St} {H Z : Hp} {s : Shared}
/-- sorted(xs, key=f), f a def -/
theorem sortF_run {k : Nat} {f : MA} {fa : Addr} {fd : FuncData} {ps : List Str} (F : FnOk X.prog X.w X.K X.mg X.base (L2.CX X.prog X.w) k fa fd ps (spA X.K 1 f)) (hb : Binds X.K fd ps []) (hr : Room (k + 2) X.A) (hex : X.ex = []) (I : Inv X pins σ H s)
    {u : Value} {us : List Value} {xs : List V} {ds ks : List D} (sz : Same Z H) (hg : Goes X s u us) (rv : Vals xs us) (hz2 : us.length ≤ sizeLine) (hx : RepA X.K Z xs ds) (hk : keysM f ds = some ks) (hsp : ∀ k ∈ ks, shp k = true) (ok : sortOk (toPs ks) = true) {Q : VK} (p : PostP X.K Z H (.lst (sortBy ds ks)) Q) :
    wpAny (model X.prog X.w) X.A (call (.builtin "sorted") [u] [(Str.ofString "key", .ref fa)]) (EP X pins σ Q) X.xe s := by
  refine sorted_goes rfl hg hz2 (ksk_s1 _ _) (fun _ => ksk_l1 _ _) fun hb0 tk hk0 E' => ?_
  rw [ksk_t1]
  have I0 : Inv X pins σ H { s with heap := hb0, toks := tk } := I.kept hk0
  let a : Addr := hb0.objs.size
  let h0 := hb0.push (seqObj "list" us.toArray 0)
  have oa : h0.get? a = some (seqObj "list" us.toArray 0) := Heap.get?_push_size _ rfl
  have la : a < h0.objs.size := Heap.lt_size oa
  obtain ⟨e1, oa1⟩ : ∃ e1, (h0.update a (Obj.mapSeq fun _ => (#[] : Array Value))).get? a = some (seqObj "list" #[] e1) := ⟨_, get?_update_seq oa fun _ => #[]⟩
  let h1 := (h0.update a (Obj.mapSeq fun _ => (#[] : Array Value))).push (seqObj "tuple" us.toArray 0)
  have s1 : h1.objs.size = h0.objs.size + 1 := by show ((h0.update a _).push _).objs.size = _; rw [size_push', Heap.size_update]
  have keep1 : ∀ b u, hb0.get? b = some u → h1.get? b = some u := fun b u q => by
    have q0 : h0.get? b = some u := Heap.get?_push_of_some _ q
    have nb : b ≠ a := Nat.ne_of_lt (Heap.lt_size q)
    exact Heap.get?_push_of_some _ (by rw [Heap.get?_update_ne _ _ _ _ nb]; exact q0)
  have oa2 : h1.get? a = some (seqObj "list" #[] e1) := Heap.get?_push_of_some _ oa1
  have nA : H a = none := I0.hok.fresh (Nat.le_refl _)
  have J1 := I0.laid (h' := h1) (a := a) (o := atS a #[] e1) (t' := tk) keep1 (Nat.le_refl _) (atS_ok oa2)
  have nS1 : upd H a (atS a #[] e1) h1.objs.size = none := J1.hok.fresh (Nat.le_refl _)
  have hka : h1.objs.size ≠ a := by rw [s1]; exact Nat.ne_of_gt (Nat.lt_succ_of_lt la)
  have nS : H h1.objs.size = none := by rw [upd_ne hka] at nS1; exact nS1
  have oS : (h1.push (seqObj "list" #[] 0)).get? h1.objs.size = some (seqObj "list" #[] 0) := Heap.get?_push_size _ rfl
  have J2 := J1.laid (h' := h1.push (seqObj "list" #[] 0)) (a := h1.objs.size) (o := atS h1.objs.size #[] 0) (t' := tk) (fun b u q => Heap.get?_push_of_some _ q) (Nat.le_refl _) (atS_ok oS)
  have hst : X.s_0.heap.objs.size ≤ h1.objs.size := by
    have z1 : X.s_0.heap.objs.size ≤ hb0.objs.size := I0.sz
    have z2 : hb0.objs.size < h0.objs.size := la
    omega
  unfold ksk_tree
  refine wpAny_bind (listItems_at (s := { s with heap := h0, toks := tk }) oa rfl ?_)
  refine wpAny_bind (listUpdate_at (s := { s with heap := h0, toks := tk }) oa rfl ?_ (by rw [List.size_toArray]; exact hz2) (Nat.zero_le _))
  refine wpAny_bind (seqEpoch_at oa1 rfl ?_)
  refine wpAny_bind (wpAny_newTuple ?_ hz2)
  refine wpAny_bind (wpAny_newList ?_ (Nat.zero_le _))
  refine wpAny_holding ?_
  exact turns_ok (s := { s with heap := h1.push (seqObj "list" #[] 0), toks := tk }) F hb (Room.in1 (Room.in1 hr)) (fun I' => I'.env0.in1.in1) hka nS nA rv hx hk hz2 hst hex hsp ok (fun k0 h0 => by
      have z := hsp k0 h0
      unfold shp at z
      rw [Bool.and_eq_true] at z
      have y := of_decide_eq_true z.2
      have := hr.un
      show X.A.units + 1 + 1 + (toP k0).depth < cLine
      have dd : (toP k0).depth = depD k0 := depD_dep k0 z.1
      rw [dd]
      omega) p (fun s' q => ⟨rfl, q⟩)
    ⟨_, Z, #[], 0, [], J2, ⟨Same.refl _, fun b u q => by rw [upd_ne (ne_of_none q nS), upd_ne (ne_of_none q nA)]; exact q, Same.outer (Same.outer sz (none_of sz nA)) (none_of sz nS), fun b q => .inl q⟩, upd_same, by rw [upd_ne hka.symm]; exact upd_same, none_of sz nS, none_of sz nA, .nil, by rw [List.take_zero]; exact .nil⟩
/-- the mirror -/
noncomputable def sortKD (f : MA) : D → Option D
  | .lst ds => match keysM f ds with
    | some ks => if (ks.all shp && sortOk (toPs ks)) = true then some (.lst (sortBy ds ks)) else none
    | none => none
  | .dT kvs => match keysM f (kvs.map fun p => D.tup (p.1.map kD)) with
    | some ks => if (ks.all shp && sortOk (toPs ks)) = true then some (.lst (sortBy (kvs.map fun p => D.tup (p.1.map kD)) ks)) else none
    | none => none
  | _ => none
noncomputable def mSortK (f : MA) (m : EM) : EM := bnd m (pur fun d => ret (sortKD f d))
def rSortF (K : PySem.W.Frag) (fa : Addr) (f : MA) : List V → List V → Hp → VK → Prop := fun vs zs H Q => zs = [.ref fa] ∧ ∃ (x : V) (Z : Hp) (d c : D), vs = [x] ∧ Same Z H ∧ Rep K Z x d ∧ sortKD f d = some c ∧ PostP K Z H c Q
theorem cr_sortF {k : Nat} {f : MA} {fa : Addr} {fd : FuncData} {ps : List Str} (F : FnOk X.prog X.w X.K X.mg X.base (L2.CX X.prog X.w) k fa fd ps (spA X.K 1 f)) (hb : Binds X.K fd ps []) (hr : Room (k + 2) X.A) (hex : X.ex = []) (hcalm : X.calm = true) :
    CallRK X (.builtin "sorted") [Str.ofString "key"] (rSortF X.K fa f) := by
  intro pins s σ H vs zs us ws Q I r rz h
  obtain ⟨rfl, x, Z, d, c, rfl, sz, hx, hd, p⟩ := h
  cases r with
  | cons r1 r2 =>
  cases r2
  cases rz with
  | cons z1 z2 =>
  cases z2
  cases z1
  unfold sortKD at hd
  split at hd
  · split at hd
    · rename_i ks hk
      split at hd
      · rename_i hc
        cases hd
        rw [Bool.and_eq_true] at hc
        cases hx with
        | lst h1 h2 =>
          cases r1
          obtain ⟨us, rv, hL, hz⟩ := I.list (.inl (same_rd sz h1))
          have hz2 : us.length ≤ sizeLine := by rw [← rv.length]; exact hz
          exact sortF_run F hb hr hex I sz (goes_list hL.isList hz2) rv hz2 h2 hk (fun k0 h0 => List.all_eq_true.mp hc.1 k0 h0) hc.2 p
      · cases hd
    · cases hd
  · split at hd
    · rename_i ks hk
      split at hd
      · rename_i hc
        cases hd
        rw [Bool.and_eq_true] at hc
        obtain ⟨us, xs, Z', hg, rv, xp, hx', hz2⟩ := goes_keys hcalm I sz hx r1
        exact sortF_run F hb hr hex I xp.sub hg rv hz2 hx' hk (fun k0 h0 => List.all_eq_true.mp hc.1 k0 h0) hc.2 (fun v Z2 H2 x2 r2 => p v Z2 H2 (xp.trans x2) r2)
      · cases hd
    · cases hd
  · cases hd
end
@[simp] theorem e_add2I (i j : Int) : dAdd2 (.int i) (.int j) = some (.int (i + j)) := rfl
@[simp] theorem e_add2S (x y : Str) : dAdd2 (.str x) (.str y) = if x.length + y.length ≤ 1000000 then some (.str (x ++ y)) else none := rfl
@[simp] theorem e_add2L (x y : List D) : dAdd2 (.lst x) (.lst y) = if x.length + y.length ≤ 1000000 then some (.lst (x ++ y)) else none := rfl
@[simp] theorem e_inDL (xs ys : List D) : inD (.tup xs) (.lst ys) = if (shp (.tup xs) && shp (.lst ys)) = true then some (ys.any fun z => deq z (.tup xs)) else none := rfl
@[simp] theorem e_sortK (f : MA) (m : EM) (s : S) : mSortK f m s = (bnd m (pur fun d => ret (sortKD f d))) s := rfl
/-- pairs of ints as keys -/
theorem sortOk_ii {α : Type} (l : List α) (a b : α → Int) : sortOk (toPs (l.map fun x => D.tup [.int (a x), .int (b x)])) = true := by
  rw [toPs_map, List.map_map]
  unfold sortOk
  rw [Bool.and_eq_true, Bool.or_eq_true]
  refine ⟨.inl (List.all_eq_true.mpr fun d hd => ?_), List.all_eq_true.mpr fun d hd => List.all_eq_true.mpr fun e he => ?_⟩
  · obtain ⟨x, _, rfl⟩ := List.mem_map.mp hd; rfl
  · obtain ⟨x, _, rfl⟩ := List.mem_map.mp hd
    obtain ⟨y, _, rfl⟩ := List.mem_map.mp he
    simp [toP, toPs, alike, alikeAll]
section
variable {K : PySem.W.Frag} {X : Cx} {W : WX} {e : Expr} {pos p p2 kp : Pos}
theorem de_sortK {k kk : Nat} {f : MA} {fa : Addr} {fd : FuncData} {ps : List Str} {x : Str} {te : TE} {m : EM} (F : FnOk X.prog X.w K X.mg X.base (L2.CX X.prog X.w) k fa fd ps (spA K 1 f)) (hr : Room kk X.A) (hkk : k + 2 ≤ kk) (hs : X.mg "sorted" = none) (hm : X.mg x = some (.ref fa)) (hb : Binds K fd ps []) (h : DE K X W e te m)
    (hgs : Gl X "sorted" := by rfl) (hg : Gl X x := by rfl) (hex : X.ex = [] := by rfl) (hcalm : X.calm = true := by rfl) (hdb : (x == ("__debug__" : Str)) = false := by decide)
    (hs1 : starEach [e] X.env = (false, eval e X.env) :: starEach [] X.env := by rfl) (he : backTo pos (starEach [e] X.env) = (false, eval e X.env) :: backTo pos (starEach [] X.env) := by rfl) (hpl : (backTo pos (starEach [e] X.env)).any (·.1) = false := by rfl)
    (hall : (backToKw pos (keywordEach [⟨some "key", .Name x p2, kp⟩] X.env)).all (·.1.isSome) = true := by rfl) (hnone : (backToKw pos (keywordEach [⟨some "key", .Name x p2, kp⟩] X.env)).any (·.1.isNone) = false := by rfl) (hks : (backToKw pos (keywordEach [⟨some "key", .Name x p2, kp⟩] X.env)).filterMap (·.1) = [Str.ofString "key"] := by rfl) :
    DE K X W (.Call (.Name "sorted" p) [e] [⟨some "key", .Name x p2, kp⟩] pos) (tCKw (rSortF K fa f) (tCons te tNil) (tCons (tC (.ref fa)) tNil)) (mSortK f m) := by
  have k0 := h.k
  subst k0
  refine ⟨rfl, pe_callBK (cr_sortF F hb (hr.mono hkk) hex hcalm) hgs hs rfl (pa_cons h.pe pa_nil hs1) (pk_cons (pe_glob (v := .ref fa) hg hm rfl hdb) pk_nil) (by decide) (by decide) he hpl hall hnone hks, ⟨fun σ H s Z I r0 Q w rs e1 p1 => ?_⟩⟩
  refine h.so.bnd w rs e1 p1.x fun d v M1 Z1 H1 I1 w1 rs1 x1 q1 e2 => ?_
  obtain ⟨d, rfl, e2⟩ := pur_ok e2
  obtain ⟨c, hc, rfl⟩ := ret_ok e2
  exact ⟨rfl, v, Z1, d, c, rfl, w1.sub, q1, hc, PostP.of w1 (p1.mono x1)⟩
end
end DL
namespace DL
open PySem L2
/-! ### dicts: one's own, and data; keys ints and texts, or tuples of them -/
section
variable {α κ : Type} [DecidableEq κ]
def valO (kvs : List (κ × α)) (k : κ) : Option α := (kvs.find? fun kv => decide (kv.1 = k)).map (·.2)
def putO (kvs : List (κ × α)) (k : κ) (v : α) : List (κ × α) :=
  if (kvs.any fun kv => decide (kv.1 = k)) = true then kvs.map (fun kv => if kv.1 = k then (kv.1, v) else kv) else kvs ++ [(k, v)]
def dropO (kvs : List (κ × α)) (k : κ) : List (κ × α) := kvs.filter fun kv => decide (kv.1 ≠ k)
end
def keysD : List D → Option (List Key)
  | [] => some []
  | d :: r => match keyD d, keysD r with
    | some k, some ks => some (k :: ks)
    | _, _ => none
def keyT : D → Option (List Key)
  | .tup xs => keysD xs
  | _ => none
section
variable {K : PySem.W.Frag} {X : Cx} {W : WX} {e a b c : Expr} {es : List Expr} {pos : Pos} {Z H : Hp} {I : List Addr} {M : List O}
theorem keys_rep : ∀ {vs : List V} {xs : List D} {ks : List Key}, RepA K Z vs xs → keysD xs = some ks → vs = ks.map kV
  | _, [], _, .nil, e => by cases e; rfl
  | _, d :: r, _, .cons h t, e => by
    have e : (match keyD d, keysD r with | some k, some ks => some (k :: ks) | _, _ => none) = some _ := e
    cases q : keyD d with
    | none => rw [q] at e; cases e
    | some k =>
      cases q2 : keysD r with
      | none => rw [q, q2] at e; cases e
      | some ks =>
        rw [q, q2] at e; cases e
        rw [key_rep h q, keys_rep t q2]; rfl
theorem keyT_rep {v : V} {d : D} {ks : List Key} (h : Rep K Z v d) (e : keyT d = some ks) : ∃ b, v = .ref b ∧ Z b = some (.tup (ks.map kV)) := by
  cases h with
  | tup h1 h2 => exact ⟨_, rfl, by rw [← keys_rep h2 (show keysD _ = some ks from e)]; exact h1⟩
  | _ => cases e
section
variable {κ : Type} [DecidableEq κ]
theorem valP_rep {ks : List (κ × V)} {ds : List (κ × DV)} (r : Paired (FRel K Z I) ks ds) (k : κ) : (valV ks k = none ∧ valO ds k = none) ∨ ∃ v d, valV ks k = some v ∧ valO ds k = some d ∧ RepV K Z I v d := by
  induction r with
  | nil => exact .inl ⟨rfl, rfl⟩
  | @cons p q ps qs h t ih =>
    obtain ⟨h1, h2⟩ := h
    by_cases z : p.1 = k
    · exact .inr ⟨p.2, q.2, by simp [valV, z], by simp [valO, ← h1, z], h2⟩
    · have e1 : valV (p :: ps) k = valV ps k := by simp [valV, z]
      have e2 : valO (q :: qs) k = valO qs k := by simp [valO, ← h1, z]
      rw [e1, e2]; exact ih
theorem anyP_rep {ks : List (κ × V)} {ds : List (κ × DV)} (r : Paired (FRel K Z I) ks ds) (k : κ) : (ks.any fun kv => decide (kv.1 = k)) = ds.any fun kv => decide (kv.1 = k) := by
  induction r with
  | nil => rfl
  | @cons p q ps qs h t ih => rw [List.any_cons, List.any_cons, ih, h.1]
theorem mapP_rep {ks : List (κ × V)} {ds : List (κ × DV)} (k : κ) {v : V} {d : DV} (h : RepV K Z I v d) (r : Paired (FRel K Z I) ks ds) : Paired (FRel K Z I) (ks.map (fun kv => if kv.1 = k then (kv.1, v) else kv)) (ds.map (fun kv => if kv.1 = k then (kv.1, d) else kv)) := by
  induction r with
  | nil => exact .nil
  | @cons p q ps qs g t ih =>
    refine .cons ?_ ih
    show FRel K Z I (if p.1 = k then (p.1, v) else p) (if q.1 = k then (q.1, d) else q)
    by_cases z : p.1 = k
    · rw [if_pos z, if_pos (g.1.symm.trans z)]; exact ⟨g.1, h⟩
    · rw [if_neg z, if_neg (fun y => z (g.1.trans y))]; exact g
theorem putP_rep {ks : List (κ × V)} {ds : List (κ × DV)} (r : Paired (FRel K Z I) ks ds) (k : κ) {v : V} {d : DV} (h : RepV K Z I v d) : Paired (FRel K Z I) (putK ks k v) (putO ds k d) := by
  unfold putK putO
  rw [anyP_rep r k]
  split
  · exact mapP_rep k h r
  · exact paired_app r (.cons ⟨rfl, h⟩ .nil)
theorem dropP_rep {ks : List (κ × V)} {ds : List (κ × DV)} (r : Paired (FRel K Z I) ks ds) (k : κ) : Paired (FRel K Z I) (dropK ks k) (dropO ds k) := by
  unfold dropK dropO
  induction r with
  | nil => exact .nil
  | @cons p q ps qs g t ih =>
    rw [List.filter_cons, List.filter_cons, g.1]
    split
    · exact .cons g ih
    · exact ih
end
theorem repK_paired {ks : List (Key × V)} : ∀ {ds : List (Key × D)}, RepK K Z ks ds → Paired (FRel K Z I) ks (ds.map fun p => (p.1, DV.p p.2))
  | _, .nil => .nil
  | _, .cons h r => .cons ⟨rfl, h⟩ (repK_paired r)
theorem repT_paired {ks : List (List Key × V)} : ∀ {ds : List (List Key × D)}, RepT K Z ks ds → Paired (FRel K Z I) ks (ds.map fun p => (p.1, DV.p p.2))
  | _, .nil => .nil
  | _, .cons h r => .cons ⟨rfl, h⟩ (repT_paired r)
/-- the dict that a value is -/
inductive Dc where
  | k (kvs : List (Key × DV)) | t (kvs : List (List Key × DV))
def dcM (M : List O) : DV → Option Dc
  | .p (.dK kvs) => some (.k (kvs.map fun p => (p.1, .p p.2)))
  | .p (.dT kvs) => some (.t (kvs.map fun p => (p.1, .p p.2)))
  | .o n => match M[n]? with
    | some (.dK kvs) => some (.k kvs)
    | some (.dT kvs) => some (.t kvs)
    | _ => none
  | _ => none
def RepDc (K : PySem.W.Frag) (Z H : Hp) (I : List Addr) (a : Addr) : Dc → Prop
  | .k ds => ∃ ks, Rd H a (.dK ks) ∧ Paired (FRel K Z I) ks ds
  | .t ds => ∃ ks, Rd H a (.dT ks) ∧ Paired (FRel K Z I) ks ds
theorem dc_rep {x : V} {d : DV} {c : Dc} (w : Wf K Z H I M) (h : RepV K Z I x d) (e : dcM M d = some c) : ∃ a, x = .ref a ∧ RepDc K Z H I a c := by
  cases d with
  | o n =>
    obtain ⟨a, ha, rfl⟩ := h
    unfold dcM at e
    cases z : M[n]? with
    | none => simp only [z] at e; cases e
    | some o =>
      simp only [z] at e
      cases o with
      | dK ds => cases e; obtain ⟨_, ks, r1, r2⟩ := w.ob n a _ ha z (by intro z; cases z); exact ⟨a, rfl, ks, .inl r1, r2⟩
      | dT ds => cases e; obtain ⟨_, ks, r1, r2⟩ := w.ob n a _ ha z (by intro z; cases z); exact ⟨a, rfl, ks, .inl r1, r2⟩
      | _ => cases e
  | p d =>
    have h : Rep K Z x d := h
    cases h with
    | dK h1 h2 => cases e; exact ⟨_, rfl, _, .inr ⟨_, w.sub _ _ h1⟩, repK_paired h2⟩
    | dT h1 h2 => cases e; exact ⟨_, rfl, _, .inr ⟨_, w.sub _ _ h1⟩, repT_paired h2⟩
    | _ => cases e
def getC : Dc → D → Option (Option DV)
  | .k kvs, k => (keyD k).map (valO kvs)
  | .t kvs, k => (keyT k).map (valO kvs)
theorem getC_rep {x : Addr} {y : V} {c : Dc} {k : D} {o : Option DV} (s : Same Z H) (h : RepDc K Z H I x c) (hy : Rep K Z y k) (e : getC c k = some o) : ∃ r, DGet H x y r ∧ ((r = none ∧ o = none) ∨ ∃ v d, r = some v ∧ o = some d ∧ RepV K Z I v d) := by
  cases c with
  | k ds =>
    obtain ⟨ks, h1, h2⟩ := h
    have e : (keyD k).map (valO ds) = some o := e
    cases q : keyD k with
    | none => rw [q] at e; cases e
    | some kk =>
      rw [q] at e; cases e
      refine ⟨_, .inl ⟨ks, kk, h1, key_rep hy q, rfl⟩, ?_⟩
      exact valP_rep h2 kk
  | t ds =>
    obtain ⟨ks, h1, h2⟩ := h
    have e : (keyT k).map (valO ds) = some o := e
    cases q : keyT k with
    | none => rw [q] at e; cases e
    | some kk =>
      rw [q] at e; cases e
      obtain ⟨b, rfl, hb⟩ := keyT_rep hy q
      refine ⟨_, .inr ⟨ks, kk, b, h1, rfl, s _ _ hb, rfl⟩, ?_⟩
      exact valP_rep h2 kk
def getM (M : List O) (d : DV) (k : D) : Option (Option DV) := match dcM M d with
  | some c => getC c k
  | none => none
theorem getM_rep {x y : V} {d : DV} {k : D} {o : Option DV} (w : Wf K Z H I M) (hx : RepV K Z I x d) (hy : Rep K Z y k) (e : getM M d k = some o) :
    ∃ a r, x = .ref a ∧ DGet H a y r ∧ ((r = none ∧ o = none) ∨ ∃ v d, r = some v ∧ o = some d ∧ RepV K Z I v d) := by
  unfold getM at e
  cases z : dcM M d with
  | none => simp only [z] at e; cases e
  | some c =>
    simp only [z] at e
    obtain ⟨ad, rfl, rc⟩ := dc_rep w hx z
    obtain ⟨r, g, k⟩ := getC_rep w.sub rc hy e
    exact ⟨ad, r, rfl, g, k⟩
/-- d[k] -/
def dgK (d : DV) (k : D) : EM := fun s => match getM s.m d k with
  | some (some v) => some (.ok v s.m)
  | _ => none
def mDget (m n : EM) : EM := bnd m fun d => bnd n (pur (dgK d))
/-- k in d, k not in d -/
def dinK (neg : Bool) (k : D) (d : DV) : EM := fun s => match getM s.m d k with
  | some o => some (.ok (.p (.bl (if neg then !o.isSome else o.isSome))) s.m)
  | _ => none
def mDin (neg : Bool) (m n : EM) : EM := bnd m (pur fun k => bnd n (dinK neg k))
theorem so_din (neg : Bool) {ty td : TE} {m n : EM} (ha : Sound K W (RepV K) ty m) (hb : Sound K W (RepV K) td n) :
    Sound K W (RepV K) (fun σ H Q => ty σ H fun y H1 => td σ H1 fun x H2 => ∃ a o, x = .ref a ∧ DGet H2 a y o ∧ Q (.bl (if neg then !o.isSome else o.isSome)) H2) (mDin neg m n) := ⟨fun σ H s Z I r0 Q w rs e p => by
  refine ha.bnd w rs e p.x fun d v M1 Z1 H1 I1 w1 rs1 x1 q1 e1 => ?_
  obtain ⟨d, rfl, e1⟩ := pur_ok e1
  have p1 := p.mono x1
  refine hb.bnd (s := ⟨s.l, M1⟩) w1 rs1 e1 p1.x fun d2 v2 M2 Z2 H2 I2 w2 rs2 x2 q2 e2 => ?_
  have e2 : (match getM M2 d2 d with | some o => some (Rs.ok (DV.p (.bl (if neg then !o.isSome else o.isSome))) M2) | _ => none) = some r0 := e2
  cases z : getM M2 d2 d with
  | none => rw [z] at e2; cases e2
  | some o =>
    rw [z] at e2; cases e2
    obtain ⟨ad, r, rfl, g, k⟩ := getM_rep w2 q2 (Rep.mono x2.z q1) z
    refine ⟨ad, r, rfl, g, ?_⟩
    have er : r.isSome = o.isSome := by
      rcases k with ⟨rfl, rfl⟩ | ⟨u, c', rfl, rfl, hr⟩ <;> rfl
    rw [er]
    exact (p1.mono x2) _ Z2 H2 I2 w2 Ext.refl (.bl _)⟩
theorem mDin_bool {neg : Bool} {m n : EM} (s : S) (r : Rs DV) (e : mDin neg m n s = some r) (v : DV) (M : List O) (hr : r = .ok v M) : ∃ b, v = .p (.bl b) := by
  subst hr
  obtain ⟨a, M1, _, e⟩ := bnd_ok e
  obtain ⟨d, _, e⟩ := pur_ok e
  obtain ⟨a2, M2, _, e⟩ := bnd_ok e
  unfold dinK at e
  cases z : getM M2 a2 d with
  | none => simp only [z] at e; cases e
  | some o => simp only [z] at e; cases e; exact ⟨_, rfl⟩
theorem dt_din (hu : X.A.units + 1 < cLine) {ty td : TE} {m n : EM} (ha : DE K X W a ty m) (hb : DE K X W b td n) (hm : behindInMarks .In b = false := by rfl) : DT K X W (.Compare a [.In] [b] pos) (tB (tDIn ty td)) (mDin false m n) := ⟨ha.k, pt_cmp (pc_din hu ha.pe hb.pe) hm, so_B (so_din false ha.so hb.so) mDin_bool⟩
/-- d[k] = v at a dict of one's own -/
def putM (M : List O) (n : Nat) (k : D) (v : DV) : Option (List O) := match M[n]? with
  | some (.dK ds) => match keyD k with
    | some kk => if ds.length < 1000000 then some (M.set n (.dK (putO ds kk v))) else none
    | none => none
  | some (.dT ds) => match keyT k with
    | some kk => if ds.length < 1000000 then some (M.set n (.dT (putO ds kk v))) else none
    | none => none
  | _ => none
def sPutK (v d : DV) (k : D) : SM := fun s => match d with
  | .o n => match putM s.m n k v with
    | some M => some (.nx, ⟨s.l, M⟩)
    | none => none
  | _ => none
def purS (k : D → SM) : DV → SM
  | .p d, s => k d s
  | .o _, _ => none
theorem purS_ok {k : D → SM} {v : DV} {s : S} {r : Fl × S} (e : purS k v s = some r) : ∃ d, v = .p d ∧ k d s = some r := by
  cases v with
  | p d => exact ⟨d, rfl, e⟩
  | o n => cases e
def sPut (mv md mk : EM) : SM := liftS mv fun v => liftS md fun d => liftS mk (purS fun k => sPutK v d k)
theorem put_rep {n : Nat} {a : Addr} {k : D} {y v : V} {dv : DV} {M' : List O} (w : Wf K Z H I M) (ha : I[n]? = some a) (hy : Rep K Z y k) (hv : RepV K Z I v dv) (e : putM M n k dv = some M') :
    ∃ H', DPut H a y v H' ∧ Wf K Z H' I M' ∧ Ext Z H I Z H' I := by
  unfold putM at e
  split at e
  · rename_i ds hm
    split at e
    · rename_i kk hk
      split at e
      · rename_i hl
        cases e
        obtain ⟨_, ks, h1, h2⟩ := w.ob n a _ ha hm (by intro z; cases z)
        refine ⟨_, .inl ⟨ks, kk, h1, key_rep hy hk, by rw [paired_len h2]; exact size_lt (Nat.le_of_lt hl), rfl⟩, w.setO ha hm (by intro z; cases z) ⟨_, upd_same, putP_rep h2 kk hv⟩, ext_set (List.mem_of_getElem? ha)⟩
      · cases e
    · cases e
  · rename_i ds hm
    split at e
    · rename_i kk hk
      split at e
      · rename_i hl
        cases e
        obtain ⟨_, ks, h1, h2⟩ := w.ob n a _ ha hm (by intro z; cases z)
        obtain ⟨b, rfl, hb⟩ := keyT_rep hy hk
        refine ⟨_, .inr ⟨ks, kk, b, h1, rfl, w.sub _ _ hb, by rw [paired_len h2]; exact size_lt (Nat.le_of_lt hl), rfl⟩, w.setO ha hm (by intro z; cases z) ⟨_, upd_same, putP_rep h2 kk hv⟩, ext_set (List.mem_of_getElem? ha)⟩
      · cases e
    · cases e
  · cases e
theorem ds_put (hu : X.A.units + 1 < cLine) {pos' : Pos} {o i v : Expr} {td ty tv : TE} {md mk mv : EM} (hv : DE K X W v tv mv) (ho : DE K X W o td md) (hi : DE K X W i ty mk) (hs : swapsWith v (some (.Subscript o i pos')) pos.line X.env = pure false := by rfl) :
    DS K X W (.Assign [.Subscript o i pos'] v pos) (sDPut td ty tv) (sPut mv md mk) := ⟨hv.k, ps_dput hu ho.pe hi.pe hv.pe hs, ⟨fun σ H s Z I r D w rs e p => by
  refine hv.so.lift w rs e p fun d v M1 Z1 H1 I1 w1 rs1 x1 q1 e1 p1 => ?_
  refine ho.so.lift (s := ⟨s.l, M1⟩) w1 rs1 e1 p1 fun d2 v2 M2 Z2 H2 I2 w2 rs2 x2 q2 e2 p2 => ?_
  refine hi.so.lift (s := ⟨s.l, M2⟩) w2 rs2 e2 p2 fun d3 v3 M3 Z3 H3 I3 w3 rs3 x3 q3 e3 p3 => ?_
  obtain ⟨d3, rfl, e3⟩ := purS_ok e3
  cases d2 with
  | p d => cases e3
  | o n =>
    have e3 : (match putM M3 n d3 d with | some M => some (Fl.nx, (⟨s.l, M⟩ : S)) | none => none) = some r := e3
    obtain ⟨a, ha, rfl⟩ := q2.mono x3
    cases z : putM M3 n d3 d with
    | none => rw [z] at e3; cases e3
    | some M4 =>
      rw [z] at e3; cases e3
      obtain ⟨H4, hp, w4, x4⟩ := put_rep w3 ha q3 (q1.mono (x2.trans x3)) z
      exact ⟨a, H4, rfl, hp, p3 σ Z3 H4 I3 w4 (rs3.mono x4) x4⟩⟩⟩
/-- {} of one's own -/
def mDnew (o : O) : EM := fun s => some (.ok (.o s.m.length) (s.m ++ [o]))
theorem de_dnewT (k : X.K = K := by rfl) : DE K X W (.Dict [] [] pos) tDNewT (mDnew (.dT [])) := ⟨k, pe_dnewT, ⟨fun σ H s Z I r Q w rs e p => by
  cases e
  intro l hp
  refine p _ Z _ (I ++ [l]) (w.newO hp ⟨[], upd_same, .nil⟩) (ext_new w.sub hp) ⟨l, ?_, rfl⟩
  rw [← w.len, List.getElem?_append_right (Nat.le_refl _), Nat.sub_self]; rfl⟩⟩
def gGet : MtG := fun d ds s => match ds with
  | [.p k] => match getM s.m d k with
    | some (some v) => some (.ok v s.m)
    | some none => some (.ok (.p .non) s.m)
    | none => none
  | [.p k, z] => match getM s.m d k with
    | some (some v) => some (.ok v s.m)
    | some none => some (.ok z s.m)
    | none => none
  | _ => none
/-! ### l.pop(i) of one's own -/
def gPopAt : MtG := fun d ds s => match d, ds with
  | .o n, [.p (.int 0)] => match s.m[n]? with
    | some (.lst (x :: xs)) => some (.ok x (s.m.set n (.lst xs)))
    | _ => none
  | _, _ => none
/-! ### ranges as data -/
def dRng1 : D → Option D
  | .int j => some (.rng 0 j)
  | _ => none
def dInR (neg : Bool) : D → D → Option D
  | .int i, .rng lo hi => some (.bl (if neg then !decide (lo ≤ i ∧ i < hi) else decide (lo ≤ i ∧ i < hi)))
  | _, _ => none
/-! ### l.index(x), flat items -/
def flatD : D → Bool
  | .non => true
  | .bl _ => true
  | .int _ => true
  | .str _ => true
  | _ => false
def findJ (x : D) : List D → Nat → Option Nat
  | [], _ => none
  | y :: ys, j => if deq y x = true then some j else findJ x ys (j + 1)
def dLindex : D → List D → Option D
  | .lst ys, [x] => if flatD x = true ∧ ys.all flatD = true then (findJ x ys 0).map fun (j : Nat) => .int (j : Int) else none
  | .klst ys, [x] => if flatD x = true ∧ ys.all flatD = true then (findJ x ys 0).map fun (j : Nat) => .int (j : Int) else none
  | _, _ => none
/-! ### from here on it stays: a name's own object is given up -/
def allKP {κ : Type} : List (κ × DV) → Option (List (κ × D))
  | [] => some []
  | (k, .p d) :: r => (allKP r).map ((k, d) :: ·)
  | (_, .o _) :: _ => none
theorem allKP_k : ∀ {ks : List (Key × V)} {ds : List (Key × DV)} {xs : List (Key × D)}, Paired (FRel K Z I) ks ds → allKP ds = some xs → RepK K Z ks xs
  | _, [], _, .nil, e => by cases e; exact .nil
  | (k', v) :: ks, (k, .p d) :: r, _, .cons h t, e => by
    have e : (allKP r).map ((k, d) :: ·) = some _ := e
    cases q : allKP r with
    | none => rw [q] at e; cases e
    | some ys =>
      rw [q] at e; cases e
      obtain ⟨h1, h2⟩ := h
      cases (show k' = k from h1)
      exact .cons h2 (allKP_k t q)
  | _, (_, .o _) :: _, _, .cons h t, e => by cases e
theorem allKP_t : ∀ {ks : List (List Key × V)} {ds : List (List Key × DV)} {xs : List (List Key × D)}, Paired (FRel K Z I) ks ds → allKP ds = some xs → RepT K Z ks xs
  | _, [], _, .nil, e => by cases e; exact .nil
  | (k', v) :: ks, (k, .p d) :: r, _, .cons h t, e => by
    have e : (allKP r).map ((k, d) :: ·) = some _ := e
    cases q : allKP r with
    | none => rw [q] at e; cases e
    | some ys =>
      rw [q] at e; cases e
      obtain ⟨h1, h2⟩ := h
      cases (show k' = k from h1)
      exact .cons h2 (allKP_t t q)
  | _, (_, .o _) :: _, _, .cons h t, e => by cases e
def frzO : O → Option D
  | .lst ds => (allP ds).map .lst
  | _ => none
def sFrz (i : Nat) : SM := fun s => match gv s.l i with
  | some (.o n) => match s.m[n]? with
    | some o => match frzO o with
      | some d => some (.nx, ⟨s.l.set i (some (.p d)), s.m.set n .gone⟩)
      | none => none
    | none => none
  | _ => none
end
end DL
namespace DL
open PySem L2
/-! equations of DL31, and data that stand for values of a type -/
@[simp] theorem e_dget (m n : EM) (s : S) : mDget m n s = (bnd m fun d => bnd n (pur (dgK d))) s := rfl
@[simp] theorem e_dgK (d : DV) (k : D) (s : S) : dgK d k s = (match getM s.m d k with | some (some v) => some (.ok v s.m) | _ => none) := rfl
@[simp] theorem e_din (neg : Bool) (m n : EM) (s : S) : mDin neg m n s = (bnd m (pur fun k => bnd n (dinK neg k))) s := rfl
@[simp] theorem e_dinK (neg : Bool) (k : D) (d : DV) (s : S) : dinK neg k d s = (match getM s.m d k with | some o => some (.ok (.p (.bl (if neg then !o.isSome else o.isSome))) s.m) | _ => none) := rfl
@[simp] theorem e_put (mv md mk : EM) (s : S) : sPut mv md mk s = (liftS mv fun v => liftS md fun d => liftS mk (purS fun k => sPutK v d k)) s := rfl
@[simp] theorem e_purS (k : D → SM) (d : D) (s : S) : purS k (.p d) s = k d s := rfl
@[simp] theorem e_putK (v : DV) (n : Nat) (k : D) (s : S) : sPutK v (.o n) k s = (match putM s.m n k v with | some M => some (.nx, ⟨s.l, M⟩) | none => none) := rfl
@[simp] theorem e_dnew (o : O) (s : S) : mDnew o s = some (.ok (.o s.m.length) (s.m ++ [o])) := rfl
@[simp] theorem e_get1 (d : DV) (k : D) (s : S) : gGet d [.p k] s = (match getM s.m d k with | some (some v) => some (.ok v s.m) | some none => some (.ok (.p .non) s.m) | none => none) := rfl
@[simp] theorem e_get2 (d : DV) (k : D) (z : DV) (s : S) : gGet d [.p k, z] s = (match getM s.m d k with | some (some v) => some (.ok v s.m) | some none => some (.ok z s.m) | none => none) := rfl
@[simp] theorem e_popAt (n : Nat) (s : S) : gPopAt (.o n) [.p (.int 0)] s = (match s.m[n]? with | some (.lst (x :: xs)) => some (.ok x (s.m.set n (.lst xs))) | _ => none) := rfl
@[simp] theorem e_rngD (j : Int) : dRng1 (.int j) = some (.rng 0 j) := rfl
@[simp] theorem e_inR0 (i lo hi : Int) : dInR false (.int i) (.rng lo hi) = some (.bl (decide (lo ≤ i ∧ i < hi))) := rfl
@[simp] theorem e_inR1 (i lo hi : Int) : dInR true (.int i) (.rng lo hi) = some (.bl (!decide (lo ≤ i ∧ i < hi))) := rfl
@[simp] theorem e_sfrz (i : Nat) (s : S) : sFrz i s = (match gv s.l i with
  | some (.o n) => match s.m[n]? with
    | some o => match frzO o with
      | some d => some (.nx, ⟨s.l.set i (some (.p d)), s.m.set n .gone⟩)
      | none => none
    | none => none
  | _ => none) := rfl
@[simp] theorem e_frzL (xs : List DV) : frzO (.lst xs) = (allP xs).map .lst := rfl
@[simp] theorem e_lindex (ys : List D) (x : D) : dLindex (.lst ys) [x] = if flatD x = true ∧ ys.all flatD = true then (findJ x ys 0).map fun (j : Nat) => .int (j : Int) else none := rfl
@[simp] theorem e_flatI (i : Int) : flatD (.int i) = true := rfl
@[simp] theorem e_flatS (i : Str) : flatD (.str i) = true := rfl
@[simp] theorem e_tyOkP (M : List O) (xs : List D) : tyOk "list" M (.p (.lst xs)) = true := rfl
/-! equality -/
theorem scal_deq {d e : D} {b : Bool} (h : scalD d e = some b) : b = deq d e := by
  unfold scalD at h
  split at h <;> first | (cases h; rfl) | cases h
theorem eqD_shp {d e : D} (h1 : shp d = true) (h2 : shp e = true) : eqD d e = some (deq d e) := by
  unfold eqD
  split
  · rename_i h; rw [scal_deq h]
  · rw [h1, h2]; rfl
/-- values of a type, as data -/
class En (α : Type) [DecidableEq α] where
  en : α → D
  dq : ∀ a b, deq (en a) (en b) = decide (a = b)
  ok : ∀ a, okD (en a) = true
  dp : Nat
  dpl : ∀ a, depD (en a) ≤ dp
section
variable {α β : Type} [DecidableEq α] [DecidableEq β] [En α] [En β]
instance : En Int := ⟨.int, fun a b => by simp, fun _ => rfl, 0, fun _ => Nat.le_refl _⟩
instance : En Bool := ⟨.bl, fun a b => by simp, fun _ => rfl, 0, fun _ => Nat.le_refl _⟩
theorem deqs_en : ∀ l m : List α, deqs (l.map En.en) (m.map En.en) = decide (l = m)
  | [], [] => rfl
  | [], y :: ys => by simp
  | x :: xs, [] => by simp
  | x :: xs, y :: ys => by
    rw [List.map_cons, List.map_cons, e_deqs1, En.dq, deqs_en xs ys]
    by_cases h1 : x = y <;> by_cases h2 : xs = ys <;> simp [h1, h2]
theorem okDs_en : ∀ l : List α, okDs (l.map En.en) = true
  | [] => rfl
  | x :: xs => by rw [List.map_cons, e_ok1, En.ok, okDs_en xs]; rfl
theorem depDs_en : ∀ l : List α, depDs (l.map En.en) ≤ En.dp α
  | [] => Nat.zero_le _
  | x :: xs => by rw [List.map_cons, e_dp1]; exact Nat.max_le.mpr ⟨En.dpl x, depDs_en xs⟩
instance : En (α × β) := ⟨fun p => .tup [En.en p.1, En.en p.2], fun a b => by
    obtain ⟨a1, a2⟩ := a; obtain ⟨b1, b2⟩ := b
    by_cases h1 : a1 = b1 <;> by_cases h2 : a2 = b2 <;> simp [En.dq, h1, h2], fun a => by simp [En.ok], max (En.dp α) (En.dp β) + 1, fun a => by
    have h1 := En.dpl a.1; have h2 := En.dpl a.2
    simp; omega⟩
instance : En (List α) := ⟨fun l => .lst (l.map En.en), deqs_en, okDs_en, En.dp α + 1, fun l => Nat.succ_le_succ (depDs_en l)⟩
theorem shp_en (a : α) (h : En.dp α ≤ 64) : shp (En.en a) = true := by
  have := En.dpl a
  rw [e_shp, En.ok]; simp; omega
theorem eqD_en (a b : α) (h : En.dp α ≤ 64) : eqD (En.en a) (En.en b) = some (decide (a = b)) := by
  rw [eqD_shp (shp_en a h) (shp_en b h), En.dq]
end
end DL
namespace DL
open PySem L2
/-! data whose text is short -/
theorem int_rb (i : Int) (h : i.natAbs ≤ 1000000000000000000) : rb (.int i) ≤ 100 := by
  have hl : i.natAbs.log2 < 64 := by
    by_cases h0 : i.natAbs = 0
    · rw [h0]; decide
    · exact (Nat.log2_lt h0).mpr (by omega)
  show (intS i).length ≤ 100
  have := int_text_length_le (k := 64) (by decide) hl
  unfold intS
  rw [ofString_length]
  omega
/-- data of depth n at most, whose text has w signs at most -/
structure Sm (n w : Nat) (d : D) : Prop where
  ok : okD d = true
  dp : depD d ≤ n
  sh : showD d = true
  rb : rb d ≤ w
theorem Sm.int {n w : Nat} {i : Int} (h : i.natAbs ≤ 1000000000000000000) (hw : 100 ≤ w) : Sm n w (.int i) := ⟨rfl, Nat.zero_le _, logOk_of h, Nat.le_trans (int_rb i h) hw⟩
theorem Sm.bl {n w : Nat} {i : Bool} (hw : 5 ≤ w) : Sm n w (.bl i) := ⟨rfl, Nat.zero_le _, rfl, hw⟩
theorem Sm.non {n w : Nat} (hw : 5 ≤ w) : Sm n w .non := ⟨rfl, Nat.zero_le _, rfl, hw⟩
theorem Sm.mono {n w n' w' : Nat} {d : D} (h : Sm n w d) (hn : n ≤ n') (hw : w ≤ w') : Sm n' w' d := ⟨h.ok, Nat.le_trans h.dp hn, h.sh, Nat.le_trans h.rb hw⟩
theorem sm_all {n w : Nat} : ∀ {ds : List D}, (∀ d ∈ ds, Sm n w d) → okDs ds = true ∧ depDs ds ≤ n ∧ showDs ds = true ∧ rbs ds ≤ (w + 2) * ds.length
  | [], _ => ⟨rfl, Nat.zero_le _, rfl, Nat.zero_le _⟩
  | d :: ds, h => by
    have h1 := h d (by simp)
    obtain ⟨a, b, c, e⟩ := sm_all (n := n) (w := w) (ds := ds) fun x hx => h x (List.mem_cons_of_mem _ hx)
    refine ⟨by rw [e_ok1, h1.ok, a]; rfl, by rw [e_dp1]; exact Nat.max_le.mpr ⟨h1.dp, b⟩, ?_, ?_⟩
    · show (showD d && showDs ds) = true
      rw [h1.sh, c]; rfl
    · show DL.rb d + 2 + rbs ds ≤ (w + 2) * (ds.length + 1)
      have := h1.rb
      rw [Nat.mul_succ]
      omega
theorem Sm.lst {n w v : Nat} {ds : List D} (h : ∀ d ∈ ds, Sm n w d) (hv : (w + 2) * ds.length + 3 ≤ v) : Sm (n + 1) v (.lst ds) := by
  obtain ⟨a, b, c, e⟩ := sm_all h
  exact ⟨a, Nat.succ_le_succ b, c, by show rbs ds + 3 ≤ v; omega⟩
theorem Sm.tup {n w v : Nat} {ds : List D} (h : ∀ d ∈ ds, Sm n w d) (hv : (w + 2) * ds.length + 3 ≤ v) : Sm (n + 1) v (.tup ds) := by
  obtain ⟨a, b, c, e⟩ := sm_all h
  exact ⟨a, Nat.succ_le_succ b, c, by show rbs ds + 3 ≤ v; omega⟩
theorem Sm.repr {n w : Nat} {d : D} (h : Sm n w d) (hn : n ≤ 64) (hw : w ≤ 1000000) : dRepr d = some (.str (reprD d)) := by
  unfold dRepr
  have hs : shp d = true := by
    rw [e_shp, h.ok]
    have := h.dp
    simp; omega
  have := h.rb
  rw [hs, h.sh, if_pos (by decide), if_pos (by omega)]
theorem Sm.str {n w : Nat} {s : Str} (h : PyData.strOk s = true) (hw : 10 * s.length + 2 ≤ w) : Sm n w (.str s) := by
  refine ⟨h, Nat.zero_le _, rfl, Nat.le_trans ?_ hw⟩
  refine StrLaws.reprText_len s fun c hc => ?_
  unfold PyData.strOk at h
  rw [← Array.all_toList, List.all_eq_true] at h
  have := of_decide_eq_true (h c hc)
  have e : (1114112 : Nat) ≤ 16 ^ 8 := by decide
  omega
theorem ks_len (k : String) : (Str.ofString k).length = k.toList.length := by rw [tx_ofString, tx_len, List.length_map]
mutual
theorem deq_refl : ∀ d : D, okD d = true → deq d d = true
  | .non, _ => rfl
  | .bl b, _ => by simp
  | .int i, _ => by simp
  | .str s, _ => by simp
  | .lst xs, h => deqs_refl xs h
  | .tup xs, h => deqs_refl xs h
  | .klst xs, h => deqs_refl xs h
  | .ktup xs, h => deqs_refl xs h
  | .dK _, h => by cases h
  | .dT _, h => by cases h
  | .fn _, h => by cases h
  | .clo _ _, h => by cases h
  | .scr _, h => by cases h
  | .ty _, h => by cases h
  | .rng _ _, h => by cases h
theorem deqs_refl : ∀ d : List D, okDs d = true → deqs d d = true
  | [], _ => rfl
  | x :: xs, h => by
    have h : (okD x && okDs xs) = true := h
    rw [Bool.and_eq_true] at h
    show (deq x x && deqs xs xs) = true
    rw [deq_refl x h.1, deqs_refl xs h.2]; rfl
end
theorem eqD_refl {d : D} (h : okD d = true) (h2 : depD d ≤ 64) : eqD d d = some true := by
  have hs : shp d = true := by rw [e_shp, h, decide_eq_true h2]; rfl
  rw [eqD_shp hs hs, deq_refl d h]
end DL
namespace DL
open PySem L2
section
variable {α κ : Type} [DecidableEq κ]
end
end DL
namespace DL
open PySem L2
@[simp] theorem at2 {α : Type} (x y z : α) (xs : List α) : atI (x :: y :: z :: xs) 2 = some z := atI_nat' (by decide) rfl
@[simp] theorem at3 {α : Type} (x y z u : α) (xs : List α) : atI (x :: y :: z :: u :: xs) 3 = some u := atI_nat' (by decide) rfl
@[simp] theorem at4 {α : Type} (x y z u v : α) (xs : List α) : atI (x :: y :: z :: u :: v :: xs) 4 = some v := atI_nat' (by decide) rfl
@[simp] theorem at5 {α : Type} (x y z u v t : α) (xs : List α) : atI (x :: y :: z :: u :: v :: t :: xs) 5 = some t := atI_nat' (by decide) rfl
end DL
namespace DL
open PySem L2
@[simp] theorem tyOk_dT {M : List O} {n : Nat} {kvs : List (List Key × DV)} (h : M[n]? = some (.dT kvs)) : tyOk "dict" M (.o n) = true := by
  unfold tyOk; simp only [h]; rfl
end DL
namespace DL
open PySem L2
/-- a comprehension whose test draws, too -/
theorem compL_drawT {l : List (Option DV)} {g : GM} {t e : EM} {Inv : List O → Prop} {R : D → Prop} : ∀ (ds : List DV) (acc : List D) (M : List O), Inv M → (∀ y ∈ acc, R y) → acc.length + ds.length ≤ 1000000 →
    (∀ d ∈ ds, ∀ M, Inv M → ∃ s1, g d ⟨l, M⟩ = some s1 ∧ wpB (t s1) (fun v M2 => ∃ b, v = .p (.bl b) ∧ Inv M2 ∧ (b = true → wpB (e ⟨s1.l, M2⟩) (fun v M3 => ∃ y, v = .p y ∧ R y ∧ Inv M3)))) →
    ∃ ys M', compL l g t e ds acc M = some (ys, M') ∧ Inv M' ∧ (∀ y ∈ ys, R y) ∧ ys.length ≤ acc.length + ds.length
  | [], acc, M, h, ha, _, _ => ⟨acc, M, rfl, h, ha, Nat.le_refl _⟩
  | d :: ds, acc, M, h, ha, hl, k => by
    obtain ⟨s1, h1, v, M2, e1, b, rfl, h2, h3⟩ := k d (by simp) M h
    have hl' : acc.length + (ds.length + 1) ≤ 1000000 := hl
    unfold compL
    rw [h1]
    dsimp only
    rw [e1]
    cases b with
    | false =>
      dsimp only
      obtain ⟨ys, M', e2, i2, r2, l2⟩ := compL_drawT (t := t) (e := e) ds acc M2 h2 ha (by omega) fun x hx => k x (List.mem_cons_of_mem _ hx)
      exact ⟨ys, M', e2, i2, r2, by simp; omega⟩
    | true =>
      dsimp only
      obtain ⟨w, M3, e3, y, rfl, hy, h4⟩ := h3 rfl
      rw [e3]
      dsimp only
      rw [if_pos (by omega)]
      obtain ⟨ys, M', e2, i2, r2, l2⟩ := compL_drawT (t := t) (e := e) ds (acc ++ [y]) M3 h4 (fun z hz => by
        rw [List.mem_append] at hz
        rcases hz with hz | hz
        · exact ha z hz
        · simp at hz; rw [hz]; exact hy) (by simp; omega) fun x hx => k x (List.mem_cons_of_mem _ hx)
      exact ⟨ys, M', e2, i2, r2, by simp at l2 ⊢; omega⟩
theorem list_of {α : Type} {f : α → D} {p : α → Prop} : ∀ {ys : List D}, (∀ y ∈ ys, ∃ a, y = f a ∧ p a) → ∃ l : List α, ys = l.map f ∧ ∀ a ∈ l, p a
  | [], _ => ⟨[], rfl, by simp⟩
  | y :: ys, h => by
    obtain ⟨a, rfl, ha⟩ := h y (by simp)
    obtain ⟨l, rfl, hl⟩ := list_of fun z hz => h z (List.mem_cons_of_mem _ hz)
    exact ⟨a :: l, rfl, fun b hb => by
      rcases List.mem_cons.mp hb with rfl | hb
      · exact ha
      · exact hl b hb⟩
theorem mem_intsFrom {d : DV} {lo : Int} {n : Nat} (h : d ∈ DL.intsFrom lo n) : ∃ i : Nat, i < n ∧ d = .p (.int (lo + i)) := by
  unfold DL.intsFrom at h
  obtain ⟨i, hi, rfl⟩ := List.mem_map.mp h
  exact ⟨i, List.mem_range.mp hi, rfl⟩
@[simp] theorem intsFrom_len (lo : Int) (n : Nat) : (DL.intsFrom lo n).length = n := by unfold DL.intsFrom; simp
end DL
namespace DL
open PySem L2
end DL
namespace DL
open PySem PySem.Spec PyProof.Rows L2 LamX NdefX
/-! ### lambdas: the object, its promise -/
theorem lamO_at {P : Program} {w : World} {H : Hp} {h : Heap} {f : Addr} {F : NF} {body : Expr} (hok : HOk P w H h) (e : H f = some (LamO f F body)) : ∃ (od : Option Addr) (sl : Array (Option Value)) (pm ctv : Value), h.get? f = some (⟨.type "function", od, .func (PySem.W.kla_fn F.name F.qual F.params body F.scope F.cl pm (.ref F.c) ctv), sl⟩ : Obj) :=
  (hok f _ e).1
section
variable {X : Cx} {pins : List (Addr × Obj)} {σ : L2.St} {H : Hp} {s : Shared}
theorem inv_lam {F : NF} {body : Expr} {o : Obj} {t' : Nat} {pm ctv : Value} (I : Inv X pins σ H s) (ho : o = PySem.W.kla_obj F.name F.qual F.params body F.scope F.cl pm F.c ctv) :
    Inv X pins σ (upd H s.heap.objs.size (LamO s.heap.objs.size F body)) { s with heap := s.heap.push o, toks := t' } := by
  subst ho
  refine I.laid (a := s.heap.objs.size) (fun b u e => Heap.get?_push_of_some _ e) (Nat.le_refl _) ?_
  have e : (s.heap.push (PySem.W.kla_obj F.name F.qual F.params body F.scope F.cl pm F.c ctv)).get? s.heap.objs.size = some (PySem.W.kla_obj F.name F.qual F.params body F.scope F.cl pm F.c ctv) := Heap.get?_push_size _ rfl
  exact ⟨⟨_, _, pm, ctv, e⟩, ⟨_, e⟩, fun h1 h2 ⟨od, sl, p, t, z⟩ st => ⟨od, sl, p, t, st _ z⟩⟩
/-- the lambda is made: its code object is new, or found in the table -/
theorem lam_make3 {nm : Str} {c P : Addr} {params : Arguments} {body : Expr} {scope : Scope} {pos : Pos} {E : Value → Shared → Prop} {Q : Value → Shared → Prop} {ps : Array Value} (I : Inv X pins σ H s) (TB : TabB X.base X.mg c P) (hcode : X.env.code = .ref c)
    (hn : nm = X.env.qual ++ "<lambda>") (hP : H P = some (.tbl ps)) (ht : TriplesOk ps.toList) (ha : ∀ (pos : Pos) (cv : Value), codeAmong pos ps.toList = some cv → ∃ c, cv = .ref c ∧ H c = some (CodeO c nm)) (hdef : defaultsOf params X.env = ([], [])) (hfree : ∀ y ∈ scope.names, y.2 = .free → ∃ c, X.env.cells.lookup y.1 = some c)
    (h : ∀ (f c' : Addr) (H1 : Hp) (s' : Shared) (ps' : Array Value), Inv X pins σ H1 s' → (∀ b o, b ≠ P → H b = some o → H1 b = some o) → (∀ b, H1 b = Option.none → H b = Option.none) → H1 P = some (.tbl ps') → TriplesOk ps'.toList →
      (∀ (pos : Pos) (cv : Value), codeAmong pos ps'.toList = some cv → codeAmong pos ps.toList = some cv ∨ cv = .ref c') → H f = none → f ≠ c' → (H c' = none ∨ ∃ pos, codeAmong pos ps.toList = some (.ref c')) → H1 f = some (LamO f ⟨"<lambda>", nm, params, [], scope, cloFrom X.env.cells scope.names [], c'⟩ body) → H1 c' = some (CodeO c' nm) → Q (.ref f) s') :
    wpAny (model X.prog X.w) X.A (eval (.Lambda params body scope pos) X.env) Q E s := by
  subst hn
  refine PySem.W.kla_eval hdef ?_
  have bP : s.heap.BuiltinsAt X.mg P := TB.bm.keeps I.bk
  have hP' : s.heap.get? P = some { cls := .none, data := .fields ps } := I.hok P _ hP
  cases hc : codeAmong pos ps.toList with
  | none =>
    refine PySem.W.kla_makeFunction (mg := X.mg) (c := c) (P := P) (ps := ps) (closure_ok hfree) I.ok.glob (I.mod.glob.keeps I.bk) hcode (TB.code.keeps I.bk) hP' ht hc TB.gP bP fun c' ctv h' tk hx hge hlt hrec htb => ?_
    obtain ⟨c2, oc, vs, t, e2, hoc, hd, hv⟩ := hrec
    cases e2
    have nC : H c' = none := I.hok.fresh hge
    have I1 := inv_table (t' := tk) (more := #[rawInt pos.line, rawInt pos.col, .ref c']) (h' := h') I hP (fun b o hb e => hx b o hb e) htb hge ⟨oc, vs, t, hoc, hd, hv⟩
    have nF := I1.hok.fresh (Nat.le_refl _)
    have I2 := inv_lam (F := ⟨"<lambda>", X.env.qual ++ "<lambda>", params, [], scope, cloFrom X.env.cells scope.names [], c'⟩) (body := body) (t' := tk) (pm := (X.mg "__name__").getD .none) (ctv := ctv) I1 rfl
    have eL : (ps ++ #[rawInt pos.line, rawInt pos.col, .ref c']).toList = ps.toList ++ [rawInt pos.line, rawInt pos.col, .ref c'] := by simp
    have nPf : P ≠ h'.objs.size := Nat.ne_of_lt (Heap.lt_size htb)
    refine h h'.objs.size c' _ _ (ps ++ #[rawInt pos.line, rawInt pos.col, .ref c']) I2 (fun b o hb e => ?_) (fun b e => upd_none (upd_none (upd_none e))) ?_ (by rw [eL]; exact PySem.TriplesOk_snoc _ _ _ _ ht) (fun p' cv hcv => ?_) (I.hok.fresh (Nat.le_trans hge (Nat.le_of_lt hlt))) (Nat.ne_of_gt hlt) (.inl nC) upd_same ?_
    · have nb : b ≠ h'.objs.size := fun z => by
        have := I.hok.fresh (Nat.le_trans hge (Nat.le_of_lt hlt))
        rw [← z] at this; rw [this] at e; cases e
      rw [upd_ne nb, upd_ne (ne_of_none e nC), upd_ne hb]; exact e
    · rw [upd_ne nPf, upd_ne (ne_of_none hP nC), upd_same]
    · rw [eL] at hcv
      exact among_app _ ht hcv
    · exact (upd_ne (Nat.ne_of_lt hlt)).trans upd_same
  | some cv =>
    obtain ⟨c', e, hco⟩ := ha pos cv hc
    subst e
    refine PySem.W.kla_makeFunctionHit (mg := X.mg) (c := c) (P := P) (ps := ps) (closure_ok hfree) I.ok.glob (I.mod.glob.keeps I.bk) hcode (TB.code.keeps I.bk) hP' ht hc bP fun ctv h' tk hx hsz => ?_
    have I1 : Inv X pins σ H { s with heap := h', toks := tk } := I.kept hx
    have nF : H h'.objs.size = none := I1.hok.fresh (Nat.le_refl _)
    have I2 := inv_lam (F := ⟨"<lambda>", X.env.qual ++ "<lambda>", params, [], scope, cloFrom X.env.cells scope.names [], c'⟩) (body := body) (t' := tk) (pm := (X.mg "__name__").getD .none) (ctv := ctv) I1 rfl
    refine h h'.objs.size c' _ _ ps I2 (fun b o hb e => ?_) (fun b e => upd_none e) ?_ ht (fun p' cv hcv => ?_) nF (fun z => by rw [z] at nF; rw [nF] at hco; cases hco) (.inr ⟨pos, hc⟩) upd_same ?_
    · exact (upd_ne (ne_of_none e nF)).trans e
    · exact (upd_ne (ne_of_none hP nF)).trans hP
    · exact .inl hcv
    · exact (upd_ne (ne_of_none hco nF)).trans hco
end
/-- the promise of the lambda F at f: sp ws, ws what its captured cells hold at the call -/
structure LOk (P : Program) (w : World) (K : PySem.W.Frag) (mg : Str → Option Value) (base : Heap) (CX : CXT) (k : Nat) (f : Addr) (F : NF) (body : Expr) (ps fr : List Str) (sp : List (Option V) → Sp) : Prop where
  len : ∀ ws vs H Q E, sp ws vs H Q E → vs.length = ps.length
  run : ∀ (A : Around) (outer : List Env) (s : Shared) (H : Hp) (us : List Value) (vs : List V) (ws : List (Option V)) (Q : VK) (E : XK), Room k A → Env0 P w K mg base A outer s H → H f = some (LamO f F body) → H F.c = some (CodeO F.c F.qual) →
    CellsAt F.cl fr ws s.heap H → Vals vs us → sp ws vs H Q E → codeAny (model P w) A (.call (.ref f) ⟨us, []⟩) (CR CX outer P w H s Q E) s
section
variable {CX : CXT} {P : Program} {w : World} {K : PySem.W.Frag} {mg : Str → Option Value} {base : Heap} {N ps fr : List Str} {F : NF} {f : Addr} {k j : Nat} {body : Expr} {sp : List (Option V) → Sp}
theorem lok_of (S : NScope N ps fr F.scope) (hb : ∀ (pm ctv : Value) (us : List Value), us.length = ps.length → bindArgs (PySem.W.kla_fn F.name F.qual F.params body F.scope F.cl pm (.ref F.c) ctv) ⟨us, []⟩ = pure (ps.zip us)) (len : ∀ ws vs H Q E, sp ws vs H Q E → vs.length = ps.length)
    (hbody : ∀ (A : Around) (outer : List Env) (s : Shared) (H : Hp) (vs : List V) (ws : List (Option V)) (Q : VK) (E : XK), Room k (A.deeper (envF F f s.heap.objs.size)) → ws.length = fr.length → sp ws vs H Q E →
      ∃ t, PE (ncx CX P w K mg base N F f A outer s H E) body t ∧ t (startF N vs ws) H Q) :
    LOk P w K mg base CX (k + 1) f F body ps fr sp := by
  refine ⟨len, fun A outer s H us vs ws Q E hr e0 hf hc C r hsp => ?_⟩
  have hl := len _ _ _ _ _ hsp
  have lim : s.heap.NoLimit := e0.mod.nolimit.keeps fun b o e => (e0.bs b o e).1
  obtain ⟨od, sl, pm, ctv, ho⟩ := lamO_at e0.hok hf
  refine PySem.W.kla_callFunE hr.depth ho rfl S.co S.gen rfl (codeO_at e0.hok hc) ?_
  rw [hb pm ctv us (by rw [← r.length]; exact hl)]
  refine wpAny_pure (wpAny_newFunctionEnv S.nocell (fun ⟨n, _⟩ hy => S.par n (List.of_mem_zip hy).1) (fun h₁ hns hsb => ⟨lim.fresh _ hsb, ?_⟩) S.kind)
  show codeAny _ _ (.expr body (envF F f s.heap.objs.size)) _ _
  have kp : ∀ b o, s.heap.get? b = some o → h₁.get? b = some o := fun b o e => hsb.extBut b o (Nat.ne_of_lt (Heap.lt_size e)) (Heap.get?_push_of_some _ e)
  obtain ⟨t, hte, hq⟩ := hbody A outer s H vs ws Q E (hr.deeper _) C.len hsp
  have I : Inv (ncx CX P w K mg base N F f A outer s H E) [] (startF N vs ws) H { s with heap := h₁, toks := s.toks + (ps.zip us).length } := inv_startN S hr.hd e0 hl r C hns kp
  refine PySem.W.kla_codeExpr (wpAny_mono (hte.run [] _ (startF N vs ws) H Q I hq) (fun v s' hs => ?_) fun e s' hs => hs)
  obtain ⟨w', H', J, rv, q⟩ := hs
  exact ⟨w', H', J.os, J.bare, J.base, J.hok, rv, q⟩
end
end DL
namespace DL
open PySem L2 PySem.W
open PyProof.Rows (seqObj get?_update_seq listUpdate_at listItems_at seqEpoch_at size_push' ksk_rest ksk_fold ksk_tree ksk_t1)
open PyProof.Rows (seqObj get?_update_seq listUpdate_at listItems_at seqEpoch_at size_push' ksk_rest ksk_fold ksk_tree ksk_t1 ksk_s1 ksk_l1)
section
variable {X : Cx} {pins : List (Addr × Obj)} {σ : St} {H Z : Hp} {s : Shared}
/-- all turns, and what is behind them -/
theorem turns_okL {f : MA} {fa : Addr} {A : Around} {E : Value → Shared → Prop} (ht : ∀ (Hj Zj : Hp) (s' : Shared) (v : V) (u0 : Value) (d c : D), Inv X pins σ Hj s' → ExtP Z H Zj Hj → RelV v u0 → Rep X.K Zj v d → f [d] = some (.ok c) → wpAny (model X.prog X.w) A (call (.ref fa) [u0]) (EP X pins σ fun v' H' => ∃ Z', ExtP Zj Hj Z' H' ∧ Rep X.K Z' v' c) (fun _ _ => False) s')
    {a kS : Addr} {e1 : Nat} {us : List Value} {xs : List V} {ds ks : List D} (hka : kS ≠ a) (nS : H kS = none) (nA : H a = none) (rv : Vals xs us) (hx : RepA X.K Z xs ds) (hk : keysM f ds = some ks) (hZ : us.length ≤ sizeLine) (hst : X.s_0.heap.objs.size ≤ kS) (hex : X.ex = [])
    (hsp : ∀ k ∈ ks, shp k = true) (ok : sortOk (toPs ks) = true) (hu : ∀ k ∈ ks, A.units + (toP k).depth < cLine) {Q : VK} (p : PostP X.K Z H (.lst (sortBy ds ks)) Q) {P : PySem.Fin → Shared → Prop} (hP : ∀ s', EP X pins σ Q (.ref a) s' → P (.done (.ret .none)) s')
    (T : Turn X pins σ Z H a kS e1 ks 0 s) : wpAny (model X.prog X.w) A (ksk_rest a (.ref fa) false us.toArray e1 (.ref kS)) P E s := by
  have hkl := keysM_len hk
  have hxl := hx.length
  have hul : us.length = xs.length := rv.length.symm
  unfold ksk_rest
  refine wpAny_bind (wpAny_rule ?_)
  rw [List.forIn_toArray]
  refine wpAny_bind (ksk_fold (fun i s' => Turn X pins σ Z H a kS e1 ks i s') us 0 s T (fun j x s' hxj t => ?_) fun s' t => ?_)
  · rw [Nat.zero_add] at t ⊢
    obtain ⟨Hj, Zj, kA, e, kvs, I, xt, hS, hA, zS, zA, rk, rr⟩ := t.ex
    have hj : j < us.length := (List.getElem?_eq_some_iff.mp hxj).1
    obtain ⟨v, hv⟩ : ∃ v, xs[j]? = some v := ⟨_, List.getElem?_eq_getElem (by omega)⟩
    obtain ⟨d, hd, rd⟩ := hx.get' hv
    obtain ⟨u, hu1, ru⟩ := rv.get hv
    rw [hxj] at hu1
    cases hu1
    obtain ⟨c, hc, hf⟩ := keysM_at hk hd
    have hz : kA.size ≤ sizeLine := by
      have h1 : kA.size = kvs.length := by rw [L2.Vals.length rk]; simp
      have h2 := rr.length
      rw [List.length_take] at h2
      omega
    refine wpAny_bind (wpAny_attempt (wpAny_mono (ht Hj Zj _ v _ d c I xt ru (rd.mono xt.z) hf) (fun w s2 hw => ?_) fun _ _ z => z.elim))
    obtain ⟨wv, Hn, I2, rw2, Zn, xn, rn⟩ := hw
    have hS2 := xn.h _ _ hS
    have hA2 := xn.h _ _ hA
    have zS2 : Zn kS = none := by
      cases q : Zn kS with
      | none => rfl
      | some o =>
        rcases xn.zn kS (by rw [q]; simp) with z | z
        · exact absurd zS z
        · exact (Fr.no hS (fun _ e => nomatch e) z).elim
    have zA2 : Zn a = none := by
      cases q : Zn a with
      | none => rfl
      | some o =>
        rcases xn.zn a (by rw [q]; simp) with z | z
        · exact absurd zA z
        · exact (Fr.no hA (fun _ e => nomatch e) z).elim
    have nk := atS_at I2.hok hS2
    have sb := Heap.SameBut.update s2.heap kS (Obj.mapSeq (·.push w))
    obtain ⟨c2, hc2⟩ : ∃ c2, (s2.heap.update kS (Obj.mapSeq (·.push w))).get? kS = some (seqObj "list" (kA.push w) c2) := ⟨_, get?_update_seq nk (·.push w)⟩
    try dsimp only
    refine wpAny_bind (listUpdate_at nk rfl ?_ hz (Nat.le_trans (Nat.le_of_eq (Array.size_push ..)) (Nat.succ_le_succ hz)))
    have I3 := I2.write (x := kS) (e := kS) (o := atS kS (kA.push w) c2) (t' := s2.toks) (by rw [hS2]; trivial) (.inl rfl) (fun b u' hne q => (sb.2 b hne).trans q) ⟨_, hc2⟩ (atS_ok hc2)
    refine wpAny_pure ⟨rfl, ⟨upd Hn kS (atS kS (kA.push w) c2), Zn, kA.push w, c2, kvs ++ [wv], I3, ?_, upd_same, by rw [upd_ne hka.symm]; exact hA2, zS2, zA2, ?_, ?_⟩⟩
    · have x2 := xt.trans xn
      exact ⟨x2.z, fun b u' q => by rw [upd_ne (ne_of_none q nS)]; exact x2.h b u' q, Same.outer x2.sub zS2, x2.zn⟩
    · have ea : (kA.push w).toList = kA.toList ++ [w] := by simp
      rw [ea]
      exact paired_app rk (.cons rw2 .nil)
    · have ek : ks.take (j + 1) = ks.take j ++ [c] := by rw [List.take_add_one, hc]; rfl
      rw [ek]
      exact (rr.mono xn.z).append (.cons rn .nil)
  · rw [Nat.zero_add] at t
    obtain ⟨Hj, Zj, kA, e, kvs, I, xt, hS, hA, zS, zA, rk, rr⟩ := t.ex
    rw [List.take_of_length_le (by omega)] at rr
    have nk := atS_at I.hok hS
    have na := atS_at I.hok hA
    obtain ⟨G, gk, gn, J⟩ := forget I hS hst hex
    try dsimp only
    refine wpAny_bind (listItems_at nk rfl ?_)
    have er := each_reads I xt.sub rk rr hsp
    have hal : AllAlike (ks.map toP) := by rw [← toPs_map]; exact sortOk_like ok
    have hso : Sortable (ks.map toP) := by rw [← toPs_map]; exact sortOk_sortable ok
    have hsz : kA.size = us.length := by
      have h1 : kA.size = kvs.length := by rw [L2.Vals.length rk]; simp
      have h2 := rr.length
      omega
    refine keyH_end (κ := dataKind s'.heap (ks.map toP)) (h₁ := G) (fun b o _ q => gk b o q) gn nk na hka (SortsAt.data er hal hso fun d hd => ?_) hsz hZ fun h' tk c kp n => ?_
    · obtain ⟨k0, hk0, rfl⟩ := List.mem_map.mp hd
      exact hu k0 hk0
    · have ko : KeyedOut false ((ds.zip ks).map fun p => toP p.2) us (PySem.W.sortVals (dataKind s'.heap (ks.map toP)) false kA.toList us) := by
        have e1 : (ds.zip ks).map (fun p => toP p.2) = ks.map toP := by
          rw [show (fun p : D × D => toP p.2) = toP ∘ Prod.snd from rfl, ← List.map_map, List.map_snd_zip (by omega)]
        rw [e1]
        exact ⟨s'.heap, kA.toList, hal, rfl, er⟩
      have eo := keyedOut_each (R := fun u (p : D × D) => ∃ v, RelV v u ∧ Rep X.K Zj v p.1) (fun p : D × D => toP p.2) ko (each_mk rv (hx.mono xt.z) hkl)
      obtain ⟨ov, o1, o2⟩ := each_vals (fun _ _ q => q) eo
      have hol : ov.length ≤ sizeLine := by
        have h1 := o2.length
        rw [List.length_map, List.length_mergeSort, List.length_zip] at h1
        omega
      have hAd : delH Hj kS a = some (atS a #[] e1) := by rw [delH_ne hka.symm]; exact hA
      have J2 := J.write (h' := h') (x := a) (e := a) (o := .lst ov) (t' := tk) (by rw [hAd]; trivial) (.inl rfl) (fun b u' hne q => kp b u' hne q) ⟨_, n⟩ ⟨hol, _, c, o1, n⟩
      refine hP _ ⟨.ref a, _, J2, rfl, p _ (upd Zj a (.lst ov)) _ ⟨?_, ?_, ?_, ?_⟩ (.lst (.inl upd_same) (o2.mono ?_))⟩
      · exact fun b u' q => by rw [upd_ne (ne_of_none (xt.z b u' q) zA)]; exact xt.z b u' q
      · exact fun b u' q => by rw [upd_ne (ne_of_none q nA), delH_ne (ne_of_none q nS)]; exact xt.h b u' q
      · intro b u' q
        by_cases z : b = a
        · rw [z, upd_same] at q ⊢; exact q
        · rw [upd_ne z] at q ⊢
          rw [delH_ne (ne_of_none q zS)]
          exact xt.sub b u' q
      · intro b q
        by_cases z : b = a
        · rw [z]; exact .inr (.inl nA)
        · rw [upd_ne z] at q; exact xt.zn b q
      · exact fun b u' q => by rw [upd_ne (ne_of_none q zA)]; exact q
/-- sorted(xs, key=f), f a def -/
theorem sortL_run {f : MA} {fa : Addr} (ht : ∀ (Hj Zj : Hp) (s' : Shared) (v : V) (u0 : Value) (d c : D), Inv X pins σ Hj s' → ExtP Z H Zj Hj → RelV v u0 → Rep X.K Zj v d → f [d] = some (.ok c) → wpAny (model X.prog X.w) X.A.in1.in1 (call (.ref fa) [u0]) (EP X pins σ fun v' H' => ∃ Z', ExtP Zj Hj Z' H' ∧ Rep X.K Z' v' c) (fun _ _ => False) s') (hr : Room 2 X.A) (hex : X.ex = []) (I : Inv X pins σ H s)
    {u : Value} {us : List Value} {xs : List V} {ds ks : List D} (sz : Same Z H) (hg : Goes X s u us) (rv : Vals xs us) (hz2 : us.length ≤ sizeLine) (hx : RepA X.K Z xs ds) (hk : keysM f ds = some ks) (hsp : ∀ k ∈ ks, shp k = true) (ok : sortOk (toPs ks) = true) {Q : VK} (p : PostP X.K Z H (.lst (sortBy ds ks)) Q) :
    wpAny (model X.prog X.w) X.A (call (.builtin "sorted") [u] [(Str.ofString "key", .ref fa)]) (EP X pins σ Q) X.xe s := by
  refine sorted_goes rfl hg hz2 (ksk_s1 _ _) (fun _ => ksk_l1 _ _) fun hb0 tk hk0 E' => ?_
  rw [ksk_t1]
  have I0 : Inv X pins σ H { s with heap := hb0, toks := tk } := I.kept hk0
  let a : Addr := hb0.objs.size
  let h0 := hb0.push (seqObj "list" us.toArray 0)
  have oa : h0.get? a = some (seqObj "list" us.toArray 0) := Heap.get?_push_size _ rfl
  have la : a < h0.objs.size := Heap.lt_size oa
  obtain ⟨e1, oa1⟩ : ∃ e1, (h0.update a (Obj.mapSeq fun _ => (#[] : Array Value))).get? a = some (seqObj "list" #[] e1) := ⟨_, get?_update_seq oa fun _ => #[]⟩
  let h1 := (h0.update a (Obj.mapSeq fun _ => (#[] : Array Value))).push (seqObj "tuple" us.toArray 0)
  have s1 : h1.objs.size = h0.objs.size + 1 := by show ((h0.update a _).push _).objs.size = _; rw [size_push', Heap.size_update]
  have keep1 : ∀ b u, hb0.get? b = some u → h1.get? b = some u := fun b u q => by
    have q0 : h0.get? b = some u := Heap.get?_push_of_some _ q
    have nb : b ≠ a := Nat.ne_of_lt (Heap.lt_size q)
    exact Heap.get?_push_of_some _ (by rw [Heap.get?_update_ne _ _ _ _ nb]; exact q0)
  have oa2 : h1.get? a = some (seqObj "list" #[] e1) := Heap.get?_push_of_some _ oa1
  have nA : H a = none := I0.hok.fresh (Nat.le_refl _)
  have J1 := I0.laid (h' := h1) (a := a) (o := atS a #[] e1) (t' := tk) keep1 (Nat.le_refl _) (atS_ok oa2)
  have nS1 : upd H a (atS a #[] e1) h1.objs.size = none := J1.hok.fresh (Nat.le_refl _)
  have hka : h1.objs.size ≠ a := by rw [s1]; exact Nat.ne_of_gt (Nat.lt_succ_of_lt la)
  have nS : H h1.objs.size = none := by rw [upd_ne hka] at nS1; exact nS1
  have oS : (h1.push (seqObj "list" #[] 0)).get? h1.objs.size = some (seqObj "list" #[] 0) := Heap.get?_push_size _ rfl
  have J2 := J1.laid (h' := h1.push (seqObj "list" #[] 0)) (a := h1.objs.size) (o := atS h1.objs.size #[] 0) (t' := tk) (fun b u q => Heap.get?_push_of_some _ q) (Nat.le_refl _) (atS_ok oS)
  have hst : X.s_0.heap.objs.size ≤ h1.objs.size := by
    have z1 : X.s_0.heap.objs.size ≤ hb0.objs.size := I0.sz
    have z2 : hb0.objs.size < h0.objs.size := la
    omega
  unfold ksk_tree
  refine wpAny_bind (listItems_at (s := { s with heap := h0, toks := tk }) oa rfl ?_)
  refine wpAny_bind (listUpdate_at (s := { s with heap := h0, toks := tk }) oa rfl ?_ (by rw [List.size_toArray]; exact hz2) (Nat.zero_le _))
  refine wpAny_bind (seqEpoch_at oa1 rfl ?_)
  refine wpAny_bind (wpAny_newTuple ?_ hz2)
  refine wpAny_bind (wpAny_newList ?_ (Nat.zero_le _))
  refine wpAny_holding ?_
  exact turns_okL (s := { s with heap := h1.push (seqObj "list" #[] 0), toks := tk }) ht hka nS nA rv hx hk hz2 hst hex hsp ok (fun k0 h0 => by
      have z := hsp k0 h0
      unfold shp at z
      rw [Bool.and_eq_true] at z
      have y := of_decide_eq_true z.2
      have := hr.un
      show X.A.units + 1 + 1 + (toP k0).depth < cLine
      have dd : (toP k0).depth = depD k0 := depD_dep k0 z.1
      rw [dd]
      omega) p (fun s' q => ⟨rfl, q⟩)
    ⟨_, Z, #[], 0, [], J2, ⟨Same.refl _, fun b u q => by rw [upd_ne (ne_of_none q nS), upd_ne (ne_of_none q nA)]; exact q, Same.outer (Same.outer sz (none_of sz nA)) (none_of sz nS), fun b q => .inl q⟩, upd_same, by rw [upd_ne hka.symm]; exact upd_same, none_of sz nS, none_of sz nA, .nil, by rw [List.take_zero]; exact .nil⟩
end
end DL
namespace DL
open PySem PySem.Spec L2 LamX NdefX
/-! ### sorted(e, key=lambda p: body) -/
def tLam (P : Addr) (nm : Str) (mk : Addr → NF) (body : Expr) : TE := fun σ H Q => ∃ ps : Array Value, H P = some (.tbl ps) ∧ TriplesOk ps.toList ∧ (∀ (pos : Pos) (cv : Value), codeAmong pos ps.toList = some cv → ∃ c, cv = .ref c ∧ H c = some (CodeO c nm)) ∧
  ∀ (f c' : Addr) (H1 : Hp) (ps' : Array Value), (∀ b o, b ≠ P → H b = some o → H1 b = some o) → (∀ b, H1 b = Option.none → H b = Option.none) → H1 P = some (.tbl ps') → TriplesOk ps'.toList →
    (∀ (pos : Pos) (cv : Value), codeAmong pos ps'.toList = some cv → codeAmong pos ps.toList = some cv ∨ cv = .ref c') → H f = none → f ≠ c' → (H c' = none ∨ ∃ pos, codeAmong pos ps.toList = some (.ref c')) → H1 f = some (LamO f (mk c') body) → H1 c' = some (CodeO c' nm) → Q (.ref f) H1
abbrev lamF (X : Cx) (nm : Str) (params : Arguments) (scope : Scope) (c' : Addr) : NF := ⟨"<lambda>", nm, params, [], scope, cloFrom X.env.cells scope.names [], c'⟩
theorem pe_lam {X : Cx} {nm : Str} {c P : Addr} {params : Arguments} {body : Expr} {scope : Scope} {pos : Pos} (TB : TabB X.base X.mg c P) (hcode : X.env.code = .ref c) (hn : nm = X.env.qual ++ "<lambda>") (hdef : defaultsOf params X.env = ([], []))
    (hfree : ∀ y ∈ scope.names, y.2 = .free → X.env.scope.names.lookup y.1 = some .cell ∨ X.env.scope.names.lookup y.1 = some .free) : PE X (.Lambda params body scope pos) (tLam P nm (lamF X nm params scope) body) := ⟨fun pins s σ H Q I h => by
  obtain ⟨ps, hP, ht, ha, h⟩ := h
  have hfr : ∀ y ∈ scope.names, y.2 = .free → ∃ c, X.env.cells.lookup y.1 = some c := fun y hy e => (hfree y hy e).elim (fun z => I.ok.has _ (.inl z)) fun z => I.ok.has _ (.inr z)
  exact lam_make3 I TB hcode hn hP ht ha hdef hfr fun f c' H1 s' ps' I1 k1 k2 k3 k4 k5 k6 k7 k8 k9 k10 => ⟨.ref f, H1, I1, rfl, h f c' H1 ps' k1 k2 k3 k4 k5 k6 k7 k8 k9 k10⟩⟩
def lamK (n : Nat) (em : EM) : MA := fun ds => match em ⟨slotsOf n (ds.map .p), []⟩ with
  | some (.ok (.p d) _) => some (.ok d)
  | _ => none
section
variable {P : Program} {w : World} {K : PySem.W.Frag} {mg : Str → Option Value} {base : Heap} {N : List Str} {p : Str} {F : NF} {f : Addr} {k : Nat} {body : Expr} {em : EM}
theorem lamA (S : NScope N [p] [] F.scope) (hb : ∀ (pm ctv : Value) (us : List Value), us.length = 1 → bindArgs (PySem.W.kla_fn F.name F.qual F.params body F.scope F.cl pm (.ref F.c) ctv) ⟨us, []⟩ = pure ([p].zip us))
    (hbody : ∀ (A : Around) (outer : List Env) (s : Shared) (H : Hp) (E : XK), Room k (A.deeper (envF F f s.heap.objs.size)) → ∃ t, DE K (ncx (L2.CX P w) P w K mg base N F f A outer s H E) WF body t em) :
    LOk P w K mg base (L2.CX P w) (k + 1) f F body [p] [] (fun _ => spA K 1 (lamK N.length em)) := by
  refine lok_of S hb (fun ws vs H Q E h => h.1) fun A outer s H vs ws Q E hr hl hsp => ?_
  obtain ⟨hl2, Z, ds, r, sub, rp, e, q⟩ := hsp
  obtain ⟨t, b⟩ := hbody A outer s H E hr
  refine ⟨t, b.pe, ?_⟩
  have w0 : Wf K Z H [] [] := ⟨sub, rfl, List.nodup_nil, (by simp), fun n a o h => by simp at h⟩
  obtain rfl : ws = [] := List.length_eq_zero_iff.mp hl
  have es : startF N vs [] = L2.start N vs := by unfold startF L2.start; simp
  rw [es]
  unfold lamK at e
  cases z : em ⟨slotsOf N.length (ds.map .p), []⟩ with
  | none => rw [z] at e; cases e
  | some r0 =>
    rw [z] at e
    cases r0 with
    | ex c fs M => cases e
    | ok d M =>
      cases d with
      | o n => cases e
      | p d =>
        cases e
        refine b.so.ok (L2.start N vs) H _ Z [] _ _ w0 (start_rep (allP_map rp)) z fun v Z' H' I' w' x' r' => ?_
        exact q v Z' H' ⟨x'.z, fun a o q => x'.fr a o q (by simp), w'.sub, fun a q => by
          rcases x'.zn a q with k | k | k
          · exact .inl k
          · exact .inr k
          · cases k⟩ r'
end
section
variable {X : Cx} {pins : List (Addr × Obj)} {σ : L2.St} {H : Hp} {s : Shared}
theorem lam_turn {k : Nat} {kf : MA} {f : Addr} {F : NF} {p : Str} {body : Expr} {A : Around} (Fn : LOk X.prog X.w X.K X.mg X.base (L2.CX X.prog X.w) k f F body [p] [] (fun _ => spA X.K 1 kf)) (hcl : F.cl = []) (hr : Room k A) (I : Inv X pins σ H s)
    (he : Env0 X.prog X.w X.K X.mg X.base A X.stack s H) (hf : H f = some (LamO f F body)) (hc : H F.c = some (CodeO F.c F.qual)) {v : V} {u : Value} {d c : D} {Z : Hp} (rv : RelV v u) (sz : Same Z H) (hv : Rep X.K Z v d) (hk : kf [d] = some (.ok c)) :
    wpAny (model X.prog X.w) A (call (.ref f) [u]) (EP X pins σ fun v' H' => ∃ Z', ExtP Z H Z' H' ∧ Rep X.K Z' v' c) (fun _ _ => False) s := by
  have hsp : spA X.K 1 kf [v] H (fun v' H' => ∃ Z', ExtP Z H Z' H' ∧ Rep X.K Z' v' c) (fun _ _ _ => False) := ⟨rfl, Z, [d], .ok c, sz, .cons hv .nil, hk, fun v' Z' H' x r => ⟨Z', x, r⟩⟩
  have C : CellsAt F.cl [] [] s.heap H := ⟨rfl, fun y c e => (by rw [hcl] at e; cases e), fun x y c e => (by rw [hcl] at e; cases e), fun i y e => (by simp at e)⟩
  refine wpAny_call (codeAny_mono (Fn.run A X.stack s H [u] [v] [] _ (fun _ _ _ => False) hr he hf hc C (.cons rv .nil) hsp) fun r s' hq => ?_)
  cases r with
  | error e =>
    obtain ⟨_, _, _, _, _, _, _, _, _, _, _, _, z⟩ := hq
    exact z
  | ok fl =>
    cases fl with
    | ret u => exact I.after hq
    | next => exact False.elim hq
    | brk => exact False.elim hq
    | cont => exact False.elim hq
end
def rSortL (K : PySem.W.Frag) (nm : Str) (mk : Addr → NF) (body : Expr) (kf : MA) : List V → List V → Hp → VK → Prop := fun vs zs H Q => ∃ (f c' : Addr) (x : V) (Z : Hp) (d c : D), zs = [.ref f] ∧ vs = [x] ∧ H f = some (LamO f (mk c') body) ∧ H c' = some (CodeO c' nm) ∧ Same Z H ∧ Rep K Z x d ∧ sortKD kf d = some c ∧ PostP K Z H c Q
section
variable {X : Cx}
theorem cr_sortL {k : Nat} {nm p : Str} {params : Arguments} {body : Expr} {scope : Scope} {kf : MA} (Fn : ∀ f c', LOk X.prog X.w X.K X.mg X.base (L2.CX X.prog X.w) k f (lamF X nm params scope c') body [p] [] (fun _ => spA X.K 1 kf)) (hcl : cloFrom X.env.cells scope.names [] = []) (hr : Room (k + 2) X.A) (hex : X.ex = []) (hcalm : X.calm = true) :
    CallRK X (.builtin "sorted") [Str.ofString "key"] (rSortL X.K nm (lamF X nm params scope) body kf) := by
  intro pins s σ H vs zs us ws Q I r rz h
  obtain ⟨f, c', x, Z, d, c, rfl, rfl, hf, hc, sz, hx, hd, p⟩ := h
  cases r with
  | cons r1 r2 =>
  cases r2
  cases rz with
  | cons z1 z2 =>
  cases z2
  cases z1
  unfold sortKD at hd
  split at hd
  · split at hd
    · rename_i ks hk
      split at hd
      · rename_i hcc
        cases hd
        rw [Bool.and_eq_true] at hcc
        cases hx with
        | lst h1 h2 =>
          cases r1
          obtain ⟨us, rv, hL, hz⟩ := I.list (.inl (same_rd sz h1))
          have hz2 : us.length ≤ sizeLine := by rw [← rv.length]; exact hz
          refine sortL_run (f := kf) (fun Hj Zj s' v u0 d0 c0 Ij xj rv rd hk0 => ?_) (hr.mono (by omega)) hex I sz (goes_list hL.isList hz2) rv hz2 h2 hk (fun k0 h0 => List.all_eq_true.mp hcc.1 k0 h0) hcc.2 p
          exact lam_turn (Fn f c') hcl (Room.in1 (Room.in1 hr)) Ij (Ij.env0.in1.in1) (xj.h _ _ hf) (xj.h _ _ hc) rv xj.sub rd hk0
      · cases hd
    · cases hd
  · split at hd
    · rename_i ks hk
      split at hd
      · rename_i hcc
        cases hd
        rw [Bool.and_eq_true] at hcc
        obtain ⟨us, xs, Z', hg, rv, xp, hx', hz2⟩ := goes_keys hcalm I sz hx r1
        refine sortL_run (f := kf) (fun Hj Zj s' v u0 d0 c0 Ij xj rv rd hk0 => ?_) (hr.mono (by omega)) hex I xp.sub hg rv hz2 hx' hk (fun k0 h0 => List.all_eq_true.mp hcc.1 k0 h0) hcc.2 (fun v Z2 H2 x2 r2 => p v Z2 H2 (xp.trans x2) r2)
        exact lam_turn (Fn f c') hcl (Room.in1 (Room.in1 hr)) Ij (Ij.env0.in1.in1) (xj.h _ _ hf) (xj.h _ _ hc) rv xj.sub rd hk0
      · cases hd
    · cases hd
  · cases hd
end
def tblAt (M : List O) (i : Nat) (P : Addr) (nm : Str) : Bool := match M[i]? with
  | some (.tbl P' q) => decide (P' = P) && decide (q = nm)
  | _ => false
noncomputable def mSortL (i : Nat) (P : Addr) (nm : Str) (kf : MA) (m : EM) : EM := bnd m (pur fun d s => if tblAt s.m i P nm = true then ret (sortKD kf d) s else none)
theorem tbl_at {K : PySem.W.Frag} {Z H : Hp} {I : List Addr} {M : List O} {i : Nat} {P : Addr} {nm : Str} (w : Wf K Z H I M) (h : tblAt M i P nm = true) : I[i]? = some P ∧ M[i]? = some (.tbl P nm) := by
  unfold tblAt at h
  split at h
  · rename_i P' q e
    rw [Bool.and_eq_true, decide_eq_true_eq, decide_eq_true_eq] at h
    obtain ⟨rfl, rfl⟩ := h
    refine ⟨?_, e⟩
    have hl := (List.getElem?_eq_some_iff.mp e).1
    have hi : I[i]? = some (I[i]'(by rw [w.len]; exact hl)) := List.getElem?_eq_getElem (by rw [w.len]; exact hl)
    obtain ⟨_, r, _⟩ := w.ob i _ _ hi e (by intro z; cases z)
    rw [hi, r]
  · cases h
/-- a lambda is made: the heap behind it -/
theorem lam_wf {K : PySem.W.Frag} {Z H H1 : Hp} {I : List Addr} {M : List O} {i : Nat} {P f c' : Addr} {nm : Str} {ps ps' : Array Value} {F : NF} {body : Expr} (w : Wf K Z H I M) (hi : I[i]? = some P) (hm : M[i]? = some (.tbl P nm)) (hP : H P = some (.tbl ps)) (hz : ∀ (pos : Pos) (cv : Value), codeAmong pos ps.toList = some cv → ∃ c, cv = .ref c ∧ Z c = some (CodeO c nm))
    (k1 : ∀ b o, b ≠ P → H b = some o → H1 b = some o) (k2 : ∀ b, H1 b = Option.none → H b = Option.none) (k3 : H1 P = some (.tbl ps')) (k4 : TriplesOk ps'.toList) (k5 : ∀ (pos : Pos) (cv : Value), codeAmong pos ps'.toList = some cv → codeAmong pos ps.toList = some cv ∨ cv = .ref c') (k6 : H f = none) (k6' : f ≠ c')
    (k7 : H c' = none ∨ ∃ pos, codeAmong pos ps.toList = some (.ref c')) (k8 : H1 f = some (LamO f F body)) (k9 : H1 c' = some (CodeO c' nm)) : ∃ Z', Wf K Z' H1 I M ∧ Ext Z H I Z' H1 I ∧ Z' f = some (LamO f F body) ∧ Z' c' = some (CodeO c' nm) := by
  have hPi : P ∈ I := List.mem_of_getElem? hi
  have nfP : f ≠ P := fun z => by rw [z, hP] at k6; cases k6
  have zc : Z c' = none ∨ Z c' = some (CodeO c' nm) := by
    rcases k7 with k7 | ⟨pos, k7⟩
    · exact .inl (none_of w.sub k7)
    · obtain ⟨c, e, h⟩ := hz pos _ k7
      cases e; exact .inr h
  have ncP : c' ≠ P := fun z => by
    rw [z, k3] at k9
    exact codeO_ne (c := P) (q := nm) ps' (Option.some.inj k9).symm
  have zf : Z f = none := none_of w.sub k6
  let Z' : Hp := upd (upd Z c' (CodeO c' nm)) f (LamO f F body)
  have sZ : Same Z Z' := fun b o e => by
    show upd (upd Z c' (CodeO c' nm)) f (LamO f F body) b = some o
    rw [upd_ne (ne_of_none e zf)]
    by_cases q : b = c'
    · subst q
      rcases zc with z | z
      · rw [z] at e; cases e
      · rw [upd_same, ← e, z]
    · rw [upd_ne q]; exact e
  have sub : Same Z' H1 := fun b o e => by
    have e : upd (upd Z c' (CodeO c' nm)) f (LamO f F body) b = some o := e
    by_cases q : b = f
    · subst q; rw [upd_same] at e; rw [← e]; exact k8
    · rw [upd_ne q] at e
      by_cases q2 : b = c'
      · subst q2; rw [upd_same] at e; rw [← e]; exact k9
      · rw [upd_ne q2] at e
        refine k1 b o (fun z => ?_) (w.sub b o e)
        have := (w.ob i P _ hi hm (by intro z; cases z)).1
        rw [z, this] at e; cases e
  have fin : ∀ a, Z' a ≠ none → Z a ≠ none ∨ Fr H a ∨ a ∈ I := fun a q => by
    have q : upd (upd Z c' (CodeO c' nm)) f (LamO f F body) a ≠ none := q
    by_cases z : a = f
    · rw [z]; exact .inr (.inl (.inl k6))
    · rw [upd_ne z] at q
      by_cases z2 : a = c'
      · rw [z2]
        rcases k7 with k7 | ⟨pos, k7⟩
        · exact .inr (.inl (.inl k7))
        · obtain ⟨c, e, h⟩ := hz pos _ k7
          cases e
          exact .inl (by rw [h]; simp)
      · rw [upd_ne z2] at q; exact .inl q
  have x : Ext Z H I Z' H1 I := ⟨sZ, ⟨[], by simp⟩, fun b o e n => k1 b o (fun z => n (by rw [z]; exact hPi)) e, fun _ h => .inl h, fin, fun b e q => e (k2 b q)⟩
  have znone : ∀ a ∈ I, Z a = none → Z' a = none := fun a ha e => by
    cases q : Z' a with
    | none => rfl
    | some o =>
      have q' : upd (upd Z c' (CodeO c' nm)) f (LamO f F body) a = some o := q
      have nf : a ≠ f := fun z => absurd k6 (by rw [← z]; exact w.tr a ha)
      rw [upd_ne nf] at q'
      by_cases z2 : a = c'
      · rcases k7 with k7 | ⟨pos, k7⟩
        · exact absurd k7 (by rw [← z2]; exact w.tr a ha)
        · obtain ⟨c, e2, h⟩ := hz pos _ k7
          cases e2
          rw [← z2, e] at h; cases h
      · rw [upd_ne z2, e] at q'; cases q'
  refine ⟨Z', ⟨sub, w.len, w.nd, fun a ha q => w.tr a ha (k2 a q), fun n a o h1 h2 h3 => ?_⟩, x, upd_same, ?_⟩
  · obtain ⟨q1, q2⟩ := w.ob n a o h1 h2 h3
    have hai : a ∈ I := List.mem_of_getElem? h1
    refine ⟨znone a hai q1, ?_⟩
    by_cases hn : n = i
    · subst hn
      rw [hi] at h1; cases h1
      rw [hm] at h2; cases h2
      refine ⟨rfl, ps', k3, k4, fun pos cv hcv => ?_⟩
      rcases k5 pos cv hcv with z | z
      · obtain ⟨c, e, h⟩ := hz pos cv z
        exact ⟨c, e, sZ _ _ h⟩
      · exact ⟨c', z, by show upd (upd Z c' (CodeO c' nm)) f (LamO f F body) c' = _; rw [upd_ne (Ne.symm k6'), upd_same]⟩
    · have naP : a ≠ P := fun z => by
        obtain ⟨l1, e1⟩ := List.getElem?_eq_some_iff.mp h1
        obtain ⟨l2, e2⟩ := List.getElem?_eq_some_iff.mp hi
        exact hn ((List.getElem_inj w.nd).mp (e1.trans (z.trans e2.symm)))
      refine q2.ext x ?_
      cases q : H a with
      | none => exact absurd q (w.tr a hai)
      | some u => exact k1 a u naP q
  · show upd (upd Z c' (CodeO c' nm)) f (LamO f F body) c' = _
    rw [upd_ne (Ne.symm k6'), upd_same]
section
variable {K : PySem.W.Frag} {X : Cx} {W : WX} {e : Expr} {pos p p2 kp lpos : Pos}
theorem de_sortL {k kk : Nat} {te : TE} {m em : EM} {params : Arguments} {body : Expr} {scope : Scope} {N : List Str} {x nm : Str} {c P : Addr} (i : Nat) (TB : TabB X.base X.mg c P) (hcode : X.env.code = .ref c) (hr : Room kk X.A) (hkk : k + 3 ≤ kk) (hs : X.mg "sorted" = none) (h : DE K X W e te m)
    (S : NScope N [x] [] scope) (hb : ∀ (cl : List (Str × Addr)) (c' : Addr) (pm ctv : Value) (us : List Value), us.length = 1 → bindArgs (PySem.W.kla_fn "<lambda>" nm params body scope cl pm (.ref c') ctv) ⟨us, []⟩ = pure ([x].zip us))
    (hbody : ∀ (f c' : Addr) (A : Around) (outer : List Env) (s : Shared) (H : Hp) (E : XK), Room k (A.deeper (envF (lamF X nm params scope c') f s.heap.objs.size)) → ∃ t, DE K (ncx (L2.CX X.prog X.w) X.prog X.w K X.mg X.base N (lamF X nm params scope c') f A outer s H E) WF body t em)
    (hn : nm = X.env.qual ++ "<lambda>" := by rfl) (hdef : defaultsOf params X.env = ([], []) := by rfl) (hcl : cloFrom X.env.cells scope.names [] = [] := by rfl) (hfree : ∀ y ∈ scope.names, y.2 = .free → X.env.scope.names.lookup y.1 = some .cell ∨ X.env.scope.names.lookup y.1 = some .free := by intro y hy e; simp at hy; rcases hy with rfl | hy <;> simp_all)
    (hgs : Gl X "sorted" := by rfl) (hex : X.ex = [] := by rfl) (hcalm : X.calm = true := by rfl)
    (hs1 : starEach [e] X.env = (false, eval e X.env) :: starEach [] X.env := by rfl) (he : backTo pos (starEach [e] X.env) = (false, eval e X.env) :: backTo pos (starEach [] X.env) := by rfl) (hpl : (backTo pos (starEach [e] X.env)).any (·.1) = false := by rfl)
    (hall : (backToKw pos (keywordEach [⟨some "key", .Lambda params body scope lpos, kp⟩] X.env)).all (·.1.isSome) = true := by rfl) (hnone : (backToKw pos (keywordEach [⟨some "key", .Lambda params body scope lpos, kp⟩] X.env)).any (·.1.isNone) = false := by rfl) (hks : (backToKw pos (keywordEach [⟨some "key", .Lambda params body scope lpos, kp⟩] X.env)).filterMap (·.1) = [Str.ofString "key"] := by rfl) :
    DE K X W (.Call (.Name "sorted" p) [e] [⟨some "key", .Lambda params body scope lpos, kp⟩] pos) (tCKw (rSortL K nm (lamF X nm params scope) body (lamK N.length em)) (tCons te tNil) (tCons (tLam P nm (lamF X nm params scope) body) tNil)) (mSortL i P nm (lamK N.length em) m) := by
  have k0 := h.k
  subst k0
  have Fn : ∀ f c', LOk X.prog X.w X.K X.mg X.base (L2.CX X.prog X.w) (k + 1) f (lamF X nm params scope c') body [x] [] (fun _ => spA X.K 1 (lamK N.length em)) := fun f c' => lamA S (hb _ c') (hbody f c')
  refine ⟨rfl, pe_callBK (cr_sortL Fn hcl (hr.mono hkk) hex hcalm) hgs hs rfl (pa_cons h.pe pa_nil hs1) (pk_cons (pe_lam TB hcode hn hdef hfree) pk_nil) (by decide) (by decide) he hpl hall hnone hks, ⟨fun σ H s Z I r0 Q w rs e1 p1 => ?_⟩⟩
  refine h.so.bnd w rs e1 p1.x fun d v M1 Z1 H1 I1 w1 rs1 x1 q1 e2 => ?_
  obtain ⟨d, rfl, e2⟩ := pur_ok e2
  have e2 : (if tblAt M1 i P nm = true then ret (sortKD (lamK N.length em) d) ⟨s.l, M1⟩ else none) = some r0 := e2
  split at e2
  · rename_i htb
    obtain ⟨c0, hc, rfl⟩ := ret_ok e2
    obtain ⟨hi, hm⟩ := tbl_at w1 htb
    obtain ⟨_, _, ps, hP, ht, hz⟩ := w1.ob i P _ hi hm (by intro z; cases z)
    refine ⟨ps, hP, ht, fun pos cv hcv => ?_, fun f c' H2 ps' k1 k2 k3 k4 k5 k6 k6' k7 k8 k9 => ?_⟩
    · obtain ⟨c1, e3, e4⟩ := hz pos cv hcv
      exact ⟨c1, e3, w1.sub _ _ e4⟩
    · obtain ⟨Z2, w2, x2, f2, c2⟩ := lam_wf w1 hi hm hP hz k1 k2 k3 k4 k5 k6 k6' k7 k8 k9
      exact ⟨f, c', v, Z2, d, c0, rfl, rfl, k8, k9, w2.sub, Rep.mono x2.z q1, hc, PostP.of w2 ((p1.mono x1).mono x2)⟩
  · cases e2
end
end DL
namespace DL
open PySem PySem.Spec PyProof.Rows L2 LamX NdefX
/-! ### the end of a law whose defs make lambdas: tables of code objects -/
def tbls : List Addr → List Str → List O
  | P :: Ps, q :: qs => .tbl P q :: tbls Ps qs
  | _, _ => []
theorem tbls_len : ∀ (Ps : List Addr) (qs : List Str), Ps.length = qs.length → (tbls Ps qs).length = Ps.length
  | [], _, _ => by cases ‹List Str› <;> rfl
  | _ :: _, [], h => by cases h
  | P :: Ps, q :: qs, h => by
    show (tbls Ps qs).length + 1 = Ps.length + 1
    rw [tbls_len Ps qs (by simpa using h)]
theorem tbls_at : ∀ {Ps : List Addr} {qs : List Str} {n : Nat} {b : Addr} {o : O}, Ps[n]? = some b → (tbls Ps qs)[n]? = some o → ∃ q, o = .tbl b q
  | [], _, _, _, _, h, _ => by simp at h
  | _ :: _, [], _, _, _, _, h => by simp [tbls] at h
  | P :: Ps, q :: qs, 0, b, o, h1, h2 => by
    simp at h1; simp [tbls] at h2
    exact ⟨q, by rw [← h1, h2]⟩
  | P :: Ps, q :: qs, n + 1, b, o, h1, h2 => tbls_at (Ps := Ps) (qs := qs) (n := n) (by simpa using h1) (by simpa [tbls] using h2)
section
variable {P : Program} {w : World} {K : PySem.W.Frag} {mg : Str → Option Value} {base : Heap} {x qual : Str} {st : Stmt} {f a : Addr} {fd : FuncData} {N : List Str} {k : Nat}
/-- from the entry on -/
theorem run_topT {m : SM} {cs : List (Addr × Addr)} {nms : List Str} {s₁ : Shared} {H : Hp} {ns : List Int} {p : Str} (F : Fun K x qual st f fd) (Sc : FnScope N [p] (defScope st)) (hr : Room (k + 1) callerA) (body : TopB P w K mg base N qual st f k m)
    (e0 : Env0 P w K mg base callerA [] s₁ H) (hb : BindsTo s₁ fd ⟨[.ref a], []⟩ [(p, .ref a)]) (hH : ∀ p ∈ cs, H p.2 = some (.tbl #[])) (hS : SqL K H a (ns.map V.int)) (hO : ∀ b, H b = none ∨ b ∈ cs.map (·.2) ∨ ∃ o xs, H b = some (.frz o (.lst xs))) (aT : a ∉ cs.map (·.2)) (hT : ∀ p ∈ cs, s₁.heap.get? p.2 = some { cls := .none, data := .fields #[] }) (C : ∀ p ∈ cs, PySem.W.CodeHd s₁.heap p.1 p.2) (nd : (cs.map (·.2)).Nodup) (hln : cs.length = nms.length) (good : ∃ s, m ⟨slotsOf N.length ([D.scr (ns.map .int)].map .p), tbls (cs.map (·.2)) nms⟩ = some (.rt (.p (.bl true)), s)) :
    codeAny (model P w) callerA (.call (.ref f) ⟨[.ref a], []⟩) (Told s₁) s₁ := by
  obtain ⟨oc, od, kV, doc, pm, an, cdv, ct, osl, rfl, lk, hcd⟩ := F.ex
  have inS : ∀ b o, base.get? b = some o → s₁.heap.get? b = some o := fun b o q => (e0.bs b o q).1
  have KS : K.In s₁.heap := e0.mod.kin.keeps inS
  have NL : s₁.heap.NoLimit := e0.mod.nolimit.keeps inS
  refine codeAny_mono (R := CR (L2.CX P w) [] P w H s₁ (fun v _ => v = V.bl true) (fun _ _ _ => False)) ?_ fun r s' h => ?_
  rotate_left
  · cases r with
    | error e =>
      obtain ⟨_, _, _, _, _, _, _, _, _, _, _, _, z⟩ := (show L2.CX P w [] H s₁ (fun _ _ _ => False) e s' from h)
      exact z.elim
    | ok fl =>
      cases fl with
      | ret u =>
        obtain ⟨v, H', os, bare, un, hok, rv, e⟩ := h
        have e : v = V.bl true := e
        subst e
        obtain rfl : u = Value.bool true := rv
        have key : ∀ b o, b ∉ cs.map (·.2) → s₁.heap.get? b = some o → s'.heap.get? b = some o := fun b o nb e => by
          rcases hO b with z | z | ⟨ob, xs, z⟩
          · exact un.keep b o e z (by intro q; exact absurd (show b ∈ ([] : List Addr) from q) (by simp)) (by simp)
          · exact absurd z nb
          · obtain ⟨e1, _⟩ := e0.hok b _ z
            obtain ⟨e2, _⟩ := hok b _ (un.frzs b ob _ z)
            rw [e] at e1; cases e1
            exact e2
        have grown : ∀ p ∈ cs, ∃ more : Array Value, s'.heap.get? p.2 = some { cls := .none, data := .fields more } := fun p hp => by
          obtain ⟨more, z⟩ := un.tbls p.2 #[] (hH p hp)
          exact ⟨_, hok p.2 _ z⟩
        refine ⟨rfl, ⟨fun b o e => ?_, fun b o e => ?_⟩, os, bare⟩
        · by_cases hb : b ∈ cs.map (·.2)
          · obtain ⟨p, hp, ep⟩ := List.mem_map.mp hb
            obtain ⟨more, hm⟩ := grown p hp
            rw [← ep] at e ⊢
            rw [hT p hp] at e
            cases e
            exact .inr (.inl ⟨((C p hp).tab (hT p hp)).isCodeTable, rfl, #[], more, rfl, by rw [Array.empty_append]; exact hm⟩)
          · exact .inl (key b o hb e)
        · by_cases hb : b ∈ cs.map (·.2)
          · obtain ⟨p, hp, ep⟩ := List.mem_map.mp hb
            obtain ⟨more, hm⟩ := grown p hp
            rw [← ep]
            exact ⟨_, hm⟩
          · exact ⟨o, key b o hb e⟩
      | next => exact False.elim h
      | brk => exact False.elim h
      | cont => exact False.elim h
  -- the frame is made, the script bound
  refine PySem.codeAny_call_function hr.depth (KS _ _ lk) rfl Sc.co Sc.gen rfl (PySem.W.codeRec_of KS hcd) (hb _ _ _ _ ?_)
  refine PySem.wpAny_newFunctionEnv_cells Sc.kind (fun y hy => ?_) fun env he s2 made => ?_
  · obtain ⟨n, v⟩ := y
    rcases Sc.par n (List.of_mem_zip (l₁ := [p]) (l₂ := [Value.ref a]) hy).1 with q | q
    · exact .inl q
    · exact .inr ⟨q, PySem.W.cellsFrom_some _ _ _ (.inl q)⟩
  subst he
  refine ⟨NL.keeps made.toInCall.keep, PySem.codeAny_func ?_⟩
  obtain ⟨t, d⟩ := body cdv s₁ H (fun _ _ _ => False) (hr.deeper _)
  have I := inv_start (CX := L2.CX P w) (E := fun _ _ _ => False) Sc hr.hd e0 (vs := [.ref a]) rfl (.cons rfl .nil) made
  have q : t { nx := fun _ H' => (fun v (_ : Hp) => v = V.bl true) .non H', rt := fun v _ => v = V.bl true } (L2.start N [.ref a]) H := by
    let Z0 : Hp := fun b => if b ∈ cs.map (·.2) then none else H b
    have w0 : Wf K Z0 H (cs.map (·.2)) (tbls (cs.map (·.2)) nms) := by
      refine ⟨fun b o e => ?_, by rw [tbls_len _ _ (by rw [List.length_map]; exact hln)], nd, fun b hb => ?_, fun n b o h1 h2 h3 => ?_⟩
      · have e : (if b ∈ cs.map (·.2) then none else H b) = some o := e
        split at e
        · cases e
        · exact e
      · obtain ⟨p, hp, rfl⟩ := List.mem_map.mp hb
        rw [hH p hp]; simp
      · have hb : b ∈ cs.map (·.2) := List.mem_of_getElem? h1
        refine ⟨if_pos hb, ?_⟩
        obtain ⟨p, hp, rfl⟩ := List.mem_map.mp hb
        obtain ⟨q, rfl⟩ := tbls_at h1 h2
        refine ⟨rfl, #[], hH p hp, trivial, fun pos cv z => ?_⟩
        have z : codeAmong pos [] = some cv := z
        simp [codeAmong] at z
    have hS0 : SqL K Z0 a (ns.map V.int) := by
      rcases hS with z | z
      · refine .inl ?_
        have ea : Z0 a = H a := if_neg aT
        unfold Rd at z ⊢
        rw [ea]; exact z
      · exact .inr z
    obtain ⟨s1, z⟩ := good
    refine d.so.ok (L2.start N [.ref a]) H _ Z0 (cs.map (·.2)) _ _ w0 (start_rep (.cons (show RepV K Z0 (cs.map (·.2)) (.ref a) (.p (.scr (ns.map .int))) from Rep.scr hS0 (intsRep ns)) .nil)) z ?_
    exact fun v Z' H' I' w' x' r' => by cases r'; rfl
  refine wpAny_mono (d.ps.run [] s2 (L2.start N [.ref a]) H _ I q) (fun fl s' h => ?_) fun e s' h => ?_
  · cases fl with
    | ret u =>
      obtain ⟨v, σ', H', J, rv, e⟩ := h
      exact ⟨v, H', J.os, J.bare, J.base, J.hok, rv, e⟩
    | next =>
      obtain ⟨σ', H', J, e⟩ := h
      cases e
    | brk =>
      obtain ⟨_, _, _, e⟩ := h
      exact False.elim e
    | cont =>
      obtain ⟨_, _, _, e⟩ := h
      exact False.elim e
  · exact h
end
/-! ### a def that makes lambdas: its code object is known -/
section
variable {P : Program} {w : World} {K : PySem.W.Frag} {mg : Str → Option Value} {base : Heap} {x qual : Str} {st : Stmt} {f : Addr} {fd : FuncData} {N ps : List Str} {k : Nat}
theorem Fun.okC {sp : Sp} (F : Fun K x qual st f fd) (S : FnScope N ps (defScope st)) (len : ∀ vs H Q E, sp vs H Q E → vs.length = ps.length)
    (hbody : ∀ (A : Around) (outer : List Env) (s : Shared) (H : Hp) (vs : List V) (Q : VK) (E : XK), Room k (A.deeper (envOfC qual (defScope st) s.heap.objs.size f fd.code)) → sp vs H Q E →
      ∃ t, PSs (cxOf (L2.CX P w) P w K mg base N qual (defScope st) f fd.code A outer s H E) (defBody st) t ∧ t { nx := fun _ H' => Q .non H', rt := Q } (start N vs) H) : FnOk P w K mg base (L2.CX P w) (k + 1) f fd ps sp := by
  obtain ⟨oc, od, kV, doc, pm, an, cdv, ct, osl, rfl, lk, hcd⟩ := F.ex
  exact fn_of lk hcd S len fun A outer s H vs Q E hr hsp => hbody A outer s H vs Q E hr hsp
theorem fnBC {m : SM} (F : Fun K x qual st f fd) (Sc : FnScope N ps (defScope st))
    (body : ∀ (A : Around) (outer : List Env) (s : Shared) (H : Hp) (E : XK), Room k (A.deeper (PyProof.Rows.envOfC qual (defScope st) s.heap.objs.size f fd.code)) →
      ∃ t, DSs K (cxOf (L2.CX P w) P w K mg base N qual (defScope st) f fd.code A outer s H E) (WE0 E) (defBody st) t m) : FnOk P w K mg base (L2.CX P w) (k + 1) f fd ps (spB K ps.length (runB N.length m)) := by
  refine Fun.okC F Sc spB_len fun A outer s H vs Q E hr h => ?_
  obtain ⟨hl, Z, I, M, ds, r, w0, rp, e, p⟩ := h
  obtain ⟨t, b⟩ := body A outer s H E hr
  refine ⟨t, b.ps, ?_⟩
  unfold runB at e
  cases z : m ⟨slotsOf N.length ds, M⟩ with
  | none => rw [z] at e; cases e
  | some fs =>
    rw [z] at e
    obtain ⟨fl, s1⟩ := fs
    refine b.so.ok (L2.start N vs) H ⟨slotsOf N.length ds, M⟩ Z I _ _ w0 (start_rep rp) z ?_
    cases fl with
    | nx =>
      cases e
      intro σ' Z' H' I' w' rs' x'
      obtain ⟨I2, w2, x2, r2, _⟩ := drop_ok (d := .p .non) (v := .non) w0 w' x' (show Rep K Z' .non .non from .non)
      exact p _ Z' H' I2 w2 x2 r2
    | rt d =>
      cases e
      intro v Z' H' I' w' x' r'
      obtain ⟨I2, w2, x2, r2, _⟩ := drop_ok w0 w' x' r'
      exact p v Z' H' I2 w2 x2 r2
    | ex c fs =>
      cases e
      intro σ' d Z' H' I' w' rs' x' ea na
      obtain ⟨I2, w2, x2, _, h2⟩ := drop_ok (d := .p .non) (v := .non) w0 w' x' (show Rep K Z' .non .non from .non)
      exact p d Z' H' I2 w2 x2 ea fun a q => ⟨(na a q).1, fun m => (na a q).2 (h2 a m)⟩
    | bk => cases e
    | ct => cases e
end
end DL
namespace DL
open PySem L2 PySem.W
/-! ### sorted(xs) of data -/
section
variable {X : Cx} {pins : List (Addr × Obj)} {σ : St} {H Z : Hp} {s : Shared}
theorem each_rep {K : PySem.W.Frag} {Z : Hp} : ∀ {us : List Value} {vs : List V} {ds : List D}, Vals vs us → RepA K Z vs ds → EachIs (fun u d => ∃ v, RelV v u ∧ Rep K Z v d) us ds
  | _, _, _, .nil, .nil => .nil
  | _, _, _, .cons r1 t1, .cons r2 t2 => .cons ⟨_, r1, r2⟩ (each_rep t1 t2)
theorem each_readsP (I : Inv X pins σ H s) (sz : Same Z H) : ∀ {us : List Value} {vs : List V} {ks : List D}, Vals vs us → RepA X.K Z vs ks → (∀ k ∈ ks, shp k = true) → EachIs (fun u d => ∃ as, Reads s.heap u (toP d) as) us ks
  | _, _, _, .nil, .nil, _ => .nil
  | _, _, _, .cons r1 t1, .cons (d := d) r2 t2, h => .cons (Dp.reads I (toP d) _ _ (r2.dp sz (shaped_can (h d List.mem_cons_self))) r1) (each_readsP I sz t1 t2 fun k hk => h k (List.mem_cons_of_mem _ hk))
theorem each_vals1 {K : PySem.W.Frag} {Z : Hp} : ∀ {us : List Value} {ps : List D}, EachIs (fun u d => ∃ v, RelV v u ∧ Rep K Z v d) us ps → ∃ vs, Vals vs us ∧ RepA K Z vs ps
  | _, _, .nil => ⟨[], .nil, .nil⟩
  | _, _, .cons h t => by
    obtain ⟨v, r1, r2⟩ := h
    obtain ⟨vs, q1, q2⟩ := each_vals1 t
    exact ⟨v :: vs, .cons r1 q1, .cons r2 q2⟩
noncomputable def sortL (ds : List D) : List D := ds.mergeSort (dataLe false toP)
noncomputable def dSort : D → Option D
  | .lst ds => if (ds.all shp && sortOk (toPs ds)) = true then some (.lst (sortL ds)) else none
  | _ => none
def rSortP (K : PySem.W.Frag) : List V → Hp → VK → Prop := fun vs H Q => ∃ (x : V) (Z : Hp) (d c : D), vs = [x] ∧ Same Z H ∧ Rep K Z x d ∧ dSort d = some c ∧ PostP K Z H c Q
theorem cr_sortP (hu : X.A.units + 67 < cLine) : CallR X (.builtin "sorted") (rSortP X.K) := by
  intro pins s σ H vs us Q I r h
  obtain ⟨x, Z, d, c, rfl, sz, hx, hd, p⟩ := h
  unfold dSort at hd
  split at hd
  · split at hd
    · rename_i ds hc
      cases hd
      rw [Bool.and_eq_true] at hc
      have hsp : ∀ k ∈ ds, shp k = true := fun k hk => List.all_eq_true.mp hc.1 k hk
      cases hx with
      | lst h1 h2 =>
        obtain ⟨its, rv, hl, hz⟩ := I.list (.inl (same_rd sz h1))
        rw [Vals.ref1 r]
        have hal : AllAlike (ds.map toP) := by rw [← toPs_map]; exact sortOk_like hc.2
        have hso : Sortable (ds.map toP) := by rw [← toPs_map]; exact sortOk_sortable hc.2
        refine sorted_data hl.isList (each_rep rv h2) (each_readsP I sz rv h2 hsp) hal hso (by rw [← h2.length]; exact hz) (fun b hb => ?_) fun out ho eo => ?_
        · have z := hsp b hb
          unfold shp at z
          rw [Bool.and_eq_true] at z
          have y := of_decide_eq_true z.2
          have dd : (toP b).depth = depD b := depD_dep b z.1
          rw [dd]; omega
        · obtain ⟨ov, o1, o2⟩ := each_vals1 eo
          obtain ⟨ep, he'⟩ := PyProof.Rows.sortedAll_at s.heap its out.toArray
          have hn : H (s.heap.objs.size + 1) = none := I.hok.fresh (Nat.le_succ _)
          have hlen : ov.length ≤ sizeLine := by rw [o1.length, ho, ← h2.length]; exact hz
          have xp := ExtP.new (o := .lst ov) sz hn
          exact ⟨.ref _, upd H (s.heap.objs.size + 1) (.lst ov), I.laid (t' := s.toks) (fun _ _ => PyProof.Rows.sortedAll_old) (Nat.le_succ _) ⟨hlen, out, ep, o1, he'⟩, rfl, p _ _ _ xp (.lst (.inl upd_same) (o2.mono xp.z))⟩
    · cases hd
  · cases hd
end
section
variable {K : PySem.W.Frag} {X : Cx} {W : WX} {e a b c tg : Expr} {es : List Expr} {pos : Pos}
theorem units67 {k : Nat} {A : Around} (r : Room k A) : A.units + 67 < cLine := by have := r.un; omega
theorem cd_sort (hu : X.A.units + 67 < cLine) : CallD K X (.builtin "sorted") (rSortP K) (g1 dSort) := ⟨fun k => by rw [← k]; exact cr_sortP hu, g1_ok fun x d c Z H Q s hx hg p => ⟨x, Z, d, c, rfl, s, hx, hg, p⟩⟩
/-! ### max(xs), min(xs) of ints -/
def intsD : List D → Option (List Int)
  | [] => some []
  | .int i :: r => (intsD r).map (i :: ·)
  | _ :: _ => none
theorem intsD_map : ∀ ns : List Int, intsD (ns.map .int) = some ns
  | [] => rfl
  | n :: r => by show (intsD (r.map .int)).map (n :: ·) = _; rw [intsD_map r]; rfl
/-! ### list(x): a new list -/
def dList : D → Option D
  | .lst xs => some (.lst xs)
  | .klst xs => some (.lst xs)
  | .tup xs => some (.lst xs)
  | .ktup xs => some (.lst xs)
  | _ => none
theorem cd_list : CallD K X (.type "list") (fun xs H Q => ∃ p ys, xs = [.ref p] ∧ (SqL K H p ys ∨ SqT K H p ys) ∧ ∀ l, H l = none → Q (.ref l) (upd H l (.lst ys))) (g1 dList) := ⟨fun k => by rw [← k]; exact call_list_of, g1_ok fun x d c Z H Q s hx hg p => by
  have main : ∀ {a : Addr} {vs : List V} {ds : List D}, (SqL K H a vs ∨ SqT K H a vs) → RepA K Z vs ds → PostP K Z H (.lst ds) Q → ∃ p ys, [V.ref a] = [V.ref p] ∧ (SqL K H p ys ∨ SqT K H p ys) ∧ ∀ l, H l = none → Q (.ref l) (upd H l (.lst ys)) := fun h r p =>
    ⟨_, _, rfl, h, fun l hl => p _ _ _ (ExtP.new s hl) (.lst (.inl upd_same) (r.mono (ExtP.new s hl).z))⟩
  cases hx with
  | lst h1 h2 => cases hg; exact main (.inl (.inl (same_rd s h1))) h2 p
  | klst h1 h2 => cases hg; exact main (.inl (same_l s h1)) h2 p
  | tup h1 h2 => cases hg; exact main (.inr (sqt s h1)) h2 p
  | ktup h1 h2 => cases hg; exact main (.inr (same_t s h1)) h2 p
  | _ => cases hg⟩
/-! ### bits -/
/-! ### enumerate, reversed(range(..)) -/
def enumD : List D → Nat → List DV
  | [], _ => []
  | d :: r, i => .p (.tup [.int (i : Nat), d]) :: enumD r (i + 1)
theorem enumD_get : ∀ {ds : List D} {j i : Nat} {x : DV}, (enumD ds j)[i]? = some x → ∃ d, ds[i]? = some d ∧ x = .p (.tup [.int ((j + i : Nat)), d])
  | [], _, _, _, h => by simp [enumD] at h
  | d :: r, j, 0, x, h => by simp [enumD] at h; exact ⟨d, rfl, h.symm⟩
  | d :: r, j, i + 1, x, h => by
    obtain ⟨d', h1, h2⟩ := enumD_get (ds := r) (j := j + 1) (i := i) (by simpa [enumD] using h)
    exact ⟨d', by simpa using h1, by rw [h2, Nat.add_assoc, Nat.add_comm 1 i]⟩
theorem enumD_len : ∀ (ds : List D) (j : Nat), (enumD ds j).length = ds.length
  | [], _ => rfl
  | d :: r, j => by show (enumD r (j + 1)).length + 1 = r.length + 1; rw [enumD_len r]
def enumG : List DV → Option (List DV)
  | [.p (.lst xs)] => some (enumD xs 0)
  | _ => none
def mEnum (ms : AM) : IM := bnd ms fun ds s => match enumG ds with
  | some xs => some (.ok xs s.m)
  | none => none
theorem di_enum {p tpos : Pos} {elts : List Expr} {kk : Nat} {ta : TA} {ms : AM} (hm : X.mg "enumerate" = none) (h : DA K X W [e] ta ms) (hg : Gl X "enumerate" := by rfl) (hs : starEach [e] X.env = [(false, eval e X.env)] := by rfl) :
    DI K X W (.Tuple elts kk tpos) (.Call (.Name "enumerate" p) [e] [] pos) (iEnum K ta) (mEnum ms) := by
  refine ⟨h.k, ?_, ⟨fun σ H s Z I r0 Q w rs e1 p1 => ?_⟩⟩
  · rw [← h.k]; exact pi_enum hg hm h.pa hs
  · refine h.so.bnd w rs e1 p1.x fun ds vs M1 Z1 H1 I1 w1 rs1 x1 q1 e2 => ?_
    have e2 : (match enumG ds with | some xs => some (Rs.ok xs M1) | none => none) = some r0 := e2
    cases z : enumG ds with
    | none => rw [z] at e2; cases e2
    | some out =>
    rw [z] at e2; cases e2
    unfold enumG at z
    split at z
    · rename_i xs
      cases z
      cases q1 with
      | cons g1 g2 =>
      cases g2
      have g1 : Rep K Z1 _ (.lst xs) := g1
      cases g1 with
      | lst h1 h2 =>
        rename_i a us
        refine ⟨a, us, rfl, .inl (same_rd w1.sub h1), p1 _ Z1 H1 I1 w1 x1 fun Z' H' I' z _ s' i => ⟨fun d hd => ?_, fun hl => ⟨us, .inl (same_rd s' (same_rd z h1)), by rw [h2.length]; rw [enumD_len] at hl; exact hl⟩⟩⟩
        obtain ⟨y, hy, rfl⟩ := enumD_get hd
        obtain ⟨v, hv, rv⟩ := h2.get hy
        have hq : SqL K H' a us := .inl (same_rd s' (same_rd z h1))
        refine ⟨⟨us, v, hq, hv⟩, fun x H2 hx => ?_⟩
        obtain ⟨T, u, rfl, hT, rfl, hu⟩ := hx
        have := hu us hq
        rw [hv] at this
        cases this
        have xp := ExtP.new (o := .tup [.int (i : Nat), v]) s' hT
        refine ⟨_, xp, .tup upd_same (.cons ?_ (.cons ((rv.mono z).mono xp.z) .nil))⟩
        rw [Nat.zero_add]; exact .int _
    · cases z
end
end DL
namespace DL
open PySem L2
/-- the name of the lambdas of a def -/
def lamq (x : Str) : Str := x ++ ".<locals>." ++ "<lambda>"
/-- the table of a code object of the written part -/
def codeTab (K : PySem.W.Frag) (c : Addr) : Addr := match K.lookup c with
  | some ⟨_, _, .fields vs, _⟩ => match (vs[11]? : Option Value) with
    | some (.ref P) => P
    | _ => 0
  | _ => 0
theorem tb_of {base : Heap} {mg : Str → Option Value} {cs : List (Addr × Addr)} {i : Nat} {c P : Addr} (hB : ∀ p ∈ cs, LamX.TabB base mg p.1 p.2) (h : cs[i]? = some (c, P)) : LamX.TabB base mg c ((cs.map (·.2)).getD i 0) := by
  have e : (cs.map (·.2)).getD i 0 = P := by
    rw [List.getD_eq_getElem?_getD, List.getElem?_map, h]; rfl
  rw [e]
  exact hB _ (List.mem_of_getElem? h)
end DL
namespace DL
open PySem L2
/-! ### equations and steps that no law owns: numbers of a list that pass a test, comprehensions, statements one by one, draws behind a table -/
theorem en_ls {α : Type} [DecidableEq α] [En α] (l : List α) : (En.en l : D) = .lst (l.map En.en) := rfl
def enO {α : Type} [DecidableEq α] [En α] : Option α → D
  | some a => En.en a
  | none => .non
theorem at_en {α : Type} [DecidableEq α] [En α] (l : List α) {i : Int} {x : α} (h0 : 0 ≤ i) (h : l[i.toNat]? = some x) : atI (l.map En.en) i = some (En.en x : D) := atI_nat' h0 (by rw [List.getElem?_map, h]; rfl)
theorem lcs (it : IM) (vs : List Nat) (g : GM) (t e : EM) (s : S) (ds : List DV) (xs : List D) (h : it s = some (.ok ds s.m)) (h2 : compL (wipeL s.l vs) g t e ds [] s.m = some (xs, s.m)) : mLc it vs g t e s = some (.ok (.p (.lst xs)) s.m) := by
  rw [e_lc, e_bnd, h]
  show (match compL (wipeL s.l vs) g t e ds [] s.m with | some (acc, M) => some (Rs.ok (DV.p (D.lst acc)) M) | none => none) = _
  rw [h2]
def lx {α : Type} (a b : α → Int) (p q : α) : Bool := decide (a p < a q ∨ (a p = a q ∧ b p ≤ b q))
theorem lx_iff {α : Type} {a b : α → Int} {p q : α} : lx a b p q = true ↔ a p < a q ∨ (a p = a q ∧ b p ≤ b q) := decide_eq_true_iff
theorem lx_pw {α : Type} (a b : α → Int) (l : List α) : (l.mergeSort (lx a b)).Pairwise fun p q => lx a b p q = true := by
  refine List.pairwise_mergeSort (fun x y z h1 h2 => ?_) (fun x y => ?_) l
  · rw [lx_iff] at *; omega
  · rw [Bool.or_eq_true, lx_iff, lx_iff]; omega
theorem all_shp {α : Type} [DecidableEq α] [En α] (h : En.dp α ≤ 64) (l : List α) : (l.map En.en).all shp = true := by
  rw [List.all_eq_true]
  intro d hd
  obtain ⟨a, _, rfl⟩ := List.mem_map.mp hd
  exact shp_en a h
theorem seq_asg (m : EM) (g : GM) (k : SM) (s s1 : S) (d : DV) (M : List O) (h1 : m s = some (.ok d M)) (h2 : g d ⟨s.l, M⟩ = some s1) : sSeq (sAsg m g) k s = k s1 := by
  rw [e_seq, e_asg, e_lift, h1]
  show (match (match g d ⟨s.l, M⟩ with | some s1 => some (Fl.nx, s1) | none => none) with | some (.nx, s1) => k s1 | r => r) = _
  rw [h2]
theorem seq_for (it : IM) (g : GM) (b k : SM) (s s1 : S) (ds : List DV) (r : Fl × S) (h1 : it s = some (.ok ds s.m)) (h2 : loopS g b ds s = some (.nx, s1)) (h3 : k s1 = some r) : sSeq (sFor it g b) k s = some r := by
  rw [e_seq, e_for, e_lift, h1]
  show (match loopS g b ds s with | some (.nx, s1) => k s1 | r => r) = _
  rw [h2]
  exact h3
theorem filter_comp {α β : Type} [DecidableEq α] [En α] [DecidableEq β] [En β] {l : List (Option DV)} {g : GM} {t e : EM} {M : List O} (f : α → β) (q : α → Bool) (ds : List α) (h : ∀ a ∈ ds, ∃ s1 : S, g (.p (En.en a)) ⟨l, M⟩ = some s1 ∧ s1.m = M ∧ t s1 = some (.ok (.p (.bl (q a))) M) ∧ e s1 = some (.ok (.p (En.en (f a))) M)) (hl : ds.length ≤ 1000000) : compL l g t e ((ds.map En.en).map .p) [] M = some (((ds.filter q).map f).map En.en, M) := by
  have main : ∀ (ds : List α) (acc : List D), (∀ a ∈ ds, ∃ s1 : S, g (.p (En.en a)) ⟨l, M⟩ = some s1 ∧ s1.m = M ∧ t s1 = some (.ok (.p (.bl (q a))) M) ∧ e s1 = some (.ok (.p (En.en (f a))) M)) → acc.length + ds.length ≤ 1000000 → compL l g t e ((ds.map En.en).map .p) acc M = some (acc ++ ((ds.filter q).map f).map En.en, M) := by
    intro ds
    induction ds with
    | nil => intro acc _ _; simp [compL]
    | cons a ds ih =>
      intro acc h hn
      simp only [List.length_cons] at hn
      obtain ⟨s1, h1, h2, h3, h4⟩ := h a List.mem_cons_self
      have ih := fun acc hn => ih acc (fun b hb => h b (List.mem_cons_of_mem _ hb)) hn
      show compL _ _ _ _ (.p (En.en a) :: (ds.map En.en).map .p) acc M = _
      unfold compL
      rw [h1]
      dsimp only
      rw [h3]
      cases hq : q a with
      | true =>
        dsimp only
        have q2 : e ⟨s1.l, M⟩ = some (.ok (.p (En.en (f a))) M) := by rw [← h2] at h4 ⊢; exact h4
        rw [q2]
        dsimp only
        rw [if_pos (by omega), ih _ (by simp; omega)]
        simp [hq]
      | false =>
        dsimp only
        rw [ih _ (by omega)]
        simp [hq]
  have := main ds [] h (by simpa using hl)
  simpa using this
def intL (cells : List Int) : O := .lst (cells.map fun z => .p (.int z))
theorem take_raw {k c : Nat} {i : Int} {cells : List Int} {M : List O} (hk : M[k]? = some (.lst [.p (.int i), .o c])) (hc : M[c]? = some (intL cells)) (kc : k ≠ c) (hi : 0 ≤ i) (ne : cells ≠ []) (nn : ∀ z ∈ cells, 0 ≤ z) (most : Int) (hm : most < 18446744073709551616) : ∃ r M', takeM [.o k, .p (.int most)] M = some (.ok (.p (.int r)) M') ∧ (M' = M ∨ (∃ cells', M' = M.set c (intL cells') ∧ cells' ≠ [] ∧ ∀ z ∈ cells', 0 ≤ z) ∨ M' = M.set k (.lst [.p (.int (i + 1)), .o c])) ∧ (most < 1 → r = 0) ∧ (1 ≤ most → 0 ≤ r ∧ r < most) := by
  by_cases h1 : most < 1
  · refine ⟨0, M, ?_, .inl rfl, fun _ => rfl, fun h2 => by omega⟩
    simp [e_bnd, e_seq, e_lift, e_runA, e_runB, takeM, takeB, h1, dropM_len]
  · have hl : 0 < cells.length := List.length_pos_iff.mpr ne
    have hl' : (0 : Int) < (cells.length : Int) := by omega
    have a0 : 0 ≤ i % (cells.length : Int) := Int.emod_nonneg _ (by omega)
    have a1 : i % (cells.length : Int) < (cells.length : Int) := Int.emod_lt_of_pos _ hl'
    have aN : (i % (cells.length : Int)).toNat < cells.length := by omega
    have hg := atI_nat' (xs := cells.map fun z => DV.p (.int z)) a0 (get_map aN)
    have cn : 0 ≤ cells[(i % (cells.length : Int)).toNat] := nn _ (List.getElem_mem aN)
    generalize hz : cells[(i % (cells.length : Int)).toNat] = z at hg cn
    have m0 : 0 < most := by omega
    unfold intL at hc
    by_cases h2 : 1000000000000000000 ≤ z
    · refine ⟨z % most, M.set c (intL (cells.set (i % (cells.length : Int)).toNat (z / most))), ?_, .inr (.inl ⟨_, rfl, by simpa using ne, ?_⟩), fun h3 => absurd h3 h1, fun _ => ⟨Int.emod_nonneg _ (by omega), Int.emod_lt_of_pos _ m0⟩⟩
      · have hs := setL_ok (M := M) (n := c) (d := .p (.int (z / most))) hc a0 (by rw [List.length_map]; exact a1)
        unfold intL
        simp [e_bnd, e_seq, e_lift, e_runA, e_runB, takeM, takeB, h1, hk, hc, atI0, atI1, hl, hl', hg, h2, e_set, e_setK, m0, hm, hs, dropM_len]
      · intro y hy
        rcases List.mem_or_eq_of_mem_set hy with q | q
        · exact nn y q
        · rw [q]; exact Int.ediv_nonneg cn (by omega)
    · have hs := setL_ok (M := M) (n := k) (d := .p (.int (i + 1))) (j := 0) hk (by decide) (by simp)
      have hk' : (M.set k (.lst [DV.p (.int (i + 1)), .o c]))[k]? = some (.lst [.p (.int (i + 1)), .o c]) := by
        rw [List.getElem?_set_self (List.getElem?_eq_some_iff.mp hk).1]
      refine ⟨((((z * 48271 + (i + 1) * 69621) % 2147483647) * 16807 + (i + 1) * 7919) % 1000000007) / 7 % most, M.set k (.lst [.p (.int (i + 1)), .o c]), ?_, .inr (.inr rfl), fun h3 => absurd h3 h1, fun _ => ⟨Int.emod_nonneg _ (by omega), Int.emod_lt_of_pos _ m0⟩⟩
      simp [e_bnd, e_seq, e_lift, e_runA, e_runB, takeM, takeB, h1, hk, hc, atI0, atI1, hl, hl', hg, h2, e_set, e_setK, m0, hm, hs, hk', dropM_len, mulOkR]
structure DB (T : O) (n : Nat) (sv : DV) (B : List O) : Prop where
  len : B.length = n
  tb : B[0]? = some T
  cl : B.all (closed n) = true
  ex : ∃ (k c : Nat) (i : Int) (cells : List Int), sv = .o k ∧ k ≠ 0 ∧ c ≠ 0 ∧ B[k]? = some (.lst [.p (.int i), .o c]) ∧ B[c]? = some (intL cells) ∧ k ≠ c ∧ 0 ≤ i ∧ cells ≠ [] ∧ ∀ z ∈ cells, 0 ≤ z
theorem callA2 (f : MA) (i j : Nat) (l : List (Option DV)) (M : List O) (x y d : D) (h1 : gv l i = some (.p x)) (h2 : gv l j = some (.p y)) (e : f [x, y] = some (.ok d)) : mCallA 2 f (aCons (mVar i) (aCons (mVar j) aNil)) ⟨l, M⟩ = some (.ok (.p d) M) := by
  simp [e_bnd, h1, h2, e]
end DL
namespace DL
open PySem L2
section
variable {K : PySem.W.Frag} {X : Cx} {W : WX} {e a b c tg : Expr} {es : List Expr} {pos : Pos}
/-! ### a list behind a list: a new own list -/
def lsO (M : List O) : DV → Option (List DV)
  | .p (.lst xs) => some (xs.map .p)
  | .p (.klst xs) => some (xs.map .p)
  | .o n => match M[n]? with
    | some (.lst ds) => some ds
    | _ => none
  | _ => none
theorem ls_rep {Z H : Hp} {I : List Addr} {M : List O} {x : V} {d : DV} {ds : List DV} (w : Wf K Z H I M) (h : RepV K Z I x d) (e : lsO M d = some ds) : ∃ a xs, x = .ref a ∧ SqL K H a xs ∧ RepVs K Z I xs ds := by
  cases d with
  | p d =>
    have h : Rep K Z x d := h
    cases h with
    | lst h1 h2 => cases e; exact ⟨_, _, rfl, .inl (same_rd w.sub h1), allP_map h2⟩
    | klst h1 h2 => cases e; exact ⟨_, _, rfl, same_l w.sub h1, allP_map h2⟩
    | _ => cases e
  | o n =>
    obtain ⟨a, ha, rfl⟩ := h
    unfold lsO at e
    cases z : M[n]? with
    | none => simp only [z] at e; cases e
    | some o =>
      simp only [z] at e
      cases o with
      | lst ys =>
        cases e
        obtain ⟨_, xs, h1, h2⟩ := w.ob n a _ ha z (by intro z; cases z)
        exact ⟨a, xs, rfl, SqL.of h1, h2⟩
      | _ => cases e
def mCatO (m n : EM) : EM := bnd m fun d => bnd n fun e s => match lsO s.m d, lsO s.m e with
  | some xs, some ys => if xs.length + ys.length ≤ 1000000 then some (.ok (.o s.m.length) (s.m ++ [.lst (xs ++ ys)])) else none
  | _, _ => none
theorem so_catO {ta tb : TE} {m n : EM} (ha : Sound K W (RepV K) ta m) (hb : Sound K W (RepV K) tb n) : Sound K W (RepV K) (tOp (rCatL K) ta tb) (mCatO m n) := ⟨fun σ H s Z I r0 Q w rs e p => by
  refine ha.bnd w rs e (p.x) fun d v M1 Z1 H1 I1 w1 rs1 x1 q1 e1 => ?_
  have p1 := p.mono x1
  refine hb.bnd (s := ⟨s.l, M1⟩) w1 rs1 e1 (p1.x) fun d2 v2 M2 Z2 H2 I2 w2 rs2 x2 q2 e2 => ?_
  have p2 := p1.mono x2
  have e3 : (match lsO M2 d, lsO M2 d2 with
    | some xs, some ys => if xs.length + ys.length ≤ 1000000 then some (Rs.ok (DV.o M2.length) (M2 ++ [.lst (xs ++ ys)])) else none
    | _, _ => none) = some r0 := e2
  have q1' : RepV K Z2 I2 v d := RepV.mono x2 q1
  cases z1 : lsO M2 d with
  | none => rw [z1] at e3; cases e3
  | some xs =>
  cases z2 : lsO M2 d2 with
  | none => rw [z1, z2] at e3; cases e3
  | some ys =>
  rw [z1, z2] at e3
  dsimp only at e3
  split at e3
  · rename_i hl
    obtain rfl := Option.some.inj e3
    obtain ⟨a, us, rfl, h1, r1⟩ := ls_rep w2 q1' z1
    obtain ⟨b, ws, rfl, h2, r2⟩ := ls_rep w2 q2 z2
    refine ⟨a, b, us, ws, rfl, rfl, h1, h2, by rw [paired_len r1, paired_len r2]; exact size_le hl, fun l hp => ?_⟩
    have y := ext_new (I := I2) (o := .lst (us ++ ws)) w2.sub hp
    refine p2 _ Z2 _ (I2 ++ [l]) (w2.newO hp ⟨us ++ ws, upd_same, paired_imp (fun _ _ q => RepV.mono y q) (paired_app r1 r2)⟩) y ⟨l, ?_, rfl⟩
    rw [← w2.len, List.getElem?_append_right (Nat.le_refl _), Nat.sub_self]
    rfl
  · cases e3⟩
theorem de_catO {ta tb : TE} {m n : EM} (ha : DE K X W a ta m) (hb : DE K X W b tb n) : DE K X W (.BinOp a .Add b pos) (tOp (rCatL K) ta tb) (mCatO m n) :=
  ⟨ha.k, by rw [← ha.k]; exact pe_op op_catL ha.pe hb.pe, so_catO ha.so hb.so⟩
@[simp] theorem e_catO (m n : EM) (s : S) : mCatO m n s = (bnd m fun d => bnd n fun e s => match lsO s.m d, lsO s.m e with
  | some xs, some ys => if xs.length + ys.length ≤ 1000000 then some (.ok (.o s.m.length) (s.m ++ [.lst (xs ++ ys)])) else none
  | _, _ => none) s := rfl
@[simp] theorem e_lsP (M : List O) (xs : List D) : lsO M (.p (.lst xs)) = some (xs.map .p) := rfl
@[simp] theorem e_lsK (M : List O) (xs : List D) : lsO M (.p (.klst xs)) = some (xs.map .p) := rfl
@[simp] theorem e_lsO (M : List O) (n : Nat) : lsO M (.o n) = (match M[n]? with | some (.lst ds) => some ds | _ => none) := rfl
end
end DL
namespace DL
open PySem L2 PySem.W
section
variable {K : PySem.W.Frag} {X : Cx} {W : WX} {e a b c tg : Expr} {es : List Expr} {pos p p2 kp : Pos}
/-! ### sum(xs) of ints; min and max with default= -/
def dSum : D → Option D
  | .lst ds => (intsD ds).map fun ns => .int ns.sum
  | _ => none
@[simp] theorem e_sumI (ns : List Int) : dSum (.lst (ns.map .int)) = some (.int ns.sum) := by
  show (intsD (ns.map .int)).map _ = _
  rw [intsD_map]; rfl
def bestD (g : List Int → Int → Int) : D → D → Option D
  | .lst ds, .int j => (intsD ds).map fun ns => .int (g ns j)
  | _, _ => none
def mBestDf (g : List Int → Int → Int) (m n : EM) : EM := bnd m (pur fun d => bnd n (pur fun z => ret (bestD g d z)))
@[simp] theorem e_best (g : List Int → Int → Int) (m n : EM) (s : S) : mBestDf g m n s = (bnd m (pur fun d => bnd n (pur fun z => ret (bestD g d z)))) s := rfl
@[simp] theorem e_bestI (g : List Int → Int → Int) (ns : List Int) (j : Int) : bestD g (.lst (ns.map .int)) (.int j) = some (.int (g ns j)) := by
  show (intsD (ns.map .int)).map _ = _
  rw [intsD_map]; rfl
end
end DL
namespace DL
open PySem L2 PySem.Spec PyProof.Rows
/-! ### a call of a local that holds a def: the defs that it may hold, with their addresses -/
structure VFn (P : Program) (w : World) (K : PySem.W.Frag) (mg : Str → Option Value) (base : Heap) (k n : Nat) (f : Addr) (m : MA) : Prop where
  ex : ∃ (fd : FuncData) (ps : List Str), FnOk P w K mg base (L2.CX P w) k f fd ps (spA K n m) ∧ PySem.W.keepIn K (.ref f) = true ∧ Binds K fd ps []
section
variable {K : PySem.W.Frag} {X : Cx} {W : WX} {e : Expr} {es : List Expr} {pos p : Pos} {x : Str} {i n k : Nat} {tb : List (Addr × MA)} {t : TA} {ms : AM}
end
end DL
namespace DL
open PySem PySem.Spec L2 PyProof.Rows
/-! ### the end of a law whose mirrors speak of the addresses of defs -/
end DL
namespace DL
open PySem PySem.Spec L2 PyProof.Rows
/-! ### a text in a dict of the module: the keys, and texts that are known to be none -/
def KIn (K : PySem.W.Frag) (w : World) (a : Addr) (z : Str) (b : Bool) : Prop := ∃ es n r, K.lookup a = some ⟨.type "dict", none, .dict es n, #[]⟩ ∧ PySem.W.KeysLit w.params es.toList ∧ (a == sysModules) = false ∧ PySem.W.nsIn K a z = some r ∧ r.isSome = b
section
variable {X : Cx}
end
structure GIn (K : PySem.W.Frag) (w : World) (mg : Str → Option Value) (x : Str) (keys miss : List Str) where
  a : Addr
  m : mg x = some (.ref a)
  at_ : ∀ z, z ∈ keys → KIn K w a z true
  no : ∀ z, z ∈ miss → KIn K w a z false
def inKd (keys miss : List Str) : D → EM
  | .str z => fun s => if z ∈ keys then some (.ok (.p (.bl true)) s.m) else if z ∈ miss then some (.ok (.p (.bl false)) s.m) else none
  | _ => fun _ => none
def mInKd (keys miss : List Str) (m : EM) : EM := bnd m (pur (inKd keys miss))
section
variable {K : PySem.W.Frag} {X : Cx} {W : WX} {e : Expr} {pos p : Pos} {te : TE} {m : EM} {mg : Str → Option Value} {w : World} {x : Str} {keys miss : List Str}
end
end DL
namespace DL
open PySem PySem.Spec L2 PyProof.Rows
@[simp] theorem e_inKdm (keys miss : List Str) (m : EM) (s : S) : mInKd keys miss m s = (bnd m (pur (inKd keys miss))) s := rfl
@[simp] theorem e_inKdS (keys miss : List Str) (z : Str) (s : S) : inKd keys miss (.str z) s = if z ∈ keys then some (.ok (.p (.bl true)) s.m) else if z ∈ miss then some (.ok (.p (.bl false)) s.m) else none := rfl
end DL
namespace DL
open PySem PySem.Spec L2 PyProof.Rows
/-! ### l.extend(xs): xs data -/
section
variable {X : Cx}
end
section
variable {K : PySem.W.Frag} {X : Cx}
def gExt : MtG := fun d ds s => match d, ds with
  | .o n, [.p (.lst ys)] => match s.m[n]? with
    | some (.lst xs) => if xs.length + ys.length ≤ 1000000 then some (.ok (.p .non) (s.m.set n (.lst (xs ++ ys.map .p)))) else none
    | _ => none
  | _, _ => none
@[simp] theorem e_ext (n : Nat) (ys : List D) (s : S) : gExt (.o n) [.p (.lst ys)] s = (match s.m[n]? with
    | some (.lst xs) => if xs.length + ys.length ≤ 1000000 then some (.ok (.p .non) (s.m.set n (.lst (xs ++ ys.map .p)))) else none
    | _ => none) := rfl
end
end DL
namespace DL
open PySem PySem.Spec L2 PyProof.Rows
section
variable {K : PySem.W.Frag} {X : Cx} {W : WX} {e : Expr} {pos p : Pos} {te : TE} {m : EM} {mg : Str → Option Value} {w : World} {x : Str} {keys miss : List Str}
end
end DL
namespace DL
open PySem L2
/-! ### a list of one's own that a loop fills, and is given up -/
theorem tyOk_lst {M : List O} {n : Nat} {ds : List DV} (h : M[n]? = some (.lst ds)) : tyOk "list" M (.o n) = true := by unfold tyOk; simp only [h]; rfl
theorem drop0 (d : D) (M : List O) : dropM 0 (.p d) M = [] := by simp [dropM, ltO]
theorem app_run (i n : Nat) (me : EM) (l : List (Option DV)) (M : List O) (xs : List DV) (d : DV) (h1 : gv l i = some (.o n)) (h2 : M[n]? = some (.lst xs)) (h3 : xs.length < 1000000) (h4 : me ⟨l, M⟩ = some (.ok d M)) :
    sExpr (mMth "list" gApp (mVar i) (aCons me aNil)) ⟨l, M⟩ = some (.nx, ⟨l, M.set n (.lst (xs ++ [d]))⟩) := by
  have tk := tyOk_lst h2
  simp [e_bnd, e_lift, h1, tk, h4, gApp, h2, h3]
theorem catO_run (i n : Nat) (me : EM) (l : List (Option DV)) (M : List O) (xs : List DV) (ys : List D) (h1 : gv l i = some (.o n)) (h2 : M[n]? = some (.lst xs)) (h3 : xs.length + ys.length ≤ 1000000) (h4 : me ⟨l, M⟩ = some (.ok (.p (.lst ys)) M)) :
    sAsg (mCatO (mVar i) me) (gN i) ⟨l, M⟩ = some (.nx, ⟨l.set i (some (.o M.length)), M ++ [.lst (xs ++ ys.map .p)]⟩) := by
  simp [e_bnd, e_lift, h1, h4, h2, h3]
theorem frz_run (i n : Nat) (l : List (Option DV)) (M : List O) (ds : List D) (h1 : gv l i = some (.o n)) (h2 : M[n]? = some (.lst (ds.map .p))) : mFrz (mVar i) ⟨l, M⟩ = some (.ok (.p (.lst ds)) (M.set n .gone)) := by
  simp [e_bnd, h1, h2]
theorem seq_nx (a b : SM) (s s1 : S) (h : a s = some (.nx, s1)) : sSeq a b s = b s1 := by rw [e_seq, h]
@[reducible] def enOpt {α : Type} [DecidableEq α] [En α] (hn : ∀ a : α, deq (En.en a) .non = false) (hn2 : ∀ a : α, deq .non (En.en a) = false) : En (Option α) := ⟨enO, fun a b => by
    cases a <;> cases b <;> simp [enO, En.dq, hn, hn2], fun a => by cases a <;> simp [enO, En.ok], En.dp α, fun a => by
    cases a with
    | none => exact Nat.zero_le _
    | some a => exact En.dpl a⟩
instance : En (Option Int) := enOpt (fun _ => rfl) (fun _ => rfl)
instance : En (Option Bool) := enOpt (fun _ => rfl) (fun _ => rfl)
end DL
namespace DL
open PySem L2
theorem sif_f (c : EM) (a b : SM) (s : S) (M : List O) (h : c s = some (.ok (.p (.bl false)) M)) : sIf c a b s = b ⟨s.l, M⟩ := by
  rw [e_sif, e_lift, h]; rfl
theorem sif_t (c : EM) (a b : SM) (s : S) (M : List O) (h : c s = some (.ok (.p (.bl true)) M)) : sIf c a b s = a ⟨s.l, M⟩ := by
  rw [e_sif, e_lift, h]; rfl
theorem runB_of {n : Nat} {m : SM} {ds : List DV} {d : D} {s : S} (h : m ⟨slotsOf n ds, []⟩ = some (.rt (.p d), s)) : runB n m ds [] = some (.ok (.p d) []) := by
  rw [e_runB, h]
  show some (Rs.ok (DV.p d) (dropM 0 (.p d) s.m)) = _
  rw [drop0]
theorem runA_of {n : Nat} {m : SM} {ds : List D} {d : D} {s : S} (h : m ⟨slotsOf n (ds.map .p), []⟩ = some (.rt (.p d), s)) : runA n m ds = some (.ok d) := by
  rw [e_runA, h]
theorem ret_run (m : EM) (s : S) (d : DV) (M : List O) (h : m s = some (.ok d M)) : sRet m s = some (.rt d, ⟨s.l, M⟩) := by
  rw [e_sret, e_lift, h]
theorem filter_compE {α : Type} (enc : α → D) {l : List (Option DV)} {g : GM} {t e : EM} {M : List O} (f : α → D) (q : α → Bool) (ds : List α) (h : ∀ a ∈ ds, ∃ s1 : S, g (.p (enc a)) ⟨l, M⟩ = some s1 ∧ s1.m = M ∧ t s1 = some (.ok (.p (.bl (q a))) M) ∧ (q a = true → e s1 = some (.ok (.p (f a)) M))) (hl : ds.length ≤ 1000000) : compL l g t e ((ds.map enc).map .p) [] M = some ((ds.filter q).map f, M) := by
  have main : ∀ (ds : List α) (acc : List D), (∀ a ∈ ds, ∃ s1 : S, g (.p (enc a)) ⟨l, M⟩ = some s1 ∧ s1.m = M ∧ t s1 = some (.ok (.p (.bl (q a))) M) ∧ (q a = true → e s1 = some (.ok (.p (f a)) M))) → acc.length + ds.length ≤ 1000000 → compL l g t e ((ds.map enc).map .p) acc M = some (acc ++ (ds.filter q).map f, M) := by
    intro ds
    induction ds with
    | nil => intro acc _ _; simp [compL]
    | cons a ds ih =>
      intro acc h hn
      simp only [List.length_cons] at hn
      obtain ⟨s1, h1, h2, h3, h4⟩ := h a List.mem_cons_self
      have ih := fun acc hn => ih acc (fun b hb => h b (List.mem_cons_of_mem _ hb)) hn
      show compL _ _ _ _ (.p (enc a) :: (ds.map enc).map .p) acc M = _
      unfold compL
      rw [h1]
      dsimp only
      rw [h3]
      cases hq : q a with
      | true =>
        dsimp only
        have q2 : e ⟨s1.l, M⟩ = some (.ok (.p (f a)) M) := by have h4 := h4 hq; rw [← h2] at h4 ⊢; exact h4
        rw [q2]
        dsimp only
        rw [if_pos (by omega), ih _ (by simp; omega)]
        simp [hq]
      | false =>
        dsimp only
        rw [ih _ (by omega)]
        simp [hq]
  have := main ds [] h (by simpa using hl)
  simpa using this
theorem map_compE {α : Type} (enc : α → D) {l : List (Option DV)} {g : GM} {e : EM} {M : List O} (f : α → D) (ds : List α) (h : ∀ a ∈ ds, ∃ s1 : S, g (.p (enc a)) ⟨l, M⟩ = some s1 ∧ s1.m = M ∧ e s1 = some (.ok (.p (f a)) M)) (hl : ds.length ≤ 1000000) : compL l g tYesM e ((ds.map enc).map .p) [] M = some (ds.map f, M) := by
  have q := filter_compE enc (l := l) (g := g) (t := tYesM) (e := e) (M := M) f (fun _ => true) ds (fun a ha => by
    obtain ⟨s1, h1, h2, h3⟩ := h a ha
    exact ⟨s1, h1, h2, by rw [← h2]; rfl, fun _ => h3⟩) hl
  rw [q, List.filter_eq_self.mpr (fun _ _ => rfl)]
end DL
namespace DL
open PySem L2
/-! sorted lists of ints -/
theorem cut_from (xs : List D) (n : Nat) : cutD xs (some (n : Int)) none = xs.drop n := by
  unfold cutD
  rw [HT.sIx_none, HT.sIx_nat]
  rw [List.take_of_length_le (by rw [List.length_drop]; exact Nat.le_refl _)]
  by_cases h : n ≤ xs.length
  · rw [Nat.min_eq_left h]
  · rw [Nat.min_eq_right (by omega), List.drop_length, List.drop_of_length_le (by omega)]
theorem cut_to (xs : List D) (n : Nat) : cutD xs none (some (n : Int)) = xs.take n := by
  unfold cutD
  rw [HT.sIx_none, HT.sIx_nat, List.drop_zero, Nat.sub_zero]
  by_cases h : n ≤ xs.length
  · rw [Nat.min_eq_left h]
  · rw [Nat.min_eq_right (by omega), List.take_length, List.take_of_length_le (by omega)]
@[simp] theorem e_slL (xs : List D) (l u : Option Int) : slE (.lst xs) l u = some (.lst (cutD xs l u)) := rfl
end DL
namespace DL
open PySem L2
/-! ### drawn numbers, with other objects of one's own behind them -/
theorem ltO_mono {n m : Nat} (h : n ≤ m) (d : DV) (k : ltO n d = true) : ltO m d = true := by
  cases d with
  | p _ => rfl
  | o i => have k : decide (i < n) = true := k; exact decide_eq_true (by have := of_decide_eq_true k; omega)
theorem closed_mono {n m : Nat} (h : n ≤ m) (o : O) (k : closed n o = true) : closed m o = true := by
  cases o with
  | lst xs => exact List.all_eq_true.mpr fun d hd => ltO_mono h d (List.all_eq_true.mp k d hd)
  | dK xs => exact List.all_eq_true.mpr fun d hd => ltO_mono h d.2 (List.all_eq_true.mp k d hd)
  | dT xs => exact List.all_eq_true.mpr fun d hd => ltO_mono h d.2 (List.all_eq_true.mp k d hd)
  | ins C xs => exact List.all_eq_true.mpr fun d hd => ltO_mono h d.2 (List.all_eq_true.mp k d hd)
  | tbl _ _ => rfl
  | gone => rfl
def Dx (n : Nat) (sv : DV) (R M : List O) : Prop := ∃ B, M = B ++ R ∧ Dr n sv B
theorem Dx.of {n : Nat} {sv : DV} {M : List O} (h : Dr n sv M) : Dx n sv [] M := ⟨M, (List.append_nil _).symm, h⟩
theorem Dx.nil {n : Nat} {sv : DV} {M : List O} (h : Dx n sv [] M) : Dr n sv M := by obtain ⟨B, rfl, h⟩ := h; rwa [List.append_nil]
theorem Dx.len {n : Nat} {sv : DV} {R M : List O} (h : Dx n sv R M) : M.length = n + R.length := by obtain ⟨B, rfl, h⟩ := h; rw [List.length_append, h.len]
theorem Dx.get {n : Nat} {sv : DV} {R M : List O} (h : Dx n sv R M) (i : Nat) : M[n + i]? = R[i]? := by
  obtain ⟨B, rfl, h⟩ := h
  rw [List.getElem?_append_right (by rw [h.len]; omega), h.len]
  congr 1; omega
theorem Dx.set {n : Nat} {sv : DV} {R M : List O} (h : Dx n sv R M) (i : Nat) (o : O) : Dx n sv (R.set i o) (M.set (n + i) o) := by
  obtain ⟨B, rfl, h⟩ := h
  refine ⟨B, ?_, h⟩
  rw [List.set_append_right _ _ (by rw [h.len]; omega), h.len]
  congr 2; omega
theorem Dx.drop {n : Nat} {sv : DV} {R G M : List O} {d : D} (h : Dx n sv (R ++ G) M) (hR : R.all (closed (n + R.length)) = true) {k : Nat} (hk : k = n + R.length) : Dx n sv R (dropM k (.p d) M) := by
  subst hk
  obtain ⟨B, rfl, h⟩ := h
  have e : (B ++ (R ++ G)).take (n + R.length) = B ++ R := by
    rw [← List.append_assoc, List.take_append_of_le_length (by rw [List.length_append, h.len]; exact Nat.le_refl _), List.take_of_length_le (by rw [List.length_append, h.len]; exact Nat.le_refl _)]
  have c : (B ++ R).all (closed (n + R.length)) = true := by
    rw [List.all_append, hR, Bool.and_true]
    exact List.all_eq_true.mpr fun o ho => closed_mono (Nat.le_add_right _ _) o (List.all_eq_true.mp h.cl o ho)
  unfold dropM
  rw [e, c]
  exact ⟨B, rfl, h⟩
theorem Dx.same {n : Nat} {sv : DV} {R M M' : List O} {d : D} (h : Dx n sv R M) (h' : Dx n sv R M') : dropM M.length (.p d) M' = M' := dropM_len (by rw [h.len, h'.len])
theorem wp_takeX {n : Nat} {sv : DV} {R M : List O} {most : Int} {P : DV → List O → Prop} (h : Dx n sv R M) (hm : most < 18446744073709551616) (k : ∀ r M', Dx n sv R M' → (most < 1 → r = 0) → (1 ≤ most → 0 ≤ r ∧ r < most) → P (.p (.int r)) M') : wpB (takeM [sv, .p (.int most)] M) P := by
  obtain ⟨B, rfl, h⟩ := h
  obtain ⟨kk, c, i, cells, rfl, hk, hc, kc, hi, ne, nn⟩ := h.ex
  have lk := (List.getElem?_eq_some_iff.mp hk).1
  have lc := (List.getElem?_eq_some_iff.mp hc).1
  obtain ⟨r, M', e, d, b0, b⟩ := take_raw (M := B ++ R) (by rw [List.getElem?_append_left lk]; exact hk) (by rw [List.getElem?_append_left lc]; exact hc) kc hi ne nn most hm
  refine ⟨_, _, e, ?_⟩
  rcases d with rfl | ⟨cells', rfl, ne', nn'⟩ | rfl
  · exact k r _ ⟨B, rfl, h⟩ b0 b
  · rw [List.set_append_left _ _ lc]
    exact k r _ ⟨_, rfl, ⟨by rw [List.length_set]; exact h.len, all_set h.cl (closed_ints n _) c, kk, c, i, cells', rfl, by rw [List.getElem?_set_ne kc.symm]; exact hk, by rw [List.getElem?_set_self lc]; rfl, kc, hi, ne', nn'⟩⟩ b0 b
  · rw [List.set_append_left _ _ lk]
    exact k r _ ⟨_, rfl, ⟨by rw [List.length_set]; exact h.len, all_set h.cl (show closed n (.lst [.p (.int (i + 1)), .o c]) = true from (List.all_eq_true.mp h.cl _ (List.mem_of_getElem? hk) : closed n (.lst [.p (.int i), .o c]) = true)) kk, kk, c, i + 1, cells, rfl, by rw [List.getElem?_set_self lk], by rw [List.getElem?_set_ne kc]; exact hc, kc, by omega, ne, nn⟩⟩ b0 b
end DL
namespace DL
open PySem L2
end DL
namespace DL
open PySem PySem.Spec L2 PyProof.Rows
/-! ### a statement, or an expression, that no run reaches -/
section
variable {K : PySem.W.Frag} {X : Cx} {W : WX} {st : Stmt} {ex : Expr}
end
/-! ### a def that calls itself: the promise of no step -/
/-! ### attributes of an instance of one's own -/
structure Kls (K : PySem.W.Frag) (C : Addr) (fs : List Str) : Prop where
  c : Cls K C
  n : ∀ f ∈ fs, NoAttr K C f
section
variable {K : PySem.W.Frag} {X : Cx} {W : WX} {o e value : Expr} {es : List Expr} {pos pos' apos tpos p : Pos} {ta tv te : TE} {t : TA} {m mv : EM} {ms : AM} {f : Str} {C : Addr} {fl : List Str}
end
/-! ### methods of one's own classes -/
section
variable {X : Cx} {CX : CXT} {k : Nat} {C f : Addr} {fd : FuncData} {ps : List Str} {mn : Str} {sp : Sp} {E : L2.St → XK} {o e : Expr} {es : List Expr} {ta : TE} {t : TA} {apos pos : Pos}
end
section
variable {K : PySem.W.Frag} {X : Cx} {W : WX} {o e : Expr} {es : List Expr} {pos apos : Pos} {ta : TE} {t : TA} {m : EM} {ms : AM} {mn : Str} {C fa : Addr} {fl : List Str} {n k : Nat} {g : List DV → List O → Option (Rs DV)} {fd : FuncData} {ps : List Str}
end
end DL
namespace DL
open PySem PySem.Spec L2 PyProof.Rows
/-! ### an instance is made -/
section
variable {X : Cx} {CX : CXT} {k : Nat} {C f : Addr} {fd : FuncData} {ps : List Str} {sp : Sp} {E : L2.St → XK} {e : Expr} {es : List Expr} {t : TA} {pos p : Pos} {x : Str}
end
section
variable {K : PySem.W.Frag} {X : Cx} {W : WX} {e : Expr} {es : List Expr} {pos p : Pos} {t : TA} {ms : AM} {x : Str} {C fa : Addr} {n k : Nat} {g : List DV → List O → Option (Rs DV)} {fd : FuncData} {ps : List Str}
end
/-- a method as the class holds it -/
structure Dm (K : PySem.W.Frag) (C : Addr) (nm qual : Str) (st : Stmt) (ps : List Str) where
  a : Addr
  fd : FuncData
  F : Fun K nm qual st a fd
  m : Meth K C nm a
  b : Binds K fd ps []
end DL
namespace DL
open PySem PySem.Spec L2 PyProof.Rows
/-! ### text.find(part, from) -/
section
variable {K : PySem.W.Frag} {X : Cx} {W : WX}
/-! ### xs[::-1] -/
end
/-! ### d.get(k, z), k in d, k not in d, of a dict of the module -/
section
variable {X : Cx} {e z : Expr} {te tz : TE} {x : Str} {a : Addr} {p apos pos : Pos}
end
structure GK (K : PySem.W.Frag) (w : World) (mg : Str → Option Value) (x : Str) (kvs : List (Str × D)) (miss : List Str) where
  a : Addr
  m : mg x = some (.ref a)
  ex : ∃ es n, K.lookup a = some ⟨.type "dict", none, .dict es n, #[]⟩ ∧ PySem.W.KeysLit w.params es.toList
  lo : (a == sysModules) = false
  at_ : ∀ z d, kvs.lookup z = some d → ∃ v, KDct K w a z v ∧ ∀ Z, Rep K Z v d
  no : ∀ z, z ∈ miss → KIn K w a z false
section
variable {K : PySem.W.Frag} {X : Cx} {W : WX} {e z : Expr} {te tz : TE} {m n : EM} {mg : Str → Option Value} {w : World} {x : Str} {kvs : List (Str × D)} {miss keys : List Str} {p apos pos : Pos}
def ninKd (keys miss : List Str) : D → EM
  | .str z => fun s => if z ∈ keys then some (.ok (.p (.bl false)) s.m) else if z ∈ miss then some (.ok (.p (.bl true)) s.m) else none
  | _ => fun _ => none
def mNinKd (keys miss : List Str) (m : EM) : EM := bnd m (pur (ninKd keys miss))
@[simp] theorem e_ninKdm (s : S) : mNinKd keys miss m s = (bnd m (pur (ninKd keys miss))) s := rfl
@[simp] theorem e_ninKdS (z : Str) (s : S) : ninKd keys miss (.str z) s = if z ∈ keys then some (.ok (.p (.bl false)) s.m) else if z ∈ miss then some (.ok (.p (.bl true)) s.m) else none := rfl
end
end DL
namespace DL
open PySem PySem.Spec L2 PyProof.Rows
/-! ### text.replace('a', 'b'): a written text has been read ahead of it -/
structure DET (K : PySem.W.Frag) (X : Cx) (W : WX) (e : Expr) (t : TE) (m : EM) : Prop where
  k : X.K = K
  pe : PET X e t
  so : Sound K W (RepV K) t m
structure DSsT (K : PySem.W.Frag) (X : Cx) (W : WX) (st : List Stmt) (t : TS) (m : SM) : Prop where
  k : X.K = K
  ps : PSsT X st t
  so : SoundS K W t m
structure DST (K : PySem.W.Frag) (X : Cx) (W : WX) (st : Stmt) (t : TS) (m : SM) : Prop where
  k : X.K = K
  ps : PST X st t
  so : SoundS K W t m
section
variable {K : PySem.W.Frag} {X : Cx} {W : WX} {o e : Expr} {te : TE} {m : EM} {pos p p' : Pos} {y z c : Str}
end
end DL
namespace DL
open PySem PySem.Spec L2 PyProof.Rows
/-- a class of one's own as the top holds it -/
structure Kl (K : PySem.W.Frag) (mg : Str → Option Value) (nm : Str) (fl : List Str) where
  a : Addr
  m : mg nm = some (.ref a)
  k : Kls K a fl
end DL
/-! a slice of a tuple (not the whole one) -/
namespace DL
open PySem PySem.Spec L2 PyProof.Rows
section
variable {K : PySem.W.Frag} {X : Cx} {W : WX} {e a b c : Expr} {es : List Expr} {pos : Pos}
def slT (d : D) (l u : Option Int) : Option D := match d with
  | .tup xs => if HT.sIx xs.length 0 l = 0 ∧ HT.sIx xs.length xs.length u = xs.length then none else some (.tup (cutD xs l u))
  | d => slD d l u
def mSlT (m : EM) (ml mu : PM) : EM := bnd m (pur fun d => bnd ml fun i => bnd mu fun j => ret (slT d i j))
theorem de_slT {te : TE} {tl th : TO} {m : EM} {ml mu : PM} {lo hi : Option Expr} {p2 : Pos} (h : DE K X W e te m) (hl : DP K X W lo tl ml) (hh : DP K X W hi th mu) : DE K X W (.Subscript e (.Slice lo hi none p2) pos) (tSl (rSl K) te tl th) (mSlT m ml mu) := by
  refine ⟨h.k, ?_, ⟨fun σ H s Z I r0 Q w rs e p => ?_⟩⟩
  · have q := pe_slice (X := X) (pos := pos) (p2 := p2) sl_any h.pe hl.po hh.po
    rw [h.k] at q
    exact q
  · refine h.so.bnd w rs e p.x fun d v M1 Z1 H1 I1 w1 rs1 x1 q1 e1 => ?_
    obtain ⟨d, rfl, e1⟩ := pur_ok e1
    have p1 := p.mono x1
    refine hl.so.bnd (s := ⟨s.l, M1⟩) w1 rs1 e1 p1.x fun i i' M2 Z2 H2 I2 w2 rs2 x2 q2 e2 => ?_
    cases (show i' = i from q2)
    have p2 := p1.mono x2
    refine hh.so.bnd (s := ⟨s.l, M2⟩) w2 rs2 e2 p2.x fun j j' M3 Z3 H3 I3 w3 rs3 x3 q3 e3 => ?_
    cases (show j' = j from q3)
    obtain ⟨c, hc, rfl⟩ := ret_ok e3
    have hx : Rep K Z3 v d := Rep.mono x3.z (Rep.mono x2.z q1)
    unfold slT at hc
    split at hc
    · rename_i xs
      split at hc
      · cases hc
      · rename_i hn
        cases hc
        cases hx with
        | tup h1 h2 =>
          have pp := PostP.of w3 (p2.mono x3)
          refine .inr (.inr ⟨_, _, rfl, .inl (.inl (w3.sub _ _ h1)), by rw [h2.length]; exact hn, fun l hl => pp _ _ _ (ExtP.new w3.sub hl) (.tup upd_same ((h2.cut _ _).mono (same_upd (none_of w3.sub hl))))⟩)
    · rename_i hn
      exact sl_ok w3.sub hx hc (PostP.of w3 (p2.mono x3)) fun xs h => hn xs h
end
end DL
namespace DL
open PySem L2
/-! exceptions of own classes: made, raised, caught -/
/-- what is known of a class over ValueError that has no own __init__ -/
structure Gx (K : PySem.W.Frag) (G : Addr) : Prop where
  g1 : PySem.W.specialIn K (.ref G) "__getattribute__" = some (some (.builtin "type.__getattribute__"))
  g2 : PySem.W.readsIn K G (.type "type") = true
  g3 : PySem.W.findCls K (.ref G) (.type "type") "__init__" = some (.val (.builtin "ValueError.__init__"))
section
variable {X : Cx} {x : Str} {G : Addr} {e : Expr} {es : List Expr} {ta : TA} {p1 p2 pos : Pos} {pl : Sem Bool}
end
/-- what a text in braces may be: an int of few digits, a text -/
def fsOk : D → Bool
  | .int i => decide (0 ≤ i ∧ i ≤ 1000000)
  | .str x => decide (x.length ≤ 900000)
  | _ => false
structure IniB (K : PySem.W.Frag) (X : Cx) (W : WX) (fld : Str) (body : List Stmt) : Prop where
  ex : ∃ (ta : TA) (to te : TE) (ms : AM), PSs X body (tSeq (tDrop (tVeI K ta)) (tOst K fld to te)) ∧ Sound K W (RepVs K) ta ms ∧ Sound K W (RepV K) to (mVar 0) ∧ Sound K W (RepV K) te (mVar 1) ∧
    ∀ (a : Addr) (d : D), fsOk d = true → ∃ z, ms ⟨[some (.p (.fn a)), some (.p d)], []⟩ = some (.ok [.p (.fn a), .p (.str z)] [])
section
variable {K : PySem.W.Frag} {X : Cx} {W : WX} {x fld : Str} {G : Addr} {e1 e2 o y : Expr} {ta : TA} {ms : AM} {to te : TE} {p1 p2 pos p3 p4 spos : Pos} {pl : Sem Bool}
end
section
variable {P : Program} {w : World} {K : PySem.W.Frag} {mg : Str → Option Value} {base : Heap} {x qual n fld : Str} {st : Stmt} {f C : Addr} {fd : FuncData} {k : Nat}
end
/-! raise C(e) -/
/-- what is known of a class whose exceptions are raised -/
structure Ek (K : PySem.W.Frag) (mg : Str → Option Value) (nm fld qual : Str) (st : Stmt) (n : Str) where
  a : Addr
  f : Addr
  fd : FuncData
  m : mg nm = some (.ref a)
  T : OexC K a
  no : PySem.W.findIn K (.ref a) fld = some none
  i : PySem.W.findIn K (.ref a) "__init__" = some (some (.ref f))
  t : PySem.W.typeIn K (.ref f) = some (.type "function")
  F : Fun K "__init__" qual st f fd
  b : Binds K fd ["self", n] []
  C : ExcC K a
  X : XfC K a
structure Gk (K : PySem.W.Frag) (mg : Str → Option Value) (nm : Str) where
  a : Addr
  m : mg nm = some (.ref a)
  g : Gx K a
section
variable {K : PySem.W.Frag} {X : Cx} {W : WX} {x n f qual : Str} {st : Stmt} {e : Expr} {te : TE} {m : EM} {p p2 pos : Pos} {C : Addr} {k kk : Nat} {mg : Str → Option Value}
end
/-! try: .. except G as e: .. -/
/-- what a suite does with the caught exception: a value is returned -/
structure TX (K : PySem.W.Frag) (i : Nat) (t : Addr → Value → Option Addr → TT) (m : Addr → Option Bool) : Prop where
  ok : ∀ (a c : Addr) (d : Option Addr) (fs : List (Str × D)) (σ : St) (H Z : Hp) (b : Bool) (Q : Bool → Hp → Prop), fs.isEmpty = false → Same Z H → σ[i]? = some (some (.ref a)) → ExcAt K Z H d fs → m c = some b → Q b H → t a (.ref c) d σ H Q
structure RX (K : PySem.W.Frag) (i : Nat) (t : Addr → Value → Option Addr → TE) (m : Addr → List (Str × D) → Option D) : Prop where
  ok : ∀ (a c : Addr) (d : Option Addr) (fs : List (Str × D)) (σ : St) (H Z : Hp) (y : D) (Q : VK), fs.isEmpty = false → Same Z H → σ[i]? = some (some (.ref a)) → ExcAt K Z H d fs → m c fs = some y → PostP K Z H y Q → t a (.ref c) d σ H Q
structure HXs (K : PySem.W.Frag) (X : Cx) (i : Nat) (body : List Stmt) (hm : Addr → List (Str × D) → Option D) : Prop where
  ex : ∃ ts : Addr → Value → Option Addr → TS, (∀ (a : Addr) (oe : Obj) (cls : Value) (d : Option Addr) (pn : List (Addr × Obj)), Zc cls d oe → (∃ vs, oe.data = .fields vs) → PSs (X.suite a ((a, oe) :: pn)) body (ts a cls d)) ∧
    ∀ (a c : Addr) (d : Option Addr) (fs : List (Str × D)) (σ : St) (H Z : Hp) (y : D) (E : Ends), fs.isEmpty = false → Same Z H → σ[i]? = some (some (.ref a)) → ExcAt K Z H d fs → hm c fs = some y → PostP K Z H y E.rt → ts a (.ref c) d E σ H
section
variable {K : PySem.W.Frag} {X : Cx} {W : WX} {x n : Str} {cc : Value} {i : Nat} {body suite : List Stmt} {b₀ : Stmt} {np pos pos' : Pos} {tb : WX → TS} {mb : SM} {hm : Addr → List (Str × D) → Option D} {cs : List (Addr × Bool)}
end
/-! what suites ask: isinstance(e, C), e.f -/
def SX (X : Cx) (K : PySem.W.Frag) (e : Expr) (t : Addr → Value → Option Addr → TT) : Prop := X.K = K ∧ ∀ (a : Addr) (oe : Obj) (cls : Value) (d : Option Addr) (pn : List (Addr × Obj)), Zc cls d oe → (∃ vs, oe.data = .fields vs) → PT (X.suite a ((a, oe) :: pn)) e (t a cls d)
def SW (X : Cx) (K : PySem.W.Frag) (e : Expr) (t : Addr → Value → Option Addr → TT) : Prop := X.K = K ∧ ∀ (a : Addr) (oe : Obj) (cls : Value) (d : Option Addr) (pn : List (Addr × Obj)), Zc cls d oe → (∃ vs, oe.data = .fields vs) → PW (X.suite a ((a, oe) :: pn)) e (t a cls d)
def SE (X : Cx) (K : PySem.W.Frag) (e : Expr) (t : Addr → Value → Option Addr → TE) : Prop := X.K = K ∧ ∀ (a : Addr) (oe : Obj) (cls : Value) (d : Option Addr) (pn : List (Addr × Obj)), Zc cls d oe → (∃ vs, oe.data = .fields vs) → PE (X.suite a ((a, oe) :: pn)) e (t a cls d)
/-- a test, a value of the suite -/
structure DTX (K : PySem.W.Frag) (X : Cx) (i : Nat) (e : Expr) (m : Addr → Option Bool) : Prop where
  ex : ∃ t, SX X K e t ∧ TX K i t m
structure DWX (K : PySem.W.Frag) (X : Cx) (i : Nat) (e : Expr) (m : Addr → Option Bool) : Prop where
  ex : ∃ t, SW X K e t ∧ TX K i t m
structure DEX (K : PySem.W.Frag) (X : Cx) (i : Nat) (e : Expr) (m : Addr → List (Str × D) → Option D) : Prop where
  ex : ∃ t, SE X K e t ∧ RX K i t m
section
variable {K : PySem.W.Frag} {X : Cx} {e e1 e2 : Expr} {i : Nat} {pos p p1 p2 : Pos} {x y f : Str} {cc : Addr} {cs : List (Addr × Bool)} {m m1 m2 : Addr → Option Bool} {h h1 h2 : Addr → List (Str × D) → Option D}
end
end DL
namespace DL
open PySem L2
structure Ok (K : PySem.W.Frag) (mg : Str → Option Value) (nm : Str) where
  a : Addr
  m : mg nm = some (.ref a)
section
variable {α : Type} {P : Addr → α → Prop} {Q : Addr → Prop} {a : Addr} {v : α} {cs : List (Addr × α)} {bs : List (Addr × Bool)}
end
end DL
namespace DL
open PySem L2 PyProof.Rows
section
variable {K : PySem.W.Frag} {X : Cx}
/-! lists times an int, longer texts times an int -/
/-! calls without arguments -/
end
end DL
namespace DL
open PySem L2 PyProof.Rows
/-! any text in a dict of the module whose keys are texts -/
structure GInA (K : PySem.W.Frag) (w : World) (mg : Str → Option Value) (x : Str) (keys : List Str) where
  a : Addr
  m : mg x = some (.ref a)
  all : ∀ z, KIn K w a z (decide (z ∈ keys))
section
variable {K : PySem.W.Frag} {X : Cx} {W : WX} {e : Expr} {pos p : Pos} {te : TE} {m : EM} {mg : Str → Option Value} {w : World} {x : Str} {keys : List Str}
end
/-! a pair as a suite's value -/
theorem ExcAt.mono {K : PySem.W.Frag} {Z H Z' H' : Hp} {d : Option Addr} {fs : List (Str × D)} (x : ExtP Z H Z' H') (h : ExcAt K Z H d fs) : ExcAt K Z' H' d fs := by
  rcases h with h | ⟨a, vs, h1, h2, h3⟩
  · exact .inl h
  · exact .inr ⟨a, vs, h1, x.h _ _ h2, paired_imp (fun _ _ q => ⟨q.1, q.2.mono x.z⟩) h3⟩
section
variable {K : PySem.W.Frag} {X : Cx} {e1 e2 : Expr} {i : Nat} {pos : Pos} {m n : Addr → List (Str × D) → Option D}
end
end DL
namespace DL
open PySem PySem.Spec PyProof.Rows L2 LamX NdefX
/-! ### cells that are held still for a call, or let go for one -/
def without (H : Hp) (cs : Addr → Option Obj) : Hp := fun b => if (cs b).isSome then none else H b
section
variable {P : Program} {w : World} {H H' : Hp} {h : Heap} {cs : Addr → Option Obj}
end
section
variable {P : Program} {w : World} {H : Hp} {cs : Addr → Option Obj} {outer : List Env} {s s' : Shared} {Q : VK} {u : Value}
end
end DL
namespace DL
open PySem PySem.Spec PyProof.Rows L2 LamX NdefX
/-! ### data without closures -/
mutual
def noClo : D → Bool
  | .clo _ _ => false
  | .lst xs => noClos xs
  | .tup xs => noClos xs
  | .ktup xs => noClos xs
  | .klst xs => noClos xs
  | .scr xs => noClos xs
  | .dK _ => false
  | .dT _ => false
  | .non => true | .bl _ => true | .int _ => true | .str _ => true | .fn _ => true | .ty _ => true | .rng _ _ => true
def noClos : List D → Bool
  | [] => true
  | d :: r => noClo d && noClos r
end
section
variable {K : PySem.W.Frag} {Z Z' : Hp}
theorem seq_keep (e : ∀ b x, Z b = some x → (∀ o, x ≠ cellO o) → Z' b = some x) {a : Addr} {xs : List V} (h : SqL K Z a xs) : SqL K Z' a xs := by
  rcases h with (h | ⟨o, h⟩) | h
  · exact .inl (.inl (e _ _ h fun o z => by cases z))
  · exact .inl (.inr ⟨o, e _ _ h fun o z => by cases z⟩)
  · exact .inr h
mutual
/-- what is no cell is kept: so is what stands for data -/
theorem Rep.keep (e : ∀ b x, Z b = some x → (∀ o, x ≠ cellO o) → Z' b = some x) : ∀ {v : V} {d : D}, noClo d = true → Rep K Z v d → Rep K Z' v d
  | _, _, _, .non => .non
  | _, _, _, .bl b => .bl b
  | _, _, _, .int i => .int i
  | _, _, _, .str x => .str x
  | _, _, n, .lst h r => .lst (by
    rcases h with h | ⟨o, h⟩
    · exact .inl (e _ _ h fun o z => by cases z)
    · exact .inr ⟨o, e _ _ h fun o z => by cases z⟩) (RepA.keep e (by simpa [noClo] using n) r)
  | _, _, n, .tup h r => .tup (e _ _ h fun o z => by cases z) (RepA.keep e (by simpa [noClo] using n) r)
  | _, _, n, .ktup h r => .ktup (by
    rcases h with (h | ⟨o, h⟩) | h
    · exact .inl (.inl (e _ _ h fun o z => by cases z))
    · exact .inl (.inr ⟨o, e _ _ h fun o z => by cases z⟩)
    · exact .inr h) (RepA.keep e (by simpa [noClo] using n) r)
  | _, _, n, .klst h r => .klst (seq_keep e h) (RepA.keep e (by simpa [noClo] using n) r)
  | _, _, _, .fn a => .fn a
  | _, _, _, .ty n => .ty n
  | _, _, _, .rng h => .rng (e _ _ h fun o z => by cases z)
  | _, _, n, .scr h r => .scr (seq_keep e h) (RepA.keep e (by simpa [noClo] using n) r)
  | _, _, n, .clo _ _ => by simp [noClo] at n
  | _, _, n, .dK _ _ => by simp [noClo] at n
  | _, _, n, .dT _ _ => by simp [noClo] at n
theorem RepA.keep (e : ∀ b x, Z b = some x → (∀ o, x ≠ cellO o) → Z' b = some x) : ∀ {v : List V} {d : List D}, noClos d = true → RepA K Z v d → RepA K Z' v d
  | _, _, _, .nil => .nil
  | _, _, n, .cons h r => by
    have n : (noClo _ && noClos _) = true := n
    rw [Bool.and_eq_true] at n
    exact .cons (Rep.keep e n.1 h) (RepA.keep e n.2 r)
end
end
end DL
namespace DL
open PySem PySem.Spec PyProof.Rows L2 LamX NdefX
/-! ### the promise of a lambda that captures: its mirror takes the arguments and what is captured -/
def spW (K : PySem.W.Frag) (n : Nat) (m : MA) (ws : List (Option V)) : Sp := fun vs H Q _ => vs.length = n ∧ ∃ Z ds cvs cs r, Same Z H ∧ RepA K Z vs ds ∧ ws = cvs.map some ∧ RepA K Z cvs cs ∧ m (ds ++ cs) = some (.ok r) ∧ PostP K Z H r Q
section
variable {P : Program} {w : World} {K : PySem.W.Frag} {mg : Str → Option Value} {base : Heap} {N ps fr : List Str} {F : NF} {f : Addr} {k : Nat} {body : Expr} {em : EM}
end
/-! ### the call of a closure -/
theorem look_mem {α β : Type} [BEq α] [LawfulBEq α] {y : α} {b : β} : ∀ {l : List (α × β)}, l.lookup y = some b → (y, b) ∈ l
  | [], h => by cases h
  | (z, c) :: r, h => by
    rw [List.lookup_cons] at h
    cases q : y == z with
    | true =>
      rw [q] at h
      cases h
      rw [eq_of_beq q]
      exact .head _
    | false =>
      rw [q] at h
      exact .tail _ (look_mem h)
/-- what a lambda of the text does, wherever it was made -/
def CloOk (P : Program) (w : World) (K : PySem.W.Frag) (mg : Str → Option Value) (base : Heap) (k n : Nat) (L : LamS) (m : MA) : Prop :=
  ∃ ps : List Str, ps.length = n ∧ ∀ a c cl, LOk P w K mg base (L2.CX P w) k a (L.nf cl c) L.body ps L.fr (fun ws => spW K n m ws)
section
variable {X : Cx} {pins : List (Addr × Obj)} {σ : L2.St} {H : Hp} {s : Shared}
end
end DL
namespace DL
open PySem PySem.Spec PyProof.Rows L2 LamX NdefX
/-! ### the call of a local that holds a closure -/
open Classical in
/-- the mirror of a lambda: told by its number, then known to be the same -/
noncomputable def tbm : List (LamS × MA) → LamS → Option MA
  | [], _ => none
  | (L0, m) :: r, L => if L0.ix = L.ix then (if L0 = L then some m else none) else tbm r L
section
variable {K : PySem.W.Frag} {X : Cx} {W : WX} {e : Expr} {es : List Expr} {pos p : Pos} {x : Str} {i n k : Nat} {tb : List (LamS × MA)} {t : TA} {ms : AM}
end
end DL
namespace DL
open PySem PySem.Spec PyProof.Rows L2 LamX NdefX
/-! ### a def is called with a lambda that is made for the call -/
section
variable {X : Cx} {pins : List (Addr × Obj)} {σ : L2.St} {H : Hp} {s : Shared}
end
end DL
namespace DL
open PySem PySem.Spec PyProof.Rows L2 LamX NdefX
/-! ### f(e, lambda ..): the rule -/
section
variable {K : PySem.W.Frag} {X : Cx} {W : WX} {e : Expr} {pos p lpos : Pos} {x : Str} {k : Nat}
end
end DL
namespace DL
open PySem PySem.Spec PyProof.Rows L2 LamX NdefX
/-! ### lambdas out of the text -/
section
variable {P : Program} {w : World} {K : PySem.W.Frag} {mg : Str → Option Value} {base : Heap}
theorem CloOk.mono {k k' n : Nat} {L : LamS} {m : MA} (h : CloOk P w K mg base k n L m) (e : k ≤ k') : CloOk P w K mg base k' n L m := by
  obtain ⟨ps, hp, F⟩ := h
  exact ⟨ps, hp, fun a c cl => ⟨(F a c cl).len, fun A outer s H us vs ws Q E hr => (F a c cl).run A outer s H us vs ws Q E (hr.mono e)⟩⟩
end
@[simp] theorem tbm_hit (L : LamS) (m : MA) (r : List (LamS × MA)) : tbm ((L, m) :: r) L = some m := by
  unfold tbm
  rw [if_pos rfl, if_pos rfl]
/-! ### methods without arguments: l.pop(), l.clear() -/
section
variable {K : PySem.W.Frag} {X : Cx} {W : WX} {e : Expr} {es : List Expr} {pos : Pos}
def gPop : MtG := fun d ds s => match d, ds with
  | .o n, [] => match s.m[n]? with
    | some (.lst xs) => match xs[xs.length - 1]? with
      | some x => some (.ok x (s.m.set n (.lst xs.dropLast)))
      | none => none
    | _ => none
  | _, _ => none
def gClear : MtG := fun d ds s => match d, ds with
  | .o n, [] => match s.m[n]? with
    | some (.lst _) => some (.ok (.p .non) (s.m.set n (.lst [])))
    | _ => none
  | _, _ => none
/-! ### tuples one behind the other -/
def dCatT : D → D → Option D
  | .tup (x :: xs), .tup (y :: ys) => if xs.length + ys.length + 2 ≤ 1000000 then some (.tup (x :: xs ++ y :: ys)) else none
  | _, _ => none
theorem od_catT : OpD K X (binaryOp .Add) (rCatT K) dCatT where
  op := fun k pins s σ H x y v u Q I rx ry h => by
    subst k
    exact op_catT pins s σ H x y v u Q I rx ry h
  ok := by
    intro x y d e c Z H Q s hx hy hg p
    unfold dCatT at hg
    split at hg
    · split at hg
      · rename_i hl
        cases hg
        cases hx with
        | tup h1 h2 =>
        cases hy with
        | tup h3 h4 =>
        cases h2 with
        | cons h5 h6 =>
        cases h4 with
        | cons h7 h8 =>
        refine ⟨_, _, _, _, rfl, rfl, sqt s h1, sqt s h3, by simp, ?_, (fun z => by cases z), fun _ l hl => p _ _ _ (ExtP.new s hl) (.tup upd_same (((RepA.cons h5 h6).append (.cons h7 h8)).mono (same_upd (none_of s hl))))⟩
        have := h6.length
        have := h8.length
        exact size_le (by simp only [List.length_cons]; omega)
      · cases hg
    · cases hg
end
@[simp] theorem e_catT (x y : D) (xs ys : List D) : dCatT (.tup (x :: xs)) (.tup (y :: ys)) = if xs.length + ys.length + 2 ≤ 1000000 then some (.tup (x :: xs ++ y :: ys)) else none := rfl
@[simp] theorem e_pop (n : Nat) (s : S) : gPop (.o n) [] s = (match s.m[n]? with | some (.lst xs) => (match xs[xs.length - 1]? with | some x => some (.ok x (s.m.set n (.lst xs.dropLast))) | none => none) | _ => none) := rfl
@[simp] theorem e_clear (n : Nat) (s : S) : gClear (.o n) [] s = (match s.m[n]? with | some (.lst _) => some (.ok (.p .non) (s.m.set n (.lst []))) | _ => none) := rfl
end DL
namespace DL
open PySem
/-! ### addresses that differ, by computing -/
end DL
namespace DL
open PySem L2
/-! ### drawing over any invariant that a draw keeps; the drawn state behind any number of tables -/
structure Dw (sv : DV) (n : Nat) (Iv : List O → Prop) : Prop where
  len : ∀ {M : List O}, Iv M → M.length = n
  tk : ∀ {M : List O} {most : Int} {P : DV → List O → Prop}, Iv M → most < 18446744073709551616 → (∀ r M', Iv M' → (most < 1 → r = 0) → (1 ≤ most → 0 ≤ r ∧ r < most) → P (.p (.int r)) M') → wpB (takeM [sv, .p (.int most)] M) P
theorem Dw.dr (n : Nat) (sv : DV) : Dw sv n (Dr n sv) := ⟨fun h => h.len, fun h hm k => wp_take h hm k⟩
theorem Dw.dx (n : Nat) (sv : DV) (R : List O) : Dw sv (n + R.length) (Dx n sv R) := ⟨fun h => h.len, fun h hm k => wp_takeX h hm k⟩
theorem Dw.drop {sv : DV} {n : Nat} {Iv : List O → Prop} (W : Dw sv n Iv) {M M' : List O} (h : Iv M) (h' : Iv M') (d : DV) : dropM M.length d M' = M' := dropM_len (by rw [W.len h, W.len h'])
structure Db (Ts : List O) (n : Nat) (sv : DV) (B : List O) : Prop where
  len : B.length = n
  tb : ∀ i, i < Ts.length → B[i]? = Ts[i]?
  cl : B.all (closed n) = true
  ex : ∃ (k c : Nat) (i : Int) (cells : List Int), sv = .o k ∧ Ts.length ≤ k ∧ Ts.length ≤ c ∧ B[k]? = some (.lst [.p (.int i), .o c]) ∧ B[c]? = some (intL cells) ∧ k ≠ c ∧ 0 ≤ i ∧ cells ≠ [] ∧ ∀ z ∈ cells, 0 ≤ z
def Dbx (Ts : List O) (n : Nat) (sv : DV) (R M : List O) : Prop := ∃ B, M = B ++ R ∧ Db Ts n sv B
theorem Dbx.of {Ts : List O} {n : Nat} {sv : DV} {M : List O} (h : Db Ts n sv M) : Dbx Ts n sv [] M := ⟨M, (List.append_nil _).symm, h⟩
theorem Dbx.nil {Ts : List O} {n : Nat} {sv : DV} {M : List O} (h : Dbx Ts n sv [] M) : Db Ts n sv M := by obtain ⟨B, rfl, h⟩ := h; rwa [List.append_nil]
theorem Dbx.len {Ts : List O} {n : Nat} {sv : DV} {R M : List O} (h : Dbx Ts n sv R M) : M.length = n + R.length := by obtain ⟨B, rfl, h⟩ := h; rw [List.length_append, h.len]
theorem Dbx.get {Ts : List O} {n : Nat} {sv : DV} {R M : List O} (h : Dbx Ts n sv R M) (i : Nat) : M[n + i]? = R[i]? := by
  obtain ⟨B, rfl, h⟩ := h
  rw [List.getElem?_append_right (by rw [h.len]; omega), h.len]
  congr 1; omega
theorem Dbx.set {Ts : List O} {n : Nat} {sv : DV} {R M : List O} (h : Dbx Ts n sv R M) (i : Nat) (o : O) : Dbx Ts n sv (R.set i o) (M.set (n + i) o) := by
  obtain ⟨B, rfl, h⟩ := h
  refine ⟨B, ?_, h⟩
  rw [List.set_append_right _ _ (by rw [h.len]; omega), h.len]
  congr 2; omega
theorem Dbx.tab {Ts : List O} {n : Nat} {sv : DV} {R M : List O} (h : Dbx Ts n sv R M) (hn : Ts.length ≤ n) (i : Nat) (hi : i < Ts.length) : M[i]? = Ts[i]? := by
  obtain ⟨B, rfl, h⟩ := h
  rw [List.getElem?_append_left (by rw [h.len]; omega), h.tb i hi]
theorem Db.le {Ts : List O} {n : Nat} {sv : DV} {B : List O} (h : Db Ts n sv B) : Ts.length ≤ n := by
  obtain ⟨k, c, i, cells, rfl, k0, c0, hk, _⟩ := h.ex
  have := (List.getElem?_eq_some_iff.mp hk).1
  rw [h.len] at this
  omega
theorem Dbx.drop {Ts : List O} {n : Nat} {sv : DV} {R G M : List O} {d : D} (h : Dbx Ts n sv (R ++ G) M) (hR : R.all (closed (n + R.length)) = true) {k : Nat} (hk : k = n + R.length) : Dbx Ts n sv R (dropM k (.p d) M) := by
  subst hk
  obtain ⟨B, rfl, h⟩ := h
  have e : (B ++ (R ++ G)).take (n + R.length) = B ++ R := by
    rw [← List.append_assoc, List.take_append_of_le_length (by rw [List.length_append, h.len]; exact Nat.le_refl _), List.take_of_length_le (by rw [List.length_append, h.len]; exact Nat.le_refl _)]
  have c : (B ++ R).all (closed (n + R.length)) = true := by
    rw [List.all_append, hR, Bool.and_true]
    exact List.all_eq_true.mpr fun o ho => closed_mono (Nat.le_add_right _ _) o (List.all_eq_true.mp h.cl o ho)
  unfold dropM
  rw [e, c]
  exact ⟨B, rfl, h⟩
theorem wp_takeB {Ts : List O} {n : Nat} {sv : DV} {R M : List O} {most : Int} {P : DV → List O → Prop} (h : Dbx Ts n sv R M) (hm : most < 18446744073709551616) (k : ∀ r M', Dbx Ts n sv R M' → (most < 1 → r = 0) → (1 ≤ most → 0 ≤ r ∧ r < most) → P (.p (.int r)) M') : wpB (takeM [sv, .p (.int most)] M) P := by
  obtain ⟨B, rfl, h⟩ := h
  obtain ⟨kk, c, i, cells, rfl, k0, c0, hk, hc, kc, hi, ne, nn⟩ := h.ex
  have lk := (List.getElem?_eq_some_iff.mp hk).1
  have lc := (List.getElem?_eq_some_iff.mp hc).1
  obtain ⟨r, M', e, d, b0, b⟩ := take_raw (M := B ++ R) (by rw [List.getElem?_append_left lk]; exact hk) (by rw [List.getElem?_append_left lc]; exact hc) kc hi ne nn most hm
  refine ⟨_, _, e, ?_⟩
  rcases d with rfl | ⟨cells', rfl, ne', nn'⟩ | rfl
  · exact k r _ ⟨B, rfl, h⟩ b0 b
  · rw [List.set_append_left _ _ lc]
    exact k r _ ⟨_, rfl, ⟨by rw [List.length_set]; exact h.len, fun j hj => by rw [List.getElem?_set_ne (by omega)]; exact h.tb j hj, all_set h.cl (closed_ints n _) c, kk, c, i, cells', rfl, k0, c0, by rw [List.getElem?_set_ne kc.symm]; exact hk, by rw [List.getElem?_set_self lc], kc, hi, ne', nn'⟩⟩ b0 b
  · rw [List.set_append_left _ _ lk]
    exact k r _ ⟨_, rfl, ⟨by rw [List.length_set]; exact h.len, fun j hj => by rw [List.getElem?_set_ne (by omega)]; exact h.tb j hj, all_set h.cl (show closed n (.lst [.p (.int (i + 1)), .o c]) = true from (List.all_eq_true.mp h.cl _ (List.mem_of_getElem? hk) : closed n (.lst [.p (.int i), .o c]) = true)) kk, kk, c, i + 1, cells, rfl, k0, c0, by rw [List.getElem?_set_self lk], by rw [List.getElem?_set_ne kc]; exact hc, kc, by omega, ne, nn⟩⟩ b0 b
theorem Dw.db (Ts : List O) (n : Nat) (sv : DV) : Dw sv n (Db Ts n sv) := ⟨fun h => h.len, fun h hm k => wp_takeB (Dbx.of h) hm fun r M' h' => k r M' h'.nil⟩
theorem state_Ts (Ts : List O) (hT : ∀ o ∈ Ts, ∃ P q, o = O.tbl P q) (ns : List Int) (hl : ns.length ≤ 63) : ∃ n sv B, stateM [.p (.scr (ns.map .int))] Ts = some (.ok sv B) ∧ Db Ts n sv B := by
  have hcl : ∀ m, Ts.all (closed m) = true := fun m => List.all_eq_true.mpr fun o ho => by
    obtain ⟨P, q, rfl⟩ := hT o ho; rfl
  have hc : slE (.scr (ns.map D.int)) none (some 63) = some (.lst (ns.map D.int)) := by
    show some (D.lst (cutD (ns.map D.int) none (some 63))) = _
    rw [cut63 _ (by simpa using hl)]
  have hm : compL [some (.p (.scr (ns.map .int))), none, none] (gN 2) tYesM (mCB (g1 dAbs) (aCons (mVar 2) aNil)) ((ns.map D.int).map DV.p) [] Ts = some ((ns.map iabs).map D.int, Ts) := by
    rw [compL_map (f := fun d => match d with | .p (.int i) => .int (iabs i) | _ => .non) ((ns.map D.int).map DV.p) (fun d hd => by
      rw [List.map_map] at hd
      obtain ⟨i, _, rfl⟩ := List.mem_map.mp hd
      exact ⟨_, rfl, rfl, by simp [e_bnd, iabs]⟩) (by simp; omega)]
    simp
  have dr : ∀ (j : Nat) (M : List O), Ts.length ≤ j → dropM Ts.length (.o j) M = M := fun j M hj => by
    unfold dropM
    have : ltO Ts.length (.o j) = false := by simp [ltO]; omega
    rw [this]; rfl
  by_cases he : ns = []
  · refine ⟨Ts.length + 3, .o (Ts.length + 2), Ts ++ [.lst [], .lst [.p (.int 0)], .lst [.p (.int 0), .o (Ts.length + 1)]], ?_, by simp, fun i hi => by rw [List.getElem?_append_left hi], ?_, Ts.length + 2, Ts.length + 1, 0, [0], rfl, by omega, by omega, ?_, ?_, by omega, by decide, by simp, by simp⟩
    · subst he
      simp only [List.map_nil] at hc hm
      simp [e_bnd, e_seq, e_lift, e_runA, e_runB, stateM, stateB, hc, hm, dr]
    · rw [List.all_append, hcl, Bool.true_and]
      simp [closed, ltO]
    · rw [List.getElem?_append_right (by omega)]; simp
    · rw [List.getElem?_append_right (by omega)]; simp [intL]
  · refine ⟨Ts.length + 2, .o (Ts.length + 1), Ts ++ [.lst ((ns.map iabs).map fun z => .p (.int z)), .lst [.p (.int 0), .o Ts.length]], ?_, by simp, fun i hi => by rw [List.getElem?_append_left hi], ?_, Ts.length + 1, Ts.length, 0, ns.map iabs, rfl, by omega, by omega, ?_, ?_, by omega, by decide, by simpa using he, ?_⟩
    · generalize hA : (ns.map iabs) = A at hm
      have hA' : A ≠ [] := by rw [← hA]; simpa using he
      have hA2 : ¬ A.length = 0 := by
        intro h; exact hA' (List.length_eq_zero_iff.mp h)
      generalize hB : ns.map D.int = B at hm hc
      simp [e_bnd, e_seq, e_lift, e_runA, e_runB, stateM, stateB, hc, hm, dr, hA', hA2]
    · have := closed_ints (Ts.length + 2) (ns.map iabs)
      rw [List.all_append, hcl, Bool.true_and]
      simp only [List.all_cons, List.all_nil, this]
      simp [closed, ltO]
    · rw [List.getElem?_append_right (by omega)]; simp
    · rw [List.getElem?_append_right (by omega)]; simp [intL]
    · intro z hz
      obtain ⟨y, _, rfl⟩ := List.mem_map.mp hz
      unfold iabs
      split <;> omega
end DL
namespace DL
open PySem PySem.Spec PyProof.Rows L2 LamX NdefX
/-! ### the end of a law whose defs make lambdas and whose mirrors speak of addresses of defs and classes too -/
end DL
namespace DL
open PySem PySem.Spec PyProof.Rows L2
section
variable {K : PySem.W.Frag} {Z H : Hp} {I : List Addr} {M : List O}
/-! ### dicts that are data: given up and locked, read, walked -/
theorem ext_lck {n : Nat} {a : Addr} {u : HO} {o : O} (w : Wf K Z H I M) (ha : I[n]? = some a) (hm : M[n]? = some o) (hg : o ≠ .gone) (hu : H a = some u) (od : Obj) : Ext Z H I (upd Z a (.frz od u)) (upd H a (.frz od u)) I where
  z := same_upd (w.ob n a o ha hm hg).1
  i := ⟨[], by simp⟩
  fr := fun b x e nb => by rw [upd_ne (fun q => nb (by rw [q]; exact List.mem_of_getElem? ha))]; exact e
  nw := fun _ m => .inl m
  zn := fun b e => by
    by_cases q : b = a
    · rw [q]; exact .inr (.inr (List.mem_of_getElem? ha))
    · rw [upd_ne q] at e; exact .inl e
  tr := fun b e => by
    by_cases q : b = a
    · rw [q, upd_same]; simp
    · rw [upd_ne q]; exact e
theorem Wf.lck {n : Nat} {a : Addr} {u : HO} {o : O} (w : Wf K Z H I M) (ha : I[n]? = some a) (hm : M[n]? = some o) (hg : o ≠ .gone) (hu : H a = some u) (od : Obj) : Wf K (upd Z a (.frz od u)) (upd H a (.frz od u)) I (M.set n .gone) where
  sub := fun b x e => by
    by_cases q : b = a
    · rw [q, upd_same] at e ⊢; exact e
    · rw [upd_ne q] at e ⊢; exact w.sub b x e
  len := by rw [List.length_set]; exact w.len
  nd := w.nd
  tr := fun b hb => by
    by_cases q : b = a
    · rw [q, upd_same]; simp
    · rw [upd_ne q]; exact w.tr b hb
  ob := fun j b x h1 h2 h3 => by
    by_cases q : n = j
    · subst q
      rw [List.getElem?_set_self (List.getElem?_eq_some_iff.mp hm).1] at h2
      cases h2
      exact absurd rfl h3
    · rw [List.getElem?_set_ne q] at h2
      obtain ⟨q1, q2⟩ := w.ob j b x h1 h2 h3
      have hne : b ≠ a := fun z => by
        obtain ⟨l1, e1⟩ := List.getElem?_eq_some_iff.mp ha
        obtain ⟨l2, e2⟩ := List.getElem?_eq_some_iff.mp h1
        exact q ((List.getElem_inj w.nd).mp (e1.trans (z.symm.trans e2.symm)))
      exact ⟨by rw [upd_ne hne]; exact q1, q2.mono (same_upd (w.ob n a o ha hm hg).1) (upd_ne hne)⟩
def frzOD : O → Option D
  | .dK ds => (allKP ds).map .dK
  | .dT ds => (allKP ds).map .dT
  | _ => none
theorem lck_rep {n : Nat} {a : Addr} {o : O} {d : D} (w : Wf K Z H I M) (ha : I[n]? = some a) (hm : M[n]? = some o) (e : frzOD o = some d) :
    ∃ u, H a = some u ∧ Mut (some u) ∧ ∀ od, ∃ Z', Wf K Z' (upd H a (.frz od u)) I (M.set n .gone) ∧ Ext Z H I Z' (upd H a (.frz od u)) I ∧ Rep K Z' (.ref a) d := by
  cases o with
  | dK ds =>
    obtain ⟨xs, hx, rfl⟩ := Option.map_eq_some_iff.mp (show (allKP ds).map D.dK = some d from e)
    obtain ⟨hz, ys, h1, h2⟩ := w.ob n a _ ha hm (by intro z; cases z)
    refine ⟨_, h1, trivial, fun od => ?_⟩
    have x2 := ext_lck w ha hm (by intro z; cases z) h1 od
    exact ⟨_, w.lck ha hm (by intro z; cases z) h1 od, x2, .dK upd_same ((allKP_k h2 hx).mono x2.z)⟩
  | dT ds =>
    obtain ⟨xs, hx, rfl⟩ := Option.map_eq_some_iff.mp (show (allKP ds).map D.dT = some d from e)
    obtain ⟨hz, ys, h1, h2⟩ := w.ob n a _ ha hm (by intro z; cases z)
    refine ⟨_, h1, trivial, fun od => ?_⟩
    have x2 := ext_lck w ha hm (by intro z; cases z) h1 od
    exact ⟨_, w.lck ha hm (by intro z; cases z) h1 od, x2, .dT upd_same ((allKP_t h2 hx).mono x2.z)⟩
  | _ => cases e
variable {W : WX}
/-- an own dict that an expression gives is given up -/
def mFrzD (m : EM) : EM := bnd m fun d s => match d with
  | .o n => match s.m[n]? with
    | some o => match frzOD o with
      | some d => some (.ok (.p d) (s.m.set n .gone))
      | none => none
    | none => none
  | .p _ => none
theorem so_frzD {t : TE} {m : EM} (h : Sound K W (RepV K) t m) : Sound K W (RepV K) (tLck t) (mFrzD m) := ⟨fun σ H s Z I r0 Q w rs e p => by
  refine h.bnd w rs e p.x fun d v M1 Z1 H1 I1 w1 rs1 x1 q1 e1 => ?_
  cases d with
  | p d => cases e1
  | o n =>
    obtain ⟨a, ha, rfl⟩ := q1
    cases q2 : M1[n]? with
    | none => simp only [q2] at e1; cases e1
    | some o =>
      simp only [q2] at e1
      cases q3 : frzOD o with
      | none => simp only [q3] at e1; cases e1
      | some d =>
        simp only [q3] at e1
        cases e1
        obtain ⟨u, hu, mu, k⟩ := lck_rep w1 ha q2 q3
        refine ⟨a, u, rfl, hu, mu, fun od => ?_⟩
        obtain ⟨Z', w', x', rp⟩ := k od
        exact p _ _ _ _ w' (x1.trans x') rp⟩
theorem de_frzD {X : Cx} {e : Expr} {t : TE} {m : EM} (h : DE K X W e t m) : DE K X W e (tLck t) (mFrzD m) := ⟨h.k, pe_lck h.pe, so_frzD h.so⟩
end
section
variable {K : PySem.W.Frag} {X : Cx} {W : WX} {o e f tg iter : Expr} {apos cpos : Pos} {td ty tx : TE} {m n k : EM}
/-! ### d.get(k), d.get(k, x), of one's own or of data -/
def isDc (M : List O) (d : DV) : Bool := (dcM M d).isSome
theorem dc_isD {Z H : Hp} {I : List Addr} {M : List O} {x : V} {d : DV} (w : Wf K Z H I M) (h : RepV K Z I x d) (e : isDc M d = true) : ∃ a, x = .ref a ∧ IsD H a := by
  unfold isDc at e
  cases z : dcM M d with
  | none => rw [z] at e; cases e
  | some c =>
    obtain ⟨a, rfl, r⟩ := dc_rep w h z
    refine ⟨a, rfl, ?_⟩
    cases c with
    | k ds => obtain ⟨ks, r, _⟩ := r; exact .inl ⟨ks, r⟩
    | t ds => obtain ⟨ks, r, _⟩ := r; exact .inr ⟨ks, r⟩
def dg1K (d : DV) (k : D) : EM := fun s => match getM s.m d k with
  | some (some v) => some (.ok v s.m)
  | some none => some (.ok (.p .non) s.m)
  | none => none
def mDg1 (m n : EM) : EM := bnd m fun d s => if isDc s.m d = true then bnd n (pur (dg1K d)) s else none
theorem de_dgm1 (hu : X.A.units + 1 < cLine) (ho : DE K X W o td m) (he : DE K X W e ty n) (hb : attributeBase o "get" X.env (eval o X.env) = eval o X.env := by rfl) (hf : ((backTo cpos (starEach [e] X.env)).all (fun x => !x.1) && (backToKw cpos (keywordEach [] X.env)).all (fun x => x.1.isSome)
    && decide (([e] : List Expr).length + ([] : List Keyword).length + (if ([] : List Keyword).isEmpty then 0 else 1) < 30)) = true := by rfl) (hl : (apos.endLine == cpos.line) = true := by rfl) (ht : backTo cpos (starEach [e] X.env) = [(false, eval e X.env)] := by rfl) :
    DE K X W (.Call (.Attribute o "get" apos) [e] [] cpos) (tDGet1 td ty) (mDg1 m n) := by
  refine ⟨ho.k, pe_dget1 hu ho.pe he.pe ⟨hb, hf, hl, ht⟩, ⟨fun σ H s Z I r0 Q w rs e0 p => ?_⟩⟩
  refine ho.so.bnd w rs e0 p.x fun d v M1 Z1 H1 I1 w1 rs1 x1 q1 e1 => ?_
  have e1 : (if isDc M1 d = true then _ else none) = some r0 := e1
  split at e1
  · rename_i hd
    obtain ⟨a, rfl, ia⟩ := dc_isD w1 q1 hd
    refine ⟨a, rfl, ia, ?_⟩
    have p1 := p.mono x1
    refine he.so.bnd (s := ⟨s.l, M1⟩) w1 rs1 e1 p1.x fun d2 v2 M2 Z2 H2 I2 w2 rs2 x2 q2 e2 => ?_
    obtain ⟨d2, rfl, e2⟩ := pur_ok e2
    have e2 : dg1K d d2 ⟨s.l, M2⟩ = some r0 := e2
    unfold dg1K at e2
    dsimp only at e2
    cases z : getM M2 d d2 with
    | none => simp only [z] at e2; cases e2
    | some ov =>
      simp only [z] at e2
      obtain ⟨ad, r, ea, g, kk⟩ := getM_rep w2 (q1.mono x2) q2 z
      cases ea
      refine ⟨r, g, ?_⟩
      rcases kk with ⟨rfl, rfl⟩ | ⟨u, c', rfl, rfl, hr⟩
      · cases e2; exact p _ _ _ _ w2 (x1.trans x2) .non
      · cases e2; exact p _ _ _ _ w2 (x1.trans x2) hr
  · cases e1
def dg2K (d : DV) (k : D) (y : DV) : EM := fun s => match getM s.m d k with
  | some (some v) => some (.ok v s.m)
  | some none => some (.ok y s.m)
  | none => none
def mDg2 (m n k : EM) : EM := bnd m fun d s => if isDc s.m d = true then bnd n (pur fun k1 => bnd k (dg2K d k1)) s else none
theorem de_dgm2 (hu : X.A.units + 1 < cLine) (ho : DE K X W o td m) (he : DE K X W e ty n) (hfe : DE K X W f tx k) (hb : attributeBase o "get" X.env (eval o X.env) = eval o X.env := by rfl) (hf : ((backTo cpos (starEach [e, f] X.env)).all (fun x => !x.1) && (backToKw cpos (keywordEach [] X.env)).all (fun x => x.1.isSome)
    && decide (([e, f] : List Expr).length + ([] : List Keyword).length + (if ([] : List Keyword).isEmpty then 0 else 1) < 30)) = true := by rfl) (hl : (apos.endLine == cpos.line) = true := by rfl) (ht : backTo cpos (starEach [e, f] X.env) = [(false, eval e X.env), (false, eval f X.env)] := by rfl) :
    DE K X W (.Call (.Attribute o "get" apos) [e, f] [] cpos) (tDGet2 td ty tx) (mDg2 m n k) := by
  refine ⟨ho.k, pe_dget2 hu ho.pe he.pe hfe.pe ⟨hb, hf, hl, ht⟩, ⟨fun σ H s Z I r0 Q w rs e0 p => ?_⟩⟩
  refine ho.so.bnd w rs e0 p.x fun d v M1 Z1 H1 I1 w1 rs1 x1 q1 e1 => ?_
  have e1 : (if isDc M1 d = true then _ else none) = some r0 := e1
  split at e1
  · rename_i hd
    obtain ⟨a, rfl, ia⟩ := dc_isD w1 q1 hd
    refine ⟨a, rfl, ia, ?_⟩
    have p1 := p.mono x1
    refine he.so.bnd (s := ⟨s.l, M1⟩) w1 rs1 e1 p1.x fun d2 v2 M2 Z2 H2 I2 w2 rs2 x2 q2 e2 => ?_
    obtain ⟨d2, rfl, e2⟩ := pur_ok e2
    have e2 : bnd k (dg2K d d2) ⟨s.l, M2⟩ = some r0 := e2
    have p2 := p1.mono x2
    refine hfe.so.bnd (s := ⟨s.l, M2⟩) w2 rs2 e2 p2.x fun d3 v3 M3 Z3 H3 I3 w3 rs3 x3 q3 e3 => ?_
    have e3 : dg2K d d2 d3 ⟨s.l, M3⟩ = some r0 := e3
    unfold dg2K at e3
    dsimp only at e3
    cases z : getM M3 d d2 with
    | none => simp only [z] at e3; cases e3
    | some ov =>
      simp only [z] at e3
      obtain ⟨ad, r, ea, g, kk⟩ := getM_rep w3 ((q1.mono x2).mono x3) (Rep.mono x3.z q2) z
      cases ea
      refine ⟨r, g, ?_⟩
      rcases kk with ⟨rfl, rfl⟩ | ⟨u, c', rfl, rfl, hr⟩
      · cases e3; exact p _ _ _ _ w3 ((x1.trans x2).trans x3) q3
      · cases e3; exact p _ _ _ _ w3 ((x1.trans x2).trans x3) hr
  · cases e1
/-! ### for k in d, d data -/
def itKD : D → Option (List DV)
  | .dK kvs => some (kvs.map fun p => .p (kD p.1))
  | .dT kvs => some (kvs.map fun p => .p (.tup (p.1.map kD)))
  | _ => none
theorem repK_len {Z : Hp} : ∀ {ks : List (Key × V)} {ds : List (Key × D)}, RepK K Z ks ds → ks.length = ds.length ∧ ∀ i : Nat, (ks[i]?).map (fun p : Key × V => p.1) = (ds[i]?).map (fun p : Key × D => p.1)
  | _, _, .nil => ⟨rfl, fun _ => rfl⟩
  | _, _, .cons _ r => by
    have h := repK_len r
    exact ⟨by simp [h.1], fun i => by cases i with | zero => rfl | succ i => simpa using h.2 i⟩
theorem repT_len {Z : Hp} : ∀ {ks : List (List Key × V)} {ds : List (List Key × D)}, RepT K Z ks ds → ks.length = ds.length ∧ ∀ i : Nat, (ks[i]?).map (fun p : List Key × V => p.1) = (ds[i]?).map (fun p : List Key × D => p.1)
  | _, _, .nil => ⟨rfl, fun _ => rfl⟩
  | _, _, .cons _ r => by
    have h := repT_len r
    exact ⟨by simp [h.1], fun i => by cases i with | zero => rfl | succ i => simpa using h.2 i⟩
theorem di_keys (h : DE K X W iter td m) : DI K X W tg iter (iKeys td) (mItD itKD m) := by
  refine ⟨h.k, pi_keys h.pe, ?_⟩
  refine so_itD (r := fun x H1 R => ∃ d o, x = .ref d ∧ ((∃ kvs, H1 d = some (.frz o (.dK kvs)) ∧ R (Itk d o kvs) H1) ∨ ∃ kvs, H1 d = some (.frz o (.dT kvs)) ∧ R (Itkt d o kvs) H1)) h.so fun v d ds Z H I R s hd hg q => ?_
  cases hd with
  | dK h1 h2 =>
    rename_i a o ks xs
    cases hg
    refine ⟨a, o, rfl, .inl ⟨ks, s _ _ h1, q _ fun Z' H' I' z _ s' i => ⟨fun d hd => ?_, fun hl => ?_⟩⟩⟩
    · have hk := (repK_len h2).2 i
      rw [List.getElem?_map] at hd
      cases e : xs[i]? with
      | none => rw [e] at hd; cases hd
      | some p =>
        rw [e] at hd hk; cases hd
        have hlt : i < ks.length := by
          have := (List.getElem?_eq_some_iff.mp e).1
          rw [(repK_len h2).1]; exact this
        refine ⟨⟨s' _ _ (z _ _ h1), hlt⟩, fun x H2 hx => ?_⟩
        obtain ⟨rfl, k, v, hk2, rfl⟩ := hx
        rw [hk2] at hk
        have hk : k = p.1 := Option.some.inj hk
        exact ⟨Z', ExtP.refl s', by rw [hk]; exact kD_rep p.1⟩
    · rw [List.length_map, ← (repK_len h2).1] at hl
      exact ⟨s' _ _ (z _ _ h1), hl⟩
  | dT h1 h2 =>
    rename_i a o ks xs
    cases hg
    refine ⟨a, o, rfl, .inr ⟨ks, s _ _ h1, q _ fun Z' H' I' z _ s' i => ⟨fun d hd => ?_, fun hl => ?_⟩⟩⟩
    · have hk := (repT_len h2).2 i
      rw [List.getElem?_map] at hd
      cases e : xs[i]? with
      | none => rw [e] at hd; cases hd
      | some p =>
        rw [e] at hd hk; cases hd
        have hlt : i < ks.length := by
          have := (List.getElem?_eq_some_iff.mp e).1
          rw [(repT_len h2).1]; exact this
        refine ⟨⟨s' _ _ (z _ _ h1), hlt⟩, fun x H2 hx => ?_⟩
        obtain ⟨rfl, k, v, b, hk2, rfl, hb⟩ := hx
        rw [hk2] at hk
        have hk : k = p.1 := Option.some.inj hk
        obtain ⟨Z2, x2, e2⟩ := ext_tup s' hb
        refine ⟨Z2, x2, ?_⟩
        rw [hk] at e2
        exact .tup e2 (kDs_rep p.1)
    · rw [List.length_map, ← (repT_len h2).1] at hl
      exact ⟨s' _ _ (z _ _ h1), hl⟩
  | _ => cases hg
end
end DL
namespace DL
open PySem PySem.Spec PyProof.Rows L2
/-! ### repr of dicts with tuple keys, of data without lists -/
def kE : Key → PyData
  | .inl i => .int i
  | .inr s => .str s
section
variable {X : Cx} {pins : List (Addr × Obj)} {σ : L2.St} {H Z : Hp} {s : Shared}
theorem rd_keys : ∀ {ks : List Key} {us : List Value}, Vals (ks.map kV) us → ReadsAll s.heap us (ks.map kE) []
  | [], _, h => by cases h; exact .nil
  | k :: r, _, h => by
    cases h with
    | cons h1 h2 =>
      have := rd_keys (ks := r) h2
      cases k with
      | inl i => obtain ⟨t, rfl⟩ := h1; exact ReadsAll.cons (as := []) (bs := []) (Reads.int i t) this
      | inr x => obtain ⟨t, rfl⟩ := h1; exact ReadsAll.cons (as := []) (bs := []) (Reads.str x t) this
theorem rd_key (I : Inv X pins σ H s) {ks : List Key} {q : Addr} (h : H q = some (.tup (ks.map kV))) : Reads s.heap (.ref q) (.tuple (ks.map kE)) [] := by
  obtain ⟨its, rv, ⟨o, ho, hc, n, hd⟩, _⟩ := I.tuple (.inl (.inl h))
  exact Reads.tuple ho hc hd (by simpa using rd_keys rv)
end
section
variable {K : PySem.W.Frag} {X : Cx}
end
end DL
namespace DL
open PySem PySem.Spec PyProof.Rows L2
/-! ### repr of data with dicts and lists inside: the base holds a dict at sysModules -/
def SysIn (h : Heap) : Prop := ∃ o es n, h.get? sysModules = some o ∧ o.data = .dict es n
mutual
def toL : D → PyData
  | .bl b => .bool b
  | .int i => .int i
  | .str s => .str s
  | .tup xs => .tuple (toLs xs)
  | .ktup xs => .tuple (toLs xs)
  | .lst xs => .list (toLs xs)
  | .klst xs => .list (toLs xs)
  | .dT kvs => .dict (toLt kvs)
  | _ => .none
def toLs : List D → List PyData
  | [] => []
  | x :: r => toL x :: toLs r
def toLt : List (List Key × D) → List (PyData × PyData)
  | [] => []
  | (k, d) :: r => (.tuple (k.map kE), toL d) :: toLt r
end
mutual
def okL : D → Bool
  | .non => true
  | .bl _ => true
  | .int _ => true
  | .str _ => true
  | .tup xs => okLs xs
  | .ktup xs => okLs xs
  | .lst xs => okLs xs
  | .klst xs => okLs xs
  | .dT kvs => okLt kvs
  | _ => false
def okLs : List D → Bool
  | [] => true
  | x :: r => okL x && okLs r
def okLt : List (List Key × D) → Bool
  | [] => true
  | (_, d) :: r => okL d && okLt r
end
section
variable {X : Cx} {pins : List (Addr × Obj)} {σ : L2.St} {H Z : Hp} {s : Shared}
mutual
theorem rd_L (hS : SysIn X.base) (I : Inv X pins σ H s) (sz : Same Z H) : ∀ (d : D) (v : V) (u : Value), okL d = true → Rep X.K Z v d → RelV v u → ∃ as, Reads s.heap u (toL d) as ∧ sysModules ∉ as
  | .non, _, _, _, h, r => by cases h; cases r; exact ⟨_, Reads.none, by simp⟩
  | .bl b, _, _, _, h, r => by cases h; cases r; exact ⟨_, Reads.bool b, by simp⟩
  | .int i, _, _, _, h, r => by cases h; obtain ⟨t, rfl⟩ := r; exact ⟨_, Reads.int i t, by simp⟩
  | .str x, _, _, _, h, r => by cases h; obtain ⟨t, rfl⟩ := r; exact ⟨_, Reads.str x t, by simp⟩
  | .tup xs, _, _, ok, h, r => by
    cases h with
    | tup h1 h2 =>
      cases r
      obtain ⟨its, rv, ⟨o, ho, hc, n, hd⟩, _⟩ := I.tuple (.inl (.inl (sz _ _ h1)))
      obtain ⟨as, q, nm⟩ := rd_Ls hS I sz xs _ its ok h2 rv
      exact ⟨as, Reads.tuple ho hc hd (by simpa using q), nm⟩
  | .ktup xs, _, _, ok, h, r => by
    cases h with
    | ktup h1 h2 =>
      cases r
      obtain ⟨its, rv, ⟨o, ho, hc, n, hd⟩, _⟩ := I.tuple (same_t sz h1)
      obtain ⟨as, q, nm⟩ := rd_Ls hS I sz xs _ its ok h2 rv
      exact ⟨as, Reads.tuple ho hc hd (by simpa using q), nm⟩
  | .dT kvs, _, _, ok, h, r => by
    cases h with
    | dT h1 h2 =>
      rename_i a o ks
      cases r
      obtain ⟨_, hs, xs, pr, o2, es, ep, g1, g2, g3, g4, _⟩ := (I.hok a _ (sz _ _ h1)).2
      obtain ⟨as, bs, q1, q2, n1, n2⟩ := rd_Lt hS I sz kvs ks xs ok h2 pr
      have e1 : es.toList.map (·.key) = xs.map fun q => Value.ref q.2.1 := by rw [g4, List.map_map]; rfl
      have e2 : es.toList.map (·.val) = xs.map fun q => q.2.2 := by rw [g4, List.map_map]; rfl
      refine ⟨_, Reads.dict g1 g2.1 g3 (by rw [e1]; exact q1) (by rw [e2]; exact q2), ?_⟩
      intro m
      rcases List.mem_append.mp m with m | m
      · rcases List.mem_cons.mp m with m | m
        · rw [← m] at hs; simp at hs
        · exact n1 m
      · exact n2 m
  | .lst xs, _, _, ok, h, r => by
    cases h with
    | lst h1 h2 =>
      cases r
      obtain ⟨its, rv, ⟨o, n, ho, hc, _, hd⟩, _⟩ := I.list (.inl (h1.elim (fun q => .inl (sz _ _ q)) fun ⟨o, q⟩ => .inr ⟨o, sz _ _ q⟩))
      obtain ⟨as, q, nm⟩ := rd_Ls hS I sz xs _ its ok h2 rv
      refine ⟨_, Reads.list ho hc hd (by simpa using q), fun m => ?_⟩
      rcases List.mem_cons.mp m with m | m
      · obtain ⟨o', es, n', e1, e2⟩ := hS
        have := (I.bs _ _ e1).1
        rw [m, ho] at this
        cases this
        rw [hd] at e2
        cases e2
      · exact nm m
  | .klst xs, _, _, ok, h, r => by
    cases h with
    | klst h1 h2 =>
      cases r
      obtain ⟨its, rv, ⟨o, n, ho, hc, _, hd⟩, _⟩ := I.list (same_l sz h1)
      obtain ⟨as, q, nm⟩ := rd_Ls hS I sz xs _ its ok h2 rv
      refine ⟨_, Reads.list ho hc hd (by simpa using q), fun m => ?_⟩
      rcases List.mem_cons.mp m with m | m
      · obtain ⟨o', es, n', e1, e2⟩ := hS
        have := (I.bs _ _ e1).1
        rw [m, ho] at this
        cases this
        rw [hd] at e2
        cases e2
      · exact nm m
  | .dK _, _, _, ok, _, _ | .fn _, _, _, ok, _, _ | .clo _ _, _, _, ok, _, _ | .scr _, _, _, ok, _, _ | .ty _, _, _, ok, _, _ | .rng _ _, _, _, ok, _, _ => by cases ok
theorem rd_Ls (hS : SysIn X.base) (I : Inv X pins σ H s) (sz : Same Z H) : ∀ (ds : List D) (vs : List V) (us : List Value), okLs ds = true → RepA X.K Z vs ds → Vals vs us → ∃ as, ReadsAll s.heap us (toLs ds) as ∧ sysModules ∉ as
  | [], _, _, _, h, r => by cases h; cases r; exact ⟨_, ReadsAll.nil, by simp⟩
  | d :: ds, _, _, ok, h, r => by
    have ok : (okL d && okLs ds) = true := ok
    rw [Bool.and_eq_true] at ok
    cases h with
    | cons h1 h2 =>
      cases r with
      | cons r1 r2 =>
        obtain ⟨as, q1, n1⟩ := rd_L hS I sz d _ _ ok.1 h1 r1
        obtain ⟨bs, q2, n2⟩ := rd_Ls hS I sz ds _ _ ok.2 h2 r2
        exact ⟨_, ReadsAll.cons q1 q2, fun m => (List.mem_append.mp m).elim n1 n2⟩
theorem rd_Lt (hS : SysIn X.base) (I : Inv X pins σ H s) (sz : Same Z H) : ∀ (kvs : List (List Key × D)) (ks : List (List Key × V)) (xs : List (List Key × Addr × Value)), okLt kvs = true → RepT X.K Z ks kvs →
    Paired (fun (p : List Key × V) (q : List Key × Addr × Value) => p.1 = q.1 ∧ H q.2.1 = some (.tup (p.1.map kV)) ∧ RelV p.2 q.2.2) ks xs →
    ∃ as bs, ReadsAll s.heap (xs.map fun q => Value.ref q.2.1) ((toLt kvs).map (·.1)) as ∧ ReadsAll s.heap (xs.map fun q => q.2.2) ((toLt kvs).map (·.2)) bs ∧ sysModules ∉ as ∧ sysModules ∉ bs
  | [], _, _, _, h, r => by cases h; cases r; exact ⟨_, _, ReadsAll.nil, ReadsAll.nil, by simp, by simp⟩
  | (k, d) :: kvs, _, _, ok, h, r => by
    have ok : (okL d && okLt kvs) = true := ok
    rw [Bool.and_eq_true] at ok
    cases h with
    | cons h1 h2 =>
      cases r with
      | cons r1 r2 =>
        obtain ⟨as, q1, n1⟩ := rd_L hS I sz d _ _ ok.1 h1 r1.2.2
        obtain ⟨as2, bs2, q2, q3, n2, n3⟩ := rd_Lt hS I sz kvs _ _ ok.2 h2 r2
        exact ⟨_, _, ReadsAll.cons (rd_key I r1.2.1) q2, ReadsAll.cons q1 q3, by simpa using n2, fun m => (List.mem_append.mp m).elim n1 n3⟩
end
end
section
variable {K : PySem.W.Frag} {X : Cx}
def isC : D → Bool
  | .tup _ => true
  | .ktup _ => true
  | .lst _ => true
  | .klst _ => true
  | .dT _ => true
  | _ => false
theorem isC_ref {Z : Hp} {x : V} {d : D} (h : Rep K Z x d) (e : isC d = true) : ∃ a, x = .ref a := by
  cases h <;> first | exact ⟨_, rfl⟩ | cases e
def rReprL (X : Cx) : List V → Hp → VK → Prop := fun xs H Q => ∃ x d Z, xs = [x] ∧ Same Z H ∧ Rep X.K Z x d ∧ isC d = true ∧ okL d = true ∧ (toL d).depth ≤ 64 ∧ (toL d).showable = true ∧ (toL d).shown.length ≤ sizeLine ∧ Q (.str (toL d).shown) H
theorem call_reprL (hS : SysIn X.base) (hg : X.A.guards = some []) (hu : X.A.units + 66 < cLine) : CallR X (.builtin "repr") (rReprL X) := by
  intro pins s σ H xs us Q I rs h
  obtain ⟨x, d, Z, rfl, sz, hd, hic, hc, hdep, hs, hz, q⟩ := h
  cases rs with
  | cons rx r =>
  cases r
  rename_i v
  obtain ⟨as, r1, nm⟩ := rd_L hS I sz d x v hc hd rx
  obtain ⟨a, rfl⟩ := isC_ref hd hic
  obtain rfl : v = Value.ref a := rx
  exact PySem.repr_of_reads' r1 hs (fun _ => nm) hg (by omega) (fun _ _ q => q) (fun h' u tk hk => ⟨.str _, H, I.kept hk, ⟨_, rfl⟩, q⟩) hz
def reprL (d : D) : Str := (toL d).shown
def dReprL (d : D) : Option D := if (isC d && okL d && decide ((toL d).depth ≤ 64) && (toL d).showable) = true then if (reprL d).length ≤ 1000000 then some (.str (reprL d)) else none else none
theorem cd_reprL (hS : SysIn X.base) (hg : X.A.guards = some []) (hu : X.A.units + 66 < cLine) (hk : X.K = K) : CallD K X (.builtin "repr") (rReprL X) (g1 dReprL) := ⟨fun k => call_reprL hS hg hu, g1_ok fun x d c Z H Q s hx hg p => by
  unfold dReprL at hg
  split at hg
  · rename_i h1
    split at hg
    · rename_i h2
      cases hg
      rw [Bool.and_eq_true, Bool.and_eq_true, Bool.and_eq_true, decide_eq_true_eq] at h1
      exact ⟨x, d, Z, rfl, s, by rw [hk]; exact hx, h1.1.1.1, h1.1.1.2, h1.1.2, h1.2, size_le h2, p _ Z H (ExtP.refl s) (.str _)⟩
    · cases hg
  · cases hg⟩
end
end DL
namespace DL
open PySem PySem.Spec PyProof.Rows L2 LamX NdefX
/-! ### the end of a law: the base holds a dict at sysModules -/
section
variable {P : Program} {w : World} {K : PySem.W.Frag} {mg : Str → Option Value} {base : Heap} {x qual : Str} {st : Stmt} {f a : Addr} {fd : FuncData} {N : List Str} {k : Nat}
theorem law_topTS {m : SM} {s₁ : Shared} {mb : Str → Option Value} {cs : List (Addr × Addr)} {nms : List Str} {vs : List Value} {ns : List Int} {p : Str}
    (KX : K.In s₁.heap) (hns : s₁.heap.Ns mainGlobals mg) (hb : s₁.heap.Ns builtinsNs mb) (hbb : ∀ x : Str, x ≠ "__name__" → mb x = bootBuiltins x) (hlim : s₁.heap.NoLimit) (hsy : SysIn s₁.heap) (hg : s₁.gens = #[])
    (hT : ∀ p ∈ cs, s₁.heap.get? p.2 = some { cls := .none, data := .fields #[] }) (nT : ∀ p ∈ cs, K.lookup p.2 = none) (C : ∀ p ∈ cs, PySem.W.CodeHd s₁.heap p.1 p.2)
    (hbm : ∃ (bm : Addr) (ob : Obj), mg "__builtins__" = some (.ref bm) ∧ bm ≠ builtinsNs ∧ s₁.heap.get? bm = some ob ∧ ob.cls = .type "module" ∧ ob.dict = some builtinsNs ∧ ob.data = .plain)
    (ha : s₁.heap.get? a = some { cls := .type "list", data := .seq vs.toArray }) (hi : IntsAre vs ns) (hl : ns.length ≤ sizeLine) (hr : Room (k + 1) callerA) (nd : (cs.map (·.2)).Nodup) (hln : cs.length = nms.length)
    (F : Fun K x qual st f fd) (Sc : FnScope N [p] (defScope st)) (hbind : ∀ (s : Shared) (u : Value), BindsTo s fd ⟨[u], []⟩ [(p, u)]) (body : ∀ base : Heap, K.In base → base.Ns mainGlobals mg → (∀ p ∈ cs, TabB base mg p.1 p.2) → SysIn base → TopB P w K mg base N qual st f k m)
    (good : ∃ s, m ⟨slotsOf N.length ([D.scr (ns.map .int)].map .p), tbls (cs.map (·.2)) nms⟩ = some (.rt (.p (.bl true)), s)) :
    codeAny (model P w) callerA (.call (.ref f) ⟨[.ref a], []⟩) (Told s₁) s₁ := by
  have rv := vals_ints hi
  have lenV := hi.length
  have isT : ∀ b : Addr, b ∈ cs.map (·.2) → s₁.heap.get? b = some { cls := .none, data := .fields #[] } := fun b hb => by
    obtain ⟨p, hp, e⟩ := List.mem_map.mp hb
    rw [← e]
    exact hT p hp
  have aT : a ∉ cs.map (·.2) := fun z => by
    have q := isT a z
    rw [ha] at q
    have z' : Data.seq vs.toArray _ = Data.fields #[] := congrArg Obj.data (Option.some.inj q)
    cases z'
  have memT : ∀ p ∈ cs, p.2 ∈ cs.map (·.2) := fun p hp => List.mem_map.mpr ⟨p, hp, rfl⟩
  -- from an abstract heap in which nothing but the script and the tables may be tracked
  have core : ∀ H : Hp, (∀ p ∈ cs, H p.2 = some (.tbl #[])) → (∀ b, H b = none ∨ b ∈ cs.map (·.2) ∨ ∃ o xs, H b = some (.frz o (.lst xs))) → SqL K H a (ns.map V.int) → HOk P w H s₁.heap → (∀ b, H b ≠ none → b = a ∨ b ∈ cs.map (·.2)) → (H a ≠ none → K.lookup a = none) →
      codeAny (model P w) callerA (.call (.ref f) ⟨[.ref a], []⟩) (Told s₁) s₁ := by
    intro H hH hO hS hok hA hK
    have base_of : ∀ {b : Addr} {o : Obj}, s₁.heap.get? b = some o → H b = none → (hidT s₁.heap H).get? b = some o := fun e n => hidT_get e n
    have noD : ∀ {b : Addr} {o : Obj}, s₁.heap.get? b = some o → (∀ vs n, o.data ≠ .seq vs n) → o.data ≠ .fields #[] → H b = none := fun {b o} e h1 h2 => by
      cases q : H b with
      | none => rfl
      | some u =>
        rcases hA b (by rw [q]; simp) with e' | e'
        · rw [e', ha] at e
          cases e
          exact (h1 _ _ rfl).elim
        · rw [isT b e'] at e
          cases e
          exact (h2 rfl).elim
    have noA : ∀ {b : Addr} {o : Obj} {es : Array DictEntry} {ep : Nat}, s₁.heap.get? b = some o → o.data = .dict es ep → H b = none := fun {b o es ep} e d => by
      refine noD e (fun vs n z => ?_) fun z => ?_
      · rw [d] at z
        cases z
      · rw [d] at z
        cases z
    have nsK : ∀ {b : Addr} {m : Str → Option Value}, s₁.heap.Ns b m → (hidT s₁.heap H).Ns b m := fun {b m} ⟨o, es, ep, e, d, r⟩ => ⟨o, es, ep, base_of e (noA e d), d, r⟩
    have hKb : K.In (hidT s₁.heap H) := fun b o e => base_of (KX b o e) (by
      cases q : H b with
      | none => rfl
      | some u =>
        rcases hA b (by rw [q]; simp) with e' | e'
        · rw [e'] at e q
          rw [hK (by rw [q]; simp)] at e
          cases e
        · obtain ⟨p, hp, ep⟩ := List.mem_map.mp e'
          rw [← ep, nT p hp] at e
          cases e)
    have hM : L2.Mod K mg (hidT s₁.heap H) := ⟨hKb, nsK hns, ⟨mb, nsK hb, hbb⟩, let ⟨mc, h1, h2⟩ := hlim; ⟨mc, nsK h1, h2⟩⟩
    have TB : ∀ p ∈ cs, TabB (hidT s₁.heap H) mg p.1 p.2 := fun p hp => by
      have hTp := hT p hp
      refine ⟨?_, ?_, fun z => ?_⟩
      · obtain ⟨o, us, file, tf, flags, tg, inF, text, tt, e1, r1, r2, r3, r4, r5, r6, r7, r8, hne⟩ := C p hp
        refine ⟨o, us, file, tf, flags, tg, inF, text, tt, base_of e1 (noD e1 (fun vs n z => ?_) fun z => ?_), r1, r2, r3, r4, r5, r6, r7, r8, hne⟩
        · rw [r2] at z
          cases z
        · rw [r2] at z
          cases z
          simp at r3
      · obtain ⟨bm, ob, b1, b2, b3, b4, b5, b6⟩ := hbm
        have nG : bm ≠ mainGlobals := fun q => by
          obtain ⟨o, es, ep, e, hd, _⟩ := hns
          rw [q, e] at b3
          cases b3
          rw [hd] at b6
          cases b6
        have nP : bm ≠ p.2 := fun q => by
          rw [q, hTp] at b3
          cases b3
          cases b6
        refine ⟨bm, ob, b1, b2, nG, nP, base_of b3 (noD b3 (fun vs n z => ?_) fun z => ?_), b4, b5, b6⟩
        · rw [b6] at z
          cases z
        · rw [b6] at z
          cases z
      · obtain ⟨o, es, ep, e, hd, _⟩ := hns
        rw [z, hTp] at e
        cases e
        cases hd
    have e0 : Env0 P w K mg (hidT s₁.heap H) callerA [] s₁ H := ⟨rfl, hM, fun b o e => of_hidT e, Nat.le_of_eq (hidT_size _ _), trivial, fun b hb => absurd (show b ∈ ([] : List Addr) from hb) (by simp), hok, .of_eq hg⟩
    exact run_topT F Sc hr (body _ hKb (nsK hns) TB (let ⟨o, es, n, e1, e2⟩ := hsy; ⟨o, es, n, base_of e1 (noA e1 e2), e2⟩)) e0 (hbind _ _) hH hS hO aT hT C nd hln good
  cases hk : K.lookup a with
  | some o =>
    have e := KX a o hk
    rw [ha] at e
    cases e
    refine core (fun b => if b ∈ cs.map (·.2) then some (.tbl #[]) else none) (fun p hp => if_pos (memT p hp)) (fun b => ?_) (.inr ⟨_, vs.toArray, _, hk, rfl, rfl, rfl, by rw [List.size_toArray, lenV]; exact hl, by simpa using rv⟩) (fun b u z => ?_) (fun b z => ?_) fun z => absurd (show (if a ∈ cs.map (·.2) then some (HO.tbl #[]) else none) = none from if_neg aT) z
    · by_cases hb : b ∈ cs.map (·.2)
      · exact .inr (.inl hb)
      · exact .inl (if_neg hb)
    · by_cases hb : b ∈ cs.map (·.2)
      · have z' := (if_pos hb).symm.trans z
        cases z'
        exact isT b hb
      · have z' := (if_neg hb).symm.trans z
        cases z'
    · by_cases hb : b ∈ cs.map (·.2)
      · exact .inr hb
      · exact absurd (if_neg hb) z
  | none =>
    refine core (fun b => if b = a then some (.frz { cls := .type "list", data := .seq vs.toArray } (.lst (ns.map V.int))) else if b ∈ cs.map (·.2) then some (.tbl #[]) else none) (fun p hp => (if_neg (show ¬ p.2 = a from fun z => aT (by rw [← z]; exact memT p hp))).trans (if_pos (memT p hp))) (fun b => ?_)
      (.inl (.inr ⟨{ cls := .type "list", data := .seq vs.toArray }, if_pos rfl⟩)) (fun b u z => ?_) (fun b z => ?_) fun _ => hk
    · by_cases hb : b = a
      · exact .inr (.inr ⟨_, _, if_pos hb⟩)
      · by_cases hb2 : b ∈ cs.map (·.2)
        · exact .inr (.inl hb2)
        · exact .inl ((if_neg hb).trans (if_neg hb2))
    · by_cases hb : b = a
      · have z' := (if_pos hb).symm.trans z
        cases z'
        rw [hb]
        exact ⟨ha, by rw [List.length_map]; exact hl, vs, _, rv, ha⟩
      · have z1 := (if_neg hb).symm.trans z
        by_cases hb2 : b ∈ cs.map (·.2)
        · have z' := (if_pos hb2).symm.trans z1
          cases z'
          exact isT b hb2
        · have z' := (if_neg hb2).symm.trans z1
          cases z'
    · by_cases hb : b = a
      · exact .inl hb
      · by_cases hb2 : b ∈ cs.map (·.2)
        · exact .inr hb2
        · exact absurd ((if_neg hb).trans (if_neg hb2)) z
end
end DL
namespace DL
open PySem PySem.Spec PyProof.Rows L2 LamX NdefX
theorem walk_dlTS {l : PySem.W.OpenLaw} {k : Nat} {q : Program} {loose : List Str} {XP : (Str → Option Value) → Heap → Prop} {YP : World → Heap → Prop} {d : DefRec} {K : Params → PySem.W.Frag} {x qual : Str} {st : Stmt} {N : List Str} {m : List Addr → SM} {nms : List Str} {C : List Addr → Prop} (hn : l.most = some 63) (hdf : d.params.defaults = []) (hr : Room (k + 1) callerA)
    (hY : ∀ (w : World) (h : Heap), YP w h → (K w.params).In h) (hYs : ∀ (w : World) (h : Heap), YP w h → SysIn h) (Sc : FnScope N ["script"] (defScope st))
    (F : ∀ (w : World) (mg : Str → Option Value) (fa : Addr) (h : Heap), YP w h → (K w.params).In h → h.Ns mainGlobals mg → mg d.name = some (.ref fa) →
      ∃ (fd : FuncData) (cs : List (Addr × Addr)) (Fa : List Addr), C Fa ∧ (∀ p ∈ cs, h.get? p.2 = some { cls := .none, data := .fields #[] }) ∧ (∀ p ∈ cs, (K w.params).lookup p.2 = none) ∧ (∀ p ∈ cs, PySem.W.CodeHd h p.1 p.2) ∧ (cs.map (·.2)).Nodup ∧ cs.length = nms.length ∧
        Fun (K w.params) x qual st fa fd ∧ (∀ (s : Shared) (u : Value), BindsTo s fd ⟨[u], []⟩ [("script", u)]) ∧ ∀ base : Heap, (K w.params).In base → base.Ns mainGlobals mg → (∀ p ∈ cs, TabB base mg p.1 p.2) → SysIn base → TopB l.prog w (K w.params) mg base N qual st fa k (m (Fa ++ cs.map (·.2))))
    (good : ∀ (Fa Ts : List Addr) (ns : List Int), C Fa → Ts.length = nms.length → ns.length ≤ 63 → (∀ z ∈ ns, Builtin.Int.intBits z ≤ 1048576) → ∃ s, m (Fa ++ Ts) ⟨slotsOf N.length ([D.scr (ns.map .int)].map .p), tbls Ts nms⟩ = some (.rt (.p (.bl true)), s)) :
    PySem.W.WalkO q loose XP YP l.row.toRowW d [] (fun f vs => PySem.call f vs) := by
  refine Att.attach_callB hn hdf fun w s₀ s₁ mg mb fa o pm cd doc a vs ns G Y ho hd hcd hmg hobj hints hlen hbits hg => ?_
  have KX := hY w _ Y
  obtain ⟨fd, cs, Fa, hC, hT, nT, Cd, nd, hln, hF, hbind, body⟩ := F w mg fa _ Y KX G.T.g hmg
  exact law_topTS KX G.T.g G.T.b G.T.builtins G.T.nolimit (hYs w _ Y) hg hT nT Cd G.T.bmain hobj hints (Nat.le_trans hlen (by decide)) hr nd hln hF Sc hbind body (good Fa (cs.map (·.2)) ns hC (by rw [List.length_map]; exact hln) hlen hbits)
/-- a hook that also says that a dict stands at sysModules -/
def isDictAt (h : Heap) : Bool := match h.get? sysModules with
  | some o => match o.data with
    | .dict _ _ => true
    | _ => false
  | none => false
theorem isDictAt_of {h : Heap} (e : isDictAt h = true) : SysIn h := by
  unfold isDictAt at e
  split at e
  · rename_i o h1
    split at e
    · rename_i es n h2
      exact ⟨o, es, n, h1, h2⟩
    · cases e
  · cases e
def sysHook (H : PySem.W.Hook) : PySem.W.Hook where
  α := H.α × Bool
  obs := fun s => (H.obs s, isDictAt s.heap)
  val := fun w => (H.val w, true)
  says := fun w h => H.says w h ∧ SysIn h
  of := fun w s e => ⟨H.of w s (Prod.mk.inj e).1, isDictAt_of (Prod.mk.inj e).2⟩
  keeps := fun w h h' x k => ⟨H.keeps w h h' x.1 k, let ⟨o, es, n, e1, e2⟩ := x.2; ⟨o, es, n, k _ _ e1, e2⟩⟩
end DL
namespace DL
open PySem PySem.Spec PyProof.Rows L2 LamX NdefX
end DL
namespace DL
open PySem PySem.Spec PyProof.Rows L2
/-! ### d.pop(k), del d[k], of dicts of one's own with texts, numbers or tuples as keys -/
section
variable {X : Cx} {pins : List (Addr × Obj)} {σ : L2.St} {H H' : Hp} {s : Shared} {a : Addr} {y v : V} {u : Value} {A : Around} {E : Value → Shared → Prop}
theorem kt_drop {H : Hp} {kvs : List (List Key × V)} {xs : List (List Key × Addr × Value)} (r : KT H kvs xs) (k : List Key) : KT H (dropK kvs k) (withoutH xs k) := by
  unfold dropK withoutH
  induction r with
  | nil => exact .nil
  | @cons p q ps qs g t ih =>
    rw [List.filter_cons, List.filter_cons, g.1]
    split
    · exact .cons g ih
    · exact ih
/-- the heap behind d.pop(y), its value v -/
def DDrop (H : Hp) (a : Addr) (y v : V) (H' : Hp) : Prop :=
  (∃ kvs k, H a = some (.dK kvs) ∧ y = kV k ∧ valV kvs k = some v ∧ H' = upd H a (.dK (dropK kvs k))) ∨
  ∃ kvs k b, H a = some (.dT kvs) ∧ y = .ref b ∧ H b = some (.tup (k.map kV)) ∧ valV kvs k = some v ∧ H' = upd H a (.dT (dropK kvs k))
theorem d_popT {Q : Value → Shared → Prop} (hu : A.units + 1 < cLine) (I : Inv X pins σ H s) (g : DDrop H a y v H') (ry : RelV y u) (h : ∀ w' s', Inv X pins σ H' s' → RelV v w' → Q w' s') :
    wpAny (model X.prog X.w) A (call (.builtin "dict.pop") [.ref a, u]) Q E s := by
  rcases g with ⟨kvs, k, e, ey, l, eH⟩ | ⟨kvs, k, b, e, ey, eb, l, eH⟩
  · subst ey eH
    exact d_pop I e ry l (.inl rfl) h
  · subst ey eH
    cases (show u = Value.ref b from ry)
    obtain ⟨z, hd, xs, rel, dd⟩ := dt_of I.hok e
    have hz : xs.length ≤ sizeLine := by rw [← Paired.length rel]; exact z
    have hl : (dropK kvs k).length ≤ sizeLine := Nat.le_trans (dropK_le kvs k) z
    obtain ⟨w', hw, rw'⟩ := RelO.some_of (v := v) (o := (atKey xs k).map (·.2)) (by rw [← l]; exact rel.val k)
    obtain ⟨p, hp, hp2⟩ := Option.map_eq_some_iff.mp hw
    refine call_pop_heap (more := []) (.inl rfl) (PySem.F.args_dict_pop_2 _ _) (hsz := hz) (tupleKind_room_in1 hu) (key_of I.hok eb) hd dd hp fun h' dd' hs => ?_
    rw [hp2]
    refine h w' _ ?_ rw'
    obtain ⟨q, es, ep, hq, h2, h3, h4, _, h5⟩ := dd'
    refine d_write I (by rw [e]; exact True.intro) hs ⟨q, hq⟩ ⟨hl, hd, _, (kt_drop rel k).keeps fun c ys ec => ?_, q, es, ep, hq, h2, h3, h4, h5⟩
    rw [upd_ne (ne_of ec e (fun z => nomatch z))]
    exact ec
end
def tDPopT (td ty : TE) : TE := fun σ H Q => td σ H fun x H1 => ∃ a, x = .ref a ∧ IsD H1 a ∧ ty σ H1 fun y H2 => ∃ v H3, DDrop H2 a y v H3 ∧ Q v H3
section
variable {X : Cx} {o i e : Expr} {pos tpos apos cpos : Pos} {td ty : TE}
theorem pe_dpopT (hu : X.A.units + 1 < cLine) (ho : PE X o td) (he : PE X e ty) (m : M1 X o "pop" apos e cpos) : PE X (.Call (.Attribute o "pop" apos) [e] [] cpos) (tDPopT td ty) := by
  refine ⟨fun pins s σ H Q I h => ?_⟩
  refine wpAny_Call_method m.base m.few m.line PySem.F.plainAttrs_dict PySem.F.slot_dict_pop PySem.F.type_dict_pop (thn (ho.run pins s σ H _ I h) fun u s1 ⟨x, H1, I1, rx, a, ex, d, q1⟩ => ?_)
  subst ex
  obtain rfl : u = Value.ref a := rx
  obtain ⟨t1, t2, _⟩ := isD_at I1 d
  refine ⟨t1, t2, ?_⟩
  rw [m.trees]
  refine Calls.callWith_builtin rfl (Calls.evalArgs_plain (Calls.spliced_cons (thn (he.run pins s1 σ H1 _ I1 q1) fun iv s2 ⟨y, H2, I2, ry, v, H3, g, q2⟩ => Calls.spliced_nil ?_)))
  exact d_popT hu I2 g ry fun w' s3 I3 rw' => ⟨v, _, I3, rw', q2⟩
end
section
variable {K : PySem.W.Frag} {X : Cx} {W : WX} {o e i : Expr} {pos tpos apos cpos : Pos} {td ty : TE} {m n : EM} {Z H : Hp} {I : List Addr} {M M' : List O}
/-- d.pop(k) at a dict of one's own -/
def popM (M : List O) (n : Nat) (k : D) : Option (DV × List O) := match M[n]? with
  | some (.dK ds) => match keyD k with
    | some kk => match valO ds kk with
      | some v => some (v, M.set n (.dK (dropO ds kk)))
      | none => none
    | none => none
  | some (.dT ds) => match keyT k with
    | some kk => match valO ds kk with
      | some v => some (v, M.set n (.dT (dropO ds kk)))
      | none => none
    | none => none
  | _ => none
theorem pop_rep {n : Nat} {a : Addr} {k : D} {y : V} {dv : DV} (w : Wf K Z H I M) (ha : I[n]? = some a) (hy : Rep K Z y k) (e : popM M n k = some (dv, M')) :
    ∃ v H', DDrop H a y v H' ∧ RepV K Z I v dv ∧ Wf K Z H' I M' ∧ Ext Z H I Z H' I := by
  unfold popM at e
  split at e
  · rename_i ds hm
    split at e
    · rename_i kk hk
      split at e
      · rename_i v0 hv
        cases e
        obtain ⟨_, ks, h1, h2⟩ := w.ob n a _ ha hm (by intro z; cases z)
        rcases valP_rep h2 kk with ⟨_, q⟩ | ⟨v, d, q1, q2, q3⟩
        · rw [q] at hv; cases hv
        · rw [q2] at hv
          cases hv
          exact ⟨v, _, .inl ⟨ks, kk, h1, key_rep hy hk, q1, rfl⟩, q3, w.setO ha hm (by intro z; cases z) ⟨_, upd_same, dropP_rep h2 kk⟩, ext_set (List.mem_of_getElem? ha)⟩
      · cases e
    · cases e
  · rename_i ds hm
    split at e
    · rename_i kk hk
      split at e
      · rename_i v0 hv
        cases e
        obtain ⟨_, ks, h1, h2⟩ := w.ob n a _ ha hm (by intro z; cases z)
        obtain ⟨b, rfl, hb⟩ := keyT_rep hy hk
        rcases valP_rep h2 kk with ⟨_, q⟩ | ⟨v, d, q1, q2, q3⟩
        · rw [q] at hv; cases hv
        · rw [q2] at hv
          cases hv
          exact ⟨v, _, .inr ⟨ks, kk, b, h1, rfl, w.sub _ _ hb, q1, rfl⟩, q3, w.setO ha hm (by intro z; cases z) ⟨_, upd_same, dropP_rep h2 kk⟩, ext_set (List.mem_of_getElem? ha)⟩
      · cases e
    · cases e
  · cases e
def popK (d : DV) (k : D) : EM := fun s => match d with
  | .o i => match popM s.m i k with
    | some (v, M) => some (.ok v M)
    | none => none
  | _ => none
def mDpop (m n : EM) : EM := bnd m fun d s => if isDc s.m d = true then bnd n (pur (popK d)) s else none
theorem de_dpopT (hu : X.A.units + 1 < cLine) (ho : DE K X W o td m) (he : DE K X W e ty n) (hb : attributeBase o "pop" X.env (eval o X.env) = eval o X.env := by rfl) (hf : ((backTo cpos (starEach [e] X.env)).all (fun x => !x.1) && (backToKw cpos (keywordEach [] X.env)).all (fun x => x.1.isSome)
    && decide (([e] : List Expr).length + ([] : List Keyword).length + (if ([] : List Keyword).isEmpty then 0 else 1) < 30)) = true := by rfl) (hl : (apos.endLine == cpos.line) = true := by rfl) (ht : backTo cpos (starEach [e] X.env) = [(false, eval e X.env)] := by rfl) :
    DE K X W (.Call (.Attribute o "pop" apos) [e] [] cpos) (tDPopT td ty) (mDpop m n) := by
  refine ⟨ho.k, pe_dpopT hu ho.pe he.pe ⟨hb, hf, hl, ht⟩, ⟨fun σ H s Z I r0 Q w rs e0 p => ?_⟩⟩
  refine ho.so.bnd w rs e0 p.x fun d v M1 Z1 H1 I1 w1 rs1 x1 q1 e1 => ?_
  have e1 : (if isDc M1 d = true then _ else none) = some r0 := e1
  split at e1
  · rename_i hd
    obtain ⟨a, rfl, ia⟩ := dc_isD w1 q1 hd
    refine ⟨a, rfl, ia, ?_⟩
    have p1 := p.mono x1
    refine he.so.bnd (s := ⟨s.l, M1⟩) w1 rs1 e1 p1.x fun d2 v2 M2 Z2 H2 I2 w2 rs2 x2 q2 e2 => ?_
    obtain ⟨d2, rfl, e2⟩ := pur_ok e2
    have e2 : popK d d2 ⟨s.l, M2⟩ = some r0 := e2
    unfold popK at e2
    cases d with
    | p d => cases e2
    | o i =>
      dsimp only at e2
      cases z : popM M2 i d2 with
      | none => simp only [z] at e2; cases e2
      | some pr =>
        obtain ⟨dv, M3⟩ := pr
        simp only [z] at e2
        cases e2
        obtain ⟨a', ha, ea⟩ := q1.mono x2
        cases ea
        obtain ⟨v', H3, g, hr, w3, x3⟩ := pop_rep w2 ha q2 z
        refine ⟨v', H3, g, ?_⟩
        exact p _ _ _ _ w3 ((x1.trans x2).trans x3) (hr.mono x3)
  · cases e1
/-- del d[k] -/
def sDelK (d : DV) (k : D) : SM := fun s => match d with
  | .o n => match popM s.m n k with
    | some (_, M) => some (.nx, ⟨s.l, M⟩)
    | none => none
  | _ => none
def sDel (md mk : EM) : SM := liftS md fun d => liftS mk (purS fun k => sDelK d k)
@[simp] theorem e_dpop (m n : EM) (s : S) : mDpop m n s = (bnd m fun d s => if isDc s.m d = true then bnd n (pur (popK d)) s else none) s := rfl
@[simp] theorem e_del (md mk : EM) (s : S) : sDel md mk s = (liftS md fun d => liftS mk (purS fun k => sDelK d k)) s := rfl
end
end DL
namespace PySem.SeqAt
open PySem PyProof.Rows
variable {P : Program} {w : World}
/-- two tuples of one length, all items equal -/
theorem dl_tup_eq (x y : Addr) (us vs : Array Value) (nx ny : Nat) (dx dy : Option Addr) (sx sy : Array (Option Value)) (hsz : us.size = vs.size) :
    MeetsIn P w (Builtin.«tuple.__eq__» ⟨[.ref x, .ref y], []⟩)
      (fun A R s => (s.heap.get? x = some { cls := .type "tuple", dict := dx, data := .seq us nx, slots := sx } ∧
        s.heap.get? y = some { cls := .type "tuple", dict := dy, data := .seq vs ny, slots := sy }) ∧
        (∀ (j : Nat) (h1 : j < us.size) (h2 : j < vs.size), EqP P w A.in1 s us[j] vs[j] true) ∧ R (.ok (.ret (.bool true))) s) :=
  .of_wp fun A R s hs => by
    obtain ⟨hp, gn, dr, tk, os⟩ := s
    obtain ⟨⟨e1, e2⟩, he, hR⟩ := hs
    have f2 := AutoSeq1.sub_tuple_tuple
    have hZ : (us.toList.zip vs.toList).length = us.size := by simp [hsz]
    wp_walk using wpAny_loadPart' e1, wpAny_loadPart' e2, wpAny_forIn_list _ (fun rest b s' => b.1 = none ∧ s' = ⟨hp, gn, dr, tk, os⟩ ∧ ∃ i, rest = (us.toList.zip vs.toList).drop i) _
    case turn =>
      rintro ⟨p, q⟩ rest b s' ⟨hb', rfl, i, hz⟩
      have hlt : i < (us.toList.zip vs.toList).length := by
        rcases Nat.lt_or_ge i (us.toList.zip vs.toList).length with k | k
        · exact k
        · rw [List.drop_of_length_le k] at hz; cases hz
      have h1 : i < us.size := by omega
      have h2 : i < vs.size := by omega
      rw [List.drop_eq_getElem_cons hlt] at hz
      injection hz with hpq hrest
      obtain rfl : p = us[i] := by simpa using congrArg Prod.fst hpq
      obtain rfl : q = vs[i] := by simpa using congrArg Prod.snd hpq
      refine wpAny_bind (he i h1 h2 _ _ ?_)
      wp_walk
      exact ⟨rfl, rfl, i + 1, hrest⟩
    case fin =>
      rintro ⟨b1, b2⟩ s' ⟨hb', rfl, i, hz⟩
      simp only at hb'
      subst hb'
      wp_walk
      exact ⟨_, rfl, by simpa [Builtin.Tuple.tupleCompareSizes, hsz] using hR⟩
    case h =>
      exact ⟨rfl, rfl, 0, rfl⟩
theorem dl_rc_tups {A : Around} {s : Shared} {x y : Addr} {us vs : Array Value} (hx : s.heap.IsTuple x us) (hy : s.heap.IsTuple y vs) (hsz : us.size = vs.size) (hu : A.units < cLine)
    (he : ∀ (j : Nat) (h1 : j < us.size) (h2 : j < vs.size), EqP P w A.in1 s us[j] vs[j] true) (E Q : Value → Shared → Prop) (q : Q (.bool true) s) :
    wpAny (model P w) A (richCompare .Eq (.ref x) (.ref y)) Q E s := by
  obtain ⟨⟨c1, d1, data1, sl1⟩, o1, k1, n1, g1⟩ := id hx
  obtain ⟨⟨c2, d2, data2, sl2⟩, o2, k2, n2, g2⟩ := id hy
  simp only at k1 g1 k2 g2
  subst k1 g1 k2 g2
  have t1 : s.TypeIs (.ref x) "tuple" := ⟨_, o1, rfl⟩
  have t2 : s.TypeIs (.ref y) "tuple" := ⟨_, o2, rfl⟩
  refine wpAny_richCompare_same_room (op := .Eq) t1 t2 F.slot_tuple_eq ?_ hu
  refine call_meetsIn F.slot_tuple_eq t1 F.entry_tuple_eq (F.args_tuple_eq_2 _ _) (dl_tup_eq x y us vs n1 n2 d1 d2 sl1 sl2 hsz) ⟨⟨o1, o2⟩, he, ?_⟩
  show Value.bool true ≠ Value.notImplemented ∧ Q (.bool true) s
  exact ⟨(fun z => nomatch z), q⟩
/-- the same, asked for != -/
theorem dl_tup_ne (x y : Addr) (us vs : Array Value) (nx ny : Nat) (dx dy : Option Addr) (sx sy : Array (Option Value)) (hsz : us.size = vs.size) :
    MeetsIn P w (Builtin.«tuple.__ne__» ⟨[.ref x, .ref y], []⟩)
      (fun A R s => (s.heap.get? x = some { cls := .type "tuple", dict := dx, data := .seq us nx, slots := sx } ∧
        s.heap.get? y = some { cls := .type "tuple", dict := dy, data := .seq vs ny, slots := sy }) ∧
        (∀ (j : Nat) (h1 : j < us.size) (h2 : j < vs.size), EqP P w A.in1 s us[j] vs[j] true) ∧ R (.ok (.ret (.bool false))) s) :=
  .of_wp fun A R s hs => by
    obtain ⟨hp, gn, dr, tk, os⟩ := s
    obtain ⟨⟨e1, e2⟩, he, hR⟩ := hs
    have f2 := AutoSeq1.sub_tuple_tuple
    have hZ : (us.toList.zip vs.toList).length = us.size := by simp [hsz]
    wp_walk using wpAny_loadPart' e1, wpAny_loadPart' e2, wpAny_forIn_list _ (fun rest b s' => b.1 = none ∧ s' = ⟨hp, gn, dr, tk, os⟩ ∧ ∃ i, rest = (us.toList.zip vs.toList).drop i) _
    case turn =>
      rintro ⟨p, q⟩ rest b s' ⟨hb', rfl, i, hz⟩
      have hlt : i < (us.toList.zip vs.toList).length := by
        rcases Nat.lt_or_ge i (us.toList.zip vs.toList).length with k | k
        · exact k
        · rw [List.drop_of_length_le k] at hz; cases hz
      have h1 : i < us.size := by omega
      have h2 : i < vs.size := by omega
      rw [List.drop_eq_getElem_cons hlt] at hz
      injection hz with hpq hrest
      obtain rfl : p = us[i] := by simpa using congrArg Prod.fst hpq
      obtain rfl : q = vs[i] := by simpa using congrArg Prod.snd hpq
      refine wpAny_bind (he i h1 h2 _ _ ?_)
      wp_walk
      exact ⟨rfl, rfl, i + 1, hrest⟩
    case fin =>
      rintro ⟨b1, b2⟩ s' ⟨hb', rfl, i, hz⟩
      simp only at hb'
      subst hb'
      wp_walk
      exact ⟨_, rfl, by simpa [Builtin.Tuple.tupleCompareSizes, hsz] using hR⟩
    case h =>
      exact ⟨rfl, rfl, 0, rfl⟩
theorem dl_rc_tupsN {A : Around} {s : Shared} {x y : Addr} {us vs : Array Value} (hx : s.heap.IsTuple x us) (hy : s.heap.IsTuple y vs) (hsz : us.size = vs.size) (hu : A.units < cLine)
    (he : ∀ (j : Nat) (h1 : j < us.size) (h2 : j < vs.size), EqP P w A.in1 s us[j] vs[j] true) (E Q : Value → Shared → Prop) (q : Q (.bool false) s) :
    wpAny (model P w) A (richCompare .NotEq (.ref x) (.ref y)) Q E s := by
  obtain ⟨⟨c1, d1, data1, sl1⟩, o1, k1, n1, g1⟩ := id hx
  obtain ⟨⟨c2, d2, data2, sl2⟩, o2, k2, n2, g2⟩ := id hy
  simp only at k1 g1 k2 g2
  subst k1 g1 k2 g2
  have t1 : s.TypeIs (.ref x) "tuple" := ⟨_, o1, rfl⟩
  have t2 : s.TypeIs (.ref y) "tuple" := ⟨_, o2, rfl⟩
  refine wpAny_richCompare_same_room (op := .NotEq) t1 t2 F.slot_tuple_ne ?_ hu
  refine call_meetsIn F.slot_tuple_ne t1 F.entry_tuple_ne (F.args_tuple_ne_2 _ _) (dl_tup_ne x y us vs n1 n2 d1 d2 sl1 sl2 hsz) ⟨⟨o1, o2⟩, he, ?_⟩
  show Value.bool false ≠ Value.notImplemented ∧ Q (.bool false) s
  exact ⟨(fun z => nomatch z), q⟩
end PySem.SeqAt
namespace PySem.W
open PySem PyProof.Rows PySem.Spec
variable {P : Program} {w : World} {K : Type} [DecidableEq K] {knd : HeapKind P w K}
/-- two dicts with tuples as keys, equal -/
theorem dl_samePairs {nm : String} {a b : Addr} {xs ys : List (K × Addr × Value)} {A : Around} {E : Value → Shared → Prop} {s : Shared} {Q : Bool → Shared → Prop} (hu : knd.room A)
    (sa : (a == sysModules) = false) (sb : (b == sysModules) = false) (da : s.heap.DictOfH knd a xs) (db : s.heap.DictOfH knd b ys) (hl : xs.length = ys.length)
    (hit : ∀ x ∈ xs, ∃ p, atKey ys x.1 = some p ∧ SeqAt.EqP P w A s x.2.2 p.2 true) (q : Q true s) : wpAny (model P w) A (Builtin.Dict.samePairs nm a b) Q E s := by
  obtain ⟨o1, es, ep, g1, _, d1, e1, is1, nd1⟩ := da
  obtain ⟨o2, fs, fp, g2, _, d2, e2, is2, nd2⟩ := db
  have z1 : es.size = xs.length := size_of_entries e1
  have z2 : fs.size = ys.length := size_of_entries e2
  unfold Builtin.Dict.samePairs Builtin.Dict.showsAll
  rw [if_neg (by rw [sa]; exact Bool.false_ne_true), if_neg (by rw [sb]; exact Bool.false_ne_true)]
  refine wpAny_bind (wpAny_pure (wpAny_bind (wpAny_pure ?_)))
  refine wpAny_bind (wpAny_dictEntries g1 d1 ?_)
  dsimp only
  refine wpAny_bind (wpAny_dictEntries g2 d2 ?_)
  rw [if_neg (by simp [z1, z2, hl])]
  refine wpAny_bind (wpAny_dictEpoch g1 d1 ?_)
  refine wpAny_bind ?_
  rw [Std.Legacy.Range.forIn_eq_forIn_range']
  simp only [Std.Legacy.Range.size, Nat.sub_zero, Nat.add_sub_cancel, Nat.div_one]
  refine wpAny_forIn_list _ (fun rest c s' => s' = s ∧ c = (none, ()) ∧ ∃ i, rest = List.range' i (es.size - i) ∧ i ≤ es.size) _ ?_ ?_ _ _ ⟨rfl, rfl, 0, by simp, Nat.zero_le _⟩
  · rintro j rest c s' ⟨rfl, rfl, i, hr, hi⟩
    have hlt : i < es.size := by
      rcases Nat.lt_or_ge i es.size with k | k
      · exact k
      · rw [Nat.sub_eq_zero_of_le k] at hr; simp at hr
    have hd : es.size - i = (es.size - (i + 1)) + 1 := by omega
    rw [hd, List.range'_succ] at hr
    injection hr with ej hrest
    subst ej
    have hx : j < xs.length := by omega
    have ex : es[j]? = some (entryOfKey knd xs[j]) := by rw [entry_at e1, List.getElem?_eq_getElem hx]; rfl
    have ex' : es[j] = entryOfKey knd xs[j] := by rw [Array.getElem?_eq_getElem hlt] at ex; exact Option.some.inj ex
    obtain ⟨p, hp, hq⟩ := hit xs[j] (List.getElem_mem hx)
    refine wpAny_bind (wpAny_dictEntries g1 d1 ?_)
    rw [ex]
    show wpAny _ _ (holding [Value.ref xs[j].2.1, xs[j].2.2] _ >>= _) _ _ _
    refine wpAny_bind (wpAny_holding (wpAny_bind (wpAny_dictFind_heap hu (is1 _ (List.getElem_mem hx)) g2 d2 e2 is2 nd2 (fun hn => ?_) fun m pm hm => ?_)))
    · have := atKey_none_of_get hn
      rw [hp] at this
      cases this
    · have hpm : pm = p := by
        have := atKey_of_get nd2 hm
        rw [hp] at this
        exact (Option.some.inj this).symm
      subst hpm
      refine wpAny_bind (wpAny_dictEntries g2 d2 ?_)
      rw [entry_at e2, hm]
      refine wpAny_holding (hq _ _ ?_)
      show wpAny _ _ (if (!true) = true then _ else _) _ _ _
      rw [if_neg (by decide)]
      refine wpAny_bind (wpAny_dictEpoch g1 d1 ?_)
      rw [if_neg (by simp)]
      exact wpAny_pure ⟨rfl, rfl, j + 1, hrest, hlt⟩
  · rintro c s' ⟨rfl, rfl, _⟩
    exact wpAny_pure q
theorem dl_rc_dicts {a b : Addr} {xs ys : List (K × Addr × Value)} {A : Around} {s : Shared} (hr : knd.room A.in1) (sa : (a == sysModules) = false) (sb : (b == sysModules) = false) (da : s.heap.DictOfH knd a xs) (db : s.heap.DictOfH knd b ys)
    (hu : A.units < cLine) (hl : xs.length = ys.length) (hit : ∀ x ∈ xs, ∃ p, atKey ys x.1 = some p ∧ SeqAt.EqP P w A.in1 s x.2.2 p.2 true) (E Q : Value → Shared → Prop) (q : Q (.bool true) s) :
    wpAny (model P w) A (richCompare .Eq (.ref a) (.ref b)) Q E s := by
  refine wpAny_richCompare_same_room (op := .Eq) da.typeIs db.typeIs PySem.F.slot_dict_eq ?_ hu
  refine wpAny_call_entry PySem.F.slot_dict_eq da.typeIs PySem.F.entry_dict_eq ?_ (PySem.F.args_dict_eq_2 _ _)
  show wpAny _ _ (Builtin.Dict.dictSlotArgs "__eq__" ⟨[.ref a, .ref b], []⟩ >>= _) _ _ s
  refine wpAny_bind ?_
  unfold Builtin.Dict.dictSlotArgs
  refine wpAny_bind (wpAny_notOrdered_dict da.typeIs (wpAny_pure ?_))
  refine wpAny_bind (wpAny_isInstance (T := "dict") db.typeIs PySem.F.sub_dict_dict ?_)
  simp only [Bool.not_true, Bool.false_eq_true, if_false]
  refine wpAny_bind (wpAny_pure (wpAny_bind (wpAny_pure ?_)))
  refine wpAny_bind (dl_samePairs hr sa sb da db hl hit ?_)
  exact wpAny_pure ⟨_, rfl, (fun z => nomatch z), q⟩
end PySem.W
namespace DL
open PySem PySem.Spec PyProof.Rows L2
/-! ### == of data with dicts inside, where it is true -/
mutual
def sameT : D → D → Bool
  | .non, e => match e with | .non => true | _ => false
  | .bl a, e => match e with | .bl b => a == b | _ => false
  | .int a, e => match e with | .int b => a == b | _ => false
  | .str a, e => match e with | .str b => a == b | _ => false
  | .lst xs, e => match e with | .lst ys => sameTs xs ys | .klst ys => sameTs xs ys | _ => false
  | .klst xs, e => match e with | .lst ys => sameTs xs ys | .klst ys => sameTs xs ys | _ => false
  | .tup xs, e => match e with | .tup ys => sameTs xs ys | .ktup ys => sameTs xs ys | _ => false
  | .ktup xs, e => match e with | .tup ys => sameTs xs ys | .ktup ys => sameTs xs ys | _ => false
  | .dT ks, e => match e with | .dT ls => ks.length == ls.length && sameTk ks ls | _ => false
  | _, _ => false
def sameTs : List D → List D → Bool
  | [], ys => ys.isEmpty
  | x :: xs, ys => match ys with | y :: zs => sameT x y && sameTs xs zs | [] => false
def sameTk : List (List Key × D) → List (List Key × D) → Bool
  | [], _ => true
  | (k, d) :: r, ls => (match valO ls k with | some e => sameT d e | none => false) && sameTk r ls
end
mutual
def depT : D → Nat
  | .lst xs => depTs xs + 2
  | .klst xs => depTs xs + 2
  | .tup xs => depTs xs + 2
  | .ktup xs => depTs xs + 2
  | .dT ks => depTk ks + 2
  | _ => 0
def depTs : List D → Nat
  | [] => 0
  | x :: r => max (depT x) (depTs r)
def depTk : List (List Key × D) → Nat
  | [] => 0
  | (_, d) :: r => max (depT d) (depTk r)
end
section
variable {X : Cx} {pins : List (Addr × Obj)} {σ : L2.St} {H Z : Hp} {s : Shared}
abbrev EQ (X : Cx) (s : Shared) (A : Around) (v u : Value) : Prop := SeqAt.EqP X.prog X.w A s v u true
theorem rep_seqL (sz : Same Z H) {x : V} {d : D} {xs : List D} (h : Rep X.K Z x d) (e : d = .lst xs ∨ d = .klst xs) : ∃ a vs, x = .ref a ∧ SqL X.K H a vs ∧ RepA X.K Z vs xs := by
  rcases e with rfl | rfl
  · cases h with | lst h1 h2 => exact ⟨_, _, rfl, .inl (same_rd sz h1), h2⟩
  · cases h with | klst h1 h2 => exact ⟨_, _, rfl, same_l sz h1, h2⟩
theorem rep_seqT (sz : Same Z H) {x : V} {d : D} {xs : List D} (h : Rep X.K Z x d) (e : d = .tup xs ∨ d = .ktup xs) : ∃ a vs, x = .ref a ∧ SqT X.K H a vs ∧ RepA X.K Z vs xs := by
  rcases e with rfl | rfl
  · cases h with | tup h1 h2 => exact ⟨_, _, rfl, sqt sz h1, h2⟩
  · cases h with | ktup h1 h2 => exact ⟨_, _, rfl, same_t sz h1, h2⟩
abbrev RQ (X : Cx) (s : Shared) (A : Around) (op : CmpOp) (b : Bool) (v u : Value) : Prop := ∀ (E Q : Value → Shared → Prop), Q (.bool b) s → wpAny (model X.prog X.w) A (richCompare op v u) Q E s
theorem eq_refs {A : Around} {a b : Addr} (h : ∀ (E Q : Value → Shared → Prop), Q (.bool true) s → wpAny (model X.prog X.w) A (richCompare .Eq (.ref a) (.ref b)) Q E s) : EQ X s A (.ref a) (.ref b) := by
  by_cases e : a = b
  · subst e; exact (SeqAt.EqAt.same _).eqP
  · exact SeqAt.eqP_refs e h
theorem sameTs_len : ∀ {xs ys : List D}, sameTs xs ys = true → xs.length = ys.length
  | [], [], _ => rfl
  | [], _ :: _, h => by cases h
  | _ :: _, [], h => by cases h
  | x :: xs, y :: ys, h => by
    have h : (sameT x y && sameTs xs ys) = true := h
    rw [Bool.and_eq_true] at h
    rw [List.length_cons, List.length_cons, sameTs_len h.2]
theorem rc_list (I : Inv X pins σ H s) (sz : Same Z H) {A : Around} {x y : V} {d e : D} {v u : Value} {xs ys : List D} (hx : Rep X.K Z x d) (hy : Rep X.K Z y e) (rx : RelV x v) (ry : RelV y u) (ed : d = .lst xs ∨ d = .klst xs) (ee : e = .lst ys ∨ e = .klst ys)
    (hl : xs.length = ys.length) (hu : A.units < cLine) (ih : ∀ vs ws us zs, RepA X.K Z vs xs → RepA X.K Z ws ys → Vals vs us → Vals ws zs → ∀ (j : Nat) (h1 : j < us.length) (h2 : j < zs.length), EQ X s A.in1 us[j] zs[j]) : ∃ a b, v = .ref a ∧ u = .ref b ∧ RQ X s A .Eq true (.ref a) (.ref b) := by
  obtain ⟨a, vs, rfl, s1, r1⟩ := rep_seqL sz hx ed
  obtain ⟨b, ws, rfl, s2, r2⟩ := rep_seqL sz hy ee
  cases (show v = Value.ref a from rx)
  cases (show u = Value.ref b from ry)
  obtain ⟨us, q1, p1, _⟩ := I.list s1
  obtain ⟨zs, q2, p2, _⟩ := I.list s2
  have hsz : us.toArray.size = zs.toArray.size := by
    rw [List.size_toArray, List.size_toArray, ← q1.length, ← q2.length, r1.length, r2.length, hl]
  refine ⟨a, b, rfl, rfl, fun E Q q => SeqAt.rcP_lists (e := fun _ => true) p1.isList p2.isList hsz hu (fun j h1 h2 => ?_) E Q ?_⟩
  · simpa using ih vs ws us zs r1 r2 q1 q2 j (by simpa using h1) (by simpa using h2)
  · rw [show ((List.range us.toArray.size).all fun _ => true) = true from List.all_eq_true.mpr fun _ _ => rfl]
    exact q
theorem rc_tuple (I : Inv X pins σ H s) (sz : Same Z H) {A : Around} {x y : V} {d e : D} {v u : Value} {xs ys : List D} (hx : Rep X.K Z x d) (hy : Rep X.K Z y e) (rx : RelV x v) (ry : RelV y u) (ed : d = .tup xs ∨ d = .ktup xs) (ee : e = .tup ys ∨ e = .ktup ys)
    (hl : xs.length = ys.length) (hu : A.units < cLine) (ih : ∀ vs ws us zs, RepA X.K Z vs xs → RepA X.K Z ws ys → Vals vs us → Vals ws zs → ∀ (j : Nat) (h1 : j < us.length) (h2 : j < zs.length), EQ X s A.in1 us[j] zs[j]) :
    ∃ a b, v = .ref a ∧ u = .ref b ∧ RQ X s A .Eq true (.ref a) (.ref b) ∧ RQ X s A .NotEq false (.ref a) (.ref b) := by
  obtain ⟨a, vs, rfl, s1, r1⟩ := rep_seqT sz hx ed
  obtain ⟨b, ws, rfl, s2, r2⟩ := rep_seqT sz hy ee
  cases (show v = Value.ref a from rx)
  cases (show u = Value.ref b from ry)
  obtain ⟨us, q1, p1, _⟩ := I.tuple s1
  obtain ⟨zs, q2, p2, _⟩ := I.tuple s2
  have hsz : us.toArray.size = zs.toArray.size := by
    rw [List.size_toArray, List.size_toArray, ← q1.length, ← q2.length, r1.length, r2.length, hl]
  have k : ∀ (j : Nat) (h1 : j < us.toArray.size) (h2 : j < zs.toArray.size), SeqAt.EqP X.prog X.w A.in1 s us.toArray[j] zs.toArray[j] true := fun j h1 h2 => by
    simpa using ih vs ws us zs r1 r2 q1 q2 j (by simpa using h1) (by simpa using h2)
  exact ⟨a, b, rfl, rfl, fun E Q q => SeqAt.dl_rc_tups p1 p2 hsz hu k E Q q, fun E Q q => SeqAt.dl_rc_tupsN p1 p2 hsz hu k E Q q⟩
theorem eq_list (I : Inv X pins σ H s) (sz : Same Z H) {A : Around} {x y : V} {d e : D} {v u : Value} {xs ys : List D} (hx : Rep X.K Z x d) (hy : Rep X.K Z y e) (rx : RelV x v) (ry : RelV y u) (ed : d = .lst xs ∨ d = .klst xs) (ee : e = .lst ys ∨ e = .klst ys)
    (hl : xs.length = ys.length) (hu : A.units < cLine) (ih : ∀ vs ws us zs, RepA X.K Z vs xs → RepA X.K Z ws ys → Vals vs us → Vals ws zs → ∀ (j : Nat) (h1 : j < us.length) (h2 : j < zs.length), EQ X s A.in1 us[j] zs[j]) : EQ X s A v u := by
  obtain ⟨a, b, rfl, rfl, h⟩ := rc_list I sz hx hy rx ry ed ee hl hu ih
  exact eq_refs h
theorem eq_tuple (I : Inv X pins σ H s) (sz : Same Z H) {A : Around} {x y : V} {d e : D} {v u : Value} {xs ys : List D} (hx : Rep X.K Z x d) (hy : Rep X.K Z y e) (rx : RelV x v) (ry : RelV y u) (ed : d = .tup xs ∨ d = .ktup xs) (ee : e = .tup ys ∨ e = .ktup ys)
    (hl : xs.length = ys.length) (hu : A.units < cLine) (ih : ∀ vs ws us zs, RepA X.K Z vs xs → RepA X.K Z ws ys → Vals vs us → Vals ws zs → ∀ (j : Nat) (h1 : j < us.length) (h2 : j < zs.length), EQ X s A.in1 us[j] zs[j]) : EQ X s A v u := by
  obtain ⟨a, b, rfl, rfl, h, _⟩ := rc_tuple I sz hx hy rx ry ed ee hl hu ih
  exact eq_refs h
theorem units_in1 {A : Around} {n : Nat} (h : A.units + (n + 2) < cLine) : A.units < cLine ∧ A.in1.units + n < cLine ∧ A.units + 1 + 1 < cLine := by
  have : A.in1.units = A.units + 1 := rfl
  omega
mutual
theorem eqP_D (I : Inv X pins σ H s) (sz : Same Z H) : ∀ (d e : D) (A : Around) (x y : V) (v u : Value), sameT d e = true → A.units + depT d < cLine → Rep X.K Z x d → Rep X.K Z y e → RelV x v → RelV y u → EQ X s A v u
  | .non, e, A, x, y, v, u, hs, _, hx, hy, rx, ry => by
    cases e <;> first | cases hs | skip
    cases hx; cases hy; cases rx; cases ry; exact (SeqAt.EqAt.same _).eqP
  | .bl a, e, A, x, y, v, u, hs, _, hx, hy, rx, ry => by
    cases e <;> first | cases hs | skip
    rename_i b
    have hs : (a == b) = true := hs
    cases hx; cases hy; cases rx; cases ry
    have := (SeqAt.EqAt.bool_bool (A := A) (s := s) a b).eqP (prog := X.prog) (w := X.w)
    rw [hs] at this; exact this
  | .int a, e, A, x, y, v, u, hs, _, hx, hy, rx, ry => by
    cases e <;> first | cases hs | skip
    rename_i b
    have hs : (a == b) = true := hs
    cases hx; cases hy
    obtain ⟨t, rfl⟩ := rx
    obtain ⟨t', rfl⟩ := ry
    have := (SeqAt.EqAt.int_int (A := A) (s := s) a t b t').eqP (prog := X.prog) (w := X.w)
    rw [hs] at this; exact this
  | .str a, e, A, x, y, v, u, hs, _, hx, hy, rx, ry => by
    cases e <;> first | cases hs | skip
    rename_i b
    have hs : (a == b) = true := hs
    cases hx; cases hy
    obtain ⟨t, rfl⟩ := rx
    obtain ⟨t', rfl⟩ := ry
    have := (SeqAt.EqAt.str_str (A := A) (s := s) a t b t').eqP (prog := X.prog) (w := X.w)
    rw [hs] at this; exact this
  | .lst xs, e, A, x, y, v, u, hs, hu, hx, hy, rx, ry => by
    have hu := units_in1 (show A.units + (depTs xs + 2) < cLine from hu)
    cases e <;> first | cases hs | skip
    · have hs : sameTs xs _ = true := hs
      exact eq_list I sz hx hy rx ry (.inl rfl) (.inl rfl) (sameTs_len hs) hu.1 fun vs ws us zs r1 r2 q1 q2 j h1 h2 => eqP_Ds I sz xs _ A.in1 vs ws us zs hs hu.2.1 r1 r2 q1 q2 j h1 h2
    · have hs : sameTs xs _ = true := hs
      exact eq_list I sz hx hy rx ry (.inl rfl) (.inr rfl) (sameTs_len hs) hu.1 fun vs ws us zs r1 r2 q1 q2 j h1 h2 => eqP_Ds I sz xs _ A.in1 vs ws us zs hs hu.2.1 r1 r2 q1 q2 j h1 h2
  | .klst xs, e, A, x, y, v, u, hs, hu, hx, hy, rx, ry => by
    have hu := units_in1 (show A.units + (depTs xs + 2) < cLine from hu)
    cases e <;> first | cases hs | skip
    · have hs : sameTs xs _ = true := hs
      exact eq_list I sz hx hy rx ry (.inr rfl) (.inl rfl) (sameTs_len hs) hu.1 fun vs ws us zs r1 r2 q1 q2 j h1 h2 => eqP_Ds I sz xs _ A.in1 vs ws us zs hs hu.2.1 r1 r2 q1 q2 j h1 h2
    · have hs : sameTs xs _ = true := hs
      exact eq_list I sz hx hy rx ry (.inr rfl) (.inr rfl) (sameTs_len hs) hu.1 fun vs ws us zs r1 r2 q1 q2 j h1 h2 => eqP_Ds I sz xs _ A.in1 vs ws us zs hs hu.2.1 r1 r2 q1 q2 j h1 h2
  | .tup xs, e, A, x, y, v, u, hs, hu, hx, hy, rx, ry => by
    have hu := units_in1 (show A.units + (depTs xs + 2) < cLine from hu)
    cases e <;> first | cases hs | skip
    · have hs : sameTs xs _ = true := hs
      exact eq_tuple I sz hx hy rx ry (.inl rfl) (.inl rfl) (sameTs_len hs) hu.1 fun vs ws us zs r1 r2 q1 q2 j h1 h2 => eqP_Ds I sz xs _ A.in1 vs ws us zs hs hu.2.1 r1 r2 q1 q2 j h1 h2
    · have hs : sameTs xs _ = true := hs
      exact eq_tuple I sz hx hy rx ry (.inl rfl) (.inr rfl) (sameTs_len hs) hu.1 fun vs ws us zs r1 r2 q1 q2 j h1 h2 => eqP_Ds I sz xs _ A.in1 vs ws us zs hs hu.2.1 r1 r2 q1 q2 j h1 h2
  | .ktup xs, e, A, x, y, v, u, hs, hu, hx, hy, rx, ry => by
    have hu := units_in1 (show A.units + (depTs xs + 2) < cLine from hu)
    cases e <;> first | cases hs | skip
    · have hs : sameTs xs _ = true := hs
      exact eq_tuple I sz hx hy rx ry (.inr rfl) (.inl rfl) (sameTs_len hs) hu.1 fun vs ws us zs r1 r2 q1 q2 j h1 h2 => eqP_Ds I sz xs _ A.in1 vs ws us zs hs hu.2.1 r1 r2 q1 q2 j h1 h2
    · have hs : sameTs xs _ = true := hs
      exact eq_tuple I sz hx hy rx ry (.inr rfl) (.inr rfl) (sameTs_len hs) hu.1 fun vs ws us zs r1 r2 q1 q2 j h1 h2 => eqP_Ds I sz xs _ A.in1 vs ws us zs hs hu.2.1 r1 r2 q1 q2 j h1 h2
  | .dT ks, e, A, x, y, v, u, hs, hu, hx, hy, rx, ry => by
    have hu := units_in1 (show A.units + (depTk ks + 2) < cLine from hu)
    cases e <;> first | cases hs | skip
    rename_i ls
    have hs : (ks.length == ls.length && sameTk ks ls) = true := hs
    rw [Bool.and_eq_true] at hs
    cases hx with
    | dT h1 h2 =>
      cases hy with
      | dT h3 h4 =>
        rename_i a o vs b o2 ws
        cases (show v = Value.ref a from rx)
        cases (show u = Value.ref b from ry)
        obtain ⟨_, sa, xs, ra, da⟩ := dt_rd I.hok (.inr ⟨_, sz _ _ h1⟩)
        obtain ⟨_, sb, ys, rb, db⟩ := dt_rd I.hok (.inr ⟨_, sz _ _ h3⟩)
        refine eq_refs fun E Q q => PySem.W.dl_rc_dicts (tupleKind_room_in1 (A := A) (by omega)) sa sb da db hu.1 ?_ ?_ E Q q
        · have e1 := paired_len ra
          have e2 := paired_len rb
          rw [← e1, ← e2, (repT_len h2).1, (repT_len h4).1]
          exact eq_of_beq hs.1
        · exact eqP_Dk I sz ks ls ws ys h4 rb A.in1 vs xs hs.2 hu.2.1 h2 ra
  | .dK _, _, _, _, _, _, _, hs, _, _, _, _, _ | .fn _, _, _, _, _, _, _, hs, _, _, _, _, _ | .clo _ _, _, _, _, _, _, _, hs, _, _, _, _, _ | .scr _, _, _, _, _, _, _, hs, _, _, _, _, _
  | .ty _, _, _, _, _, _, _, hs, _, _, _, _, _ | .rng _ _, _, _, _, _, _, _, hs, _, _, _, _, _ => by cases hs
theorem eqP_Ds (I : Inv X pins σ H s) (sz : Same Z H) : ∀ (xs ys : List D) (A : Around) (vs ws : List V) (us zs : List Value), sameTs xs ys = true → A.units + depTs xs < cLine → RepA X.K Z vs xs → RepA X.K Z ws ys → Vals vs us → Vals ws zs →
    ∀ (j : Nat) (h1 : j < us.length) (h2 : j < zs.length), EQ X s A us[j] zs[j]
  | [], _, _, _, _, _, _, _, _, r1, _, q1, _, j, h1, _ => by
    cases r1; cases q1; exact absurd h1 (Nat.not_lt_zero j)
  | d :: xs, ys, A, vs, ws, us, zs, hs, hu, r1, r2, q1, q2, j, h1, h2 => by
    cases ys with
    | nil => cases hs
    | cons e ys =>
      have hs : (sameT d e && sameTs xs ys) = true := hs
      rw [Bool.and_eq_true] at hs
      have hu : A.units + max (depT d) (depTs xs) < cLine := hu
      cases r1 with
      | cons a1 a2 =>
        cases r2 with
        | cons b1 b2 =>
          cases q1 with
          | cons c1 c2 =>
            cases q2 with
            | cons e1 e2 =>
              cases j with
              | zero => exact eqP_D I sz d e A _ _ _ _ hs.1 (by omega) a1 b1 c1 e1
              | succ j => exact eqP_Ds I sz xs ys A _ _ _ _ hs.2 (by omega) a2 b2 c2 e2 j (Nat.lt_of_succ_lt_succ h1) (Nat.lt_of_succ_lt_succ h2)
theorem eqP_Dk (I : Inv X pins σ H s) (sz : Same Z H) : ∀ (ks ls : List (List Key × D)) (ws : List (List Key × V)) (ys : List (List Key × Addr × Value)), RepT X.K Z ws ls → KT H ws ys → ∀ (A : Around) (vs : List (List Key × V)) (xs : List (List Key × Addr × Value)),
    sameTk ks ls = true → A.units + depTk ks < cLine → RepT X.K Z vs ks → KT H vs xs → ∀ x ∈ xs, ∃ p, atKey ys x.1 = some p ∧ EQ X s A x.2.2 p.2
  | [], _, _, _, _, _, _, _, _, _, _, r, q => by
    cases r; cases q; intro x hx; exact nomatch hx
  | (k, d) :: ks, ls, ws, ys, rw_, qw, A, vs, xs, hs, hu, r, q => by
    have hs : ((match valO ls k with | some e => sameT d e | none => false) && sameTk ks ls) = true := hs
    rw [Bool.and_eq_true] at hs
    have hu : A.units + max (depT d) (depTk ks) < cLine := hu
    cases r with
    | cons r1 r2 =>
      rename_i v vs
      cases q with
      | cons q1 q2 =>
        rename_i q0 qs
        intro x hx
        rcases List.mem_cons.mp hx with rfl | hx
        · obtain ⟨e1, e2, e3⟩ := q1
          have e1 : k = x.1 := e1
          rw [← e1]
          have vp := valP_rep (repT_paired (I := []) rw_) k
          have hf : valO (ls.map fun p => (p.1, DV.p p.2)) k = (valO ls k).map DV.p := by
            unfold valO
            rw [List.find?_map]
            simp only [Option.map_map, Function.comp_def]
          cases hv : valO ls k with
          | none => rw [hv] at hs; exact absurd hs.1 (by simp)
          | some e =>
            rw [hv] at hs hf
            rcases vp with ⟨_, n2⟩ | ⟨v', d', n1, n2, n3⟩
            · rw [hf] at n2; cases n2
            · rw [hf] at n2
              obtain rfl : DV.p e = d' := Option.some.inj n2
              obtain ⟨w', hw, rw'⟩ := RelO.some_of (v := v') (o := (atKey ys k).map (·.2)) (by rw [← n1]; exact qw.val k)
              obtain ⟨p, hp, hp2⟩ := Option.map_eq_some_iff.mp hw
              refine ⟨p, hp, ?_⟩
              rw [hp2]
              exact eqP_D I sz d e A _ _ _ _ hs.1 (by omega) r1 n3 e3 rw'
        · exact eqP_Dk I sz ks ls ws ys rw_ qw A vs qs hs.2 (by omega) r2 q2 x hx
end
/-- tuples are asked for == and for != -/
def tupOf : D → Option (List D)
  | .tup xs => some xs
  | .ktup xs => some xs
  | _ => none
theorem tupOf_or {d : D} {xs : List D} (h : tupOf d = some xs) : d = .tup xs ∨ d = .ktup xs := by
  cases d <;> simp only [tupOf] at h <;> cases h <;> first | exact .inl rfl | exact .inr rfl
def sameB (d e : D) : Bool := match tupOf d, tupOf e with
  | some xs, some ys => sameTs xs ys && decide (depTs xs ≤ 60)
  | _, _ => false
theorem rc_sameB (I : Inv X pins σ H s) (sz : Same Z H) {x y : V} {d e : D} {v u : Value} (hs : sameB d e = true) (hu : X.A.units + 64 < cLine) (hx : Rep X.K Z x d) (hy : Rep X.K Z y e) (rx : RelV x v) (ry : RelV y u) :
    ∃ a b, v = .ref a ∧ u = .ref b ∧ RQ X s X.A .Eq true (.ref a) (.ref b) ∧ RQ X s X.A .NotEq false (.ref a) (.ref b) := by
  unfold sameB at hs
  cases e1 : tupOf d with
  | none => simp only [e1] at hs; cases hs
  | some xs =>
    cases e2 : tupOf e with
    | none => simp only [e1, e2] at hs; cases hs
    | some ys =>
      simp only [e1, e2, Bool.and_eq_true, decide_eq_true_eq] at hs
      exact rc_tuple I sz hx hy rx ry (tupOf_or e1) (tupOf_or e2) (sameTs_len hs.1) (by omega) fun vs ws us zs r1 r2 q1 q2 j h1 h2 =>
        eqP_Ds I sz xs ys X.A.in1 vs ws us zs hs.1 (by show X.A.units + 1 + depTs xs < cLine; omega) r1 r2 q1 q2 j h1 h2
end
section
variable {K : PySem.W.Frag} {X : Cx}
def dNeB (d e : D) : Option D := match eqD d e with
  | some b => some (.bl !b)
  | none => if sameB d e = true then some (.bl false) else none
theorem bool_dNeB : boolD dNeB := fun d e c h => by
  unfold dNeB at h; split at h
  · cases h; exact ⟨_, rfl⟩
  · split at h
    · cases h; exact ⟨_, rfl⟩
    · cases h
def rNeB (K : PySem.W.Frag) : R2 := fun x y H Q => rNeX K x y H Q ∨ ∃ Z d e, Same Z H ∧ Rep K Z x d ∧ Rep K Z y e ∧ sameB d e = true ∧ Q (.bl false) H
theorem od_neB (hu : X.A.units + 64 < cLine) : OpD K X (compareOp .NotEq) (rNeB K) dNeB where
  op := fun k pins s σ H x y v u Q I rx ry h => by
    rcases h with h | ⟨Z, d, e, sz, hx, hy, hs, q⟩
    · exact (od_ne hu).op k pins s σ H x y v u Q I rx ry h
    · subst k
      obtain ⟨a, b, rfl, rfl, _, r⟩ := rc_sameB I sz hs hu hx hy rx ry
      exact r _ _ ⟨.bl _, H, I, rfl, q⟩
  ok := by
    intro x y d e c Z H Q s hx hy hg p
    unfold dNeB at hg
    split at hg
    · rename_i b hb
      cases hg
      exact .inl ((od_ne hu).ok _ _ _ _ _ _ _ _ s hx hy (show dNe d e = some (.bl !b) by unfold dNe; rw [hb]; rfl) p)
    · split at hg
      · rename_i hs
        cases hg
        exact .inr ⟨Z, d, e, s, hx, hy, hs, p _ Z H (ExtP.refl s) (.bl _)⟩
      · cases hg
end
end DL
namespace PySem
open PyProof.Rows
section
variable {P : Program} {w : World} {K : Type} [DecidableEq K] {knd : HeapKind P w K} {A : Around} {E : Value → Shared → Prop} {s : Shared}
/-- dict(d), the keys tuples whose hashes are apart -/
theorem dl_call_dictH {d : Addr} {xs : List (K × Addr × Value)} {Q : Value → Shared → Prop} (hr : ∀ A : Around, A.units + 1 < cLine → knd.room A.in1) (hu : A.units + 2 < cLine) (nd : (d == sysModules) = false) (hd : s.heap.DictOfH knd d xs) (hz : xs.length ≤ sizeLine)
    (hp : (s.heap.push { cls := .type "dict", data := .dict #[] }).DictOfH knd d xs)
    (ht : ∀ x ∈ xs, ({ s with heap := s.heap.push { cls := .type "dict", data := .dict #[] } } : Shared).TypeIs (.ref x.2.1) "tuple") (hh : (xs.map fun x => knd.hash x.1).Nodup)
    (q : ∀ h', h'.DictOfH knd s.heap.objs.size xs → Heap.SameBut s.heap.objs.size (s.heap.push { cls := .type "dict", data := .dict #[] }) h' → Q (.ref s.heap.objs.size) { s with heap := h' }) :
    wpAny (model P w) A (call (.type "dict") [.ref d]) Q E s := by
  have nd0 : (xs.map (·.1)).Nodup := hd.nodup
  have ne : s.heap.objs.size ≠ d := by
    obtain ⟨_, _, _, g, _⟩ := hd
    intro e
    exact absurd (Heap.lt_size g) (by rw [e]; exact Nat.lt_irrefl _)
  refine callType_codes (Q₁ := fun obj s₁ => obj = .ref s.heap.objs.size ∧ s₁ = ({ s with heap := s.heap.push { cls := .type "dict", data := .dict #[] } } : Shared)) F.kt_called_dict (F.kt_typeCall_dict_1 _) F.entry_dict_init
    (kt_code_dict_new _ ⟨rfl, rfl⟩) ?_
  rintro obj s₁ ⟨rfl, rfl⟩
  have h0 : (s.heap.push { cls := .type "dict", data := .dict #[] }).DictOfH knd s.heap.objs.size [] := Heap.DictOfH.new s.heap
  refine ⟨h0.typeIs, F.args_dict_init_2 _ _, ?_⟩
  unfold Builtin.«dict.__init__»
  refine wpAny_bind ?_
  unfold Builtin.Dict.selfAndRest
  refine wpAny_bind (wpAny_notOrdered_dict h0.typeIs (wpAny_pure ?_))
  show wpAny _ _ (Builtin.Dict.updateFrom "dict.__init__" s.heap.objs.size (.ref d) [] .none) _ _ _
  unfold Builtin.Dict.updateFrom
  refine wpAny_bind (wpAny_typeOf hp.typeIs ?_)
  rw [if_neg (by decide)]
  refine wpAny_bind ?_
  unfold Builtin.Dict.merge
  refine wpAny_bind ?_
  unfold Builtin.Dict.readDirectly
  refine wpAny_bind (wpAny_isInstance hp.typeIs isSubtype_dict_dict ?_)
  simp only [Bool.not_true, Bool.false_eq_true, if_false]
  refine wpAny_bind (wpAny_specialOf hp.typeIs F.slot_dict_iter.lookup (wpAny_pure ?_))
  simp only [beq_self_eq_true, if_true]
  refine wpAny_bind (wpAny_pure ?_)
  refine wpAny_mergeDict_heap (hsz := by simpa using hz) (hr _ (by have : A.in1.units = A.units + 1 := rfl; omega)) ne nd h0 hp (.inr ⟨ht, hh⟩) fun h' d' _ hs => ?_
  show wpAny _ _ (Builtin.Dict.addKeywords s.heap.objs.size [] >>= _) _ _ _
  rw [storedAllH_nil_of_nodup xs nd0] at d'
  exact wpAny_bind (wpAny_pure (wpAny_pure ⟨rfl, q h' d' hs⟩))
end
end PySem
namespace DL
open PySem PySem.Spec PyProof.Rows L2
section
def hKey : Key → Int
  | .inl i => hashInt i
  | .inr _ => 0
def hTup (ks : List Key) : Int := reduceHash (Builtin.Tuple.tupleHashOf (ks.map hKey))
def intKeys (ks : List Key) : Bool := ks.all fun k => k.isLeft
def apart (l : List (List Key)) : Bool := l.all intKeys && decide ((l.map hTup).Nodup)
theorem hTup_eq {P : Program} {w : World} {ks : List Key} (h : intKeys ks = true) : (tupleKind (mixKind P w)).hash ks = hTup ks := by
  show reduceHash (Builtin.Tuple.tupleHashOf (ks.map (keyH w))) = _
  unfold hTup
  congr 2
  refine List.map_congr_left fun k hk => ?_
  have := List.all_eq_true.mp h k hk
  cases k with
  | inl i => rfl
  | inr x => cases this
variable {X : Cx} {K : PySem.W.Frag} {W : WX} {e : Expr} {pos p : Pos} {x : Str}
theorem kt_keys {H : Hp} : ∀ {kvs : List (List Key × V)} {xs : List (List Key × Addr × Value)}, KT H kvs xs → xs.map (·.1) = kvs.map (·.1)
  | _, _, .nil => rfl
  | _, _, .cons h r => by rw [List.map_cons, List.map_cons, kt_keys r, h.1]
theorem kt_tup {H : Hp} : ∀ {kvs : List (List Key × V)} {xs : List (List Key × Addr × Value)}, KT H kvs xs → ∀ x ∈ xs, H x.2.1 = some (.tup (x.1.map kV))
  | _, _, .nil, x, hx => nomatch hx
  | _, _, .cons h r, x, hx => by
    rcases List.mem_cons.mp hx with rfl | hx
    · rw [← h.1]; exact h.2.1
    · exact kt_tup r x hx
theorem call_dictT (hu : X.A.units + 2 < cLine) : CallR X (.type "dict") (fun xs H Q => ∃ (a : Addr) (kvs : List (List Key × V)), xs = [.ref a] ∧ Rd H a (.dT kvs) ∧ apart (kvs.map (·.1)) = true ∧ ∀ p, H p = none → Q (.ref p) (upd H p (.dT kvs))) := by
  intro pins s σ H xs us Q I r q
  obtain ⟨a, kvs, ex, hd, hap, q⟩ := q
  subst ex
  obtain ⟨u, eu, rx⟩ := vals1 r
  subst eu
  cases rx
  obtain ⟨z, lo, ys, rel, dd⟩ := dt_rd I.hok hd
  have lk := kt_keys rel
  have hnone : H s.heap.objs.size = none := I.hok.fresh (Nat.le_refl _)
  have hlen : ys.length ≤ sizeLine := by rw [← paired_len rel]; exact z
  have hap2 : (ys.map fun y => (tupleKind (mixKind X.prog X.w)).hash y.1).Nodup := by
    unfold apart at hap
    rw [Bool.and_eq_true, decide_eq_true_eq] at hap
    have e : (ys.map fun y => (tupleKind (mixKind X.prog X.w)).hash y.1) = (kvs.map (·.1)).map hTup := by
      rw [← lk, List.map_map]
      refine List.map_congr_left fun y hy => ?_
      have := List.all_eq_true.mp hap.1 y.1 (by rw [← lk]; exact List.mem_map.mpr ⟨y, hy, rfl⟩)
      exact hTup_eq this
    rw [e]; exact hap.2
  have push : ∀ b o, s.heap.get? b = some o → (s.heap.push { cls := .type "dict", data := .dict #[] }).get? b = some o := fun b o e => Heap.get?_push_of_some _ e
  have ist : ∀ y ∈ ys, ∃ arr, IsTup s.heap y.2.1 arr := fun y hy => by
    obtain ⟨_, its, _, h⟩ := (show ObjOk X.prog X.w H s.heap y.2.1 (.tup (y.1.map kV)) from I.hok y.2.1 _ (kt_tup rel y hy))
    exact ⟨_, h⟩
  have I0 : Inv X pins σ (upd H s.heap.objs.size (.dT [])) { s with heap := s.heap.push { cls := .type "dict", data := .dict #[] } } :=
    I.laid (t' := s.toks) (fun b o e => Heap.get?_push_of_some _ e) (Nat.le_refl _) (dt_empty s.heap I.big)
  have rd0 : Rd (upd H s.heap.objs.size (.dT [])) a (.dT kvs) := by
    have na : a ≠ s.heap.objs.size := by
      intro e; rw [e] at hd
      rcases hd with h | ⟨_, h⟩ <;> (rw [hnone] at h; cases h)
    rcases hd with h | ⟨o, h⟩
    · exact .inl (by rw [upd_ne na]; exact h)
    · exact .inr ⟨o, by rw [upd_ne na]; exact h⟩
  obtain ⟨_, _, ys0, rel0, dd0⟩ := dt_rd I0.hok rd0
  have dd0' : (s.heap.push { cls := .type "dict", data := .dict #[] }).DictOfH (tupleKind (mixKind X.prog X.w)) a ys := by
    obtain ⟨o, es, ep, g1, g2, g3, g4, g5, g6⟩ := dd
    refine ⟨o, es, ep, push _ _ g1, g2, g3, g4, fun y hy => ?_, g6⟩
    have hk := kt_tup rel y hy
    refine key_of I0.hok ?_
    rw [upd_ne (fun e => by rw [e, hnone] at hk; cases hk)]
    exact hk
  have hm : (s.heap.objs.size == sysModules) = false := beq_eq_false_iff_ne.mpr (Nat.ne_of_gt I.big)
  refine dl_call_dictH (hr := fun A h => tupleKind_room_in1 h) hu lo dd hlen dd0' (fun y hy => ?_) hap2 fun h' d' hs => ?_
  · obtain ⟨arr, o, g, c, _⟩ := ist y hy
    exact ⟨o, push _ _ g, c⟩
  · obtain ⟨o', es', ep', g1, g2, g3, g4, g5, g6⟩ := d'
    refine ⟨.ref s.heap.objs.size, upd H s.heap.objs.size (.dT kvs), I.laid (t' := s.toks) (fun b u e => (hs.2 b (Nat.ne_of_lt (Heap.lt_size e))).trans (Heap.get?_push_of_some _ e)) (Nat.le_refl _) ?_, rfl, q _ hnone⟩
    show ObjOk X.prog X.w _ _ _ (.dT kvs)
    refine ⟨z, hm, ys, paired_imp (fun p y hy => ⟨hy.1, ?_, hy.2.2⟩) rel, o', es', ep', g1, g2, g3, g4, g6⟩
    rw [upd_ne (fun e => by rw [e, hnone] at hy; exact absurd hy.2.1 (by simp))]
    exact hy.2.1
end
end DL
namespace DL
open PySem PySem.Spec PyProof.Rows L2
section
variable {K : PySem.W.Frag} {X : Cx} {W : WX} {e a b c : Expr} {es : List Expr} {pos : Pos} {Z H : Hp} {I : List Addr} {M : List O}
theorem units2 {k : Nat} {A : Around} (r : Room k A) : A.units + 2 < cLine := by have := r.un; omega
/-! ### calls of built-ins that make an object of one's own -/
structure CallO (K : PySem.W.Frag) (X : Cx) (f : Value) (r : List V → Hp → VK → Prop) (g : List O → List DV → Option O) : Prop where
  op : X.K = K → CallR X f r
  ok : ∀ (vs : List V) (ds : List DV) (o : O) (Z H : Hp) (I : List Addr) (M : List O) (Q : VK), Wf K Z H I M → RepVs K Z I vs ds → g M ds = some o →
    (∀ (p : Addr) (u : HO), H p = none → RepO K Z (I ++ [p]) (upd H p u) p o → Q (.ref p) (upd H p u)) → r vs H Q
def mCBO (g : List O → List DV → Option O) (ms : AM) : EM := bnd ms fun ds s => match g s.m ds with
  | some o => some (.ok (.o s.m.length) (s.m ++ [o]))
  | none => none
theorem so_cbO {r : List V → Hp → VK → Prop} {g : List O → List DV → Option O} {t : TA} {ms : AM}
    (h : ∀ (vs : List V) (ds : List DV) (o : O) (Z H : Hp) (I : List Addr) (M : List O) (Q : VK), Wf K Z H I M → RepVs K Z I vs ds → g M ds = some o →
      (∀ (p : Addr) (u : HO), H p = none → RepO K Z (I ++ [p]) (upd H p u) p o → Q (.ref p) (upd H p u)) → r vs H Q)
    (ha : Sound K W (RepVs K) t ms) : Sound K W (RepV K) (tCB r t) (mCBO g ms) := ⟨fun σ H s Z I r0 Q w rs e p => by
  refine ha.bnd w rs e (p.x) fun ds vs M1 Z1 H1 I1 w1 rs1 x1 q1 e1 => ?_
  have e1 : (match g M1 ds with | some o => some (Rs.ok (DV.o M1.length) (M1 ++ [o])) | none => none) = some r0 := e1
  cases z : g M1 ds with
  | none => rw [z] at e1; cases e1
  | some o =>
    rw [z] at e1
    cases e1
    refine h vs ds o Z1 H1 I1 M1 Q w1 q1 z fun l u hp hr => ?_
    refine (p.mono x1) _ Z1 _ (I1 ++ [l]) (w1.newO hp hr) (ext_new w1.sub hp) ⟨l, ?_, rfl⟩
    rw [← w1.len, List.getElem?_append_right (Nat.le_refl _), Nat.sub_self]
    rfl⟩
theorem de_callTyO {T : String} {r : List V → Hp → VK → Prop} {g : List O → List DV → Option O} {t : TA} {ms : AM} {x : Str} {p : Pos} (h : CallO K X (.type T) r g) (hm : X.mg x = none) (ha : DA K X W (e :: es) t ms) (hv : bootBuiltins x = some (.type T) := by decide +kernel) (hg : Gl X x := by rfl) (hn : x ≠ "__name__" := by decide) (hdb : (x == ("__debug__" : Str)) = false := by decide)
    (he : starEach (e :: es) X.env = (false, eval e X.env) :: starEach es X.env := by rfl) (hpl : (backTo pos (starEach es X.env)).any (·.1) = false := by rfl) : DE K X W (.Call (.Name x p) (e :: es) [] pos) (tCB r t) (mCBO g ms) :=
  ⟨ha.k, pe_callTy (h.op ha.k) hg hm hv ha.pa hn hdb he hpl, so_cbO h.ok ha.so⟩
/-- list(x), one's own -/
def gList : List O → List DV → Option O
  | _, [.p (.lst xs)] => some (.lst (xs.map .p))
  | _, [.p (.klst xs)] => some (.lst (xs.map .p))
  | _, [.p (.tup xs)] => some (.lst (xs.map .p))
  | _, [.p (.ktup xs)] => some (.lst (xs.map .p))
  | M, [.o n] => match M[n]? with
    | some (.lst ds) => some (.lst ds)
    | _ => none
  | _, _ => none
theorem co_list : CallO K X (.type "list") (fun xs H Q => ∃ p ys, xs = [.ref p] ∧ (SqL K H p ys ∨ SqT K H p ys) ∧ ∀ l, H l = none → Q (.ref l) (upd H l (.lst ys))) gList := ⟨fun k => by rw [← k]; exact call_list_of, fun vs ds o Z H I M Q w hv hg q => by
  cases hv with
  | nil => cases hg
  | cons h1 h2 =>
    rename_i v d vs ds
    have two : ∀ {v' d' vs' ds'}, RepV K Z I v' d' → RepVs K Z I vs' ds' → gList M (d :: d' :: ds') = some o → False := by
      intro v' d' vs' ds' _ _ hg
      unfold gList at hg
      split at hg <;> simp_all
    cases h2 with
    | cons h3 h4 => exact (two h3 h4 hg).elim
    | nil =>
      have main : ∀ {a : Addr} {ys : List V} {xs : List D}, v = .ref a → (SqL K H a ys ∨ SqT K H a ys) → RepA K Z ys xs → o = .lst (xs.map .p) → ∃ p ys, [v] = [V.ref p] ∧ (SqL K H p ys ∨ SqT K H p ys) ∧ ∀ l, H l = none → Q (.ref l) (upd H l (.lst ys)) := by
        intro a ys xs e h r eo
        subst e eo
        exact ⟨_, _, rfl, h, fun l hl => q l _ hl ⟨ys, upd_same, (allP_map r)⟩⟩
      cases d with
      | o n =>
        obtain ⟨a, ha, rfl⟩ := h1
        have hg : (match M[n]? with | some (.lst ds) => some (O.lst ds) | _ => none) = some o := hg
        cases z : M[n]? with
        | none => rw [z] at hg; cases hg
        | some ob =>
          rw [z] at hg
          cases ob with
          | lst ds =>
            cases hg
            obtain ⟨_, ys, hy, hr⟩ := w.ob n a _ ha z (by intro z; cases z)
            exact ⟨a, ys, rfl, .inl (.inl (.inl hy)), fun l hl => q l _ hl ⟨ys, upd_same, paired_imp (fun _ _ h => RepV.mono (ext_new (o := .lst ys) w.sub hl) h) hr⟩⟩
          | _ => cases hg
      | p d =>
        have h1 : Rep K Z v d := h1
        cases h1 with
        | lst g1 g2 => cases hg; exact main rfl (.inl (.inl (same_rd w.sub g1))) g2 rfl
        | klst g1 g2 => cases hg; exact main rfl (.inl (same_l w.sub g1)) g2 rfl
        | tup g1 g2 => cases hg; exact main rfl (.inr (sqt w.sub g1)) g2 rfl
        | ktup g1 g2 => cases hg; exact main rfl (.inr (same_t w.sub g1)) g2 rfl
        | _ => cases hg⟩
/-- dict(d), one's own; the keys tuples of ints -/
def gDict : List O → List DV → Option O
  | M, [d] => match dcM M d with
    | some (.t kvs) => if apart (kvs.map (·.1)) = true then some (.dT kvs) else none
    | _ => none
  | _, _ => none
theorem paired_keys {κ : Type} {ks : List (κ × V)} {ds : List (κ × DV)} (r : Paired (FRel K Z I) ks ds) : ks.map (·.1) = ds.map (·.1) := by
  induction r with
  | nil => rfl
  | cons h t ih => rw [List.map_cons, List.map_cons, ih, h.1]
theorem co_dict (hu : X.A.units + 2 < cLine) : CallO K X (.type "dict") (fun xs H Q => ∃ (a : Addr) (kvs : List (List Key × V)), xs = [.ref a] ∧ Rd H a (.dT kvs) ∧ apart (kvs.map (·.1)) = true ∧ ∀ p, H p = none → Q (.ref p) (upd H p (.dT kvs))) gDict := ⟨fun k => call_dictT hu, fun vs ds o Z H I M Q w hv hg q => by
  cases hv with
  | nil => cases hg
  | cons h1 h2 =>
    rename_i v d vs ds
    cases h2 with
    | cons h3 h4 => cases hg
    | nil =>
      have hg : (match dcM M d with | some (.t kvs) => if apart (kvs.map (·.1)) = true then some (O.dT kvs) else none | _ => none) = some o := hg
      cases z : dcM M d with
      | none => rw [z] at hg; cases hg
      | some dc =>
        rw [z] at hg
        cases dc with
        | k kvs => cases hg
        | t kvs =>
          have hg : (if apart (kvs.map (·.1)) = true then some (O.dT kvs) else none) = some o := hg
          split at hg
          · rename_i hap
            cases hg
            obtain ⟨a, rfl, ks, hr, hp⟩ := dc_rep w h1 z
            exact ⟨a, ks, rfl, hr, by rw [paired_keys hp]; exact hap, fun p hp' => q p _ hp' ⟨ks, upd_same, paired_imp (fun _ _ h => ⟨h.1, RepV.mono (ext_new (o := .dT ks) w.sub hp') h.2⟩) hp⟩⟩
          · cases hg⟩
/-! ### a slice of a list of one's own -/
def slO (M : List O) : DV → Option Int → Option Int → Option D
  | .p d, i, j => slE d i j
  | .o n, i, j => match M[n]? with
    | some (.lst ds) => match allP ds with
      | some xs => some (.lst (cutD xs i j))
      | none => none
    | _ => none
def mSlO (m : EM) (l u : PM) : EM := bnd m fun d => bnd l fun i => bnd u fun j s => ret (slO s.m d i j) s
theorem de_slO {te : TE} {tl th : TO} {m : EM} {ml mu : PM} {lo hi : Option Expr} {p2 : Pos} (h : DE K X W e te m) (hl : DP K X W lo tl ml) (hh : DP K X W hi th mu) : DE K X W (.Subscript e (.Slice lo hi none p2) pos) (tSl (rSl K) te tl th) (mSlO m ml mu) := by
  refine ⟨h.k, ?_, ⟨fun σ H s Z I r0 Q w rs e p => ?_⟩⟩
  · have q := pe_slice (X := X) (pos := pos) (p2 := p2) sl_any h.pe hl.po hh.po
    rw [h.k] at q
    exact q
  · refine h.so.bnd w rs e p.x fun d v M1 Z1 H1 I1 w1 rs1 x1 q1 e1 => ?_
    have p1 := p.mono x1
    refine hl.so.bnd (s := ⟨s.l, M1⟩) w1 rs1 e1 p1.x fun i i' M2 Z2 H2 I2 w2 rs2 x2 q2 e2 => ?_
    cases (show i' = i from q2)
    have p2 := p1.mono x2
    refine hh.so.bnd (s := ⟨s.l, M2⟩) w2 rs2 e2 p2.x fun j j' M3 Z3 H3 I3 w3 rs3 x3 q3 e3 => ?_
    cases (show j' = j from q3)
    obtain ⟨c, hc, rfl⟩ := ret_ok e3
    have hx : RepV K Z3 I3 v d := (q1.mono x2).mono x3
    cases d with
    | p d =>
      have hc : slE d i j = some c := hc
      unfold slE at hc
      split at hc
      · cases hc
      · rename_i hn
        exact sl_ok w3.sub hx hc (PostP.of w3 (p2.mono x3)) fun xs h => hn xs h
    | o n =>
      obtain ⟨a, ha, rfl⟩ := hx
      have hc : (match M3[n]? with | some (.lst ds) => (match allP ds with | some xs => some (D.lst (cutD xs i j)) | none => none) | _ => none) = some c := hc
      cases z : M3[n]? with
      | none => rw [z] at hc; cases hc
      | some ob =>
        rw [z] at hc
        cases ob with
        | lst ds =>
          have hc : (match allP ds with | some xs => some (D.lst (cutD xs i j)) | none => none) = some c := hc
          cases z2 : allP ds with
          | none => rw [z2] at hc; cases hc
          | some xs =>
            rw [z2] at hc; cases hc
            obtain ⟨_, ys, hy, hr⟩ := w3.ob n a _ ha z (by intro z; cases z)
            have ra := allP_rep hr z2
            refine .inr (.inl ⟨a, ys, rfl, .inl (.inl hy), fun l hl => ?_⟩)
            have xp := ExtP.new (o := .lst (cutV ys i j)) w3.sub hl
            exact (PostP.of w3 (p2.mono x3)) _ _ _ xp (.lst (.inl upd_same) ((ra.cut i j).mono xp.z))
        | _ => cases hc
/-! ### a, b, c, d = (..): the values may be one's own -/
theorem Wf.tupH (w : Wf K Z H I M) {l : Addr} {u : HO} (hl : H l = none) : Wf K Z (upd H l u) I M where
  sub := fun x o e => by rw [upd_ne (ne_of_none (w.sub x o e) hl)]; exact w.sub x o e
  len := w.len
  nd := w.nd
  tr := fun x hx => by rw [upd_ne (fun e => w.tr x hx (by rw [e]; exact hl))]; exact w.tr x hx
  ob := fun n x o h1 h2 h3 => by
    obtain ⟨q1, q2⟩ := w.ob n x o h1 h2 h3
    exact ⟨q1, q2.mono (Same.refl _) (upd_ne fun e => w.tr x (List.mem_of_getElem? h1) (by rw [e]; exact hl))⟩
theorem ext_tupH {l : Addr} {u : HO} (hl : H l = none) : Ext Z H I Z (upd H l u) I where
  z := Same.refl _
  i := ⟨[], by simp⟩
  fr := fun x o e _ => by rw [upd_ne (ne_of_none e hl)]; exact e
  nw := fun _ m => .inl m
  zn := fun _ e => .inl e
  tr := fun x e => by rw [upd_ne (fun q => e (by rw [q]; exact hl))]; exact e
def sUnp (ms : AM) (n : Nat) (m : List DV → S → Option S) : SM := liftS ms fun ds s => if ds.length = n ∧ n ≤ 1000 then
  match m ds s with
  | some s1 => some (.nx, s1)
  | none => none
  else none
theorem ds_unp {tgs : List Expr} {kt : Nat} {k2 : Nat} {pt pt2 : Pos} {t : TA} {u : TGs} {ms : AM} {m : List DV → S → Option S} {n : Nat} {ix : List Nat} (hc : X.calm = true) (ha : DA K X W es t ms) (hg : DGs K X tgs u m ix)
    (hn : (assignEach tgs X.env).length = n := by rfl) (hst : (assignEach tgs X.env).findIdx? (·.1) = none := by rfl)
    (hs : swapsWithSole [.Tuple tgs kt pt] (.Tuple es k2 pt2) pos.line X.env = pure false := by rfl) (hw : swappedStores [.Tuple tgs kt pt] (.Tuple es k2 pt2) X.env = pure none := by rfl)
    (h1 : (assignEach [.Tuple tgs kt pt] X.env).map (·.2) = [assign (.Tuple tgs kt pt) X.env] := by rfl) :
    DS K X W (.Assign [.Tuple tgs kt pt] (.Tuple es k2 pt2) pos) (tAsg (tTup t) (gTup K n u)) (sUnp ms n m) := by
  have kk := hg.k
  subst kk
  refine ⟨rfl, ps_asg (pe_tup ha.pa) (pg_tup hc hg.pg hn hst) hs hw h1, ⟨fun σ H s Z I r D w rs e p => ?_⟩⟩
  refine ha.so.lift w rs e p fun ds vs M1 Z1 H1 I1 w1 rs1 x1 q1 e1 p1 => ?_
  have e1 : (if ds.length = n ∧ n ≤ 1000 then (match m ds ⟨s.l, M1⟩ with | some s1 => some (Fl.nx, s1) | none => none) else none) = some r := e1
  split at e1
  · rename_i hl
    cases z : m ds ⟨s.l, M1⟩ with
    | none => rw [z] at e1; cases e1
    | some s1 =>
      rw [z] at e1
      cases e1
      have hvl : vs.length = n := by rw [paired_len q1]; exact hl.1
      refine ⟨size_le (by omega), fun l hp => ?_⟩
      have x2 := ext_tupH (Z := Z1) (I := I1) (u := .tup vs) hp
      refine ⟨l, vs, rfl, .inl (.inl upd_same), hvl, ?_⟩
      refine hg.ok vs ds σ _ ⟨s.l, M1⟩ s1 Z1 I1 _ (w1.tupH hp) (rs1.mono x2) q1 z fun σ' Z' H' I' w' rs' x' _ => ?_
      exact p1 σ' Z' H' I' w' rs' (x2.trans x')
  · cases e1
@[simp] theorem e_cbO (g : List O → List DV → Option O) (ms : AM) (s : S) : mCBO g ms s = (bnd ms fun ds s => match g s.m ds with | some o => some (.ok (.o s.m.length) (s.m ++ [o])) | none => none) s := rfl
@[simp] theorem e_slO (m : EM) (l u : PM) (s : S) : mSlO m l u s = (bnd m fun d => bnd l fun i => bnd u fun j s => ret (slO s.m d i j) s) s := rfl
@[simp] theorem e_unp (ms : AM) (n : Nat) (m : List DV → S → Option S) (s : S) : sUnp ms n m s = (liftS ms fun ds s => if ds.length = n ∧ n ≤ 1000 then (match m ds s with | some s1 => some (.nx, s1) | none => none) else none) s := rfl
end
end DL
namespace L2
open PySem PySem.Spec PyProof.Rows
/-! ### a clause of a comprehension, whatever its turn does -/
def Sub0 (a b : St) : Prop := a.length = b.length ∧ ∀ (i : Nat) (v : V), a[i]? = some (some v) → b[i]? = some (some v)
theorem sub_wipe {a b : St} {vs : List Nat} (h : wipe b vs = wipe a vs) : Sub0 (wipe a vs) b := by
  rw [← h]
  exact ⟨wipe_length _ _, fun i v e => (wipe_some e).1⟩
def TurnIs (Y : Cx) (e : Expr) (j : Nat) (tg : Expr) (ifs : List Expr) (ipos : Pos) (it D : Addr) (body : Sem PySem.Fin) : Prop :=
  compTurn e j (.ref it) (.ref D) Y.env = (do
    standAt ipos
    match ← pyNext (.ref it) with
    | none => pure (.done .next)
    | some v =>
      letOwnedTupleGo tg (.ref it) v
      assign tg Y.env v
      let mut ok := true
      for c in ifs do
        if ok then ok ← isTrue c Y.env (eval c Y.env)
      if ok then body else again (.compLoop e j (.ref it) (.ref D) Y.env))
theorem dl_loop {Y : Cx} {e : Expr} {j : Nat} {tg : Expr} {ifs : List Expr} {ipos : Pos} {it D : Addr} {body : Sem PySem.Fin} {R : Result → Shared → Prop} {pins : List (Addr × Obj)} {σ : St} {vs : List Nat} {J : It} {fp : List Addr} {tn : Nat → Heap → Prop}
    {kx vx : Expr} {gs : List Comprehension} {sc : Scope} {ps : Pos} (he : e = .DictComp kx vx gs sc ps)
    {g : TG} {tt : TT} {tb : St → Hp → (Hp → Prop) → Prop} {q : Hp → Prop} {W : Nat → Nat → Hp → Prop} {s : Shared} {H : Hp} {m0 : Nat}
    (T : Turn Y.prog Y.w Y.K tg J fp it tn) (hc : Y.calm = true) (hxe : Y.xe = fun _ _ => False) (hturn : TurnIs Y e j tg ifs ipos it D body) (hp : PG Y tg g) (ht : PTs Y ifs tt)
    (stat : ∀ {H' : Hp} {s' : Shared}, Inv Y pins (wipe σ vs) H' s' → (∀ b ∈ fp, H' b = none) → ∀ b ∈ fp, FpOk Y pins H' b)
    (hb : ∀ {pins' : List (Addr × Obj)} {σ8 : St} {s9 : Shared} {H9 : Hp} {Nx : Hp → Prop}, Sub0 (wipe σ vs) σ8 → Inv Y pins' σ8 H9 s9 → tb σ8 H9 Nx →
      wpAny (model Y.prog Y.w) Y.A body (fun f s' => f = .again (.compLoop e j (.ref it) (.ref D) Y.env) ∧ ∃ σ9 H', Inv Y pins' σ9 H' s' ∧ Sub0 (wipe σ vs) σ9 ∧ Nx H') (fun _ _ => False) s9)
    (turn : ∀ i m H, W i m H → (J.stop i H ∧ q H) ∨ (J.go i H ∧ ∃ Nx : Hp → Prop, (∀ H', Nx H' → ∃ m', m' < m ∧ W (i + 1) m' H') ∧
      ∀ x H', J.yld i H x H' → g x (wipe σ vs) H' fun σ2 H2 => wipe σ2 vs = wipe σ vs ∧ tt σ2 H2 fun b H3 => if b = true then tb σ2 H3 Nx else Nx H3))
    (hR : ∀ s' H', Inv Y pins (wipe σ vs) H' s' → q H' → R (.ok .next) s')
    (I : Inv Y pins (wipe σ vs) H s) (st : tn 0 s.heap) (nf : ∀ b ∈ fp, H b = none) (w0 : W 0 m0 H) :
    codeAny (model Y.prog Y.w) Y.A (.compLoop e j (.ref it) (.ref D) Y.env) R s := by
  subst he
  refine codeAny_loop rfl (fun n s' => ∃ i H', Inv Y pins (wipe σ vs) H' s' ∧ tn i s'.heap ∧ (∀ b ∈ fp, H' b = none) ∧ W i n H') (fun n s5 hI => ?_) m0 ⟨0, H, I, st, nf, w0⟩
  obtain ⟨i, H5, I5, st5, n5, w5⟩ := hI
  show wpAny _ Y.A ((compTurn (.DictComp kx vx gs sc ps) j (.ref it) (.ref D) Y.env).onRaise (fun x => do noteFrame x Y.env; theTreesLotGoes x)) _ _ s5
  refine wpAny_noted ?_
  rw [show compTurn (.DictComp kx vx gs sc ps) j (.ref it) (.ref D) Y.env = _ from hturn]
  refine wpAny_bind (wpAny_standAt (wpAny_bind ?_))
  rcases turn i n H5 w5 with ⟨stop, qq⟩ | ⟨go, Nx, hNx, step⟩
  · refine thnF (T.done Y rfl rfl rfl hc i pins s5 _ H5 (fun _ _ => False) I5 (stat I5 n5) st5 stop) fun r s6 hr => ?_
    obtain ⟨rfl, I6⟩ := hr
    exact wpAny_pure (hR s6 H5 I6 qq)
  · refine thnF (T.item Y rfl rfl rfl hc i pins s5 _ H5 (fun _ _ => False) I5 (stat I5 n5) st5 go) fun r s6 hr => ?_
    obtain ⟨u, rfl, h6⟩ := hr
    refine wpAny_bind (thnF h6 fun _ s7 h7 => ?_)
    obtain ⟨x, H7, I7, r7, y7, st7, n7⟩ := h7
    have P7 := I7.pinned (stat I7 n7) (T.obj _ _ st7)
    have hgo := hp.run _ s7 _ H7 x u _ P7 r7 (step x H7 y7)
    rw [hxe] at hgo
    refine wpAny_bind (thnF hgo fun _ s8 h8 => ?_)
    obtain ⟨σ8, H8, I8, hw8, q8⟩ := h8
    have hto := ht.run _ s8 σ8 H8 _ I8 q8
    rw [hxe] at hto
    refine wpAny_bind (thnF hto fun b s9 h9 => ?_)
    obtain ⟨H9, I9, q9⟩ := h9
    have sub8 := sub_wipe hw8
    have fin : ∀ {σ9 : St} {s' : Shared} {H' : Hp}, Inv Y (pins ++ pinsAt fp s7.heap) σ9 H' s' → Sub0 (wipe σ vs) σ9 → Nx H' →
        ∃ m, m < n ∧ ∃ i H', Inv Y pins (wipe σ vs) H' s' ∧ tn i s'.heap ∧ (∀ b ∈ fp, H' b = none) ∧ W i m H' := by
      intro σ9 s' H' I' sb nx
      obtain ⟨m', hm, w'⟩ := hNx H' nx
      have pin' : ∀ b ∈ fp, ∀ o, s7.heap.get? b = some o → s'.heap.get? b = some o ∧ H' b = none := by
        intro b hb o eo
        have z := I'.pin (b, o) (List.mem_append_right _ (List.mem_append_right _ (mem_pinsAt hb eo)))
        exact ⟨z.1, z.2.1⟩
      refine ⟨m', hm, i + 1, H', I'.unpinned.weak sb.1 sb.2, T.keep _ _ _ st7 fun b hb o eo => (pin' b hb o eo).1, fun b hb => ?_, w'⟩
      obtain ⟨o, eo, _⟩ := T.obj _ _ st7 b hb
      exact (pin' b hb o eo).2
    cases b with
    | false =>
      rw [if_neg Bool.false_ne_true] at q9
      exact wpAny_pure ⟨rfl, fin I9 sub8 q9⟩
    | true =>
      rw [if_pos rfl] at q9
      refine thnF (hb sub8 I9 q9) fun f s' h' => ?_
      obtain ⟨rfl, σ9, H', I', sb, nx⟩ := h'
      exact ⟨rfl, fin I' sb nx⟩
theorem sub_out {a b c : St} {vs : List Nat} (h1 : Sub0 (wipe a vs) b) (h2 : Sub0 (wipe b vs) c) : Sub0 (wipe a vs) c := by
  refine ⟨h1.1.trans ((wipe_length b vs).symm.trans h2.1), fun i v e => h2.2 i v ?_⟩
  rw [wipe_out (wipe_some e).2]
  exact h1.2 i v e
abbrev inBlk (X : Cx) (scope : Scope) (p : Cx → Prop) : Prop := ∀ (s : Shared) (H : Hp) (C : Addr) (cl : List (Str × Addr)) (fp : List Addr), p (X.blk s H scope (compEnvC scope cl C X.env) fp)
/-- {.. for tg in iter if .. ..}: a new dict with tuples as keys; tb: what a turn does behind its tests -/
def tDcG (wi : TI) (g : TG) (tt : TT) (tb : Addr → St → Hp → (Hp → Prop) → Prop) (vs : List Nat) : TE := fun σ H Q => wi σ H fun J H1 => ∀ D, H1 D = none → ∃ W : Nat → Nat → Hp → Prop, (∃ m, W 0 m (upd H1 D (.dT []))) ∧
  ∀ i m H, W i m H → (J.stop i H ∧ Q (.ref D) H) ∨ (J.go i H ∧ ∃ Nx : Hp → Prop, (∀ H', Nx H' → ∃ m', m' < m ∧ W (i + 1) m' H') ∧
    ∀ x H', J.yld i H x H' → g x (wipe σ vs) H' fun σ2 H2 => wipe σ2 vs = wipe σ vs ∧ tt σ2 H2 fun b H3 => if b = true then tb D σ2 H3 Nx else Nx H3)
/-- what a turn's body owes -/
def Body (Y : Cx) (e : Expr) (j : Nat) (vs : List Nat) (tb : Addr → St → Hp → (Hp → Prop) → Prop) (body : Addr → Addr → Env → Sem PySem.Fin) : Prop :=
  ∀ (it D : Addr) (pins : List (Addr × Obj)) (σ : St) (s : Shared) (H : Hp) (Nx : Hp → Prop), Inv Y pins σ H s → tb D σ H Nx →
    wpAny (model Y.prog Y.w) Y.A (body it D Y.env) (fun f s' => f = .again (.compLoop e j (.ref it) (.ref D) Y.env) ∧ ∃ σ' H', Inv Y pins σ' H' s' ∧ Sub0 (wipe σ vs) σ' ∧ Nx H') (fun _ _ => False) s
section
variable {X : Cx} {kx vx tg iter : Expr} {ifs : List Expr} {rest : List Comprehension} {scope : Scope} {own : List (Str × Nat)} {pos pos' : Pos} {wi : TI} {g : TG} {tt : TT} {tb : Addr → St → Hp → (Hp → Prop) → Prop} {body : Addr → Addr → Env → Sem PySem.Fin}
theorem dl_dcomp {pins : List (Addr × Obj)} {s : Shared} {σ : St} {H : Hp} {Q : VK} (hc : X.calm = true) (hN : X.N.Nodup) (I : Inv X pins σ H s) (hi : PI X tg iter wi) (ok : BlkOk X.N X.env.scope scope own)
    (hg : inBlk X scope fun Y => PG Y tg g) (ht : inBlk X scope fun Y => PTs Y ifs tt) (hbd : inBlk X scope fun Y => Body Y (.DictComp kx vx (⟨tg, iter, ifs, 0⟩ :: rest) scope pos) 0 (own.map (·.2)) tb body)
    (hturn : ∀ (Y : Cx) (it D : Addr), TurnIs Y (.DictComp kx vx (⟨tg, iter, ifs, 0⟩ :: rest) scope pos) 0 tg ifs iter.pos it D (body it D Y.env))
    (hs : ∀ x, foldedSetIterable iter X.env x = pure x) (h : tDcG wi g tt tb (own.map (·.2)) σ H Q) {use : Option (Value → Sem Unit)} {Qf : Value → Shared → Prop}
    (hend : ∀ D C s' m H', Inv X pins σ H' s' → Q (.ref D) H' → s'.heap.Ns C m → FpOk X pins H' C → compPost (model X.prog X.w) X.A X.xe use Qf (.ref D) C (.ok .next) s') :
    wpAny (model X.prog X.w) X.A (comprehension (.DictComp kx vx (⟨tg, iter, ifs, 0⟩ :: rest) scope pos) scope X.env pos' newDict false (eval iter X.env) use) Qf X.xe s := by
  have frees : ∀ y ∈ scope.names, y.2 = .free → ∃ c, X.env.cells.lookup y.1 = some c := by
    intro y hy e
    rcases ok.free y hy e with k | k
    · exact I.ok.has _ (.inl k)
    · exact I.ok.has _ (.inr k)
  have first := hi.run pins s σ H _ I h
  refine wpAny_comprehension_free (use := use) rfl hs (closure_ok frees) ok.kind (fun y hy e => by rw [ok.uniq y hy, e]) ?_
  refine thn first fun xv s1 hx => thn hx fun itv s2 h2 => ?_
  obtain ⟨it, fp, tn, J, H2, rfl, I2, T, st2, f2, q⟩ := h2
  refine wpAny_newObj_type (newEnv_comp ?_)
  obtain ⟨D, hD⟩ : ∃ D, D = s2.heap.objs.size := ⟨_, rfl⟩
  rw [← hD]
  have nD : H2 D = none := I2.hok.fresh (Nat.le_of_eq hD.symm)
  obtain ⟨W, ⟨m0, w0⟩, turn⟩ := q D nD
  obtain ⟨s3, hs3⟩ : ∃ s3 : Shared, s3 = { s2 with heap := s2.heap.push { cls := .type "dict", data := .dict #[] } } := ⟨_, rfl⟩
  rw [← hs3]
  have e3 : s3.heap = s2.heap.push { cls := .type "dict", data := .dict #[] } := by rw [hs3]
  have keep3 : ∀ b o, s2.heap.get? b = some o → s3.heap.get? b = some o := fun b o e => by rw [e3]; exact Heap.get?_push_of_some _ e
  have I3 : Inv X pins σ (upd H2 D (.dT [])) s3 := by
    rw [hs3, hD]
    exact I2.laid (t' := s2.toks) (fun b o e => Heap.get?_push_of_some _ e) (Nat.le_refl _) (dt_empty s2.heap I2.big)
  have old : ∀ b ∈ fp, b < s2.heap.objs.size := fun b hb => by
    obtain ⟨o, e, _⟩ := T.obj _ _ st2 b hb
    exact Heap.lt_size e
  have f3 : ∀ b ∈ fp, FpOk X pins (upd H2 D (.dT [])) b ∧ b < s3.heap.objs.size := fun b hb => by
    have lt := old b hb
    obtain ⟨k1, k2⟩ := f2 b hb
    refine ⟨⟨by rw [upd_ne (by rw [hD]; exact Nat.ne_of_lt lt)]; exact k1, k2⟩, ?_⟩
    rw [e3, Heap.size_push]
    exact Nat.lt_succ_of_lt lt
  have st3 : tn 0 s3.heap := T.keep _ _ _ st2 fun b _ o e => keep3 b o e
  have I4 := block_start I3 ok hN f3
  have nf3 : ∀ b ∈ fp, (upd H2 D (.dT [])) b = none := fun b hb => (f3 b hb).1.1
  obtain ⟨cl, hcl⟩ : ∃ cl, cl = cellsFrom (s3.heap.objs.size + 1) scope.names (cloFrom X.env.cells scope.names []) := ⟨_, rfl⟩
  rw [← hcl] at I4
  obtain ⟨H3, hH3⟩ : ∃ H3, H3 = upd H2 D (.dT []) := ⟨_, rfl⟩
  rw [← hH3] at I3 I4 w0 nf3 f3
  have pg := hg s3 H3 s3.heap.objs.size cl fp
  have pt := ht s3 H3 s3.heap.objs.size cl fp
  have pb := hbd s3 H3 s3.heap.objs.size cl fp
  show codeAny _ _ (.compStart (.DictComp kx vx (⟨tg, iter, ifs, 0⟩ :: rest) scope pos) 0 (.ref it) (.ref D) (compEnvC scope (cellsFrom (s3.heap.objs.size + 1) scope.names (cloFrom X.env.cells scope.names [])) s3.heap.objs.size X.env))
    (compPost (model X.prog X.w) X.A X.xe use Qf (.ref D) s3.heap.objs.size) { s3 with heap := pushCells (s3.heap.push { cls := .type "dict", data := .dict #[] }) scope.names }
  rw [← hcl]
  obtain ⟨s4, hs4⟩ : ∃ s4 : Shared, s4 = { s3 with heap := pushCells (s3.heap.push { cls := .type "dict", data := .dict #[] }) scope.names } := ⟨_, rfl⟩
  rw [← hs4] at I4 ⊢
  have st4 : tn 0 s4.heap := T.keep _ _ _ st3 fun b _ o e => by rw [hs4]; exact pushCells_keeps _ _ _ _ (Heap.get?_push_of_some _ e)
  obtain ⟨Y, hY⟩ : ∃ Y, Y = X.blk s3 H3 scope (compEnvC scope cl s3.heap.objs.size X.env) fp := ⟨_, rfl⟩
  have loop : codeAny (model X.prog X.w) X.A (.compLoop (.DictComp kx vx (⟨tg, iter, ifs, 0⟩ :: rest) scope pos) 0 (.ref it) (.ref D) (compEnvC scope cl s3.heap.objs.size X.env))
      (compPost (model X.prog X.w) X.A X.xe use Qf (.ref D) s3.heap.objs.size) s4 := by
    refine dl_loop (Y := X.blk s3 H3 scope (compEnvC scope cl s3.heap.objs.size X.env) fp) (vs := own.map (·.2)) (σ := σ) (pins := []) (tb := tb D) rfl T hc rfl (hturn _ it D) pg pt (fun I' hn b hb => ?_) (fun sb I' t => ?_) turn (fun s' H' I' qq => ?_) I4 st4 nf3 w0
    · exact ⟨hn b hb, (I'.ok.exf b hb).1, I'.ok.exfs b hb, .inl hb, fun x c e => (I'.ok.exf b hb).2 x c e, fun p hp => absurd (show p ∈ ([] : List (Addr × Obj)) ++ [] from hp) (by simp)⟩
    · refine thnF (pb it D _ _ _ _ _ I' t) fun f s' h' => ?_
      obtain ⟨ef, σ9, H', i9, sb9, nx⟩ := h'
      exact ⟨ef, σ9, H', i9, sub_out sb sb9, nx⟩
    · have I7 : Inv X pins σ H' s' := I3.call' (ch := fp) I'.os I'.base I'.hok I'.bare fun b hb => by
        obtain ⟨_, k1, _, k3, k4, k5⟩ := (f3 b hb).1
        exact ⟨k3, k1, k4, k5⟩
      have nC : H' s3.heap.objs.size = none := I'.free
      obtain ⟨m, hn, _⟩ := I'.loc
      have hn : s'.heap.Ns s3.heap.objs.size m := hn
      exact hend D s3.heap.objs.size s' m H' I7 qq hn (I3.fpOk (Nat.le_refl _) nC)
  exact codeAny_compStart_dict loop (T.self X.A 0 _ _ _ st4 loop)
/-- what it owes that is stored under a name ahead of its block's end -/
theorem end_name {pins : List (Addr × Obj)} {σ : St} {i : Nat} {y : Str} {py : Pos} {T : Ends} (hN : X.N.Nodup) (hy : X.N[i]? = some y) (hyl : X.env.scope.names.lookup y = some .local) (D C : Addr) (s' : Shared) (m : Str → Option Value) (H' : Hp)
    (I' : Inv X pins σ H' s') (q : gName i (.ref D) σ H' T.nx) (hn : s'.heap.Ns C m) (f : FpOk X pins H' C) :
    compPost (model X.prog X.w) X.A X.xe (some (assign (.Name y py) X.env)) (fun _ s' => SP X pins T .next s') (.ref D) C (.ok .next) s' := by
  show wpAny _ _ (assign (.Name y py) X.env (.ref D)) _ _ _
  refine wpAny_assign_Name (store_ok2 (v := V.ref D) I' hN hy (.inl hyl) rfl (fun s2 I2 ha => ?_) (.inr hyl))
  obtain ⟨a, sb, ha⟩ := ha
  obtain ⟨f0, f1, f2, f3, f4, f5⟩ := f
  have apart : C ≠ a := by
    rcases ha with z | z
    · rw [z]; exact f1
    · intro e; exact f4 y a z e.symm
  refine ⟨m, hn.sameBut sb apart, fun h3 sb3 => ?_⟩
  exact ⟨_, H', I2.turned (t' := s2.toks) (fun b o hb e => (sb3.2 b hb).trans e) f0 f1 f3 f4 f5, q⟩
end
end L2
namespace L2
open PySem PySem.Spec PyProof.Rows
section
variable {X : Cx} {kx vx tg iter tg1 iter1 : Expr} {ifs ifs1 : List Expr} {scope : Scope} {own : List (Str × Nat)} {pos pos' : Pos} {wi wi1 : TI} {g g1 : TG} {tt tt1 : TT} {tk tv : TE}
/-- a turn that puts a pair -/
def putBody (e : Expr) (j : Nat) (kx vx : Expr) (it D : Addr) (env : Env) : Sem PySem.Fin := do
  (do
    let a ← eval kx env
    let b ← holding [a] (eval vx env)
    standAt { kx.pos with endLine := vx.pos.endLine, endCol := vx.pos.endCol }
    holding [a, b] (dictSet D a b))
  again (.compLoop e j (.ref it) (.ref D) env)
theorem turn_put2 (Y : Cx) (c0 : Comprehension) (it D : Addr) : TurnIs Y (.DictComp kx vx [c0, ⟨tg1, iter1, ifs1, 0⟩] scope pos) 1 tg1 ifs1 iter1.pos it D (putBody (.DictComp kx vx [c0, ⟨tg1, iter1, ifs1, 0⟩] scope pos) 1 kx vx it D Y.env) := rfl
def inBody (e i1 : Expr) (it D : Addr) (env : Env) : Sem PySem.Fin := do
  let a ← eval i1 env
  standAt i1.pos
  let a ← foldedSetIterable i1 env a
  let _ ← runOwn (.compStart e 1 (← holding [a] (pyIter a)) (.ref D) env) env
  again (.compLoop e 0 (.ref it) (.ref D) env)
theorem turn_in (Y : Cx) (it D : Addr) : TurnIs Y (.DictComp kx vx [⟨tg, iter, ifs, 0⟩, ⟨tg1, iter1, ifs1, 0⟩] scope pos) 0 tg ifs iter.pos it D
    (inBody (.DictComp kx vx [⟨tg, iter, ifs, 0⟩, ⟨tg1, iter1, ifs1, 0⟩] scope pos) iter1 it D Y.env) := rfl
def tbPut (tk tv : TE) (D : Addr) (σ : St) (H : Hp) (Nx : Hp → Prop) : Prop := tk σ H fun y H4 => tv σ H4 fun z H5 => ∃ kvs k b, y = .ref b ∧ H5 D = some (.dT kvs) ∧ H5 b = some (.tup (k.map kV)) ∧ kvs.length < sizeLine ∧ Nx (upd H5 D (.dT (putK kvs k z)))
theorem sub_wipe0 (σ : St) (vs : List Nat) : Sub0 (wipe σ vs) σ := ⟨wipe_length _ _, fun _ _ e => (wipe_some e).1⟩
theorem body_put {Y : Cx} {e : Expr} {j : Nat} (vs : List Nat) (hu : Y.A.units + 2 < cLine) (hxe : Y.xe = fun _ _ => False) (hk : PE Y kx tk) (hv : PE Y vx tv) : Body Y e j vs (tbPut tk tv) (putBody e j kx vx) := by
  intro it D pins σ s H Nx I t
  have h1 := hk.run pins s σ H _ I t
  rw [hxe] at h1
  refine wpAny_bind (wpAny_bind (thnF h1 fun u s1 q1 => ?_))
  obtain ⟨y, H1, I1, ry, t1⟩ := q1
  have h2 := hv.run pins s1 σ H1 _ I1 t1
  rw [hxe] at h2
  refine wpAny_bind (wpAny_holding (thnF h2 fun r s2 q2 => ?_))
  obtain ⟨z, H2, I2, rz, kvs, k, b, rfl, hD, hb, hl, nx⟩ := q2
  refine wpAny_bind (wpAny_standAt (wpAny_holding ?_))
  obtain rfl : u = Value.ref b := ry
  obtain ⟨hz, hd, xs, rel, dd⟩ := dt_of I2.hok hD
  have hxs : xs.length ≤ sizeLine := by rw [← Paired.length rel]; exact hz
  have hlen : (putK kvs k z).length ≤ sizeLine := by have := length_putK kvs k z; omega
  refine wpAny_dictSet_heap (hsz := hxs) (show (tupleKind (mixKind Y.prog Y.w)).room Y.A from (by show Y.A.units < cLine; omega)) (key_of I2.hok hb) dd fun h' dd' hs => ?_
  obtain ⟨q, es, ep, hq, g2, g3, g4, _, g5⟩ := dd'
  have no : ObjOk Y.prog Y.w (upd H2 D (.dT (putK kvs k z))) h' D (.dT (putK kvs k z)) := by
    refine ⟨hlen, hd, _, (rel.put k hb rz).keeps fun c ys ec => ?_, q, es, ep, hq, g2, g3, g4, g5⟩
    rw [upd_ne (fun e => by rw [e, hD] at ec; cases ec)]
    exact ec
  exact wpAny_pure ⟨rfl, σ, _, d_write I2 (by rw [hD]; exact True.intro) hs ⟨q, hq⟩ no, sub_wipe0 σ vs, nx⟩
/-- {kx: vx for tg in iter if .. for tg1 in iter1 if ..} -/
def tbIn (wi1 : TI) (g1 : TG) (tt1 : TT) (tk tv : TE) (vs1 : List Nat) (D : Addr) (σ : St) (H : Hp) (Nx : Hp → Prop) : Prop := wi1 σ H fun J1 H4 => ∃ W1 : Nat → Nat → Hp → Prop, (∃ m, W1 0 m H4) ∧
  ∀ i m H, W1 i m H → (J1.stop i H ∧ Nx H) ∨ (J1.go i H ∧ ∃ Nx1 : Hp → Prop, (∀ H', Nx1 H' → ∃ m', m' < m ∧ W1 (i + 1) m' H') ∧
    ∀ x H', J1.yld i H x H' → g1 x (wipe σ vs1) H' fun σ2 H2 => wipe σ2 vs1 = wipe σ vs1 ∧ tt1 σ2 H2 fun b H3 => if b = true then tbPut tk tv D σ2 H3 Nx1 else Nx1 H3)
theorem start_one {M : Model} {A : Around} {e : Expr} {c0 : Comprehension} {it acc : Value} {env : Env} {R : Result → Shared → Prop} {s : Shared} (he : ∃ kx vx sc ps, e = .DictComp kx vx [c0, ⟨tg1, iter1, ifs1, 0⟩] sc ps)
    (h0 : codeAny (model X.prog X.w) A (.compLoop e 1 it acc env) R s)
    (h : wpAny (model X.prog X.w) A (pyIter it) (fun it' s' => codeAny (model X.prog X.w) A (.compLoop e 1 it' acc env) R s') (notedBy (model X.prog X.w) A env fun x s' => R (.error x) s') s) :
    codeAny (model X.prog X.w) A (.compStart e 1 it acc env) R s := by
  obtain ⟨kx, vx, sc, ps, rfl⟩ := he
  refine codeAny_of_tree ?_
  show wpAny _ _ ((compStart (.DictComp kx vx [c0, ⟨tg1, iter1, ifs1, 0⟩] sc ps) 1 it acc env).onRaise (fun x => do noteFrame x env; standAt theWindowsPlace)) _ _ s
  refine wpAny_notedAt ?_
  unfold compStart
  refine wpAny_ite_split (fun hf => absurd (show (false = true) from hf) Bool.false_ne_true) (fun _ => ?_)
  show wpAny _ _ (ask >>= _) _ _ s
  refine wpAny_bind (wpAny_askSetting (wpAny_ite ?_))
  split
  · first
      | exact wpAny_pure ⟨rfl, h0⟩
      | exact wpAny_bind (wpAny_pure (wpAny_pure ⟨rfl, h0⟩))
  · refine wpAny_bind (wpAny_rule ?_)
    first
      | exact wpAny_bind (wpAny_standAt (wpAny_bind (thn h fun it' s' h' => wpAny_pure ⟨rfl, h'⟩)))
      | (show wpAny _ _ (standAt iter1.pos >>= _) _ _ s; exact wpAny_bind (wpAny_standAt (wpAny_bind (thn h fun it' s' h' => wpAny_pure ⟨rfl, h'⟩))))
theorem body_in {Y : Cx} {vs vs1 : List Nat} (hu : Y.A.units + 2 < cLine) (hc : Y.calm = true) (hxe : Y.xe = fun _ _ => False) (hsub : ∀ i ∈ vs1, i ∈ vs) (hi1 : PI Y tg1 iter1 wi1) (hg1 : PG Y tg1 g1) (ht1 : PTs Y ifs1 tt1) (hk : PE Y kx tk) (hv : PE Y vx tv)
    (hs1 : ∀ env x, foldedSetIterable iter1 env x = pure x) :
    Body Y (.DictComp kx vx [⟨tg, iter, ifs, 0⟩, ⟨tg1, iter1, ifs1, 0⟩] scope pos) 0 vs (tbIn wi1 g1 tt1 tk tv vs1) (inBody (.DictComp kx vx [⟨tg, iter, ifs, 0⟩, ⟨tg1, iter1, ifs1, 0⟩] scope pos) iter1) := by
  intro it0 D pins σ s H Nx I t
  have h1 := hi1.run pins s σ H _ I t
  rw [hxe] at h1
  refine wpAny_bind (thnF h1 fun a s1 q1 => ?_)
  refine wpAny_bind (wpAny_standAt (wpAny_bind (wpAny_of_eq (hs1 _ a) (wpAny_bind (wpAny_holding (thnF q1 fun it1 s2 q2 => ?_))))))
  obtain ⟨it, fp, tn, J1, H4, rfl, I4, T1, st4, f4, W1, ⟨m0, w0⟩, turn⟩ := q2
  refine wpAny_bind (wpAny_runOwn ?_)
  rw [Around.mark_none]
  have loop : codeAny (model Y.prog Y.w) Y.A (.compLoop (.DictComp kx vx [⟨tg, iter, ifs, 0⟩, ⟨tg1, iter1, ifs1, 0⟩] scope pos) 1 (.ref it) (.ref D) Y.env)
      (fun r s' => match r with | .ok _ => ∃ H', Inv Y pins (wipe σ vs1) H' s' ∧ Nx H' | .error _ => False) s2 := by
    refine dl_loop (vs := vs1) (σ := σ) (pins := pins) (tb := tbPut tk tv D) rfl T1 hc hxe (turn_put2 Y _ it D) hg1 ht1 (fun I' hn b hb => ⟨hn b hb, (f4 b hb).2⟩) (fun sb I' t => ?_) turn (fun s' H' I' qq => ⟨H', I', qq⟩)
      (I4.weak (wipe_length _ _) fun i v e => (wipe_some e).1) st4 (fun b hb => (f4 b hb).1) w0
    refine thnF (body_put vs1 hu hxe hk hv it D _ _ _ _ _ I' t) fun f s' h' => ?_
    obtain ⟨ef, σ9, H', i9, sb9, nx⟩ := h'
    exact ⟨ef, σ9, H', i9, sub_out sb sb9, nx⟩
  refine codeAny_mono (start_one (M := model Y.prog Y.w) ⟨_, _, _, _, rfl⟩ loop (T1.self Y.A 0 _ _ _ st4 loop)) fun r s' hr => ?_
  cases r with
  | error e => exact hr.elim
  | ok f =>
    obtain ⟨H', I', nx⟩ := hr
    have fin : ∃ σ' H', Inv Y pins σ' H' s' ∧ Sub0 (wipe σ vs) σ' ∧ Nx H' := by
      refine ⟨wipe σ vs1, H', I', ⟨by rw [wipe_length, wipe_length], fun i v e => ?_⟩, nx⟩
      obtain ⟨e1, e2⟩ := wipe_some e
      rw [wipe_out fun z => e2 (hsub i z)]
      exact e1
    first
      | exact wpAny_pure ⟨rfl, fin⟩
      | exact wpAny_bind (wpAny_pure (wpAny_pure ⟨rfl, fin⟩))
theorem ps_setDc2 {i : Nat} {y : Str} {py spos : Pos} {vs1 : List Nat} (hu : X.A.units + 2 < cLine) (hc : X.calm = true) (hN : X.N.Nodup) (hy : X.N[i]? = some y) (hyl : X.env.scope.names.lookup y = some .local)
    (hsw : swapsWith (.DictComp kx vx [⟨tg, iter, ifs, 0⟩, ⟨tg1, iter1, ifs1, 0⟩] scope pos) (some (.Name y py)) spos.line X.env = pure true) (hi : PI X tg iter wi) (ok : BlkOk X.N X.env.scope scope own) (hv1 : ∀ i ∈ vs1, i ∈ own.map (·.2)) (hg : inBlk X scope fun Y => PG Y tg g) (ht : inBlk X scope fun Y => PTs Y ifs tt)
    (hi1 : inBlk X scope fun Y => PI Y tg1 iter1 wi1) (hg1 : inBlk X scope fun Y => PG Y tg1 g1) (ht1 : inBlk X scope fun Y => PTs Y ifs1 tt1) (hk : inBlk X scope fun Y => PE Y kx tk) (hv : inBlk X scope fun Y => PE Y vx tv)
    (hs : ∀ x, foldedSetIterable iter X.env x = pure x := by intro _; rfl) (hs1 : ∀ env x, foldedSetIterable iter1 env x = pure x := by intro _ _; rfl) :
    PS X (.Assign [.Name y py] (.DictComp kx vx [⟨tg, iter, ifs, 0⟩, ⟨tg1, iter1, ifs1, 0⟩] scope pos) spos) (tAsg (tDcG wi g tt (tbIn wi1 g1 tt1 tk tv vs1) (own.map (·.2))) (gName i)) := by
  refine ⟨fun pins s σ H T I h => ?_⟩
  rw [exec_Assign_Name_used _ _ _ _ hsw]
  refine wpAny_bind (wpAny_standAt (wpAny_bind ?_))
  show wpAny _ X.A (do let _ ← comprehension (.DictComp kx vx [⟨tg, iter, ifs, 0⟩, ⟨tg1, iter1, ifs1, 0⟩] scope pos) scope X.env (firstIterPos [⟨tg, iter, ifs, 0⟩, ⟨tg1, iter1, ifs1, 0⟩] pos) newDict false (eval iter X.env) (some (assign (.Name y py) X.env))) _ _ s
  have h : tDcG wi g tt (tbIn wi1 g1 tt1 tk tv vs1) (own.map (·.2)) σ H (fun x H1 => gName i x σ H1 T.nx) := h
  refine wpAny_bind (thn (Q := fun _ s' => SP X pins T .next s') (dl_dcomp hc hN I hi ok hg ht (fun s H C cl fp => body_in hu hc rfl hv1 (hi1 s H C cl fp) (hg1 s H C cl fp) (ht1 s H C cl fp) (hk s H C cl fp) (hv s H C cl fp) hs1) turn_in hs h (end_name hN hy hyl)) fun _ s' hq => wpAny_pure (wpAny_pure hq))
theorem sw_trueD {gs : List Comprehension} {py : Pos} {y : Str} {l : Nat} {env : Env} (hk : env.scope.kind = .function) (hy : env.scope.names.lookup y = some .local) (hl : (py.line == pos.line) = true)
    (ha : (scope.names.any fun (n, k) => n == y && (k == .local || k == .cell)) = false) : swapsWith (.DictComp kx vx gs scope pos) (some (.Name y py)) l env = pure true := by
  have h1 : env.kindOf y = some .local := hy
  have h2 : env.blockKind = .function := by unfold Env.blockKind; rw [hk]; rfl
  unfold swapsWith
  simp only [h2, h1, ha, Expr.pos, hl]
  rfl
end
end L2
namespace DL
open PySem L2
section
variable {K : PySem.W.Frag} {X : Cx} {W : WX}
/-- what is known of the new dict at D while it is filled -/
structure FillT (K : PySem.W.Frag) (Z1 H1 : Hp) (I1 : List Addr) (D : Addr) (Z H : Hp) (I : List Addr) (M : List O) (acc : List (List Key × V)) (ad : List (List Key × DL.D)) : Prop where
  w : Wf K Z H I M
  x : Ext Z1 H1 I1 Z H I
  at_ : H D = some (.dT acc)
  nz : Z D = none
  ni : D ∉ I
  r : Paired (FRel K Z I) acc (ad.map fun p => (p.1, DV.p p.2))
theorem frel_mono {Z H Z' H' : Hp} {I I' : List Addr} (e : Ext Z H I Z' H' I') {κ : Type} {a : List (κ × V)} {b : List (κ × DV)} (r : Paired (FRel K Z I) a b) : Paired (FRel K Z' I') a b := paired_imp (fun _ _ h => ⟨h.1, h.2.mono e⟩) r
theorem FillT.step {Z1 H1 Z H Z' H' : Hp} {I1 I I' : List Addr} {D : Addr} {M M' : List O} {acc : List (List Key × V)} {ad : List (List Key × DL.D)} (f : FillT K Z1 H1 I1 D Z H I M acc ad) (w : Wf K Z' H' I' M') (x : Ext Z H I Z' H' I') : FillT K Z1 H1 I1 D Z' H' I' M' acc ad where
  w := w
  x := f.x.trans x
  at_ := x.fr D _ f.at_ f.ni
  nz := by
    cases q : Z' D with
    | none => rfl
    | some o =>
      rcases x.zn D (by rw [q]; simp) with k | k | k
      · exact absurd f.nz k
      · exact (Fr.no f.at_ (fun _ e => nomatch e) k).elim
      · exact absurd k f.ni
  ni := fun m => by
    rcases x.nw D m with k | k
    · exact f.ni k
    · rw [f.at_] at k; cases k
  r := frel_mono x f.r
theorem FillT.put {Z1 H1 Z H : Hp} {I1 I : List Addr} {D : Addr} {M : List O} {acc : List (List Key × V)} {ad : List (List Key × DL.D)} (f : FillT K Z1 H1 I1 D Z H I M acc ad) (h0 : H1 D = none) {v : V} {d : DL.D} (r : Rep K Z v d) (k : List Key) :
    FillT K Z1 H1 I1 D Z (upd H D (.dT (putK acc k v))) I M (putK acc k v) (putO ad k d) where
  w := ⟨fun a u e => by rw [upd_ne (fun q => by rw [q, f.nz] at e; cases e)]; exact f.w.sub a u e, f.w.len, f.w.nd, fun a m => by rw [upd_ne (fun q => f.ni (by rw [← q]; exact m))]; exact f.w.tr a m, fun n a o h1 h2 h3 => by
    obtain ⟨q1, q2⟩ := f.w.ob n a o h1 h2 h3
    exact ⟨q1, q2.mono (Same.refl _) (upd_ne fun q => f.ni (by rw [← q]; exact List.mem_of_getElem? h1))⟩⟩
  x := ⟨f.x.z, f.x.i, fun a o e n => by rw [upd_ne (ne_of_none e h0)]; exact f.x.fr a o e n, f.x.nw, f.x.zn, fun a e => by
    by_cases q : a = D
    · rw [q, upd_same]; simp
    · rw [upd_ne q]; exact f.x.tr a e⟩
  at_ := upd_same
  nz := f.nz
  ni := f.ni
  r := by
    have e : (putO ad k d).map (fun p => (p.1, DV.p p.2)) = putO (ad.map fun p => (p.1, DV.p p.2)) k (.p d) := by
      unfold putO
      rw [List.any_map]
      have ea : (ad.any ((fun kv : List Key × DV => decide (kv.1 = k)) ∘ fun p => (p.1, DV.p p.2))) = ad.any fun kv => decide (kv.1 = k) := rfl
      rw [ea]
      split
      · rw [List.map_map, List.map_map]
        refine List.map_congr_left fun p _ => ?_
        show (((if p.1 = k then (p.1, d) else p) : List Key × DL.D).1, DV.p ((if p.1 = k then (p.1, d) else p) : List Key × DL.D).2) = if p.1 = k then (p.1, DV.p d) else (p.1, DV.p p.2)
        split <;> rfl
      · rw [List.map_append]; rfl
    rw [e]
    exact putP_rep f.r k r
abbrev BM := S → List (List Key × D) → Option (List (List Key × D) × List O)
def SoundB (K : PySem.W.Frag) (tb : Addr → St → Hp → (Hp → Prop) → Prop) (bm : BM) : Prop := ∀ (Z1 H1 : Hp) (I1 : List Addr) (D : Addr), H1 D = none → ∀ (σ : St) (l : List (Option DV)) (Z H : Hp) (I : List Addr) (M : List O) (acc : List (List Key × V)) (bd ad : List (List Key × DL.D)) (Mf : List O) (Nx : Hp → Prop),
  RepS K Z I σ l → FillT K Z1 H1 I1 D Z H I M acc bd → bm ⟨l, M⟩ bd = some (ad, Mf) → (∀ Z' H' I' acc', FillT K Z1 H1 I1 D Z' H' I' Mf acc' ad → Same Z Z' → (∃ t, I' = I ++ t) → Nx H') → tb D σ H Nx
def compG (l : List (Option DV)) (g : GM) (t : EM) (bm : BM) : List DV → List (List Key × D) → List O → Option (List (List Key × D) × List O)
  | [], acc, M => some (acc, M)
  | d :: ds, acc, M => match g d ⟨l, M⟩ with
    | none => none
    | some s1 => match t s1 with
      | some (.ok (.p (.bl true)) M1) => match bm ⟨s1.l, M1⟩ acc with
        | some (acc', M2) => compG l g t bm ds acc' M2
        | none => none
      | some (.ok (.p (.bl false)) M1) => compG l g t bm ds acc M1
      | _ => none
theorem gloop_ok {g : TG} {tt : TT} {tb : Addr → St → Hp → (Hp → Prop) → Prop} {bm : BM} {vs ix : List Nat} {gm : GM} {t : EM} (hg : HG K g gm ix) (hix : ∀ i ∈ ix, i ∈ vs) (ht : Sound K WF RepB tt t) (hb : SoundB K tb bm)
    {Z1 H1 : Hp} {I1 : List Addr} {D : Addr} (hD : H1 D = none) {σ : St} {l : List (Option DV)} {Zs Hs : Hp} {Is : List Addr} {Ms : List O} {J : It} {ds : List DV} (q : ItOk K Zs Is J ds) (rs : RepS K Zs Is σ l)
    {acc : List (List Key × V)} {bd : List (List Key × DL.D)} (f : FillT K Z1 H1 I1 D Zs Hs Is Ms acc bd) {ad : List (List Key × DL.D)} {Mf : List O} (e : compG (wipeL l vs) gm t bm ds bd Ms = some (ad, Mf)) {Nx : Hp → Prop}
    (k : ∀ Z' H' I' acc', FillT K Z1 H1 I1 D Z' H' I' Mf acc' ad → Same Zs Z' → (∃ t, I' = Is ++ t) → Nx H') :
    ∃ W1 : Nat → Nat → Hp → Prop, (∃ m, W1 0 m Hs) ∧ ∀ i m H, W1 i m H → (J.stop i H ∧ Nx H) ∨ (J.go i H ∧ ∃ Nx1 : Hp → Prop, (∀ H', Nx1 H' → ∃ m', m' < m ∧ W1 (i + 1) m' H') ∧
      ∀ x H', J.yld i H x H' → g x (L2.wipe σ vs) H' fun σ2 H2 => L2.wipe σ2 vs = L2.wipe σ vs ∧ tt σ2 H2 fun b H3 => if b = true then tb D σ2 H3 Nx1 else Nx1 H3) := by
  refine ⟨fun i m H' => m = ds.length - i ∧ i ≤ ds.length ∧ ∃ Z' I' M acc bd, FillT K Z1 H1 I1 D Z' H' I' M acc bd ∧ Same Zs Z' ∧ (∃ t, I' = Is ++ t) ∧ compG (wipeL l vs) gm t bm (ds.drop i) bd M = some (ad, Mf),
    ⟨ds.length, by simp, Nat.zero_le _, Zs, Is, Ms, acc, bd, f, Same.refl _, ⟨[], by simp⟩, e⟩, ?_⟩
  rintro i m H' ⟨rfl, hil, Z', I', M, acc, bd, f, sz, si, e'⟩
  have Jo := q Z' H' I' sz si f.w.sub i
  by_cases hlt : i < ds.length
  · right
    have hd : ds[i]? = some ds[i] := by simp [hlt]
    obtain ⟨go, yl⟩ := Jo.1 _ hd
    rw [List.drop_eq_getElem_cons hlt] at e'
    refine ⟨go, fun H2 => ∃ Z2 I2 M2 acc2 bd2, FillT K Z1 H1 I1 D Z2 H2 I2 M2 acc2 bd2 ∧ Same Zs Z2 ∧ (∃ t, I2 = Is ++ t) ∧ compG (wipeL l vs) gm t bm (ds.drop (i + 1)) bd2 M2 = some (ad, Mf),
      fun H2 h2 => ⟨ds.length - (i + 1), by omega, rfl, hlt, h2⟩, fun x H2 hx => ?_⟩
    obtain ⟨Z2, x2, rx⟩ := yl x H2 hx
    have f2 := f.step (f.w.extP x2) (x2.ext f.w)
    have sz2 := sz.trans x2.z
    have rs2 : RepS K Z2 I' (L2.wipe σ vs) (wipeL l vs) := (rs.mono2 sz2 si).wipe vs
    unfold compG at e'
    cases zg : gm ds[i] ⟨wipeL l vs, M⟩ with
    | none => rw [zg] at e'; cases e'
    | some s1 =>
      rw [zg] at e'
      refine hg x ds[i] (L2.wipe σ vs) H2 ⟨wipeL l vs, M⟩ s1 Z2 I' _ f2.w rs2 rx zg fun σ3 Z3 H3 I3 w3 rs3 x3 k3 => ?_
      have f3 := f2.step w3 x3
      have sz3 := sz2.trans x3.z
      have si3 := ex_app si x3.i
      refine ⟨(k3 vs hix).trans (wipe_wipe vs vs fun _ h => h), ?_⟩
      have e' : (match t s1 with
        | some (.ok (.p (.bl true)) M1) => match bm ⟨s1.l, M1⟩ bd with
          | some (acc', M2) => compG (wipeL l vs) gm t bm (ds.drop (i + 1)) acc' M2
          | none => none
        | some (.ok (.p (.bl false)) M1) => compG (wipeL l vs) gm t bm (ds.drop (i + 1)) bd M1
        | _ => none) = some (ad, Mf) := e'
      cases zt : t s1 with
      | none => rw [zt] at e'; cases e'
      | some rt =>
        rw [zt] at e'
        refine ht.ok σ3 H3 s1 Z3 I3 rt _ w3 rs3 zt ?_
        cases rt with
        | ex c fs M4 => cases e'
        | ok d4 M4 =>
          intro b Z5 H5 I5 w4 x4 r4
          cases (show d4 = .p (.bl b) from r4)
          have f4 := f3.step w4 x4
          have sz4 := sz3.trans x4.z
          have si4 := ex_app si3 x4.i
          cases b with
          | false =>
            rw [if_neg Bool.false_ne_true]
            exact ⟨Z5, I5, M4, acc, bd, f4, sz4, si4, e'⟩
          | true =>
            rw [if_pos rfl]
            have e' : (match bm ⟨s1.l, M4⟩ bd with
              | some (acc', M2) => compG (wipeL l vs) gm t bm (ds.drop (i + 1)) acc' M2
              | none => none) = some (ad, Mf) := e'
            cases zb : bm ⟨s1.l, M4⟩ bd with
            | none => rw [zb] at e'; cases e'
            | some am =>
              obtain ⟨ad1, M5⟩ := am
              rw [zb] at e'
              exact hb Z1 H1 I1 D hD σ3 s1.l Z5 H5 I5 M4 acc bd ad1 M5 _ (rs3.mono x4) f4 zb fun Z6 H6 I6 acc6 f6 sz6 si6 => ⟨Z6, I6, M5, acc6, ad1, f6, sz4.trans sz6, ex_app si4 si6, e'⟩
  · left
    have e0 : ds.drop i = [] := List.drop_eq_nil_of_le (by omega)
    rw [e0] at e'
    cases e'
    exact ⟨Jo.2 (by omega), k Z' H' I' acc f sz si⟩
def putB (ek ev : EM) : BM := fun s acc => match ek s with
  | some (.ok (.p k) M2) => match keyT k with
    | some kk => match ev ⟨s.l, M2⟩ with
      | some (.ok (.p v) M3) => if acc.length < 1000000 then some (putO acc kk v, M3) else none
      | _ => none
    | none => none
  | _ => none
theorem sb_put {tk tv : TE} {ek ev : EM} (hk : Sound K WF (RepV K) tk ek) (hv : Sound K WF (RepV K) tv ev) : SoundB K (tbPut tk tv) (putB ek ev) := by
  intro Z1 H1 I1 D hD σ l Z H I M acc bd ad Mf Nx rs f e k
  unfold putB at e
  cases z1 : ek ⟨l, M⟩ with
  | none => simp only [z1] at e; cases e
  | some r1 =>
    refine hk.ok σ H ⟨l, M⟩ Z I r1 _ f.w rs z1 ?_
    cases r1 with
    | ex c fs M2 => simp only [z1] at e; cases e
    | ok d1 M2 =>
      intro y Z2 H2 I2 w2 x2 q2
      have f2 := f.step w2 x2
      cases d1 with
      | o n => simp only [z1] at e; cases e
      | p d1 =>
        simp only [z1] at e
        cases z2 : keyT d1 with
        | none => simp only [z2] at e; cases e
        | some kk =>
          simp only [z2] at e
          cases z3 : ev ⟨l, M2⟩ with
          | none => simp only [z3] at e; cases e
          | some r3 =>
            refine hv.ok σ H2 ⟨l, M2⟩ Z2 I2 r3 _ w2 (rs.mono x2) z3 ?_
            cases r3 with
            | ex c fs M3 => simp only [z3] at e; cases e
            | ok d3 M3 =>
              intro v Z3 H3 I3 w3 x3 q3
              have f3 := f2.step w3 x3
              cases d3 with
              | o n => simp only [z3] at e; cases e
              | p d3 =>
                simp only [z3] at e
                split at e
                · rename_i hl
                  cases e
                  obtain ⟨b, rfl, hb⟩ := keyT_rep (Rep.mono x3.z (show Rep K Z2 y d1 from q2)) z2
                  refine ⟨acc, kk, b, rfl, f3.at_, w3.sub _ _ hb, ?_, k Z3 _ I3 _ (f3.put hD q3 kk) (x2.z.trans x3.z) (ex_app x2.i x3.i)⟩
                  have := paired_len f.r
                  rw [List.length_map] at this
                  rw [this]; exact size_lt (Nat.le_of_lt hl)
                · cases e
def inB (it1 : IM) (vs1 : List Nat) (g1 : GM) (t1 : EM) (bm : BM) : BM := fun s acc => match it1 s with
  | some (.ok ds1 M2) => compG (wipeL s.l vs1) g1 t1 bm ds1 acc M2
  | _ => none
theorem sb_in {wi1 : TI} {g1 : TG} {tt1 : TT} {tk tv : TE} {vs1 ix1 : List Nat} {it1 : IM} {gm1 : GM} {t1 : EM} {bm : BM} (hi1 : Sound K WF (ItOk K) wi1 it1) (hg1 : HG K g1 gm1 ix1) (hix1 : ∀ i ∈ ix1, i ∈ vs1) (ht1 : Sound K WF RepB tt1 t1) (hb : SoundB K (tbPut tk tv) bm) :
    SoundB K (tbIn wi1 g1 tt1 tk tv vs1) (inB it1 vs1 gm1 t1 bm) := by
  intro Z1 H1 I1 D hD σ l Z H I M acc bd ad Mf Nx rs f e k
  unfold inB at e
  cases z1 : it1 ⟨l, M⟩ with
  | none => simp only [z1] at e; cases e
  | some r1 =>
    refine hi1.ok σ H ⟨l, M⟩ Z I r1 _ f.w rs z1 ?_
    cases r1 with
    | ex c fs M2 => simp only [z1] at e; cases e
    | ok ds1 M2 =>
      intro J1 Z2 H2 I2 w2 x2 q2
      have f2 := f.step w2 x2
      simp only [z1] at e
      exact gloop_ok hg1 hix1 ht1 hb hD q2 (rs.mono x2) f2 e fun Z' H' I' acc' f' sz' si' => k Z' H' I' acc' f' (x2.z.trans sz') (ex_app x2.i si')
def mDc (it : IM) (vs : List Nat) (g : GM) (t : EM) (bm : BM) : EM := bnd it fun ds s => match compG (wipeL s.l vs) g t bm ds [] s.m with
  | some (acc, M) => some (.ok (.o M.length) (M ++ [.dT (acc.map fun p => (p.1, .p p.2))]))
  | none => none
theorem FillT.own {Z1 H1 Z H : Hp} {I1 I : List Addr} {D : Addr} {M : List O} {acc : List (List Key × V)} {ad : List (List Key × DL.D)} (f : FillT K Z1 H1 I1 D Z H I M acc ad) (h0 : H1 D = none) :
    Wf K Z H (I ++ [D]) (M ++ [.dT (ad.map fun p => (p.1, .p p.2))]) ∧ Ext Z1 H1 I1 Z H (I ++ [D]) := by
  have x0 : Ext Z H I Z H (I ++ [D]) ∨ True := .inr trivial
  have mono : ∀ {v : V} {d : DV}, RepV K Z I v d → RepV K Z (I ++ [D]) v d := fun {v d} h => h.mono2 (Same.refl _) ⟨[D], rfl⟩
  refine ⟨⟨f.w.sub, by rw [List.length_append, List.length_append, f.w.len]; rfl, ?_, fun a m => ?_, fun n a o h1 h2 h3 => ?_⟩, ⟨f.x.z, ?_, f.x.fr, fun a m => ?_, f.x.zn, f.x.tr⟩⟩
  · refine List.nodup_append.mpr ⟨f.w.nd, by simp, fun a ha b hb => ?_⟩
    rw [List.mem_singleton.mp hb]
    intro e
    exact f.ni (by rw [← e]; exact ha)
  · rcases List.mem_append.mp m with k | k
    · exact f.w.tr a k
    · rw [List.mem_singleton.mp k, f.at_]; simp
  · by_cases hn : n < I.length
    · rw [List.getElem?_append_left hn] at h1
      rw [List.getElem?_append_left (by rw [← f.w.len]; exact hn)] at h2
      obtain ⟨q1, q2⟩ := f.w.ob n a o h1 h2 h3
      refine ⟨q1, ?_⟩
      cases o with
      | lst ds => obtain ⟨xs, g1, g2⟩ := q2; exact ⟨xs, g1, paired_imp (fun _ _ h => mono h) g2⟩
      | dK ds => obtain ⟨xs, g1, g2⟩ := q2; exact ⟨xs, g1, paired_imp (fun _ _ h => ⟨h.1, mono h.2⟩) g2⟩
      | dT ds => obtain ⟨xs, g1, g2⟩ := q2; exact ⟨xs, g1, paired_imp (fun _ _ h => ⟨h.1, mono h.2⟩) g2⟩
      | ins C fs => obtain ⟨dx, xs, g1, g2⟩ := q2; exact ⟨dx, xs, g1, paired_imp (fun _ _ h => ⟨h.1, mono h.2⟩) g2⟩
      | tbl P q => exact q2
      | gone => trivial
    · have e1 : n = I.length := by
        have := (List.getElem?_eq_some_iff.mp h1).1
        rw [List.length_append, List.length_singleton] at this
        omega
      subst e1
      rw [List.getElem?_append_right (Nat.le_refl _), Nat.sub_self] at h1
      rw [List.getElem?_append_right (by rw [f.w.len]; exact Nat.le_refl _), f.w.len, Nat.sub_self] at h2
      cases h1
      cases h2
      exact ⟨f.nz, acc, f.at_, paired_imp (fun _ _ h => ⟨h.1, mono h.2⟩) f.r⟩
  · obtain ⟨t, e⟩ := f.x.i
    exact ⟨t ++ [D], by rw [e, List.append_assoc]⟩
  · rcases List.mem_append.mp m with k | k
    · exact f.x.nw a k
    · rw [List.mem_singleton.mp k]; exact .inr h0
theorem so_dc {wi : TI} {g : TG} {tt : TT} {tb : Addr → St → Hp → (Hp → Prop) → Prop} {bm : BM} {vs ix : List Nat} {it : IM} {gm : GM} {t : EM} (hi : Sound K W (ItOk K) wi it) (hg : HG K g gm ix) (hix : ∀ i ∈ ix, i ∈ vs) (ht : Sound K WF RepB tt t) (hb : SoundB K tb bm) :
    Sound K W (RepV K) (tDcG wi g tt tb vs) (mDc it vs gm t bm) := ⟨fun σ H s Z I r Q w rs e p => by
  refine hi.bnd w rs e p.x fun ds J M1 Z1 H1 I1 w1 rs1 x1 q1 e1 => ?_
  have e1 : (match compG (wipeL s.l vs) gm t bm ds [] M1 with | some (acc, M) => some (Rs.ok (DV.o M.length) (M ++ [O.dT (acc.map fun p => (p.1, .p p.2))])) | none => none) = some r := e1
  cases zc : compG (wipeL s.l vs) gm t bm ds [] M1 with
  | none => rw [zc] at e1; cases e1
  | some am =>
    obtain ⟨ad, Mf⟩ := am
    rw [zc] at e1
    cases e1
    intro D hD
    have f0 : FillT K Z1 H1 I1 D Z1 (upd H1 D (.dT [])) I1 M1 [] [] := by
      refine ⟨⟨fun a u q => by rw [upd_ne (ne_of_none (w1.sub a u q) hD)]; exact w1.sub a u q, w1.len, w1.nd, fun a m => by rw [upd_ne (fun q => w1.tr a m (by rw [q]; exact hD))]; exact w1.tr a m, fun n a o h1 h2 h3 => ?_⟩, ⟨Same.refl _, ⟨[], by simp⟩, fun a o q _ => by rw [upd_ne (ne_of_none q hD)]; exact q, fun _ m => .inl m, fun _ m => .inl m, fun a q => by rw [upd_ne (fun y => q (by rw [y]; exact hD))]; exact q⟩, upd_same, none_of w1.sub hD, fun m => w1.tr D m hD, .nil⟩
      obtain ⟨q1, q2⟩ := w1.ob n a o h1 h2 h3
      exact ⟨q1, q2.mono (Same.refl _) (upd_ne fun q => w1.tr a (List.mem_of_getElem? h1) (by rw [q]; exact hD))⟩
    refine gloop_ok hg hix ht hb hD q1 rs1 f0 zc fun Z' H' I' acc' f' _ _ => ?_
    obtain ⟨w', x'⟩ := f'.own hD
    exact p _ _ H' _ w' (x1.trans x') ⟨D, by rw [← f'.w.len, List.getElem?_append_right (Nat.le_refl _), Nat.sub_self]; rfl, rfl⟩⟩
section
variable {kx vx tg iter tg1 iter1 : Expr} {ifs ifs1 : List Expr} {scope : Scope} {own : List (Str × Nat)} {pos : Pos} {wi wi1 : TI} {g g1 : TG} {tt tt1 : TT} {tk tv : TE} {it it1 : IM} {gm gm1 : GM} {ix ix1 : List Nat} {t t1 ek ev : EM}
abbrev inBlkD (X : Cx) (scope : Scope) (p : Cx → Prop) : Prop := ∀ (s : Shared) (H : Hp) (C : Addr) (cl : List (Str × Addr)) (fp : List Addr), p (X.blk s H scope (compEnvC scope cl C X.env) fp)
end
@[simp] theorem e_dc (it : IM) (vs : List Nat) (g : GM) (t : EM) (bm : BM) (s : S) : mDc it vs g t bm s = (bnd it fun ds s => match compG (wipeL s.l vs) g t bm ds [] s.m with | some (acc, M) => some (.ok (.o M.length) (M ++ [.dT (acc.map fun p => (p.1, .p p.2))])) | none => none) s := rfl
end
end DL
namespace DL
open PySem L2
section
variable {K : PySem.W.Frag} {X : Cx} {W : WX} {a b c : Expr} {pos : Pos}
/-! ### a, b, c = x, y, z -/
def sPar3 (i j l : Nat) (ms : AM) : SM := liftS ms fun ds s => match ds with
  | [d, e, f] => some (.nx, ⟨((s.l.set i (some d)).set j (some e)).set l (some f), s.m⟩)
  | _ => none
theorem ds_par3 {i j l : Nat} {x y z : Str} {ta : TA} {ms : AM} {px py pz pt : Pos} {kt k2} {pt2 : Pos} (hc : X.calm = true) (hN : X.N.Nodup) (ha : DA K X W [a, b, c] ta ms) (hi : X.N[i]? = some x := by rfl) (hj : X.N[j]? = some y := by rfl) (hl : X.N[l]? = some z := by rfl)
    (hij : i ≠ j := by decide) (hil : i ≠ l := by decide) (hjl : j ≠ l := by decide)
    (hx : X.env.scope.names.lookup x = some .local := by rfl) (hy : X.env.scope.names.lookup y = some .local := by rfl) (hz : X.env.scope.names.lookup z = some .local := by rfl)
    (hw : swappedStores [.Tuple [.Name x px, .Name y py, .Name z pz] kt pt] (.Tuple [a, b, c] k2 pt2) X.env = pure (some [x, y, z]) := by rfl)
    (hs : swapsWithSole [.Tuple [.Name x px, .Name y py, .Name z pz] kt pt] (.Tuple [a, b, c] k2 pt2) pos.line X.env = pure false := by rfl) :
    DS K X W (.Assign [.Tuple [.Name x px, .Name y py, .Name z pz] kt pt] (.Tuple [a, b, c] k2 pt2) pos) (tPar3 i j l ta) (sPar3 i j l ms) :=
  ⟨ha.k, ps_par3 hc hN hi hj hl hij hil hjl hx hy hz ha.pa hw hs, ⟨fun σ H s Z I r D w rs e p => by
  refine ha.so.lift w rs e p fun ds vs M1 Z1 H1 I1 w1 rs1 x1 q1 e1 p1 => ?_
  cases q1 with
  | nil => cases e1
  | cons r1 q1 =>
  cases q1 with
  | nil => cases e1
  | cons r2 q1 =>
  cases q1 with
  | nil => cases e1
  | cons r3 q1 =>
  cases q1 with
  | nil =>
    cases e1
    exact ⟨_, _, _, rfl, p1 _ Z1 H1 I1 w1 (((rs1.set r1 i).set r2 j).set r3 l) Ext.refl⟩
  | cons r4 q1 => cases e1⟩⟩
@[simp] theorem e_par3 (i j l : Nat) (ms : AM) (s : S) : sPar3 i j l ms s = (liftS ms fun ds s => match ds with | [d, e, f] => some (.nx, ⟨((s.l.set i (some d)).set j (some e)).set l (some f), s.m⟩) | _ => none) s := rfl
end
section
variable {K : PySem.W.Frag} {X : Cx} {W : WX}
variable {kx vx tg iter tg1 iter1 : Expr} {ifs ifs1 : List Expr} {scope : Scope} {own : List (Str × Nat)} {pos : Pos} {wi wi1 : TI} {g g1 : TG} {tt tt1 : TT} {tk tv : TE} {it it1 : IM} {gm gm1 : GM} {ix ix1 : List Nat} {t t1 ek ev : EM}
/-! ### x = {..} -/
theorem ds_setDc2 {i : Nat} {vs vs1 : List Nat} {y : Str} {py spos : Pos} (hu : X.A.units + 2 < cLine) (hN : X.N.Nodup) (hc : X.calm = true) (hi : DI K X W tg iter wi it) (ok : BlkOk X.N X.env.scope scope own) (hg : inBlkD X scope fun Y => DG K Y tg g gm ix) (ht : inBlkD X scope fun Y => DPT K Y ifs tt t)
    (hi1 : inBlkD X scope fun Y => DI K Y WF tg1 iter1 wi1 it1) (hg1 : inBlkD X scope fun Y => DG K Y tg1 g1 gm1 ix1) (ht1 : inBlkD X scope fun Y => DPT K Y ifs1 tt1 t1)
    (hk : inBlkD X scope fun Y => DE K Y WF kx tk ek) (hv : inBlkD X scope fun Y => DE K Y WF vx tv ev) (hy : X.N[i]? = some y := by rfl) (hyl : X.env.scope.names.lookup y = some .local := by rfl)
    (hsw : swapsWith (.DictComp kx vx [⟨tg, iter, ifs, 0⟩, ⟨tg1, iter1, ifs1, 0⟩] scope pos) (some (.Name y py)) spos.line X.env = pure true := by exact sw_trueD rfl rfl rfl (by decide +kernel))
    (hix : ∀ i ∈ ix, i ∈ own.map (·.2) := by decide) (hix1 : ∀ i ∈ ix1, i ∈ vs1 := by decide) (hv1 : ∀ i ∈ vs1, i ∈ own.map (·.2) := by decide)
    (hs : ∀ x, foldedSetIterable iter X.env x = pure x := by intro _; rfl) (hs1 : ∀ env x, foldedSetIterable iter1 env x = pure x := by intro _ _; rfl) (hvs : own.map (·.2) = vs := by rfl) :
    DS K X W (.Assign [.Name y py] (.DictComp kx vx [⟨tg, iter, ifs, 0⟩, ⟨tg1, iter1, ifs1, 0⟩] scope pos) spos) (tAsg (tDcG wi g tt (tbIn wi1 g1 tt1 tk tv vs1) vs) (gName i)) (sAsg (mDc it vs gm t (inB it1 vs1 gm1 t1 (putB ek ev))) (gN i)) := by
  subst hvs
  exact ⟨hi.k, ps_setDc2 hu hc hN hy hyl hsw hi.pi ok hv1 (fun s H C cl fp => (hg s H C cl fp).pg) (fun s H C cl fp => (ht s H C cl fp).pt) (fun s H C cl fp => (hi1 s H C cl fp).pi) (fun s H C cl fp => (hg1 s H C cl fp).pg) (fun s H C cl fp => (ht1 s H C cl fp).pt) (fun s H C cl fp => (hk s H C cl fp).pe) (fun s H C cl fp => (hv s H C cl fp).pe) hs hs1,
    so_asg (so_dc hi.so (hg {} (fun _ => none) 0 [] []).ok hix (ht {} (fun _ => none) 0 [] []).so (sb_in (hi1 {} (fun _ => none) 0 [] []).so (hg1 {} (fun _ => none) 0 [] []).ok hix1 (ht1 {} (fun _ => none) 0 [] []).so (sb_put (hk {} (fun _ => none) 0 [] []).so (hv {} (fun _ => none) 0 [] []).so))) (dg_name hN hi.k hy (.inl hyl) (.inr hyl) : DG K X (.Name y py) _ _ _)⟩
end
end DL
namespace DL
open PySem L2
section
variable {K : PySem.W.Frag} {X : Cx} {W : WX}
theorem paired_erase {α β : Type} {F : α → β → Prop} : ∀ {xs : List α} {ys : List β} (k : Nat), Paired F xs ys → Paired F (xs.eraseIdx k) (ys.eraseIdx k)
  | _, _, _, .nil => .nil
  | _, _, 0, .cons _ r => r
  | _, _, k + 1, .cons h r => .cons h (paired_erase k r)
/-! ### l.pop(i), any i -/
def gPopI : MtG := fun d ds s => match d, ds with
  | .o n, [.p (.int i)] => match s.m[n]? with
    | some (.lst xs) => match ixN xs.length i with
      | some k => match xs[k]? with
        | some x => if xs.length ≤ 1000000 then some (.ok x (s.m.set n (.lst (xs.eraseIdx k)))) else none
        | none => none
      | none => none
    | _ => none
  | _, _ => none
theorem md_popI : MthD K X "list.pop" rPopAt gPopI := ⟨fun _ => mt_popAt, fun W σ x d vs ds Z H I s r0 Q w hx hv e p => by
  unfold gPopI at e
  split at e
  · rename_i n i
    obtain ⟨a, ha, rfl⟩ := hx
    cases hv with
    | cons h1 h2 =>
    cases h2
    have h1 : Rep K Z _ (.int i) := h1
    cases h1
    split at e
    · rename_i xs hm
      split at e
      · rename_i k hk
        split at e
        · rename_i y hy
          split at e
          · rename_i hl
            cases e
            obtain ⟨_, ys, g1, g2⟩ := w.ob n a _ ha hm (by intro z; cases z)
            obtain ⟨q1, q2, q3, q4⟩ := ixN_seq hk
            obtain ⟨u, hu, hr⟩ := paired_get g2 hy
            have len := paired_len g2
            refine ⟨a, ys, i, k, u, rfl, rfl, g1, by omega, by omega, by rw [len]; exact q1, hu, ?_⟩
            have ex := ext_set (Z := Z) (H := H) (ho := .lst (ys.eraseIdx k)) (I := I) (List.mem_of_getElem? ha)
            exact p u Z _ I (w.setO ha hm (by intro z; cases z) ⟨_, upd_same, paired_erase k g2⟩) ex (RepV.mono ex hr)
          · cases e
        · cases e
      · cases e
    · cases e
  · cases e⟩
@[simp] theorem e_popI (n : Nat) (i : Int) (s : S) : gPopI (.o n) [.p (.int i)] s = (match s.m[n]? with
    | some (.lst xs) => match ixN xs.length i with
      | some k => match xs[k]? with
        | some x => if xs.length ≤ 1000000 then some (.ok x (s.m.set n (.lst (xs.eraseIdx k)))) else none
        | none => none
      | none => none
    | _ => none) := rfl
end
end DL
namespace Law
open PySem L2 DL
def topS (i : Nat) : Stmt := PySem.Challenge.pw_labelgrid_k73_merging_two_books.main.body.getD i (.Pass ⟨0, 0, 0, 0⟩)
def lamNms : List Str := [lamq (PySem.Str.ofString "_law_spots")]
noncomputable def b_l_done_3 : SM := (sRet (disp .tup (aCons (mC (.str (PySem.Str.ofString "book"))) (aCons (mVar 2) (aCons (mFrzD (mVar 3)) (aCons (mFrzD (mVar 4)) (aCons (mFrz (mVar 5)) (aCons (mFrz (mVar 6)) aNil))))))))
noncomputable def b_l_done_2 : SM := (sSeq (sIf (mBin dEq (mIx (mVar 1) (mC (.int 0))) (mC (.str (PySem.Str.ofString "cell")))) (sIf (mBin dEq (mIx (mVar 1) (mC (.int 2))) (mC (.str (PySem.Str.ofString "")))) (sSeq (sExpr (mDpop (mVar 3) (mIx (mVar 1) (mC (.int 1)))))
  (sExpr (mDpop (mVar 4) (mIx (mVar 1) (mC (.int 1)))))) (sSeq (sPut (mIx (mVar 1) (mC (.int 2))) (mVar 3) (mIx (mVar 1) (mC (.int 1))))
  (sPut (mIx (mVar 1) (mC (.int 3))) (mVar 4) (mIx (mVar 1) (mC (.int 1)))))) (sIf (mBin dEq (mIx (mVar 1) (mC (.int 0))) (mC (.str (PySem.Str.ofString "rule")))) (sAsg (mCatO (mCatO (mSlO (mVar 5) pNone (pSome (mIx (mVar 1) (mC (.int 1))))) (disp .lst (aCons (mIx (mVar 1) (mC (.int 2))) aNil))) (mSlO (mVar 5) (pSome (mBin dAdd (mIx (mVar 1) (mC (.int 1))) (mC (.int 1)))) pNone)) (gN 5)) (sIf (mBin dEq (mIx (mVar 1) (mC (.int 0))) (mC (.str (PySem.Str.ofString "unrule")))) (sExpr (mMth "list" gPopI (mVar 5) (aCons (mIx (mVar 1) (mC (.int 1))) aNil))) (sIf (mBin dEq (mIx (mVar 1) (mC (.int 0))) (mC (.str (PySem.Str.ofString "grant")))) (sExpr (mMth "list" gApp (mVar 6) (aCons (mIx (mVar 1) (mC (.int 1))) aNil))) (sAsg (mBin dCatT (mSlT (mIx (mVar 6) (mIx (mVar 1) (mC (.int 1)))) pNone (pSome (mC (.int 4)))) (disp .tup (aCons (mIx (mVar 1) (mC (.int 2))) aNil))) (gSet (mVar 6) (mIx (mVar 1) (mC (.int 1))))))))) b_l_done_3)
noncomputable def b_l_done_1 : SM := (sSeq (sUnp (aCons (mCBO gDict (aCons (mVar 3) aNil)) (aCons (mCBO gDict (aCons (mVar 4) aNil)) (aCons (mCBO gList (aCons (mVar 5) aNil)) (aCons (mCBO gList (aCons (mVar 6) aNil)) aNil)))) 4 (gsCons (gN 3) (gsCons (gN 4) (gsCons (gN 5) (gsCons (gN 6) gsNil))))) b_l_done_2)
noncomputable def b_l_done : SM := (sSeq (sAsg (mSlT (mVar 0) (pSome (mC (.int 1))) pNone) (gT 5 (gsCons (gN 2) (gsCons (gN 3) (gsCons (gN 4) (gsCons (gN 5) (gsCons (gN 6) gsNil))))))) b_l_done_1)
noncomputable def m_l_done : MA := runA 7 b_l_done
noncomputable def b_l_take : SM := (sSeq (sIf (mBin dLt (mVar 1) (mC (.int 1))) (sRet (mC (.int 0))) sNil)
  (sSeq (sAsg (mIx (mVar 0) (mC (.int 1))) (gN 2))
  (sSeq (sAsg (mBin dMod (mIx (mVar 0) (mC (.int 0))) (mCB dLen (aCons (mVar 2) aNil))) (gN 3))
  (sSeq (sAsg (mIx (mVar 2) (mVar 3)) (gN 4))
  (sSeq (sIf (mBin dGe (mVar 4) (mC (.int 1000000000000000000))) (sSeq (sAsg (mBin dDiv (mVar 4) (mVar 1)) (gSet (mVar 2) (mVar 3)))
  (sRet (mBin dMod (mVar 4) (mVar 1)))) sNil)
  (sSeq (sAsg (mBin dAdd (mIx (mVar 0) (mC (.int 0))) (mC (.int 1))) (gSet (mVar 0) (mC (.int 0))))
  (sSeq (sAsg (mBin dMod (mCB (g1 dInt) (aCons (mBin dAdd (mBin dMul (mVar 4) (mC (.int 48271))) (mBin dMul (mIx (mVar 0) (mC (.int 0))) (mC (.int 69621)))) aNil)) (mC (.int 2147483647))) (gN 5))
  (sSeq (sAsg (mBin dMod (mCB (g1 dInt) (aCons (mBin dAdd (mBin dMul (mVar 5) (mC (.int 16807))) (mBin dMul (mIx (mVar 0) (mC (.int 0))) (mC (.int 7919)))) aNil)) (mC (.int 1000000007))) (gN 5))
  (sRet (mBin dMod (mBin dDiv (mVar 5) (mC (.int 7))) (mVar 1)))))))))))
noncomputable def m_l_take : List DV → List O → Option (Rs DV) := runB 6 b_l_take
noncomputable def b_l_some : SM := (sRet (mLc (mRng rng1D (aCons (mVar 1) aNil)) [2] (gN 2) (mBin dEq (mCallB 2 m_l_take (aCons (mVar 0) (aCons (mC (.int 2)) aNil))) (mC (.int 0))) (mVar 2)))
noncomputable def m_l_some : List DV → List O → Option (Rs DV) := runB 3 b_l_some
noncomputable def b_l_grant : SM := (sSeq (sAsg (mIx (disp .lst (aCons (disp .tup (aCons (disp .tup (aCons (mC (.int 0)) (aCons (mC (.int 0)) aNil))) (aCons (disp .tup (aCons (mC (.int 1)) (aCons (mC (.int 1)) aNil))) aNil))) (aCons (disp .tup (aCons (disp .tup (aCons (mC (.int 0)) (aCons (mC (.int 0)) aNil))) (aCons (disp .tup (aCons (mC (.int 0)) (aCons (mC (.int 0)) aNil))) aNil))) (aCons (disp .tup (aCons (disp .tup (aCons (mC (.int 3)) (aCons (mC (.int 3)) aNil))) (aCons (disp .tup (aCons (mC (.int 25)) (aCons (mC (.int 98)) aNil))) aNil))) aNil)))) (mCallB 2 m_l_take (aCons (mVar 0) (aCons (mC (.int 3)) aNil)))) (gN 2))
  (sSeq (sAsg (mIx (disp .lst (aCons (disp .lst (aCons (mC (.str (PySem.Str.ofString "RSUM"))) aNil)) (aCons (disp .lst (aCons (mC (.str (PySem.Str.ofString "RAVG"))) (aCons (mC (.str (PySem.Str.ofString "RCOUNT"))) aNil))) (aCons (disp .lst aNil) aNil)))) (mCallB 2 m_l_take (aCons (mVar 0) (aCons (mC (.int 3)) aNil)))) (gN 3))
  (sRet (disp .tup (aCons (mVar 2) (aCons (mVar 3) (aCons (mCallB 2 m_l_some (aCons (mVar 0) (aCons (mVar 1) aNil))) (aCons (mCallB 2 m_l_take (aCons (mVar 0) (aCons (mVar 1) aNil))) (aCons (mC (.bl false)) aNil)))))))))
noncomputable def m_l_grant : List DV → List O → Option (Rs DV) := runB 4 b_l_grant
noncomputable def b_l_rule : SM := (sSeq (sAsg (disp .lst (aCons (disp .tup (aCons (disp .tup (aCons (mC (.int 0)) (aCons (mC (.int 0)) aNil))) (aCons (disp .tup (aCons (mC (.int 1)) (aCons (mC (.int 1)) aNil))) aNil))) (aCons (disp .tup (aCons (disp .tup (aCons (mC (.int 0)) (aCons (mC (.int 0)) aNil))) (aCons (disp .tup (aCons (mC (.int 0)) (aCons (mC (.int 0)) aNil))) aNil))) (aCons (disp .tup (aCons (disp .tup (aCons (mC (.int 3)) (aCons (mC (.int 3)) aNil))) (aCons (disp .tup (aCons (mC (.int 25)) (aCons (mC (.int 98)) aNil))) aNil))) (aCons (disp .tup (aCons (disp .tup (aCons (mC (.int 0)) (aCons (mC (.int 0)) aNil))) (aCons (disp .tup (aCons (mC (.int 25)) (aCons (mC (.int 98)) aNil))) aNil))) aNil))))) (gN 3))
  (sSeq (sAsg (mIx (mVar 3) (mCallB 2 m_l_take (aCons (mVar 0) (aCons (mC (.int 4)) aNil)))) (gN 4))
  (sSeq (sIf (mTru (mVar 2)) (sAsg (mIx (mVar 3) (mC (.int 3))) (gN 4)) sNil)
  (sRet (disp .tup (aCons (mVar 4) (aCons (mCallB 2 m_l_some (aCons (mVar 0) (aCons (mVar 1) aNil))) (aCons (mCallB 2 m_l_some (aCons (mVar 0) (aCons (mVar 1) aNil))) (aCons (mCallB 2 m_l_some (aCons (mVar 0) (aCons (mVar 1) aNil))) aNil)))))))))
noncomputable def m_l_rule : List DV → List O → Option (Rs DV) := runB 5 b_l_rule
noncomputable def b_l_spot : SM := (sRet (mIx (disp .lst (aCons (disp .tup (aCons (mC (.int 0)) (aCons (mC (.int 0)) aNil))) (aCons (disp .tup (aCons (mC (.int 1)) (aCons (mC (.int 0)) aNil))) (aCons (disp .tup (aCons (mC (.int 0)) (aCons (mC (.int 1)) aNil))) (aCons (disp .tup (aCons (mC (.int 9)) (aCons (mC (.int 9)) aNil))) (aCons (disp .tup (aCons (mC (.int 25)) (aCons (mC (.int 98)) aNil))) aNil)))))) (mCallB 2 m_l_take (aCons (mVar 0) (aCons (mC (.int 5)) aNil)))))
noncomputable def m_l_spot : List DV → List O → Option (Rs DV) := runB 1 b_l_spot
noncomputable def b_l_text : SM := (sRet (mIx (disp .lst (aCons (mC (.str (PySem.Str.ofString "1"))) (aCons (mC (.str (PySem.Str.ofString "x"))) (aCons (mC (.str (PySem.Str.ofString "=A1 + 1"))) (aCons (mC (.str (PySem.Str.ofString "TRUE"))) (aCons (mC (.str (PySem.Str.ofString "'"))) (aCons (mC (.str (PySem.Str.ofString "=SUM(A1:B2)"))) (aCons (mC (.str (PySem.Str.ofString "2.5"))) (aCons (mC (.str (PySem.Str.ofString "=B1"))) aNil))))))))) (mCallB 2 m_l_take (aCons (mVar 0) (aCons (mC (.int 8)) aNil)))))
noncomputable def m_l_text : List DV → List O → Option (Rs DV) := runB 1 b_l_text
noncomputable def b_l_edit_8 : SM := (sRet (disp .tup (aCons (mC (.str (PySem.Str.ofString "grant"))) (aCons (mCallB 2 m_l_grant (aCons (mVar 0) (aCons (mVar 2) aNil))) aNil))))
noncomputable def b_l_edit_7 : SM := (sSeq (sIf (mAnd (mBin dEq (mVar 7) (mC (.int 7))) (mBin dGt (mCB dLen (aCons (mVar 6) aNil)) (mC (.int 0)))) (sSeq (sAsg (mCallB 2 m_l_take (aCons (mVar 0) (aCons (mCB dLen (aCons (mVar 6) aNil)) aNil))) (gN 9))
  (sRet (disp .tup (aCons (mC (.str (PySem.Str.ofString "revoke"))) (aCons (mVar 9) (aCons (mNot (mIx (mIx (mVar 6) (mVar 9)) (mC (.int 4)))) aNil)))))) sNil) b_l_edit_8)
noncomputable def b_l_edit_6 : SM := (sSeq (sIf (mAnd (mBin dEq (mVar 7) (mC (.int 6))) (mBin dGt (mCB dLen (aCons (mVar 5) aNil)) (mC (.int 1)))) (sRet (disp .tup (aCons (mC (.str (PySem.Str.ofString "unrule"))) (aCons (mBin dAdd (mC (.int 1)) (mCallB 2 m_l_take (aCons (mVar 0) (aCons (mBin dSub (mCB dLen (aCons (mVar 5) aNil)) (mC (.int 1))) aNil)))) aNil)))) sNil) b_l_edit_7)
noncomputable def b_l_edit_5 : SM := (sSeq (sIf (mBin dEq (mVar 7) (mC (.int 5))) (sSeq (sAsg (mCallB 2 m_l_take (aCons (mVar 0) (aCons (mBin dAdd (mCB dLen (aCons (mVar 5) aNil)) (mC (.int 1))) aNil))) (gN 9))
  (sRet (disp .tup (aCons (mC (.str (PySem.Str.ofString "rule"))) (aCons (mVar 9) (aCons (mCallB 3 m_l_rule (aCons (mVar 0) (aCons (mVar 2) (aCons (mBin dEq (mVar 9) (mC (.int 0))) aNil)))) aNil)))))) sNil) b_l_edit_6)
noncomputable def b_l_edit_4 : SM := (sSeq (sIf (mBin dLt (mVar 7) (mC (.int 5))) (sRet (disp .tup (aCons (mC (.str (PySem.Str.ofString "cell"))) (aCons (mVar 8) (aCons (mCallB 1 m_l_text (aCons (mVar 0) aNil)) (aCons (mCallB 2 m_l_take (aCons (mVar 0) (aCons (mVar 2) aNil))) aNil)))))) sNil) b_l_edit_5)
noncomputable def b_l_edit_3 : SM := (sSeq (sIf (mAnd (mBin dEq (mVar 7) (mC (.int 0))) (mDin false (mVar 8) (mVar 3))) (sRet (disp .tup (aCons (mC (.str (PySem.Str.ofString "cell"))) (aCons (mVar 8) (aCons (mC (.str (PySem.Str.ofString ""))) (aCons (mC .non) aNil)))))) sNil) b_l_edit_4)
noncomputable def b_l_edit_2 : SM := (sSeq (sAsg (mCallB 1 m_l_spot (aCons (mVar 0) aNil)) (gN 8)) b_l_edit_3)
noncomputable def b_l_edit_1 : SM := (sSeq (sAsg (mCallB 2 m_l_take (aCons (mVar 0) (aCons (mC (.int 9)) aNil))) (gN 7)) b_l_edit_2)
noncomputable def b_l_edit : SM := (sSeq (sAsg (mSlT (mVar 1) (pSome (mC (.int 1))) pNone) (gT 5 (gsCons (gN 2) (gsCons (gN 3) (gsCons (gN 4) (gsCons (gN 5) (gsCons (gN 6) gsNil))))))) b_l_edit_1)
noncomputable def m_l_edit : List DV → List O → Option (Rs DV) := runB 10 b_l_edit
noncomputable def b_l_start : SM := (sSeq (sAsg (mLc (mRng rng1D (aCons (mVar 0) aNil)) [2] (gN 2) tYesM (mVar 2)) (gN 1))
  (sRet (disp .tup (aCons (mC (.str (PySem.Str.ofString "book"))) (aCons (mVar 0) (aCons (mFrzD (mDnew (.dT []))) (aCons (mFrzD (mDnew (.dT []))) (aCons (disp .lst (aCons (disp .tup (aCons (disp .tup (aCons (disp .tup (aCons (mC (.int 0)) (aCons (mC (.int 0)) aNil))) (aCons (disp .tup (aCons (mC (.int 25)) (aCons (mC (.int 98)) aNil))) aNil))) (aCons (mVar 1) (aCons (mVar 1) (aCons (mVar 1) aNil))))) aNil)) (aCons (disp .lst aNil) aNil)))))))))
noncomputable def m_l_start : MA := runA 3 b_l_start
noncomputable def b_l_book : SM := (sSeq (sAsg (mCallA 1 m_l_start (aCons (mVar 1) aNil)) (gN 3))
  (sSeq (sFor (mRng rng1D (aCons (mCallB 2 m_l_take (aCons (mVar 0) (aCons (mVar 2) aNil))) aNil)) (gN 4) (sAsg (mCallA 2 m_l_done (aCons (mVar 3) (aCons (mCallB 2 m_l_edit (aCons (mVar 0) (aCons (mVar 3) aNil))) aNil))) (gN 3)))
  (sRet (mVar 3))))
noncomputable def m_l_book : List DV → List O → Option (Rs DV) := runB 5 b_l_book
noncomputable def b_l_entry : SM := (sRet (disp .tup (aCons (mDg2 (mIx (mVar 0) (mC (.int 2))) (mVar 1) (mC (.str (PySem.Str.ofString "")))) (aCons (mDg1 (mIx (mVar 0) (mC (.int 3))) (mVar 1)) aNil))))
noncomputable def m_l_entry : MA := runA 2 b_l_entry
noncomputable def b_l_spots (Ps : List Addr) : SM := (sSeq (sAsg (mDnew (.dT [])) (gN 1))
  (sSeq (sFor (mItD itL (mVar 0)) (gN 2) (sFor (mItD itKD (mIx (mVar 2) (mC (.int 2)))) (gN 3) (sPut (mC (.bl true)) (mVar 1) (mVar 3))))
  (sRet (mSortL 0 (Ps.getD 0 0) (lamq (PySem.Str.ofString "_law_spots")) (lamK 1 (disp .tup (aCons (mIx (mVar 0) (mC (.int 1))) (aCons (mIx (mVar 0) (mC (.int 0))) aNil)))) (mFrzD (mVar 1))))))
noncomputable def m_l_spots (Ps : List Addr) : List DV → List O → Option (Rs DV) := runB 4 (b_l_spots Ps)
noncomputable def b_l_changes (Ps : List Addr) : SM := (sSeq (sAsg (mLcO (mItD itL (mCallB 1 (m_l_spots Ps) (aCons (disp .lst (aCons (mVar 0) (aCons (mVar 1) aNil))) aNil))) [4] (gN 4) (mBin dNe (mCallA 2 m_l_entry (aCons (mVar 0) (aCons (mVar 4) aNil))) (mCallA 2 m_l_entry (aCons (mVar 1) (aCons (mVar 4) aNil)))) (disp .tup (aCons (mC (.str (PySem.Str.ofString "cell"))) (aCons (mVar 4) aNil)))) (gN 2))
  (sSeq (sIf (mBin dNe (mIx (mVar 0) (mC (.int 4))) (mIx (mVar 1) (mC (.int 4)))) (sExpr (mMth "list" gApp (mVar 2) (aCons (disp .tup (aCons (mC (.str (PySem.Str.ofString "rules"))) (aCons (mC .non) aNil))) aNil))) sNil)
  (sSeq (sFor (mRng rng1D (aCons (mCB dLen (aCons (mIx (mVar 1) (mC (.int 5))) aNil)) aNil)) (gN 3) (sIf (mBin dNe (mSlE (mIx (mVar 0) (mC (.int 5))) (pSome (mVar 3)) (pSome (mBin dAdd (mVar 3) (mC (.int 1))))) (mSlE (mIx (mVar 1) (mC (.int 5))) (pSome (mVar 3)) (pSome (mBin dAdd (mVar 3) (mC (.int 1)))))) (sExpr (mMth "list" gApp (mVar 2) (aCons (disp .tup (aCons (mC (.str (PySem.Str.ofString "grant"))) (aCons (mVar 3) aNil))) aNil))) sNil))
  (sRet (mFrz (mVar 2))))))
noncomputable def m_l_changes (Ps : List Addr) : List DV → List O → Option (Rs DV) := runB 5 (b_l_changes Ps)
noncomputable def b_l_merged_11 (Ps : List Addr) : SM := (sRet (disp .tup (aCons (disp .tup (aCons (mC (.str (PySem.Str.ofString "book"))) (aCons (mIx (mVar 0) (mC (.int 1))) (aCons (mFrzD (mVar 3)) (aCons (mFrzD (mVar 4)) (aCons (mVar 11) (aCons (mBin dAdd2 (mFrz (mVar 13)) (mVar 17)) aNil))))))) (aCons (disp .lst aNil) aNil))))
noncomputable def b_l_merged_10 (Ps : List Addr) : SM := (sSeq (sIf (mAnd (mBin dGt (mCB dLen (aCons (mIx (mVar 1) (mC (.int 5))) aNil)) (mVar 12)) (mBin dGt (mCB dLen (aCons (mIx (mVar 2) (mC (.int 5))) aNil)) (mVar 12))) (sAsg (mCB (g1 dSort) (aCons (mVar 17) aNil)) (gN 17)) sNil) (b_l_merged_11 Ps))
noncomputable def b_l_merged_9 (Ps : List Addr) : SM := (sSeq (sAsg (mBin dAdd2 (mSlE (mIx (mVar 1) (mC (.int 5))) (pSome (mVar 12)) pNone) (mSlE (mIx (mVar 2) (mC (.int 5))) (pSome (mVar 12)) pNone)) (gN 17)) (b_l_merged_10 Ps))
noncomputable def b_l_merged_8 (Ps : List Addr) : SM := (sSeq (sFor (mRng rng1D (aCons (mVar 12) aNil)) (gN 14) (sSeq (sAsg (disp .lst (aCons (mIx (mIx (mIx (mVar 1) (mC (.int 5))) (mVar 14)) (mC (.int 4))) (aCons (mIx (mIx (mIx (mVar 2) (mC (.int 5))) (mVar 14)) (mC (.int 4))) aNil))) (gN 15))
  (sSeq (sAsg (mBin dGt (mCB dLen (aCons (mLc (mItD itL (mVar 15)) [18] (gN 18) (mBin dNe (mVar 18) (mIx (mIx (mIx (mVar 0) (mC (.int 5))) (mVar 14)) (mC (.int 4)))) (mVar 18)) aNil)) (mC (.int 0))) (gN 16))
  (sExpr (mMth "list" gApp (mVar 13) (aCons (mBin dCatT (mSlT (mIx (mIx (mVar 0) (mC (.int 5))) (mVar 14)) pNone (pSome (mC (.int 4)))) (disp .tup (aCons (mBin dNe (mIx (mIx (mIx (mVar 0) (mC (.int 5))) (mVar 14)) (mC (.int 4))) (mVar 16)) aNil))) aNil)))))) (b_l_merged_9 Ps))
noncomputable def b_l_merged_7 (Ps : List Addr) : SM := (sSeq (sAsg (dispO aNil) (gN 13)) (b_l_merged_8 Ps))
noncomputable def b_l_merged_6 (Ps : List Addr) : SM := (sSeq (sAsg (mCB dLen (aCons (mIx (mVar 0) (mC (.int 5))) aNil)) (gN 12)) (b_l_merged_7 Ps))
noncomputable def b_l_merged_5 (Ps : List Addr) : SM := (sSeq (sIf (mBin dGt (mCB dLen (aCons (mVar 5) aNil)) (mC (.int 0))) (sRet (disp .tup (aCons (mC .non) (aCons (mFrz (mVar 5)) aNil)))) sNil) (b_l_merged_6 Ps))
noncomputable def b_l_merged_4 (Ps : List Addr) : SM := (sSeq (sIf (mAnd (mBin dNe (mIx (mVar 1) (mC (.int 4))) (mIx (mVar 0) (mC (.int 4)))) (mAnd (mBin dNe (mIx (mVar 2) (mC (.int 4))) (mIx (mVar 0) (mC (.int 4)))) (mBin dNe (mIx (mVar 1) (mC (.int 4))) (mIx (mVar 2) (mC (.int 4)))))) (sExpr (mMth "list" gApp (mVar 5) (aCons (disp .tup (aCons (mC (.str (PySem.Str.ofString "rules"))) (aCons (mC .non) aNil))) aNil))) sNil) (b_l_merged_5 Ps))
noncomputable def b_l_merged_3 (Ps : List Addr) : SM := (sSeq (sIf (mBin dEq (mVar 11) (mIx (mVar 0) (mC (.int 4)))) (sAsg (mIx (mVar 2) (mC (.int 4))) (gN 11)) sNil) (b_l_merged_4 Ps))
noncomputable def b_l_merged_2 (Ps : List Addr) : SM := (sSeq (sAsg (mIx (mVar 1) (mC (.int 4))) (gN 11)) (b_l_merged_3 Ps))
noncomputable def b_l_merged_1 (Ps : List Addr) : SM := (sSeq (sFor (mItD itL (mCallB 1 (m_l_spots Ps) (aCons (disp .lst (aCons (mVar 0) (aCons (mVar 1) (aCons (mVar 2) aNil)))) aNil))) (gN 6) (sSeq (sPar3 7 8 9 (aCons (mCallA 2 m_l_entry (aCons (mVar 0) (aCons (mVar 6) aNil))) (aCons (mCallA 2 m_l_entry (aCons (mVar 1) (aCons (mVar 6) aNil))) (aCons (mCallA 2 m_l_entry (aCons (mVar 2) (aCons (mVar 6) aNil))) aNil))))
  (sSeq (sAsg (mVar 8) (gN 10))
  (sSeq (sIf (mBin dEq (mVar 8) (mVar 7)) (sAsg (mVar 9) (gN 10)) sNil)
  (sSeq (sIf (mAnd (mBin dNe (mVar 8) (mVar 7)) (mAnd (mBin dNe (mVar 9) (mVar 7)) (mBin dNe (mVar 8) (mVar 9)))) (sExpr (mMth "list" gApp (mVar 5) (aCons (disp .tup (aCons (mC (.str (PySem.Str.ofString "cell"))) (aCons (mVar 6) aNil))) aNil))) sNil)
  (sIf (mBin dNe (mIx (mVar 10) (mC (.int 0))) (mC (.str (PySem.Str.ofString "")))) (sSeq (sPut (mIx (mVar 10) (mC (.int 0))) (mVar 3) (mVar 6))
  (sPut (mIx (mVar 10) (mC (.int 1))) (mVar 4) (mVar 6))) sNil)))))) (b_l_merged_2 Ps))
noncomputable def b_l_merged (Ps : List Addr) : SM := (sSeq (sPar3 3 4 5 (aCons (mDnew (.dT [])) (aCons (mDnew (.dT [])) (aCons (dispO aNil) aNil)))) (b_l_merged_1 Ps))
noncomputable def m_l_merged (Ps : List Addr) : List DV → List O → Option (Rs DV) := runB 19 (b_l_merged Ps)
noncomputable def b_l_state : SM := (sSeq (sAsg (mLcO (mItD itL (mSlE (mVar 0) pNone (pSome (mC (.int 63))))) [2] (gN 2) tYesM (mCB (g1 dAbs) (aCons (mVar 2) aNil))) (gN 1))
  (sSeq (sIf (mBin dEq (mCB dLen (aCons (mVar 1) aNil)) (mC (.int 0))) (sAsg (dispO (aCons (mC (.int 0)) aNil)) (gN 1)) sNil)
  (sRet (dispO (aCons (mC (.int 0)) (aCons (mVar 1) aNil))))))
noncomputable def m_l_state : List DV → List O → Option (Rs DV) := runB 3 b_l_state
noncomputable def b_conflict : SM := (sRet (mAnd (mBin dNe (mVar 0) (mVar 1)) (mAnd (mBin dNe (mVar 0) (mVar 2)) (mBin dNe (mVar 1) (mVar 2)))))
noncomputable def m_conflict : MA := runA 3 b_conflict
noncomputable def b_entry_of : SM := (sRet (disp .tup (aCons (mDg2 (mIx (mVar 0) (mC (.int 2))) (mVar 1) (mC (.str (PySem.Str.ofString "")))) (aCons (mDg1 (mIx (mVar 0) (mC (.int 3))) (mVar 1)) aNil))))
noncomputable def m_entry_of : MA := runA 2 b_entry_of
noncomputable def b_entries_conflict : SM := (sRet (mCallA 3 m_conflict (aCons (mCallA 2 m_entry_of (aCons (mVar 0) (aCons (mVar 3) aNil))) (aCons (mCallA 2 m_entry_of (aCons (mVar 1) (aCons (mVar 3) aNil))) (aCons (mCallA 2 m_entry_of (aCons (mVar 2) (aCons (mVar 3) aNil))) aNil)))))
noncomputable def m_entries_conflict : MA := runA 4 b_entries_conflict
noncomputable def b_taken : SM := (sRet (mIf (mBin dEq (mVar 1) (mVar 0)) (mVar 2) (mVar 1)))
noncomputable def m_taken : MA := runA 3 b_taken
noncomputable def b_grant_copy : SM := (sSeq (sAsg (mVar 0) (gT 5 (gsCons (gN 1) (gsCons (gN 2) (gsCons (gN 3) (gsCons (gN 4) (gsCons (gN 5) gsNil)))))))
  (sRet (disp .tup (aCons (mVar 1) (aCons (mCB (g1 dList) (aCons (mVar 2) aNil)) (aCons (mCB (g1 dList) (aCons (mVar 3) aNil)) (aCons (mVar 4) (aCons (mVar 5) aNil))))))))
noncomputable def m_grant_copy : MA := runA 6 b_grant_copy
noncomputable def b_merged_grants : SM := (sSeq (sAsg (dispO aNil) (gN 3))
  (sSeq (sFor (mEnum (aCons (mVar 0) aNil)) (gT 2 (gsCons (gN 4) (gsCons (gN 5) gsNil))) (sSeq (sAsg (mCallA 1 m_grant_copy (aCons (mVar 5) aNil)) (gT 5 (gsCons (gN 6) (gsCons (gN 7) (gsCons (gN 8) (gsCons (gN 9) (gsCons (gN 10) gsNil)))))))
  (sExpr (mMth "list" gApp (mVar 3) (aCons (disp .tup (aCons (mVar 6) (aCons (mVar 7) (aCons (mVar 8) (aCons (mVar 9) (aCons (mCallA 3 m_taken (aCons (mVar 10) (aCons (mIx (mIx (mVar 1) (mVar 4)) (mC (.int 4))) (aCons (mIx (mIx (mVar 2) (mVar 4)) (mC (.int 4))) aNil)))) aNil)))))) aNil)))))
  (sSeq (sAsg (mBin dAdd2 (mSlE (mVar 1) (pSome (mCB dLen (aCons (mVar 0) aNil))) pNone) (mSlE (mVar 2) (pSome (mCB dLen (aCons (mVar 0) aNil))) pNone)) (gN 11))
  (sSeq (sIf (mAnd (mBin dGt (mCB dLen (aCons (mVar 1) aNil)) (mCB dLen (aCons (mVar 0) aNil))) (mBin dGt (mCB dLen (aCons (mVar 2) aNil)) (mCB dLen (aCons (mVar 0) aNil)))) (sAsg (mCB (g1 dSort) (aCons (mVar 11) aNil)) (gN 11)) sNil)
  (sRet (mBin dAdd2 (mFrz (mVar 3)) (mLc (mItD itL (mVar 11)) [5] (gN 5) tYesM (mCallA 1 m_grant_copy (aCons (mVar 5) aNil)))))))))
noncomputable def m_merged_grants : MA := runA 12 b_merged_grants
noncomputable def b_place_key : SM := (sRet (disp .tup (aCons (mIx (mVar 0) (mC (.int 1))) (aCons (mIx (mVar 0) (mC (.int 0))) aNil))))
noncomputable def m_place_key : MA := runA 1 b_place_key
noncomputable def b_addresses_in : SM := (sSeq (sAsg (mDc (mItD itL (mVar 0)) [2, 3] (gN 2) tYesM (inB (mItD itKD (mIx (mVar 2) (mC (.int 2)))) [3] (gN 3) tYesM (putB (mVar 3) (mC (.bl true))))) (gN 1))
  (sRet (mSortK m_place_key (mFrzD (mVar 1)))))
noncomputable def m_addresses_in : MA := runA 4 b_addresses_in
noncomputable def b_rule_copy : SM := (sSeq (sAsg (mVar 0) (gT 4 (gsCons (gN 1) (gsCons (gN 2) (gsCons (gN 3) (gsCons (gN 4) gsNil))))))
  (sRet (disp .tup (aCons (mVar 1) (aCons (mCB (g1 dList) (aCons (mVar 2) aNil)) (aCons (mCB (g1 dList) (aCons (mVar 3) aNil)) (aCons (mCB (g1 dList) (aCons (mVar 4) aNil)) aNil)))))))
noncomputable def m_rule_copy : MA := runA 5 b_rule_copy
noncomputable def b_merged_8 : SM := (sRet (disp .tup (aCons (disp .tup (aCons (mC (.str (PySem.Str.ofString "book"))) (aCons (mIx (mVar 0) (mC (.int 1))) (aCons (mFrzD (mVar 5)) (aCons (mFrzD (mVar 6)) (aCons (mVar 10) (aCons (mCallA 3 m_merged_grants (aCons (mIx (mVar 0) (mC (.int 5))) (aCons (mIx (mVar 1) (mC (.int 5))) (aCons (mIx (mVar 2) (mC (.int 5))) aNil)))) aNil))))))) (aCons (disp .lst aNil) aNil))))
noncomputable def b_merged_7 : SM := (sSeq (sAsg (mLc (mItD itL (mCallA 3 m_taken (aCons (mIx (mVar 0) (mC (.int 4))) (aCons (mIx (mVar 1) (mC (.int 4))) (aCons (mIx (mVar 2) (mC (.int 4))) aNil))))) [11] (gN 11) tYesM (mCallA 1 m_rule_copy (aCons (mVar 11) aNil))) (gN 10)) b_merged_8)
noncomputable def b_merged_6 : SM := (sSeq (sFor (mItD itL (mVar 3)) (gN 7) (sSeq (sAsg (mCallA 3 m_taken (aCons (mCallA 2 m_entry_of (aCons (mVar 0) (aCons (mVar 7) aNil))) (aCons (mCallA 2 m_entry_of (aCons (mVar 1) (aCons (mVar 7) aNil))) (aCons (mCallA 2 m_entry_of (aCons (mVar 2) (aCons (mVar 7) aNil))) aNil)))) (gT 2 (gsCons (gN 8) (gsCons (gN 9) gsNil))))
  (sIf (mBin dNe (mVar 8) (mC (.str (PySem.Str.ofString "")))) (sSeq (sPut (mVar 8) (mVar 5) (mVar 7))
  (sPut (mVar 9) (mVar 6) (mVar 7))) sNil))) b_merged_7)
noncomputable def b_merged_5 : SM := (sSeq (sAsg (mDnew (.dT [])) (gN 6)) b_merged_6)
noncomputable def b_merged_4 : SM := (sSeq (sAsg (mDnew (.dT [])) (gN 5)) b_merged_5)
noncomputable def b_merged_3 : SM := (sSeq (sIf (mTru (mVar 4)) (sRet (disp .tup (aCons (mC .non) (aCons (mFrz (mVar 4)) aNil)))) sNil) b_merged_4)
noncomputable def b_merged_2 : SM := (sSeq (sIf (mTru (mCallA 3 m_conflict (aCons (mIx (mVar 0) (mC (.int 4))) (aCons (mIx (mVar 1) (mC (.int 4))) (aCons (mIx (mVar 2) (mC (.int 4))) aNil))))) (sExpr (mMth "list" gApp (mVar 4) (aCons (disp .tup (aCons (mC (.str (PySem.Str.ofString "rules"))) (aCons (mC .non) aNil))) aNil))) sNil) b_merged_3)
noncomputable def b_merged_1 : SM := (sSeq (sAsg (mLcO (mItD itL (mVar 3)) [7] (gN 7) (mTru (mCallA 4 m_entries_conflict (aCons (mVar 0) (aCons (mVar 1) (aCons (mVar 2) (aCons (mVar 7) aNil)))))) (disp .tup (aCons (mC (.str (PySem.Str.ofString "cell"))) (aCons (mVar 7) aNil)))) (gN 4)) b_merged_2)
noncomputable def b_merged : SM := (sSeq (sAsg (mCallA 1 m_addresses_in (aCons (disp .lst (aCons (mVar 0) (aCons (mVar 1) (aCons (mVar 2) aNil)))) aNil)) (gN 3)) b_merged_1)
noncomputable def m_merged : MA := runA 12 b_merged
noncomputable def b_changed_cells : SM := (sSeq (sAsg (mCallA 1 m_addresses_in (aCons (disp .lst (aCons (mVar 0) (aCons (mVar 1) aNil))) aNil)) (gN 2))
  (sRet (mLc (mItD itL (mVar 2)) [3] (gN 3) (mBin dNe (mCallA 2 m_entry_of (aCons (mVar 0) (aCons (mVar 3) aNil))) (mCallA 2 m_entry_of (aCons (mVar 1) (aCons (mVar 3) aNil)))) (mVar 3))))
noncomputable def m_changed_cells : MA := runA 4 b_changed_cells
noncomputable def b_touched : SM := (sSeq (sAsg (mLcO (mItD itL (mCallA 2 m_changed_cells (aCons (mVar 0) (aCons (mVar 1) aNil)))) [5] (gN 5) tYesM (disp .tup (aCons (mC (.str (PySem.Str.ofString "cell"))) (aCons (mVar 5) aNil)))) (gN 2))
  (sSeq (sIf (mBin dNe (mIx (mVar 0) (mC (.int 4))) (mIx (mVar 1) (mC (.int 4)))) (sExpr (mMth "list" gApp (mVar 2) (aCons (disp .tup (aCons (mC (.str (PySem.Str.ofString "rules"))) (aCons (mC .non) aNil))) aNil))) sNil)
  (sSeq (sFor (mEnum (aCons (mIx (mVar 1) (mC (.int 5))) aNil)) (gT 2 (gsCons (gN 3) (gsCons (gN 4) gsNil))) (sIf (mOr (mBin dGe (mVar 3) (mCB dLen (aCons (mIx (mVar 0) (mC (.int 5))) aNil))) (mBin dNe (mIx (mIx (mIx (mVar 0) (mC (.int 5))) (mVar 3)) (mC (.int 4))) (mIx (mVar 4) (mC (.int 4))))) (sExpr (mMth "list" gApp (mVar 2) (aCons (disp .tup (aCons (mC (.str (PySem.Str.ofString "grant"))) (aCons (mVar 3) aNil))) aNil))) sNil))
  (sRet (mFrz (mVar 2))))))
noncomputable def m_touched : MA := runA 6 b_touched
noncomputable def b_law_11 (Ps : List Addr) : SM := (sRet (mBin dEq (mCB (g1 dReprL) (aCons (disp .tup (aCons (mVar 2) (aCons (mVar 3) (aCons (mVar 4) aNil)))) aNil)) (mVar 7)))
noncomputable def b_law_10 (Ps : List Addr) : SM := (sSeq (sIf (mAnd (mBin dEq (mCB dLen (aCons (mIx (mVar 3) (mC (.int 5))) aNil)) (mCB dLen (aCons (mIx (mVar 2) (mC (.int 5))) aNil))) (mBin dNeB (mCallA 3 m_merged (aCons (mVar 2) (aCons (mVar 3) (aCons (mVar 3) aNil)))) (disp .tup (aCons (mVar 3) (aCons (disp .lst aNil) aNil))))) (sRet (mC (.bl false))) sNil) (b_law_11 Ps))
noncomputable def b_law_9 (Ps : List Addr) : SM := (sSeq (sIf (mOr (mBin dNeB (mCallA 3 m_merged (aCons (mVar 2) (aCons (mVar 3) (aCons (mVar 2) aNil)))) (disp .tup (aCons (mVar 3) (aCons (disp .lst aNil) aNil)))) (mBin dNeB (mCallA 3 m_merged (aCons (mVar 2) (aCons (mVar 2) (aCons (mVar 4) aNil)))) (disp .tup (aCons (mVar 4) (aCons (disp .lst aNil) aNil))))) (sRet (mC (.bl false))) sNil) (b_law_10 Ps))
noncomputable def b_law_8 (Ps : List Addr) : SM := (sSeq (sIf (mOr (mBin dNe (mCallA 2 m_touched (aCons (mVar 2) (aCons (mVar 3) aNil))) (mCallB 2 (m_l_changes Ps) (aCons (mVar 2) (aCons (mVar 3) aNil)))) (mBin dNe (mCallA 2 m_touched (aCons (mVar 2) (aCons (mVar 4) aNil))) (mCallB 2 (m_l_changes Ps) (aCons (mVar 2) (aCons (mVar 4) aNil))))) (sRet (mC (.bl false))) sNil) (b_law_9 Ps))
noncomputable def b_law_7 (Ps : List Addr) : SM := (sSeq (sIf (mOr (mBin dNeB (mCallA 3 m_merged (aCons (mVar 2) (aCons (mVar 3) (aCons (mVar 4) aNil)))) (mVar 8)) (mBin dNeB (mCallA 3 m_merged (aCons (mVar 2) (aCons (mVar 4) (aCons (mVar 3) aNil)))) (mVar 8))) (sRet (mC (.bl false))) sNil) (b_law_8 Ps))
noncomputable def b_law_6 (Ps : List Addr) : SM := (sSeq (sAsg (mCallB 3 (m_l_merged Ps) (aCons (mVar 2) (aCons (mVar 3) (aCons (mVar 4) aNil)))) (gN 8)) (b_law_7 Ps))
noncomputable def b_law_5 (Ps : List Addr) : SM := (sSeq (sAsg (mCB (g1 dReprL) (aCons (disp .tup (aCons (mVar 2) (aCons (mVar 3) (aCons (mVar 4) aNil)))) aNil)) (gN 7)) (b_law_6 Ps))
noncomputable def b_law_4 (Ps : List Addr) : SM := (sSeq (sFor (mRng rng1D (aCons (mCallB 2 m_l_take (aCons (mVar 1) (aCons (mC (.int 7)) aNil))) aNil)) (gN 5) (sAsg (mCallA 2 m_l_done (aCons (mVar 4) (aCons (mCallB 2 m_l_edit (aCons (mVar 1) (aCons (mVar 4) aNil))) aNil))) (gN 4))) (b_law_5 Ps))
noncomputable def b_law_3 (Ps : List Addr) : SM := (sSeq (sFor (mRng rng1D (aCons (mCallB 2 m_l_take (aCons (mVar 1) (aCons (mC (.int 7)) aNil))) aNil)) (gN 5) (sSeq (sAsg (mCallB 2 m_l_edit (aCons (mVar 1) (aCons (mVar 3) aNil))) (gN 6))
  (sSeq (sAsg (mCallA 2 m_l_done (aCons (mVar 3) (aCons (mVar 6) aNil))) (gN 3))
  (sIf (mAnd (mBin dEq (mCallB 2 m_l_take (aCons (mVar 1) (aCons (mC (.int 4)) aNil))) (mC (.int 0))) (mAnd (mBin dEq (mIx (mVar 6) (mC (.int 0))) (mC (.str (PySem.Str.ofString "cell")))) (mOr (mBin dNe (mIx (mVar 6) (mC (.int 2))) (mC (.str (PySem.Str.ofString "")))) (mDin false (mIx (mVar 6) (mC (.int 1))) (mIx (mVar 4) (mC (.int 2))))))) (sAsg (mCallA 2 m_l_done (aCons (mVar 4) (aCons (mVar 6) aNil))) (gN 4)) sNil)))) (b_law_4 Ps))
noncomputable def b_law_2 (Ps : List Addr) : SM := (sSeq (sPar 3 4 (aCons (mVar 2) (aCons (mVar 2) aNil))) (b_law_3 Ps))
noncomputable def b_law_1 (Ps : List Addr) : SM := (sSeq (sAsg (mCallB 3 m_l_book (aCons (mVar 1) (aCons (mBin dAdd (mC (.int 1)) (mCallB 2 m_l_take (aCons (mVar 1) (aCons (mC (.int 4)) aNil)))) (aCons (mC (.int 11)) aNil)))) (gN 2)) (b_law_2 Ps))
noncomputable def b_law (Ps : List Addr) : SM := (sSeq (sAsg (mCallB 1 m_l_state (aCons (mVar 0) aNil)) (gN 1)) (b_law_1 Ps))
end Law
namespace Law
open PySem L2 DL
abbrev s_l_done : Stmt := topS 25
abbrev n_l_done : List Str := ["book", "edit", "users", "entries", "authors", "rules", "grants"]
theorem sc_l_done : FnScope n_l_done ["book", "edit"] (defScope s_l_done) := ⟨rfl, rfl, rfl, by decide +kernel, rfl, by decide +kernel, by decide +kernel⟩
abbrev s_l_take : Stmt := topS 18
abbrev n_l_take : List Str := ["state", "most", "cells", "at", "cell", "mixed"]
theorem sc_l_take : FnScope n_l_take ["state", "most"] (defScope s_l_take) := ⟨rfl, rfl, rfl, by decide +kernel, rfl, by decide +kernel, by decide +kernel⟩
abbrev s_l_some : Stmt := topS 21
abbrev n_l_some : List Str := ["state", "users", "user"]
theorem sc_l_some : FnScope n_l_some ["state", "users"] (defScope s_l_some) := ⟨rfl, rfl, rfl, by decide +kernel, rfl, by decide +kernel, by decide +kernel⟩
abbrev s_l_grant : Stmt := topS 23
abbrev n_l_grant : List Str := ["state", "users", "area", "names"]
theorem sc_l_grant : FnScope n_l_grant ["state", "users"] (defScope s_l_grant) := ⟨rfl, rfl, rfl, by decide +kernel, rfl, by decide +kernel, by decide +kernel⟩
abbrev s_l_rule : Stmt := topS 22
abbrev n_l_rule : List Str := ["state", "users", "whole", "areas", "area"]
theorem sc_l_rule : FnScope n_l_rule ["state", "users", "whole"] (defScope s_l_rule) := ⟨rfl, rfl, rfl, by decide +kernel, rfl, by decide +kernel, by decide +kernel⟩
abbrev s_l_spot : Stmt := topS 19
abbrev n_l_spot : List Str := ["state"]
theorem sc_l_spot : FnScope n_l_spot ["state"] (defScope s_l_spot) := ⟨rfl, rfl, rfl, by decide +kernel, rfl, by decide +kernel, by decide +kernel⟩
abbrev s_l_text : Stmt := topS 20
abbrev n_l_text : List Str := ["state"]
theorem sc_l_text : FnScope n_l_text ["state"] (defScope s_l_text) := ⟨rfl, rfl, rfl, by decide +kernel, rfl, by decide +kernel, by decide +kernel⟩
abbrev s_l_edit : Stmt := topS 24
abbrev n_l_edit : List Str := ["state", "book", "users", "entries", "authors", "rules", "grants", "kind", "spot", "at"]
theorem sc_l_edit : FnScope n_l_edit ["state", "book"] (defScope s_l_edit) := ⟨rfl, rfl, rfl, by decide +kernel, rfl, by decide +kernel, by decide +kernel⟩
abbrev s_l_start : Stmt := topS 26
abbrev n_l_start : List Str := ["users", "everybody", "user"]
theorem sc_l_start : FnScope n_l_start ["users"] (defScope s_l_start) := ⟨rfl, rfl, rfl, by decide +kernel, rfl, by decide +kernel, by decide +kernel⟩
abbrev s_l_book : Stmt := topS 27
abbrev n_l_book : List Str := ["state", "users", "most", "book", "turn"]
theorem sc_l_book : FnScope n_l_book ["state", "users", "most"] (defScope s_l_book) := ⟨rfl, rfl, rfl, by decide +kernel, rfl, by decide +kernel, by decide +kernel⟩
abbrev s_l_entry : Stmt := topS 28
abbrev n_l_entry : List Str := ["book", "spot"]
theorem sc_l_entry : FnScope n_l_entry ["book", "spot"] (defScope s_l_entry) := ⟨rfl, rfl, rfl, by decide +kernel, rfl, by decide +kernel, by decide +kernel⟩
abbrev s_l_spots : Stmt := topS 29
abbrev n_l_spots : List Str := ["books", "known", "book", "spot"]
theorem sc_l_spots : FnScope n_l_spots ["books"] (defScope s_l_spots) := ⟨rfl, rfl, rfl, by decide +kernel, rfl, by decide +kernel, by decide +kernel⟩
abbrev s_l_changes : Stmt := topS 30
abbrev n_l_changes : List Str := ["base", "book", "rows", "k", "spot"]
theorem sc_l_changes : FnScope n_l_changes ["base", "book"] (defScope s_l_changes) := ⟨rfl, rfl, rfl, by decide +kernel, rfl, by decide +kernel, by decide +kernel⟩
abbrev s_l_merged : Stmt := topS 31
abbrev n_l_merged : List Str := ["base", "one", "other", "entries", "authors", "conflicts", "spot", "old", "a", "b", "chosen", "rules", "size", "grants", "k", "flags", "turned", "more", "flag"]
theorem sc_l_merged : FnScope n_l_merged ["base", "one", "other"] (defScope s_l_merged) := ⟨rfl, rfl, rfl, by decide +kernel, rfl, by decide +kernel, by decide +kernel⟩
abbrev s_l_state : Stmt := topS 17
abbrev n_l_state : List Str := ["script", "cells", "cell"]
theorem sc_l_state : FnScope n_l_state ["script"] (defScope s_l_state) := ⟨rfl, rfl, rfl, by decide +kernel, rfl, by decide +kernel, by decide +kernel⟩
abbrev s_conflict : Stmt := topS 12
abbrev n_conflict : List Str := ["base", "one", "other"]
theorem sc_conflict : FnScope n_conflict ["base", "one", "other"] (defScope s_conflict) := ⟨rfl, rfl, rfl, by decide +kernel, rfl, by decide +kernel, by decide +kernel⟩
abbrev s_entry_of : Stmt := topS 6
abbrev n_entry_of : List Str := ["book", "address"]
theorem sc_entry_of : FnScope n_entry_of ["book", "address"] (defScope s_entry_of) := ⟨rfl, rfl, rfl, by decide +kernel, rfl, by decide +kernel, by decide +kernel⟩
abbrev s_entries_conflict : Stmt := topS 13
abbrev n_entries_conflict : List Str := ["base", "one", "other", "address"]
theorem sc_entries_conflict : FnScope n_entries_conflict ["base", "one", "other", "address"] (defScope s_entries_conflict) := ⟨rfl, rfl, rfl, by decide +kernel, rfl, by decide +kernel, by decide +kernel⟩
abbrev s_taken : Stmt := topS 14
abbrev n_taken : List Str := ["base", "one", "other"]
theorem sc_taken : FnScope n_taken ["base", "one", "other"] (defScope s_taken) := ⟨rfl, rfl, rfl, by decide +kernel, rfl, by decide +kernel, by decide +kernel⟩
abbrev s_grant_copy : Stmt := topS 2
abbrev n_grant_copy : List Str := ["grant", "area", "functions", "to", "by", "revoked"]
theorem sc_grant_copy : FnScope n_grant_copy ["grant"] (defScope s_grant_copy) := ⟨rfl, rfl, rfl, by decide +kernel, rfl, by decide +kernel, by decide +kernel⟩
abbrev s_merged_grants : Stmt := topS 15
abbrev n_merged_grants : List Str := ["grants", "ones", "others", "made", "index", "grant", "area", "functions", "to", "by", "revoked", "further"]
theorem sc_merged_grants : FnScope n_merged_grants ["grants", "ones", "others"] (defScope s_merged_grants) := ⟨rfl, rfl, rfl, by decide +kernel, rfl, by decide +kernel, by decide +kernel⟩
abbrev s_place_key : Stmt := topS 4
abbrev n_place_key : List Str := ["address"]
theorem sc_place_key : FnScope n_place_key ["address"] (defScope s_place_key) := ⟨rfl, rfl, rfl, by decide +kernel, rfl, by decide +kernel, by decide +kernel⟩
abbrev s_addresses_in : Stmt := topS 7
abbrev n_addresses_in : List Str := ["books", "found", "book", "address"]
theorem sc_addresses_in : FnScope n_addresses_in ["books"] (defScope s_addresses_in) := ⟨rfl, rfl, rfl, by decide +kernel, rfl, by decide +kernel, by decide +kernel⟩
abbrev s_rule_copy : Stmt := topS 1
abbrev n_rule_copy : List Str := ["rule", "area", "read", "write", "own"]
theorem sc_rule_copy : FnScope n_rule_copy ["rule"] (defScope s_rule_copy) := ⟨rfl, rfl, rfl, by decide +kernel, rfl, by decide +kernel, by decide +kernel⟩
abbrev s_merged : Stmt := topS 11
abbrev n_merged : List Str := ["base", "one", "other", "addresses", "conflicts", "entries", "authors", "address", "text", "author", "rules", "rule"]
theorem sc_merged : FnScope n_merged ["base", "one", "other"] (defScope s_merged) := ⟨rfl, rfl, rfl, by decide +kernel, rfl, by decide +kernel, by decide +kernel⟩
abbrev s_changed_cells : Stmt := topS 8
abbrev n_changed_cells : List Str := ["book", "other", "addresses", "address"]
theorem sc_changed_cells : FnScope n_changed_cells ["book", "other"] (defScope s_changed_cells) := ⟨rfl, rfl, rfl, by decide +kernel, rfl, by decide +kernel, by decide +kernel⟩
abbrev s_touched : Stmt := topS 10
abbrev n_touched : List Str := ["base", "book", "things", "index", "grant", "address"]
theorem sc_touched : FnScope n_touched ["base", "book"] (defScope s_touched) := ⟨rfl, rfl, rfl, by decide +kernel, rfl, by decide +kernel, by decide +kernel⟩
abbrev s_law : Stmt := topS 32
abbrev n_law : List Str := ["script", "state", "base", "one", "other", "turn", "edit", "kept", "due"]
theorem sc_law : FnScope n_law ["script"] (defScope s_law) := ⟨rfl, rfl, rfl, by decide +kernel, rfl, by decide +kernel, by decide +kernel⟩
structure Tx (K : PySem.W.Frag) (w : World) (mg : Str → Option Value) where
  f__law_done : Df K mg "_law_done" s_l_done ["book", "edit"]
  f__law_take : Df K mg "_law_take" s_l_take ["state", "most"]
  f__law_some : Df K mg "_law_some" s_l_some ["state", "users"]
  f__law_grant : Df K mg "_law_grant" s_l_grant ["state", "users"]
  f__law_rule : Df K mg "_law_rule" s_l_rule ["state", "users", "whole"]
  f__law_spot : Df K mg "_law_spot" s_l_spot ["state"]
  f__law_text : Df K mg "_law_text" s_l_text ["state"]
  f__law_edit : Df K mg "_law_edit" s_l_edit ["state", "book"]
  f__law_start : Df K mg "_law_start" s_l_start ["users"]
  f__law_book : Df K mg "_law_book" s_l_book ["state", "users", "most"]
  f__law_entry : Df K mg "_law_entry" s_l_entry ["book", "spot"]
  f__law_spots : Df K mg "_law_spots" s_l_spots ["books"]
  f__law_changes : Df K mg "_law_changes" s_l_changes ["base", "book"]
  f__law_merged : Df K mg "_law_merged" s_l_merged ["base", "one", "other"]
  f__law_state : Df K mg "_law_state" s_l_state ["script"]
  f__conflict : Df K mg "_conflict" s_conflict ["base", "one", "other"]
  f_entry_of : Df K mg "entry_of" s_entry_of ["book", "address"]
  f__entries_conflict : Df K mg "_entries_conflict" s_entries_conflict ["base", "one", "other", "address"]
  f__taken : Df K mg "_taken" s_taken ["base", "one", "other"]
  f_grant_copy : Df K mg "grant_copy" s_grant_copy ["grant"]
  f__merged_grants : Df K mg "_merged_grants" s_merged_grants ["grants", "ones", "others"]
  f_place_key : Df K mg "place_key" s_place_key ["address"]
  f_addresses_in : Df K mg "addresses_in" s_addresses_in ["books"]
  f_rule_copy : Df K mg "rule_copy" s_rule_copy ["rule"]
  f_merged : Df K mg "merged" s_merged ["base", "one", "other"]
  f_changed_cells : Df K mg "changed_cells" s_changed_cells ["book", "other"]
  f_touched : Df K mg "touched" s_touched ["base", "book"]
  f_law : Df K mg "law" s_law ["script"]
  n_abs : mg "abs" = none
  n_dict : mg "dict" = none
  n_enumerate : mg "enumerate" = none
  n_int : mg "int" = none
  n_len : mg "len" = none
  n_list : mg "list" = none
  n_range : mg "range" = none
  n_repr : mg "repr" = none
  n_sorted : mg "sorted" = none
  cs : List (Addr × Addr)
  lam__law_spots : ∃ c, f__law_spots.fd.code = .ref c ∧ ∃ P, cs[0]? = some (c, P)
section
variable {P : Program} {w : World} {K : PySem.W.Frag} {mg : Str → Option Value} {base : Heap}
theorem ok_l_done (T : Tx K w mg) : FnOk P w K mg base (L2.CX P w) 1 T.f__law_done.a T.f__law_done.fd ["book", "edit"] (spA K 2 m_l_done) := by
  refine fnA (N := n_l_done) T.f__law_done.F sc_l_done fun cdv A outer s H E hr => ?_
  have nd := sc_l_done.nd
  have tk := takes_of (X := cxOf (L2.CX P w) P w K mg base n_l_done "_law_done" (defScope s_l_done) T.f__law_done.a cdv A outer s H E) (E := E) rfl rfl rfl rfl
  exact ⟨_, (dss_cons (ds_asg (de_slT (de_var 0) (dp_some de_int) dp_none) (dg_tup rfl (dgs_cons (dg_name (i := 2) nd) (dgs_cons (dg_name (i := 3) nd) (dgs_cons (dg_name (i := 4) nd) (dgs_cons (dg_name (i := 5) nd) (dgs_cons (dg_name (i := 6) nd) dgs_nil)))))))
  (dss_cons (ds_unp rfl (da_cons (de_callTyO (co_dict (units2 hr)) T.n_dict (da_cons (de_var 3) da_nil)) (da_cons (de_callTyO (co_dict (units2 hr)) T.n_dict (da_cons (de_var 4) da_nil)) (da_cons (de_callTyO co_list T.n_list (da_cons (de_var 5) da_nil)) (da_cons (de_callTyO co_list T.n_list (da_cons (de_var 6) da_nil)) da_nil)))) (dgs_cons (dg_name (i := 3) nd) (dgs_cons (dg_name (i := 4) nd) (dgs_cons (dg_name (i := 5) nd) (dgs_cons (dg_name (i := 6) nd) dgs_nil)))))
  (dss_cons (ds_if (dt_cmp (od_eq hr.units) bool_dEq (de_ix (de_var 1) de_int) de_str) (dss_one (ds_if (dt_cmp (od_eq hr.units) bool_dEq (de_ix (de_var 1) de_int) de_str) (dss_cons (ds_expr (de_dpopT (units1 hr) (de_var 3) (de_ix (de_var 1) de_int)))
  (dss_one (ds_expr (de_dpopT (units1 hr) (de_var 4) (de_ix (de_var 1) de_int))))) (dss_cons (ds_put (units1 hr) (de_ix (de_var 1) de_int) (de_var 3) (de_ix (de_var 1) de_int))
  (dss_one (ds_put (units1 hr) (de_ix (de_var 1) de_int) (de_var 4) (de_ix (de_var 1) de_int)))))) (dss_one (ds_if (dt_cmp (od_eq hr.units) bool_dEq (de_ix (de_var 1) de_int) de_str) (dss_one (ds_set (i := 5) nd (de_catO (de_catO (de_slO (de_var 5) dp_none (dp_some (de_ix (de_var 1) de_int))) (de_lst (da_cons (de_ix (de_var 1) de_int) da_nil))) (de_slO (de_var 5) (dp_some (de_bin od_add (de_ix (de_var 1) de_int) de_int)) dp_none)))) (dss_one (ds_if (dt_cmp (od_eq hr.units) bool_dEq (de_ix (de_var 1) de_int) de_str) (dss_one (ds_expr (de_mth md_popI (de_var 5) (da_cons (de_ix (de_var 1) de_int) da_nil) PySem.F.plainAttrs_list PySem.F.slot_list_pop PySem.F.type_list_pop))) (dss_one (ds_if (dt_cmp (od_eq hr.units) bool_dEq (de_ix (de_var 1) de_int) de_str) (dss_one (ds_expr (de_mth md_app (de_var 6) (da_cons (de_ix (de_var 1) de_int) da_nil) PySem.F.plainAttrs_list PySem.F.slot_list_append PySem.F.type_list_append))) (dss_one (ds_asg (de_bin od_catT (de_slT (de_ix (de_var 6) (de_ix (de_var 1) de_int)) dp_none (dp_some de_int)) (de_tup (da_cons (de_ix (de_var 1) de_int) da_nil))) (dg_set (de_var 6) (de_ix (de_var 1) de_int)))))))))))
  (dss_one (ds_ret (de_tup (da_cons de_str (da_cons (de_var 2) (da_cons (de_frzD (de_var 3)) (da_cons (de_frzD (de_var 4)) (da_cons (de_frz (de_var 5)) (da_cons (de_frz (de_var 6)) da_nil))))))))))))⟩
theorem ok_l_take (T : Tx K w mg) : FnOk P w K mg base (L2.CX P w) 1 T.f__law_take.a T.f__law_take.fd ["state", "most"] (spB K 2 m_l_take) := by
  refine fnB (N := n_l_take) T.f__law_take.F sc_l_take fun cdv A outer s H E hr => ?_
  have nd := sc_l_take.nd
  have tk := takes_of (X := cxOf (L2.CX P w) P w K mg base n_l_take "_law_take" (defScope s_l_take) T.f__law_take.a cdv A outer s H E) (E := E) rfl rfl rfl rfl
  exact ⟨_, (dss_cons (ds_if (dt_cmp od_lt bool_dIb (de_var 1) de_int) (dss_one (ds_ret de_int)) dss_nil)
  (dss_cons (ds_set (i := 2) nd (de_ix (de_var 0) de_int))
  (dss_cons (ds_set (i := 3) nd (de_bin od_mod (de_ix (de_var 0) de_int) (de_callB cd_len T.n_len (da_cons (de_var 2) da_nil))))
  (dss_cons (ds_set (i := 4) nd (de_ix (de_var 2) (de_var 3)))
  (dss_cons (ds_if (dt_cmp od_ge bool_dIb (de_var 4) de_int) (dss_cons (ds_asg (de_bin od_fdiv (de_var 4) (de_var 1)) (dg_set (de_var 2) (de_var 3)))
  (dss_one (ds_ret (de_bin od_mod (de_var 4) (de_var 1))))) dss_nil)
  (dss_cons (ds_asg (de_bin od_add (de_ix (de_var 0) de_int) de_int) (dg_set (de_var 0) de_int))
  (dss_cons (ds_set (i := 5) nd (de_bin od_mod (de_callTy cd_int T.n_int (da_cons (de_bin od_add (de_bin od_mul (de_var 4) de_int) (de_bin od_mul (de_ix (de_var 0) de_int) de_int)) da_nil)) de_int))
  (dss_cons (ds_set (i := 5) nd (de_bin od_mod (de_callTy cd_int T.n_int (da_cons (de_bin od_add (de_bin od_mul (de_var 5) de_int) (de_bin od_mul (de_ix (de_var 0) de_int) de_int)) da_nil)) de_int))
  (dss_one (ds_ret (de_bin od_mod (de_bin od_fdiv (de_var 5) de_int) (de_var 1))))))))))))⟩
theorem ok_l_some (T : Tx K w mg) : FnOk P w K mg base (L2.CX P w) 2 T.f__law_some.a T.f__law_some.fd ["state", "users"] (spB K 2 m_l_some) := by
  refine fnB (N := n_l_some) T.f__law_some.F sc_l_some fun cdv A outer s H E hr => ?_
  have nd := sc_l_some.nd
  have tk := takes_of (X := cxOf (L2.CX P w) P w K mg base n_l_some "_law_some" (defScope s_l_some) T.f__law_some.a cdv A outer s H E) (E := E) rfl rfl rfl rfl
  exact ⟨_, (dss_one (ds_ret (de_lc nd rfl (di_range1 T.n_range (da_cons (de_var 1) da_nil)) (blkOk_by (own := [((PySem.Str.ofString "user"), 2)]) (N := n_l_some) (sc := defScope s_l_some) (by decide +kernel)) (fun _ _ _ _ _ => (dg_name (i := 2) nd)) (fun _ _ _ _ _ => (dpt_one (dt_cmp (od_eq hr.units) bool_dEq (de_callB' ((ok_l_take T).mono (by decide)) hr takes0 T.f__law_take.m T.f__law_take.F.kp T.f__law_take.b (da_cons (de_var 0) (da_cons de_int da_nil))) de_int))) (fun _ _ _ _ _ => (de_var 2)))))⟩
theorem ok_l_grant (T : Tx K w mg) : FnOk P w K mg base (L2.CX P w) 3 T.f__law_grant.a T.f__law_grant.fd ["state", "users"] (spB K 2 m_l_grant) := by
  refine fnB (N := n_l_grant) T.f__law_grant.F sc_l_grant fun cdv A outer s H E hr => ?_
  have nd := sc_l_grant.nd
  have tk := takes_of (X := cxOf (L2.CX P w) P w K mg base n_l_grant "_law_grant" (defScope s_l_grant) T.f__law_grant.a cdv A outer s H E) (E := E) rfl rfl rfl rfl
  exact ⟨_, (dss_cons (ds_set (i := 2) nd (de_ix (de_lst (da_cons (de_tup (da_cons (de_tup (da_cons de_int (da_cons de_int da_nil))) (da_cons (de_tup (da_cons de_int (da_cons de_int da_nil))) da_nil))) (da_cons (de_tup (da_cons (de_tup (da_cons de_int (da_cons de_int da_nil))) (da_cons (de_tup (da_cons de_int (da_cons de_int da_nil))) da_nil))) (da_cons (de_tup (da_cons (de_tup (da_cons de_int (da_cons de_int da_nil))) (da_cons (de_tup (da_cons de_int (da_cons de_int da_nil))) da_nil))) da_nil)))) (de_callB' ((ok_l_take T).mono (by decide)) hr tk T.f__law_take.m T.f__law_take.F.kp T.f__law_take.b (da_cons (de_var 0) (da_cons de_int da_nil)))))
  (dss_cons (ds_set (i := 3) nd (de_ix (de_lst (da_cons (de_lst (da_cons de_str da_nil)) (da_cons (de_lst (da_cons de_str (da_cons de_str da_nil))) (da_cons (de_lst da_nil) da_nil)))) (de_callB' ((ok_l_take T).mono (by decide)) hr tk T.f__law_take.m T.f__law_take.F.kp T.f__law_take.b (da_cons (de_var 0) (da_cons de_int da_nil)))))
  (dss_one (ds_ret (de_tup (da_cons (de_var 2) (da_cons (de_var 3) (da_cons (de_callB' ((ok_l_some T).mono (by decide)) hr tk T.f__law_some.m T.f__law_some.F.kp T.f__law_some.b (da_cons (de_var 0) (da_cons (de_var 1) da_nil))) (da_cons (de_callB' ((ok_l_take T).mono (by decide)) hr tk T.f__law_take.m T.f__law_take.F.kp T.f__law_take.b (da_cons (de_var 0) (da_cons (de_var 1) da_nil))) (da_cons de_bl da_nil))))))))))⟩
theorem ok_l_rule (T : Tx K w mg) : FnOk P w K mg base (L2.CX P w) 3 T.f__law_rule.a T.f__law_rule.fd ["state", "users", "whole"] (spB K 3 m_l_rule) := by
  refine fnB (N := n_l_rule) T.f__law_rule.F sc_l_rule fun cdv A outer s H E hr => ?_
  have nd := sc_l_rule.nd
  have tk := takes_of (X := cxOf (L2.CX P w) P w K mg base n_l_rule "_law_rule" (defScope s_l_rule) T.f__law_rule.a cdv A outer s H E) (E := E) rfl rfl rfl rfl
  exact ⟨_, (dss_cons (ds_set (i := 3) nd (de_lst (da_cons (de_tup (da_cons (de_tup (da_cons de_int (da_cons de_int da_nil))) (da_cons (de_tup (da_cons de_int (da_cons de_int da_nil))) da_nil))) (da_cons (de_tup (da_cons (de_tup (da_cons de_int (da_cons de_int da_nil))) (da_cons (de_tup (da_cons de_int (da_cons de_int da_nil))) da_nil))) (da_cons (de_tup (da_cons (de_tup (da_cons de_int (da_cons de_int da_nil))) (da_cons (de_tup (da_cons de_int (da_cons de_int da_nil))) da_nil))) (da_cons (de_tup (da_cons (de_tup (da_cons de_int (da_cons de_int da_nil))) (da_cons (de_tup (da_cons de_int (da_cons de_int da_nil))) da_nil))) da_nil))))))
  (dss_cons (ds_set (i := 4) nd (de_ix (de_var 3) (de_callB' ((ok_l_take T).mono (by decide)) hr tk T.f__law_take.m T.f__law_take.F.kp T.f__law_take.b (da_cons (de_var 0) (da_cons de_int da_nil)))))
  (dss_cons (ds_if (dt_tru (de_var 2)) (dss_one (ds_set (i := 4) nd (de_ix (de_var 3) de_int))) dss_nil)
  (dss_one (ds_ret (de_tup (da_cons (de_var 4) (da_cons (de_callB' ((ok_l_some T).mono (by decide)) hr tk T.f__law_some.m T.f__law_some.F.kp T.f__law_some.b (da_cons (de_var 0) (da_cons (de_var 1) da_nil))) (da_cons (de_callB' ((ok_l_some T).mono (by decide)) hr tk T.f__law_some.m T.f__law_some.F.kp T.f__law_some.b (da_cons (de_var 0) (da_cons (de_var 1) da_nil))) (da_cons (de_callB' ((ok_l_some T).mono (by decide)) hr tk T.f__law_some.m T.f__law_some.F.kp T.f__law_some.b (da_cons (de_var 0) (da_cons (de_var 1) da_nil))) da_nil))))))))))⟩
theorem ok_l_spot (T : Tx K w mg) : FnOk P w K mg base (L2.CX P w) 2 T.f__law_spot.a T.f__law_spot.fd ["state"] (spB K 1 m_l_spot) := by
  refine fnB (N := n_l_spot) T.f__law_spot.F sc_l_spot fun cdv A outer s H E hr => ?_
  have nd := sc_l_spot.nd
  have tk := takes_of (X := cxOf (L2.CX P w) P w K mg base n_l_spot "_law_spot" (defScope s_l_spot) T.f__law_spot.a cdv A outer s H E) (E := E) rfl rfl rfl rfl
  exact ⟨_, (dss_one (ds_ret (de_ix (de_lst (da_cons (de_tup (da_cons de_int (da_cons de_int da_nil))) (da_cons (de_tup (da_cons de_int (da_cons de_int da_nil))) (da_cons (de_tup (da_cons de_int (da_cons de_int da_nil))) (da_cons (de_tup (da_cons de_int (da_cons de_int da_nil))) (da_cons (de_tup (da_cons de_int (da_cons de_int da_nil))) da_nil)))))) (de_callB' ((ok_l_take T).mono (by decide)) hr tk T.f__law_take.m T.f__law_take.F.kp T.f__law_take.b (da_cons (de_var 0) (da_cons de_int da_nil))))))⟩
theorem ok_l_text (T : Tx K w mg) : FnOk P w K mg base (L2.CX P w) 2 T.f__law_text.a T.f__law_text.fd ["state"] (spB K 1 m_l_text) := by
  refine fnB (N := n_l_text) T.f__law_text.F sc_l_text fun cdv A outer s H E hr => ?_
  have nd := sc_l_text.nd
  have tk := takes_of (X := cxOf (L2.CX P w) P w K mg base n_l_text "_law_text" (defScope s_l_text) T.f__law_text.a cdv A outer s H E) (E := E) rfl rfl rfl rfl
  exact ⟨_, (dss_one (ds_ret (de_ix (de_lst (da_cons de_str (da_cons de_str (da_cons de_str (da_cons de_str (da_cons de_str (da_cons de_str (da_cons de_str (da_cons de_str da_nil))))))))) (de_callB' ((ok_l_take T).mono (by decide)) hr tk T.f__law_take.m T.f__law_take.F.kp T.f__law_take.b (da_cons (de_var 0) (da_cons de_int da_nil))))))⟩
theorem ok_l_edit (T : Tx K w mg) : FnOk P w K mg base (L2.CX P w) 4 T.f__law_edit.a T.f__law_edit.fd ["state", "book"] (spB K 2 m_l_edit) := by
  refine fnB (N := n_l_edit) T.f__law_edit.F sc_l_edit fun cdv A outer s H E hr => ?_
  have nd := sc_l_edit.nd
  have tk := takes_of (X := cxOf (L2.CX P w) P w K mg base n_l_edit "_law_edit" (defScope s_l_edit) T.f__law_edit.a cdv A outer s H E) (E := E) rfl rfl rfl rfl
  exact ⟨_, (dss_cons (ds_asg (de_slT (de_var 1) (dp_some de_int) dp_none) (dg_tup rfl (dgs_cons (dg_name (i := 2) nd) (dgs_cons (dg_name (i := 3) nd) (dgs_cons (dg_name (i := 4) nd) (dgs_cons (dg_name (i := 5) nd) (dgs_cons (dg_name (i := 6) nd) dgs_nil)))))))
  (dss_cons (ds_set (i := 7) nd (de_callB' ((ok_l_take T).mono (by decide)) hr tk T.f__law_take.m T.f__law_take.F.kp T.f__law_take.b (da_cons (de_var 0) (da_cons de_int da_nil))))
  (dss_cons (ds_set (i := 8) nd (de_callB' ((ok_l_spot T).mono (by decide)) hr tk T.f__law_spot.m T.f__law_spot.F.kp T.f__law_spot.b (da_cons (de_var 0) da_nil)))
  (dss_cons (ds_if (dt_w (dw_and (dt_cmp (od_eq hr.units) bool_dEq (de_var 7) de_int) (dw_and1 (dt_din (units1 hr) (de_var 8) (de_var 3))))) (dss_one (ds_ret (de_tup (da_cons de_str (da_cons (de_var 8) (da_cons de_str (da_cons de_non da_nil))))))) dss_nil)
  (dss_cons (ds_if (dt_cmp od_lt bool_dIb (de_var 7) de_int) (dss_one (ds_ret (de_tup (da_cons de_str (da_cons (de_var 8) (da_cons (de_callB' ((ok_l_text T).mono (by decide)) hr tk T.f__law_text.m T.f__law_text.F.kp T.f__law_text.b (da_cons (de_var 0) da_nil)) (da_cons (de_callB' ((ok_l_take T).mono (by decide)) hr tk T.f__law_take.m T.f__law_take.F.kp T.f__law_take.b (da_cons (de_var 0) (da_cons (de_var 2) da_nil))) da_nil))))))) dss_nil)
  (dss_cons (ds_if (dt_cmp (od_eq hr.units) bool_dEq (de_var 7) de_int) (dss_cons (ds_set (i := 9) nd (de_callB' ((ok_l_take T).mono (by decide)) hr tk T.f__law_take.m T.f__law_take.F.kp T.f__law_take.b (da_cons (de_var 0) (da_cons (de_bin od_add (de_callB cd_len T.n_len (da_cons (de_var 5) da_nil)) de_int) da_nil))))
  (dss_one (ds_ret (de_tup (da_cons de_str (da_cons (de_var 9) (da_cons (de_callB' ((ok_l_rule T).mono (by decide)) hr tk T.f__law_rule.m T.f__law_rule.F.kp T.f__law_rule.b (da_cons (de_var 0) (da_cons (de_var 2) (da_cons (de_cmp (od_eq hr.units) (de_var 9) de_int) da_nil)))) da_nil))))))) dss_nil)
  (dss_cons (ds_if (dt_w (dw_and (dt_cmp (od_eq hr.units) bool_dEq (de_var 7) de_int) (dw_and1 (dt_cmp od_gt bool_dIb (de_callB cd_len T.n_len (da_cons (de_var 5) da_nil)) de_int)))) (dss_one (ds_ret (de_tup (da_cons de_str (da_cons (de_bin od_add de_int (de_callB' ((ok_l_take T).mono (by decide)) hr tk T.f__law_take.m T.f__law_take.F.kp T.f__law_take.b (da_cons (de_var 0) (da_cons (de_bin od_sub (de_callB cd_len T.n_len (da_cons (de_var 5) da_nil)) de_int) da_nil)))) da_nil))))) dss_nil)
  (dss_cons (ds_if (dt_w (dw_and (dt_cmp (od_eq hr.units) bool_dEq (de_var 7) de_int) (dw_and1 (dt_cmp od_gt bool_dIb (de_callB cd_len T.n_len (da_cons (de_var 6) da_nil)) de_int)))) (dss_cons (ds_set (i := 9) nd (de_callB' ((ok_l_take T).mono (by decide)) hr tk T.f__law_take.m T.f__law_take.F.kp T.f__law_take.b (da_cons (de_var 0) (da_cons (de_callB cd_len T.n_len (da_cons (de_var 6) da_nil)) da_nil))))
  (dss_one (ds_ret (de_tup (da_cons de_str (da_cons (de_var 9) (da_cons (de_not (de_ix (de_ix (de_var 6) (de_var 9)) de_int)) da_nil))))))) dss_nil)
  (dss_one (ds_ret (de_tup (da_cons de_str (da_cons (de_callB' ((ok_l_grant T).mono (by decide)) hr tk T.f__law_grant.m T.f__law_grant.F.kp T.f__law_grant.b (da_cons (de_var 0) (da_cons (de_var 2) da_nil))) da_nil)))))))))))))⟩
theorem ok_l_start (T : Tx K w mg) : FnOk P w K mg base (L2.CX P w) 1 T.f__law_start.a T.f__law_start.fd ["users"] (spA K 1 m_l_start) := by
  refine fnA (N := n_l_start) T.f__law_start.F sc_l_start fun cdv A outer s H E hr => ?_
  have nd := sc_l_start.nd
  have tk := takes_of (X := cxOf (L2.CX P w) P w K mg base n_l_start "_law_start" (defScope s_l_start) T.f__law_start.a cdv A outer s H E) (E := E) rfl rfl rfl rfl
  exact ⟨_, (dss_cons (ds_setLc (i := 1) nd rfl (di_range1 T.n_range (da_cons (de_var 0) da_nil)) (blkOk_by (own := [((PySem.Str.ofString "user"), 2)]) (N := n_l_start) (sc := defScope s_l_start) (by decide +kernel)) (fun _ _ _ _ _ => (dg_name (i := 2) nd)) (fun _ _ _ _ _ => dpt_nil) (fun _ _ _ _ _ => (de_var 2)))
  (dss_one (ds_ret (de_tup (da_cons de_str (da_cons (de_var 0) (da_cons (de_frzD de_dnewT) (da_cons (de_frzD de_dnewT) (da_cons (de_lst (da_cons (de_tup (da_cons (de_tup (da_cons (de_tup (da_cons de_int (da_cons de_int da_nil))) (da_cons (de_tup (da_cons de_int (da_cons de_int da_nil))) da_nil))) (da_cons (de_var 1) (da_cons (de_var 1) (da_cons (de_var 1) da_nil))))) da_nil)) (da_cons (de_lst da_nil) da_nil))))))))))⟩
theorem ok_l_book (T : Tx K w mg) : FnOk P w K mg base (L2.CX P w) 5 T.f__law_book.a T.f__law_book.fd ["state", "users", "most"] (spB K 3 m_l_book) := by
  refine fnB (N := n_l_book) T.f__law_book.F sc_l_book fun cdv A outer s H E hr => ?_
  have nd := sc_l_book.nd
  have tk := takes_of (X := cxOf (L2.CX P w) P w K mg base n_l_book "_law_book" (defScope s_l_book) T.f__law_book.a cdv A outer s H E) (E := E) rfl rfl rfl rfl
  exact ⟨_, (dss_cons (ds_set (i := 3) nd (de_callA ((ok_l_start T).mono (by decide)) hr tk T.f__law_start.m T.f__law_start.F.kp T.f__law_start.b (da_cons (de_var 1) da_nil)))
  (dss_cons (ds_for (passes_of rfl) rfl (di_range1 T.n_range (da_cons (de_callB' ((ok_l_take T).mono (by decide)) hr tk T.f__law_take.m T.f__law_take.F.kp T.f__law_take.b (da_cons (de_var 0) (da_cons (de_var 2) da_nil))) da_nil)) (dg_name (i := 4) nd) (dss_one (ds_set (i := 3) nd (de_callA ((ok_l_done T).mono (by decide)) hr tk T.f__law_done.m T.f__law_done.F.kp T.f__law_done.b (da_cons (de_var 3) (da_cons (de_callB' ((ok_l_edit T).mono (by decide)) hr tk T.f__law_edit.m T.f__law_edit.F.kp T.f__law_edit.b (da_cons (de_var 0) (da_cons (de_var 3) da_nil))) da_nil))))))
  (dss_one (ds_ret (de_var 3)))))⟩
theorem ok_l_entry (T : Tx K w mg) : FnOk P w K mg base (L2.CX P w) 1 T.f__law_entry.a T.f__law_entry.fd ["book", "spot"] (spA K 2 m_l_entry) := by
  refine fnA (N := n_l_entry) T.f__law_entry.F sc_l_entry fun cdv A outer s H E hr => ?_
  have nd := sc_l_entry.nd
  have tk := takes_of (X := cxOf (L2.CX P w) P w K mg base n_l_entry "_law_entry" (defScope s_l_entry) T.f__law_entry.a cdv A outer s H E) (E := E) rfl rfl rfl rfl
  exact ⟨_, (dss_one (ds_ret (de_tup (da_cons (de_dgm2 (units1 hr) (de_ix (de_var 0) de_int) (de_var 1) de_str) (da_cons (de_dgm1 (units1 hr) (de_ix (de_var 0) de_int) (de_var 1)) da_nil)))))⟩
theorem ok_l_spots (T : Tx K w mg) (hB : ∀ p ∈ T.cs, LamX.TabB base mg p.1 p.2) : FnOk P w K mg base (L2.CX P w) 4 T.f__law_spots.a T.f__law_spots.fd ["books"] (spB K 1 (m_l_spots (T.cs.map (·.2)))) := by
  obtain ⟨c0, hcd, P0, hcs⟩ := T.lam__law_spots
  refine fnBC (N := n_l_spots) T.f__law_spots.F sc_l_spots fun A outer s H E hr => ?_
  have nd := sc_l_spots.nd
  have tk := takes_of (X := cxOf (L2.CX P w) P w K mg base n_l_spots "_law_spots" (defScope s_l_spots) T.f__law_spots.a T.f__law_spots.fd.code A outer s H E) (E := E) rfl rfl rfl rfl
  exact ⟨_, (dss_cons (ds_set (i := 1) nd de_dnewT)
  (dss_cons (ds_for (passes_of rfl) rfl (di_list (de_var 0)) (dg_name (i := 2) nd) (dss_one (ds_for (passes_of rfl) rfl (di_keys (de_ix (de_var 2) de_int)) (dg_name (i := 3) nd) (dss_one (ds_put (units1 hr) de_bl (de_var 1) (de_var 3))))))
  (dss_one (ds_ret (de_sortL (k := 0) 0 (tb_of hB hcs) hcd hr (by decide) T.n_sorted (de_frzD (de_var 1)) (NdefX.nscope_by (N := ["spot"]) (ps := ["spot"]) (fr := []) (by decide +kernel)) (fun _ _ _ _ us hl => match us, hl with | [_], _ => rfl) (fun _ _ _ _ _ _ _ hr => ⟨_, (de_tup (da_cons (de_ix (de_var 0) de_int) (da_cons (de_ix (de_var 0) de_int) da_nil)))⟩))))))⟩
theorem ok_l_changes (T : Tx K w mg) (hB : ∀ p ∈ T.cs, LamX.TabB base mg p.1 p.2) : FnOk P w K mg base (L2.CX P w) 5 T.f__law_changes.a T.f__law_changes.fd ["base", "book"] (spB K 2 (m_l_changes (T.cs.map (·.2)))) := by
  refine fnB (N := n_l_changes) T.f__law_changes.F sc_l_changes fun cdv A outer s H E hr => ?_
  have nd := sc_l_changes.nd
  have tk := takes_of (X := cxOf (L2.CX P w) P w K mg base n_l_changes "_law_changes" (defScope s_l_changes) T.f__law_changes.a cdv A outer s H E) (E := E) rfl rfl rfl rfl
  exact ⟨_, (dss_cons (ds_setLcO (i := 2) nd rfl (di_list (de_callB' ((ok_l_spots T hB).mono (by decide)) hr tk T.f__law_spots.m T.f__law_spots.F.kp T.f__law_spots.b (da_cons (de_lst (da_cons (de_var 0) (da_cons (de_var 1) da_nil))) da_nil))) (blkOk_by (own := [((PySem.Str.ofString "spot"), 4)]) (N := n_l_changes) (sc := defScope s_l_changes) (by decide +kernel)) (fun _ _ _ _ _ => (dg_name (i := 4) nd)) (fun _ _ _ _ _ => (dpt_one (dt_cmp (od_ne hr.units) bool_dNe (de_callA ((ok_l_entry T).mono (by decide)) hr takes0 T.f__law_entry.m T.f__law_entry.F.kp T.f__law_entry.b (da_cons (de_var 0) (da_cons (de_var 4) da_nil))) (de_callA ((ok_l_entry T).mono (by decide)) hr takes0 T.f__law_entry.m T.f__law_entry.F.kp T.f__law_entry.b (da_cons (de_var 1) (da_cons (de_var 4) da_nil)))))) (fun _ _ _ _ _ => (de_tup (da_cons de_str (da_cons (de_var 4) da_nil)))))
  (dss_cons (ds_if (dt_cmp (od_ne hr.units) bool_dNe (de_ix (de_var 0) de_int) (de_ix (de_var 1) de_int)) (dss_one (ds_expr (de_mth md_app (de_var 2) (da_cons (de_tup (da_cons de_str (da_cons de_non da_nil))) da_nil) PySem.F.plainAttrs_list PySem.F.slot_list_append PySem.F.type_list_append))) dss_nil)
  (dss_cons (ds_for (passes_of rfl) rfl (di_range1 T.n_range (da_cons (de_callB cd_len T.n_len (da_cons (de_ix (de_var 1) de_int) da_nil)) da_nil)) (dg_name (i := 3) nd) (dss_one (ds_if (dt_cmp (od_ne hr.units) bool_dNe (de_sl (de_ix (de_var 0) de_int) (dp_some (de_var 3)) (dp_some (de_bin od_add (de_var 3) de_int))) (de_sl (de_ix (de_var 1) de_int) (dp_some (de_var 3)) (dp_some (de_bin od_add (de_var 3) de_int)))) (dss_one (ds_expr (de_mth md_app (de_var 2) (da_cons (de_tup (da_cons de_str (da_cons (de_var 3) da_nil))) da_nil) PySem.F.plainAttrs_list PySem.F.slot_list_append PySem.F.type_list_append))) dss_nil)))
  (dss_one (ds_ret (de_frz (de_var 2)))))))⟩
theorem ok_l_merged (T : Tx K w mg) (hB : ∀ p ∈ T.cs, LamX.TabB base mg p.1 p.2) : FnOk P w K mg base (L2.CX P w) 5 T.f__law_merged.a T.f__law_merged.fd ["base", "one", "other"] (spB K 3 (m_l_merged (T.cs.map (·.2)))) := by
  refine fnB (N := n_l_merged) T.f__law_merged.F sc_l_merged fun cdv A outer s H E hr => ?_
  have nd := sc_l_merged.nd
  have tk := takes_of (X := cxOf (L2.CX P w) P w K mg base n_l_merged "_law_merged" (defScope s_l_merged) T.f__law_merged.a cdv A outer s H E) (E := E) rfl rfl rfl rfl
  exact ⟨_, (dss_cons (ds_par3 (i := 3) (j := 4) (l := 5) rfl nd (da_cons de_dnewT (da_cons de_dnewT (da_cons (de_lstO da_nil) da_nil))))
  (dss_cons (ds_for (passes_of rfl) rfl (di_list (de_callB' ((ok_l_spots T hB).mono (by decide)) hr tk T.f__law_spots.m T.f__law_spots.F.kp T.f__law_spots.b (da_cons (de_lst (da_cons (de_var 0) (da_cons (de_var 1) (da_cons (de_var 2) da_nil)))) da_nil))) (dg_name (i := 6) nd) (dss_cons (ds_par3 (i := 7) (j := 8) (l := 9) rfl nd (da_cons (de_callA ((ok_l_entry T).mono (by decide)) hr tk T.f__law_entry.m T.f__law_entry.F.kp T.f__law_entry.b (da_cons (de_var 0) (da_cons (de_var 6) da_nil))) (da_cons (de_callA ((ok_l_entry T).mono (by decide)) hr tk T.f__law_entry.m T.f__law_entry.F.kp T.f__law_entry.b (da_cons (de_var 1) (da_cons (de_var 6) da_nil))) (da_cons (de_callA ((ok_l_entry T).mono (by decide)) hr tk T.f__law_entry.m T.f__law_entry.F.kp T.f__law_entry.b (da_cons (de_var 2) (da_cons (de_var 6) da_nil))) da_nil))))
  (dss_cons (ds_set (i := 10) nd (de_var 8))
  (dss_cons (ds_if (dt_cmp (od_eq hr.units) bool_dEq (de_var 8) (de_var 7)) (dss_one (ds_set (i := 10) nd (de_var 9))) dss_nil)
  (dss_cons (ds_if (dt_w (dw_and (dt_cmp (od_ne hr.units) bool_dNe (de_var 8) (de_var 7)) (dw_and (dt_cmp (od_ne hr.units) bool_dNe (de_var 9) (de_var 7)) (dw_and1 (dt_cmp (od_ne hr.units) bool_dNe (de_var 8) (de_var 9)))))) (dss_one (ds_expr (de_mth md_app (de_var 5) (da_cons (de_tup (da_cons de_str (da_cons (de_var 6) da_nil))) da_nil) PySem.F.plainAttrs_list PySem.F.slot_list_append PySem.F.type_list_append))) dss_nil)
  (dss_one (ds_if (dt_cmp (od_ne hr.units) bool_dNe (de_ix (de_var 10) de_int) de_str) (dss_cons (ds_put (units1 hr) (de_ix (de_var 10) de_int) (de_var 3) (de_var 6))
  (dss_one (ds_put (units1 hr) (de_ix (de_var 10) de_int) (de_var 4) (de_var 6)))) dss_nil)))))))
  (dss_cons (ds_set (i := 11) nd (de_ix (de_var 1) de_int))
  (dss_cons (ds_if (dt_cmp (od_eq hr.units) bool_dEq (de_var 11) (de_ix (de_var 0) de_int)) (dss_one (ds_set (i := 11) nd (de_ix (de_var 2) de_int))) dss_nil)
  (dss_cons (ds_if (dt_w (dw_and (dt_cmp (od_ne hr.units) bool_dNe (de_ix (de_var 1) de_int) (de_ix (de_var 0) de_int)) (dw_and (dt_cmp (od_ne hr.units) bool_dNe (de_ix (de_var 2) de_int) (de_ix (de_var 0) de_int)) (dw_and1 (dt_cmp (od_ne hr.units) bool_dNe (de_ix (de_var 1) de_int) (de_ix (de_var 2) de_int)))))) (dss_one (ds_expr (de_mth md_app (de_var 5) (da_cons (de_tup (da_cons de_str (da_cons de_non da_nil))) da_nil) PySem.F.plainAttrs_list PySem.F.slot_list_append PySem.F.type_list_append))) dss_nil)
  (dss_cons (ds_if (dt_cmp od_gt bool_dIb (de_callB cd_len T.n_len (da_cons (de_var 5) da_nil)) de_int) (dss_one (ds_ret (de_tup (da_cons de_non (da_cons (de_frz (de_var 5)) da_nil))))) dss_nil)
  (dss_cons (ds_set (i := 12) nd (de_callB cd_len T.n_len (da_cons (de_ix (de_var 0) de_int) da_nil)))
  (dss_cons (ds_set (i := 13) nd (de_lstO da_nil))
  (dss_cons (ds_for (passes_of rfl) rfl (di_range1 T.n_range (da_cons (de_var 12) da_nil)) (dg_name (i := 14) nd) (dss_cons (ds_set (i := 15) nd (de_lst (da_cons (de_ix (de_ix (de_ix (de_var 1) de_int) (de_var 14)) de_int) (da_cons (de_ix (de_ix (de_ix (de_var 2) de_int) (de_var 14)) de_int) da_nil))))
  (dss_cons (ds_set (i := 16) nd (de_cmp od_gt (de_callB cd_len T.n_len (da_cons (de_lc nd rfl (di_list (de_var 15)) (blkOk_by (own := [((PySem.Str.ofString "flag"), 18)]) (N := n_l_merged) (sc := defScope s_l_merged) (by decide +kernel)) (fun _ _ _ _ _ => (dg_name (i := 18) nd)) (fun _ _ _ _ _ => (dpt_one (dt_cmp (od_ne hr.units) bool_dNe (de_var 18) (de_ix (de_ix (de_ix (de_var 0) de_int) (de_var 14)) de_int)))) (fun _ _ _ _ _ => (de_var 18))) da_nil)) de_int))
  (dss_one (ds_expr (de_mth md_app (de_var 13) (da_cons (de_bin od_catT (de_slT (de_ix (de_ix (de_var 0) de_int) (de_var 14)) dp_none (dp_some de_int)) (de_tup (da_cons (de_cmp (od_ne hr.units) (de_ix (de_ix (de_ix (de_var 0) de_int) (de_var 14)) de_int) (de_var 16)) da_nil))) da_nil) PySem.F.plainAttrs_list PySem.F.slot_list_append PySem.F.type_list_append))))))
  (dss_cons (ds_set (i := 17) nd (de_bin od_add2 (de_sl (de_ix (de_var 1) de_int) (dp_some (de_var 12)) dp_none) (de_sl (de_ix (de_var 2) de_int) (dp_some (de_var 12)) dp_none)))
  (dss_cons (ds_if (dt_w (dw_and (dt_cmp od_gt bool_dIb (de_callB cd_len T.n_len (da_cons (de_ix (de_var 1) de_int) da_nil)) (de_var 12)) (dw_and1 (dt_cmp od_gt bool_dIb (de_callB cd_len T.n_len (da_cons (de_ix (de_var 2) de_int) da_nil)) (de_var 12))))) (dss_one (ds_set (i := 17) nd (de_callB (cd_sort (units67 hr)) T.n_sorted (da_cons (de_var 17) da_nil)))) dss_nil)
  (dss_one (ds_ret (de_tup (da_cons (de_tup (da_cons de_str (da_cons (de_ix (de_var 0) de_int) (da_cons (de_frzD (de_var 3)) (da_cons (de_frzD (de_var 4)) (da_cons (de_var 11) (da_cons (de_bin od_add2 (de_frz (de_var 13)) (de_var 17)) da_nil))))))) (da_cons (de_lst da_nil) da_nil))))))))))))))))⟩
theorem ok_l_state (T : Tx K w mg) : FnOk P w K mg base (L2.CX P w) 1 T.f__law_state.a T.f__law_state.fd ["script"] (spB K 1 m_l_state) := by
  refine fnB (N := n_l_state) T.f__law_state.F sc_l_state fun cdv A outer s H E hr => ?_
  have nd := sc_l_state.nd
  have tk := takes_of (X := cxOf (L2.CX P w) P w K mg base n_l_state "_law_state" (defScope s_l_state) T.f__law_state.a cdv A outer s H E) (E := E) rfl rfl rfl rfl
  exact ⟨_, (dss_cons (ds_setLcO (i := 1) nd rfl (di_list (de_sl (de_var 0) dp_none (dp_some de_int))) (blkOk_by (own := [((PySem.Str.ofString "cell"), 2)]) (N := n_l_state) (sc := defScope s_l_state) (by decide +kernel)) (fun _ _ _ _ _ => (dg_name (i := 2) nd)) (fun _ _ _ _ _ => dpt_nil) (fun _ _ _ _ _ => (de_callB cd_abs T.n_abs (da_cons (de_var 2) da_nil))))
  (dss_cons (ds_if (dt_cmp (od_eq hr.units) bool_dEq (de_callB cd_len T.n_len (da_cons (de_var 1) da_nil)) de_int) (dss_one (ds_set (i := 1) nd (de_lstO (da_cons de_int da_nil)))) dss_nil)
  (dss_one (ds_ret (de_lstO (da_cons de_int (da_cons (de_var 1) da_nil)))))))⟩
theorem ok_conflict (T : Tx K w mg) : FnOk P w K mg base (L2.CX P w) 1 T.f__conflict.a T.f__conflict.fd ["base", "one", "other"] (spA K 3 m_conflict) := by
  refine fnA (N := n_conflict) T.f__conflict.F sc_conflict fun cdv A outer s H E hr => ?_
  have nd := sc_conflict.nd
  have tk := takes_of (X := cxOf (L2.CX P w) P w K mg base n_conflict "_conflict" (defScope s_conflict) T.f__conflict.a cdv A outer s H E) (E := E) rfl rfl rfl rfl
  exact ⟨_, (dss_one (ds_ret (de_and (de_cmp (od_ne hr.units) (de_var 0) (de_var 1)) (de_and (de_cmp (od_ne hr.units) (de_var 0) (de_var 2)) (de_one (de_cmp (od_ne hr.units) (de_var 1) (de_var 2)))))))⟩
theorem ok_entry_of (T : Tx K w mg) : FnOk P w K mg base (L2.CX P w) 1 T.f_entry_of.a T.f_entry_of.fd ["book", "address"] (spA K 2 m_entry_of) := by
  refine fnA (N := n_entry_of) T.f_entry_of.F sc_entry_of fun cdv A outer s H E hr => ?_
  have nd := sc_entry_of.nd
  have tk := takes_of (X := cxOf (L2.CX P w) P w K mg base n_entry_of "entry_of" (defScope s_entry_of) T.f_entry_of.a cdv A outer s H E) (E := E) rfl rfl rfl rfl
  exact ⟨_, (dss_one (ds_ret (de_tup (da_cons (de_dgm2 (units1 hr) (de_ix (de_var 0) de_int) (de_var 1) de_str) (da_cons (de_dgm1 (units1 hr) (de_ix (de_var 0) de_int) (de_var 1)) da_nil)))))⟩
theorem ok_entries_conflict (T : Tx K w mg) : FnOk P w K mg base (L2.CX P w) 2 T.f__entries_conflict.a T.f__entries_conflict.fd ["base", "one", "other", "address"] (spA K 4 m_entries_conflict) := by
  refine fnA (N := n_entries_conflict) T.f__entries_conflict.F sc_entries_conflict fun cdv A outer s H E hr => ?_
  have nd := sc_entries_conflict.nd
  have tk := takes_of (X := cxOf (L2.CX P w) P w K mg base n_entries_conflict "_entries_conflict" (defScope s_entries_conflict) T.f__entries_conflict.a cdv A outer s H E) (E := E) rfl rfl rfl rfl
  exact ⟨_, (dss_one (ds_ret (de_callA ((ok_conflict T).mono (by decide)) hr tk T.f__conflict.m T.f__conflict.F.kp T.f__conflict.b (da_cons (de_callA ((ok_entry_of T).mono (by decide)) hr tk T.f_entry_of.m T.f_entry_of.F.kp T.f_entry_of.b (da_cons (de_var 0) (da_cons (de_var 3) da_nil))) (da_cons (de_callA ((ok_entry_of T).mono (by decide)) hr tk T.f_entry_of.m T.f_entry_of.F.kp T.f_entry_of.b (da_cons (de_var 1) (da_cons (de_var 3) da_nil))) (da_cons (de_callA ((ok_entry_of T).mono (by decide)) hr tk T.f_entry_of.m T.f_entry_of.F.kp T.f_entry_of.b (da_cons (de_var 2) (da_cons (de_var 3) da_nil))) da_nil))))))⟩
theorem ok_taken (T : Tx K w mg) : FnOk P w K mg base (L2.CX P w) 1 T.f__taken.a T.f__taken.fd ["base", "one", "other"] (spA K 3 m_taken) := by
  refine fnA (N := n_taken) T.f__taken.F sc_taken fun cdv A outer s H E hr => ?_
  have nd := sc_taken.nd
  have tk := takes_of (X := cxOf (L2.CX P w) P w K mg base n_taken "_taken" (defScope s_taken) T.f__taken.a cdv A outer s H E) (E := E) rfl rfl rfl rfl
  exact ⟨_, (dss_one (ds_ret (de_ifE (dt_cmp (od_eq hr.units) bool_dEq (de_var 1) (de_var 0)) (de_var 2) (de_var 1))))⟩
theorem ok_grant_copy (T : Tx K w mg) : FnOk P w K mg base (L2.CX P w) 1 T.f_grant_copy.a T.f_grant_copy.fd ["grant"] (spA K 1 m_grant_copy) := by
  refine fnA (N := n_grant_copy) T.f_grant_copy.F sc_grant_copy fun cdv A outer s H E hr => ?_
  have nd := sc_grant_copy.nd
  have tk := takes_of (X := cxOf (L2.CX P w) P w K mg base n_grant_copy "grant_copy" (defScope s_grant_copy) T.f_grant_copy.a cdv A outer s H E) (E := E) rfl rfl rfl rfl
  exact ⟨_, (dss_cons (ds_asg (de_var 0) (dg_tup rfl (dgs_cons (dg_name (i := 1) nd) (dgs_cons (dg_name (i := 2) nd) (dgs_cons (dg_name (i := 3) nd) (dgs_cons (dg_name (i := 4) nd) (dgs_cons (dg_name (i := 5) nd) dgs_nil)))))))
  (dss_one (ds_ret (de_tup (da_cons (de_var 1) (da_cons (de_callTy cd_list T.n_list (da_cons (de_var 2) da_nil)) (da_cons (de_callTy cd_list T.n_list (da_cons (de_var 3) da_nil)) (da_cons (de_var 4) (da_cons (de_var 5) da_nil)))))))))⟩
theorem ok_merged_grants (T : Tx K w mg) : FnOk P w K mg base (L2.CX P w) 2 T.f__merged_grants.a T.f__merged_grants.fd ["grants", "ones", "others"] (spA K 3 m_merged_grants) := by
  refine fnA (N := n_merged_grants) T.f__merged_grants.F sc_merged_grants fun cdv A outer s H E hr => ?_
  have nd := sc_merged_grants.nd
  have tk := takes_of (X := cxOf (L2.CX P w) P w K mg base n_merged_grants "_merged_grants" (defScope s_merged_grants) T.f__merged_grants.a cdv A outer s H E) (E := E) rfl rfl rfl rfl
  exact ⟨_, (dss_cons (ds_set (i := 3) nd (de_lstO da_nil))
  (dss_cons (ds_for (passes_of rfl) rfl (di_enum T.n_enumerate (da_cons (de_var 0) da_nil)) (dg_tup rfl (dgs_cons (dg_name (i := 4) nd) (dgs_cons (dg_name (i := 5) nd) dgs_nil))) (dss_cons (ds_asg (de_callA ((ok_grant_copy T).mono (by decide)) hr tk T.f_grant_copy.m T.f_grant_copy.F.kp T.f_grant_copy.b (da_cons (de_var 5) da_nil)) (dg_tup rfl (dgs_cons (dg_name (i := 6) nd) (dgs_cons (dg_name (i := 7) nd) (dgs_cons (dg_name (i := 8) nd) (dgs_cons (dg_name (i := 9) nd) (dgs_cons (dg_name (i := 10) nd) dgs_nil)))))))
  (dss_one (ds_expr (de_mth md_app (de_var 3) (da_cons (de_tup (da_cons (de_var 6) (da_cons (de_var 7) (da_cons (de_var 8) (da_cons (de_var 9) (da_cons (de_callA ((ok_taken T).mono (by decide)) hr tk T.f__taken.m T.f__taken.F.kp T.f__taken.b (da_cons (de_var 10) (da_cons (de_ix (de_ix (de_var 1) (de_var 4)) de_int) (da_cons (de_ix (de_ix (de_var 2) (de_var 4)) de_int) da_nil)))) da_nil)))))) da_nil) PySem.F.plainAttrs_list PySem.F.slot_list_append PySem.F.type_list_append)))))
  (dss_cons (ds_set (i := 11) nd (de_bin od_add2 (de_sl (de_var 1) (dp_some (de_callB cd_len T.n_len (da_cons (de_var 0) da_nil))) dp_none) (de_sl (de_var 2) (dp_some (de_callB cd_len T.n_len (da_cons (de_var 0) da_nil))) dp_none)))
  (dss_cons (ds_if (dt_w (dw_and (dt_cmp od_gt bool_dIb (de_callB cd_len T.n_len (da_cons (de_var 1) da_nil)) (de_callB cd_len T.n_len (da_cons (de_var 0) da_nil))) (dw_and1 (dt_cmp od_gt bool_dIb (de_callB cd_len T.n_len (da_cons (de_var 2) da_nil)) (de_callB cd_len T.n_len (da_cons (de_var 0) da_nil)))))) (dss_one (ds_set (i := 11) nd (de_callB (cd_sort (units67 hr)) T.n_sorted (da_cons (de_var 11) da_nil)))) dss_nil)
  (dss_one (ds_ret (de_bin od_add2 (de_frz (de_var 3)) (de_lc nd rfl (di_list (de_var 11)) (blkOk_by (own := [((PySem.Str.ofString "grant"), 5)]) (N := n_merged_grants) (sc := defScope s_merged_grants) (by decide +kernel)) (fun _ _ _ _ _ => (dg_name (i := 5) nd)) (fun _ _ _ _ _ => dpt_nil) (fun _ _ _ _ _ => (de_callA ((ok_grant_copy T).mono (by decide)) hr takes0 T.f_grant_copy.m T.f_grant_copy.F.kp T.f_grant_copy.b (da_cons (de_var 5) da_nil)))))))))))⟩
theorem ok_place_key (T : Tx K w mg) : FnOk P w K mg base (L2.CX P w) 1 T.f_place_key.a T.f_place_key.fd ["address"] (spA K 1 m_place_key) := by
  refine fnA (N := n_place_key) T.f_place_key.F sc_place_key fun cdv A outer s H E hr => ?_
  have nd := sc_place_key.nd
  have tk := takes_of (X := cxOf (L2.CX P w) P w K mg base n_place_key "place_key" (defScope s_place_key) T.f_place_key.a cdv A outer s H E) (E := E) rfl rfl rfl rfl
  exact ⟨_, (dss_one (ds_ret (de_tup (da_cons (de_ix (de_var 0) de_int) (da_cons (de_ix (de_var 0) de_int) da_nil)))))⟩
theorem ok_addresses_in (T : Tx K w mg) : FnOk P w K mg base (L2.CX P w) 4 T.f_addresses_in.a T.f_addresses_in.fd ["books"] (spA K 1 m_addresses_in) := by
  refine fnA (N := n_addresses_in) T.f_addresses_in.F sc_addresses_in fun cdv A outer s H E hr => ?_
  have nd := sc_addresses_in.nd
  have tk := takes_of (X := cxOf (L2.CX P w) P w K mg base n_addresses_in "addresses_in" (defScope s_addresses_in) T.f_addresses_in.a cdv A outer s H E) (E := E) rfl rfl rfl rfl
  exact ⟨_, (dss_cons (ds_setDc2 (vs1 := [3]) (i := 1) (units2 hr) nd rfl (di_list (de_var 0)) (blkOk_by (own := [((PySem.Str.ofString "book"), 2), ((PySem.Str.ofString "address"), 3)]) (N := n_addresses_in) (sc := defScope s_addresses_in) (by decide +kernel)) (fun _ _ _ _ _ => (dg_name (i := 2) nd)) (fun _ _ _ _ _ => dpt_nil) (fun _ _ _ _ _ => (di_keys (de_ix (de_var 2) de_int))) (fun _ _ _ _ _ => (dg_name (i := 3) nd)) (fun _ _ _ _ _ => dpt_nil) (fun _ _ _ _ _ => (de_var 3)) (fun _ _ _ _ _ => de_bl))
  (dss_one (ds_ret (de_sortK (ok_place_key T) hr (by decide) T.n_sorted T.f_place_key.m T.f_place_key.b (de_frzD (de_var 1))))))⟩
theorem ok_rule_copy (T : Tx K w mg) : FnOk P w K mg base (L2.CX P w) 1 T.f_rule_copy.a T.f_rule_copy.fd ["rule"] (spA K 1 m_rule_copy) := by
  refine fnA (N := n_rule_copy) T.f_rule_copy.F sc_rule_copy fun cdv A outer s H E hr => ?_
  have nd := sc_rule_copy.nd
  have tk := takes_of (X := cxOf (L2.CX P w) P w K mg base n_rule_copy "rule_copy" (defScope s_rule_copy) T.f_rule_copy.a cdv A outer s H E) (E := E) rfl rfl rfl rfl
  exact ⟨_, (dss_cons (ds_asg (de_var 0) (dg_tup rfl (dgs_cons (dg_name (i := 1) nd) (dgs_cons (dg_name (i := 2) nd) (dgs_cons (dg_name (i := 3) nd) (dgs_cons (dg_name (i := 4) nd) dgs_nil))))))
  (dss_one (ds_ret (de_tup (da_cons (de_var 1) (da_cons (de_callTy cd_list T.n_list (da_cons (de_var 2) da_nil)) (da_cons (de_callTy cd_list T.n_list (da_cons (de_var 3) da_nil)) (da_cons (de_callTy cd_list T.n_list (da_cons (de_var 4) da_nil)) da_nil))))))))⟩
theorem ok_merged (T : Tx K w mg) : FnOk P w K mg base (L2.CX P w) 5 T.f_merged.a T.f_merged.fd ["base", "one", "other"] (spA K 3 m_merged) := by
  refine fnA (N := n_merged) T.f_merged.F sc_merged fun cdv A outer s H E hr => ?_
  have nd := sc_merged.nd
  have tk := takes_of (X := cxOf (L2.CX P w) P w K mg base n_merged "merged" (defScope s_merged) T.f_merged.a cdv A outer s H E) (E := E) rfl rfl rfl rfl
  exact ⟨_, (dss_cons (ds_set (i := 3) nd (de_callA ((ok_addresses_in T).mono (by decide)) hr tk T.f_addresses_in.m T.f_addresses_in.F.kp T.f_addresses_in.b (da_cons (de_lst (da_cons (de_var 0) (da_cons (de_var 1) (da_cons (de_var 2) da_nil)))) da_nil)))
  (dss_cons (ds_setLcO (i := 4) nd rfl (di_list (de_var 3)) (blkOk_by (own := [((PySem.Str.ofString "address"), 7)]) (N := n_merged) (sc := defScope s_merged) (by decide +kernel)) (fun _ _ _ _ _ => (dg_name (i := 7) nd)) (fun _ _ _ _ _ => (dpt_one (dt_tru (de_callA ((ok_entries_conflict T).mono (by decide)) hr takes0 T.f__entries_conflict.m T.f__entries_conflict.F.kp T.f__entries_conflict.b (da_cons (de_var 0) (da_cons (de_var 1) (da_cons (de_var 2) (da_cons (de_var 7) da_nil)))))))) (fun _ _ _ _ _ => (de_tup (da_cons de_str (da_cons (de_var 7) da_nil)))))
  (dss_cons (ds_if (dt_tru (de_callA ((ok_conflict T).mono (by decide)) hr tk T.f__conflict.m T.f__conflict.F.kp T.f__conflict.b (da_cons (de_ix (de_var 0) de_int) (da_cons (de_ix (de_var 1) de_int) (da_cons (de_ix (de_var 2) de_int) da_nil))))) (dss_one (ds_expr (de_mth md_app (de_var 4) (da_cons (de_tup (da_cons de_str (da_cons de_non da_nil))) da_nil) PySem.F.plainAttrs_list PySem.F.slot_list_append PySem.F.type_list_append))) dss_nil)
  (dss_cons (ds_if (dt_tru (de_var 4)) (dss_one (ds_ret (de_tup (da_cons de_non (da_cons (de_frz (de_var 4)) da_nil))))) dss_nil)
  (dss_cons (ds_set (i := 5) nd de_dnewT)
  (dss_cons (ds_set (i := 6) nd de_dnewT)
  (dss_cons (ds_for (passes_of rfl) rfl (di_list (de_var 3)) (dg_name (i := 7) nd) (dss_cons (ds_asg (de_callA ((ok_taken T).mono (by decide)) hr tk T.f__taken.m T.f__taken.F.kp T.f__taken.b (da_cons (de_callA ((ok_entry_of T).mono (by decide)) hr tk T.f_entry_of.m T.f_entry_of.F.kp T.f_entry_of.b (da_cons (de_var 0) (da_cons (de_var 7) da_nil))) (da_cons (de_callA ((ok_entry_of T).mono (by decide)) hr tk T.f_entry_of.m T.f_entry_of.F.kp T.f_entry_of.b (da_cons (de_var 1) (da_cons (de_var 7) da_nil))) (da_cons (de_callA ((ok_entry_of T).mono (by decide)) hr tk T.f_entry_of.m T.f_entry_of.F.kp T.f_entry_of.b (da_cons (de_var 2) (da_cons (de_var 7) da_nil))) da_nil)))) (dg_tup rfl (dgs_cons (dg_name (i := 8) nd) (dgs_cons (dg_name (i := 9) nd) dgs_nil))))
  (dss_one (ds_if (dt_cmp (od_ne hr.units) bool_dNe (de_var 8) de_str) (dss_cons (ds_put (units1 hr) (de_var 8) (de_var 5) (de_var 7))
  (dss_one (ds_put (units1 hr) (de_var 9) (de_var 6) (de_var 7)))) dss_nil))))
  (dss_cons (ds_setLc (i := 10) nd rfl (di_list (de_callA ((ok_taken T).mono (by decide)) hr tk T.f__taken.m T.f__taken.F.kp T.f__taken.b (da_cons (de_ix (de_var 0) de_int) (da_cons (de_ix (de_var 1) de_int) (da_cons (de_ix (de_var 2) de_int) da_nil))))) (blkOk_by (own := [((PySem.Str.ofString "rule"), 11)]) (N := n_merged) (sc := defScope s_merged) (by decide +kernel)) (fun _ _ _ _ _ => (dg_name (i := 11) nd)) (fun _ _ _ _ _ => dpt_nil) (fun _ _ _ _ _ => (de_callA ((ok_rule_copy T).mono (by decide)) hr takes0 T.f_rule_copy.m T.f_rule_copy.F.kp T.f_rule_copy.b (da_cons (de_var 11) da_nil))))
  (dss_one (ds_ret (de_tup (da_cons (de_tup (da_cons de_str (da_cons (de_ix (de_var 0) de_int) (da_cons (de_frzD (de_var 5)) (da_cons (de_frzD (de_var 6)) (da_cons (de_var 10) (da_cons (de_callA ((ok_merged_grants T).mono (by decide)) hr tk T.f__merged_grants.m T.f__merged_grants.F.kp T.f__merged_grants.b (da_cons (de_ix (de_var 0) de_int) (da_cons (de_ix (de_var 1) de_int) (da_cons (de_ix (de_var 2) de_int) da_nil)))) da_nil))))))) (da_cons (de_lst da_nil) da_nil)))))))))))))⟩
theorem ok_changed_cells (T : Tx K w mg) : FnOk P w K mg base (L2.CX P w) 5 T.f_changed_cells.a T.f_changed_cells.fd ["book", "other"] (spA K 2 m_changed_cells) := by
  refine fnA (N := n_changed_cells) T.f_changed_cells.F sc_changed_cells fun cdv A outer s H E hr => ?_
  have nd := sc_changed_cells.nd
  have tk := takes_of (X := cxOf (L2.CX P w) P w K mg base n_changed_cells "changed_cells" (defScope s_changed_cells) T.f_changed_cells.a cdv A outer s H E) (E := E) rfl rfl rfl rfl
  exact ⟨_, (dss_cons (ds_set (i := 2) nd (de_callA ((ok_addresses_in T).mono (by decide)) hr tk T.f_addresses_in.m T.f_addresses_in.F.kp T.f_addresses_in.b (da_cons (de_lst (da_cons (de_var 0) (da_cons (de_var 1) da_nil))) da_nil)))
  (dss_one (ds_ret (de_lc nd rfl (di_list (de_var 2)) (blkOk_by (own := [((PySem.Str.ofString "address"), 3)]) (N := n_changed_cells) (sc := defScope s_changed_cells) (by decide +kernel)) (fun _ _ _ _ _ => (dg_name (i := 3) nd)) (fun _ _ _ _ _ => (dpt_one (dt_cmp (od_ne hr.units) bool_dNe (de_callA ((ok_entry_of T).mono (by decide)) hr takes0 T.f_entry_of.m T.f_entry_of.F.kp T.f_entry_of.b (da_cons (de_var 0) (da_cons (de_var 3) da_nil))) (de_callA ((ok_entry_of T).mono (by decide)) hr takes0 T.f_entry_of.m T.f_entry_of.F.kp T.f_entry_of.b (da_cons (de_var 1) (da_cons (de_var 3) da_nil)))))) (fun _ _ _ _ _ => (de_var 3))))))⟩
theorem ok_touched (T : Tx K w mg) : FnOk P w K mg base (L2.CX P w) 6 T.f_touched.a T.f_touched.fd ["base", "book"] (spA K 2 m_touched) := by
  refine fnA (N := n_touched) T.f_touched.F sc_touched fun cdv A outer s H E hr => ?_
  have nd := sc_touched.nd
  have tk := takes_of (X := cxOf (L2.CX P w) P w K mg base n_touched "touched" (defScope s_touched) T.f_touched.a cdv A outer s H E) (E := E) rfl rfl rfl rfl
  exact ⟨_, (dss_cons (ds_setLcO (i := 2) nd rfl (di_list (de_callA ((ok_changed_cells T).mono (by decide)) hr tk T.f_changed_cells.m T.f_changed_cells.F.kp T.f_changed_cells.b (da_cons (de_var 0) (da_cons (de_var 1) da_nil)))) (blkOk_by (own := [((PySem.Str.ofString "address"), 5)]) (N := n_touched) (sc := defScope s_touched) (by decide +kernel)) (fun _ _ _ _ _ => (dg_name (i := 5) nd)) (fun _ _ _ _ _ => dpt_nil) (fun _ _ _ _ _ => (de_tup (da_cons de_str (da_cons (de_var 5) da_nil)))))
  (dss_cons (ds_if (dt_cmp (od_ne hr.units) bool_dNe (de_ix (de_var 0) de_int) (de_ix (de_var 1) de_int)) (dss_one (ds_expr (de_mth md_app (de_var 2) (da_cons (de_tup (da_cons de_str (da_cons de_non da_nil))) da_nil) PySem.F.plainAttrs_list PySem.F.slot_list_append PySem.F.type_list_append))) dss_nil)
  (dss_cons (ds_for (passes_of rfl) rfl (di_enum T.n_enumerate (da_cons (de_ix (de_var 1) de_int) da_nil)) (dg_tup rfl (dgs_cons (dg_name (i := 3) nd) (dgs_cons (dg_name (i := 4) nd) dgs_nil))) (dss_one (ds_if (dt_w (dw_or (dt_cmp od_ge bool_dIb (de_var 3) (de_callB cd_len T.n_len (da_cons (de_ix (de_var 0) de_int) da_nil))) (dw_or1 (dt_cmp (od_ne hr.units) bool_dNe (de_ix (de_ix (de_ix (de_var 0) de_int) (de_var 3)) de_int) (de_ix (de_var 4) de_int))))) (dss_one (ds_expr (de_mth md_app (de_var 2) (da_cons (de_tup (da_cons de_str (da_cons (de_var 3) da_nil))) da_nil) PySem.F.plainAttrs_list PySem.F.slot_list_append PySem.F.type_list_append))) dss_nil)))
  (dss_one (ds_ret (de_frz (de_var 2)))))))⟩
theorem top_law (T : Tx K w mg) (hB : ∀ p ∈ T.cs, LamX.TabB base mg p.1 p.2) (hS : SysIn base) : TopB P w K mg base n_law "law" s_law T.f_law.a 6 (b_law (T.cs.map (·.2))) := by
  intro cdv s H E hr
  have nd := sc_law.nd
  have tk := takes_of (X := cxOf (L2.CX P w) P w K mg base n_law "law" (defScope s_law) T.f_law.a cdv callerA [] s H E) (E := E) rfl rfl rfl rfl
  exact ⟨_, (dss_cons (ds_set (i := 1) nd (de_callB' ((ok_l_state T).mono (by decide)) hr tk T.f__law_state.m T.f__law_state.F.kp T.f__law_state.b (da_cons (de_var 0) da_nil)))
  (dss_cons (ds_set (i := 2) nd (de_callB' ((ok_l_book T).mono (by decide)) hr tk T.f__law_book.m T.f__law_book.F.kp T.f__law_book.b (da_cons (de_var 1) (da_cons (de_bin od_add de_int (de_callB' ((ok_l_take T).mono (by decide)) hr tk T.f__law_take.m T.f__law_take.F.kp T.f__law_take.b (da_cons (de_var 1) (da_cons de_int da_nil)))) (da_cons de_int da_nil)))))
  (dss_cons (ds_par (i := 3) (j := 4) rfl nd (da_cons (de_var 2) (da_cons (de_var 2) da_nil)))
  (dss_cons (ds_for (passes_of rfl) rfl (di_range1 T.n_range (da_cons (de_callB' ((ok_l_take T).mono (by decide)) hr tk T.f__law_take.m T.f__law_take.F.kp T.f__law_take.b (da_cons (de_var 1) (da_cons de_int da_nil))) da_nil)) (dg_name (i := 5) nd) (dss_cons (ds_set (i := 6) nd (de_callB' ((ok_l_edit T).mono (by decide)) hr tk T.f__law_edit.m T.f__law_edit.F.kp T.f__law_edit.b (da_cons (de_var 1) (da_cons (de_var 3) da_nil))))
  (dss_cons (ds_set (i := 3) nd (de_callA ((ok_l_done T).mono (by decide)) hr tk T.f__law_done.m T.f__law_done.F.kp T.f__law_done.b (da_cons (de_var 3) (da_cons (de_var 6) da_nil))))
  (dss_one (ds_if (dt_w (dw_and (dt_cmp (od_eq hr.units) bool_dEq (de_callB' ((ok_l_take T).mono (by decide)) hr tk T.f__law_take.m T.f__law_take.F.kp T.f__law_take.b (da_cons (de_var 1) (da_cons de_int da_nil))) de_int) (dw_and (dt_cmp (od_eq hr.units) bool_dEq (de_ix (de_var 6) de_int) de_str) (dw_and1 (dt_w (dw_or (dt_cmp (od_ne hr.units) bool_dNe (de_ix (de_var 6) de_int) de_str) (dw_or1 (dt_din (units1 hr) (de_ix (de_var 6) de_int) (de_ix (de_var 4) de_int))))))))) (dss_one (ds_set (i := 4) nd (de_callA ((ok_l_done T).mono (by decide)) hr tk T.f__law_done.m T.f__law_done.F.kp T.f__law_done.b (da_cons (de_var 4) (da_cons (de_var 6) da_nil))))) dss_nil)))))
  (dss_cons (ds_for (passes_of rfl) rfl (di_range1 T.n_range (da_cons (de_callB' ((ok_l_take T).mono (by decide)) hr tk T.f__law_take.m T.f__law_take.F.kp T.f__law_take.b (da_cons (de_var 1) (da_cons de_int da_nil))) da_nil)) (dg_name (i := 5) nd) (dss_one (ds_set (i := 4) nd (de_callA ((ok_l_done T).mono (by decide)) hr tk T.f__law_done.m T.f__law_done.F.kp T.f__law_done.b (da_cons (de_var 4) (da_cons (de_callB' ((ok_l_edit T).mono (by decide)) hr tk T.f__law_edit.m T.f__law_edit.F.kp T.f__law_edit.b (da_cons (de_var 1) (da_cons (de_var 4) da_nil))) da_nil))))))
  (dss_cons (ds_set (i := 7) nd (de_callB (cd_reprL hS rfl (units66 hr) rfl) T.n_repr (da_cons (de_tup (da_cons (de_var 2) (da_cons (de_var 3) (da_cons (de_var 4) da_nil)))) da_nil)))
  (dss_cons (ds_set (i := 8) nd (de_callB' ((ok_l_merged T hB).mono (by decide)) hr tk T.f__law_merged.m T.f__law_merged.F.kp T.f__law_merged.b (da_cons (de_var 2) (da_cons (de_var 3) (da_cons (de_var 4) da_nil)))))
  (dss_cons (ds_if (dt_w (dw_or (dt_cmp (od_neB hr.units) bool_dNeB (de_callA ((ok_merged T).mono (by decide)) hr tk T.f_merged.m T.f_merged.F.kp T.f_merged.b (da_cons (de_var 2) (da_cons (de_var 3) (da_cons (de_var 4) da_nil)))) (de_var 8)) (dw_or1 (dt_cmp (od_neB hr.units) bool_dNeB (de_callA ((ok_merged T).mono (by decide)) hr tk T.f_merged.m T.f_merged.F.kp T.f_merged.b (da_cons (de_var 2) (da_cons (de_var 4) (da_cons (de_var 3) da_nil)))) (de_var 8))))) (dss_one (ds_ret de_bl)) dss_nil)
  (dss_cons (ds_if (dt_w (dw_or (dt_cmp (od_ne hr.units) bool_dNe (de_callA ((ok_touched T).mono (by decide)) hr tk T.f_touched.m T.f_touched.F.kp T.f_touched.b (da_cons (de_var 2) (da_cons (de_var 3) da_nil))) (de_callB' ((ok_l_changes T hB).mono (by decide)) hr tk T.f__law_changes.m T.f__law_changes.F.kp T.f__law_changes.b (da_cons (de_var 2) (da_cons (de_var 3) da_nil)))) (dw_or1 (dt_cmp (od_ne hr.units) bool_dNe (de_callA ((ok_touched T).mono (by decide)) hr tk T.f_touched.m T.f_touched.F.kp T.f_touched.b (da_cons (de_var 2) (da_cons (de_var 4) da_nil))) (de_callB' ((ok_l_changes T hB).mono (by decide)) hr tk T.f__law_changes.m T.f__law_changes.F.kp T.f__law_changes.b (da_cons (de_var 2) (da_cons (de_var 4) da_nil))))))) (dss_one (ds_ret de_bl)) dss_nil)
  (dss_cons (ds_if (dt_w (dw_or (dt_cmp (od_neB hr.units) bool_dNeB (de_callA ((ok_merged T).mono (by decide)) hr tk T.f_merged.m T.f_merged.F.kp T.f_merged.b (da_cons (de_var 2) (da_cons (de_var 3) (da_cons (de_var 2) da_nil)))) (de_tup (da_cons (de_var 3) (da_cons (de_lst da_nil) da_nil)))) (dw_or1 (dt_cmp (od_neB hr.units) bool_dNeB (de_callA ((ok_merged T).mono (by decide)) hr tk T.f_merged.m T.f_merged.F.kp T.f_merged.b (da_cons (de_var 2) (da_cons (de_var 2) (da_cons (de_var 4) da_nil)))) (de_tup (da_cons (de_var 4) (da_cons (de_lst da_nil) da_nil))))))) (dss_one (ds_ret de_bl)) dss_nil)
  (dss_cons (ds_if (dt_w (dw_and (dt_cmp (od_eq hr.units) bool_dEq (de_callB cd_len T.n_len (da_cons (de_ix (de_var 3) de_int) da_nil)) (de_callB cd_len T.n_len (da_cons (de_ix (de_var 2) de_int) da_nil))) (dw_and1 (dt_cmp (od_neB hr.units) bool_dNeB (de_callA ((ok_merged T).mono (by decide)) hr tk T.f_merged.m T.f_merged.F.kp T.f_merged.b (da_cons (de_var 2) (da_cons (de_var 3) (da_cons (de_var 3) da_nil)))) (de_tup (da_cons (de_var 3) (da_cons (de_lst da_nil) da_nil))))))) (dss_one (ds_ret de_bl)) dss_nil)
  (dss_one (ds_ret (de_cmp (od_eq hr.units) (de_callB (cd_reprL hS rfl (units66 hr) rfl) T.n_repr (da_cons (de_tup (da_cons (de_var 2) (da_cons (de_var 3) (da_cons (de_var 4) da_nil)))) da_nil)) (de_var 7)))))))))))))))⟩
end
theorem all_mk {l : PySem.W.OpenLaw} {w : World} {K : PySem.W.Frag} {h : Heap} {mg : Str → Option Value} {fa f0 f1 f2 f3 f4 f5 f6 f7 f8 f9 f10 f11 f12 f13 f14 f15 f16 f17 f18 f19 f20 f21 f22 f23 f24 f25 f26 f27 cc11 : Addr} (X : K.In h) (G : h.Ns mainGlobals mg) (hfa : mg "law" = some (.ref fa))
    {od0 an0 od1 an1 od2 an2 od3 an3 od4 an4 od5 an5 od6 an6 od7 an7 od8 an8 od9 an9 od10 an10 od11 an11 od12 an12 od13 an13 od14 an14 od15 an15 od16 an16 od17 an17 od18 an18 od19 an19 od20 an20 od21 an21 od22 an22 od23 an23 od24 an24 od25 an25 od26 an26 od27 an27 : Option Addr} {sl0 sl1 sl2 sl3 sl4 sl5 sl6 sl7 sl8 sl9 sl10 sl11 sl12 sl13 sl14 sl15 sl16 sl17 sl18 sl19 sl20 sl21 sl22 sl23 sl24 sl25 sl26 sl27 : Array (Option Value)} {oc0 kV0 dc0 pm0 cd0 ct0 oc1 kV1 dc1 pm1 cd1 ct1 oc2 kV2 dc2 pm2 cd2 ct2 oc3 kV3 dc3 pm3 cd3 ct3 oc4 kV4 dc4 pm4 cd4 ct4 oc5 kV5 dc5 pm5 cd5 ct5 oc6 kV6 dc6 pm6 cd6 ct6 oc7 kV7 dc7 pm7 cd7 ct7 oc8 kV8 dc8 pm8 cd8 ct8 oc9 kV9 dc9 pm9 cd9 ct9 oc10 kV10 dc10 pm10 cd10 ct10 oc11 kV11 dc11 pm11 ct11 oc12 kV12 dc12 pm12 cd12 ct12 oc13 kV13 dc13 pm13 cd13 ct13 oc14 kV14 dc14 pm14 cd14 ct14 oc15 kV15 dc15 pm15 cd15 ct15 oc16 kV16 dc16 pm16 cd16 ct16 oc17 kV17 dc17 pm17 cd17 ct17 oc18 kV18 dc18 pm18 cd18 ct18 oc19 kV19 dc19 pm19 cd19 ct19 oc20 kV20 dc20 pm20 cd20 ct20 oc21 kV21 dc21 pm21 cd21 ct21 oc22 kV22 dc22 pm22 cd22 ct22 oc23 kV23 dc23 pm23 cd23 ct23 oc24 kV24 dc24 pm24 cd24 ct24 oc25 kV25 dc25 pm25 cd25 ct25 oc26 kV26 dc26 pm26 cd26 ct26 oc27 kV27 dc27 pm27 cd27 ct27 : Value}
        (a0 : PySem.W.nsIn K mainGlobals "_law_done" = some (some (.ref f0))) (l0 : K.lookup f0 = some ⟨oc0, od0, .func (PySem.W.fnOf "_law_done" "_law_done" (defArgs s_l_done) (defBody s_l_done) (defScope s_l_done) .none kV0 dc0 pm0 an0 cd0 ct0), sl0⟩) (c0 : PySem.W.codeIn K cd0 "_law_done" = true) (k0 : PySem.W.keepIn K (.ref f0) = true)
    (a1 : PySem.W.nsIn K mainGlobals "_law_take" = some (some (.ref f1))) (l1 : K.lookup f1 = some ⟨oc1, od1, .func (PySem.W.fnOf "_law_take" "_law_take" (defArgs s_l_take) (defBody s_l_take) (defScope s_l_take) .none kV1 dc1 pm1 an1 cd1 ct1), sl1⟩) (c1 : PySem.W.codeIn K cd1 "_law_take" = true) (k1 : PySem.W.keepIn K (.ref f1) = true)
    (a2 : PySem.W.nsIn K mainGlobals "_law_some" = some (some (.ref f2))) (l2 : K.lookup f2 = some ⟨oc2, od2, .func (PySem.W.fnOf "_law_some" "_law_some" (defArgs s_l_some) (defBody s_l_some) (defScope s_l_some) .none kV2 dc2 pm2 an2 cd2 ct2), sl2⟩) (c2 : PySem.W.codeIn K cd2 "_law_some" = true) (k2 : PySem.W.keepIn K (.ref f2) = true)
    (a3 : PySem.W.nsIn K mainGlobals "_law_grant" = some (some (.ref f3))) (l3 : K.lookup f3 = some ⟨oc3, od3, .func (PySem.W.fnOf "_law_grant" "_law_grant" (defArgs s_l_grant) (defBody s_l_grant) (defScope s_l_grant) .none kV3 dc3 pm3 an3 cd3 ct3), sl3⟩) (c3 : PySem.W.codeIn K cd3 "_law_grant" = true) (k3 : PySem.W.keepIn K (.ref f3) = true)
    (a4 : PySem.W.nsIn K mainGlobals "_law_rule" = some (some (.ref f4))) (l4 : K.lookup f4 = some ⟨oc4, od4, .func (PySem.W.fnOf "_law_rule" "_law_rule" (defArgs s_l_rule) (defBody s_l_rule) (defScope s_l_rule) .none kV4 dc4 pm4 an4 cd4 ct4), sl4⟩) (c4 : PySem.W.codeIn K cd4 "_law_rule" = true) (k4 : PySem.W.keepIn K (.ref f4) = true)
    (a5 : PySem.W.nsIn K mainGlobals "_law_spot" = some (some (.ref f5))) (l5 : K.lookup f5 = some ⟨oc5, od5, .func (PySem.W.fnOf "_law_spot" "_law_spot" (defArgs s_l_spot) (defBody s_l_spot) (defScope s_l_spot) .none kV5 dc5 pm5 an5 cd5 ct5), sl5⟩) (c5 : PySem.W.codeIn K cd5 "_law_spot" = true) (k5 : PySem.W.keepIn K (.ref f5) = true)
    (a6 : PySem.W.nsIn K mainGlobals "_law_text" = some (some (.ref f6))) (l6 : K.lookup f6 = some ⟨oc6, od6, .func (PySem.W.fnOf "_law_text" "_law_text" (defArgs s_l_text) (defBody s_l_text) (defScope s_l_text) .none kV6 dc6 pm6 an6 cd6 ct6), sl6⟩) (c6 : PySem.W.codeIn K cd6 "_law_text" = true) (k6 : PySem.W.keepIn K (.ref f6) = true)
    (a7 : PySem.W.nsIn K mainGlobals "_law_edit" = some (some (.ref f7))) (l7 : K.lookup f7 = some ⟨oc7, od7, .func (PySem.W.fnOf "_law_edit" "_law_edit" (defArgs s_l_edit) (defBody s_l_edit) (defScope s_l_edit) .none kV7 dc7 pm7 an7 cd7 ct7), sl7⟩) (c7 : PySem.W.codeIn K cd7 "_law_edit" = true) (k7 : PySem.W.keepIn K (.ref f7) = true)
    (a8 : PySem.W.nsIn K mainGlobals "_law_start" = some (some (.ref f8))) (l8 : K.lookup f8 = some ⟨oc8, od8, .func (PySem.W.fnOf "_law_start" "_law_start" (defArgs s_l_start) (defBody s_l_start) (defScope s_l_start) .none kV8 dc8 pm8 an8 cd8 ct8), sl8⟩) (c8 : PySem.W.codeIn K cd8 "_law_start" = true) (k8 : PySem.W.keepIn K (.ref f8) = true)
    (a9 : PySem.W.nsIn K mainGlobals "_law_book" = some (some (.ref f9))) (l9 : K.lookup f9 = some ⟨oc9, od9, .func (PySem.W.fnOf "_law_book" "_law_book" (defArgs s_l_book) (defBody s_l_book) (defScope s_l_book) .none kV9 dc9 pm9 an9 cd9 ct9), sl9⟩) (c9 : PySem.W.codeIn K cd9 "_law_book" = true) (k9 : PySem.W.keepIn K (.ref f9) = true)
    (a10 : PySem.W.nsIn K mainGlobals "_law_entry" = some (some (.ref f10))) (l10 : K.lookup f10 = some ⟨oc10, od10, .func (PySem.W.fnOf "_law_entry" "_law_entry" (defArgs s_l_entry) (defBody s_l_entry) (defScope s_l_entry) .none kV10 dc10 pm10 an10 cd10 ct10), sl10⟩) (c10 : PySem.W.codeIn K cd10 "_law_entry" = true) (k10 : PySem.W.keepIn K (.ref f10) = true)
    (a11 : PySem.W.nsIn K mainGlobals "_law_spots" = some (some (.ref f11))) (l11 : K.lookup f11 = some ⟨oc11, od11, .func (PySem.W.fnOf "_law_spots" "_law_spots" (defArgs s_l_spots) (defBody s_l_spots) (defScope s_l_spots) .none kV11 dc11 pm11 an11 (.ref cc11) ct11), sl11⟩) (c11 : PySem.W.codeIn K (.ref cc11) "_law_spots" = true) (k11 : PySem.W.keepIn K (.ref f11) = true)
    (a12 : PySem.W.nsIn K mainGlobals "_law_changes" = some (some (.ref f12))) (l12 : K.lookup f12 = some ⟨oc12, od12, .func (PySem.W.fnOf "_law_changes" "_law_changes" (defArgs s_l_changes) (defBody s_l_changes) (defScope s_l_changes) .none kV12 dc12 pm12 an12 cd12 ct12), sl12⟩) (c12 : PySem.W.codeIn K cd12 "_law_changes" = true) (k12 : PySem.W.keepIn K (.ref f12) = true)
    (a13 : PySem.W.nsIn K mainGlobals "_law_merged" = some (some (.ref f13))) (l13 : K.lookup f13 = some ⟨oc13, od13, .func (PySem.W.fnOf "_law_merged" "_law_merged" (defArgs s_l_merged) (defBody s_l_merged) (defScope s_l_merged) .none kV13 dc13 pm13 an13 cd13 ct13), sl13⟩) (c13 : PySem.W.codeIn K cd13 "_law_merged" = true) (k13 : PySem.W.keepIn K (.ref f13) = true)
    (a14 : PySem.W.nsIn K mainGlobals "_law_state" = some (some (.ref f14))) (l14 : K.lookup f14 = some ⟨oc14, od14, .func (PySem.W.fnOf "_law_state" "_law_state" (defArgs s_l_state) (defBody s_l_state) (defScope s_l_state) .none kV14 dc14 pm14 an14 cd14 ct14), sl14⟩) (c14 : PySem.W.codeIn K cd14 "_law_state" = true) (k14 : PySem.W.keepIn K (.ref f14) = true)
    (a15 : PySem.W.nsIn K mainGlobals "_conflict" = some (some (.ref f15))) (l15 : K.lookup f15 = some ⟨oc15, od15, .func (PySem.W.fnOf "_conflict" "_conflict" (defArgs s_conflict) (defBody s_conflict) (defScope s_conflict) .none kV15 dc15 pm15 an15 cd15 ct15), sl15⟩) (c15 : PySem.W.codeIn K cd15 "_conflict" = true) (k15 : PySem.W.keepIn K (.ref f15) = true)
    (a16 : PySem.W.nsIn K mainGlobals "entry_of" = some (some (.ref f16))) (l16 : K.lookup f16 = some ⟨oc16, od16, .func (PySem.W.fnOf "entry_of" "entry_of" (defArgs s_entry_of) (defBody s_entry_of) (defScope s_entry_of) .none kV16 dc16 pm16 an16 cd16 ct16), sl16⟩) (c16 : PySem.W.codeIn K cd16 "entry_of" = true) (k16 : PySem.W.keepIn K (.ref f16) = true)
    (a17 : PySem.W.nsIn K mainGlobals "_entries_conflict" = some (some (.ref f17))) (l17 : K.lookup f17 = some ⟨oc17, od17, .func (PySem.W.fnOf "_entries_conflict" "_entries_conflict" (defArgs s_entries_conflict) (defBody s_entries_conflict) (defScope s_entries_conflict) .none kV17 dc17 pm17 an17 cd17 ct17), sl17⟩) (c17 : PySem.W.codeIn K cd17 "_entries_conflict" = true) (k17 : PySem.W.keepIn K (.ref f17) = true)
    (a18 : PySem.W.nsIn K mainGlobals "_taken" = some (some (.ref f18))) (l18 : K.lookup f18 = some ⟨oc18, od18, .func (PySem.W.fnOf "_taken" "_taken" (defArgs s_taken) (defBody s_taken) (defScope s_taken) .none kV18 dc18 pm18 an18 cd18 ct18), sl18⟩) (c18 : PySem.W.codeIn K cd18 "_taken" = true) (k18 : PySem.W.keepIn K (.ref f18) = true)
    (a19 : PySem.W.nsIn K mainGlobals "grant_copy" = some (some (.ref f19))) (l19 : K.lookup f19 = some ⟨oc19, od19, .func (PySem.W.fnOf "grant_copy" "grant_copy" (defArgs s_grant_copy) (defBody s_grant_copy) (defScope s_grant_copy) .none kV19 dc19 pm19 an19 cd19 ct19), sl19⟩) (c19 : PySem.W.codeIn K cd19 "grant_copy" = true) (k19 : PySem.W.keepIn K (.ref f19) = true)
    (a20 : PySem.W.nsIn K mainGlobals "_merged_grants" = some (some (.ref f20))) (l20 : K.lookup f20 = some ⟨oc20, od20, .func (PySem.W.fnOf "_merged_grants" "_merged_grants" (defArgs s_merged_grants) (defBody s_merged_grants) (defScope s_merged_grants) .none kV20 dc20 pm20 an20 cd20 ct20), sl20⟩) (c20 : PySem.W.codeIn K cd20 "_merged_grants" = true) (k20 : PySem.W.keepIn K (.ref f20) = true)
    (a21 : PySem.W.nsIn K mainGlobals "place_key" = some (some (.ref f21))) (l21 : K.lookup f21 = some ⟨oc21, od21, .func (PySem.W.fnOf "place_key" "place_key" (defArgs s_place_key) (defBody s_place_key) (defScope s_place_key) .none kV21 dc21 pm21 an21 cd21 ct21), sl21⟩) (c21 : PySem.W.codeIn K cd21 "place_key" = true) (k21 : PySem.W.keepIn K (.ref f21) = true)
    (a22 : PySem.W.nsIn K mainGlobals "addresses_in" = some (some (.ref f22))) (l22 : K.lookup f22 = some ⟨oc22, od22, .func (PySem.W.fnOf "addresses_in" "addresses_in" (defArgs s_addresses_in) (defBody s_addresses_in) (defScope s_addresses_in) .none kV22 dc22 pm22 an22 cd22 ct22), sl22⟩) (c22 : PySem.W.codeIn K cd22 "addresses_in" = true) (k22 : PySem.W.keepIn K (.ref f22) = true)
    (a23 : PySem.W.nsIn K mainGlobals "rule_copy" = some (some (.ref f23))) (l23 : K.lookup f23 = some ⟨oc23, od23, .func (PySem.W.fnOf "rule_copy" "rule_copy" (defArgs s_rule_copy) (defBody s_rule_copy) (defScope s_rule_copy) .none kV23 dc23 pm23 an23 cd23 ct23), sl23⟩) (c23 : PySem.W.codeIn K cd23 "rule_copy" = true) (k23 : PySem.W.keepIn K (.ref f23) = true)
    (a24 : PySem.W.nsIn K mainGlobals "merged" = some (some (.ref f24))) (l24 : K.lookup f24 = some ⟨oc24, od24, .func (PySem.W.fnOf "merged" "merged" (defArgs s_merged) (defBody s_merged) (defScope s_merged) .none kV24 dc24 pm24 an24 cd24 ct24), sl24⟩) (c24 : PySem.W.codeIn K cd24 "merged" = true) (k24 : PySem.W.keepIn K (.ref f24) = true)
    (a25 : PySem.W.nsIn K mainGlobals "changed_cells" = some (some (.ref f25))) (l25 : K.lookup f25 = some ⟨oc25, od25, .func (PySem.W.fnOf "changed_cells" "changed_cells" (defArgs s_changed_cells) (defBody s_changed_cells) (defScope s_changed_cells) .none kV25 dc25 pm25 an25 cd25 ct25), sl25⟩) (c25 : PySem.W.codeIn K cd25 "changed_cells" = true) (k25 : PySem.W.keepIn K (.ref f25) = true)
    (a26 : PySem.W.nsIn K mainGlobals "touched" = some (some (.ref f26))) (l26 : K.lookup f26 = some ⟨oc26, od26, .func (PySem.W.fnOf "touched" "touched" (defArgs s_touched) (defBody s_touched) (defScope s_touched) .none kV26 dc26 pm26 an26 cd26 ct26), sl26⟩) (c26 : PySem.W.codeIn K cd26 "touched" = true) (k26 : PySem.W.keepIn K (.ref f26) = true)
    (a27 : PySem.W.nsIn K mainGlobals "law" = some (some (.ref f27))) (l27 : K.lookup f27 = some ⟨oc27, od27, .func (PySem.W.fnOf "law" "law" (defArgs s_law) (defBody s_law) (defScope s_law) .none kV27 dc27 pm27 an27 cd27 ct27), sl27⟩) (c27 : PySem.W.codeIn K cd27 "law" = true) (k27 : PySem.W.keepIn K (.ref f27) = true)
    (z_abs : PySem.W.nsIn K mainGlobals "abs" = some none)
    (z_dict : PySem.W.nsIn K mainGlobals "dict" = some none)
    (z_enumerate : PySem.W.nsIn K mainGlobals "enumerate" = some none)
    (z_int : PySem.W.nsIn K mainGlobals "int" = some none)
    (z_len : PySem.W.nsIn K mainGlobals "len" = some none)
    (z_list : PySem.W.nsIn K mainGlobals "list" = some none)
    (z_range : PySem.W.nsIn K mainGlobals "range" = some none)
    (z_repr : PySem.W.nsIn K mainGlobals "repr" = some none)
    (z_sorted : PySem.W.nsIn K mainGlobals "sorted" = some none)
    (h11 : PySem.W.codeHdIn K cc11 (codeTab K cc11) = true) (u11 : K.lookup (codeTab K cc11) = none) (t11 : h.get? (codeTab K cc11) = some (PySem.W.tabObj #[])) :
    ∃ (fd : FuncData) (cs : List (Addr × Addr)) (Fa : List Addr), Fa = [] ∧ (∀ p ∈ cs, h.get? p.2 = some { cls := .none, data := .fields #[] }) ∧ (∀ p ∈ cs, K.lookup p.2 = none) ∧ (∀ p ∈ cs, PySem.W.CodeHd h p.1 p.2) ∧ (cs.map (·.2)).Nodup ∧ cs.length = lamNms.length ∧
      Fun K "law" "law" s_law fa fd ∧ (∀ (s : Shared) (v : Value), BindsTo s fd ⟨[v], []⟩ [("script", v)]) ∧ ∀ base : Heap, K.In base → base.Ns mainGlobals mg → (∀ p ∈ cs, LamX.TabB base mg p.1 p.2) → SysIn base → TopB l.prog w K mg base n_law "law" s_law fa 6 (b_law (Fa ++ cs.map (·.2))) := by
  have e := hfa.symm.trans (PySem.W.mg_of X G a27)
  cases e
  let T : Tx K w mg := {
    f__law_done := ⟨_, _, fun_mk (st := s_l_done) l0 c0 k0, PySem.W.mg_of X G a0, (fun_mk (st := s_l_done) l0 c0 k0).binds (ps := ["book", "edit"]) fun _ _ _ _ _ _ us hl => match us, hl with | [_, _], _ => rfl⟩
    f__law_take := ⟨_, _, fun_mk (st := s_l_take) l1 c1 k1, PySem.W.mg_of X G a1, (fun_mk (st := s_l_take) l1 c1 k1).binds (ps := ["state", "most"]) fun _ _ _ _ _ _ us hl => match us, hl with | [_, _], _ => rfl⟩
    f__law_some := ⟨_, _, fun_mk (st := s_l_some) l2 c2 k2, PySem.W.mg_of X G a2, (fun_mk (st := s_l_some) l2 c2 k2).binds (ps := ["state", "users"]) fun _ _ _ _ _ _ us hl => match us, hl with | [_, _], _ => rfl⟩
    f__law_grant := ⟨_, _, fun_mk (st := s_l_grant) l3 c3 k3, PySem.W.mg_of X G a3, (fun_mk (st := s_l_grant) l3 c3 k3).binds (ps := ["state", "users"]) fun _ _ _ _ _ _ us hl => match us, hl with | [_, _], _ => rfl⟩
    f__law_rule := ⟨_, _, fun_mk (st := s_l_rule) l4 c4 k4, PySem.W.mg_of X G a4, (fun_mk (st := s_l_rule) l4 c4 k4).binds (ps := ["state", "users", "whole"]) fun _ _ _ _ _ _ us hl => match us, hl with | [_, _, _], _ => rfl⟩
    f__law_spot := ⟨_, _, fun_mk (st := s_l_spot) l5 c5 k5, PySem.W.mg_of X G a5, (fun_mk (st := s_l_spot) l5 c5 k5).binds (ps := ["state"]) fun _ _ _ _ _ _ us hl => match us, hl with | [_], _ => rfl⟩
    f__law_text := ⟨_, _, fun_mk (st := s_l_text) l6 c6 k6, PySem.W.mg_of X G a6, (fun_mk (st := s_l_text) l6 c6 k6).binds (ps := ["state"]) fun _ _ _ _ _ _ us hl => match us, hl with | [_], _ => rfl⟩
    f__law_edit := ⟨_, _, fun_mk (st := s_l_edit) l7 c7 k7, PySem.W.mg_of X G a7, (fun_mk (st := s_l_edit) l7 c7 k7).binds (ps := ["state", "book"]) fun _ _ _ _ _ _ us hl => match us, hl with | [_, _], _ => rfl⟩
    f__law_start := ⟨_, _, fun_mk (st := s_l_start) l8 c8 k8, PySem.W.mg_of X G a8, (fun_mk (st := s_l_start) l8 c8 k8).binds (ps := ["users"]) fun _ _ _ _ _ _ us hl => match us, hl with | [_], _ => rfl⟩
    f__law_book := ⟨_, _, fun_mk (st := s_l_book) l9 c9 k9, PySem.W.mg_of X G a9, (fun_mk (st := s_l_book) l9 c9 k9).binds (ps := ["state", "users", "most"]) fun _ _ _ _ _ _ us hl => match us, hl with | [_, _, _], _ => rfl⟩
    f__law_entry := ⟨_, _, fun_mk (st := s_l_entry) l10 c10 k10, PySem.W.mg_of X G a10, (fun_mk (st := s_l_entry) l10 c10 k10).binds (ps := ["book", "spot"]) fun _ _ _ _ _ _ us hl => match us, hl with | [_, _], _ => rfl⟩
    f__law_spots := ⟨_, _, fun_mk (st := s_l_spots) l11 c11 k11, PySem.W.mg_of X G a11, (fun_mk (st := s_l_spots) l11 c11 k11).binds (ps := ["books"]) fun _ _ _ _ _ _ us hl => match us, hl with | [_], _ => rfl⟩
    f__law_changes := ⟨_, _, fun_mk (st := s_l_changes) l12 c12 k12, PySem.W.mg_of X G a12, (fun_mk (st := s_l_changes) l12 c12 k12).binds (ps := ["base", "book"]) fun _ _ _ _ _ _ us hl => match us, hl with | [_, _], _ => rfl⟩
    f__law_merged := ⟨_, _, fun_mk (st := s_l_merged) l13 c13 k13, PySem.W.mg_of X G a13, (fun_mk (st := s_l_merged) l13 c13 k13).binds (ps := ["base", "one", "other"]) fun _ _ _ _ _ _ us hl => match us, hl with | [_, _, _], _ => rfl⟩
    f__law_state := ⟨_, _, fun_mk (st := s_l_state) l14 c14 k14, PySem.W.mg_of X G a14, (fun_mk (st := s_l_state) l14 c14 k14).binds (ps := ["script"]) fun _ _ _ _ _ _ us hl => match us, hl with | [_], _ => rfl⟩
    f__conflict := ⟨_, _, fun_mk (st := s_conflict) l15 c15 k15, PySem.W.mg_of X G a15, (fun_mk (st := s_conflict) l15 c15 k15).binds (ps := ["base", "one", "other"]) fun _ _ _ _ _ _ us hl => match us, hl with | [_, _, _], _ => rfl⟩
    f_entry_of := ⟨_, _, fun_mk (st := s_entry_of) l16 c16 k16, PySem.W.mg_of X G a16, (fun_mk (st := s_entry_of) l16 c16 k16).binds (ps := ["book", "address"]) fun _ _ _ _ _ _ us hl => match us, hl with | [_, _], _ => rfl⟩
    f__entries_conflict := ⟨_, _, fun_mk (st := s_entries_conflict) l17 c17 k17, PySem.W.mg_of X G a17, (fun_mk (st := s_entries_conflict) l17 c17 k17).binds (ps := ["base", "one", "other", "address"]) fun _ _ _ _ _ _ us hl => match us, hl with | [_, _, _, _], _ => rfl⟩
    f__taken := ⟨_, _, fun_mk (st := s_taken) l18 c18 k18, PySem.W.mg_of X G a18, (fun_mk (st := s_taken) l18 c18 k18).binds (ps := ["base", "one", "other"]) fun _ _ _ _ _ _ us hl => match us, hl with | [_, _, _], _ => rfl⟩
    f_grant_copy := ⟨_, _, fun_mk (st := s_grant_copy) l19 c19 k19, PySem.W.mg_of X G a19, (fun_mk (st := s_grant_copy) l19 c19 k19).binds (ps := ["grant"]) fun _ _ _ _ _ _ us hl => match us, hl with | [_], _ => rfl⟩
    f__merged_grants := ⟨_, _, fun_mk (st := s_merged_grants) l20 c20 k20, PySem.W.mg_of X G a20, (fun_mk (st := s_merged_grants) l20 c20 k20).binds (ps := ["grants", "ones", "others"]) fun _ _ _ _ _ _ us hl => match us, hl with | [_, _, _], _ => rfl⟩
    f_place_key := ⟨_, _, fun_mk (st := s_place_key) l21 c21 k21, PySem.W.mg_of X G a21, (fun_mk (st := s_place_key) l21 c21 k21).binds (ps := ["address"]) fun _ _ _ _ _ _ us hl => match us, hl with | [_], _ => rfl⟩
    f_addresses_in := ⟨_, _, fun_mk (st := s_addresses_in) l22 c22 k22, PySem.W.mg_of X G a22, (fun_mk (st := s_addresses_in) l22 c22 k22).binds (ps := ["books"]) fun _ _ _ _ _ _ us hl => match us, hl with | [_], _ => rfl⟩
    f_rule_copy := ⟨_, _, fun_mk (st := s_rule_copy) l23 c23 k23, PySem.W.mg_of X G a23, (fun_mk (st := s_rule_copy) l23 c23 k23).binds (ps := ["rule"]) fun _ _ _ _ _ _ us hl => match us, hl with | [_], _ => rfl⟩
    f_merged := ⟨_, _, fun_mk (st := s_merged) l24 c24 k24, PySem.W.mg_of X G a24, (fun_mk (st := s_merged) l24 c24 k24).binds (ps := ["base", "one", "other"]) fun _ _ _ _ _ _ us hl => match us, hl with | [_, _, _], _ => rfl⟩
    f_changed_cells := ⟨_, _, fun_mk (st := s_changed_cells) l25 c25 k25, PySem.W.mg_of X G a25, (fun_mk (st := s_changed_cells) l25 c25 k25).binds (ps := ["book", "other"]) fun _ _ _ _ _ _ us hl => match us, hl with | [_, _], _ => rfl⟩
    f_touched := ⟨_, _, fun_mk (st := s_touched) l26 c26 k26, PySem.W.mg_of X G a26, (fun_mk (st := s_touched) l26 c26 k26).binds (ps := ["base", "book"]) fun _ _ _ _ _ _ us hl => match us, hl with | [_, _], _ => rfl⟩
    f_law := ⟨_, _, fun_mk (st := s_law) l27 c27 k27, PySem.W.mg_of X G a27, (fun_mk (st := s_law) l27 c27 k27).binds (ps := ["script"]) fun _ _ _ _ _ _ us hl => match us, hl with | [_], _ => rfl⟩
    n_abs := PySem.W.mg_none_of X G z_abs
    n_dict := PySem.W.mg_none_of X G z_dict
    n_enumerate := PySem.W.mg_none_of X G z_enumerate
    n_int := PySem.W.mg_none_of X G z_int
    n_len := PySem.W.mg_none_of X G z_len
    n_list := PySem.W.mg_none_of X G z_list
    n_range := PySem.W.mg_none_of X G z_range
    n_repr := PySem.W.mg_none_of X G z_repr
    n_sorted := PySem.W.mg_none_of X G z_sorted
    cs := [(cc11, codeTab K cc11)]
    lam__law_spots := ⟨cc11, rfl, _, rfl⟩ }
  exact ⟨PySem.W.fnOf "law" "law" (defArgs s_law) (defBody s_law) (defScope s_law) .none kV27 dc27 pm27 an27 cd27 ct27, [(cc11, codeTab K cc11)], [], rfl, (List.forall_mem_cons.mpr ⟨t11, (fun _ h => nomatch h)⟩), (List.forall_mem_cons.mpr ⟨u11, (fun _ h => nomatch h)⟩), (List.forall_mem_cons.mpr ⟨PySem.W.codeHd_of_K X h11, (fun _ h => nomatch h)⟩), (by simp), rfl, T.f_law.F, fun s v => .of_eq rfl, fun base _ _ hB hS => top_law T hB hS⟩
end Law
namespace Law
open PySem L2 DL
/-! ### books -/
abbrev Sp := Int × Int
abbrev Ar := Sp × Sp
def sd (s : String) : D := .str (Str.ofString s)
instance : En String := ⟨sd, fun a b => by simp [sd], fun a => by simp [sd], 0, fun _ => Nat.le_refl _⟩
@[ext] structure Ru where
  a : Ar
  r : List Int
  w : List Int
  o : List Int
deriving DecidableEq
@[ext] structure Gr where
  a : Ar
  f : List String
  t : List Int
  b : Int
  x : Bool
deriving DecidableEq
instance : En Ru := ⟨fun u => .tup [En.en u.a, En.en u.r, En.en u.w, En.en u.o], fun u v => by
    simp only [e_deqTT, e_deqs1, e_deqs0, Bool.and_true, En.dq]
    rw [Bool.eq_iff_iff]
    simp only [Bool.and_eq_true, decide_eq_true_eq, Ru.ext_iff], fun u => by simp [En.ok], 3, fun u => by
    have h1 := En.dpl u.a
    have h2 := En.dpl u.r
    have h3 := En.dpl u.w
    have h4 := En.dpl u.o
    have e1 : En.dp Ar = 2 := rfl
    have e2 : En.dp (List Int) = 1 := rfl
    simp only [e_dpT, e_dp1, e_dp0]
    omega⟩
instance : En Gr := ⟨fun u => .tup [En.en u.a, En.en u.f, En.en u.t, .int u.b, .bl u.x], fun u v => by
    simp only [e_deqTT, e_deqs1, e_deqs0, Bool.and_true, En.dq, e_deqII, e_deqBB]
    rw [Bool.eq_iff_iff]
    simp only [Bool.and_eq_true, decide_eq_true_eq, Gr.ext_iff], fun u => by simp [En.ok], 3, fun u => by
    have h1 := En.dpl u.a
    have h2 := En.dpl u.f
    have h3 := En.dpl u.t
    have e1 : En.dp Ar = 2 := rfl
    have e2 : En.dp (List String) = 1 := rfl
    have e3 : En.dp (List Int) = 1 := rfl
    simp only [e_dpT, e_dp1, e_dp0, e_dpI, e_dpB]
    omega⟩
theorem en_ru (u : Ru) : (En.en u : D) = .tup [En.en u.a, En.en u.r, En.en u.w, En.en u.o] := rfl
theorem en_gr (u : Gr) : (En.en u : D) = .tup [En.en u.a, En.en u.f, En.en u.t, .int u.b, .bl u.x] := rfl
theorem en_ls {α : Type} [DecidableEq α] [En α] (l : List α) : (En.en l : D) = .lst (l.map En.en) := rfl
abbrev Cls := List (Sp × (String × Int))
def spK (p : Sp) : List Key := [.inl p.1, .inl p.2]
def enK (q : Sp × (String × Int)) : List Key × D := (spK q.1, .str (Str.ofString q.2.1))
def auK (q : Sp × (String × Int)) : List Key × D := (spK q.1, .int q.2.2)
structure Bk where
  u : Int
  c : Cls
  r : List Ru
  g : List Gr
def Bk.d (b : Bk) : D := .tup [sd "book", .int b.u, .dT (b.c.map enK), .dT (b.c.map auK), En.en b.r, En.en b.g]
def SPOTS : List Sp := [(0, 0), (1, 0), (0, 1), (9, 9), (25, 98)]
def TEXTS : List String := ["1", "x", "=A1 + 1", "TRUE", "'", "=SUM(A1:B2)", "2.5", "=B1"]
theorem spK_inj {p q : Sp} (h : spK p = spK q) : p = q := by
  unfold spK at h
  simp only [List.cons.injEq, Sum.inl.injEq, and_true] at h
  exact Prod.ext h.1 h.2
theorem spK_iff {p q : Sp} : spK p = spK q ↔ p = q := ⟨spK_inj, fun h => by rw [h]⟩
theorem keyT_sp (p : Sp) : keyT (En.en p) = some (spK p) := rfl
theorem hv_0_0 : hTup (spK (0, 0)) = -8458139203682520985 := by decide +kernel
theorem hv_1_0 : hTup (spK (1, 0)) = -5164621852614943976 := by decide +kernel
theorem hv_0_1 : hTup (spK (0, 1)) = -1950498447580522560 := by decide +kernel
theorem hv_9_9 : hTup (spK (9, 9)) = -2505978682679184665 := by decide +kernel
theorem hv_25_98 : hTup (spK (25, 98)) = 3294708738316171828 := by decide +kernel
theorem spots_apart : ∀ p ∈ SPOTS, ∀ q ∈ SPOTS, hTup (spK p) = hTup (spK q) → p = q := by
  intro p hp q hq e
  simp only [SPOTS, List.mem_cons, List.not_mem_nil, or_false] at hp hq
  rcases hp with rfl | rfl | rfl | rfl | rfl <;> rcases hq with rfl | rfl | rfl | rfl | rfl <;>
    first | rfl | (exfalso; simp only [hv_0_0, hv_1_0, hv_0_1, hv_9_9, hv_25_98] at e; exact absurd e (by decide))
theorem apart_sp {l : List Sp} (h : ∀ p ∈ l, p ∈ SPOTS) (nd : l.Nodup) : apart (l.map spK) = true := by
  unfold apart
  rw [Bool.and_eq_true, decide_eq_true_eq]
  refine ⟨List.all_eq_true.mpr fun k hk => ?_, ?_⟩
  · obtain ⟨p, _, rfl⟩ := List.mem_map.mp hk
    rfl
  · rw [List.map_map, Function.comp_def]
    refine List.pairwise_map.mpr ?_
    refine List.Pairwise.imp_of_mem ?_ nd
    intro a b ha hb hne e
    exact hne (spots_apart a (h a ha) b (h b hb) e)
def ckey (c : Cls) : List Sp := c.map (·.1)
/-- lookups -/
def look (c : Cls) (p : Sp) : Option (String × Int) := (c.find? fun q => decide (q.1 = p)).map (·.2)
theorem find_k {κ : Type} [DecidableEq κ] (f : Sp × (String × Int) → κ × D) (key : Sp → κ) (hk : ∀ q, (f q).1 = key q.1) (inj : ∀ p q, key p = key q ↔ p = q) (c : Cls) (p : Sp) : valO ((c.map f).map fun q => (q.1, DV.p q.2)) (key p) = (c.find? fun q => decide (q.1 = p)).map fun q => DV.p (f q).2 := by
  unfold valO
  rw [List.map_map, List.find?_map]
  have e : ((fun kv : κ × DV => decide (kv.1 = key p)) ∘ ((fun q : κ × D => (q.1, DV.p q.2)) ∘ f)) = fun q => decide (q.1 = p) := by
    funext q
    have h : (f q).1 = key p ↔ q.1 = p := by rw [hk, inj]
    show decide ((f q).1 = key p) = decide (q.1 = p)
    simp only [h]
  rw [e]
  simp only [Option.map_map, Function.comp_def]
theorem val_en (c : Cls) (p : Sp) : valO ((c.map enK).map fun q => (q.1, DV.p q.2)) (spK p) = (look c p).map fun x => DV.p (.str (Str.ofString x.1)) := by
  rw [find_k enK spK (fun _ => rfl) (fun _ _ => spK_iff)]
  unfold look
  rw [Option.map_map]; rfl
theorem val_au (c : Cls) (p : Sp) : valO ((c.map auK).map fun q => (q.1, DV.p q.2)) (spK p) = (look c p).map fun x => DV.p (.int x.2) := by
  rw [find_k auK spK (fun _ => rfl) (fun _ _ => spK_iff)]
  unfold look
  rw [Option.map_map]; rfl
def ent (c : Cls) (p : Sp) : String × Option Int := match look c p with
  | some x => (x.1, some x.2)
  | none => ("", none)
end Law
namespace Law
open PySem L2 DL
theorem getM_en (M : List O) (c : Cls) (p : Sp) : getM M (.p (.dT (c.map enK))) (En.en p) = some ((look c p).map fun x => DV.p (.str (Str.ofString x.1))) := by
  rw [← val_en]; rfl
theorem getM_au (M : List O) (c : Cls) (p : Sp) : getM M (.p (.dT (c.map auK))) (En.en p) = some ((look c p).map fun x => DV.p (.int x.2)) := by
  rw [← val_au]; rfl
instance : En (String × Option Int) := inferInstance
theorem en_ent (x : String × Option Int) : (En.en x : D) = .tup [.str (Str.ofString x.1), En.en x.2] := rfl
theorem dg2_run (m n k : EM) (l : List (Option DV)) (M : List O) (c : Cls) (p : Sp) (y : D) (h1 : m ⟨l, M⟩ = some (.ok (.p (.dT (c.map enK))) M)) (h2 : n ⟨l, M⟩ = some (.ok (.p (En.en p)) M)) (h3 : k ⟨l, M⟩ = some (.ok (.p y) M)) :
    mDg2 m n k ⟨l, M⟩ = some (.ok (match look c p with | some x => .p (.str (Str.ofString x.1)) | none => .p y) M) := by
  unfold mDg2
  rw [e_bnd, h1]
  have hd : isDc M (.p (.dT (c.map enK))) = true := rfl
  dsimp only
  rw [hd, if_pos rfl, e_bnd, h2]
  dsimp only [pur]
  rw [e_bnd, h3]
  dsimp only
  unfold dg2K
  rw [getM_en]
  cases look c p <;> rfl
theorem dg1_run (m n : EM) (l : List (Option DV)) (M : List O) (c : Cls) (p : Sp) (h1 : m ⟨l, M⟩ = some (.ok (.p (.dT (c.map auK))) M)) (h2 : n ⟨l, M⟩ = some (.ok (.p (En.en p)) M)) :
    mDg1 m n ⟨l, M⟩ = some (.ok (match look c p with | some x => .p (.int x.2) | none => .p .non) M) := by
  unfold mDg1
  rw [e_bnd, h1]
  have hd : isDc M (.p (.dT (c.map auK))) = true := rfl
  dsimp only
  rw [hd, if_pos rfl, e_bnd, h2]
  dsimp only [pur]
  unfold dg1K
  rw [getM_au]
  cases look c p <;> rfl
theorem ix_book (b : Bk) (i : Nat) (l : List (Option DV)) (M : List O) (k : Int) (d : D) (h : gv l i = some (.p b.d)) (hk : atI [sd "book", .int b.u, .dT (b.c.map enK), .dT (b.c.map auK), En.en b.r, En.en b.g] k = some d) : mIx (mVar i) (mC (.int k)) ⟨l, M⟩ = some (.ok (.p d) M) := by
  have e : ixD b.d k = some d := hk
  simp [e_bnd, h, e]
theorem tup2_run (a b : EM) (l : List (Option DV)) (M : List O) (x y : D) (h1 : a ⟨l, M⟩ = some (.ok (.p x) M)) (h2 : b ⟨l, M⟩ = some (.ok (.p y) M)) : disp .tup (aCons a (aCons b aNil)) ⟨l, M⟩ = some (.ok (.p (.tup [x, y])) M) := by
  simp [e_bnd, h1, h2]
theorem ent_run (b : Bk) (p : Sp) (i j : Nat) (l : List (Option DV)) (M : List O) (h1 : gv l i = some (.p b.d)) (h2 : gv l j = some (.p (En.en p))) :
    disp .tup (aCons (mDg2 (mIx (mVar i) (mC (.int 2))) (mVar j) (mC (.str (PySem.Str.ofString "")))) (aCons (mDg1 (mIx (mVar i) (mC (.int 3))) (mVar j)) aNil)) ⟨l, M⟩ = some (.ok (.p (En.en (ent b.c p))) M) := by
  have hv : mVar j ⟨l, M⟩ = some (.ok (.p (En.en p)) M) := by simp [h2]
  have e1 := dg2_run _ _ (mC (.str (PySem.Str.ofString ""))) l M b.c p (.str (PySem.Str.ofString "")) (ix_book b i l M 2 _ h1 rfl) hv rfl
  have e2 := dg1_run _ _ l M b.c p (ix_book b i l M 3 _ h1 rfl) hv
  rw [en_ent]
  unfold ent
  cases h : look b.c p with
  | none => rw [h] at e1 e2; exact tup2_run _ _ _ _ _ _ e1 e2
  | some x => rw [h] at e1 e2; exact tup2_run _ _ _ _ _ _ e1 e2
theorem l_entry_eq (b : Bk) (p : Sp) : m_l_entry [b.d, En.en p] = some (.ok (En.en (ent b.c p))) := by
  unfold m_l_entry b_l_entry
  exact runA_of (ret_run _ _ _ _ (ent_run b p 0 1 _ _ rfl rfl))
theorem entry_of_eq (b : Bk) (p : Sp) : m_entry_of [b.d, En.en p] = some (.ok (En.en (ent b.c p))) := by
  unfold m_entry_of b_entry_of
  exact runA_of (ret_run _ _ _ _ (ent_run b p 0 1 _ _ rfl rfl))
/-- copies -/
theorem rule_copy_eq (u : Ru) : m_rule_copy [En.en u] = some (.ok (En.en u)) := by
  apply wpA.eq
  rw [en_ru, en_ls, en_ls, en_ls]
  simp [m_rule_copy, b_rule_copy, dList]
theorem grant_copy_eq (u : Gr) : m_grant_copy [En.en u] = some (.ok (En.en u)) := by
  apply wpA.eq
  rw [en_gr, en_ls, en_ls]
  simp [m_grant_copy, b_grant_copy, dList]
section
variable {α : Type} [DecidableEq α] [En α]
theorem taken_eq (x y z : α) (h : En.dp α ≤ 64) : m_taken [En.en x, En.en y, En.en z] = some (.ok (En.en (if y = x then z else y))) := by
  apply wpA.eq
  have e := eqD_en y x h
  simp [m_taken, b_taken, e]
  by_cases q : y = x <;> simp [q]
theorem conflict_eq (x y z : α) (h : En.dp α ≤ 64) : m_conflict [En.en x, En.en y, En.en z] = some (.ok (.bl (decide (x ≠ y ∧ x ≠ z ∧ y ≠ z)))) := by
  apply wpA.eq
  have e1 := eqD_en x y h
  have e2 := eqD_en x z h
  have e3 := eqD_en y z h
  simp [m_conflict, b_conflict, e1, e2, e3]
  by_cases q1 : x = y <;> by_cases q2 : x = z <;> by_cases q3 : y = z <;> simp [q1, q2, q3]
end
end Law
namespace Law
open PySem L2 DL
/-! ### edits -/
inductive Ed where
  | cell (p : Sp) (t : String) (w : Int)
  | blank (p : Sp)
  | rule (i : Nat) (r : Ru)
  | unrule (i : Nat)
  | grant (g : Gr)
  | revoke (i : Nat) (x : Bool)
def Ed.d : Ed → D
  | .cell p t w => .tup [sd "cell", En.en p, sd t, .int w]
  | .blank p => .tup [sd "cell", En.en p, sd "", .non]
  | .rule i r => .tup [sd "rule", .int i, En.en r]
  | .unrule i => .tup [sd "unrule", .int i]
  | .grant g => .tup [sd "grant", En.en g]
  | .revoke i x => .tup [sd "revoke", .int i, .bl x]
def putC (c : Cls) (p : Sp) (v : String × Int) : Cls := if (c.any fun q => decide (q.1 = p)) = true then c.map (fun q => if q.1 = p then (q.1, v) else q) else c ++ [(p, v)]
def dropC (c : Cls) (p : Sp) : Cls := c.filter fun q => decide (q.1 ≠ p)
def Gr.turn (g : Gr) (x : Bool) : Gr := { g with x := x }
def done (b : Bk) : Ed → Bk
  | .cell p t w => { b with c := putC b.c p (t, w) }
  | .blank p => { b with c := dropC b.c p }
  | .rule i r => { b with r := b.r.take i ++ [r] ++ b.r.drop (i + 1) }
  | .unrule i => { b with r := b.r.eraseIdx i }
  | .grant g => { b with g := b.g ++ [g] }
  | .revoke i x => { b with g := b.g.set i ((b.g[i]?.getD ⟨((0, 0), (0, 0)), [], [], 0, false⟩).turn x) }
/-- the edit fits -/
def Ed.fits (b : Bk) : Ed → Prop
  | .cell p t w => p ∈ SPOTS ∧ t ∈ TEXTS ∧ 0 ≤ w ∧ w ≤ 4
  | .blank p => (look b.c p).isSome = true
  | .rule i _ => i ≤ b.r.length
  | .unrule i => 1 ≤ i ∧ i < b.r.length
  | .grant _ => True
  | .revoke i _ => i < b.g.length
structure Kys (c : Cls) : Prop where
  nd : (ckey c).Nodup
  sp : ∀ p ∈ ckey c, p ∈ SPOTS
/-- dicts of one's own -/
def dO (f : Sp × (String × Int) → List Key × D) (c : Cls) : O := .dT ((c.map f).map fun q => (q.1, DV.p q.2))
section
variable {f : Sp × (String × Int) → List Key × D} (hf : ∀ q, (f q).1 = spK q.1)
include hf
theorem f_dec (q : Sp × (String × Int)) (p : Sp) : decide ((f q).1 = spK p) = decide (q.1 = p) := by
  have : (f q).1 = spK p ↔ q.1 = p := by rw [hf, spK_iff]
  simp only [this]
theorem putO_f (hv : ∀ q p v, (f (q, v)).2 = (f (p, v)).2) (c : Cls) (p : Sp) (v : String × Int) : putO ((c.map f).map fun q => (q.1, DV.p q.2)) (spK p) (.p (f (p, v)).2) = ((putC c p v).map f).map fun q => (q.1, DV.p q.2) := by
  unfold putO putC
  have e : (((c.map f).map fun q => (q.1, DV.p q.2)).any fun q => decide (q.1 = spK p)) = c.any fun q => decide (q.1 = p) := by
    rw [List.any_map, List.any_map]
    congr 1; funext q; exact f_dec hf q p
  rw [e]
  split
  · rw [List.map_map, List.map_map, List.map_map, List.map_map]
    refine List.map_congr_left fun q _ => ?_
    show (if (f q).1 = spK p then ((f q).1, DV.p (f (p, v)).2) else ((f q).1, DV.p (f q).2)) = ((f (if q.1 = p then (q.1, v) else q)).1, DV.p (f (if q.1 = p then (q.1, v) else q)).2)
    by_cases h : q.1 = p
    · rw [if_pos h, if_pos (by rw [hf, h]), hf, hf, hv q.1 p v]
    · rw [if_neg h, if_neg fun z => h (spK_inj (by rw [← hf, z]))]
  · rw [List.map_append, List.map_append]
    show _ ++ [(spK p, DV.p (f (p, v)).2)] = _ ++ [((f (p, v)).1, DV.p (f (p, v)).2)]
    rw [hf]
theorem dropO_f (c : Cls) (p : Sp) : dropO ((c.map f).map fun q => (q.1, DV.p q.2)) (spK p) = ((dropC c p).map f).map fun q => (q.1, DV.p q.2) := by
  unfold dropO dropC
  rw [List.filter_map, List.filter_map, List.map_map, List.map_map]
  congr 1
  refine List.filter_congr fun q _ => ?_
  show decide ((f q).1 ≠ spK p) = decide (q.1 ≠ p)
  have : (f q).1 = spK p ↔ q.1 = p := by rw [hf, spK_iff]
  simp only [ne_eq, this]
theorem gDict_f {M : List O} (c : Cls) (h : Kys c) : gDict M [.p (.dT (c.map f))] = some (dO f c) := by
  have hk : ((c.map f).map fun p => ((p.1, DV.p p.2) : List Key × DV)).map (·.1) = (ckey c).map spK := by
    unfold ckey
    rw [List.map_map, List.map_map, List.map_map]
    refine List.map_congr_left fun q _ => hf q
  show (if apart (((c.map f).map fun p => (p.1, DV.p p.2)).map (·.1)) = true then some (O.dT ((c.map f).map fun p => (p.1, .p p.2))) else none) = _
  rw [hk, if_pos (apart_sp h.sp h.nd)]; rfl
theorem frz_f (c : Cls) : frzOD (dO f c) = some (.dT (c.map f)) := by
  have : ∀ l : List (List Key × D), allKP (l.map fun q => (q.1, DV.p q.2)) = some l := by
    intro l
    induction l with
    | nil => rfl
    | cons a l ih =>
      show (allKP (l.map fun q => (q.1, DV.p q.2))).map ((a.1, a.2) :: ·) = _
      rw [ih]; rfl
  show (allKP ((c.map f).map fun q => (q.1, DV.p q.2))).map D.dT = _
  rw [this]; rfl
theorem popM_f (c : Cls) (p : Sp) (M : List O) (n : Nat) (h : M[n]? = some (dO f c)) (hl : (look c p).isSome = true) : ∃ v, popM M n (En.en p) = some (v, M.set n (dO f (dropC c p))) := by
  unfold popM
  rw [h]
  unfold dO
  dsimp only
  rw [keyT_sp]
  dsimp only
  rw [find_k f spK hf (fun _ _ => spK_iff)]
  unfold look at hl
  cases q : c.find? fun q => decide (q.1 = p) with
  | none => rw [q] at hl; cases hl
  | some x =>
    refine ⟨.p (f x).2, ?_⟩
    show some (DV.p (f x).2, M.set n (.dT (dropO _ (spK p)))) = _
    rw [dropO_f hf]
theorem putM_f (hv : ∀ q p v, (f (q, v)).2 = (f (p, v)).2) (c : Cls) (p : Sp) (v : String × Int) (M : List O) (n : Nat) (h : M[n]? = some (dO f c)) (hl : c.length < 1000000) : putM M n (En.en p) (.p (f (p, v)).2) = some (M.set n (dO f (putC c p v))) := by
  unfold putM
  rw [h]
  unfold dO
  dsimp only
  rw [keyT_sp]
  dsimp only
  rw [if_pos (by rw [List.length_map, List.length_map]; exact hl), putO_f hf hv]
end
theorem hfe (q : Sp × (String × Int)) : (enK q).1 = spK q.1 := rfl
theorem hfa (q : Sp × (String × Int)) : (auK q).1 = spK q.1 := rfl
abbrev enO (c : Cls) : O := dO enK c
abbrev auO (c : Cls) : O := dO auK c
abbrev lsO' {α : Type} [DecidableEq α] [En α] (l : List α) : O := .lst ((l.map (En.en : α → D)).map .p)
theorem frzD_var (i n : Nat) (l : List (Option DV)) (M : List O) (o : O) (d : D) (h1 : gv l i = some (.o n)) (h2 : M[n]? = some o) (h3 : frzOD o = some d) : mFrzD (mVar i) ⟨l, M⟩ = some (.ok (.p d) (M.set n .gone)) := by
  unfold mFrzD
  rw [e_bnd]
  simp [h1, h2, h3]
theorem tup6_run (a b c d e f : EM) (l : List (Option DV)) (M M1 M2 M3 M4 M5 M6 : List O) (x1 x2 x3 x4 x5 x6 : D) (h1 : a ⟨l, M⟩ = some (.ok (.p x1) M1)) (h2 : b ⟨l, M1⟩ = some (.ok (.p x2) M2)) (h3 : c ⟨l, M2⟩ = some (.ok (.p x3) M3)) (h4 : d ⟨l, M3⟩ = some (.ok (.p x4) M4)) (h5 : e ⟨l, M4⟩ = some (.ok (.p x5) M5)) (h6 : f ⟨l, M5⟩ = some (.ok (.p x6) M6)) :
    disp .tup (aCons a (aCons b (aCons c (aCons d (aCons e (aCons f aNil)))))) ⟨l, M⟩ = some (.ok (.p (.tup [x1, x2, x3, x4, x5, x6])) M6) := by
  simp [e_bnd, h1, h2, h3, h4, h5, h6]
/-- the book's return -/
theorem ret_book (x0 x1 : Option DV) (u : Int) (i j k m : Nat) (M : List O) (c : Cls) (r : List Ru) (g : List Gr) (h1 : M[i]? = some (enO c)) (h2 : M[j]? = some (auO c)) (h3 : M[k]? = some (lsO' r)) (h4 : M[m]? = some (lsO' g)) (n1 : i ≠ j) (n2 : i ≠ k) (n3 : i ≠ m) (n4 : j ≠ k) (n5 : j ≠ m) (n6 : k ≠ m) :
    ∃ s, b_l_done_3 ⟨[x0, x1, some (.p (.int u)), some (.o i), some (.o j), some (.o k), some (.o m)], M⟩ = some (.rt (.p (Bk.d ⟨u, c, r, g⟩)), s) := by
  unfold b_l_done_3
  have e3 := frzD_var 3 i [x0, x1, some (.p (.int u)), some (.o i), some (.o j), some (.o k), some (.o m)] M _ _ rfl h1 (frz_f hfe c)
  have e4 := frzD_var 4 j [x0, x1, some (.p (.int u)), some (.o i), some (.o j), some (.o k), some (.o m)] (M.set i .gone) _ _ rfl (by rw [List.getElem?_set_ne n1]; exact h2) (frz_f hfa c)
  have e5 := frz_run 5 k [x0, x1, some (.p (.int u)), some (.o i), some (.o j), some (.o k), some (.o m)] ((M.set i .gone).set j .gone) (r.map En.en) rfl (by rw [List.getElem?_set_ne n4, List.getElem?_set_ne n2]; exact h3)
  have e6 := frz_run 6 m [x0, x1, some (.p (.int u)), some (.o i), some (.o j), some (.o k), some (.o m)] (((M.set i .gone).set j .gone).set k .gone) (g.map En.en) rfl (by rw [List.getElem?_set_ne n6, List.getElem?_set_ne n5, List.getElem?_set_ne n3]; exact h4)
  exact ⟨_, ret_run _ _ _ _ (tup6_run _ _ _ _ _ _ _ _ _ _ _ _ _ _ _ _ _ _ _ _ (by rfl) (by rfl) e3 e4 e5 e6)⟩
end Law
namespace Law
open PySem L2 DL
/-! ### the law's own edit of a book -/
structure Fit (b : Bk) : Prop where
  k : Kys b.c
  r : b.r.length ≤ 1000
  g : b.g.length ≤ 1000
theorem nodup_sub_len {α : Type} [DecidableEq α] : ∀ (l m : List α), l.Nodup → (∀ x ∈ l, x ∈ m) → l.length ≤ m.length
  | [], _, _, _ => Nat.zero_le _
  | a :: l, m, h, hs => by
    have h' := List.nodup_cons.mp h
    have i := nodup_sub_len l (m.erase a) h'.2 fun x hx => (List.mem_erase_of_ne (fun e : x = a => h'.1 (by rw [← e]; exact hx))).mpr (hs x (List.mem_cons_of_mem _ hx))
    have ha := hs a (List.mem_cons_self)
    rw [List.length_erase_of_mem ha] at i
    have := List.length_pos_of_mem ha
    rw [List.length_cons]
    omega
theorem ckey_len {b : Cls} (h : Kys b) : b.length ≤ 5 := by
  have := nodup_sub_len _ SPOTS h.nd h.sp
  unfold ckey at this
  rw [List.length_map] at this
  exact this
abbrev L7 (b e : D) (u : Int) (x3 x4 x5 x6 : DV) : List (Option DV) := [some (.p b), some (.p e), some (.p (.int u)), some x3, some x4, some x5, some x6]
theorem book_open (b : Bk) (e : D) : sAsg (mSlT (mVar 0) (pSome (mC (.int 1))) pNone) (gT 5 (gsCons (gN 2) (gsCons (gN 3) (gsCons (gN 4) (gsCons (gN 5) (gsCons (gN 6) gsNil)))))) ⟨[some (.p b.d), some (.p e), none, none, none, none, none], []⟩ =
    some (.nx, ⟨L7 b.d e b.u (.p (.dT (b.c.map enK))) (.p (.dT (b.c.map auK))) (.p (En.en b.r)) (.p (En.en b.g)), []⟩) := rfl
abbrev M4 (b : Bk) : List O := [enO b.c, auO b.c, lsO' b.r, lsO' b.g]
theorem book_copy (b : Bk) (h : Fit b) (e : D) : sUnp (aCons (mCBO gDict (aCons (mVar 3) aNil)) (aCons (mCBO gDict (aCons (mVar 4) aNil)) (aCons (mCBO gList (aCons (mVar 5) aNil)) (aCons (mCBO gList (aCons (mVar 6) aNil)) aNil)))) 4 (gsCons (gN 3) (gsCons (gN 4) (gsCons (gN 5) (gsCons (gN 6) gsNil))))
      ⟨L7 b.d e b.u (.p (.dT (b.c.map enK))) (.p (.dT (b.c.map auK))) (.p (En.en b.r)) (.p (En.en b.g)), []⟩ = some (.nx, ⟨L7 b.d e b.u (.o 0) (.o 1) (.o 2) (.o 3), M4 b⟩) := by
  have e1 := gDict_f (M := []) hfe b.c h.k
  have e2 : ∀ M, gDict M [.p (.dT (b.c.map auK))] = some (auO b.c) := fun M => gDict_f (M := M) hfa b.c h.k
  have e3 : ∀ M, gList M [.p (En.en b.r)] = some (lsO' b.r) := fun M => rfl
  have e4 : ∀ M, gList M [.p (En.en b.g)] = some (lsO' b.g) := fun M => rfl
  simp [e_bnd, e_lift, e1, e2, e3, e4, gsCons, gsNil, gN]
/-- from the copies on -/
theorem done_of (b : Bk) (h : Fit b) (e : D) (d : D) (hx : ∃ s, b_l_done_2 ⟨L7 b.d e b.u (.o 0) (.o 1) (.o 2) (.o 3), M4 b⟩ = some (.rt (.p d), s)) : m_l_done [b.d, e] = some (.ok d) := by
  obtain ⟨s, hx⟩ := hx
  unfold m_l_done
  refine runA_of (s := s) ?_
  unfold b_l_done
  refine (seq_nx _ _ _ _ (book_open b e)).trans ?_
  unfold b_l_done_1
  exact (seq_nx _ _ _ _ (book_copy b h e)).trans hx
/-- tests of an edit's kind -/
theorem kind_run (b : D) (e : List D) (k : String) (s : String) (u : Int) (x3 x4 x5 x6 : DV) (M : List O) : mBin dEq (mIx (mVar 1) (mC (.int 0))) (mC (.str (PySem.Str.ofString s))) ⟨L7 b (.tup (sd k :: e)) u x3 x4 x5 x6, M⟩ = some (.ok (.p (.bl (decide (k = s)))) M) := by
  simp [e_bnd, sd]
theorem it_run (b e d : D) (k : Int) (u : Int) (x3 x4 x5 x6 : DV) (M : List O) (h : ixD e k = some d) : mIx (mVar 1) (mC (.int k)) ⟨L7 b e u x3 x4 x5 x6, M⟩ = some (.ok (.p d) M) := by
  simp [e_bnd, h]
theorem bin_run (g : D → D → Option D) (m n : EM) (l : List (Option DV)) (M : List O) (a b c : D) (h1 : m ⟨l, M⟩ = some (.ok (.p a) M)) (h2 : n ⟨l, M⟩ = some (.ok (.p b) M)) (h3 : g a b = some c) : mBin g m n ⟨l, M⟩ = some (.ok (.p c) M) := by
  simp [e_bnd, h1, h2, h3]
theorem nsif {c : EM} {a b : SM} {s : S} {M : List O} (k : Bool) (h : c s = some (.ok (.p (.bl k)) M)) : sIf c a b s = if k = true then a ⟨s.l, M⟩ else b ⟨s.l, M⟩ := by
  cases k with
  | true => rw [sif_t _ _ _ _ M h, if_pos rfl]
  | false => rw [sif_f _ _ _ _ M h, if_neg Bool.false_ne_true]
section
variable {b : D} {u : Int} {x3 x4 x5 x6 : DV} {M : List O}
theorem sput_run (v k : EM) (i n : Nat) (l : List (Option DV)) (dv : DV) (dk : D) (M M' : List O) (h0 : gv l i = some (.o n)) (h1 : v ⟨l, M⟩ = some (.ok dv M)) (h2 : k ⟨l, M⟩ = some (.ok (.p dk) M)) (h3 : putM M n dk dv = some M') : sPut v (mVar i) k ⟨l, M⟩ = some (.nx, ⟨l, M'⟩) := by
  simp [e_lift, h0, h1, h2, h3, purS]
theorem spop_run (k : EM) (i n : Nat) (l : List (Option DV)) (dk : D) (dv : DV) (M M' : List O) (ds : List (List Key × DV)) (h0 : gv l i = some (.o n)) (hm : M[n]? = some (.dT ds)) (h2 : k ⟨l, M⟩ = some (.ok (.p dk) M)) (h3 : popM M n dk = some (dv, M')) : sExpr (mDpop (mVar i) k) ⟨l, M⟩ = some (.nx, ⟨l, M'⟩) := by
  have hd : isDc M (.o n) = true := by
    show (match M[n]? with | some (O.dK kvs) => some (Dc.k kvs) | some (O.dT kvs) => some (Dc.t kvs) | _ => none).isSome = true
    rw [hm]; rfl
  simp [e_lift, e_bnd, h0, h2, hd, popK, h3, pur]
end
theorem done_cell (b : Bk) (h : Fit b) (p : Sp) (t : String) (w : Int) (ht : t ≠ "") : m_l_done [b.d, (Ed.cell p t w).d] = some (.ok (done b (.cell p t w)).d) := by
  refine done_of b h _ _ ?_
  have hl := ckey_len h.k
  obtain ⟨s, hr⟩ := ret_book (some (.p b.d)) (some (.p (Ed.cell p t w).d)) b.u 0 1 2 3 ((([enO b.c, auO b.c, lsO' b.r, lsO' b.g] : List O).set 0 (enO (putC b.c p (t, w)))).set 1 (auO (putC b.c p (t, w)))) (putC b.c p (t, w)) b.r b.g rfl rfl rfl rfl (by decide) (by decide) (by decide) (by decide) (by decide) (by decide)
  refine ⟨s, ?_⟩
  unfold b_l_done_2
  have k1 : mBin dEq (mIx (mVar 1) (mC (.int 0))) (mC (.str (PySem.Str.ofString "cell"))) ⟨L7 b.d (Ed.cell p t w).d b.u (.o 0) (.o 1) (.o 2) (.o 3), M4 b⟩ = _ := kind_run b.d [En.en p, sd t, .int w] "cell" "cell" b.u (.o 0) (.o 1) (.o 2) (.o 3) (M4 b)
  have k2 : mBin dEq (mIx (mVar 1) (mC (.int 2))) (mC (.str (PySem.Str.ofString ""))) ⟨L7 b.d (Ed.cell p t w).d b.u (.o 0) (.o 1) (.o 2) (.o 3), M4 b⟩ = some (.ok (.p (.bl false)) (M4 b)) := by
    refine bin_run _ _ _ _ _ (sd t) (sd "") _ (it_run b.d (Ed.cell p t w).d (sd t) 2 b.u (.o 0) (.o 1) (.o 2) (.o 3) (M4 b) rfl) rfl ?_
    simp [dEq, sd, ht]
  have p1 := putM_f hfe (fun _ _ _ => rfl) b.c p (t, w) (M4 b) 0 rfl (by omega)
  have p2 := putM_f hfa (fun _ _ _ => rfl) b.c p (t, w) ((M4 b).set 0 (enO (putC b.c p (t, w)))) 1 rfl (by omega)
  have s1 := sput_run (mIx (mVar 1) (mC (.int 2))) (mIx (mVar 1) (mC (.int 1))) 3 0 (L7 b.d (Ed.cell p t w).d b.u (.o 0) (.o 1) (.o 2) (.o 3)) _ _ (M4 b) _ rfl (it_run b.d (Ed.cell p t w).d (sd t) 2 b.u (.o 0) (.o 1) (.o 2) (.o 3) (M4 b) rfl) (it_run b.d (Ed.cell p t w).d (En.en p) 1 b.u (.o 0) (.o 1) (.o 2) (.o 3) (M4 b) rfl) p1
  have s2 := sput_run (mIx (mVar 1) (mC (.int 3))) (mIx (mVar 1) (mC (.int 1))) 4 1 (L7 b.d (Ed.cell p t w).d b.u (.o 0) (.o 1) (.o 2) (.o 3)) _ _ ((M4 b).set 0 (enO (putC b.c p (t, w)))) _ rfl (it_run b.d (Ed.cell p t w).d (.int w) 3 b.u (.o 0) (.o 1) (.o 2) (.o 3) _ rfl) (it_run b.d (Ed.cell p t w).d (En.en p) 1 b.u (.o 0) (.o 1) (.o 2) (.o 3) _ rfl) p2
  refine (seq_nx _ _ _ _ ?_).trans hr
  rw [nsif _ k1, if_pos (by decide), nsif _ k2, if_neg Bool.false_ne_true, seq_nx _ _ _ _ s1, s2]
theorem done_blank (b : Bk) (h : Fit b) (p : Sp) (hp : (look b.c p).isSome = true) : m_l_done [b.d, (Ed.blank p).d] = some (.ok (done b (.blank p)).d) := by
  refine done_of b h _ _ ?_
  obtain ⟨s, hr⟩ := ret_book (some (.p b.d)) (some (.p (Ed.blank p).d)) b.u 0 1 2 3 ((([enO b.c, auO b.c, lsO' b.r, lsO' b.g] : List O).set 0 (enO (dropC b.c p))).set 1 (auO (dropC b.c p))) (dropC b.c p) b.r b.g rfl rfl rfl rfl (by decide) (by decide) (by decide) (by decide) (by decide) (by decide)
  refine ⟨s, ?_⟩
  unfold b_l_done_2
  have k1 : mBin dEq (mIx (mVar 1) (mC (.int 0))) (mC (.str (PySem.Str.ofString "cell"))) ⟨L7 b.d (Ed.blank p).d b.u (.o 0) (.o 1) (.o 2) (.o 3), M4 b⟩ = _ := kind_run b.d [En.en p, sd "", .non] "cell" "cell" b.u (.o 0) (.o 1) (.o 2) (.o 3) (M4 b)
  have k2 : mBin dEq (mIx (mVar 1) (mC (.int 2))) (mC (.str (PySem.Str.ofString ""))) ⟨L7 b.d (Ed.blank p).d b.u (.o 0) (.o 1) (.o 2) (.o 3), M4 b⟩ = some (.ok (.p (.bl true)) (M4 b)) := by
    refine bin_run _ _ _ _ _ (sd "") (sd "") _ (it_run b.d (Ed.blank p).d (sd "") 2 b.u (.o 0) (.o 1) (.o 2) (.o 3) (M4 b) rfl) rfl ?_
    simp [dEq, sd]
  obtain ⟨v1, p1⟩ := popM_f hfe b.c p (M4 b) 0 rfl hp
  obtain ⟨v2, p2⟩ := popM_f hfa b.c p ((M4 b).set 0 (enO (dropC b.c p))) 1 rfl hp
  have s1 := spop_run (mIx (mVar 1) (mC (.int 1))) 3 0 (L7 b.d (Ed.blank p).d b.u (.o 0) (.o 1) (.o 2) (.o 3)) _ _ (M4 b) _ _ rfl rfl (it_run b.d (Ed.blank p).d (En.en p) 1 b.u (.o 0) (.o 1) (.o 2) (.o 3) (M4 b) rfl) p1
  have s2 := spop_run (mIx (mVar 1) (mC (.int 1))) 4 1 (L7 b.d (Ed.blank p).d b.u (.o 0) (.o 1) (.o 2) (.o 3)) _ _ ((M4 b).set 0 (enO (dropC b.c p))) _ _ rfl rfl (it_run b.d (Ed.blank p).d (En.en p) 1 b.u (.o 0) (.o 1) (.o 2) (.o 3) _ rfl) p2
  refine (seq_nx _ _ _ _ ?_).trans hr
  rw [nsif _ k1, if_pos (by decide), nsif _ k2, if_pos rfl, seq_nx _ _ _ _ s1, s2]
end Law
namespace Law
open PySem L2 DL
theorem ixNn (k n : Nat) (h : k < n) : ixN n (k : Int) = some k := by
  rw [ixN_nat (by omega) (by omega)]; rfl
theorem erase_map {α β : Type} (f : α → β) : ∀ (l : List α) (k : Nat), (l.map f).eraseIdx k = (l.eraseIdx k).map f
  | [], _ => rfl
  | _ :: _, 0 => rfl
  | a :: l, k + 1 => by
    show f a :: (l.map f).eraseIdx k = f a :: (l.eraseIdx k).map f
    rw [erase_map f l k]
theorem slO_run {α : Type} [DecidableEq α] [En α] (i n : Nat) (pl pu : PM) (lo hi : Option Int) (l : List (Option DV)) (M : List O) (xs : List α) (h0 : gv l i = some (.o n)) (hm : M[n]? = some (lsO' xs)) (h1 : pl ⟨l, M⟩ = some (.ok lo M)) (h2 : pu ⟨l, M⟩ = some (.ok hi M)) : mSlO (mVar i) pl pu ⟨l, M⟩ = some (.ok (.p (.lst (cutD (xs.map En.en) lo hi))) M) := by
  unfold mSlO
  rw [e_bnd, e_var]
  dsimp only
  rw [h0]
  dsimp only
  rw [e_bnd, h1]
  dsimp only
  rw [e_bnd, h2]
  dsimp only
  have : slO M (.o n) lo hi = some (.lst (cutD (xs.map En.en) lo hi)) := by
    show (match M[n]? with | some (.lst ds) => (match allP ds with | some xs => some (D.lst (cutD xs lo hi)) | none => none) | _ => none) = _
    rw [hm]
    show (match allP ((xs.map En.en).map .p) with | some xs => some (D.lst (cutD xs lo hi)) | none => none) = _
    rw [e_allPm]
  rw [this, e_ret]
theorem psome_run (m : EM) (s : S) (i : Int) (h : m s = some (.ok (.p (.int i)) s.m)) : pSome m s = some (.ok (some i) s.m) := by
  unfold pSome
  rw [e_bnd, h]
  rfl
theorem catO_run (m n : EM) (l : List (Option DV)) (M M1 M2 : List O) (d e : DV) (xs ys : List DV) (h1 : m ⟨l, M⟩ = some (.ok d M1)) (h2 : n ⟨l, M1⟩ = some (.ok e M2)) (g1 : lsO M2 d = some xs) (g2 : lsO M2 e = some ys) (hl : xs.length + ys.length ≤ 1000000) : mCatO m n ⟨l, M⟩ = some (.ok (.o M2.length) (M2 ++ [.lst (xs ++ ys)])) := by
  unfold mCatO
  rw [e_bnd, h1]
  dsimp only
  rw [e_bnd, h2]
  dsimp only
  rw [g1, g2]
  dsimp only
  rw [if_pos hl]
theorem lst1_run (a : EM) (l : List (Option DV)) (M : List O) (x : D) (h1 : a ⟨l, M⟩ = some (.ok (.p x) M)) : disp .lst (aCons a aNil) ⟨l, M⟩ = some (.ok (.p (.lst [x])) M) := by
  simp [e_bnd, h1]
theorem tup1_run (a : EM) (l : List (Option DV)) (M : List O) (x : D) (h1 : a ⟨l, M⟩ = some (.ok (.p x) M)) : disp .tup (aCons a aNil) ⟨l, M⟩ = some (.ok (.p (.tup [x])) M) := by
  simp [e_bnd, h1]
theorem asg_run (m : EM) (g : GM) (l : List (Option DV)) (M M1 : List O) (d : DV) (s : S) (h : m ⟨l, M⟩ = some (.ok d M1)) (hg : g d ⟨l, M1⟩ = some s) : sAsg m g ⟨l, M⟩ = some (.nx, s) := by
  simp [e_lift, h, hg]
theorem app_run (a : EM) (i n : Nat) (l : List (Option DV)) (M : List O) (ds : List DV) (x : D) (h0 : gv l i = some (.o n)) (hm : M[n]? = some (.lst ds)) (h1 : a ⟨l, M⟩ = some (.ok (.p x) M)) (hl : ds.length < 1000000) : sExpr (mMth "list" gApp (mVar i) (aCons a aNil)) ⟨l, M⟩ = some (.nx, ⟨l, M.set n (.lst (ds ++ [.p x]))⟩) := by
  have ht : tyOk "list" M (.o n) = true := by
    show (match M[n]? with | some (.lst _) => "list" == "list" | some (.dK _) => "list" == "dict" | some (.dT _) => "list" == "dict" | _ => false) = true
    rw [hm]; rfl
  simp [e_lift, e_bnd, h0, h1, ht, gApp, hm, hl]
theorem popi_run (a : EM) (i n : Nat) (l : List (Option DV)) (M : List O) (ds : List DV) (k : Nat) (hk : k < ds.length) (h0 : gv l i = some (.o n)) (hm : M[n]? = some (.lst ds)) (h1 : a ⟨l, M⟩ = some (.ok (.p (.int k)) M)) (hl : ds.length ≤ 1000000) : sExpr (mMth "list" gPopI (mVar i) (aCons a aNil)) ⟨l, M⟩ = some (.nx, ⟨l, M.set n (.lst (ds.eraseIdx k))⟩) := by
  have ht : tyOk "list" M (.o n) = true := by
    show (match M[n]? with | some (.lst _) => "list" == "list" | some (.dK _) => "list" == "dict" | some (.dT _) => "list" == "dict" | _ => false) = true
    rw [hm]; rfl
  have hi : ixN ds.length (k : Int) = some k := ixNn k _ hk
  obtain ⟨x, hx⟩ : ∃ x, ds[k]? = some x := ⟨_, List.getElem?_eq_getElem hk⟩
  simp [e_lift, e_bnd, h0, h1, ht, gPopI, hm, hi, hx, hl]
theorem set_run (a : EM) (i n : Nat) (l : List (Option DV)) (M : List O) (ds : List DV) (k : Nat) (hk : k < ds.length) (x : D) (h0 : gv l i = some (.o n)) (hm : M[n]? = some (.lst ds)) (h1 : a ⟨l, M⟩ = some (.ok (.p (.int k)) M)) : gSet (mVar i) a (.p x) ⟨l, M⟩ = some ⟨l, M.set n (.lst (ds.set k (.p x)))⟩ := by
  have hi : ixN ds.length (k : Int) = some k := ixNn k _ hk
  simp [gSet, e_bnd, h0, h1, gSetK, setL, hm, hi]
section
variable {b : Bk} {x3 x4 x5 x6 : DV} {M : List O}
theorem nkind {e : List D} {k s : String} {a c : SM} {u : Int} {bd : D} (h : k ≠ s) : sIf (mBin dEq (mIx (mVar 1) (mC (.int 0))) (mC (.str (PySem.Str.ofString s)))) a c ⟨L7 bd (.tup (sd k :: e)) u x3 x4 x5 x6, M⟩ = c ⟨L7 bd (.tup (sd k :: e)) u x3 x4 x5 x6, M⟩ := by
  rw [nsif _ (kind_run bd e k s u x3 x4 x5 x6 M), if_neg (by simp [h])]
theorem ykind {e : List D} {k : String} {a c : SM} {u : Int} {bd : D} : sIf (mBin dEq (mIx (mVar 1) (mC (.int 0))) (mC (.str (PySem.Str.ofString k)))) a c ⟨L7 bd (.tup (sd k :: e)) u x3 x4 x5 x6, M⟩ = a ⟨L7 bd (.tup (sd k :: e)) u x3 x4 x5 x6, M⟩ := by
  rw [nsif _ (kind_run bd e k k u x3 x4 x5 x6 M), if_pos (by simp)]
end
theorem done_rule (b : Bk) (h : Fit b) (i : Nat) (r : Ru) (hi : i ≤ b.r.length) : m_l_done [b.d, (Ed.rule i r).d] = some (.ok (done b (.rule i r)).d) := by
  refine done_of b h _ _ ?_
  have hl := h.r
  have hd : (Ed.rule i r).d = .tup (sd "rule" :: [.int i, En.en r]) := rfl
  rw [hd]
  obtain ⟨s, hr⟩ := ret_book (some (.p b.d)) (some (.p (.tup (sd "rule" :: [.int i, En.en r])))) b.u 0 1 5 3 (M4 b ++ [.lst (((b.r.map En.en).take i).map .p ++ [.p (En.en r)])] ++ [lsO' (b.r.take i ++ [r] ++ b.r.drop (i + 1))]) b.c (b.r.take i ++ [r] ++ b.r.drop (i + 1)) b.g rfl rfl rfl rfl (by decide) (by decide) (by decide) (by decide) (by decide) (by decide)
  refine ⟨s, ?_⟩
  unfold b_l_done_2
  refine (seq_nx _ _ _ _ ?_).trans hr
  rw [nkind (by decide), ykind]
  have i1 := fun M => it_run b.d (.tup (sd "rule" :: [.int i, En.en r])) (.int i) 1 b.u (.o 0) (.o 1) (.o 2) (.o 3) M rfl
  have i2 := fun M => it_run b.d (.tup (sd "rule" :: [.int i, En.en r])) (En.en r) 2 b.u (.o 0) (.o 1) (.o 2) (.o 3) M rfl
  have i3 : ∀ M, mBin dAdd (mIx (mVar 1) (mC (.int 1))) (mC (.int 1)) ⟨L7 b.d (.tup (sd "rule" :: [.int i, En.en r])) b.u (.o 0) (.o 1) (.o 2) (.o 3), M⟩ = some (.ok (.p (.int ((i + 1 : Nat) : Int))) M) := fun M => bin_run _ _ _ _ _ _ _ _ (i1 M) rfl rfl
  have c1 := slO_run 5 2 pNone _ _ _ (L7 b.d (.tup (sd "rule" :: [.int i, En.en r])) b.u (.o 0) (.o 1) (.o 2) (.o 3)) (M4 b) b.r rfl rfl rfl (psome_run _ _ _ (i1 _))
  have c2 := slO_run 5 2 _ pNone _ _ (L7 b.d (.tup (sd "rule" :: [.int i, En.en r])) b.u (.o 0) (.o 1) (.o 2) (.o 3)) (M4 b ++ [.lst (((b.r.map En.en).take i).map .p ++ [.p (En.en r)])]) b.r rfl rfl (psome_run _ _ _ (i3 _)) rfl
  have c3 := catO_run _ _ _ _ _ _ _ _ (((b.r.map En.en).take i).map .p) [.p (En.en r)] c1 (lst1_run _ _ _ _ (i2 _)) (by rw [cut_to]; rfl) rfl (by simp; omega)
  have c4 := catO_run _ _ _ _ _ _ _ _ (((b.r.map En.en).take i).map .p ++ [.p (En.en r)]) (((b.r.map En.en).drop (i + 1)).map .p) c3 c2 rfl (by rw [cut_from]; rfl) (by simp; omega)
  refine asg_run _ _ _ _ _ _ _ c4 ?_
  have hx : (((b.r.map En.en).take i).map DV.p ++ [.p (En.en r)]) ++ (((b.r.map En.en).drop (i + 1)).map .p) = ((b.r.take i ++ [r] ++ b.r.drop (i + 1)).map (En.en : Ru → D)).map DV.p := by
    simp only [List.map_append, List.map_take, List.map_drop, List.map_cons, List.map_nil]
  rw [hx]
  rfl
theorem done_unrule (b : Bk) (h : Fit b) (i : Nat) (hi : i < b.r.length) : m_l_done [b.d, (Ed.unrule i).d] = some (.ok (done b (.unrule i)).d) := by
  refine done_of b h _ _ ?_
  have hl := h.r
  have hd : (Ed.unrule i).d = .tup (sd "unrule" :: [.int i]) := rfl
  rw [hd]
  obtain ⟨s, hr⟩ := ret_book (some (.p b.d)) (some (.p (.tup (sd "unrule" :: [.int i])))) b.u 0 1 2 3 ((M4 b).set 2 (lsO' (b.r.eraseIdx i))) b.c (b.r.eraseIdx i) b.g rfl rfl rfl rfl (by decide) (by decide) (by decide) (by decide) (by decide) (by decide)
  refine ⟨s, ?_⟩
  unfold b_l_done_2
  refine (seq_nx _ _ _ _ ?_).trans hr
  rw [nkind (by decide), nkind (by decide), ykind]
  have i1 := fun M => it_run b.d (.tup (sd "unrule" :: [.int i])) (.int i) 1 b.u (.o 0) (.o 1) (.o 2) (.o 3) M rfl
  refine (popi_run _ 5 2 _ (M4 b) _ i (by rw [List.length_map, List.length_map]; exact hi) rfl rfl (i1 _) (by rw [List.length_map, List.length_map]; omega)).trans ?_
  have hx : (((b.r.map (En.en : Ru → D)).map DV.p).eraseIdx i) = ((b.r.eraseIdx i).map (En.en : Ru → D)).map DV.p := by
    rw [erase_map, erase_map]
  rw [hx]
theorem done_grant (b : Bk) (h : Fit b) (g : Gr) : m_l_done [b.d, (Ed.grant g).d] = some (.ok (done b (.grant g)).d) := by
  refine done_of b h _ _ ?_
  have hl := h.g
  have hd : (Ed.grant g).d = .tup (sd "grant" :: [En.en g]) := rfl
  rw [hd]
  obtain ⟨s, hr⟩ := ret_book (some (.p b.d)) (some (.p (.tup (sd "grant" :: [En.en g])))) b.u 0 1 2 3 ((M4 b).set 3 (lsO' (b.g ++ [g]))) b.c b.r (b.g ++ [g]) rfl rfl rfl rfl (by decide) (by decide) (by decide) (by decide) (by decide) (by decide)
  refine ⟨s, ?_⟩
  unfold b_l_done_2
  refine (seq_nx _ _ _ _ ?_).trans hr
  rw [nkind (by decide), nkind (by decide), nkind (by decide), ykind]
  have i1 := fun M => it_run b.d (.tup (sd "grant" :: [En.en g])) (En.en g) 1 b.u (.o 0) (.o 1) (.o 2) (.o 3) M rfl
  refine (app_run _ 6 3 _ (M4 b) _ _ rfl rfl (i1 _) (by rw [List.length_map, List.length_map]; omega)).trans ?_
  have hx : ((b.g.map (En.en : Gr → D)).map DV.p) ++ [.p (En.en g)] = ((b.g ++ [g]).map (En.en : Gr → D)).map DV.p := by
    simp only [List.map_append, List.map_cons, List.map_nil]
  rw [hx]
theorem done_revoke (b : Bk) (h : Fit b) (i : Nat) (x : Bool) (hi : i < b.g.length) : m_l_done [b.d, (Ed.revoke i x).d] = some (.ok (done b (.revoke i x)).d) := by
  refine done_of b h _ _ ?_
  have hl := h.g
  have hd : (Ed.revoke i x).d = .tup (sd "revoke" :: [.int i, .bl x]) := rfl
  rw [hd]
  obtain ⟨s, hr⟩ := ret_book (some (.p b.d)) (some (.p (.tup (sd "revoke" :: [.int i, .bl x])))) b.u 0 1 2 3 ((M4 b).set 3 (lsO' (done b (.revoke i x)).g)) b.c b.r (done b (.revoke i x)).g rfl rfl rfl rfl (by decide) (by decide) (by decide) (by decide) (by decide) (by decide)
  refine ⟨s, ?_⟩
  unfold b_l_done_2
  refine (seq_nx _ _ _ _ ?_).trans hr
  rw [nkind (by decide), nkind (by decide), nkind (by decide), nkind (by decide)]
  have i1 := fun M => it_run b.d (.tup (sd "revoke" :: [.int i, .bl x])) (.int i) 1 b.u (.o 0) (.o 1) (.o 2) (.o 3) M rfl
  have i2 := fun M => it_run b.d (.tup (sd "revoke" :: [.int i, .bl x])) (.bl x) 2 b.u (.o 0) (.o 1) (.o 2) (.o 3) M rfl
  obtain ⟨g, hg⟩ : ∃ g, b.g[i]? = some g := ⟨_, List.getElem?_eq_getElem hi⟩
  have c1 : mIx (mVar 6) (mIx (mVar 1) (mC (.int 1))) ⟨L7 b.d (.tup (sd "revoke" :: [.int i, .bl x])) b.u (.o 0) (.o 1) (.o 2) (.o 3), M4 b⟩ = some (.ok (.p (En.en g)) (M4 b)) := by
    have hN : ixN ((b.g.map (En.en : Gr → D)).map DV.p).length (i : Int) = some i := ixNn i _ (by rw [List.length_map, List.length_map]; exact hi)
    have hgg : ((b.g.map (En.en : Gr → D)).map DV.p)[i]? = some (.p (En.en g)) := by rw [List.getElem?_map, List.getElem?_map, hg]; rfl
    have : ixM (M4 b) (.o 3) (i : Int) = some (.p (En.en g)) := by
      show atI ((b.g.map (En.en : Gr → D)).map DV.p) (i : Int) = _
      unfold atI
      rw [hN]; exact hgg
    rw [e_ix, e_bnd]
    show bnd (mIx (mVar 1) (mC (.int 1))) (pur (ixK (.o 3))) ⟨_, M4 b⟩ = _
    rw [e_bnd, i1]
    show (match ixM (M4 b) (.o 3) (i : Int) with | some c => some (Rs.ok c (M4 b)) | none => none) = _
    rw [this]
  have c2 : mSlT (mIx (mVar 6) (mIx (mVar 1) (mC (.int 1)))) pNone (pSome (mC (.int 4))) ⟨L7 b.d (.tup (sd "revoke" :: [.int i, .bl x])) b.u (.o 0) (.o 1) (.o 2) (.o 3), M4 b⟩ = some (.ok (.p (.tup [En.en g.a, En.en g.f, En.en g.t, .int g.b])) (M4 b)) := by
    unfold mSlT
    rw [e_bnd, c1]
    rfl
  have c3 := bin_run dCatT _ _ _ _ _ _ (.tup [En.en g.a, En.en g.f, En.en g.t, .int g.b, .bl x]) c2 (tup1_run _ _ _ _ (i2 _)) rfl
  have c4 := set_run (mIx (mVar 1) (mC (.int 1))) 6 3 (L7 b.d (.tup (sd "revoke" :: [.int i, .bl x])) b.u (.o 0) (.o 1) (.o 2) (.o 3)) (M4 b) _ i (by rw [List.length_map, List.length_map]; exact hi) (.tup [En.en g.a, En.en g.f, En.en g.t, .int g.b, .bl x]) rfl rfl (i1 _)
  refine (asg_run _ _ _ _ _ _ _ c3 c4).trans ?_
  have hx : ((b.g.map (En.en : Gr → D)).map DV.p).set i (.p (.tup [En.en g.a, En.en g.f, En.en g.t, .int g.b, .bl x])) = ((done b (.revoke i x)).g.map (En.en : Gr → D)).map DV.p := by
    show _ = ((b.g.set i ((b.g[i]?.getD ⟨((0, 0), (0, 0)), [], [], 0, false⟩).turn x)).map (En.en : Gr → D)).map DV.p
    rw [hg, List.map_set, List.map_set]
    rfl
  rw [hx]
end Law
namespace Law
open PySem L2 DL
/-! ### draws -/
def AREAS : List Ar := [((0, 0), (1, 1)), ((0, 0), (0, 0)), ((3, 3), (25, 98)), ((0, 0), (25, 98))]
def FUNL : List (List String) := [["RSUM"], ["RAVG", "RCOUNT"], []]
def okL (xs : List Int) : Prop := xs.length ≤ 4 ∧ ∀ x ∈ xs, 0 ≤ x ∧ x ≤ 4
structure Ru.ok (z : Ru) : Prop where
  qa : z.a ∈ AREAS
  qr : okL z.r
  qw : okL z.w
  qo : okL z.o
structure Gr.ok (z : Gr) : Prop where
  qa : z.a ∈ AREAS
  qf : z.f ∈ FUNL
  qt : okL z.t
  qb : 0 ≤ z.b ∧ z.b ≤ 4
theorem rng_ok2 (n : Int) (h0 : 0 ≤ n) (h : n ≤ 4) : rngOk n = true := by unfold rngOk; simp; omega
section
variable {N : Nat} {sv : DV} {Iv : List O → Prop}
theorem runB_of (W : Dw sv N Iv) {n : Nat} {m : SM} {ds : List DV} {M : List O} {v : D} {s' : S} (h : m ⟨slotsOf n ds, M⟩ = some (.rt (.p v), s')) (hM : Iv M) (h' : Iv s'.m) : runB n m ds M = some (.ok (.p v) s'.m) := by
  rw [e_runB, h]
  show some (Rs.ok (DV.p v) (dropM M.length (DV.p v) s'.m)) = _
  rw [W.drop hM h']
theorem take1 (W : Dw sv N Iv) (l : List (Option DV)) (M : List O) (a b : EM) (k : Int) (h1 : a ⟨l, M⟩ = some (.ok sv M)) (h2 : b ⟨l, M⟩ = some (.ok (.p (.int k)) M)) (hk : 1 ≤ k) (hk2 : k < 1000000) (h : Iv M) : ∃ r M', mCallB 2 m_l_take (aCons a (aCons b aNil)) ⟨l, M⟩ = some (.ok (.p (.int r)) M') ∧ Iv M' ∧ 0 ≤ r ∧ r < k := by
  have : wpB (takeM [sv, .p (.int k)] M) fun d M' => ∃ r, d = .p (.int r) ∧ Iv M' ∧ 0 ≤ r ∧ r < k := W.tk h (by omega) fun r M' d _ b => ⟨r, rfl, d, b hk⟩
  obtain ⟨d, M', e, r, rfl, d', b⟩ := this
  have e : m_l_take [sv, .p (.int k)] M = some (.ok (.p (.int r)) M') := e
  exact ⟨r, M', by simp [e_bnd, h1, h2, e], d', b⟩
theorem pick_run {α : Type} (f : α → D) (xs : List α) (m n : EM) (l : List (Option DV)) (M M' : List O) (r : Int) (h1 : m ⟨l, M⟩ = some (.ok (.p (.lst (xs.map f))) M)) (h2 : n ⟨l, M⟩ = some (.ok (.p (.int r)) M')) (h0 : 0 ≤ r) (hr : r < xs.length) : ∃ a, a ∈ xs ∧ mIx m n ⟨l, M⟩ = some (.ok (.p (f a)) M') := by
  obtain ⟨a, ha⟩ : ∃ a, xs[r.toNat]? = some a := ⟨_, List.getElem?_eq_getElem (by omega)⟩
  refine ⟨a, List.mem_of_getElem? ha, ?_⟩
  have : ixD (.lst (xs.map f)) r = some (f a) := by
    show atI (xs.map f) r = _
    unfold atI
    rw [List.length_map, ixN_nat h0 (by omega)]
    show (xs.map f)[r.toNat]? = _
    rw [List.getElem?_map, ha]; rfl
  rw [e_ix, e_bnd, h1]
  show bnd n (pur (ixK (.p (.lst (xs.map f))))) ⟨l, M⟩ = _
  rw [e_bnd, h2]
  show (match (ixD (.lst (xs.map f)) r).map DV.p with | some c => some (Rs.ok c M') | none => none) = _
  rw [this]; rfl
theorem spot_run (W : Dw sv N Iv) (M : List O) (h : Iv M) : ∃ p M', m_l_spot [sv] M = some (.ok (.p (En.en p)) M') ∧ Iv M' ∧ p ∈ SPOTS := by
  obtain ⟨r, M', e, d, b0, b1⟩ := take1 W [some sv] M (mVar 0) (mC (.int 5)) 5 rfl rfl (by decide) (by decide) h
  obtain ⟨p, hp, e2⟩ := pick_run (En.en : Sp → D) SPOTS (disp .lst (aCons (disp .tup (aCons (mC (.int 0)) (aCons (mC (.int 0)) aNil))) (aCons (disp .tup (aCons (mC (.int 1)) (aCons (mC (.int 0)) aNil))) (aCons (disp .tup (aCons (mC (.int 0)) (aCons (mC (.int 1)) aNil))) (aCons (disp .tup (aCons (mC (.int 9)) (aCons (mC (.int 9)) aNil))) (aCons (disp .tup (aCons (mC (.int 25)) (aCons (mC (.int 98)) aNil))) aNil)))))) _ [some sv] M M' r rfl e b0 b1
  refine ⟨p, M', ?_, d, hp⟩
  unfold m_l_spot b_l_spot
  exact runB_of (s' := ⟨[some sv], M'⟩) W (ret_run _ _ _ _ e2) h d
theorem text_run (W : Dw sv N Iv) (M : List O) (h : Iv M) : ∃ t M', m_l_text [sv] M = some (.ok (.p (sd t)) M') ∧ Iv M' ∧ t ∈ TEXTS := by
  obtain ⟨r, M', e, d, b0, b1⟩ := take1 W [some sv] M (mVar 0) (mC (.int 8)) 8 rfl rfl (by decide) (by decide) h
  obtain ⟨p, hp, e2⟩ := pick_run sd TEXTS (disp .lst (aCons (mC (.str (PySem.Str.ofString "1"))) (aCons (mC (.str (PySem.Str.ofString "x"))) (aCons (mC (.str (PySem.Str.ofString "=A1 + 1"))) (aCons (mC (.str (PySem.Str.ofString "TRUE"))) (aCons (mC (.str (PySem.Str.ofString "'"))) (aCons (mC (.str (PySem.Str.ofString "=SUM(A1:B2)"))) (aCons (mC (.str (PySem.Str.ofString "2.5"))) (aCons (mC (.str (PySem.Str.ofString "=B1"))) aNil))))))))) _ [some sv] M M' r rfl e b0 b1
  refine ⟨p, M', ?_, d, hp⟩
  unfold m_l_text b_l_text
  exact runB_of (s' := ⟨[some sv], M'⟩) W (ret_run _ _ _ _ e2) h d
theorem some_run (W : Dw sv N Iv) (n : Int) (hn : 0 ≤ n) (hn2 : n ≤ 4) (M : List O) (h : Iv M) : ∃ xs M', m_l_some [sv, .p (.int n)] M = some (.ok (.p (En.en xs)) M') ∧ Iv M' ∧ okL xs := by
  obtain ⟨ys, M', e, d, r, ll⟩ := compL_drawT (l := [some sv, some (.p (.int n)), none]) (g := gN 2) (t := mBin dEq (mCallB 2 m_l_take (aCons (mVar 0) (aCons (mC (.int 2)) aNil))) (mC (.int 0))) (e := mVar 2) (Inv := Iv) (R := fun y => ∃ i : Int, y = .int i ∧ 0 ≤ i ∧ i ≤ 4) (DL.intsFrom 0 n.toNat) [] M h (by simp) (by simp; omega) fun dd hd M h => by
    obtain ⟨i, hi, rfl⟩ := mem_intsFrom hd
    obtain ⟨q, M2, e2, d2, _⟩ := take1 W [some sv, some (.p (.int n)), some (.p (.int (0 + i)))] M (mVar 0) (mC (.int 2)) 2 rfl rfl (by decide) (by decide) h
    refine ⟨⟨[some sv, some (.p (.int n)), some (.p (.int (0 + i)))], M⟩, rfl, ?_⟩
    refine ⟨.p (.bl (decide (q = 0))), M2, ?_, _, rfl, d2, fun _ => ⟨_, _, rfl, _, rfl, ⟨0 + i, rfl, by omega, by omega⟩, d2⟩⟩
    rw [e_bin, e_bnd, e2]
    simp [e_bnd]
  obtain ⟨xs, rfl, hx⟩ := list_of (f := fun i : Int => D.int i) r
  refine ⟨xs, M', ?_, d, ?_, hx⟩
  · unfold m_l_some b_l_some
    refine runB_of (s' := ⟨_, M'⟩) W (ret_run _ _ _ _ ?_) h d
    have hr : rngOk n = true := rng_ok2 n hn hn2
    rw [e_lc]
    simp only [e_rng, e_bnd, e_aCons, e_var, e_aNil, e_slots, List.map_cons, List.map_nil, List.length_cons, List.length_nil, List.replicate, List.cons_append, List.nil_append, e_gv0, e_gvS]
    simp [hr]
    show (match compL [some sv, some (.p (.int n)), none] (gN 2) _ _ (DL.intsFrom 0 n.toNat) [] M with | some (acc, M) => some (Rs.ok (DV.p (D.lst acc)) M) | none => none) = _
    rw [e]; rfl
  · rw [List.length_map, intsFrom_len, List.length_nil] at ll
    omega
end
end Law
namespace Law
open PySem L2 DL
theorem cB1 (f : List DV → List O → Option (Rs DV)) (a : EM) (l : List (Option DV)) (M M1 M' : List O) (d v : DV) (h1 : a ⟨l, M⟩ = some (.ok d M1)) (h : f [d] M1 = some (.ok v M')) : mCallB 1 f (aCons a aNil) ⟨l, M⟩ = some (.ok v M') := by
  simp [e_bnd, h1, h]
theorem cB2 (f : List DV → List O → Option (Rs DV)) (a b : EM) (l : List (Option DV)) (M M1 M2 M' : List O) (d e v : DV) (h1 : a ⟨l, M⟩ = some (.ok d M1)) (h2 : b ⟨l, M1⟩ = some (.ok e M2)) (h : f [d, e] M2 = some (.ok v M')) : mCallB 2 f (aCons a (aCons b aNil)) ⟨l, M⟩ = some (.ok v M') := by
  simp [e_bnd, h1, h2, h]
theorem cB3 (f : List DV → List O → Option (Rs DV)) (a b c : EM) (l : List (Option DV)) (M M1 M2 M3 M' : List O) (d e g v : DV) (h1 : a ⟨l, M⟩ = some (.ok d M1)) (h2 : b ⟨l, M1⟩ = some (.ok e M2)) (h3 : c ⟨l, M2⟩ = some (.ok g M3)) (h : f [d, e, g] M3 = some (.ok v M')) : mCallB 3 f (aCons a (aCons b (aCons c aNil))) ⟨l, M⟩ = some (.ok v M') := by
  simp [e_bnd, h1, h2, h3, h]
theorem t2 (a b : EM) (l : List (Option DV)) (M M1 M2 : List O) (x y : D) (h1 : a ⟨l, M⟩ = some (.ok (.p x) M1)) (h2 : b ⟨l, M1⟩ = some (.ok (.p y) M2)) : disp .tup (aCons a (aCons b aNil)) ⟨l, M⟩ = some (.ok (.p (.tup [x, y])) M2) := by
  simp [e_bnd, h1, h2]
theorem t3 (a b c : EM) (l : List (Option DV)) (M M1 M2 M3 : List O) (x y z : D) (h1 : a ⟨l, M⟩ = some (.ok (.p x) M1)) (h2 : b ⟨l, M1⟩ = some (.ok (.p y) M2)) (h3 : c ⟨l, M2⟩ = some (.ok (.p z) M3)) : disp .tup (aCons a (aCons b (aCons c aNil))) ⟨l, M⟩ = some (.ok (.p (.tup [x, y, z])) M3) := by
  simp [e_bnd, h1, h2, h3]
theorem t4 (a b c d : EM) (l : List (Option DV)) (M M1 M2 M3 M4 : List O) (x y z w : D) (h1 : a ⟨l, M⟩ = some (.ok (.p x) M1)) (h2 : b ⟨l, M1⟩ = some (.ok (.p y) M2)) (h3 : c ⟨l, M2⟩ = some (.ok (.p z) M3)) (h4 : d ⟨l, M3⟩ = some (.ok (.p w) M4)) : disp .tup (aCons a (aCons b (aCons c (aCons d aNil)))) ⟨l, M⟩ = some (.ok (.p (.tup [x, y, z, w])) M4) := by
  simp [e_bnd, h1, h2, h3, h4]
theorem t5 (a b c d e : EM) (l : List (Option DV)) (M M1 M2 M3 M4 M5 : List O) (x y z w u : D) (h1 : a ⟨l, M⟩ = some (.ok (.p x) M1)) (h2 : b ⟨l, M1⟩ = some (.ok (.p y) M2)) (h3 : c ⟨l, M2⟩ = some (.ok (.p z) M3)) (h4 : d ⟨l, M3⟩ = some (.ok (.p w) M4)) (h5 : e ⟨l, M4⟩ = some (.ok (.p u) M5)) : disp .tup (aCons a (aCons b (aCons c (aCons d (aCons e aNil))))) ⟨l, M⟩ = some (.ok (.p (.tup [x, y, z, w, u])) M5) := by
  simp [e_bnd, h1, h2, h3, h4, h5]
theorem bin2 (g : D → D → Option D) (m n : EM) (l : List (Option DV)) (M M1 M2 : List O) (a b c : D) (h1 : m ⟨l, M⟩ = some (.ok (.p a) M1)) (h2 : n ⟨l, M1⟩ = some (.ok (.p b) M2)) (h3 : g a b = some c) : mBin g m n ⟨l, M⟩ = some (.ok (.p c) M2) := by
  simp [e_bnd, h1, h2, h3]
theorem and2 (a b : EM) (l : List (Option DV)) (M : List O) (p q : Bool) (h1 : a ⟨l, M⟩ = some (.ok (.p (.bl p)) M)) (h2 : b ⟨l, M⟩ = some (.ok (.p (.bl q)) M)) : mAnd a b ⟨l, M⟩ = some (.ok (.p (.bl (p && q))) M) := by
  cases p <;> simp [e_bnd, h1, h2]
theorem or2 (a b : EM) (l : List (Option DV)) (M : List O) (p q : Bool) (h1 : a ⟨l, M⟩ = some (.ok (.p (.bl p)) M)) (h2 : b ⟨l, M⟩ = some (.ok (.p (.bl q)) M)) : mOr a b ⟨l, M⟩ = some (.ok (.p (.bl (p || q))) M) := by
  cases p <;> simp [e_bnd, h1, h2]
section
variable {N : Nat} {sv : DV} {Iv : List O → Prop}
theorem grant_run (W : Dw sv N Iv) (u : Int) (hu : 1 ≤ u) (hu2 : u ≤ 4) (M : List O) (h : Iv M) : ∃ (g : Gr) (M' : List O), m_l_grant [sv, .p (.int u)] M = some (.ok (.p (En.en g)) M') ∧ Iv M' ∧ g.ok := by
  obtain ⟨r1, M1, e1, d1, b0, b1⟩ := take1 W [some sv, some (.p (.int u)), none, none] M (mVar 0) (mC (.int 3)) 3 rfl rfl (by decide) (by decide) h
  obtain ⟨a, ha, p1⟩ := pick_run (En.en : Ar → D) (AREAS.take 3) (disp .lst (aCons (disp .tup (aCons (disp .tup (aCons (mC (.int 0)) (aCons (mC (.int 0)) aNil))) (aCons (disp .tup (aCons (mC (.int 1)) (aCons (mC (.int 1)) aNil))) aNil))) (aCons (disp .tup (aCons (disp .tup (aCons (mC (.int 0)) (aCons (mC (.int 0)) aNil))) (aCons (disp .tup (aCons (mC (.int 0)) (aCons (mC (.int 0)) aNil))) aNil))) (aCons (disp .tup (aCons (disp .tup (aCons (mC (.int 3)) (aCons (mC (.int 3)) aNil))) (aCons (disp .tup (aCons (mC (.int 25)) (aCons (mC (.int 98)) aNil))) aNil))) aNil)))) _ _ _ _ r1 rfl e1 b0 b1
  obtain ⟨r2, M2, e2, d2, b2, b3⟩ := take1 W [some sv, some (.p (.int u)), some (.p (En.en a)), none] M1 (mVar 0) (mC (.int 3)) 3 rfl rfl (by decide) (by decide) d1
  obtain ⟨f, hf, p2⟩ := pick_run (En.en : List String → D) FUNL (disp .lst (aCons (disp .lst (aCons (mC (.str (PySem.Str.ofString "RSUM"))) aNil)) (aCons (disp .lst (aCons (mC (.str (PySem.Str.ofString "RAVG"))) (aCons (mC (.str (PySem.Str.ofString "RCOUNT"))) aNil))) (aCons (disp .lst aNil) aNil)))) _ _ _ _ r2 rfl e2 b2 b3
  obtain ⟨t, M3, e3, d3, ht⟩ := some_run W u (by omega) hu2 M2 d2
  obtain ⟨r4, M4, e4, d4, b4, b5⟩ := take1 W [some sv, some (.p (.int u)), some (.p (En.en a)), some (.p (En.en f))] M3 (mVar 0) (mVar 1) u rfl rfl hu (by omega) d3
  refine ⟨⟨a, f, t, r4, false⟩, M4, ?_, d4, List.mem_of_mem_take ha, hf, ht, b4, by show r4 ≤ 4; omega⟩
  unfold m_l_grant b_l_grant
  refine runB_of (s' := ⟨[some sv, some (.p (.int u)), some (.p (En.en a)), some (.p (En.en f))], M4⟩) W ?_ h d4
  refine (seq_asg _ (gN 2) _ _ ⟨[some sv, some (.p (.int u)), some (.p (En.en a)), none], M1⟩ _ M1 p1 rfl).trans ?_
  refine (seq_asg _ (gN 3) _ _ ⟨[some sv, some (.p (.int u)), some (.p (En.en a)), some (.p (En.en f))], M2⟩ _ M2 p2 rfl).trans ?_
  exact ret_run _ _ _ _ (t5 _ _ _ _ _ _ _ _ _ _ _ _ _ _ _ _ _ rfl rfl (cB2 _ _ _ _ _ _ _ _ _ _ _ rfl rfl e3) e4 rfl)
theorem rule_run (W : Dw sv N Iv) (u : Int) (hu : 1 ≤ u) (hu2 : u ≤ 4) (x : Bool) (M : List O) (h : Iv M) : ∃ (g : Ru) (M' : List O), m_l_rule [sv, .p (.int u), .p (.bl x)] M = some (.ok (.p (En.en g)) M') ∧ Iv M' ∧ g.ok := by
  let A : DV := .p (.lst (AREAS.map (En.en : Ar → D)))
  obtain ⟨r1, M1, e1, d1, b0, b1⟩ := take1 W [some sv, some (.p (.int u)), some (.p (.bl x)), some A, none] M (mVar 0) (mC (.int 4)) 4 rfl rfl (by decide) (by decide) h
  obtain ⟨a, ha, p1⟩ := pick_run (En.en : Ar → D) AREAS (mVar 3) _ _ _ _ r1 rfl e1 b0 b1
  have q : ∃ a' : Ar, a' ∈ AREAS ∧ sIf (mTru (mVar 2)) (sAsg (mIx (mVar 3) (mC (.int 3))) (gN 4)) sNil ⟨[some sv, some (.p (.int u)), some (.p (.bl x)), some A, some (.p (En.en a))], M1⟩ = some (.nx, ⟨[some sv, some (.p (.int u)), some (.p (.bl x)), some A, some (.p (En.en a'))], M1⟩) := by
    cases x with
    | true => exact ⟨((0, 0), (25, 98)), by decide, rfl⟩
    | false => exact ⟨a, ha, rfl⟩
  obtain ⟨a', ha', e2⟩ := q
  obtain ⟨x1, M3, e3, d3, h3⟩ := some_run W u (by omega) hu2 M1 d1
  obtain ⟨x2, M4, e4, d4, h4⟩ := some_run W u (by omega) hu2 M3 d3
  obtain ⟨x3, M5, e5, d5, h5⟩ := some_run W u (by omega) hu2 M4 d4
  refine ⟨⟨a', x1, x2, x3⟩, M5, ?_, d5, ha', h3, h4, h5⟩
  unfold m_l_rule b_l_rule
  refine runB_of (s' := ⟨[some sv, some (.p (.int u)), some (.p (.bl x)), some A, some (.p (En.en a'))], M5⟩) W ?_ h d5
  refine (seq_asg _ (gN 3) _ _ ⟨[some sv, some (.p (.int u)), some (.p (.bl x)), some A, none], M⟩ A M rfl rfl).trans ?_
  refine (seq_asg _ (gN 4) _ _ ⟨[some sv, some (.p (.int u)), some (.p (.bl x)), some A, some (.p (En.en a))], M1⟩ _ M1 p1 rfl).trans ?_
  refine (seq_nx _ _ _ _ e2).trans ?_
  exact ret_run _ _ _ _ (t4 _ _ _ _ _ _ _ _ _ _ _ _ _ _ rfl (cB2 _ _ _ _ _ _ _ _ _ _ _ rfl rfl e3) (cB2 _ _ _ _ _ _ _ _ _ _ _ rfl rfl e4) (cB2 _ _ _ _ _ _ _ _ _ _ _ rfl rfl e5))
end
/-! ### an edit -/
structure BOk (n : Nat) (b : Bk) : Prop where
  k : Kys b.c
  e : ∀ q ∈ b.c, q.2.1 ∈ TEXTS ∧ 0 ≤ q.2.2 ∧ q.2.2 ≤ 4
  r : b.r.length ≤ n
  g : b.g.length ≤ n
  rk : ∀ u ∈ b.r, u.ok
  gk : ∀ u ∈ b.g, u.ok
  u : 1 ≤ b.u ∧ b.u ≤ 4
structure EOk (b : Bk) (e : Ed) : Prop where
  f : e.fits b
  r : ∀ i r, e = .rule i r → r.ok
  g : ∀ g, e = .grant g → g.ok
section
variable {N : Nat} {sv : DV} {Iv : List O → Prop}
abbrev E10 (sv : DV) (b : Bk) (x7 x8 x9 : Option DV) : List (Option DV) := [some sv, some (.p b.d), some (.p (.int b.u)), some (.p (.dT (b.c.map enK))), some (.p (.dT (b.c.map auK))), some (.p (En.en b.r)), some (.p (En.en b.g)), x7, x8, x9]
theorem din_en (i j : Nat) (l : List (Option DV)) (M : List O) (c : Cls) (p : Sp) (h1 : gv l i = some (.p (En.en p))) (h2 : gv l j = some (.p (.dT (c.map enK)))) : mDin false (mVar i) (mVar j) ⟨l, M⟩ = some (.ok (.p (.bl (look c p).isSome)) M) := by
  rw [e_din, e_bnd, e_var]
  dsimp only
  rw [h1]
  dsimp only
  rw [e_pur, e_bnd, e_var]
  dsimp only
  rw [h2]
  dsimp only
  rw [e_dinK]
  dsimp only
  rw [getM_en]
  cases look c p <;> rfl
theorem len_run {α : Type} [DecidableEq α] [En α] (i : Nat) (l : List (Option DV)) (M : List O) (xs : List α) (h : gv l i = some (.p (En.en xs))) : mCB dLen (aCons (mVar i) aNil) ⟨l, M⟩ = some (.ok (.p (.int (xs.length : Int))) M) := by
  rw [en_ls] at h
  simp [e_bnd, h]
theorem edit_run (W : Dw sv N Iv) (b : Bk) {n : Nat} (hn : n ≤ 1000) (hb : BOk n b) (M : List O) (h : Iv M) : ∃ (e : Ed) (M' : List O), m_l_edit [sv, .p b.d] M = some (.ok (.p e.d) M') ∧ Iv M' ∧ EOk b e := by
  obtain ⟨k, M1, e1, d1, k0, k1⟩ := take1 W (E10 sv b none none none) M (mVar 0) (mC (.int 9)) 9 rfl rfl (by decide) (by decide) h
  obtain ⟨p, M2, e2, d2, hp⟩ := spot_run W M1 d1
  suffices hs : ∃ (e : Ed) (s : S), b_l_edit_3 ⟨E10 sv b (some (.p (.int k))) (some (.p (En.en p))) none, M2⟩ = some (.rt (.p e.d), s) ∧ Iv s.m ∧ EOk b e by
    obtain ⟨e, s, e3, d3, o⟩ := hs
    refine ⟨e, s.m, ?_, d3, o⟩
    unfold m_l_edit
    refine runB_of (s' := s) W ?_ h d3
    unfold b_l_edit
    refine (seq_asg _ (gT 5 _) _ _ ⟨E10 sv b none none none, M⟩ _ M rfl rfl).trans ?_
    unfold b_l_edit_1
    refine (seq_asg _ (gN 7) _ _ ⟨E10 sv b (some (.p (.int k))) none none, M1⟩ _ M1 e1 rfl).trans ?_
    unfold b_l_edit_2
    exact (seq_asg _ (gN 8) _ _ ⟨E10 sv b (some (.p (.int k))) (some (.p (En.en p))) none, M2⟩ _ M2 (cB1 _ _ _ _ _ _ _ _ rfl e2) rfl).trans e3
  have hu := hb.u
  have hk7 : ∀ (j : Int) x9 M, mBin dEq (mVar 7) (mC (.int j)) ⟨E10 sv b (some (.p (.int k))) (some (.p (En.en p))) x9, M⟩ = some (.ok (.p (.bl (decide (k = j)))) M) := fun j x9 M => bin_run _ _ _ _ _ _ _ _ rfl rfl (by simp [dEq])
  unfold b_l_edit_3
  have c1 := and2 _ _ _ _ _ _ (hk7 0 none M2) (din_en 8 3 _ M2 b.c p rfl rfl)
  by_cases q1 : (decide (k = 0) && (look b.c p).isSome) = true
  · rw [q1] at c1
    rw [Bool.and_eq_true] at q1
    refine ⟨.blank p, ⟨E10 sv b (some (.p (.int k))) (some (.p (En.en p))) none, M2⟩, ?_, d2, q1.2, fun _ _ h => (nomatch h), fun _ h => (nomatch h)⟩
    rw [e_seq, sif_t _ _ _ _ _ c1]
    rfl
  rw [Bool.eq_false_iff.mpr q1] at c1
  rw [e_seq, sif_f _ _ _ _ _ c1]
  show ∃ (e : Ed) (s : S), b_l_edit_4 ⟨E10 sv b (some (.p (.int k))) (some (.p (En.en p))) none, M2⟩ = some (.rt (.p e.d), s) ∧ Iv s.m ∧ EOk b e
  unfold b_l_edit_4
  have c2 : mBin dLt (mVar 7) (mC (.int 5)) ⟨E10 sv b (some (.p (.int k))) (some (.p (En.en p))) none, M2⟩ = some (.ok (.p (.bl (decide (k < 5)))) M2) := bin_run _ _ _ _ _ _ _ _ rfl rfl rfl
  by_cases q2 : k < 5
  · rw [decide_eq_true q2] at c2
    obtain ⟨t, M3, e3, d3, ht⟩ := text_run W M2 d2
    obtain ⟨w, M4, e4, d4, w0, w1⟩ := take1 W (E10 sv b (some (.p (.int k))) (some (.p (En.en p))) none) M3 (mVar 0) (mVar 2) b.u rfl rfl hu.1 (by omega) d3
    refine ⟨.cell p t w, ⟨E10 sv b (some (.p (.int k))) (some (.p (En.en p))) none, M4⟩, ?_, d4, ⟨hp, ht, w0, by omega⟩, fun _ _ h => (nomatch h), fun _ h => (nomatch h)⟩
    rw [e_seq, sif_t _ _ _ _ _ c2, ret_run _ _ _ _ (t4 _ _ _ _ _ _ _ _ _ _ _ _ _ _ rfl rfl (cB1 _ _ _ _ _ _ _ _ rfl e3) e4)]
    rfl
  rw [decide_eq_false q2] at c2
  rw [e_seq, sif_f _ _ _ _ _ c2]
  show ∃ (e : Ed) (s : S), b_l_edit_5 ⟨E10 sv b (some (.p (.int k))) (some (.p (En.en p))) none, M2⟩ = some (.rt (.p e.d), s) ∧ Iv s.m ∧ EOk b e
  unfold b_l_edit_5
  have hr := hb.r
  have hg := hb.g
  have c3 := hk7 5 none M2
  by_cases q3 : k = 5
  · rw [decide_eq_true q3] at c3
    obtain ⟨i, M3, e3, d3, i0, i1⟩ := take1 W (E10 sv b (some (.p (.int k))) (some (.p (En.en p))) none) M2 (mVar 0) (mBin dAdd (mCB dLen (aCons (mVar 5) aNil)) (mC (.int 1))) ((b.r.length : Int) + 1) rfl (bin_run _ _ _ _ _ _ _ _ (len_run 5 _ _ b.r rfl) rfl rfl) (by omega) (by omega) d2
    obtain ⟨r, M4, e4, d4, ro⟩ := rule_run W b.u hu.1 hu.2 (decide (i = 0)) M3 d3
    obtain ⟨j, rfl⟩ : ∃ j : Nat, i = j := ⟨i.toNat, by omega⟩
    refine ⟨.rule j r, ⟨E10 sv b (some (.p (.int k))) (some (.p (En.en p))) (some (.p (.int j))), M4⟩, ?_, d4, show j ≤ b.r.length by omega, fun _ _ h => by cases h; exact ro, fun _ h => (nomatch h)⟩
    have c4 : mBin dEq (mVar 9) (mC (.int 0)) ⟨E10 sv b (some (.p (.int k))) (some (.p (En.en p))) (some (.p (.int j))), M3⟩ = some (.ok (.p (.bl (decide ((j : Int) = 0)))) M3) := bin_run _ _ _ _ _ _ _ _ rfl rfl (by simp [dEq])
    rw [e_seq, sif_t _ _ _ _ _ c3, seq_asg _ (gN 9) _ _ ⟨E10 sv b (some (.p (.int k))) (some (.p (En.en p))) (some (.p (.int j))), M3⟩ _ M3 e3 rfl, ret_run _ _ _ _ (t3 _ _ _ _ _ _ _ _ _ _ _ rfl rfl (cB3 _ _ _ _ _ _ _ _ _ _ _ _ _ _ rfl rfl c4 e4))]
    rfl
  rw [decide_eq_false q3] at c3
  rw [e_seq, sif_f _ _ _ _ _ c3]
  show ∃ (e : Ed) (s : S), b_l_edit_6 ⟨E10 sv b (some (.p (.int k))) (some (.p (En.en p))) none, M2⟩ = some (.rt (.p e.d), s) ∧ Iv s.m ∧ EOk b e
  unfold b_l_edit_6
  have c4 := and2 _ _ _ _ _ _ (hk7 6 none M2) (bin_run dGt _ (mC (.int 1)) _ _ _ (.int 1) (.bl (decide (1 < (b.r.length : Int)))) (len_run 5 (E10 sv b (some (.p (.int k))) (some (.p (En.en p))) none) M2 b.r rfl) rfl rfl)
  by_cases q4 : (decide (k = 6) && decide (1 < (b.r.length : Int))) = true
  · rw [q4] at c4
    rw [Bool.and_eq_true, decide_eq_true_eq, decide_eq_true_eq] at q4
    obtain ⟨i, M3, e3, d3, i0, i1⟩ := take1 W (E10 sv b (some (.p (.int k))) (some (.p (En.en p))) none) M2 (mVar 0) (mBin dSub (mCB dLen (aCons (mVar 5) aNil)) (mC (.int 1))) ((b.r.length : Int) - 1) rfl (bin_run _ _ _ _ _ _ _ _ (len_run 5 _ _ b.r rfl) rfl rfl) (by omega) (by omega) d2
    obtain ⟨j, hj⟩ : ∃ j : Nat, 1 + i = j := ⟨(1 + i).toNat, by omega⟩
    refine ⟨.unrule j, ⟨E10 sv b (some (.p (.int k))) (some (.p (En.en p))) none, M3⟩, ?_, d3, ⟨by omega, by omega⟩, fun _ _ h => (nomatch h), fun _ h => (nomatch h)⟩
    have c5 := bin2 dAdd (mC (.int 1)) _ _ M2 M2 M3 (.int 1) (.int i) (.int j) rfl e3 (by rw [← hj]; rfl)
    rw [e_seq, sif_t _ _ _ _ _ c4, ret_run _ _ _ _ (t2 _ _ _ _ _ _ _ _ rfl c5)]
    rfl
  rw [Bool.eq_false_iff.mpr q4] at c4
  rw [e_seq, sif_f _ _ _ _ _ c4]
  show ∃ (e : Ed) (s : S), b_l_edit_7 ⟨E10 sv b (some (.p (.int k))) (some (.p (En.en p))) none, M2⟩ = some (.rt (.p e.d), s) ∧ Iv s.m ∧ EOk b e
  unfold b_l_edit_7
  have c5 := and2 _ _ _ _ _ _ (hk7 7 none M2) (bin_run dGt _ (mC (.int 0)) _ _ _ (.int 0) (.bl (decide (0 < (b.g.length : Int)))) (len_run 6 (E10 sv b (some (.p (.int k))) (some (.p (En.en p))) none) M2 b.g rfl) rfl rfl)
  by_cases q5 : (decide (k = 7) && decide (0 < (b.g.length : Int))) = true
  · rw [q5] at c5
    rw [Bool.and_eq_true, decide_eq_true_eq, decide_eq_true_eq] at q5
    obtain ⟨i, M3, e3, d3, i0, i1⟩ := take1 W (E10 sv b (some (.p (.int k))) (some (.p (En.en p))) none) M2 (mVar 0) (mCB dLen (aCons (mVar 6) aNil)) (b.g.length : Int) rfl (len_run 6 _ _ b.g rfl) (by omega) (by omega) d2
    obtain ⟨g, hg2, e4⟩ := pick_run (En.en : Gr → D) b.g (mVar 6) (mVar 9) (E10 sv b (some (.p (.int k))) (some (.p (En.en p))) (some (.p (.int i)))) M3 M3 i rfl rfl i0 i1
    obtain ⟨j, rfl⟩ : ∃ j : Nat, i = j := ⟨i.toNat, by omega⟩
    refine ⟨.revoke j (!g.x), ⟨E10 sv b (some (.p (.int k))) (some (.p (En.en p))) (some (.p (.int j))), M3⟩, ?_, d3, show j < b.g.length by omega, fun _ _ h => (nomatch h), fun _ h => (nomatch h)⟩
    have c6 : mNot (mIx (mIx (mVar 6) (mVar 9)) (mC (.int 4))) ⟨E10 sv b (some (.p (.int k))) (some (.p (En.en p))) (some (.p (.int j))), M3⟩ = some (.ok (.p (.bl (!g.x))) M3) := by
      have c7 : mIx (mIx (mVar 6) (mVar 9)) (mC (.int 4)) ⟨E10 sv b (some (.p (.int k))) (some (.p (En.en p))) (some (.p (.int j))), M3⟩ = some (.ok (.p (.bl g.x)) M3) := by
        rw [e_ix, e_bnd, e4]
        rfl
      rw [e_not, e_bnd, c7]
      cases g.x <;> rfl
    rw [e_seq, sif_t _ _ _ _ _ c5, seq_asg _ (gN 9) _ _ ⟨E10 sv b (some (.p (.int k))) (some (.p (En.en p))) (some (.p (.int j))), M3⟩ _ M3 e3 rfl, ret_run _ _ _ _ (t3 _ _ _ _ _ _ _ _ _ _ _ rfl rfl c6)]
    rfl
  rw [Bool.eq_false_iff.mpr q5] at c5
  rw [e_seq, sif_f _ _ _ _ _ c5]
  show ∃ (e : Ed) (s : S), b_l_edit_8 ⟨E10 sv b (some (.p (.int k))) (some (.p (En.en p))) none, M2⟩ = some (.rt (.p e.d), s) ∧ Iv s.m ∧ EOk b e
  unfold b_l_edit_8
  obtain ⟨g, M3, e3, d3, go⟩ := grant_run W b.u hu.1 hu.2 M2 d2
  exact ⟨.grant g, ⟨_, M3⟩, ret_run _ _ _ _ (t2 _ _ _ _ _ _ _ _ rfl (cB2 _ _ _ _ _ _ _ _ _ _ _ rfl rfl e3)), d3, trivial, fun _ _ h => (nomatch h), fun _ h => by cases h; exact go⟩
end
end Law
namespace Law
open PySem L2 DL
/-! ### an edit keeps a book small -/
theorem ckey_put (c : Cls) (p : Sp) (v : String × Int) : ckey (putC c p v) = if p ∈ ckey c then ckey c else ckey c ++ [p] := by
  unfold putC
  have h : (c.any fun q => decide (q.1 = p)) = true ↔ p ∈ ckey c := by
    unfold ckey
    rw [List.any_eq_true, List.mem_map]
    simp only [decide_eq_true_eq]
  by_cases q : p ∈ ckey c
  · rw [if_pos (h.mpr q), if_pos q]
    unfold ckey
    rw [List.map_map]
    refine List.map_congr_left fun a _ => ?_
    show (if a.1 = p then (a.1, v) else a).1 = a.1
    split <;> rfl
  · rw [if_neg fun z => q (h.mp z), if_neg q]
    unfold ckey
    rw [List.map_append]; rfl
theorem ckey_drop (c : Cls) (p : Sp) : ckey (dropC c p) = (ckey c).filter fun q => decide (q ≠ p) := by
  unfold ckey dropC
  rw [List.filter_map]; rfl
theorem kys_put {c : Cls} (h : Kys c) (p : Sp) (hp : p ∈ SPOTS) (v : String × Int) : Kys (putC c p v) := by
  constructor
  · rw [ckey_put]
    split
    · exact h.nd
    · rename_i q
      exact List.nodup_append.mpr ⟨h.nd, List.nodup_cons.mpr ⟨List.not_mem_nil, List.nodup_nil⟩, fun a ha b hb e => q (by rw [List.mem_singleton.mp hb] at e; exact e ▸ ha)⟩
  · rw [ckey_put]
    split
    · exact h.sp
    · intro a ha
      rcases List.mem_append.mp ha with ha | ha
      · exact h.sp a ha
      · rw [List.mem_singleton.mp ha]; exact hp
theorem kys_drop {c : Cls} (h : Kys c) (p : Sp) : Kys (dropC c p) := by
  constructor
  · rw [ckey_drop]; exact h.nd.filter _
  · rw [ckey_drop]; exact fun a ha => h.sp a (List.mem_filter.mp ha).1
theorem BOk.fit {n : Nat} {b : Bk} (h : BOk n b) (hn : n ≤ 1000) : Fit b := ⟨h.k, Nat.le_trans h.r hn, Nat.le_trans h.g hn⟩
theorem BOk.mono {n m : Nat} {b : Bk} (h : BOk n b) (hm : n ≤ m) : BOk m b := ⟨h.k, h.e, Nat.le_trans h.r hm, Nat.le_trans h.g hm, h.rk, h.gk, h.u⟩
theorem done_eq {n : Nat} {b : Bk} {e : Ed} (hb : BOk n b) (hn : n ≤ 1000) (he : EOk b e) : m_l_done [b.d, e.d] = some (.ok (done b e).d) := by
  cases e with
  | cell p t w => exact done_cell b (hb.fit hn) p t w fun z => absurd (show ("" : String) ∈ TEXTS from z ▸ he.f.2.1) (by decide)
  | blank p => exact done_blank b (hb.fit hn) p he.f
  | rule i r => exact done_rule b (hb.fit hn) i r he.f
  | unrule i => exact done_unrule b (hb.fit hn) i he.f.2
  | grant g => exact done_grant b (hb.fit hn) g
  | revoke i x => exact done_revoke b (hb.fit hn) i x he.f
theorem done_ok {n : Nat} {b : Bk} {e : Ed} (hb : BOk n b) (he : EOk b e) : BOk (n + 1) (done b e) := by
  have hb' := hb.mono (Nat.le_succ n)
  have hr := hb.r
  have hg := hb.g
  cases e with
  | cell p t w =>
    refine ⟨kys_put hb.k p he.f.1 _, ?_, hb'.r, hb'.g, hb.rk, hb.gk, hb.u⟩
    intro q hq
    have hq : q ∈ putC b.c p (t, w) := hq
    unfold putC at hq
    split at hq
    · obtain ⟨a, ha, rfl⟩ := List.mem_map.mp hq
      split
      · exact he.f.2
      · exact hb.e a ha
    · rcases List.mem_append.mp hq with hq | hq
      · exact hb.e q hq
      · rw [List.mem_singleton.mp hq]; exact he.f.2
  | blank p => exact ⟨kys_drop hb.k p, fun q hq => hb.e q (List.mem_filter.mp hq).1, hb'.r, hb'.g, hb.rk, hb.gk, hb.u⟩
  | rule i r =>
    have hi : i ≤ b.r.length := he.f
    refine ⟨hb.k, hb.e, ?_, hb'.g, ?_, hb.gk, hb.u⟩
    · show (b.r.take i ++ [r] ++ b.r.drop (i + 1)).length ≤ n + 1
      simp
      omega
    · intro u hu
      have hu : u ∈ b.r.take i ++ [r] ++ b.r.drop (i + 1) := hu
      rcases List.mem_append.mp hu with hu | hu
      · rcases List.mem_append.mp hu with hu | hu
        · exact hb.rk u (List.mem_of_mem_take hu)
        · rw [List.mem_singleton.mp hu]; exact he.r i r rfl
      · exact hb.rk u (List.mem_of_mem_drop hu)
  | unrule i => exact ⟨hb.k, hb.e, Nat.le_trans (List.length_eraseIdx_le _ _) hb'.r, hb'.g, fun u hu => hb.rk u (List.mem_of_mem_eraseIdx hu), hb.gk, hb.u⟩
  | grant g =>
    refine ⟨hb.k, hb.e, hb'.r, ?_, hb.rk, ?_, hb.u⟩
    · show (b.g ++ [g]).length ≤ n + 1
      simp
      exact hg
    · intro u hu
      rcases List.mem_append.mp hu with hu | hu
      · exact hb.gk u hu
      · rw [List.mem_singleton.mp hu]; exact he.g g rfl
  | revoke i x =>
    have hi : i < b.g.length := he.f
    refine ⟨hb.k, hb.e, hb'.r, by show (b.g.set _ _).length ≤ _; rw [List.length_set]; exact hb'.g, hb.rk, ?_, hb.u⟩
    intro u hu
    obtain ⟨g, hg⟩ : ∃ g, b.g[i]? = some g := ⟨_, List.getElem?_eq_getElem hi⟩
    have hu : u ∈ b.g.set i ((b.g[i]?.getD ⟨((0, 0), (0, 0)), [], [], 0, false⟩).turn x) := hu
    rw [hg] at hu
    rcases List.mem_or_eq_of_mem_set hu with hu | hu
    · exact hb.gk u hu
    · have o := hb.gk g (List.mem_of_getElem? hg)
      rw [hu]
      exact ⟨o.qa, o.qf, o.qt, o.qb⟩
/-! ### the law's book -/
def book0 (u : Int) : Bk := ⟨u, [], [⟨((0, 0), (25, 98)), (List.range u.toNat).map Int.ofNat, (List.range u.toNat).map Int.ofNat, (List.range u.toNat).map Int.ofNat⟩], []⟩
theorem start_eq (u : Int) (h : 1 ≤ u) (h2 : u ≤ 4) : m_l_start [.int u] = some (.ok (book0 u).d) := by
  rcases (show u = 1 ∨ u = 2 ∨ u = 3 ∨ u = 4 by omega) with rfl | rfl | rfl | rfl <;> rfl
theorem book0_ok (u : Int) (h : 1 ≤ u) (h2 : u ≤ 4) : BOk 1 (book0 u) := by
  have o : okL ((List.range u.toNat).map Int.ofNat) := by
    refine ⟨by simp; omega, fun x hx => ?_⟩
    obtain ⟨i, hi, rfl⟩ := List.mem_map.mp hx
    have := List.mem_range.mp hi
    exact ⟨Int.natCast_nonneg _, by show (i : Int) ≤ 4; omega⟩
  exact ⟨⟨List.nodup_nil, fun _ h => (nomatch h)⟩, fun _ h => (nomatch h), Nat.le_refl _, Nat.zero_le _, fun v hv => by
    rw [List.mem_singleton.mp hv]
    exact ⟨by show ((0, 0), (25, 98)) ∈ AREAS; decide, o, o, o⟩, fun _ h => (nomatch h), h, h2⟩
section
variable {N : Nat} {sv : DV} {Iv : List O → Prop}
theorem cA2' (f : MA) (a b : EM) (l : List (Option DV)) (M M1 M2 : List O) (x y z : D) (h1 : a ⟨l, M⟩ = some (.ok (.p x) M1)) (h2 : b ⟨l, M1⟩ = some (.ok (.p y) M2)) (h : f [x, y] = some (.ok z)) : mCallA 2 f (aCons a (aCons b aNil)) ⟨l, M⟩ = some (.ok (.p z) M2) := by
  simp [e_bnd, h1, h2, h]
theorem rngT (m : EM) (l : List (Option DV)) (M M' : List O) (r : Int) (h : m ⟨l, M⟩ = some (.ok (.p (.int r)) M')) (h0 : 0 ≤ r) (h1 : r ≤ 1000) : mRng rng1D (aCons m aNil) ⟨l, M⟩ = some (.ok (DL.intsFrom 0 r.toNat) M') := by
  have hr : rngOk r = true := by unfold rngOk; simp; omega
  simp [e_bnd, h, hr]
theorem book_loop (W : Dw sv N Iv) (u m : D) : ∀ (k n : Nat) (b : Bk) (i : Int) (x4 : Option DV) (M : List O), n + k ≤ 1000 → BOk n b → Iv M → ∃ (b' : Bk) (y4 : Option DV) (M' : List O), loopS (gN 4) (sAsg (mCallA 2 m_l_done (aCons (mVar 3) (aCons (mCallB 2 m_l_edit (aCons (mVar 0) (aCons (mVar 3) aNil))) aNil))) (gN 3)) (DL.intsFrom i k) ⟨[some sv, some (.p u), some (.p m), some (.p b.d), x4], M⟩ = some (.nx, ⟨[some sv, some (.p u), some (.p m), some (.p b'.d), y4], M'⟩) ∧ Iv M' ∧ BOk (n + k) b'
  | 0, n, b, i, x4, M, _, hb, h => ⟨b, x4, M, by rw [ints0]; rfl, h, hb⟩
  | k + 1, n, b, i, x4, M, hn, hb, h => by
    obtain ⟨e, M1, e1, d1, he⟩ := edit_run W b (by omega) hb M h
    obtain ⟨b', y4, M', e2, d2, hb'⟩ := book_loop W u m k (n + 1) (done b e) (i + 1) (some (.p (.int i))) M1 (by omega) (done_ok hb he) d1
    refine ⟨b', y4, M', ?_, d2, hb'.mono (by omega)⟩
    rw [intsS, loopS_cons]
    have s1 := asg_run _ (gN 3) [some sv, some (.p u), some (.p m), some (.p b.d), some (.p (.int i))] M M1 _ ⟨[some sv, some (.p u), some (.p m), some (.p (done b e).d), some (.p (.int i))], M1⟩ (cA2' m_l_done (mVar 3) _ _ M M M1 _ _ _ rfl (cB2 _ (mVar 0) (mVar 3) _ M M M M1 _ _ _ rfl rfl e1) (done_eq hb (by omega) he)) rfl
    have g : gN 4 (.p (.int i)) ⟨[some sv, some (.p u), some (.p m), some (.p b.d), x4], M⟩ = some ⟨[some sv, some (.p u), some (.p m), some (.p b.d), some (.p (.int i))], M⟩ := rfl
    rw [g]
    dsimp only
    rw [s1]
    exact e2
theorem book_run (W : Dw sv N Iv) (u most : Int) (hu : 1 ≤ u) (hu2 : u ≤ 4) (hm : 1 ≤ most) (hm2 : most ≤ 100) (M : List O) (h : Iv M) : ∃ (b : Bk) (M' : List O), m_l_book [sv, .p (.int u), .p (.int most)] M = some (.ok (.p b.d) M') ∧ Iv M' ∧ BOk (1 + most.toNat) b := by
  obtain ⟨r, M1, e1, d1, r0, r1⟩ := take1 W [some sv, some (.p (.int u)), some (.p (.int most)), some (.p (book0 u).d), none] M (mVar 0) (mVar 2) most rfl rfl hm (by omega) h
  obtain ⟨b, y4, M', e2, d2, hb⟩ := book_loop W (.int u) (.int most) r.toNat 1 (book0 u) 0 none M1 (by omega) (book0_ok u hu hu2) d1
  refine ⟨b, M', ?_, d2, hb.mono (by omega)⟩
  unfold m_l_book b_l_book
  refine runB_of (s' := ⟨[some sv, some (.p (.int u)), some (.p (.int most)), some (.p b.d), y4], M'⟩) W ?_ h d2
  have s0 : mCallA 1 m_l_start (aCons (mVar 1) aNil) ⟨[some sv, some (.p (.int u)), some (.p (.int most)), none, none], M⟩ = some (.ok (.p (book0 u).d) M) := by
    have := start_eq u hu hu2
    simp [e_bnd, this]
  refine (seq_asg _ (gN 3) _ _ ⟨[some sv, some (.p (.int u)), some (.p (.int most)), some (.p (book0 u).d), none], M⟩ _ M s0 rfl).trans ?_
  rw [e_seq, e_for, e_lift, rngT _ _ _ _ _ e1 r0 (by omega)]
  dsimp only
  rw [e2]
  exact ret_run _ _ _ _ rfl
end
end Law
namespace Law
open PySem L2 DL
/-! ### spots -/
def addS (acc : List Sp) (p : Sp) : List Sp := if p ∈ acc then acc else acc ++ [p]
def uni (bs : List Bk) : List Sp := bs.foldl (fun acc b => (ckey b.c).foldl addS acc) []
def lx {α : Type} (a b : α → Int) (p q : α) : Bool := decide (a p < a q ∨ (a p = a q ∧ b p ≤ b q))
theorem lx_iff {α : Type} {a b : α → Int} {p q : α} : lx a b p q = true ↔ a p < a q ∨ (a p = a q ∧ b p ≤ b q) := decide_eq_true_iff
theorem lx_pw {α : Type} (a b : α → Int) (l : List α) : (l.mergeSort (lx a b)).Pairwise fun p q => lx a b p q = true := by
  refine List.pairwise_mergeSort (fun x y z h1 h2 => ?_) (fun x y => ?_) l
  · rw [lx_iff] at *; omega
  · rw [Bool.or_eq_true, lx_iff, lx_iff]; omega
abbrev lxS : Sp → Sp → Bool := lx (fun x => x.2) (fun x => x.1)
theorem sortS_perm {l m : List Sp} (h : l.Perm m) : l.mergeSort lxS = m.mergeSort lxS := by
  refine List.Perm.eq_of_pairwise (le := fun p q => lxS p q = true) (fun a b _ _ h1 h2 => ?_) (lx_pw _ _ l) (lx_pw _ _ m) (((List.mergeSort_perm l _).trans h).trans (List.mergeSort_perm m _).symm)
  rw [lx_iff] at h1 h2
  exact Prod.ext (by omega) (by omega)
def knD (acc : List Sp) : List (List Key × D) := acc.map fun p => (spK p, .bl true)
abbrev knO (acc : List Sp) : O := .dT ((knD acc).map fun q => (q.1, DV.p q.2))
abbrev keyS (p : Sp) : D := .tup [.int p.2, .int p.1]
theorem sort_kn (f : MA) (hf : ∀ p : Sp, f [En.en p] = some (.ok (keyS p))) (acc : List Sp) : sortKD f (.dT (knD acc)) = some (.lst ((acc.mergeSort lxS).map En.en)) := by
  have e1 : ((knD acc).map fun p => D.tup (p.1.map kD)) = acc.map (En.en : Sp → D) := by
    unfold knD
    rw [List.map_map]; rfl
  have e2 : keysM f (acc.map (En.en : Sp → D)) = some (acc.map keyS) := by
    induction acc with
    | nil => rfl
    | cons q l ih =>
      rw [List.map_cons]
      unfold keysM
      rw [hf q]
      simp only
      rw [ih (by unfold knD; rw [List.map_map]; rfl)]
      rfl
  have h1 : (acc.map keyS).all shp = true := by
    rw [List.all_eq_true]
    intro d hd
    obtain ⟨q, _, rfl⟩ := List.mem_map.mp hd
    rfl
  have h2 : sortOk (toPs (acc.map keyS)) = true := sortOk_ii acc (fun q => q.2) (fun q => q.1)
  unfold sortKD
  simp only [e1, e2]
  rw [h1, h2]
  show some (D.lst (sortBy _ _)) = _
  unfold sortBy
  rw [List.zip_map']
  have e := List.map_mergeSort (r := lxS) (s := PySem.W.dataLe false fun p : D × D => toP p.2) (f := fun q : Sp => ((En.en q, keyS q) : D × D)) (l := acc) fun p _ q _ => by
    have := congrFun (congrFun (PySem.W.dataLe_ii (fun q : Sp => q.2) (fun q => q.1)) p) q
    exact this.symm
  rw [← e, List.map_map]
  rfl
theorem key_law (p : Sp) : (lamK 1 (disp .tup (aCons (mIx (mVar 0) (mC (.int 1))) (aCons (mIx (mVar 0) (mC (.int 0))) aNil)))) [En.en p] = some (.ok (keyS p)) := rfl
theorem key_prog (p : Sp) : m_place_key [En.en p] = some (.ok (keyS p)) := by
  unfold m_place_key b_place_key
  exact runA_of (s := ⟨[some (.p (En.en p))], []⟩) (ret_run _ _ _ _ rfl)
/-! putting -/
theorem put_kn (acc : List Sp) (p : Sp) : putO ((knD acc).map fun q => (q.1, DV.p q.2)) (spK p) (.p (.bl true)) = (knD (addS acc p)).map fun q => (q.1, DV.p q.2) := by
  unfold putO addS knD
  have e : (((acc.map fun p => ((spK p, .bl true) : List Key × D)).map fun q => (q.1, DV.p q.2)).any fun q => decide (q.1 = spK p)) = decide (p ∈ acc) := by
    rw [List.any_map, List.any_map, Bool.eq_iff_iff, List.any_eq_true, decide_eq_true_eq]
    constructor
    · rintro ⟨q, hq, e⟩
      have e : decide (spK q = spK p) = true := e
      rw [decide_eq_true_eq, spK_iff] at e
      exact e ▸ hq
    · intro h
      exact ⟨p, h, by show decide (spK p = spK p) = true; simp⟩
  rw [e]
  by_cases h : p ∈ acc
  · rw [decide_eq_true h, if_pos rfl, if_pos h]
    simp only [List.map_map]
    refine List.map_congr_left fun q _ => ?_
    show (if spK q = spK p then (spK q, DV.p (.bl true)) else (spK q, DV.p (.bl true))) = _
    split <;> rfl
  · rw [decide_eq_false h, if_neg Bool.false_ne_true, if_neg h, List.map_append, List.map_append]
    rfl
theorem put_knD (acc : List Sp) (p : Sp) : putO (knD acc) (spK p) (.bl true) = knD (addS acc p) := by
  unfold putO addS knD
  have e : ((acc.map fun p => ((spK p, .bl true) : List Key × D)).any fun q => decide (q.1 = spK p)) = decide (p ∈ acc) := by
    rw [List.any_map, Bool.eq_iff_iff, List.any_eq_true, decide_eq_true_eq]
    constructor
    · rintro ⟨q, hq, e⟩
      have e : decide (spK q = spK p) = true := e
      rw [decide_eq_true_eq, spK_iff] at e
      exact e ▸ hq
    · intro h
      exact ⟨p, h, by show decide (spK p = spK p) = true; simp⟩
  rw [e]
  by_cases h : p ∈ acc
  · rw [decide_eq_true h, if_pos rfl, if_pos h, List.map_map]
    refine List.map_congr_left fun q _ => ?_
    show (if spK q = spK p then (spK q, D.bl true) else (spK q, D.bl true)) = _
    split <;> rfl
  · rw [decide_eq_false h, if_neg Bool.false_ne_true, if_neg h, List.map_append]
    rfl
theorem addS_len (acc : List Sp) (p : Sp) : (addS acc p).length ≤ acc.length + 1 := by
  unfold addS; split <;> simp
theorem addS_nd {acc : List Sp} (h : acc.Nodup) (p : Sp) : (addS acc p).Nodup := by
  unfold addS
  split
  · exact h
  · rename_i q
    exact List.nodup_append.mpr ⟨h, List.nodup_cons.mpr ⟨List.not_mem_nil, List.nodup_nil⟩, fun a ha b hb e => q (by rw [List.mem_singleton.mp hb] at e; exact e ▸ ha)⟩
theorem addS_mem {acc : List Sp} {p q : Sp} : q ∈ addS acc p ↔ q ∈ acc ∨ q = p := by
  unfold addS
  split
  · rename_i h
    exact ⟨.inl, fun z => z.elim id fun e => e ▸ h⟩
  · rw [List.mem_append, List.mem_singleton]
theorem fold_nd : ∀ (ps acc : List Sp), acc.Nodup → (ps.foldl addS acc).Nodup
  | [], _, h => h
  | p :: ps, acc, h => fold_nd ps (addS acc p) (addS_nd h p)
theorem fold_mem {q : Sp} : ∀ (ps acc : List Sp), q ∈ ps.foldl addS acc ↔ q ∈ acc ∨ q ∈ ps
  | [], acc => by simp
  | p :: ps, acc => by
    rw [List.foldl_cons, fold_mem ps, addS_mem, List.mem_cons, or_assoc]
abbrev uniA (acc : List Sp) (bs : List Bk) : List Sp := bs.foldl (fun acc b => (ckey b.c).foldl addS acc) acc
theorem uni_nd : ∀ (bs : List Bk) (acc : List Sp), acc.Nodup → (uniA acc bs).Nodup
  | [], _, h => h
  | b :: bs, acc, h => uni_nd bs _ (fold_nd _ _ h)
theorem uni_mem {q : Sp} : ∀ (bs : List Bk) (acc : List Sp), q ∈ uniA acc bs ↔ q ∈ acc ∨ ∃ b ∈ bs, q ∈ ckey b.c
  | [], acc => by simp [uniA]
  | b :: bs, acc => by
    show q ∈ uniA _ bs ↔ _
    rw [uni_mem bs, fold_mem]
    simp only [List.mem_cons, exists_eq_or_imp, or_assoc]
/-- the places, in order -/
noncomputable def plc (bs : List Bk) : List Sp := (uni bs).mergeSort lxS
theorem plc_mem {q : Sp} {bs : List Bk} : q ∈ plc bs ↔ ∃ b ∈ bs, q ∈ ckey b.c := by
  unfold plc
  rw [(List.mergeSort_perm _ _).mem_iff]
  unfold uni
  rw [uni_mem]
  simp
theorem plc_nd (bs : List Bk) : (plc bs).Nodup := (List.mergeSort_perm _ _).nodup_iff.mpr (uni_nd bs [] List.nodup_nil)
theorem plc_perm {bs cs : List Bk} (h : ∀ b, b ∈ bs ↔ b ∈ cs) : plc bs = plc cs := by
  refine sortS_perm ((List.perm_ext_iff_of_nodup (uni_nd bs [] List.nodup_nil) (uni_nd cs [] List.nodup_nil)).mpr fun q => ?_)
  rw [uni_mem, uni_mem]
  simp only [h]
theorem plc_len {bs : List Bk} (h : ∀ b ∈ bs, Kys b.c) : (plc bs).length ≤ 5 := nodup_sub_len _ SPOTS (plc_nd bs) fun q hq => by
  obtain ⟨b, hb, hq⟩ := plc_mem.mp hq
  exact (h b hb).sp q hq
theorem keys_it (c : Cls) : itKD (.dT (c.map enK)) = some ((ckey c).map fun p => .p (En.en p)) := by
  show some ((c.map enK).map fun p => DV.p (.tup (p.1.map kD))) = _
  unfold ckey
  rw [List.map_map, List.map_map]; rfl
/-! the law's -/
section
variable {B : List O} {x0 : Option DV}
abbrev S4 (x0 : Option DV) (n : Nat) (x2 x3 : Option DV) (M : List O) : S := ⟨[x0, some (.o n), x2, x3], M⟩
theorem kn_put (acc : List Sp) (p : Sp) (x2 : Option DV) (hl : acc.length < 1000000) : sPut (mC (.bl true)) (mVar 1) (mVar 3) (S4 x0 B.length x2 (some (.p (En.en p))) (B ++ [knO acc])) = some (.nx, S4 x0 B.length x2 (some (.p (En.en p))) (B ++ [knO (addS acc p)])) := by
  refine sput_run _ _ 1 B.length _ (.p (.bl true)) (En.en p) _ _ rfl rfl rfl ?_
  have h : (B ++ [knO acc])[B.length]? = some (knO acc) := by simp
  unfold putM
  rw [h]
  dsimp only
  rw [keyT_sp]
  dsimp only
  rw [if_pos (by unfold knD; rw [List.length_map, List.length_map]; exact hl), put_kn]
  simp
theorem kn_in (x2 : Option DV) : ∀ (ps acc : List Sp) (x3 : Option DV), acc.length + ps.length ≤ 1000 → ∃ y3, loopS (gN 3) (sPut (mC (.bl true)) (mVar 1) (mVar 3)) (ps.map fun p => .p (En.en p)) (S4 x0 B.length x2 x3 (B ++ [knO acc])) = some (.nx, S4 x0 B.length x2 y3 (B ++ [knO (ps.foldl addS acc)]))
  | [], acc, x3, _ => ⟨x3, rfl⟩
  | p :: ps, acc, x3, hl => by
    rw [List.length_cons] at hl
    have := addS_len acc p
    obtain ⟨y3, e⟩ := kn_in x2 ps (addS acc p) (some (.p (En.en p))) (by omega)
    refine ⟨y3, ?_⟩
    rw [List.map_cons, loopS_cons]
    have g : gN 3 (.p (En.en p)) (S4 x0 B.length x2 x3 (B ++ [knO acc])) = some (S4 x0 B.length x2 (some (.p (En.en p))) (B ++ [knO acc])) := rfl
    rw [g]
    dsimp only
    rw [kn_put acc p x2 (by omega)]
    exact e
theorem kn_out : ∀ (bs : List Bk) (acc : List Sp) (x2 x3 : Option DV), (∀ b ∈ bs, Kys b.c) → acc.Nodup → (∀ q ∈ acc, q ∈ SPOTS) → ∃ y2 y3, loopS (gN 2) (sFor (mItD itKD (mIx (mVar 2) (mC (.int 2)))) (gN 3) (sPut (mC (.bl true)) (mVar 1) (mVar 3))) (bs.map fun b => .p b.d) (S4 x0 B.length x2 x3 (B ++ [knO acc])) = some (.nx, S4 x0 B.length y2 y3 (B ++ [knO (uniA acc bs)]))
  | [], acc, x2, x3, _, _, _ => ⟨x2, x3, rfl⟩
  | b :: bs, acc, x2, x3, hb, nd, sp => by
    have kb := hb b List.mem_cons_self
    have l1 := nodup_sub_len acc SPOTS nd sp
    have l2 := nodup_sub_len _ SPOTS kb.nd kb.sp
    have l3 : SPOTS.length = 5 := rfl
    obtain ⟨z3, e1⟩ := kn_in (B := B) (x0 := x0) (some (.p b.d)) (ckey b.c) acc x3 (by omega)
    obtain ⟨y2, y3, e2⟩ := kn_out bs ((ckey b.c).foldl addS acc) (some (.p b.d)) z3 (fun c hc => hb c (List.mem_cons_of_mem _ hc)) (fold_nd _ _ nd) (fun q hq => by
      rcases (fold_mem _ _).mp hq with h | h
      · exact sp q h
      · exact kb.sp q h)
    refine ⟨y2, y3, ?_⟩
    rw [List.map_cons, loopS_cons]
    have g : gN 2 (.p b.d) (S4 x0 B.length x2 x3 (B ++ [knO acc])) = some (S4 x0 B.length (some (.p b.d)) x3 (B ++ [knO acc])) := rfl
    rw [g]
    dsimp only
    have it : mItD itKD (mIx (mVar 2) (mC (.int 2))) (S4 x0 B.length (some (.p b.d)) x3 (B ++ [knO acc])) = some (.ok ((ckey b.c).map fun p => .p (En.en p)) (B ++ [knO acc])) := by
      rw [e_itD, e_bnd, ix_book b 2 _ _ 2 _ rfl rfl]
      show (match itKD (.dT (b.c.map enK)) with | some ds => some (Rs.ok ds (B ++ [knO acc])) | none => none) = _
      rw [keys_it]
    rw [e_for, e_lift, it]
    dsimp only
    rw [e1]
    exact e2
structure TOk (Ps : List Addr) (B : List O) : Prop where
  t : B[0]? = some (.tbl (Ps.getD 0 0) (lamq (PySem.Str.ofString "_law_spots")))
  c : B.all (closed B.length) = true
theorem l_spots_eq {Ps : List Addr} (hB : TOk Ps B) (bs : List Bk) (hb : ∀ b ∈ bs, Kys b.c) : m_l_spots Ps [.p (.lst (bs.map Bk.d))] B = some (.ok (.p (En.en (plc bs))) B) := by
  have h0 : 0 < B.length := (List.getElem?_eq_some_iff.mp hB.t).1
  obtain ⟨y2, y3, e⟩ := kn_out (B := B) (x0 := some (.p (.lst (bs.map Bk.d)))) bs [] none none hb List.nodup_nil (fun _ h => (nomatch h))
  unfold m_l_spots
  have hx : b_l_spots Ps ⟨slotsOf 4 [.p (.lst (bs.map Bk.d))], B⟩ = some (.rt (.p (En.en (plc bs))), S4 (some (.p (.lst (bs.map Bk.d)))) B.length y2 y3 (B ++ [.gone])) := by
    unfold b_l_spots
    refine (seq_asg _ (gN 1) _ _ (S4 (some (.p (.lst (bs.map Bk.d)))) B.length none none (B ++ [knO []])) _ (B ++ [knO []]) (e_dnew _ _) rfl).trans ?_
    have it : mItD itL (mVar 0) (S4 (some (.p (.lst (bs.map Bk.d)))) B.length none none (B ++ [knO []])) = some (.ok (bs.map fun b => .p b.d) (B ++ [knO []])) := by
      show some (Rs.ok ((bs.map Bk.d).map DV.p) (B ++ [knO []])) = _
      rw [List.map_map]; rfl
    rw [e_seq, e_for, e_lift, it]
    dsimp only
    rw [e]
    dsimp only
    refine ret_run _ _ _ _ ?_
    have fz := frzD_var 1 B.length [some (.p (.lst (bs.map Bk.d))), some (.o B.length), y2, y3] (B ++ [knO (uniA [] bs)]) (knO (uniA [] bs)) (.dT (knD (uniA [] bs))) rfl (by simp) (by
      have : ∀ l : List (List Key × D), allKP (l.map fun q => (q.1, DV.p q.2)) = some l := by
        intro l
        induction l with
        | nil => rfl
        | cons a l ih =>
          show (allKP (l.map fun q => (q.1, DV.p q.2))).map ((a.1, a.2) :: ·) = _
          rw [ih]; rfl
      show (allKP ((knD (uniA [] bs)).map fun q => (q.1, DV.p q.2))).map D.dT = _
      rw [this]; rfl)
    have s : (B ++ [knO (uniA [] bs)]).set B.length .gone = B ++ [.gone] := by simp
    rw [s] at fz
    have q5 : tblAt (B ++ [.gone]) 0 (Ps.getD 0 0) (lamq (PySem.Str.ofString "_law_spots")) = true := by
      unfold tblAt
      rw [List.getElem?_append_left h0, hB.t]
      simp
    unfold mSortL
    rw [e_bnd, fz]
    show (if tblAt (B ++ [.gone]) 0 (Ps.getD 0 0) (lamq (PySem.Str.ofString "_law_spots")) = true then ret (sortKD _ (.dT (knD (uniA [] bs)))) ⟨_, B ++ [.gone]⟩ else none) = _
    rw [if_pos q5, sort_kn _ key_law]
    rfl
  rw [e_runB, hx]
  show some (Rs.ok _ (dropM B.length _ (B ++ [O.gone]))) = _
  rw [dropM_app rfl hB.c]
end
/-! the program's -/
theorem cg_in (l : List (Option DV)) (M : List O) (h3 : 3 < l.length) : ∀ (ps acc : List Sp), acc.length + ps.length ≤ 1000 → compG l (gN 3) tYesM (putB (mVar 3) (mC (.bl true))) (ps.map fun p => .p (En.en p)) (knD acc) M = some (knD (ps.foldl addS acc), M)
  | [], acc, _ => rfl
  | p :: ps, acc, hl => by
    rw [List.length_cons] at hl
    have := addS_len acc p
    have ih := cg_in l M h3 ps (addS acc p) (by omega)
    rw [List.map_cons]
    unfold compG
    have g : gN 3 (.p (En.en p)) ⟨l, M⟩ = some ⟨l.set 3 (some (.p (En.en p))), M⟩ := rfl
    have gv3 : gv (l.set 3 (some (.p (En.en p)))) 3 = some (.p (En.en p)) := by
      unfold gv
      rw [List.getElem?_set_self h3]
    rw [g]
    have t : tYesM ⟨l.set 3 (some (.p (En.en p))), M⟩ = some (.ok (.p (.bl true)) M) := rfl
    have b : putB (mVar 3) (mC (.bl true)) ⟨l.set 3 (some (.p (En.en p))), M⟩ (knD acc) = some (knD (addS acc p), M) := by
      unfold putB
      rw [e_var]
      dsimp only
      rw [gv3]
      dsimp only
      rw [keyT_sp]
      dsimp only
      rw [e_c]
      dsimp only
      rw [if_pos (by unfold knD; rw [List.length_map]; omega), put_knD]
    dsimp only
    rw [t]
    dsimp only
    rw [b]
    exact ih
theorem cg_out (x0 x1 : Option DV) (M : List O) : ∀ (bs : List Bk) (acc : List Sp), (∀ b ∈ bs, Kys b.c) → acc.Nodup → (∀ q ∈ acc, q ∈ SPOTS) → compG [x0, x1, none, none] (gN 2) tYesM (inB (mItD itKD (mIx (mVar 2) (mC (.int 2)))) [3] (gN 3) tYesM (putB (mVar 3) (mC (.bl true)))) (bs.map fun b => .p b.d) (knD acc) M = some (knD (uniA acc bs), M)
  | [], acc, _, _, _ => rfl
  | b :: bs, acc, hb, nd, sp => by
    have kb := hb b List.mem_cons_self
    have l1 := nodup_sub_len acc SPOTS nd sp
    have l2 := nodup_sub_len _ SPOTS kb.nd kb.sp
    have l3 : SPOTS.length = 5 := rfl
    have ih := cg_out x0 x1 M bs ((ckey b.c).foldl addS acc) (fun c hc => hb c (List.mem_cons_of_mem _ hc)) (fold_nd _ _ nd) (fun q hq => by
      rcases (fold_mem _ _).mp hq with h | h
      · exact sp q h
      · exact kb.sp q h)
    rw [List.map_cons]
    unfold compG
    have g : gN 2 (.p b.d) ⟨[x0, x1, none, none], M⟩ = some ⟨[x0, x1, some (.p b.d), none], M⟩ := rfl
    rw [g]
    have t : tYesM ⟨[x0, x1, some (.p b.d), none], M⟩ = some (.ok (.p (.bl true)) M) := rfl
    dsimp only
    rw [t]
    dsimp only
    have it : mItD itKD (mIx (mVar 2) (mC (.int 2))) ⟨[x0, x1, some (.p b.d), none], M⟩ = some (.ok ((ckey b.c).map fun p => .p (En.en p)) M) := by
      rw [e_itD, e_bnd, ix_book b 2 _ _ 2 _ rfl rfl]
      show (match itKD (.dT (b.c.map enK)) with | some ds => some (Rs.ok ds M) | none => none) = _
      rw [keys_it]
    have bm : inB (mItD itKD (mIx (mVar 2) (mC (.int 2)))) [3] (gN 3) tYesM (putB (mVar 3) (mC (.bl true))) ⟨[x0, x1, some (.p b.d), none], M⟩ (knD acc) = some (knD ((ckey b.c).foldl addS acc), M) := by
      unfold inB
      rw [it]
      dsimp only
      exact cg_in (wipeL [x0, x1, some (.p b.d), none] [3]) M (show 3 < 4 by decide) (ckey b.c) acc (by omega)
    rw [bm]
    exact ih
theorem addr_eq (bs : List Bk) (hb : ∀ b ∈ bs, Kys b.c) : m_addresses_in [.lst (bs.map Bk.d)] = some (.ok (En.en (plc bs))) := by
  have e := cg_out (some (.p (.lst (bs.map Bk.d)))) none [] bs [] hb List.nodup_nil (fun _ h => (nomatch h))
  unfold m_addresses_in
  refine runA_of (s := ⟨[some (.p (.lst (bs.map Bk.d))), some (.o 0), none, none], [.gone]⟩) ?_
  unfold b_addresses_in
  have a1 : mDc (mItD itL (mVar 0)) [2, 3] (gN 2) tYesM (inB (mItD itKD (mIx (mVar 2) (mC (.int 2)))) [3] (gN 3) tYesM (putB (mVar 3) (mC (.bl true)))) ⟨slotsOf 4 ([D.lst (bs.map Bk.d)].map .p), []⟩ = some (.ok (.o 0) [knO (uniA [] bs)]) := by
    rw [e_dc]
    have it : mItD itL (mVar 0) ⟨slotsOf 4 ([D.lst (bs.map Bk.d)].map .p), []⟩ = some (.ok (bs.map fun b => .p b.d) []) := by
      show some (Rs.ok ((bs.map Bk.d).map DV.p) []) = _
      rw [List.map_map]; rfl
    rw [e_bnd, it]
    show (match compG [some (.p (.lst (bs.map Bk.d))), none, none, none] _ _ _ _ [] [] with | some (acc, M) => some (Rs.ok (DV.o M.length) (M ++ [O.dT (acc.map fun (p : List Key × D) => (p.1, DV.p p.2))])) | none => none) = _
    have e : compG [some (.p (.lst (bs.map Bk.d))), none, none, none] (gN 2) tYesM (inB (mItD itKD (mIx (mVar 2) (mC (.int 2)))) [3] (gN 3) tYesM (putB (mVar 3) (mC (.bl true)))) (bs.map fun b => .p b.d) [] [] = some (knD (uniA [] bs), []) := e
    rw [e]
    rfl
  refine (seq_asg _ (gN 1) _ _ ⟨[some (.p (.lst (bs.map Bk.d))), some (.o 0), none, none], [knO (uniA [] bs)]⟩ _ _ a1 rfl).trans ?_
  refine ret_run _ _ _ _ ?_
  have fz := frzD_var 1 0 [some (.p (.lst (bs.map Bk.d))), some (.o 0), none, none] [knO (uniA [] bs)] (knO (uniA [] bs)) (.dT (knD (uniA [] bs))) rfl rfl (by
      have : ∀ l : List (List Key × D), allKP (l.map fun q => (q.1, DV.p q.2)) = some l := by
        intro l
        induction l with
        | nil => rfl
        | cons a l ih =>
          show (allKP (l.map fun q => (q.1, DV.p q.2))).map ((a.1, a.2) :: ·) = _
          rw [ih]; rfl
      show (allKP ((knD (uniA [] bs)).map fun q => (q.1, DV.p q.2))).map D.dT = _
      rw [this]; rfl)
  rw [e_sortK, e_bnd, fz]
  show ret (sortKD m_place_key (.dT (knD (uniA [] bs)))) _ = _
  rw [sort_kn _ key_prog]
  rfl
end Law
namespace Law
open PySem L2 DL
/-! ### what an edit touches -/
abbrev cellD (p : Sp) : D := .tup [sd "cell", En.en p]
abbrev rulesD : D := .tup [sd "rules", .non]
abbrev grantD (k : Nat) : D := .tup [sd "grant", .int k]
def chg (b o : Bk) (k : Nat) : Bool := decide (b.g[k]? ≠ o.g[k]?)
structure Pre (b o : Bk) : Prop where
  le : b.g.length ≤ o.g.length
  eq : ∀ (k : Nat) (g h : Gr), b.g[k]? = some g → o.g[k]? = some h → h.turn g.x = g
  u : o.u = b.u
theorem Pre.iff {b o : Bk} (h : Pre b o) {k : Nat} {g h' : Gr} (h1 : b.g[k]? = some g) (h2 : o.g[k]? = some h') : g = h' ↔ g.x = h'.x := by
  constructor
  · intro e; rw [e]
  · intro e
    have := h.eq k g h' h1 h2
    rw [e] at this
    rw [← this]; rfl
def rest (b o : Bk) (i n : Nat) : List D := ((List.range' i n).filter (chg b o)).map grantD
noncomputable def cha (b o : Bk) : List D := ((plc [b, o]).filter fun p => decide (ent b.c p ≠ ent o.c p)).map cellD
noncomputable def chR (b o : Bk) : List D := cha b o ++ if b.r ≠ o.r then [rulesD] else []
noncomputable def chs (b o : Bk) : List D := chR b o ++ rest b o 0 o.g.length
theorem ne_run {α : Type} [DecidableEq α] [En α] (hd : En.dp α ≤ 64) (a b : EM) (l : List (Option DV)) (M : List O) (x y : α) (h1 : a ⟨l, M⟩ = some (.ok (.p (En.en x)) M)) (h2 : b ⟨l, M⟩ = some (.ok (.p (En.en y)) M)) : mBin dNe a b ⟨l, M⟩ = some (.ok (.p (.bl (decide (x ≠ y)))) M) := by
  refine bin_run dNe a b l M _ _ _ h1 h2 ?_
  unfold dNe
  rw [eqD_en x y hd]
  show some (D.bl (!decide (x = y))) = _
  rw [decide_not]
theorem app_step (B : List O) (cond a : EM) (q : Bool) (x : D) (l : List (Option DV)) (acc : List D) (h0 : gv l 2 = some (.o B.length)) (hc : cond ⟨l, B ++ [.lst (acc.map .p)]⟩ = some (.ok (.p (.bl q)) (B ++ [.lst (acc.map .p)]))) (ha : a ⟨l, B ++ [.lst (acc.map .p)]⟩ = some (.ok (.p x) (B ++ [.lst (acc.map .p)]))) (hl : acc.length < 1000000) :
    sIf cond (sExpr (mMth "list" gApp (mVar 2) (aCons a aNil))) sNil ⟨l, B ++ [.lst (acc.map .p)]⟩ = some (.nx, ⟨l, B ++ [.lst ((acc ++ if q = true then [x] else []).map .p)]⟩) := by
  cases q with
  | true =>
    rw [sif_t _ _ _ _ _ hc]
    refine (app_run a 2 B.length l _ (acc.map .p) x h0 (by simp) ha (by simpa using hl)).trans ?_
    simp
  | false =>
    rw [sif_f _ _ _ _ _ hc]
    simp [e_nil]
theorem ix_run (a b : EM) (l : List (Option DV)) (M : List O) (d c : D) (i : Int) (h1 : a ⟨l, M⟩ = some (.ok (.p d) M)) (h2 : b ⟨l, M⟩ = some (.ok (.p (.int i)) M)) (h : ixD d i = some c) : mIx a b ⟨l, M⟩ = some (.ok (.p c) M) := by
  simp [e_bnd, h1, h2, h]
theorem at_en {α : Type} [DecidableEq α] [En α] (xs : List α) (k : Nat) (a : α) (h : xs[k]? = some a) : ixD (En.en xs) (k : Int) = some (En.en a) := by
  have hk : k < xs.length := (List.getElem?_eq_some_iff.mp h).1
  show atI (xs.map En.en) (k : Int) = _
  unfold atI
  rw [List.length_map, ixNn k _ hk]
  show (xs.map En.en)[k]? = _
  rw [List.getElem?_map, h]; rfl
theorem gr_x (g : Gr) : ixD (En.en g) 4 = some (.bl g.x) := rfl
theorem e_ent (b : Bk) (p : Sp) (i j : Nat) (l : List (Option DV)) (M : List O) (h1 : gv l i = some (.p b.d)) (h2 : gv l j = some (.p (En.en p))) : mCallA 2 m_entry_of (aCons (mVar i) (aCons (mVar j) aNil)) ⟨l, M⟩ = some (.ok (.p (En.en (ent b.c p))) M) := callA2 _ _ _ _ _ _ _ _ h1 h2 (entry_of_eq b p)
theorem l_ent (b : Bk) (p : Sp) (i j : Nat) (l : List (Option DV)) (M : List O) (h1 : gv l i = some (.p b.d)) (h2 : gv l j = some (.p (En.en p))) : mCallA 2 m_l_entry (aCons (mVar i) (aCons (mVar j) aNil)) ⟨l, M⟩ = some (.ok (.p (En.en (ent b.c p))) M) := callA2 _ _ _ _ _ _ _ _ h1 h2 (l_entry_eq b p)
theorem dpE : En.dp (String × Option Int) ≤ 64 := by decide
theorem dpG : En.dp (List Gr) ≤ 64 := by decide
theorem dpR : En.dp (List Ru) ≤ 64 := by decide
theorem two_mem {α : Type} {P : α → Prop} {x y : α} (h1 : P x) (h2 : P y) : ∀ b ∈ [x, y], P b := by
  intro b hb
  rcases List.mem_cons.mp hb with rfl | hb
  · exact h1
  · rw [List.mem_singleton.mp hb]; exact h2
theorem changed_eq (b o : Bk) (kb : Kys b.c) (ko : Kys o.c) : m_changed_cells [b.d, o.d] = some (.ok (En.en ((plc [b, o]).filter fun p => decide (ent b.c p ≠ ent o.c p)))) := by
  have hk : ∀ c ∈ [b, o], Kys c.c := two_mem (P := fun c : Bk => Kys c.c) kb ko
  have hl := plc_len hk
  unfold m_changed_cells
  refine runA_of (s := ⟨[some (.p b.d), some (.p o.d), some (.p (En.en (plc [b, o]))), none], []⟩) ?_
  unfold b_changed_cells
  have a1 : mCallA 1 m_addresses_in (aCons (disp .lst (aCons (mVar 0) (aCons (mVar 1) aNil))) aNil) ⟨slotsOf 4 ([b.d, o.d].map .p), []⟩ = some (.ok (.p (En.en (plc [b, o]))) []) := by
    have := addr_eq [b, o] hk
    have this : m_addresses_in [.lst [b.d, o.d]] = some (.ok (En.en (plc [b, o]))) := this
    simp [e_bnd, this]
  refine (seq_asg _ (gN 2) _ _ ⟨[some (.p b.d), some (.p o.d), some (.p (En.en (plc [b, o]))), none], []⟩ _ [] a1 rfl).trans ?_
  refine ret_run _ _ _ _ ?_
  refine lcs _ _ _ _ _ ⟨[some (.p b.d), some (.p o.d), some (.p (En.en (plc [b, o]))), none], []⟩ (((plc [b, o]).map En.en).map .p) _ rfl ?_
  show compL [some (.p b.d), some (.p o.d), some (.p (En.en (plc [b, o]))), none] (gN 3) _ _ _ [] [] = some (_, [])
  rw [filter_comp (l := [some (.p b.d), some (.p o.d), some (.p (En.en (plc [b, o]))), none]) (g := gN 3) (t := mBin dNe (mCallA 2 m_entry_of (aCons (mVar 0) (aCons (mVar 3) aNil))) (mCallA 2 m_entry_of (aCons (mVar 1) (aCons (mVar 3) aNil)))) (e := mVar 3) (M := []) (fun p : Sp => p) (fun p => decide (ent b.c p ≠ ent o.c p)) (plc [b, o]) (fun p _ => ⟨⟨[some (.p b.d), some (.p o.d), some (.p (En.en (plc [b, o]))), some (.p (En.en p))], []⟩, rfl, rfl, ne_run dpE _ _ _ _ _ _ (e_ent b p 0 3 _ _ rfl rfl) (e_ent o p 1 3 _ _ rfl rfl), rfl⟩) (by omega), List.map_id']
theorem rng_cons (i n : Nat) : List.range' i (n + 1) = i :: List.range' (i + 1) n := rfl
theorem rest_cons (b o : Bk) (i n : Nat) : rest b o i (n + 1) = (if chg b o i = true then [grantD i] else []) ++ rest b o (i + 1) n := by
  unfold rest
  rw [rng_cons, List.filter_cons]
  split <;> simp
noncomputable def tStep : SM := sIf (mOr (mBin dGe (mVar 3) (mCB dLen (aCons (mIx (mVar 0) (mC (.int 5))) aNil))) (mBin dNe (mIx (mIx (mIx (mVar 0) (mC (.int 5))) (mVar 3)) (mC (.int 4))) (mIx (mVar 4) (mC (.int 4))))) (sExpr (mMth "list" gApp (mVar 2) (aCons (disp .tup (aCons (mC (.str (PySem.Str.ofString "grant"))) (aCons (mVar 3) aNil))) aNil))) sNil
theorem ix5 (b : Bk) (i : Nat) (l : List (Option DV)) (M : List O) (h : gv l i = some (.p b.d)) : mIx (mVar i) (mC (.int 5)) ⟨l, M⟩ = some (.ok (.p (En.en b.g)) M) := ix_book b i l M 5 _ h rfl
theorem ix4 (b : Bk) (i : Nat) (l : List (Option DV)) (M : List O) (h : gv l i = some (.p b.d)) : mIx (mVar i) (mC (.int 4)) ⟨l, M⟩ = some (.ok (.p (En.en b.r)) M) := ix_book b i l M 4 _ h rfl
theorem len_of {α : Type} [DecidableEq α] [En α] (m : EM) (l : List (Option DV)) (M : List O) (xs : List α) (h : m ⟨l, M⟩ = some (.ok (.p (En.en xs)) M)) : mCB dLen (aCons m aNil) ⟨l, M⟩ = some (.ok (.p (.int (xs.length : Int))) M) := by
  rw [en_ls] at h
  simp [e_bnd, h]
theorem t_loop (b o : Bk) (hp : Pre b o) : ∀ (gs : List Gr) (i : Nat) (acc : List D) (x3 x4 : Option DV), o.g.drop i = gs → acc.length + gs.length ≤ 10000 → ∃ y3 y4, loopS (gT 2 (gsCons (gN 3) (gsCons (gN 4) gsNil))) tStep (enumD (gs.map En.en) i) ⟨[some (.p b.d), some (.p o.d), some (.o 0), x3, x4, none], [.lst (acc.map .p)]⟩ = some (.nx, ⟨[some (.p b.d), some (.p o.d), some (.o 0), y3, y4, none], [.lst ((acc ++ rest b o i gs.length).map .p)]⟩)
  | [], i, acc, x3, x4, _, _ => ⟨x3, x4, by simp [enumD, rest, loopS]⟩
  | g :: gs, i, acc, x3, x4, hd, hl => by
    rw [List.length_cons] at hl
    have ho : o.g[i]? = some g := by
      have := congrArg (fun l : List Gr => l[0]?) hd
      simpa using this
    have hd' : o.g.drop (i + 1) = gs := by
      have := congrArg List.tail hd
      simpa [List.tail_drop] using this
    have hacc : (acc ++ if chg b o i = true then [grantD i] else []).length ≤ acc.length + 1 := by
      split <;> simp
    obtain ⟨y3, y4, e⟩ := t_loop b o hp gs (i + 1) (acc ++ if chg b o i = true then [grantD i] else []) (some (.p (.int i))) (some (.p (En.en g))) hd' (by omega)
    refine ⟨y3, y4, ?_⟩
    rw [List.map_cons, enumD, loopS_cons]
    have gg : gT 2 (gsCons (gN 3) (gsCons (gN 4) gsNil)) (.p (.tup [.int (i : Nat), En.en g])) ⟨[some (.p b.d), some (.p o.d), some (.o 0), x3, x4, none], [.lst (acc.map .p)]⟩ = some ⟨[some (.p b.d), some (.p o.d), some (.o 0), some (.p (.int i)), some (.p (En.en g)), none], [.lst (acc.map .p)]⟩ := rfl
    rw [gg]
    dsimp only
    have c1 : mBin dGe (mVar 3) (mCB dLen (aCons (mIx (mVar 0) (mC (.int 5))) aNil)) ⟨[some (.p b.d), some (.p o.d), some (.o 0), some (.p (.int i)), some (.p (En.en g)), none], [.lst (acc.map .p)]⟩ = some (.ok (.p (.bl (decide ((b.g.length : Int) ≤ (i : Int))))) [.lst (acc.map .p)]) := bin_run dGe _ _ _ _ (.int i) (.int b.g.length) _ rfl (len_of _ _ _ b.g (ix5 b 0 _ _ rfl)) rfl
    have c2 : mOr (mBin dGe (mVar 3) (mCB dLen (aCons (mIx (mVar 0) (mC (.int 5))) aNil))) (mBin dNe (mIx (mIx (mIx (mVar 0) (mC (.int 5))) (mVar 3)) (mC (.int 4))) (mIx (mVar 4) (mC (.int 4)))) ⟨[some (.p b.d), some (.p o.d), some (.o 0), some (.p (.int i)), some (.p (En.en g)), none], [.lst (acc.map .p)]⟩ = some (.ok (.p (.bl (chg b o i))) [.lst (acc.map .p)]) := by
      by_cases h : b.g.length ≤ i
      · have hn : b.g[i]? = none := List.getElem?_eq_none h
        have : chg b o i = true := by unfold chg; rw [hn, ho]; simp
        rw [this, e_or, e_bnd, c1, decide_eq_true (by omega)]
        rfl
      · obtain ⟨g0, hg0⟩ : ∃ g0, b.g[i]? = some g0 := ⟨_, List.getElem?_eq_getElem (by omega)⟩
        have : chg b o i = decide (g0.x ≠ g.x) := by
          unfold chg
          rw [hg0, ho]
          have := hp.iff hg0 ho
          by_cases q : g0.x = g.x
          · have e := this.mpr q
            rw [e]; simp
          · have e : g0 ≠ g := fun z => q (this.mp z)
            simp [e, q]
        rw [this, e_or, e_bnd, c1, decide_eq_false (by omega)]
        have n1 : mIx (mIx (mIx (mVar 0) (mC (.int 5))) (mVar 3)) (mC (.int 4)) ⟨[some (.p b.d), some (.p o.d), some (.o 0), some (.p (.int i)), some (.p (En.en g)), none], [.lst (acc.map .p)]⟩ = some (.ok (.p (.bl g0.x)) [.lst (acc.map .p)]) := ix_run _ _ _ _ _ _ _ (ix_run _ _ _ _ _ _ _ (ix5 b 0 _ _ rfl) rfl (at_en b.g i g0 hg0)) rfl (gr_x g0)
        have n2 : mIx (mVar 4) (mC (.int 4)) ⟨[some (.p b.d), some (.p o.d), some (.o 0), some (.p (.int i)), some (.p (En.en g)), none], [.lst (acc.map .p)]⟩ = some (.ok (.p (.bl g.x)) [.lst (acc.map .p)]) := ix_run _ _ _ _ _ _ _ rfl rfl (gr_x g)
        refine bin_run dNe _ _ _ _ _ _ _ n1 n2 ?_
        cases g0.x <;> cases g.x <;> rfl
    have st := app_step [] (mOr (mBin dGe (mVar 3) (mCB dLen (aCons (mIx (mVar 0) (mC (.int 5))) aNil))) (mBin dNe (mIx (mIx (mIx (mVar 0) (mC (.int 5))) (mVar 3)) (mC (.int 4))) (mIx (mVar 4) (mC (.int 4))))) (disp .tup (aCons (mC (.str (PySem.Str.ofString "grant"))) (aCons (mVar 3) aNil))) (chg b o i) (grantD i) [some (.p b.d), some (.p o.d), some (.o 0), some (.p (.int i)), some (.p (En.en g)), none] acc rfl c2 rfl (by omega)
    have st : tStep ⟨[some (.p b.d), some (.p o.d), some (.o 0), some (.p (.int i)), some (.p (En.en g)), none], [.lst (acc.map .p)]⟩ = _ := st
    rw [st]
    dsimp only
    refine Eq.trans e ?_
    rw [List.length_cons, rest_cons, List.append_assoc]
theorem cha_len (b o : Bk) (kb : Kys b.c) (ko : Kys o.c) : (cha b o).length ≤ 5 := by
  have hk : ∀ c ∈ [b, o], Kys c.c := two_mem (P := fun c : Bk => Kys c.c) kb ko
  unfold cha
  rw [List.length_map]
  exact Nat.le_trans (List.length_filter_le _ _) (plc_len hk)
theorem touched_eq (b o : Bk) (kb : Kys b.c) (ko : Kys o.c) (hp : Pre b o) (hg : o.g.length ≤ 1000) : m_touched [b.d, o.d] = some (.ok (.lst (chs b o))) := by
  have hl := cha_len b o kb ko
  have hl2 : (chR b o).length ≤ 6 := by
    unfold chR
    rw [List.length_append]
    split <;> simp <;> omega
  obtain ⟨y3, y4, e⟩ := t_loop b o hp o.g 0 (chR b o) none none rfl (by omega)
  unfold m_touched
  refine runA_of (s := ⟨[some (.p b.d), some (.p o.d), some (.o 0), y3, y4, none], [.gone]⟩) ?_
  unfold b_touched
  have a1 : mLcO (mItD itL (mCallA 2 m_changed_cells (aCons (mVar 0) (aCons (mVar 1) aNil)))) [5] (gN 5) tYesM (disp .tup (aCons (mC (.str (PySem.Str.ofString "cell"))) (aCons (mVar 5) aNil))) ⟨slotsOf 6 ([b.d, o.d].map .p), []⟩ = some (.ok (.o 0) [.lst ((cha b o).map .p)]) := by
    rw [e_lcO]
    have it : mItD itL (mCallA 2 m_changed_cells (aCons (mVar 0) (aCons (mVar 1) aNil))) ⟨slotsOf 6 ([b.d, o.d].map .p), []⟩ = some (.ok ((((plc [b, o]).filter fun p => decide (ent b.c p ≠ ent o.c p)).map En.en).map .p) []) := by
      rw [e_itD, e_bnd, callA2 m_changed_cells 0 1 _ _ _ _ _ rfl rfl (changed_eq b o kb ko)]
      rfl
    rw [e_bnd, it]
    have q := map_compE (En.en : Sp → D) (l := [some (.p b.d), some (.p o.d), none, none, none, none]) (g := gN 5) (e := disp .tup (aCons (mC (.str (PySem.Str.ofString "cell"))) (aCons (mVar 5) aNil))) (M := []) cellD ((plc [b, o]).filter fun p => decide (ent b.c p ≠ ent o.c p)) (fun p _ => ⟨⟨[some (.p b.d), some (.p o.d), none, none, none, some (.p (En.en p))], []⟩, rfl, rfl, rfl⟩) (by
      unfold cha at hl
      rw [List.length_map] at hl
      omega)
    show (match compL [some (.p b.d), some (.p o.d), none, none, none, none] (gN 5) tYesM _ _ [] [] with | some (acc, M) => some (Rs.ok (DV.o M.length) (M ++ [O.lst (acc.map .p)])) | none => none) = _
    rw [q]
    rfl
  refine (seq_asg _ (gN 2) _ _ ⟨[some (.p b.d), some (.p o.d), some (.o 0), none, none, none], [.lst ((cha b o).map .p)]⟩ _ _ a1 rfl).trans ?_
  have c := ne_run dpR (mIx (mVar 0) (mC (.int 4))) (mIx (mVar 1) (mC (.int 4))) [some (.p b.d), some (.p o.d), some (.o 0), none, none, none] [.lst ((cha b o).map .p)] b.r o.r (ix4 b 0 _ _ rfl) (ix4 o 1 _ _ rfl)
  have st := app_step [] _ (disp .tup (aCons (mC (.str (PySem.Str.ofString "rules"))) (aCons (mC .non) aNil))) (decide (b.r ≠ o.r)) rulesD _ (cha b o) rfl c rfl (by omega)
  have ec : (cha b o ++ if decide (b.r ≠ o.r) = true then [rulesD] else []) = chR b o := by
    unfold chR
    by_cases h : b.r = o.r <;> simp [h]
  rw [ec] at st
  refine (seq_nx _ _ _ _ st).trans ?_
  have it : mEnum (aCons (mIx (mVar 1) (mC (.int 5))) aNil) ⟨[some (.p b.d), some (.p o.d), some (.o 0), none, none, none], [.lst ((chR b o).map .p)]⟩ = some (.ok (enumD (o.g.map En.en) 0) [.lst ((chR b o).map .p)]) := by
    unfold mEnum
    rw [e_bnd, e_aCons, e_bnd, ix5 o 1 _ _ rfl]
    rfl
  refine seq_for _ _ _ _ _ _ _ _ it e ?_
  refine ret_run _ _ _ _ ?_
  exact frz_run 2 0 _ _ (chR b o ++ rest b o 0 o.g.length) rfl rfl
/-! the law's -/
section
variable {B : List O}
noncomputable def cStep : SM := sIf (mBin dNe (mSlE (mIx (mVar 0) (mC (.int 5))) (pSome (mVar 3)) (pSome (mBin dAdd (mVar 3) (mC (.int 1))))) (mSlE (mIx (mVar 1) (mC (.int 5))) (pSome (mVar 3)) (pSome (mBin dAdd (mVar 3) (mC (.int 1)))))) (sExpr (mMth "list" gApp (mVar 2) (aCons (disp .tup (aCons (mC (.str (PySem.Str.ofString "grant"))) (aCons (mVar 3) aNil))) aNil))) sNil
theorem cut_one (xs : List D) (i : Nat) : cutD xs (some (i : Int)) (some ((i + 1 : Nat) : Int)) = (xs[i]?).toList := by
  unfold cutD
  rw [HT.sIx_nat, HT.sIx_nat]
  by_cases h : i < xs.length
  · rw [Nat.min_eq_left (by omega), Nat.min_eq_left (by omega), show i + 1 - i = 1 by omega, List.drop_eq_getElem_cons h, List.getElem?_eq_getElem h]
    rfl
  · rw [Nat.min_eq_right (by omega), Nat.min_eq_right (by omega), Nat.sub_self, List.getElem?_eq_none (by omega)]
    rfl
theorem cut_en {α : Type} [DecidableEq α] [En α] (xs : List α) (i : Nat) : slE (En.en xs) (some (i : Int)) (some ((i + 1 : Nat) : Int)) = some (En.en (xs[i]?).toList) := by
  rw [en_ls, e_slL, cut_one, List.getElem?_map]
  cases xs[i]? <;> rfl
theorem sle_run (m : EM) (pl pu : PM) (l : List (Option DV)) (M : List O) (d c : D) (i j : Option Int) (h1 : m ⟨l, M⟩ = some (.ok (.p d) M)) (h2 : pl ⟨l, M⟩ = some (.ok i M)) (h3 : pu ⟨l, M⟩ = some (.ok j M)) (h : slE d i j = some c) : mSlE m pl pu ⟨l, M⟩ = some (.ok (.p c) M) := by
  unfold mSlE
  rw [e_bnd, h1]
  show bnd pl _ ⟨l, M⟩ = _
  rw [e_bnd, h2]
  show bnd pu _ ⟨l, M⟩ = _
  rw [e_bnd, h3]
  show ret (slE d i j) ⟨l, M⟩ = _
  rw [h, e_ret]
theorem to_ne (b o : Bk) (i : Nat) : decide ((b.g[i]?).toList ≠ (o.g[i]?).toList) = chg b o i := by
  unfold chg
  cases b.g[i]? <;> cases o.g[i]? <;> simp
theorem c_loop (b o : Bk) : ∀ (n i : Nat) (acc : List D) (x3 : Option DV), acc.length + n ≤ 10000 → ∃ y3, loopS (gN 3) cStep (DL.intsFrom (i : Int) n) ⟨[some (.p b.d), some (.p o.d), some (.o B.length), x3, none], B ++ [.lst (acc.map .p)]⟩ = some (.nx, ⟨[some (.p b.d), some (.p o.d), some (.o B.length), y3, none], B ++ [.lst ((acc ++ rest b o i n).map .p)]⟩)
  | 0, i, acc, x3, _ => ⟨x3, by rw [ints0]; simp [rest, loopS]⟩
  | n + 1, i, acc, x3, hl => by
    have hacc : (acc ++ if chg b o i = true then [grantD i] else []).length ≤ acc.length + 1 := by
      split <;> simp
    obtain ⟨y3, e⟩ := c_loop b o n (i + 1) (acc ++ if chg b o i = true then [grantD i] else []) (some (.p (.int i))) (by omega)
    refine ⟨y3, ?_⟩
    rw [intsS, loopS_cons]
    have gg : gN 3 (.p (.int (i : Nat))) ⟨[some (.p b.d), some (.p o.d), some (.o B.length), x3, none], B ++ [.lst (acc.map .p)]⟩ = some ⟨[some (.p b.d), some (.p o.d), some (.o B.length), some (.p (.int i)), none], B ++ [.lst (acc.map .p)]⟩ := rfl
    rw [gg]
    dsimp only
    have p1 : pSome (mVar 3) ⟨[some (.p b.d), some (.p o.d), some (.o B.length), some (.p (.int i)), none], B ++ [.lst (acc.map .p)]⟩ = some (.ok (some (i : Int)) (B ++ [.lst (acc.map .p)])) := psome_run _ _ _ rfl
    have p2 : pSome (mBin dAdd (mVar 3) (mC (.int 1))) ⟨[some (.p b.d), some (.p o.d), some (.o B.length), some (.p (.int i)), none], B ++ [.lst (acc.map .p)]⟩ = some (.ok (some ((i + 1 : Nat) : Int)) (B ++ [.lst (acc.map .p)])) := psome_run _ _ _ (bin_run _ _ _ _ _ _ _ _ rfl rfl rfl)
    have s1 := sle_run _ _ _ _ _ _ _ _ _ (ix5 b 0 _ _ rfl) p1 p2 (cut_en b.g i)
    have s2 := sle_run _ _ _ _ _ _ _ _ _ (ix5 o 1 _ _ rfl) p1 p2 (cut_en o.g i)
    have c := ne_run dpG _ _ _ _ _ _ s1 s2
    rw [to_ne] at c
    have st := app_step B _ (disp .tup (aCons (mC (.str (PySem.Str.ofString "grant"))) (aCons (mVar 3) aNil))) (chg b o i) (grantD i) [some (.p b.d), some (.p o.d), some (.o B.length), some (.p (.int i)), none] acc rfl c rfl (by omega)
    have st : cStep ⟨[some (.p b.d), some (.p o.d), some (.o B.length), some (.p (.int i)), none], B ++ [.lst (acc.map .p)]⟩ = _ := st
    rw [st]
    dsimp only
    have e' : loopS (gN 3) cStep (DL.intsFrom ((i : Int) + 1) n) _ = _ := e
    rw [e', rest_cons, List.append_assoc]
theorem changes_eq {Ps : List Addr} (hB : TOk Ps B) (b o : Bk) (kb : Kys b.c) (ko : Kys o.c) (hg : o.g.length ≤ 1000) : m_l_changes Ps [.p b.d, .p o.d] B = some (.ok (.p (.lst (chs b o))) B) := by
  have hk : ∀ c ∈ [b, o], Kys c.c := two_mem (P := fun c : Bk => Kys c.c) kb ko
  have hl0 := plc_len hk
  have hl := cha_len b o kb ko
  have hl2 : (chR b o).length ≤ 6 := by
    unfold chR
    rw [List.length_append]
    split <;> simp <;> omega
  obtain ⟨y3, e⟩ := c_loop (B := B) b o o.g.length 0 (chR b o) none (by omega)
  have hx : b_l_changes Ps ⟨slotsOf 5 [.p b.d, .p o.d], B⟩ = some (.rt (.p (.lst (chs b o))), ⟨[some (.p b.d), some (.p o.d), some (.o B.length), y3, none], B ++ [.gone]⟩) := by
    unfold b_l_changes
    have a1 : mLcO (mItD itL (mCallB 1 (m_l_spots Ps) (aCons (disp .lst (aCons (mVar 0) (aCons (mVar 1) aNil))) aNil))) [4] (gN 4) (mBin dNe (mCallA 2 m_l_entry (aCons (mVar 0) (aCons (mVar 4) aNil))) (mCallA 2 m_l_entry (aCons (mVar 1) (aCons (mVar 4) aNil)))) (disp .tup (aCons (mC (.str (PySem.Str.ofString "cell"))) (aCons (mVar 4) aNil))) ⟨slotsOf 5 [.p b.d, .p o.d], B⟩ = some (.ok (.o B.length) (B ++ [.lst ((cha b o).map .p)])) := by
      rw [e_lcO]
      have it : mItD itL (mCallB 1 (m_l_spots Ps) (aCons (disp .lst (aCons (mVar 0) (aCons (mVar 1) aNil))) aNil)) ⟨slotsOf 5 [.p b.d, .p o.d], B⟩ = some (.ok (((plc [b, o]).map En.en).map .p) B) := by
        rw [e_itD, e_bnd, cB1 (m_l_spots Ps) _ _ B B B (.p (.lst ([b, o].map Bk.d))) _ rfl (l_spots_eq hB [b, o] hk)]
        rfl
      rw [e_bnd, it]
      have q := filter_compE (En.en : Sp → D) (l := [some (.p b.d), some (.p o.d), none, none, none]) (g := gN 4) (t := mBin dNe (mCallA 2 m_l_entry (aCons (mVar 0) (aCons (mVar 4) aNil))) (mCallA 2 m_l_entry (aCons (mVar 1) (aCons (mVar 4) aNil)))) (e := disp .tup (aCons (mC (.str (PySem.Str.ofString "cell"))) (aCons (mVar 4) aNil))) (M := B) cellD (fun p => decide (ent b.c p ≠ ent o.c p)) (plc [b, o]) (fun p _ => ⟨⟨[some (.p b.d), some (.p o.d), none, none, some (.p (En.en p))], B⟩, rfl, rfl, ne_run dpE _ _ _ _ _ _ (l_ent b p 0 4 _ _ rfl rfl) (l_ent o p 1 4 _ _ rfl rfl), fun _ => rfl⟩) (by omega)
      show (match compL [some (.p b.d), some (.p o.d), none, none, none] (gN 4) _ _ _ [] B with | some (acc, M) => some (Rs.ok (DV.o M.length) (M ++ [O.lst (acc.map .p)])) | none => none) = _
      rw [q]
      rfl
    refine (seq_asg _ (gN 2) _ _ ⟨[some (.p b.d), some (.p o.d), some (.o B.length), none, none], B ++ [.lst ((cha b o).map .p)]⟩ _ _ a1 rfl).trans ?_
    have c := ne_run dpR (mIx (mVar 0) (mC (.int 4))) (mIx (mVar 1) (mC (.int 4))) [some (.p b.d), some (.p o.d), some (.o B.length), none, none] (B ++ [.lst ((cha b o).map .p)]) b.r o.r (ix4 b 0 _ _ rfl) (ix4 o 1 _ _ rfl)
    have st := app_step B _ (disp .tup (aCons (mC (.str (PySem.Str.ofString "rules"))) (aCons (mC .non) aNil))) (decide (b.r ≠ o.r)) rulesD _ (cha b o) rfl c rfl (by omega)
    have ec : (cha b o ++ if decide (b.r ≠ o.r) = true then [rulesD] else []) = chR b o := by
      unfold chR
      by_cases h : b.r = o.r <;> simp [h]
    rw [ec] at st
    refine (seq_nx _ _ _ _ st).trans ?_
    have it : mRng rng1D (aCons (mCB dLen (aCons (mIx (mVar 1) (mC (.int 5))) aNil)) aNil) ⟨[some (.p b.d), some (.p o.d), some (.o B.length), none, none], B ++ [.lst ((chR b o).map .p)]⟩ = some (.ok (DL.intsFrom 0 o.g.length) (B ++ [.lst ((chR b o).map .p)])) := by
      have := rngT _ _ _ _ _ (len_of _ _ _ o.g (ix5 o 1 [some (.p b.d), some (.p o.d), some (.o B.length), none, none] (B ++ [.lst ((chR b o).map .p)]) rfl)) (by omega) (by omega)
      rw [Int.toNat_natCast] at this
      exact this
    refine seq_for _ _ _ _ _ _ _ _ it e ?_
    refine ret_run _ _ _ _ ?_
    have := frz_run 2 B.length [some (.p b.d), some (.p o.d), some (.o B.length), y3, none] (B ++ [.lst ((chR b o ++ rest b o 0 o.g.length).map .p)]) (chR b o ++ rest b o 0 o.g.length) rfl (by simp)
    have s : (B ++ [O.lst ((chR b o ++ rest b o 0 o.g.length).map .p)]).set B.length .gone = B ++ [.gone] := by simp
    rw [s] at this
    exact this
  unfold m_l_changes
  rw [e_runB, hx]
  show some (Rs.ok _ (dropM B.length _ (B ++ [O.gone]))) = _
  rw [dropM_app rfl hB.c]
end
end Law
namespace Law
open PySem L2 DL
/-! ### sorted grants -/
noncomputable def rG (g h : Gr) : Bool := PySem.W.dataLe false toP (En.en g : D) (En.en h : D)
noncomputable def sortG (gs : List Gr) : List Gr := gs.mergeSort rG
theorem toPs_str (l : List String) : toPs (l.map (En.en : String → D)) = l.map fun s => PyData.str (Str.ofString s) := by
  rw [toPs_map, List.map_map]; rfl
theorem toPs_int (l : List Int) : toPs (l.map (En.en : Int → D)) = l.map PyData.int := by
  rw [toPs_map, List.map_map]; rfl
theorem toP_gr (g : Gr) : toP (En.en g) = .tuple [.tuple [.tuple [.int g.a.1.1, .int g.a.1.2], .tuple [.int g.a.2.1, .int g.a.2.2]], .list (g.f.map fun s => PyData.str (Str.ofString s)), .list (g.t.map PyData.int), .int g.b, .bool g.x] := by
  rw [← toPs_str, ← toPs_int]; rfl
theorem al_str : ∀ l m : List String, PySem.W.alikeAll (l.map fun s => PyData.str (Str.ofString s)) (m.map fun s => PyData.str (Str.ofString s)) = true
  | [], m => by rw [List.map_nil, PySem.W.alikeAll.eq_2]
  | a :: l, [] => by rw [List.map_cons, List.map_nil, PySem.W.alikeAll.eq_3]
  | a :: l, b :: m => by rw [List.map_cons, List.map_cons, PySem.W.alikeAll.eq_1, PySem.W.alike.eq_4, al_str l m]; rfl
theorem al_int : ∀ l m : List Int, PySem.W.alikeAll (l.map PyData.int) (m.map PyData.int) = true
  | [], m => by rw [List.map_nil, PySem.W.alikeAll.eq_2]
  | a :: l, [] => by rw [List.map_cons, List.map_nil, PySem.W.alikeAll.eq_3]
  | a :: l, b :: m => by rw [List.map_cons, List.map_cons, PySem.W.alikeAll.eq_1, PySem.W.alike.eq_3, al_int l m]; rfl
theorem al_gr (g h : Gr) : PySem.W.alike (toP (En.en g)) (toP (En.en h)) = true := by
  rw [toP_gr, toP_gr]
  simp only [PySem.W.alike.eq_6, PySem.W.alike.eq_5, PySem.W.alikeAll.eq_1, PySem.W.alike.eq_3, PySem.W.alike.eq_2, PySem.W.alikeAll.eq_2, al_str, al_int, Bool.and_true]
theorem all_shp {α : Type} [DecidableEq α] [En α] (h : En.dp α ≤ 64) (l : List α) : (l.map En.en).all shp = true := by
  rw [List.all_eq_true]
  intro d hd
  obtain ⟨a, _, rfl⟩ := List.mem_map.mp hd
  exact shp_en a h
theorem sortOk_gr (gs : List Gr) : sortOk (toPs (gs.map En.en)) = true := by
  rw [toPs_map, List.map_map]
  unfold sortOk
  rw [Bool.and_eq_true, Bool.or_eq_true]
  refine ⟨.inl (List.all_eq_true.mpr fun d hd => ?_), List.all_eq_true.mpr fun d hd => List.all_eq_true.mpr fun e he => ?_⟩
  · obtain ⟨x, _, rfl⟩ := List.mem_map.mp hd; rfl
  · obtain ⟨x, _, rfl⟩ := List.mem_map.mp hd
    obtain ⟨y, _, rfl⟩ := List.mem_map.mp he
    exact al_gr x y
theorem dSort_gr (gs : List Gr) : dSort (.lst (gs.map En.en)) = some (.lst ((sortG gs).map En.en)) := by
  unfold dSort
  have h1 := all_shp (α := Gr) (by decide) gs
  have h2 := sortOk_gr gs
  show (if ((gs.map En.en).all shp && sortOk (toPs (gs.map En.en))) = true then some (D.lst (sortL (gs.map En.en))) else none) = _
  rw [h1, h2]
  show some (D.lst (sortL _)) = _
  unfold sortL sortG
  have e := List.map_mergeSort (r := rG) (s := PySem.W.dataLe false toP) (f := (En.en : Gr → D)) (l := gs) fun p _ q _ => rfl
  rw [e]
theorem sortG_len (gs : List Gr) : (sortG gs).length = gs.length := (List.mergeSort_perm _ _).length_eq
theorem of_inj {a b : String} (h : Str.ofString a = Str.ofString b) : a = b := by
  have := congrArg (fun s => deq (D.str s) (sd b)) h
  have e : deq (sd a) (sd b) = deq (sd b) (sd b) := this
  have e1 := En.dq (α := String) a b
  have e2 := En.dq (α := String) b b
  have e1 : deq (sd a) (sd b) = decide (a = b) := e1
  have e2 : deq (sd b) (sd b) = decide (b = b) := e2
  rw [e1, e2] at e
  simpa using e
theorem str_inj {s t : Str} (h : s.cps.toList = t.cps.toList) : s = t := by
  obtain ⟨⟨s⟩⟩ := s
  obtain ⟨⟨t⟩⟩ := t
  cases h; rfl
theorem tk_str : ∀ (l m : List String) (R R' : List (Int ⊕ List Nat)), PySem.W.keyToksAll (l.map fun s => PyData.str (Str.ofString s)) ++ R = PySem.W.keyToksAll (m.map fun s => PyData.str (Str.ofString s)) ++ R' → l = m ∧ R = R'
  | [], [], R, R', h => ⟨rfl, by simpa [PySem.W.keyToksAll] using h⟩
  | [], b :: m, R, R', h => by simp [PySem.W.keyToksAll] at h
  | a :: l, [], R, R', h => by simp [PySem.W.keyToksAll] at h
  | a :: l, b :: m, R, R', h => by
    simp only [List.map_cons, PySem.W.keyToksAll.eq_2, PySem.W.keyToks.eq_4, List.cons_append, List.nil_append, List.cons.injEq, true_and, Sum.inr.injEq] at h
    have := tk_str l m R R' h.2
    exact ⟨by rw [of_inj (str_inj h.1), this.1], this.2⟩
theorem tk_int : ∀ (l m : List Int) (R R' : List (Int ⊕ List Nat)), PySem.W.keyToksAll (l.map PyData.int) ++ R = PySem.W.keyToksAll (m.map PyData.int) ++ R' → l = m ∧ R = R'
  | [], [], R, R', h => ⟨rfl, by simpa [PySem.W.keyToksAll] using h⟩
  | [], b :: m, R, R', h => by simp [PySem.W.keyToksAll] at h
  | a :: l, [], R, R', h => by simp [PySem.W.keyToksAll] at h
  | a :: l, b :: m, R, R', h => by
    simp only [List.map_cons, PySem.W.keyToksAll.eq_2, PySem.W.keyToks.eq_3, List.cons_append, List.nil_append, List.cons.injEq, true_and, Sum.inl.injEq] at h
    have := tk_int l m R R' h.2
    exact ⟨by rw [h.1, this.1], this.2⟩
theorem tk_gr {g h : Gr} (e : PySem.W.keyToks (toP (En.en g)) = PySem.W.keyToks (toP (En.en h))) : g = h := by
  rw [toP_gr, toP_gr] at e
  simp only [PySem.W.keyToks.eq_6, PySem.W.keyToks.eq_5, PySem.W.keyToksAll.eq_2, PySem.W.keyToksAll.eq_1, PySem.W.keyToks.eq_3, PySem.W.keyToks.eq_2, List.cons_append, List.nil_append, List.cons.injEq, true_and, Sum.inl.injEq] at e
  obtain ⟨a1, a2, a3, a4, e⟩ := e
  have e := e
  obtain ⟨f, e⟩ := tk_str _ _ _ _ e
  simp only [List.cons.injEq, true_and] at e
  obtain ⟨t, e⟩ := tk_int _ _ _ _ e
  simp only [List.cons.injEq, true_and, Sum.inl.injEq, and_true] at e
  obtain ⟨b, x⟩ := e
  have x : g.x = h.x := by
    cases p : g.x <;> cases q : h.x <;> simp [p, q] at x <;> rfl
  exact Gr.ext (Prod.ext (Prod.ext a1 a2) (Prod.ext a3 a4)) f t b x
theorem rG_anti {g h : Gr} (h1 : rG g h = true) (h2 : rG h g = true) : g = h := by
  unfold rG PySem.W.dataLe PySem.W.sortLe at h1 h2
  simp only [cond_false, Bool.not_eq_true'] at h1 h2
  exact tk_gr ((PyProof.Rows.listOrd PyProof.Rows.itemOrd).total _ _ h2 h1)
theorem rG_pw (gs : List Gr) : (sortG gs).Pairwise fun p q => rG p q = true := by
  have T := PySem.W.sortLe_total (PyProof.Rows.listOrd PyProof.Rows.itemOrd) false fun g : Gr => PySem.W.keyToks (toP (En.en g))
  refine List.pairwise_mergeSort (fun x y z h1 h2 => T.trans x y z h1 h2) (fun x y => ?_) gs
  rw [Bool.or_eq_true]
  exact T.total x y
theorem sortG_perm {l m : List Gr} (h : l.Perm m) : sortG l = sortG m :=
  List.Perm.eq_of_pairwise (le := fun p q => rG p q = true) (fun _ _ _ _ h1 h2 => rG_anti h1 h2) (rG_pw l) (rG_pw m) (((List.mergeSort_perm l _).trans h).trans (List.mergeSort_perm m _).symm)
/-- what both added -/
noncomputable def more (xs ys : List Gr) : List Gr := if xs ≠ [] ∧ ys ≠ [] then sortG (xs ++ ys) else xs ++ ys
theorem more_comm (xs ys : List Gr) : more xs ys = more ys xs := by
  unfold more
  by_cases h1 : xs = []
  · subst h1; simp
  · by_cases h2 : ys = []
    · subst h2; simp
    · rw [if_pos ⟨h1, h2⟩, if_pos ⟨h2, h1⟩]
      exact sortG_perm List.perm_append_comm
theorem more_nil (xs : List Gr) : more xs [] = xs := by unfold more; simp
theorem nil_more (xs : List Gr) : more [] xs = xs := by unfold more; simp
end Law
namespace Law
open PySem L2 DL
/-! ### merged grants -/
def fl (g o t : Bool) : Bool := if o = g then t else o
def flp : List Gr → List Gr → List Gr → List Gr
  | g :: gs, o :: os, t :: ts => g.turn (fl g.x o.x t.x) :: flp gs os ts
  | _, _, _ => []
noncomputable def mG (b o t : List Gr) : List Gr := flp b o t ++ more (o.drop b.length) (t.drop b.length)
theorem flp_len : ∀ (b o t : List Gr), b.length ≤ o.length → b.length ≤ t.length → (flp b o t).length = b.length
  | [], _, _, _, _ => rfl
  | g :: gs, [], _, h, _ => by simp at h
  | g :: gs, _ :: _, [], _, h => by simp at h
  | g :: gs, o :: os, t :: ts, h1, h2 => by
    show (flp gs os ts).length + 1 = _
    rw [flp_len gs os ts (by simpa using h1) (by simpa using h2)]; rfl
theorem more_len (xs ys : List Gr) : (more xs ys).length = xs.length + ys.length := by
  unfold more
  split
  · rw [sortG_len, List.length_append]
  · rw [List.length_append]
theorem cA1' (f : MA) (a : EM) (l : List (Option DV)) (M M1 : List O) (x z : D) (h1 : a ⟨l, M⟩ = some (.ok (.p x) M1)) (h : f [x] = some (.ok z)) : mCallA 1 f (aCons a aNil) ⟨l, M⟩ = some (.ok (.p z) M1) := by
  simp [e_bnd, h1, h]
theorem cA3' (f : MA) (a b c : EM) (l : List (Option DV)) (M M1 M2 M3 : List O) (x y w z : D) (h1 : a ⟨l, M⟩ = some (.ok (.p x) M1)) (h2 : b ⟨l, M1⟩ = some (.ok (.p y) M2)) (h3 : c ⟨l, M2⟩ = some (.ok (.p w) M3)) (h : f [x, y, w] = some (.ok z)) : mCallA 3 f (aCons a (aCons b (aCons c aNil))) ⟨l, M⟩ = some (.ok (.p z) M3) := by
  simp [e_bnd, h1, h2, h3, h]
theorem cA4' (f : MA) (a b c d : EM) (l : List (Option DV)) (M M1 M2 M3 M4 : List O) (x y w u z : D) (h1 : a ⟨l, M⟩ = some (.ok (.p x) M1)) (h2 : b ⟨l, M1⟩ = some (.ok (.p y) M2)) (h3 : c ⟨l, M2⟩ = some (.ok (.p w) M3)) (h4 : d ⟨l, M3⟩ = some (.ok (.p u) M4)) (h : f [x, y, w, u] = some (.ok z)) : mCallA 4 f (aCons a (aCons b (aCons c (aCons d aNil)))) ⟨l, M⟩ = some (.ok (.p z) M4) := by
  simp [e_bnd, h1, h2, h3, h4, h]
theorem drop_get {α : Type} {l gs : List α} {g : α} {i : Nat} (h : l.drop i = g :: gs) : l[i]? = some g := by
  have := congrArg (fun l : List α => l[0]?) h
  simpa using this
theorem drop_next {α : Type} {l gs : List α} {g : α} {i : Nat} (h : l.drop i = g :: gs) : l.drop (i + 1) = gs := by
  have := congrArg List.tail h
  simpa [List.tail_drop] using this
theorem appM_run (a : EM) (i n : Nat) (l : List (Option DV)) (M : List O) (ds : List D) (x : D) (h0 : gv l i = some (.o n)) (hm : M[n]? = some (.lst (ds.map .p))) (h1 : a ⟨l, M⟩ = some (.ok (.p x) M)) (hl : ds.length < 1000000) : sExpr (mMth "list" gApp (mVar i) (aCons a aNil)) ⟨l, M⟩ = some (.nx, ⟨l, M.set n (.lst ((ds ++ [x]).map .p))⟩) := by
  have := app_run a i n l M (ds.map .p) x h0 hm h1 (by simpa using hl)
  rw [this, List.map_append]; rfl
noncomputable def gStep : SM := (sSeq (sAsg (mCallA 1 m_grant_copy (aCons (mVar 5) aNil)) (gT 5 (gsCons (gN 6) (gsCons (gN 7) (gsCons (gN 8) (gsCons (gN 9) (gsCons (gN 10) gsNil)))))))
  (sExpr (mMth "list" gApp (mVar 3) (aCons (disp .tup (aCons (mVar 6) (aCons (mVar 7) (aCons (mVar 8) (aCons (mVar 9) (aCons (mCallA 3 m_taken (aCons (mVar 10) (aCons (mIx (mIx (mVar 1) (mVar 4)) (mC (.int 4))) (aCons (mIx (mIx (mVar 2) (mVar 4)) (mC (.int 4))) aNil)))) aNil)))))) aNil))))
abbrev G12 (b o t : List Gr) (x4 x5 x6 x7 x8 x9 x10 x11 : Option DV) (M : List O) : S := ⟨[some (.p (En.en b)), some (.p (En.en o)), some (.p (En.en t)), some (.o 0), x4, x5, x6, x7, x8, x9, x10, x11], M⟩
theorem g_loop (b o t : List Gr) : ∀ (gs os ts : List Gr) (i : Nat) (acc : List Gr) (x4 x5 x6 x7 x8 x9 x10 : Option DV), b.drop i = gs → o.drop i = os → t.drop i = ts → gs.length ≤ os.length → gs.length ≤ ts.length → acc.length + gs.length ≤ 10000 → ∃ y4 y5 y6 y7 y8 y9 y10, loopS (gT 2 (gsCons (gN 4) (gsCons (gN 5) gsNil))) gStep (enumD (gs.map En.en) i) (G12 b o t x4 x5 x6 x7 x8 x9 x10 none [.lst ((acc.map En.en).map .p)]) = some (.nx, G12 b o t y4 y5 y6 y7 y8 y9 y10 none [.lst (((acc ++ flp gs os ts).map En.en).map .p)])
  | [], os, ts, i, acc, x4, x5, x6, x7, x8, x9, x10, _, _, _, _, _, _ => ⟨x4, x5, x6, x7, x8, x9, x10, by
    have : flp [] os ts = [] := rfl
    rw [this, List.append_nil]; rfl⟩
  | g :: gs, [], _, i, acc, x4, x5, x6, x7, x8, x9, x10, _, _, _, h, _, _ => by simp at h
  | g :: gs, _ :: _, [], i, acc, x4, x5, x6, x7, x8, x9, x10, _, _, _, _, h, _ => by simp at h
  | g :: gs, p :: os, q :: ts, i, acc, x4, x5, x6, x7, x8, x9, x10, hb, ho, ht, l1, l2, hl => by
    rw [List.length_cons, List.length_cons] at l1 l2
    rw [List.length_cons] at hl
    obtain ⟨y4, y5, y6, y7, y8, y9, y10, e⟩ := g_loop b o t gs os ts (i + 1) (acc ++ [g.turn (fl g.x p.x q.x)]) (some (.p (.int i))) (some (.p (En.en g))) (some (.p (En.en g.a))) (some (.p (En.en g.f))) (some (.p (En.en g.t))) (some (.p (.int g.b))) (some (.p (.bl g.x))) (drop_next hb) (drop_next ho) (drop_next ht) (by omega) (by omega) (by simp; omega)
    refine ⟨y4, y5, y6, y7, y8, y9, y10, ?_⟩
    rw [List.map_cons, enumD, loopS_cons]
    have gg : gT 2 (gsCons (gN 4) (gsCons (gN 5) gsNil)) (.p (.tup [.int (i : Nat), En.en g])) (G12 b o t x4 x5 x6 x7 x8 x9 x10 none [.lst ((acc.map En.en).map .p)]) = some (G12 b o t (some (.p (.int i))) (some (.p (En.en g))) x6 x7 x8 x9 x10 none [.lst ((acc.map En.en).map .p)]) := rfl
    rw [gg]
    dsimp only
    have s1 : sAsg (mCallA 1 m_grant_copy (aCons (mVar 5) aNil)) (gT 5 (gsCons (gN 6) (gsCons (gN 7) (gsCons (gN 8) (gsCons (gN 9) (gsCons (gN 10) gsNil)))))) (G12 b o t (some (.p (.int i))) (some (.p (En.en g))) x6 x7 x8 x9 x10 none [.lst ((acc.map En.en).map .p)]) = some (.nx, G12 b o t (some (.p (.int i))) (some (.p (En.en g))) (some (.p (En.en g.a))) (some (.p (En.en g.f))) (some (.p (En.en g.t))) (some (.p (.int g.b))) (some (.p (.bl g.x))) none [.lst ((acc.map En.en).map .p)]) := asg_run _ _ _ _ _ _ _ (cA1' m_grant_copy (mVar 5) _ _ _ _ _ rfl (grant_copy_eq g)) rfl
    have n1 := ix_run (mIx (mVar 1) (mVar 4)) (mC (.int 4)) (G12 b o t (some (.p (.int i))) (some (.p (En.en g))) (some (.p (En.en g.a))) (some (.p (En.en g.f))) (some (.p (En.en g.t))) (some (.p (.int g.b))) (some (.p (.bl g.x))) none [.lst ((acc.map En.en).map .p)]).l [.lst ((acc.map En.en).map .p)] _ _ 4 (ix_run _ _ _ _ _ _ _ rfl rfl (at_en o i p (drop_get ho))) rfl (gr_x p)
    have n2 := ix_run (mIx (mVar 2) (mVar 4)) (mC (.int 4)) (G12 b o t (some (.p (.int i))) (some (.p (En.en g))) (some (.p (En.en g.a))) (some (.p (En.en g.f))) (some (.p (En.en g.t))) (some (.p (.int g.b))) (some (.p (.bl g.x))) none [.lst ((acc.map En.en).map .p)]).l [.lst ((acc.map En.en).map .p)] _ _ 4 (ix_run _ _ _ _ _ _ _ rfl rfl (at_en t i q (drop_get ht))) rfl (gr_x q)
    have tk := taken_eq g.x p.x q.x (by decide)
    have n3 := cA3' m_taken (mVar 10) _ _ _ _ _ _ _ _ _ _ _ rfl n1 n2 tk
    have s2 := appM_run _ 3 0 (G12 b o t (some (.p (.int i))) (some (.p (En.en g))) (some (.p (En.en g.a))) (some (.p (En.en g.f))) (some (.p (En.en g.t))) (some (.p (.int g.b))) (some (.p (.bl g.x))) none [.lst ((acc.map En.en).map .p)]).l [.lst ((acc.map En.en).map .p)] (acc.map En.en) _ rfl rfl (t5 (mVar 6) (mVar 7) (mVar 8) (mVar 9) _ _ _ _ _ _ _ _ (En.en g.a) (En.en g.f) (En.en g.t) (.int g.b) _ rfl rfl rfl rfl n3) (by rw [List.length_map]; omega)
    have st : gStep (G12 b o t (some (.p (.int i))) (some (.p (En.en g))) x6 x7 x8 x9 x10 none [.lst ((acc.map En.en).map .p)]) = _ := (seq_nx _ _ _ _ s1).trans s2
    rw [st]
    dsimp only
    have hx : ([O.lst ((acc.map En.en).map DV.p)] : List O).set 0 (.lst ((acc.map (En.en : Gr → D) ++ [D.tup [En.en g.a, En.en g.f, En.en g.t, D.int g.b, En.en (if p.x = g.x then q.x else p.x)]]).map .p)) = [.lst (((acc ++ [g.turn (fl g.x p.x q.x)]).map En.en).map .p)] := by
      simp only [List.map_append]
      rfl
    rw [hx]
    refine Eq.trans e ?_
    show _ = some (Fl.nx, G12 b o t y4 y5 y6 y7 y8 y9 y10 none [.lst (((acc ++ (g.turn (fl g.x p.x q.x) :: flp gs os ts)).map En.en).map .p)])
    rw [List.append_assoc]; rfl
theorem cutF {α : Type} [DecidableEq α] [En α] (xs : List α) (n : Nat) : slE (En.en xs) (some (n : Int)) none = some (En.en (xs.drop n)) := by
  rw [en_ls, e_slL, cut_from, ← List.map_drop]; rfl
theorem add_en {α : Type} [DecidableEq α] [En α] (xs ys : List α) (h : xs.length + ys.length ≤ 1000000) : dAdd2 (En.en xs) (En.en ys) = some (En.en (xs ++ ys)) := by
  rw [en_ls, en_ls, e_add2L, if_pos (by rw [List.length_map, List.length_map]; exact h), en_ls, List.map_append]
theorem gt_lens (m n : Nat) : dGt (.int (m : Int)) (.int (n : Int)) = some (.bl (decide (n < m))) := by
  show some (D.bl (decide ((n : Int) < (m : Int)))) = _
  simp
theorem cb1_run (g : D → Option D) (a : EM) (l : List (Option DV)) (M : List O) (x y : D) (h1 : a ⟨l, M⟩ = some (.ok (.p x) M)) (h : g x = some y) : mCB (g1 g) (aCons a aNil) ⟨l, M⟩ = some (.ok (.p y) M) := by
  simp [e_bnd, h1, h]
/-- the test of both having more -/
theorem both_more (b o t : List Gr) : (decide (b.length < o.length) && decide (b.length < t.length)) = decide (o.drop b.length ≠ [] ∧ t.drop b.length ≠ []) := by
  rw [Bool.eq_iff_iff, Bool.and_eq_true, decide_eq_true_eq, decide_eq_true_eq, decide_eq_true_eq, ne_eq, ne_eq, List.drop_eq_nil_iff, List.drop_eq_nil_iff]
  omega
theorem more_if (b o t : List Gr) : (if decide (o.drop b.length ≠ [] ∧ t.drop b.length ≠ []) = true then sortG (o.drop b.length ++ t.drop b.length) else o.drop b.length ++ t.drop b.length) = more (o.drop b.length) (t.drop b.length) := by
  unfold more
  by_cases h : o.drop b.length ≠ [] ∧ t.drop b.length ≠ []
  · rw [decide_eq_true h, if_pos rfl, if_pos h]
  · rw [decide_eq_false h, if_neg Bool.false_ne_true, if_neg h]
theorem grants_eq (b o t : List Gr) (l1 : b.length ≤ o.length) (l2 : b.length ≤ t.length) (h1 : o.length ≤ 1000) (h2 : t.length ≤ 1000) : m_merged_grants [En.en b, En.en o, En.en t] = some (.ok (En.en (mG b o t))) := by
  obtain ⟨y4, y5, y6, y7, y8, y9, y10, e⟩ := g_loop b o t b o t 0 [] none none none none none none none rfl rfl rfl l1 l2 (by simp; omega)
  rw [List.nil_append] at e
  have ml := more_len (o.drop b.length) (t.drop b.length)
  rw [List.length_drop, List.length_drop] at ml
  have fll := flp_len b o t l1 l2
  generalize hF : flp b o t = F at *
  unfold m_merged_grants
  refine runA_of (s := G12 b o t y4 y5 y6 y7 y8 y9 y10 (some (.p (En.en (more (o.drop b.length) (t.drop b.length))))) [.gone]) ?_
  unfold b_merged_grants
  have a1 : dispO aNil ⟨slotsOf 12 ([En.en b, En.en o, En.en t].map .p), []⟩ = some (.ok (.o 0) [.lst []]) := by
    rw [e_dispO, e_bnd, e_aNil]
    exact if_pos (Nat.zero_le _)
  refine (seq_asg _ (gN 3) _ _ (G12 b o t none none none none none none none none [.lst []]) _ _ a1 rfl).trans ?_
  have it : mEnum (aCons (mVar 0) aNil) (G12 b o t none none none none none none none none [.lst []]) = some (.ok (enumD (b.map En.en) 0) [.lst []]) := rfl
  refine seq_for _ _ _ _ _ _ _ _ it e ?_
  have lb : ∀ x11, mCB dLen (aCons (mVar 0) aNil) (G12 b o t y4 y5 y6 y7 y8 y9 y10 x11 [.lst ((F.map En.en).map .p)]) = some (.ok (.p (.int b.length)) [.lst ((F.map En.en).map .p)]) := fun x11 => len_run 0 _ _ b rfl
  have r1 := sle_run _ _ _ _ _ _ _ _ _ (show mVar 1 (G12 b o t y4 y5 y6 y7 y8 y9 y10 none [.lst ((F.map En.en).map .p)]) = some (.ok (.p (En.en o)) _) from rfl) (psome_run _ _ _ (lb none)) (show pNone _ = _ from rfl) (cutF o b.length)
  have r2 := sle_run _ _ _ _ _ _ _ _ _ (show mVar 2 (G12 b o t y4 y5 y6 y7 y8 y9 y10 none [.lst ((F.map En.en).map .p)]) = some (.ok (.p (En.en t)) _) from rfl) (psome_run _ _ _ (lb none)) (show pNone _ = _ from rfl) (cutF t b.length)
  have r3 := bin_run dAdd2 _ _ _ _ _ _ _ r1 r2 (add_en _ _ (by rw [List.length_drop, List.length_drop]; omega))
  refine (seq_asg _ (gN 11) _ _ (G12 b o t y4 y5 y6 y7 y8 y9 y10 (some (.p (En.en (o.drop b.length ++ t.drop b.length)))) [.lst ((F.map En.en).map .p)]) _ _ r3 rfl).trans ?_
  have c := and2 _ _ _ _ _ _ (bin_run dGt _ _ _ _ _ _ _ (len_run 1 (G12 b o t y4 y5 y6 y7 y8 y9 y10 (some (.p (En.en (o.drop b.length ++ t.drop b.length)))) [.lst ((F.map En.en).map .p)]).l [.lst ((F.map En.en).map .p)] o rfl) (lb _) (gt_lens _ _)) (bin_run dGt _ _ _ _ _ _ _ (len_run 2 (G12 b o t y4 y5 y6 y7 y8 y9 y10 (some (.p (En.en (o.drop b.length ++ t.drop b.length)))) [.lst ((F.map En.en).map .p)]).l [.lst ((F.map En.en).map .p)] t rfl) (lb _) (gt_lens _ _))
  rw [both_more] at c
  have s4 : sIf (mAnd (mBin dGt (mCB dLen (aCons (mVar 1) aNil)) (mCB dLen (aCons (mVar 0) aNil))) (mBin dGt (mCB dLen (aCons (mVar 2) aNil)) (mCB dLen (aCons (mVar 0) aNil)))) (sAsg (mCB (g1 dSort) (aCons (mVar 11) aNil)) (gN 11)) sNil (G12 b o t y4 y5 y6 y7 y8 y9 y10 (some (.p (En.en (o.drop b.length ++ t.drop b.length)))) [.lst ((F.map En.en).map .p)]) = some (.nx, G12 b o t y4 y5 y6 y7 y8 y9 y10 (some (.p (En.en (more (o.drop b.length) (t.drop b.length))))) [.lst ((F.map En.en).map .p)]) := by
    rw [nsif _ c, ← more_if]
    split
    · exact asg_run _ _ _ _ _ _ _ (cb1_run _ _ _ _ _ _ rfl (dSort_gr _)) rfl
    · rfl
  refine (seq_nx _ _ _ _ s4).trans ?_
  refine ret_run _ _ _ _ ?_
  have f := frz_run 3 0 (G12 b o t y4 y5 y6 y7 y8 y9 y10 (some (.p (En.en (more (o.drop b.length) (t.drop b.length))))) [.lst ((F.map En.en).map .p)]).l [.lst ((F.map En.en).map .p)] (F.map En.en) rfl rfl
  have cp : mLc (mItD itL (mVar 11)) [5] (gN 5) tYesM (mCallA 1 m_grant_copy (aCons (mVar 5) aNil)) (G12 b o t y4 y5 y6 y7 y8 y9 y10 (some (.p (En.en (more (o.drop b.length) (t.drop b.length))))) [.gone]) = some (.ok (.p (En.en (more (o.drop b.length) (t.drop b.length)))) [.gone]) := by
    refine lcs _ _ _ _ _ (G12 b o t y4 y5 y6 y7 y8 y9 y10 (some (.p (En.en (more (o.drop b.length) (t.drop b.length))))) [.gone]) (((more (o.drop b.length) (t.drop b.length)).map En.en).map .p) _ rfl ?_
    exact map_compE (En.en : Gr → D) (En.en : Gr → D) (more (o.drop b.length) (t.drop b.length)) (fun g _ => ⟨G12 b o t y4 none y6 y7 y8 y9 y10 (some (.p (En.en (more (o.drop b.length) (t.drop b.length))))) [.gone] |> fun s => ⟨s.l.set 5 (some (.p (En.en g))), s.m⟩, rfl, rfl, cA1' m_grant_copy (mVar 5) _ _ _ _ _ rfl (grant_copy_eq g)⟩) (by omega)
  refine bin2 dAdd2 _ _ _ _ _ _ _ _ _ f cp ?_
  unfold mG
  rw [hF]
  exact add_en F _ (by omega)
end Law
namespace Law
open PySem L2 DL
/-! ### merged books -/
def pk (x y z : Cls) (p : Sp) : Option (String × Int) := if ent y p = ent x p then look z p else look y p
def cf (x y z : Cls) (p : Sp) : Bool := decide (ent x p ≠ ent y p ∧ ent x p ≠ ent z p ∧ ent y p ≠ ent z p)
def cr (b o t : Bk) : Bool := decide (b.r ≠ o.r ∧ b.r ≠ t.r ∧ o.r ≠ t.r)
noncomputable def cnC (b o t : Bk) : List D := ((plc [b, o, t]).filter (cf b.c o.c t.c)).map cellD
noncomputable def cnf (b o t : Bk) : List D := cnC b o t ++ if cr b o t = true then [rulesD] else []
def mcF (x y z : Cls) (ps : List Sp) : Cls := ps.filterMap fun p => (pk x y z p).map fun v => (p, v)
noncomputable def mgC (b o t : Bk) : Cls := mcF b.c o.c t.c (plc [b, o, t])
def mR (b o t : Bk) : List Ru := if o.r = b.r then t.r else o.r
noncomputable def mB (b o t : Bk) : Bk := ⟨b.u, mgC b o t, mR b o t, mG b.g o.g t.g⟩
noncomputable def mRes (b o t : Bk) : D := if cnf b o t = [] then .tup [(mB b o t).d, .lst []] else .tup [.non, .lst (cnf b o t)]
def TOkC (c : Cls) : Prop := ∀ q ∈ c, q.2.1 ∈ TEXTS
theorem look_mem {c : Cls} {p : Sp} {x : String × Int} (h : look c p = some x) : (p, x) ∈ c := by
  unfold look at h
  cases e : c.find? fun q => decide (q.1 = p) with
  | none => rw [e] at h; cases h
  | some q =>
    rw [e] at h
    cases h
    have h1 := List.mem_of_find?_eq_some e
    have h2 := List.find?_some e
    rw [decide_eq_true_eq] at h2
    rw [← h2]; exact h1
theorem look_key {c : Cls} {p : Sp} : (look c p).isSome = true ↔ p ∈ ckey c := by
  unfold look ckey
  constructor
  · intro h
    rw [Option.isSome_map, List.find?_isSome] at h
    obtain ⟨q, h1, h2⟩ := h
    rw [decide_eq_true_eq] at h2
    exact h2 ▸ List.mem_map_of_mem h1
  · intro h
    obtain ⟨q, h1, rfl⟩ := List.mem_map.mp h
    rw [Option.isSome_map, List.find?_isSome]
    exact ⟨q, h1, by simp⟩
def entO : Option (String × Int) → String × Option Int
  | some x => (x.1, some x.2)
  | none => ("", none)
theorem ent_O (c : Cls) (p : Sp) : ent c p = entO (look c p) := by unfold ent; cases look c p <;> rfl
theorem entO_inj {x y : Option (String × Int)} (h : entO x = entO y) : x = y := by
  cases x with
  | none => cases y with
    | none => rfl
    | some b => exact absurd (congrArg Prod.snd h) (by simp [entO])
  | some a => cases y with
    | none => exact absurd (congrArg Prod.snd h) (by simp [entO])
    | some b =>
      have h1 := congrArg Prod.fst h
      have h2 := congrArg Prod.snd h
      simp only [entO, Option.some.injEq] at h1 h2
      exact congrArg some (Prod.ext h1 h2)
theorem ent_look {c d : Cls} {p : Sp} : ent c p = ent d p ↔ look c p = look d p := by
  rw [ent_O, ent_O]
  exact ⟨entO_inj, fun h => by rw [h]⟩
theorem tk_ent (x y z : Cls) (p : Sp) : (if ent y p = ent x p then ent z p else ent y p) = entO (pk x y z p) := by
  unfold pk
  split <;> exact ent_O _ _
theorem text_ne {t : String} (h : t ∈ TEXTS) : t ≠ "" := fun e => absurd (e ▸ h) (by decide)
theorem pk_text {x y z : Cls} (hy : TOkC y) (hz : TOkC z) {p : Sp} {v : String × Int} (h : pk x y z p = some v) : v.1 ≠ "" := by
  unfold pk at h
  split at h
  · exact text_ne (hz _ (look_mem h))
  · exact text_ne (hy _ (look_mem h))
theorem put_new {c : Cls} {p : Sp} {v : String × Int} (h : p ∉ ckey c) : putC c p v = c ++ [(p, v)] := by
  unfold putC
  rw [if_neg]
  intro q
  rw [List.any_eq_true] at q
  obtain ⟨a, ha, e⟩ := q
  rw [decide_eq_true_eq] at e
  exact h (e ▸ List.mem_map_of_mem ha)
theorem mcF_key (x y z : Cls) (ps : List Sp) : ∀ p ∈ ckey (mcF x y z ps), p ∈ ps := by
  intro p hp
  obtain ⟨q, hq, rfl⟩ := List.mem_map.mp hp
  obtain ⟨a, ha, e⟩ := List.mem_filterMap.mp hq
  cases z : pk x y z a with
  | none => rw [z] at e; cases e
  | some v => rw [z] at e; cases e; exact ha
theorem mcF_cons (x y z : Cls) (p : Sp) (ps : List Sp) : mcF x y z (p :: ps) = (match pk x y z p with | some v => [(p, v)] | none => []) ++ mcF x y z ps := by
  unfold mcF
  cases h : pk x y z p with
  | none => simp [h]
  | some v => simp [h]
section
variable (b o t : Bk)
abbrev H12 (b o t : Bk) (x3 x4 x5 x6 x7 x8 x9 x10 x11 : Option DV) (M : List O) : S := ⟨[some (.p b.d), some (.p o.d), some (.p t.d), x3, x4, x5, x6, x7, x8, x9, x10, x11], M⟩
theorem econf_eq (p : Sp) : m_entries_conflict [b.d, o.d, t.d, En.en p] = some (.ok (.bl (cf b.c o.c t.c p))) := by
  unfold m_entries_conflict
  refine runA_of (s := ⟨[some (.p b.d), some (.p o.d), some (.p t.d), some (.p (En.en p))], []⟩) ?_
  unfold b_entries_conflict
  exact ret_run _ _ _ _ (cA3' m_conflict _ _ _ _ _ _ _ _ _ _ _ _ (e_ent b p 0 3 _ _ rfl rfl) (e_ent o p 1 3 _ _ rfl rfl) (e_ent t p 2 3 _ _ rfl rfl) (conflict_eq _ _ _ dpE))
theorem tru_run (m : EM) (l : List (Option DV)) (M : List O) (k : Bool) (h : m ⟨l, M⟩ = some (.ok (.p (.bl k)) M)) : mTru m ⟨l, M⟩ = some (.ok (.p (.bl k)) M) := by
  rw [e_tru, e_bnd, h]; rfl
noncomputable def mStep : SM := (sSeq (sAsg (mCallA 3 m_taken (aCons (mCallA 2 m_entry_of (aCons (mVar 0) (aCons (mVar 7) aNil))) (aCons (mCallA 2 m_entry_of (aCons (mVar 1) (aCons (mVar 7) aNil))) (aCons (mCallA 2 m_entry_of (aCons (mVar 2) (aCons (mVar 7) aNil))) aNil)))) (gT 2 (gsCons (gN 8) (gsCons (gN 9) gsNil))))
  (sIf (mBin dNe (mVar 8) (mC (.str (PySem.Str.ofString "")))) (sSeq (sPut (mVar 8) (mVar 5) (mVar 7))
  (sPut (mVar 9) (mVar 6) (mVar 7))) sNil))
theorem nes_run (i : Nat) (l : List (Option DV)) (M : List O) (s : String) (h : gv l i = some (.p (sd s))) : mBin dNe (mVar i) (mC (.str (PySem.Str.ofString ""))) ⟨l, M⟩ = some (.ok (.p (.bl (decide (s ≠ "")))) M) :=
  ne_run (α := String) (by decide) _ _ _ _ s "" (by rw [e_var]; dsimp only; rw [h]; rfl) rfl
theorem m_loop (hy : TOkC o.c) (hz : TOkC t.c) (x3 : Option DV) (x10 : Option DV) : ∀ (ps : List Sp) (c : Cls) (x7 x8 x9 : Option DV), ps.Nodup → (∀ p ∈ ps, p ∉ ckey c) → c.length + ps.length ≤ 1000 → ∃ y7 y8 y9, loopS (gN 7) mStep ((ps.map En.en).map .p) (H12 b o t x3 (some (.o 0)) (some (.o 1)) (some (.o 2)) x7 x8 x9 x10 none [.lst [], enO c, auO c]) = some (.nx, H12 b o t x3 (some (.o 0)) (some (.o 1)) (some (.o 2)) y7 y8 y9 x10 none [.lst [], enO (c ++ mcF b.c o.c t.c ps), auO (c ++ mcF b.c o.c t.c ps)])
  | [], c, x7, x8, x9, _, _, _ => ⟨x7, x8, x9, by
    have : mcF b.c o.c t.c [] = [] := rfl
    rw [this, List.append_nil]; rfl⟩
  | p :: ps, c, x7, x8, x9, nd, dj, hl => by
    rw [List.length_cons] at hl
    have hp := dj p List.mem_cons_self
    have nd' := List.nodup_cons.mp nd
    have g : gN 7 (.p (En.en p)) (H12 b o t x3 (some (.o 0)) (some (.o 1)) (some (.o 2)) x7 x8 x9 x10 none [.lst [], enO c, auO c]) = some (H12 b o t x3 (some (.o 0)) (some (.o 1)) (some (.o 2)) (some (.p (En.en p))) x8 x9 x10 none [.lst [], enO c, auO c]) := rfl
    have tk := taken_eq (ent b.c p) (ent o.c p) (ent t.c p) dpE
    rw [tk_ent] at tk
    have s1 : sAsg (mCallA 3 m_taken (aCons (mCallA 2 m_entry_of (aCons (mVar 0) (aCons (mVar 7) aNil))) (aCons (mCallA 2 m_entry_of (aCons (mVar 1) (aCons (mVar 7) aNil))) (aCons (mCallA 2 m_entry_of (aCons (mVar 2) (aCons (mVar 7) aNil))) aNil)))) (gT 2 (gsCons (gN 8) (gsCons (gN 9) gsNil))) (H12 b o t x3 (some (.o 0)) (some (.o 1)) (some (.o 2)) (some (.p (En.en p))) x8 x9 x10 none [.lst [], enO c, auO c]) = some (.nx, H12 b o t x3 (some (.o 0)) (some (.o 1)) (some (.o 2)) (some (.p (En.en p))) (some (.p (sd (entO (pk b.c o.c t.c p)).1))) (some (.p (En.en (entO (pk b.c o.c t.c p)).2))) x10 none [.lst [], enO c, auO c]) := asg_run _ _ _ _ _ _ _ (cA3' m_taken _ _ _ _ _ _ _ _ _ _ _ _ (e_ent b p 0 7 _ _ rfl rfl) (e_ent o p 1 7 _ _ rfl rfl) (e_ent t p 2 7 _ _ rfl rfl) tk) rfl
    cases hk : pk b.c o.c t.c p with
    | none =>
      obtain ⟨y7, y8, y9, e⟩ := m_loop hy hz x3 x10 ps c (some (.p (En.en p))) (some (.p (sd ""))) (some (.p (En.en (none : Option Int)))) nd'.2 (fun q hq => dj q (List.mem_cons_of_mem _ hq)) (by omega)
      refine ⟨y7, y8, y9, ?_⟩
      rw [hk] at s1
      have c1 := nes_run 8 (H12 b o t x3 (some (.o 0)) (some (.o 1)) (some (.o 2)) (some (.p (En.en p))) (some (.p (sd ""))) (some (.p (En.en (none : Option Int)))) x10 none [.lst [], enO c, auO c]).l [.lst [], enO c, auO c] "" rfl
      have st : mStep (H12 b o t x3 (some (.o 0)) (some (.o 1)) (some (.o 2)) (some (.p (En.en p))) x8 x9 x10 none [.lst [], enO c, auO c]) = some (.nx, H12 b o t x3 (some (.o 0)) (some (.o 1)) (some (.o 2)) (some (.p (En.en p))) (some (.p (sd ""))) (some (.p (En.en (none : Option Int)))) x10 none [.lst [], enO c, auO c]) := by
        refine (seq_nx _ _ _ _ s1).trans ?_
        exact (nsif _ c1).trans (if_neg (by simp))
      rw [List.map_cons, List.map_cons, loopS_cons, g]
      dsimp only
      rw [st]
      dsimp only
      rw [e, mcF_cons, hk]
      rfl
    | some v =>
      obtain ⟨tx, w⟩ := v
      have tn : tx ≠ "" := pk_text hy hz hk
      have pn := put_new (v := (tx, w)) hp
      obtain ⟨y7, y8, y9, e⟩ := m_loop hy hz x3 x10 ps (c ++ [(p, (tx, w))]) (some (.p (En.en p))) (some (.p (sd tx))) (some (.p (.int w))) nd'.2 (fun q hq hm => by
        unfold ckey at hm
        rw [List.map_append] at hm
        rcases List.mem_append.mp hm with h | h
        · exact dj q (List.mem_cons_of_mem _ hq) h
        · rw [List.map_cons, List.map_nil, List.mem_singleton] at h
          have h : q = p := h
          exact nd'.1 (h ▸ hq)) (by simp; omega)
      refine ⟨y7, y8, y9, ?_⟩
      rw [hk] at s1
      have s1 : sAsg _ _ _ = some (.nx, H12 b o t x3 (some (.o 0)) (some (.o 1)) (some (.o 2)) (some (.p (En.en p))) (some (.p (sd tx))) (some (.p (.int w))) x10 none [.lst [], enO c, auO c]) := s1
      have c1 := nes_run 8 (H12 b o t x3 (some (.o 0)) (some (.o 1)) (some (.o 2)) (some (.p (En.en p))) (some (.p (sd tx))) (some (.p (.int w))) x10 none [.lst [], enO c, auO c]).l [.lst [], enO c, auO c] tx rfl
      have p1 := putM_f hfe (fun _ _ _ => rfl) c p (tx, w) [.lst [], enO c, auO c] 1 rfl (by omega)
      have p2 := putM_f hfa (fun _ _ _ => rfl) c p (tx, w) [.lst [], enO (putC c p (tx, w)), auO c] 2 rfl (by omega)
      have q1 := sput_run (mVar 8) (mVar 7) 5 1 (H12 b o t x3 (some (.o 0)) (some (.o 1)) (some (.o 2)) (some (.p (En.en p))) (some (.p (sd tx))) (some (.p (.int w))) x10 none [.lst [], enO c, auO c]).l _ _ [.lst [], enO c, auO c] _ rfl rfl rfl p1
      have q2 := sput_run (mVar 9) (mVar 7) 6 2 (H12 b o t x3 (some (.o 0)) (some (.o 1)) (some (.o 2)) (some (.p (En.en p))) (some (.p (sd tx))) (some (.p (.int w))) x10 none [.lst [], enO c, auO c]).l _ _ [.lst [], enO (putC c p (tx, w)), auO c] _ rfl rfl rfl p2
      have st : mStep (H12 b o t x3 (some (.o 0)) (some (.o 1)) (some (.o 2)) (some (.p (En.en p))) x8 x9 x10 none [.lst [], enO c, auO c]) = some (.nx, H12 b o t x3 (some (.o 0)) (some (.o 1)) (some (.o 2)) (some (.p (En.en p))) (some (.p (sd tx))) (some (.p (.int w))) x10 none [.lst [], enO (putC c p (tx, w)), auO (putC c p (tx, w))]) := by
        refine (seq_nx _ _ _ _ s1).trans ?_
        refine (nsif _ c1).trans ?_
        rw [if_pos (by simp [tn])]
        exact (seq_nx _ _ _ _ q1).trans q2
      rw [List.map_cons, List.map_cons, loopS_cons, g]
      dsimp only
      rw [st]
      dsimp only
      rw [pn, e, mcF_cons, hk, List.append_assoc]
theorem three_mem {α : Type} {P : α → Prop} {x y z : α} (h1 : P x) (h2 : P y) (h3 : P z) : ∀ b ∈ [x, y, z], P b := by
  intro b hb
  rcases List.mem_cons.mp hb with rfl | hb
  · exact h1
  · exact two_mem h2 h3 b hb
theorem trl_run (i n : Nat) (l : List (Option DV)) (M : List O) (ds : List D) (h1 : gv l i = some (.o n)) (h2 : M[n]? = some (.lst (ds.map .p))) : mTru (mVar i) ⟨l, M⟩ = some (.ok (.p (.bl (decide (ds ≠ [])))) M) := by
  rw [e_tru, e_bnd, e_var]
  dsimp only
  rw [h1]
  show (match truO M[n]? with | some b => some (Rs.ok (DV.p (.bl b)) M) | none => none) = _
  rw [h2]
  cases ds <;> rfl
structure M3 (b o t : Bk) : Prop where
  kb : Kys b.c
  ko : Kys o.c
  kt : Kys t.c
  ho : TOkC o.c
  ht : TOkC t.c
  l1 : b.g.length ≤ o.g.length
  l2 : b.g.length ≤ t.g.length
  g1 : o.g.length ≤ 1000
  g2 : t.g.length ≤ 1000
  r1 : o.r.length ≤ 1000
  r2 : t.r.length ≤ 1000
theorem M3.pl {b o t : Bk} (h : M3 b o t) : (plc [b, o, t]).length ≤ 5 := plc_len (three_mem (P := fun c : Bk => Kys c.c) h.kb h.ko h.kt)
theorem mR_len {b o t : Bk} (h : M3 b o t) : (mR b o t).length ≤ 1000 := by
  unfold mR; split
  · exact h.r2
  · exact h.r1
theorem merged_eq (h : M3 b o t) : m_merged [b.d, o.d, t.d] = some (.ok (mRes b o t)) := by
  have hk := three_mem (P := fun c : Bk => Kys c.c) h.kb h.ko h.kt
  have pl := h.pl
  have cl : (cnC b o t).length ≤ 5 := by
    unfold cnC
    rw [List.length_map]
    exact Nat.le_trans (List.length_filter_le _ _) pl
  unfold m_merged
  suffices hs : ∃ s, b_merged (H12 b o t none none none none none none none none none []) = some (.rt (.p (mRes b o t)), s) by
    obtain ⟨s, hs⟩ := hs
    exact runA_of hs
  unfold b_merged
  have a1 : mCallA 1 m_addresses_in (aCons (disp .lst (aCons (mVar 0) (aCons (mVar 1) (aCons (mVar 2) aNil)))) aNil) (H12 b o t none none none none none none none none none []) = some (.ok (.p (En.en (plc [b, o, t]))) []) := cA1' m_addresses_in _ _ _ _ _ _ rfl (addr_eq [b, o, t] hk)
  rw [seq_asg _ (gN 3) _ _ (H12 b o t (some (.p (En.en (plc [b, o, t])))) none none none none none none none none []) _ _ a1 rfl]
  unfold b_merged_1
  have a2 : mLcO (mItD itL (mVar 3)) [7] (gN 7) (mTru (mCallA 4 m_entries_conflict (aCons (mVar 0) (aCons (mVar 1) (aCons (mVar 2) (aCons (mVar 7) aNil)))))) (disp .tup (aCons (mC (.str (PySem.Str.ofString "cell"))) (aCons (mVar 7) aNil))) (H12 b o t (some (.p (En.en (plc [b, o, t])))) none none none none none none none none []) = some (.ok (.o 0) [.lst ((cnC b o t).map .p)]) := by
    rw [e_lcO]
    have it : mItD itL (mVar 3) (H12 b o t (some (.p (En.en (plc [b, o, t])))) none none none none none none none none []) = some (.ok (((plc [b, o, t]).map En.en).map .p) []) := rfl
    rw [e_bnd, it]
    have q := filter_compE (En.en : Sp → D) (l := (H12 b o t (some (.p (En.en (plc [b, o, t])))) none none none none none none none none []).l) (g := gN 7) (t := mTru (mCallA 4 m_entries_conflict (aCons (mVar 0) (aCons (mVar 1) (aCons (mVar 2) (aCons (mVar 7) aNil)))))) (e := disp .tup (aCons (mC (.str (PySem.Str.ofString "cell"))) (aCons (mVar 7) aNil))) (M := []) cellD (cf b.c o.c t.c) (plc [b, o, t]) (fun p _ => ⟨H12 b o t (some (.p (En.en (plc [b, o, t])))) none none none (some (.p (En.en p))) none none none none [], rfl, rfl, tru_run _ _ _ _ (cA4' m_entries_conflict (mVar 0) (mVar 1) (mVar 2) (mVar 7) _ _ _ _ _ _ _ _ _ _ _ rfl rfl rfl rfl (econf_eq b o t p)), fun _ => rfl⟩) (by omega)
    show (match compL (H12 b o t (some (.p (En.en (plc [b, o, t])))) none none none none none none none none []).l (gN 7) _ _ _ [] [] with | some (acc, M) => some (Rs.ok (DV.o M.length) (M ++ [O.lst (acc.map .p)])) | none => none) = _
    rw [q]
    rfl
  rw [seq_asg _ (gN 4) _ _ (H12 b o t (some (.p (En.en (plc [b, o, t])))) (some (.o 0)) none none none none none none none [.lst ((cnC b o t).map .p)]) _ _ a2 rfl]
  unfold b_merged_2
  have c3 := tru_run _ _ _ _ (cA3' m_conflict _ _ _ _ _ _ _ _ _ _ _ _ (ix4 b 0 (H12 b o t (some (.p (En.en (plc [b, o, t])))) (some (.o 0)) none none none none none none none [.lst ((cnC b o t).map .p)]).l [.lst ((cnC b o t).map .p)] rfl) (ix4 o 1 _ _ rfl) (ix4 t 2 _ _ rfl) (conflict_eq b.r o.r t.r dpR))
  have s3 : sIf (mTru (mCallA 3 m_conflict (aCons (mIx (mVar 0) (mC (.int 4))) (aCons (mIx (mVar 1) (mC (.int 4))) (aCons (mIx (mVar 2) (mC (.int 4))) aNil))))) (sExpr (mMth "list" gApp (mVar 4) (aCons (disp .tup (aCons (mC (.str (PySem.Str.ofString "rules"))) (aCons (mC .non) aNil))) aNil))) sNil (H12 b o t (some (.p (En.en (plc [b, o, t])))) (some (.o 0)) none none none none none none none [.lst ((cnC b o t).map .p)]) = some (.nx, H12 b o t (some (.p (En.en (plc [b, o, t])))) (some (.o 0)) none none none none none none none [.lst ((cnf b o t).map .p)]) := by
    rw [nsif _ c3]
    unfold cnf cr
    by_cases q : b.r ≠ o.r ∧ b.r ≠ t.r ∧ o.r ≠ t.r
    · rw [decide_eq_true q, if_pos rfl, if_pos rfl]
      exact appM_run _ 4 0 _ _ (cnC b o t) rulesD rfl rfl rfl (by omega)
    · rw [decide_eq_false q, if_neg Bool.false_ne_true, if_neg Bool.false_ne_true, List.append_nil]
      rfl
  rw [seq_nx _ _ _ _ s3]
  unfold b_merged_3
  have c4 := trl_run 4 0 (H12 b o t (some (.p (En.en (plc [b, o, t])))) (some (.o 0)) none none none none none none none [.lst ((cnf b o t).map .p)]).l [.lst ((cnf b o t).map .p)] (cnf b o t) rfl rfl
  by_cases hc : cnf b o t = []
  · have hr : mRes b o t = .tup [(mB b o t).d, .lst []] := by unfold mRes; rw [if_pos hc]
    rw [hr]
    rw [hc] at c4 ⊢
    have s4 : sIf (mTru (mVar 4)) (sRet (disp .tup (aCons (mC .non) (aCons (mFrz (mVar 4)) aNil)))) sNil (H12 b o t (some (.p (En.en (plc [b, o, t])))) (some (.o 0)) none none none none none none none [.lst (([] : List D).map .p)]) = some (.nx, H12 b o t (some (.p (En.en (plc [b, o, t])))) (some (.o 0)) none none none none none none none [.lst []]) := (nsif _ c4).trans (if_neg (by simp))
    rw [seq_nx _ _ _ _ s4]
    unfold b_merged_4
    rw [seq_asg _ (gN 5) _ _ (H12 b o t (some (.p (En.en (plc [b, o, t])))) (some (.o 0)) (some (.o 1)) none none none none none none [.lst [], enO []]) _ [.lst [], enO []] (e_dnew _ _) rfl]
    unfold b_merged_5
    rw [seq_asg _ (gN 6) _ _ (H12 b o t (some (.p (En.en (plc [b, o, t])))) (some (.o 0)) (some (.o 1)) (some (.o 2)) none none none none none [.lst [], enO [], auO []]) _ [.lst [], enO [], auO []] (e_dnew _ _) rfl]
    unfold b_merged_6
    obtain ⟨y7, y8, y9, e⟩ := m_loop b o t h.ho h.ht (some (.p (En.en (plc [b, o, t])))) none (plc [b, o, t]) [] none none none (plc_nd _) (fun _ _ h => (nomatch h)) (by simp; omega)
    rw [List.nil_append] at e
    have e : loopS (gN 7) mStep _ _ = some (.nx, H12 b o t (some (.p (En.en (plc [b, o, t])))) (some (.o 0)) (some (.o 1)) (some (.o 2)) y7 y8 y9 none none [.lst [], enO (mgC b o t), auO (mgC b o t)]) := e
    suffices hs : ∃ s, b_merged_7 (H12 b o t (some (.p (En.en (plc [b, o, t])))) (some (.o 0)) (some (.o 1)) (some (.o 2)) y7 y8 y9 none none [.lst [], enO (mgC b o t), auO (mgC b o t)]) = some (.rt (.p (.tup [(mB b o t).d, .lst []])), s) by
      obtain ⟨s, hs⟩ := hs
      exact ⟨s, seq_for _ _ _ _ _ _ _ _ rfl e hs⟩
    generalize hM : ([.lst [], enO (mgC b o t), auO (mgC b o t)] : List O) = M
    unfold b_merged_7
    have a5 : mLc (mItD itL (mCallA 3 m_taken (aCons (mIx (mVar 0) (mC (.int 4))) (aCons (mIx (mVar 1) (mC (.int 4))) (aCons (mIx (mVar 2) (mC (.int 4))) aNil))))) [11] (gN 11) tYesM (mCallA 1 m_rule_copy (aCons (mVar 11) aNil)) (H12 b o t (some (.p (En.en (plc [b, o, t])))) (some (.o 0)) (some (.o 1)) (some (.o 2)) y7 y8 y9 none none M) = some (.ok (.p (En.en (mR b o t))) M) := by
      have it : mItD itL (mCallA 3 m_taken (aCons (mIx (mVar 0) (mC (.int 4))) (aCons (mIx (mVar 1) (mC (.int 4))) (aCons (mIx (mVar 2) (mC (.int 4))) aNil)))) (H12 b o t (some (.p (En.en (plc [b, o, t])))) (some (.o 0)) (some (.o 1)) (some (.o 2)) y7 y8 y9 none none M) = some (.ok (((mR b o t).map En.en).map .p) M) := by
        rw [e_itD, e_bnd, cA3' m_taken _ _ _ _ _ _ _ _ _ _ _ _ (ix4 b 0 _ _ rfl) (ix4 o 1 _ _ rfl) (ix4 t 2 _ _ rfl) (taken_eq b.r o.r t.r dpR)]
        rfl
      refine lcs _ _ _ _ _ _ _ _ it ?_
      exact map_compE (En.en : Ru → D) (En.en : Ru → D) (mR b o t) (fun u _ => ⟨⟨(H12 b o t (some (.p (En.en (plc [b, o, t])))) (some (.o 0)) (some (.o 1)) (some (.o 2)) y7 y8 y9 none (some (.p (En.en u))) M).l, M⟩, rfl, rfl, cA1' m_rule_copy (mVar 11) _ _ _ _ _ rfl (rule_copy_eq u)⟩) (by have := mR_len h; omega)
    rw [seq_asg _ (gN 10) _ _ (H12 b o t (some (.p (En.en (plc [b, o, t])))) (some (.o 0)) (some (.o 1)) (some (.o 2)) y7 y8 y9 (some (.p (En.en (mR b o t)))) none M) _ M a5 rfl]
    unfold b_merged_8
    subst hM
    have e3 := frzD_var 5 1 (H12 b o t (some (.p (En.en (plc [b, o, t])))) (some (.o 0)) (some (.o 1)) (some (.o 2)) y7 y8 y9 (some (.p (En.en (mR b o t)))) none []).l [.lst [], enO (mgC b o t), auO (mgC b o t)] _ _ rfl rfl (frz_f hfe (mgC b o t))
    have e4 := frzD_var 6 2 (H12 b o t (some (.p (En.en (plc [b, o, t])))) (some (.o 0)) (some (.o 1)) (some (.o 2)) y7 y8 y9 (some (.p (En.en (mR b o t)))) none []).l [.lst [], .gone, auO (mgC b o t)] _ _ rfl rfl (frz_f hfa (mgC b o t))
    have e6 := cA3' m_merged_grants _ _ _ (H12 b o t (some (.p (En.en (plc [b, o, t])))) (some (.o 0)) (some (.o 1)) (some (.o 2)) y7 y8 y9 (some (.p (En.en (mR b o t)))) none []).l [.lst [], .gone, .gone] _ _ _ _ _ _ _ (ix5 b 0 _ _ rfl) (ix5 o 1 _ _ rfl) (ix5 t 2 _ _ rfl) (grants_eq b.g o.g t.g h.l1 h.l2 h.g1 h.g2)
    have e7 := tup6_run (mC (.str (PySem.Str.ofString "book"))) (mIx (mVar 0) (mC (.int 1))) _ _ (mVar 10) _ _ _ _ _ _ _ _ _ _ (.int b.u) _ _ (En.en (mR b o t)) _ rfl (ix_book b 0 _ _ 1 _ rfl rfl) e3 e4 rfl e6
    exact ⟨_, ret_run _ _ _ _ (t2 _ _ _ _ _ _ _ _ e7 rfl)⟩
  · have hr : mRes b o t = .tup [.non, .lst (cnf b o t)] := by unfold mRes; rw [if_neg hc]
    rw [hr]
    have e4 := frz_run 4 0 (H12 b o t (some (.p (En.en (plc [b, o, t])))) (some (.o 0)) none none none none none none none [.lst ((cnf b o t).map .p)]).l [.lst ((cnf b o t).map .p)] (cnf b o t) rfl rfl
    rw [e_seq, nsif _ c4, if_pos (by simp [hc]), ret_run _ _ _ _ (t2 _ _ _ _ _ _ _ _ rfl e4)]
    exact ⟨_, rfl⟩
end
end Law
namespace Law
open PySem L2 DL
/-! ### the law's merged -/
theorem bget (B R : List O) (i : Nat) : (B ++ R)[B.length + i]? = R[i]? := by
  rw [List.getElem?_append_right (by omega)]
  congr 1; omega
theorem bset (B R : List O) (i : Nat) (o : O) : (B ++ R).set (B.length + i) o = B ++ R.set i o := by
  rw [List.set_append_right _ _ (by omega)]
  congr 2; omega
theorem bget0 (B R : List O) : (B ++ R)[B.length]? = R[0]? := bget B R 0
theorem bset0 (B R : List O) (o : O) : (B ++ R).set B.length o = B ++ R.set 0 o := bset B R 0 o
section
variable (b o t : Bk) {B : List O}
abbrev JL (b o t : Bk) (n : Nat) (x6 x7 x8 x9 x10 x11 x12 x13 x14 x15 x16 x17 : Option DV) : List (Option DV) := [some (.p b.d), some (.p o.d), some (.p t.d), some (.o n), some (.o (n + 1)), some (.o (n + 2)), x6, x7, x8, x9, x10, x11, x12, x13, x14, x15, x16, x17, none]
noncomputable def lStep : SM := (sSeq (sPar3 7 8 9 (aCons (mCallA 2 m_l_entry (aCons (mVar 0) (aCons (mVar 6) aNil))) (aCons (mCallA 2 m_l_entry (aCons (mVar 1) (aCons (mVar 6) aNil))) (aCons (mCallA 2 m_l_entry (aCons (mVar 2) (aCons (mVar 6) aNil))) aNil))))
  (sSeq (sAsg (mVar 8) (gN 10))
  (sSeq (sIf (mBin dEq (mVar 8) (mVar 7)) (sAsg (mVar 9) (gN 10)) sNil)
  (sSeq (sIf (mAnd (mBin dNe (mVar 8) (mVar 7)) (mAnd (mBin dNe (mVar 9) (mVar 7)) (mBin dNe (mVar 8) (mVar 9)))) (sExpr (mMth "list" gApp (mVar 5) (aCons (disp .tup (aCons (mC (.str (PySem.Str.ofString "cell"))) (aCons (mVar 6) aNil))) aNil))) sNil)
  (sIf (mBin dNe (mIx (mVar 10) (mC (.int 0))) (mC (.str (PySem.Str.ofString "")))) (sSeq (sPut (mIx (mVar 10) (mC (.int 0))) (mVar 3) (mVar 6))
  (sPut (mIx (mVar 10) (mC (.int 1))) (mVar 4) (mVar 6))) sNil)))))
theorem eq_runE {α : Type} [DecidableEq α] [En α] (hd : En.dp α ≤ 64) (a b : EM) (l : List (Option DV)) (M : List O) (x y : α) (h1 : a ⟨l, M⟩ = some (.ok (.p (En.en x)) M)) (h2 : b ⟨l, M⟩ = some (.ok (.p (En.en y)) M)) : mBin dEq a b ⟨l, M⟩ = some (.ok (.p (.bl (decide (x = y)))) M) := by
  refine bin_run dEq a b l M _ _ _ h1 h2 ?_
  unfold dEq
  rw [eqD_en x y hd]; rfl
theorem cf_and (x y z : Cls) (p : Sp) : (decide (ent y p ≠ ent x p) && (decide (ent z p ≠ ent x p) && decide (ent y p ≠ ent z p))) = cf x y z p := by
  unfold cf
  rw [Bool.eq_iff_iff, Bool.and_eq_true, Bool.and_eq_true]
  simp only [decide_eq_true_eq]
  exact ⟨fun ⟨h1, h2, h3⟩ => ⟨fun e => h1 e.symm, fun e => h2 e.symm, h3⟩, fun ⟨h1, h2, h3⟩ => ⟨fun e => h1 e.symm, fun e => h2 e.symm, h3⟩⟩
abbrev LM (B : List O) (c : Cls) (acc : List D) : List O := B ++ [enO c, auO c, .lst (acc.map .p)]
theorem l_loop (hy : TOkC o.c) (hz : TOkC t.c) : ∀ (ps : List Sp) (c : Cls) (acc : List D) (x6 x7 x8 x9 x10 : Option DV), ps.Nodup → (∀ p ∈ ps, p ∉ ckey c) → c.length + ps.length ≤ 1000 → acc.length + ps.length ≤ 1000 → ∃ y6 y7 y8 y9 y10, loopS (gN 6) lStep ((ps.map En.en).map .p) ⟨JL b o t B.length x6 x7 x8 x9 x10 none none none none none none none, LM B c acc⟩ = some (.nx, ⟨JL b o t B.length y6 y7 y8 y9 y10 none none none none none none none, LM B (c ++ mcF b.c o.c t.c ps) (acc ++ (ps.filter (cf b.c o.c t.c)).map cellD)⟩)
  | [], c, acc, x6, x7, x8, x9, x10, _, _, _, _ => ⟨x6, x7, x8, x9, x10, by
    have : mcF b.c o.c t.c [] = [] := rfl
    rw [this, List.append_nil]
    simp only [List.filter_nil, List.map_nil, List.append_nil]; rfl⟩
  | p :: ps, c, acc, x6, x7, x8, x9, x10, nd, dj, hl, hl2 => by
    rw [List.length_cons] at hl hl2
    have hp := dj p List.mem_cons_self
    have nd' := List.nodup_cons.mp nd
    have g : gN 6 (.p (En.en p)) ⟨JL b o t B.length x6 x7 x8 x9 x10 none none none none none none none, LM B c acc⟩ = some ⟨JL b o t B.length (some (.p (En.en p))) x7 x8 x9 x10 none none none none none none none, LM B c acc⟩ := rfl
    have f1 : ∀ x7 x8 x9 x10 acc, mCallA 2 m_l_entry (aCons (mVar 0) (aCons (mVar 6) aNil)) ⟨JL b o t B.length (some (.p (En.en p))) x7 x8 x9 x10 none none none none none none none, LM B c acc⟩ = some (.ok (.p (En.en (ent b.c p))) (LM B c acc)) := fun _ _ _ _ _ => l_ent b p 0 6 _ _ rfl rfl
    have f2 : ∀ x7 x8 x9 x10 acc, mCallA 2 m_l_entry (aCons (mVar 1) (aCons (mVar 6) aNil)) ⟨JL b o t B.length (some (.p (En.en p))) x7 x8 x9 x10 none none none none none none none, LM B c acc⟩ = some (.ok (.p (En.en (ent o.c p))) (LM B c acc)) := fun _ _ _ _ _ => l_ent o p 1 6 _ _ rfl rfl
    have f3 : ∀ x7 x8 x9 x10 acc, mCallA 2 m_l_entry (aCons (mVar 2) (aCons (mVar 6) aNil)) ⟨JL b o t B.length (some (.p (En.en p))) x7 x8 x9 x10 none none none none none none none, LM B c acc⟩ = some (.ok (.p (En.en (ent t.c p))) (LM B c acc)) := fun _ _ _ _ _ => l_ent t p 2 6 _ _ rfl rfl
    have s1 : sPar3 7 8 9 (aCons (mCallA 2 m_l_entry (aCons (mVar 0) (aCons (mVar 6) aNil))) (aCons (mCallA 2 m_l_entry (aCons (mVar 1) (aCons (mVar 6) aNil))) (aCons (mCallA 2 m_l_entry (aCons (mVar 2) (aCons (mVar 6) aNil))) aNil))) ⟨JL b o t B.length (some (.p (En.en p))) x7 x8 x9 x10 none none none none none none none, LM B c acc⟩ = some (.nx, ⟨JL b o t B.length (some (.p (En.en p))) (some (.p (En.en (ent b.c p)))) (some (.p (En.en (ent o.c p)))) (some (.p (En.en (ent t.c p)))) x10 none none none none none none none, LM B c acc⟩) := by
      rw [e_par3, e_lift, e_aCons, e_bnd, f1]
      dsimp only
      rw [e_bnd, e_aCons, e_bnd, f2]
      dsimp only
      rw [e_bnd, e_aCons, e_bnd, f3]
      rfl
    let E : Option DV := some (.p (En.en (ent o.c p)))
    have s2 : sAsg (mVar 8) (gN 10) ⟨JL b o t B.length (some (.p (En.en p))) (some (.p (En.en (ent b.c p)))) (some (.p (En.en (ent o.c p)))) (some (.p (En.en (ent t.c p)))) x10 none none none none none none none, LM B c acc⟩ = some (.nx, ⟨JL b o t B.length (some (.p (En.en p))) (some (.p (En.en (ent b.c p)))) (some (.p (En.en (ent o.c p)))) (some (.p (En.en (ent t.c p)))) (some (.p (En.en (ent o.c p)))) none none none none none none none, LM B c acc⟩) := rfl
    have c3 : mBin dEq (mVar 8) (mVar 7) ⟨JL b o t B.length (some (.p (En.en p))) (some (.p (En.en (ent b.c p)))) (some (.p (En.en (ent o.c p)))) (some (.p (En.en (ent t.c p)))) (some (.p (En.en (ent o.c p)))) none none none none none none none, LM B c acc⟩ = _ := eq_runE dpE _ _ _ _ (ent o.c p) (ent b.c p) rfl rfl
    have s3 : sIf (mBin dEq (mVar 8) (mVar 7)) (sAsg (mVar 9) (gN 10)) sNil ⟨JL b o t B.length (some (.p (En.en p))) (some (.p (En.en (ent b.c p)))) (some (.p (En.en (ent o.c p)))) (some (.p (En.en (ent t.c p)))) (some (.p (En.en (ent o.c p)))) none none none none none none none, LM B c acc⟩ = some (.nx, ⟨JL b o t B.length (some (.p (En.en p))) (some (.p (En.en (ent b.c p)))) (some (.p (En.en (ent o.c p)))) (some (.p (En.en (ent t.c p)))) (some (.p (En.en (entO (pk b.c o.c t.c p))))) none none none none none none none, LM B c acc⟩) := by
      rw [nsif _ c3, ← tk_ent]
      by_cases q : ent o.c p = ent b.c p
      · rw [decide_eq_true q, if_pos rfl, if_pos q]; rfl
      · rw [decide_eq_false q, if_neg Bool.false_ne_true, if_neg q]; rfl
    generalize hX : (some (.p (En.en (entO (pk b.c o.c t.c p)))) : Option DV) = X at s3
    have c4 := and2 _ _ _ _ _ _ (ne_run dpE (mVar 8) (mVar 7) (JL b o t B.length (some (.p (En.en p))) (some (.p (En.en (ent b.c p)))) (some (.p (En.en (ent o.c p)))) (some (.p (En.en (ent t.c p)))) X none none none none none none none) (LM B c acc) (ent o.c p) (ent b.c p) rfl rfl) (and2 _ _ _ _ _ _ (ne_run dpE (mVar 9) (mVar 7) _ _ (ent t.c p) (ent b.c p) rfl rfl) (ne_run dpE (mVar 8) (mVar 9) _ _ (ent o.c p) (ent t.c p) rfl rfl))
    rw [cf_and] at c4
    have s4 : sIf (mAnd (mBin dNe (mVar 8) (mVar 7)) (mAnd (mBin dNe (mVar 9) (mVar 7)) (mBin dNe (mVar 8) (mVar 9)))) (sExpr (mMth "list" gApp (mVar 5) (aCons (disp .tup (aCons (mC (.str (PySem.Str.ofString "cell"))) (aCons (mVar 6) aNil))) aNil))) sNil ⟨JL b o t B.length (some (.p (En.en p))) (some (.p (En.en (ent b.c p)))) (some (.p (En.en (ent o.c p)))) (some (.p (En.en (ent t.c p)))) X none none none none none none none, LM B c acc⟩ = some (.nx, ⟨JL b o t B.length (some (.p (En.en p))) (some (.p (En.en (ent b.c p)))) (some (.p (En.en (ent o.c p)))) (some (.p (En.en (ent t.c p)))) X none none none none none none none, LM B c (acc ++ if cf b.c o.c t.c p = true then [cellD p] else [])⟩) := by
      rw [nsif _ c4]
      split
      · refine (appM_run _ 5 (B.length + 2) _ _ acc (cellD p) rfl (bget _ _ 2) rfl (by omega)).trans ?_
        rw [bset]; rfl
      · rw [List.append_nil]; rfl
    have hacc : (acc ++ if cf b.c o.c t.c p = true then [cellD p] else []).length ≤ acc.length + 1 := by
      split <;> simp
    have hflt : acc ++ ((p :: ps).filter (cf b.c o.c t.c)).map cellD = (acc ++ if cf b.c o.c t.c p = true then [cellD p] else []) ++ (ps.filter (cf b.c o.c t.c)).map cellD := by
      rw [List.filter_cons]
      split <;> simp
    rw [hflt]
    generalize (acc ++ if cf b.c o.c t.c p = true then [cellD p] else []) = acc2 at *
    have pre : ∀ r, sIf (mBin dNe (mIx (mVar 10) (mC (.int 0))) (mC (.str (PySem.Str.ofString "")))) (sSeq (sPut (mIx (mVar 10) (mC (.int 0))) (mVar 3) (mVar 6)) (sPut (mIx (mVar 10) (mC (.int 1))) (mVar 4) (mVar 6))) sNil ⟨JL b o t B.length (some (.p (En.en p))) (some (.p (En.en (ent b.c p)))) (some (.p (En.en (ent o.c p)))) (some (.p (En.en (ent t.c p)))) X none none none none none none none, LM B c acc2⟩ = r → lStep ⟨JL b o t B.length (some (.p (En.en p))) x7 x8 x9 x10 none none none none none none none, LM B c acc⟩ = r := fun r h => (seq_nx _ _ _ _ s1).trans ((seq_nx _ _ _ _ s2).trans ((seq_nx _ _ _ _ s3).trans ((seq_nx _ _ _ _ s4).trans h)))
    have i0 : ∀ M, mIx (mVar 10) (mC (.int 0)) ⟨JL b o t B.length (some (.p (En.en p))) (some (.p (En.en (ent b.c p)))) (some (.p (En.en (ent o.c p)))) (some (.p (En.en (ent t.c p)))) X none none none none none none none, M⟩ = some (.ok (.p (sd (entO (pk b.c o.c t.c p)).1)) M) := fun M => by rw [← hX]; rfl
    have i1 : ∀ M, mIx (mVar 10) (mC (.int 1)) ⟨JL b o t B.length (some (.p (En.en p))) (some (.p (En.en (ent b.c p)))) (some (.p (En.en (ent o.c p)))) (some (.p (En.en (ent t.c p)))) X none none none none none none none, M⟩ = some (.ok (.p (En.en (entO (pk b.c o.c t.c p)).2)) M) := fun M => by rw [← hX]; rfl
    have c5 := ne_run (α := String) (by decide) _ (mC (.str (PySem.Str.ofString ""))) _ _ (entO (pk b.c o.c t.c p)).1 "" (i0 (LM B c acc2)) rfl
    rw [List.map_cons, List.map_cons, loopS_cons, g]
    dsimp only
    cases hk : pk b.c o.c t.c p with
    | none =>
      obtain ⟨y6, y7, y8, y9, y10, e⟩ := l_loop hy hz ps c acc2 (some (.p (En.en p))) (some (.p (En.en (ent b.c p)))) (some (.p (En.en (ent o.c p)))) (some (.p (En.en (ent t.c p)))) X nd'.2 (fun q hq => dj q (List.mem_cons_of_mem _ hq)) (by omega) (by omega)
      refine ⟨y6, y7, y8, y9, y10, ?_⟩
      rw [hk] at c5
      rw [pre _ ((nsif _ c5).trans (if_neg (by simp [entO])))]
      show loopS (gN 6) lStep _ ⟨JL b o t B.length (some (.p (En.en p))) (some (.p (En.en (ent b.c p)))) (some (.p (En.en (ent o.c p)))) (some (.p (En.en (ent t.c p)))) X none none none none none none none, LM B c acc2⟩ = _
      rw [e, mcF_cons, hk]
      rfl
    | some v =>
      obtain ⟨tx, w⟩ := v
      have tn : tx ≠ "" := pk_text hy hz hk
      have pn := put_new (v := (tx, w)) hp
      obtain ⟨y6, y7, y8, y9, y10, e⟩ := l_loop hy hz ps (c ++ [(p, (tx, w))]) acc2 (some (.p (En.en p))) (some (.p (En.en (ent b.c p)))) (some (.p (En.en (ent o.c p)))) (some (.p (En.en (ent t.c p)))) X nd'.2 (fun q hq hm => by
        unfold ckey at hm
        rw [List.map_append] at hm
        rcases List.mem_append.mp hm with h | h
        · exact dj q (List.mem_cons_of_mem _ hq) h
        · rw [List.map_cons, List.map_nil, List.mem_singleton] at h
          have h : q = p := h
          exact nd'.1 (h ▸ hq)) (by simp; omega) (by omega)
      refine ⟨y6, y7, y8, y9, y10, ?_⟩
      rw [hk] at c5 i0 i1
      have p1 := putM_f hfe (fun _ _ _ => rfl) c p (tx, w) (LM B c acc2) B.length (bget0 _ _) (by omega)
      rw [bset0] at p1
      have p2 := putM_f hfa (fun _ _ _ => rfl) c p (tx, w) (B ++ [enO (putC c p (tx, w)), auO c, .lst (acc2.map .p)]) (B.length + 1) (bget _ _ 1) (by omega)
      rw [bset] at p2
      have q1 := sput_run (mIx (mVar 10) (mC (.int 0))) (mVar 6) 3 B.length (JL b o t B.length (some (.p (En.en p))) (some (.p (En.en (ent b.c p)))) (some (.p (En.en (ent o.c p)))) (some (.p (En.en (ent t.c p)))) X none none none none none none none) _ _ (LM B c acc2) _ rfl (i0 _) rfl p1
      have q2 := sput_run (mIx (mVar 10) (mC (.int 1))) (mVar 6) 4 (B.length + 1) (JL b o t B.length (some (.p (En.en p))) (some (.p (En.en (ent b.c p)))) (some (.p (En.en (ent o.c p)))) (some (.p (En.en (ent t.c p)))) X none none none none none none none) _ _ (B ++ [enO (putC c p (tx, w)), auO c, .lst (acc2.map .p)]) _ rfl (i1 _) rfl p2
      rw [pre _ ((nsif _ c5).trans ((if_pos (by simp [entO, tn])).trans ((seq_nx _ _ _ _ q1).trans q2)))]
      show loopS (gN 6) lStep _ ⟨JL b o t B.length (some (.p (En.en p))) (some (.p (En.en (ent b.c p)))) (some (.p (En.en (ent o.c p)))) (some (.p (En.en (ent t.c p)))) X none none none none none none none, LM B (putC c p (tx, w)) acc2⟩ = _
      rw [pn, e, mcF_cons, hk, List.append_assoc]
/-! the turned grants -/
noncomputable def fStep : SM := (sSeq (sAsg (disp .lst (aCons (mIx (mIx (mIx (mVar 1) (mC (.int 5))) (mVar 14)) (mC (.int 4))) (aCons (mIx (mIx (mIx (mVar 2) (mC (.int 5))) (mVar 14)) (mC (.int 4))) aNil))) (gN 15))
  (sSeq (sAsg (mBin dGt (mCB dLen (aCons (mLc (mItD itL (mVar 15)) [18] (gN 18) (mBin dNe (mVar 18) (mIx (mIx (mIx (mVar 0) (mC (.int 5))) (mVar 14)) (mC (.int 4)))) (mVar 18)) aNil)) (mC (.int 0))) (gN 16))
  (sExpr (mMth "list" gApp (mVar 13) (aCons (mBin dCatT (mSlT (mIx (mIx (mVar 0) (mC (.int 5))) (mVar 14)) pNone (pSome (mC (.int 4)))) (disp .tup (aCons (mBin dNe (mIx (mIx (mIx (mVar 0) (mC (.int 5))) (mVar 14)) (mC (.int 4))) (mVar 16)) aNil))) aNil)))))
theorem fl_eq (g p q : Bool) : decide (g ≠ decide (0 < (([p, q].filter fun v => decide (v ≠ g)).length : Int))) = fl g p q := by
  cases g <;> cases p <;> cases q <;> rfl
theorem dcat_gr (g : Gr) (z : Bool) : dCatT (.tup [En.en g.a, En.en g.f, En.en g.t, .int g.b]) (.tup [.bl z]) = some (En.en (g.turn z)) := rfl
theorem slt_gr (m : EM) (l : List (Option DV)) (M : List O) (g : Gr) (h : m ⟨l, M⟩ = some (.ok (.p (En.en g)) M)) : mSlT m pNone (pSome (mC (.int 4))) ⟨l, M⟩ = some (.ok (.p (.tup [En.en g.a, En.en g.f, En.en g.t, .int g.b])) M) := by
  unfold mSlT
  rw [e_bnd, h]
  rfl
theorem lst2_run (a b : EM) (l : List (Option DV)) (M : List O) (x y : D) (h1 : a ⟨l, M⟩ = some (.ok (.p x) M)) (h2 : b ⟨l, M⟩ = some (.ok (.p y) M)) : disp .lst (aCons a (aCons b aNil)) ⟨l, M⟩ = some (.ok (.p (.lst [x, y])) M) := by
  simp [e_bnd, h1, h2]
theorem f_loop (C : List O) (hC : C.length = B.length + 3) (x6 x7 x8 x9 x10 x11 x12 : Option DV) : ∀ (gs os ts : List Gr) (i : Nat) (acc : List Gr) (x14 x15 x16 : Option DV), b.g.drop i = gs → o.g.drop i = os → t.g.drop i = ts → gs.length ≤ os.length → gs.length ≤ ts.length → acc.length + gs.length ≤ 10000 → ∃ y14 y15 y16, loopS (gN 14) fStep (DL.intsFrom (i : Int) gs.length) ⟨JL b o t B.length x6 x7 x8 x9 x10 x11 x12 (some (.o (B.length + 3))) x14 x15 x16 none, C ++ [.lst ((acc.map En.en).map .p)]⟩ = some (.nx, ⟨JL b o t B.length x6 x7 x8 x9 x10 x11 x12 (some (.o (B.length + 3))) y14 y15 y16 none, C ++ [.lst (((acc ++ flp gs os ts).map En.en).map .p)]⟩)
  | [], os, ts, i, acc, x14, x15, x16, _, _, _, _, _, _ => ⟨x14, x15, x16, by
    have : flp [] os ts = [] := rfl
    rw [this, List.append_nil]; rfl⟩
  | g :: gs, [], _, i, acc, x14, x15, x16, _, _, _, h, _, _ => by simp at h
  | g :: gs, _ :: _, [], i, acc, x14, x15, x16, _, _, _, _, h, _ => by simp at h
  | g :: gs, p :: os, q :: ts, i, acc, x14, x15, x16, hb, ho, ht, l1, l2, hl => by
    rw [List.length_cons, List.length_cons] at l1 l2
    rw [List.length_cons] at hl
    let tv : Bool := decide (0 < (([p.x, q.x].filter fun v => decide (v ≠ g.x)).length : Int))
    obtain ⟨y14, y15, y16, e⟩ := f_loop C hC x6 x7 x8 x9 x10 x11 x12 gs os ts (i + 1) (acc ++ [g.turn (fl g.x p.x q.x)]) (some (.p (.int i))) (some (.p (En.en [p.x, q.x]))) (some (.p (.bl tv))) (drop_next hb) (drop_next ho) (drop_next ht) (by omega) (by omega) (by simp; omega)
    refine ⟨y14, y15, y16, ?_⟩
    generalize hM : C ++ [.lst ((acc.map En.en).map .p)] = M
    rw [List.length_cons, intsS, loopS_cons]
    have gg : gN 14 (.p (.int (i : Nat))) ⟨JL b o t B.length x6 x7 x8 x9 x10 x11 x12 (some (.o (B.length + 3))) x14 x15 x16 none, M⟩ = some ⟨JL b o t B.length x6 x7 x8 x9 x10 x11 x12 (some (.o (B.length + 3))) (some (.p (.int i))) x15 x16 none, M⟩ := rfl
    rw [gg]
    dsimp only
    have n0 : ∀ x15 x16 x18, mIx (mIx (mVar 0) (mC (.int 5))) (mVar 14) ⟨(JL b o t B.length x6 x7 x8 x9 x10 x11 x12 (some (.o (B.length + 3))) (some (.p (.int i))) x15 x16 none).set 18 x18, M⟩ = some (.ok (.p (En.en g)) M) := fun _ _ _ => ix_run _ _ _ _ _ _ _ (ix5 b 0 _ _ rfl) rfl (at_en b.g i g (drop_get hb))
    have n1 : mIx (mIx (mIx (mVar 1) (mC (.int 5))) (mVar 14)) (mC (.int 4)) ⟨JL b o t B.length x6 x7 x8 x9 x10 x11 x12 (some (.o (B.length + 3))) (some (.p (.int i))) x15 x16 none, M⟩ = some (.ok (.p (.bl p.x)) M) := ix_run _ _ _ _ _ _ _ (ix_run _ _ _ _ _ _ _ (ix5 o 1 _ _ rfl) rfl (at_en o.g i p (drop_get ho))) rfl (gr_x p)
    have n2 : mIx (mIx (mIx (mVar 2) (mC (.int 5))) (mVar 14)) (mC (.int 4)) ⟨JL b o t B.length x6 x7 x8 x9 x10 x11 x12 (some (.o (B.length + 3))) (some (.p (.int i))) x15 x16 none, M⟩ = some (.ok (.p (.bl q.x)) M) := ix_run _ _ _ _ _ _ _ (ix_run _ _ _ _ _ _ _ (ix5 t 2 _ _ rfl) rfl (at_en t.g i q (drop_get ht))) rfl (gr_x q)
    have nx : ∀ x15 x16 x18, mIx (mIx (mIx (mVar 0) (mC (.int 5))) (mVar 14)) (mC (.int 4)) ⟨(JL b o t B.length x6 x7 x8 x9 x10 x11 x12 (some (.o (B.length + 3))) (some (.p (.int i))) x15 x16 none).set 18 x18, M⟩ = some (.ok (.p (.bl g.x)) M) := fun _ _ _ => ix_run _ _ _ _ _ _ _ (n0 _ _ _) rfl (gr_x g)
    have s1 := asg_run _ (gN 15) _ _ _ _ ⟨JL b o t B.length x6 x7 x8 x9 x10 x11 x12 (some (.o (B.length + 3))) (some (.p (.int i))) (some (.p (En.en [p.x, q.x]))) x16 none, M⟩ (lst2_run _ _ _ _ _ _ n1 n2) rfl
    have fc := filter_comp (l := JL b o t B.length x6 x7 x8 x9 x10 x11 x12 (some (.o (B.length + 3))) (some (.p (.int i))) (some (.p (En.en [p.x, q.x]))) x16 none) (g := gN 18) (t := mBin dNe (mVar 18) (mIx (mIx (mIx (mVar 0) (mC (.int 5))) (mVar 14)) (mC (.int 4)))) (e := mVar 18) (M := M) (fun v : Bool => v) (fun v => decide (v ≠ g.x)) [p.x, q.x] (fun v _ => ⟨⟨(JL b o t B.length x6 x7 x8 x9 x10 x11 x12 (some (.o (B.length + 3))) (some (.p (.int i))) (some (.p (En.en [p.x, q.x]))) x16 none).set 18 (some (.p (En.en v))), M⟩, rfl, rfl, ne_run (α := Bool) (by decide) _ _ _ _ v g.x rfl (nx _ _ _), rfl⟩) (show 2 ≤ 1000000 by decide)
    rw [List.map_id'] at fc
    have lc : mLc (mItD itL (mVar 15)) [18] (gN 18) (mBin dNe (mVar 18) (mIx (mIx (mIx (mVar 0) (mC (.int 5))) (mVar 14)) (mC (.int 4)))) (mVar 18) ⟨JL b o t B.length x6 x7 x8 x9 x10 x11 x12 (some (.o (B.length + 3))) (some (.p (.int i))) (some (.p (En.en [p.x, q.x]))) x16 none, M⟩ = some (.ok (.p (En.en ([p.x, q.x].filter fun v => decide (v ≠ g.x)))) M) := lcs _ _ _ _ _ ⟨JL b o t B.length x6 x7 x8 x9 x10 x11 x12 (some (.o (B.length + 3))) (some (.p (.int i))) (some (.p (En.en [p.x, q.x]))) x16 none, M⟩ (([p.x, q.x].map En.en).map .p) _ rfl fc
    have s2 := asg_run _ (gN 16) _ _ _ _ ⟨JL b o t B.length x6 x7 x8 x9 x10 x11 x12 (some (.o (B.length + 3))) (some (.p (.int i))) (some (.p (En.en [p.x, q.x]))) (some (.p (.bl tv))) none, M⟩ (bin_run dGt _ (mC (.int 0)) _ _ _ (.int 0) (.bl tv) (len_of _ _ _ _ lc) rfl rfl) rfl
    have w1 : mBin dNe (mIx (mIx (mIx (mVar 0) (mC (.int 5))) (mVar 14)) (mC (.int 4))) (mVar 16) ⟨JL b o t B.length x6 x7 x8 x9 x10 x11 x12 (some (.o (B.length + 3))) (some (.p (.int i))) (some (.p (En.en [p.x, q.x]))) (some (.p (.bl tv))) none, M⟩ = some (.ok (.p (.bl (decide (g.x ≠ tv)))) M) := ne_run (α := Bool) (by decide) _ _ _ _ g.x tv (nx _ _ none) rfl
    have w2 := bin_run dCatT _ _ _ _ _ _ _ (slt_gr _ _ _ g (n0 (some (.p (En.en [p.x, q.x]))) (some (.p (.bl tv))) none)) (tup1_run _ _ _ _ w1) (dcat_gr g _)
    have hm : M[B.length + 3]? = some (.lst ((acc.map En.en).map .p)) := by rw [← hM, ← hC]; simp
    have s3 := appM_run _ 13 (B.length + 3) _ M (acc.map En.en) _ rfl hm w2 (by rw [List.length_map]; omega)
    have st : fStep ⟨JL b o t B.length x6 x7 x8 x9 x10 x11 x12 (some (.o (B.length + 3))) (some (.p (.int i))) x15 x16 none, M⟩ = _ := (seq_nx _ _ _ _ s1).trans ((seq_nx _ _ _ _ s2).trans s3)
    rw [st]
    dsimp only
    have hx : M.set (B.length + 3) (.lst ((acc.map (En.en : Gr → D) ++ [En.en (g.turn (decide (g.x ≠ tv)))]).map .p)) = C ++ [.lst (((acc ++ [g.turn (fl g.x p.x q.x)]).map En.en).map .p)] := by
      have := fl_eq g.x p.x q.x
      have : decide (g.x ≠ tv) = fl g.x p.x q.x := this
      rw [this, ← hM, ← hC]
      simp
    rw [hx]
    have e' : loopS (gN 14) fStep (DL.intsFrom ((i : Int) + 1) gs.length) _ = _ := e
    refine Eq.trans e' ?_
    show _ = some (Fl.nx, (⟨_, C ++ [.lst (((acc ++ (g.turn (fl g.x p.x q.x) :: flp gs os ts)).map En.en).map .p)]⟩ : S))
    rw [List.append_assoc]; rfl
end
end Law
namespace Law
open PySem L2 DL
theorem dO_run (l : List (Option DV)) (M : List O) : dispO aNil ⟨l, M⟩ = some (.ok (.o M.length) (M ++ [.lst []])) := by
  rw [e_dispO, e_bnd, e_aNil]
  exact if_pos (Nat.zero_le _)
section
variable (b o t : Bk) {B : List O}
theorem l_merged_eq {Ps : List Addr} (hB : TOk Ps B) (h : M3 b o t) : m_l_merged Ps [.p b.d, .p o.d, .p t.d] B = some (.ok (.p (mRes b o t)) B) := by
  have hk := three_mem (P := fun c : Bk => Kys c.c) h.kb h.ko h.kt
  have pl := h.pl
  have hg1 := h.g1
  have hg2 := h.g2
  have l1 := h.l1
  have cl : (cnC b o t).length ≤ 5 := by
    unfold cnC
    rw [List.length_map]
    exact Nat.le_trans (List.length_filter_le _ _) pl
  suffices hs : ∃ s R, b_l_merged Ps ⟨slotsOf 19 [.p b.d, .p o.d, .p t.d], B⟩ = some (.rt (.p (mRes b o t)), s) ∧ s.m = B ++ R by
    obtain ⟨s, R, hs, hm⟩ := hs
    unfold m_l_merged
    rw [e_runB, hs]
    show some (Rs.ok _ (dropM B.length _ s.m)) = _
    rw [hm, dropM_app rfl hB.c]
  have s0 : sPar3 3 4 5 (aCons (mDnew (.dT [])) (aCons (mDnew (.dT [])) (aCons (dispO aNil) aNil))) ⟨slotsOf 19 [.p b.d, .p o.d, .p t.d], B⟩ = some (.nx, ⟨JL b o t B.length none none none none none none none none none none none none, LM B [] []⟩) := by
    rw [e_par3, e_lift, e_aCons, e_bnd, e_dnew]
    dsimp only
    rw [e_bnd, e_aCons, e_bnd, e_dnew]
    dsimp only
    rw [e_bnd, e_aCons, e_bnd, dO_run]
    dsimp only
    rw [e_bnd, e_aNil]
    dsimp only
    have e1 : (B ++ [O.dT []]).length = B.length + 1 := by simp
    have e2 : (B ++ [O.dT []] ++ [O.dT []]).length = B.length + 2 := by simp
    have e3 : B ++ [O.dT []] ++ [O.dT []] ++ [O.lst []] = LM B [] [] := by
      rw [List.append_assoc, List.append_assoc]; rfl
    rw [e1, e2, e3]
    rfl
  unfold b_l_merged
  rw [seq_nx _ _ _ _ s0]
  unfold b_l_merged_1
  obtain ⟨y6, y7, y8, y9, y10, e⟩ := l_loop b o t (B := B) h.ho h.ht (plc [b, o, t]) [] [] none none none none none (plc_nd _) (fun _ _ h => (nomatch h)) (by simp; omega) (by simp; omega)
  rw [List.nil_append, List.nil_append] at e
  have e : loopS (gN 6) lStep _ _ = some (.nx, ⟨JL b o t B.length y6 y7 y8 y9 y10 none none none none none none none, LM B (mgC b o t) (cnC b o t)⟩) := e
  have hB0 : LM B [] [] = B ++ [enO [], auO [], .lst []] := rfl
  have it : mItD itL (mCallB 1 (m_l_spots Ps) (aCons (disp .lst (aCons (mVar 0) (aCons (mVar 1) (aCons (mVar 2) aNil)))) aNil)) ⟨JL b o t B.length none none none none none none none none none none none none, LM B [] []⟩ = some (.ok (((plc [b, o, t]).map En.en).map .p) (LM B [] [])) := by
    have hB' : TOk Ps (LM B [] []) := by
      have h0 : 0 < B.length := (List.getElem?_eq_some_iff.mp hB.t).1
      refine ⟨by rw [List.getElem?_append_left h0]; exact hB.t, ?_⟩
      rw [List.all_append, Bool.and_eq_true]
      refine ⟨List.all_eq_true.mpr fun o ho => closed_mono (by simp) o (List.all_eq_true.mp hB.c o ho), rfl⟩
    rw [e_itD, e_bnd, cB1 (m_l_spots Ps) _ _ (LM B [] []) (LM B [] []) (LM B [] []) (.p (.lst ([b, o, t].map Bk.d))) _ rfl (l_spots_eq hB' [b, o, t] hk)]
    rfl
  suffices hs : ∃ s R, b_l_merged_2 Ps ⟨JL b o t B.length y6 y7 y8 y9 y10 none none none none none none none, LM B (mgC b o t) (cnC b o t)⟩ = some (.rt (.p (mRes b o t)), s) ∧ s.m = B ++ R by
    obtain ⟨s, R, hs, hm⟩ := hs
    exact ⟨s, R, seq_for _ _ _ _ _ _ _ _ it e hs, hm⟩
  unfold b_l_merged_2
  rw [seq_asg _ (gN 11) _ _ ⟨JL b o t B.length y6 y7 y8 y9 y10 (some (.p (En.en o.r))) none none none none none none, LM B (mgC b o t) (cnC b o t)⟩ _ _ (ix4 o 1 _ _ rfl) rfl]
  unfold b_l_merged_3
  have c3 := eq_runE dpR (mVar 11) (mIx (mVar 0) (mC (.int 4))) (JL b o t B.length y6 y7 y8 y9 y10 (some (.p (En.en o.r))) none none none none none none) (LM B (mgC b o t) (cnC b o t)) o.r b.r rfl (ix4 b 0 _ _ rfl)
  have s3 : sIf (mBin dEq (mVar 11) (mIx (mVar 0) (mC (.int 4)))) (sAsg (mIx (mVar 2) (mC (.int 4))) (gN 11)) sNil ⟨JL b o t B.length y6 y7 y8 y9 y10 (some (.p (En.en o.r))) none none none none none none, LM B (mgC b o t) (cnC b o t)⟩ = some (.nx, ⟨JL b o t B.length y6 y7 y8 y9 y10 (some (.p (En.en (mR b o t)))) none none none none none none, LM B (mgC b o t) (cnC b o t)⟩) := by
    rw [nsif _ c3]
    unfold mR
    by_cases q : o.r = b.r
    · rw [decide_eq_true q, if_pos rfl, if_pos q]
      exact asg_run _ _ _ _ _ _ _ (ix4 t 2 _ _ rfl) rfl
    · rw [decide_eq_false q, if_neg Bool.false_ne_true, if_neg q]; rfl
  rw [seq_nx _ _ _ _ s3]
  unfold b_l_merged_4
  have c4 := and2 _ _ _ _ _ _ (ne_run dpR (mIx (mVar 1) (mC (.int 4))) (mIx (mVar 0) (mC (.int 4))) (JL b o t B.length y6 y7 y8 y9 y10 (some (.p (En.en (mR b o t)))) none none none none none none) (LM B (mgC b o t) (cnC b o t)) o.r b.r (ix4 o 1 _ _ rfl) (ix4 b 0 _ _ rfl)) (and2 _ _ _ _ _ _ (ne_run dpR _ _ _ _ t.r b.r (ix4 t 2 _ _ rfl) (ix4 b 0 _ _ rfl)) (ne_run dpR _ _ _ _ o.r t.r (ix4 o 1 _ _ rfl) (ix4 t 2 _ _ rfl)))
  have ec : (decide (o.r ≠ b.r) && (decide (t.r ≠ b.r) && decide (o.r ≠ t.r))) = cr b o t := by
    unfold cr
    rw [Bool.eq_iff_iff, Bool.and_eq_true, Bool.and_eq_true]
    simp only [decide_eq_true_eq]
    exact ⟨fun ⟨h1, h2, h3⟩ => ⟨fun e => h1 e.symm, fun e => h2 e.symm, h3⟩, fun ⟨h1, h2, h3⟩ => ⟨fun e => h1 e.symm, fun e => h2 e.symm, h3⟩⟩
  rw [ec] at c4
  have s4 : sIf (mAnd (mBin dNe (mIx (mVar 1) (mC (.int 4))) (mIx (mVar 0) (mC (.int 4)))) (mAnd (mBin dNe (mIx (mVar 2) (mC (.int 4))) (mIx (mVar 0) (mC (.int 4)))) (mBin dNe (mIx (mVar 1) (mC (.int 4))) (mIx (mVar 2) (mC (.int 4)))))) (sExpr (mMth "list" gApp (mVar 5) (aCons (disp .tup (aCons (mC (.str (PySem.Str.ofString "rules"))) (aCons (mC .non) aNil))) aNil))) sNil ⟨JL b o t B.length y6 y7 y8 y9 y10 (some (.p (En.en (mR b o t)))) none none none none none none, LM B (mgC b o t) (cnC b o t)⟩ = some (.nx, ⟨JL b o t B.length y6 y7 y8 y9 y10 (some (.p (En.en (mR b o t)))) none none none none none none, LM B (mgC b o t) (cnf b o t)⟩) := by
    rw [nsif _ c4]
    unfold cnf
    split
    · refine (appM_run _ 5 (B.length + 2) _ _ (cnC b o t) rulesD rfl (bget _ _ 2) rfl (by omega)).trans ?_
      rw [bset]; rfl
    · rw [List.append_nil]; rfl
  rw [seq_nx _ _ _ _ s4]
  unfold b_l_merged_5
  have ln : mCB dLen (aCons (mVar 5) aNil) ⟨JL b o t B.length y6 y7 y8 y9 y10 (some (.p (En.en (mR b o t)))) none none none none none none, LM B (mgC b o t) (cnf b o t)⟩ = some (.ok (.p (.int ((cnf b o t).length : Int))) (LM B (mgC b o t) (cnf b o t))) := by
    have : (LM B (mgC b o t) (cnf b o t))[B.length + 2]? = some (.lst ((cnf b o t).map .p)) := bget _ _ 2
    rw [e_cb, e_bnd, e_aCons, e_bnd]
    show (match dLen (LM B (mgC b o t) (cnf b o t)) [.o (B.length + 2)] with | some d => some (Rs.ok (DV.p d) (LM B (mgC b o t) (cnf b o t))) | none => none) = _
    rw [e_len, e_leno, this, e_lenO, List.length_map]
    rfl
  have c5 := bin_run dGt _ (mC (.int 0)) _ _ _ (.int 0) (.bl (decide ((0 : Int) < ((cnf b o t).length : Int)))) ln rfl rfl
  by_cases hc : cnf b o t = []
  · have hr : mRes b o t = .tup [(mB b o t).d, .lst []] := by unfold mRes; rw [if_pos hc]
    rw [hr]
    rw [hc] at c5 ⊢
    have s5 : sIf (mBin dGt (mCB dLen (aCons (mVar 5) aNil)) (mC (.int 0))) (sRet (disp .tup (aCons (mC .non) (aCons (mFrz (mVar 5)) aNil)))) sNil ⟨JL b o t B.length y6 y7 y8 y9 y10 (some (.p (En.en (mR b o t)))) none none none none none none, LM B (mgC b o t) []⟩ = some (.nx, ⟨JL b o t B.length y6 y7 y8 y9 y10 (some (.p (En.en (mR b o t)))) none none none none none none, LM B (mgC b o t) []⟩) := (nsif _ c5).trans (if_neg (by simp))
    rw [seq_nx _ _ _ _ s5]
    unfold b_l_merged_6
    rw [seq_asg _ (gN 12) _ _ ⟨JL b o t B.length y6 y7 y8 y9 y10 (some (.p (En.en (mR b o t)))) (some (.p (.int b.g.length))) none none none none none, LM B (mgC b o t) []⟩ _ _ (len_of _ _ _ b.g (ix5 b 0 _ _ rfl)) rfl]
    unfold b_l_merged_7
    generalize hCC : LM B (mgC b o t) [] = C
    have hC : C.length = B.length + 3 := by rw [← hCC]; simp
    have a7 : dispO aNil ⟨JL b o t B.length y6 y7 y8 y9 y10 (some (.p (En.en (mR b o t)))) (some (.p (.int b.g.length))) none none none none none, C⟩ = some (.ok (.o C.length) (C ++ [.lst []])) := by
      rw [e_dispO, e_bnd, e_aNil]
      exact if_pos (Nat.zero_le _)
    rw [seq_asg _ (gN 13) _ _ ⟨JL b o t B.length y6 y7 y8 y9 y10 (some (.p (En.en (mR b o t)))) (some (.p (.int b.g.length))) (some (.o (B.length + 3))) none none none none, C ++ [.lst []]⟩ _ _ a7 (by rw [hC]; rfl)]
    unfold b_l_merged_8
    obtain ⟨y14, y15, y16, e8⟩ := f_loop b o t (B := B) C hC y6 y7 y8 y9 y10 (some (.p (En.en (mR b o t)))) (some (.p (.int b.g.length))) b.g o.g t.g 0 [] none none none rfl rfl rfl h.l1 h.l2 (by simp; omega)
    rw [List.nil_append] at e8
    have ml := more_len (o.g.drop b.g.length) (t.g.drop b.g.length)
    rw [List.length_drop, List.length_drop] at ml
    have fll := flp_len b.g o.g t.g h.l1 h.l2
    have hG : mG b.g o.g t.g = flp b.g o.g t.g ++ more (o.g.drop b.g.length) (t.g.drop b.g.length) := rfl
    generalize hF : flp b.g o.g t.g = F at *
    have it8 : mRng rng1D (aCons (mVar 12) aNil) ⟨JL b o t B.length y6 y7 y8 y9 y10 (some (.p (En.en (mR b o t)))) (some (.p (.int b.g.length))) (some (.o (B.length + 3))) none none none none, C ++ [.lst []]⟩ = some (.ok (DL.intsFrom 0 b.g.length) (C ++ [.lst []])) := by
      have := rngT (mVar 12) (JL b o t B.length y6 y7 y8 y9 y10 (some (.p (En.en (mR b o t)))) (some (.p (.int b.g.length))) (some (.o (B.length + 3))) none none none none) (C ++ [.lst []]) _ (b.g.length : Int) rfl (by omega) (by omega)
      rw [Int.toNat_natCast] at this
      exact this
    suffices hs : ∃ s R, b_l_merged_9 Ps ⟨JL b o t B.length y6 y7 y8 y9 y10 (some (.p (En.en (mR b o t)))) (some (.p (.int b.g.length))) (some (.o (B.length + 3))) y14 y15 y16 none, C ++ [.lst ((F.map En.en).map .p)]⟩ = some (.rt (.p (.tup [(mB b o t).d, .lst []])), s) ∧ s.m = B ++ R by
      obtain ⟨s, R, hs, hm⟩ := hs
      exact ⟨s, R, seq_for _ _ _ _ _ _ _ _ it8 e8 hs, hm⟩
    generalize hMM : C ++ [O.lst ((F.map En.en).map .p)] = M
    unfold b_l_merged_9
    have r1 := sle_run _ _ _ _ _ _ _ _ _ (ix5 o 1 (JL b o t B.length y6 y7 y8 y9 y10 (some (.p (En.en (mR b o t)))) (some (.p (.int b.g.length))) (some (.o (B.length + 3))) y14 y15 y16 none) M rfl) (psome_run (mVar 12) _ _ rfl) (show pNone _ = _ from rfl) (cutF o.g b.g.length)
    have r2 := sle_run _ _ _ _ _ _ _ _ _ (ix5 t 2 (JL b o t B.length y6 y7 y8 y9 y10 (some (.p (En.en (mR b o t)))) (some (.p (.int b.g.length))) (some (.o (B.length + 3))) y14 y15 y16 none) M rfl) (psome_run (mVar 12) _ _ rfl) (show pNone _ = _ from rfl) (cutF t.g b.g.length)
    have r3 := bin_run dAdd2 _ _ _ _ _ _ _ r1 r2 (add_en _ _ (by rw [List.length_drop, List.length_drop]; omega))
    rw [seq_asg _ (gN 17) _ _ ⟨JL b o t B.length y6 y7 y8 y9 y10 (some (.p (En.en (mR b o t)))) (some (.p (.int b.g.length))) (some (.o (B.length + 3))) y14 y15 y16 (some (.p (En.en (o.g.drop b.g.length ++ t.g.drop b.g.length)))), M⟩ _ _ r3 rfl]
    unfold b_l_merged_10
    have c := and2 _ _ _ _ _ _ (bin_run dGt _ (mVar 12) _ _ _ (.int b.g.length) _ (len_of _ _ _ o.g (ix5 o 1 (JL b o t B.length y6 y7 y8 y9 y10 (some (.p (En.en (mR b o t)))) (some (.p (.int b.g.length))) (some (.o (B.length + 3))) y14 y15 y16 (some (.p (En.en (o.g.drop b.g.length ++ t.g.drop b.g.length))))) M rfl)) rfl (gt_lens _ _)) (bin_run dGt _ (mVar 12) _ _ _ (.int b.g.length) _ (len_of _ _ _ t.g (ix5 t 2 _ M rfl)) rfl (gt_lens _ _))
    rw [both_more] at c
    have s10 : sIf (mAnd (mBin dGt (mCB dLen (aCons (mIx (mVar 1) (mC (.int 5))) aNil)) (mVar 12)) (mBin dGt (mCB dLen (aCons (mIx (mVar 2) (mC (.int 5))) aNil)) (mVar 12))) (sAsg (mCB (g1 dSort) (aCons (mVar 17) aNil)) (gN 17)) sNil ⟨JL b o t B.length y6 y7 y8 y9 y10 (some (.p (En.en (mR b o t)))) (some (.p (.int b.g.length))) (some (.o (B.length + 3))) y14 y15 y16 (some (.p (En.en (o.g.drop b.g.length ++ t.g.drop b.g.length)))), M⟩ = some (.nx, ⟨JL b o t B.length y6 y7 y8 y9 y10 (some (.p (En.en (mR b o t)))) (some (.p (.int b.g.length))) (some (.o (B.length + 3))) y14 y15 y16 (some (.p (En.en (more (o.g.drop b.g.length) (t.g.drop b.g.length))))), M⟩) := by
      rw [nsif _ c, ← more_if]
      split
      · exact asg_run _ _ _ _ _ _ _ (cb1_run _ _ _ _ _ _ rfl (dSort_gr _)) rfl
      · rfl
    rw [seq_nx _ _ _ _ s10]
    unfold b_l_merged_11
    have hM2 : M = B ++ [enO (mgC b o t), auO (mgC b o t), .lst [], .lst ((F.map En.en).map .p)] := by
      rw [← hMM, ← hCC, List.append_assoc]; rfl
    subst hM2
    have e3 := frzD_var 3 B.length (JL b o t B.length y6 y7 y8 y9 y10 (some (.p (En.en (mR b o t)))) (some (.p (.int b.g.length))) (some (.o (B.length + 3))) y14 y15 y16 (some (.p (En.en (more (o.g.drop b.g.length) (t.g.drop b.g.length)))))) (B ++ [enO (mgC b o t), auO (mgC b o t), .lst [], .lst ((F.map En.en).map .p)]) _ _ rfl (bget0 _ _) (frz_f hfe (mgC b o t))
    rw [bset0] at e3
    have e4 := frzD_var 4 (B.length + 1) (JL b o t B.length y6 y7 y8 y9 y10 (some (.p (En.en (mR b o t)))) (some (.p (.int b.g.length))) (some (.o (B.length + 3))) y14 y15 y16 (some (.p (En.en (more (o.g.drop b.g.length) (t.g.drop b.g.length)))))) (B ++ [.gone, auO (mgC b o t), .lst [], .lst ((F.map En.en).map .p)]) _ _ rfl (bget _ _ 1) (frz_f hfa (mgC b o t))
    rw [bset] at e4
    have e13 := frz_run 13 (B.length + 3) (JL b o t B.length y6 y7 y8 y9 y10 (some (.p (En.en (mR b o t)))) (some (.p (.int b.g.length))) (some (.o (B.length + 3))) y14 y15 y16 (some (.p (En.en (more (o.g.drop b.g.length) (t.g.drop b.g.length)))))) (B ++ [.gone, .gone, .lst [], .lst ((F.map En.en).map .p)]) (F.map En.en) rfl (bget _ _ 3)
    rw [bset] at e13
    have e14 := bin2 dAdd2 _ (mVar 17) _ _ _ _ _ (En.en (more (o.g.drop b.g.length) (t.g.drop b.g.length))) (En.en (mG b.g o.g t.g)) e13 rfl (by rw [hG]; exact add_en F _ (by omega))
    have e7 := tup6_run (mC (.str (PySem.Str.ofString "book"))) (mIx (mVar 0) (mC (.int 1))) _ _ (mVar 11) _ _ _ _ _ _ _ _ _ _ (.int b.u) _ _ (En.en (mR b o t)) _ rfl (ix_book b 0 _ _ 1 _ rfl rfl) e3 e4 rfl e14
    exact ⟨_, _, ret_run _ _ _ _ (t2 _ _ _ _ _ _ _ _ e7 rfl), rfl⟩
  · have hr : mRes b o t = .tup [.non, .lst (cnf b o t)] := by unfold mRes; rw [if_neg hc]
    rw [hr]
    have hp : 0 < (cnf b o t).length := List.length_pos_iff.mpr hc
    have e5 := frz_run 5 (B.length + 2) (JL b o t B.length y6 y7 y8 y9 y10 (some (.p (En.en (mR b o t)))) none none none none none none) (LM B (mgC b o t) (cnf b o t)) (cnf b o t) rfl (bget _ _ 2)
    rw [bset] at e5
    rw [e_seq, nsif _ c5, if_pos (by simp; omega), ret_run _ _ _ _ (t2 _ _ _ _ _ _ _ _ rfl e5)]
    exact ⟨_, _, rfl, rfl⟩
end
end Law
namespace Law
open PySem L2 DL
/-! ### the same books -/
mutual
theorem sameT_refl : ∀ d : D, okD d = true → sameT d d = true
  | .non, _ => rfl
  | .bl b, _ => by show (b == b) = true; simp
  | .int i, _ => by show (i == i) = true; simp
  | .str s, _ => by show (s == s) = true; simp
  | .lst xs, h => sameTs_refl xs h
  | .tup xs, h => sameTs_refl xs h
  | .klst xs, h => sameTs_refl xs h
  | .ktup xs, h => sameTs_refl xs h
  | .dK _, h => by cases h
  | .dT _, h => by cases h
  | .fn _, h => by cases h
  | .clo _ _, h => by cases h
  | .scr _, h => by cases h
  | .ty _, h => by cases h
  | .rng _ _, h => by cases h
theorem sameTs_refl : ∀ d : List D, okDs d = true → sameTs d d = true
  | [], _ => rfl
  | x :: xs, h => by
    have h : (okD x && okDs xs) = true := h
    rw [Bool.and_eq_true] at h
    show (sameT x x && sameTs xs xs) = true
    rw [sameT_refl x h.1, sameTs_refl xs h.2]; rfl
end
mutual
theorem depT_le : ∀ d : D, okD d = true → depT d ≤ 2 * depD d
  | .non, _ => Nat.zero_le _
  | .bl b, _ => Nat.zero_le _
  | .int i, _ => Nat.zero_le _
  | .str s, _ => Nat.zero_le _
  | .lst xs, h => by have := depTs_le xs h; show depTs xs + 2 ≤ 2 * (depDs xs + 1); omega
  | .tup xs, h => by have := depTs_le xs h; show depTs xs + 2 ≤ 2 * (depDs xs + 1); omega
  | .klst xs, h => by have := depTs_le xs h; show depTs xs + 2 ≤ 2 * (depDs xs + 1); omega
  | .ktup xs, h => by have := depTs_le xs h; show depTs xs + 2 ≤ 2 * (depDs xs + 1); omega
  | .dK _, h => by cases h
  | .dT _, h => by cases h
  | .fn _, h => by cases h
  | .clo _ _, h => by cases h
  | .scr _, h => by cases h
  | .ty _, h => by cases h
  | .rng _ _, h => by cases h
theorem depTs_le : ∀ d : List D, okDs d = true → depTs d ≤ 2 * depDs d
  | [], _ => Nat.zero_le _
  | x :: xs, h => by
    have h : (okD x && okDs xs) = true := h
    rw [Bool.and_eq_true] at h
    have h1 := depT_le x h.1
    have h2 := depTs_le xs h.2
    show max (depT x) (depTs xs) ≤ 2 * max (depD x) (depDs xs)
    omega
end
theorem same_en {α : Type} [DecidableEq α] [En α] (x : α) : sameT (En.en x) (En.en x) = true := sameT_refl _ (En.ok x)
theorem dep_en {α : Type} [DecidableEq α] [En α] (x : α) : depT (En.en x) ≤ 2 * En.dp α := Nat.le_trans (depT_le _ (En.ok x)) (Nat.mul_le_mul_left 2 (En.dpl x))
/-- a dict's lookups -/
theorem valO_f {α : Type} (f : Sp × (String × Int) → List Key × α) (hf : ∀ q, (f q).1 = spK q.1) (c : Cls) (p : Sp) : valO (c.map f) (spK p) = (c.find? fun q => decide (q.1 = p)).map fun q => (f q).2 := by
  unfold valO
  rw [List.find?_map]
  have e : ((fun kv : List Key × α => decide (kv.1 = spK p)) ∘ f) = fun q => decide (q.1 = p) := by
    funext q
    have h : (f q).1 = spK p ↔ q.1 = p := by rw [hf, spK_iff]
    show decide ((f q).1 = spK p) = decide (q.1 = p)
    simp only [h]
  rw [e, Option.map_map]
  rfl
theorem look_self {c : Cls} (nd : (ckey c).Nodup) {q : Sp × (String × Int)} (h : q ∈ c) : look c q.1 = some q.2 := by
  unfold look
  induction c with
  | nil => cases h
  | cons a c ih =>
    have nd' := List.nodup_cons.mp (show ((a.1 :: ckey c)).Nodup from nd)
    rw [List.find?_cons]
    by_cases e : a.1 = q.1
    · rw [decide_eq_true e]
      rcases List.mem_cons.mp h with rfl | h
      · rfl
      · exact absurd (e ▸ List.mem_map_of_mem (f := (·.1)) h) nd'.1
    · rw [decide_eq_false e]
      rcases List.mem_cons.mp h with rfl | h
      · exact absurd rfl e
      · exact ih nd'.2 h
theorem sameTk_f (f : Sp × (String × Int) → List Key × D) (hf : ∀ q, (f q).1 = spK q.1) (hv : ∀ (p q : Sp) v, (f (p, v)).2 = (f (q, v)).2) (hs : ∀ q, sameT (f q).2 (f q).2 = true) (d : Cls) : ∀ c : Cls, (∀ q ∈ c, look d q.1 = some q.2) → sameTk (c.map f) (d.map f) = true
  | [], _ => rfl
  | q :: c, h => by
    have ih := sameTk_f f hf hv hs d c fun a ha => h a (List.mem_cons_of_mem _ ha)
    have hq := h q List.mem_cons_self
    have e : valO (d.map f) (f q).1 = some (f q).2 := by
      rw [hf, valO_f f hf]
      unfold look at hq
      cases z : d.find? fun a => decide (a.1 = q.1) with
      | none => rw [z] at hq; cases hq
      | some a =>
        rw [z] at hq
        have hq : a.2 = q.2 := by simpa using hq
        show some (f a).2 = some (f q).2
        rw [show a = (a.1, a.2) from rfl, hq, hv a.1 q.1]
    show ((match valO (d.map f) (f q).1 with | some e => sameT (f q).2 e | none => false) && sameTk (c.map f) (d.map f)) = true
    rw [e, ih, Bool.and_true]
    exact hs q
theorem str_ok (q : Sp × (String × Int)) : sameT (enK q).2 (enK q).2 = true := by show (Str.ofString q.2.1 == Str.ofString q.2.1) = true; simp
theorem int_ok (q : Sp × (String × Int)) : sameT (auK q).2 (auK q).2 = true := by show (q.2.2 == q.2.2) = true; simp
structure Same (x y : Bk) : Prop where
  u : x.u = y.u
  r : x.r = y.r
  g : x.g = y.g
  l : x.c.length = y.c.length
  v : ∀ q ∈ x.c, look y.c q.1 = some q.2
theorem Same.refl {x : Bk} (h : Kys x.c) : Same x x := ⟨rfl, rfl, rfl, rfl, fun _ hq => look_self h.nd hq⟩
theorem same_bk {x y : Bk} (h : Same x y) : sameT x.d y.d = true := by
  have k1 := sameTk_f enK hfe (fun _ _ _ => rfl) str_ok y.c x.c h.v
  have k2 := sameTk_f auK hfa (fun _ _ _ => rfl) int_ok y.c x.c h.v
  have d1 : sameT (.dT (x.c.map enK)) (.dT (y.c.map enK)) = true := by
    show ((x.c.map enK).length == (y.c.map enK).length && sameTk (x.c.map enK) (y.c.map enK)) = true
    rw [k1, List.length_map, List.length_map, h.l]; simp
  have d2 : sameT (.dT (x.c.map auK)) (.dT (y.c.map auK)) = true := by
    show ((x.c.map auK).length == (y.c.map auK).length && sameTk (x.c.map auK) (y.c.map auK)) = true
    rw [k2, List.length_map, List.length_map, h.l]; simp
  have s1 : sameT (sd "book") (sd "book") = true := same_en (α := String) "book"
  have s2 : sameT (.int x.u) (.int y.u) = true := by rw [h.u]; exact same_en (α := Int) y.u
  have s3 : sameT (En.en x.r) (En.en y.r) = true := by rw [h.r]; exact same_en y.r
  have s4 : sameT (En.en x.g) (En.en y.g) = true := by rw [h.g]; exact same_en y.g
  show (sameT (sd "book") (sd "book") && (sameT (.int x.u) (.int y.u) && (sameT (.dT (x.c.map enK)) (.dT (y.c.map enK)) && (sameT (.dT (x.c.map auK)) (.dT (y.c.map auK)) && (sameT (En.en x.r) (En.en y.r) && (sameT (En.en x.g) (En.en y.g) && true)))))) = true
  rw [s1, s2, s3, s4, d1, d2]; rfl
theorem depTk_f (f : Sp × (String × Int) → List Key × D) (h : ∀ q, depT (f q).2 = 0) : ∀ c : Cls, depTk (c.map f) = 0
  | [] => rfl
  | q :: c => by
    show max (depT (f q).2) (depTk (c.map f)) = 0
    rw [h, depTk_f f h c]; rfl
theorem dep_bk (x : Bk) : depT x.d ≤ 12 := by
  have e1 := depTk_f enK (fun _ => rfl) x.c
  have e2 := depTk_f auK (fun _ => rfl) x.c
  have e3 := dep_en x.r
  have e4 := dep_en x.g
  have f3 : En.dp (List Ru) = 4 := rfl
  have f4 : En.dp (List Gr) = 4 := rfl
  show max (depT (sd "book")) (max (depT (.int x.u)) (max (depTk (x.c.map enK) + 2) (max (depTk (x.c.map auK) + 2) (max (depT (En.en x.r)) (max (depT (En.en x.g)) 0))))) + 2 ≤ 12
  have e5 : depT (sd "book") = 0 := rfl
  have e6 : depT (.int x.u) = 0 := rfl
  omega
theorem eqD_bk (x y : D) (zs ws : List D) (b : Bk) : eqD (.tup (b.d :: zs)) (.tup ws) = none := by
  unfold eqD
  show (if (shp (.tup (b.d :: zs)) && shp (.tup ws)) = true then _ else none) = none
  have : shp (.tup (b.d :: zs)) = false := by
    unfold shp
    have : okD (.tup (b.d :: zs)) = false := by
      show ((okD (sd "book") && (true && (false && okDs [.dT (b.c.map auK), En.en b.r, En.en b.g]))) && okDs zs) = false
      rw [Bool.false_and, Bool.and_false, Bool.and_false, Bool.false_and]
    rw [this]; rfl
  rw [this]
  rfl
theorem neB_bk {x y : Bk} (h : Same x y) : dNeB (.tup [x.d, .lst []]) (.tup [y.d, .lst []]) = some (.bl false) := by
  unfold dNeB
  rw [eqD_bk .non .non [.lst []] [y.d, .lst []] x]
  have : sameB (.tup [x.d, .lst []]) (.tup [y.d, .lst []]) = true := by
    show (sameTs [x.d, .lst []] [y.d, .lst []] && decide (depTs [x.d, .lst []] ≤ 60)) = true
    rw [Bool.and_eq_true, decide_eq_true_eq]
    constructor
    · show (sameT x.d y.d && (true && true)) = true
      rw [same_bk h]; rfl
    · have := dep_bk x
      show max (depT x.d) (max 2 0) ≤ 60
      omega
  show (if sameB (.tup [x.d, .lst []]) (.tup [y.d, .lst []]) = true then some (D.bl false) else none) = _
  rw [if_pos this]
/-! conflicts are data -/
theorem ok_cell (p : Sp) : okD (cellD p) = true ∧ depD (cellD p) ≤ 3 := by
  have h := En.ok (α := String) "cell"
  have h2 := En.ok (α := Sp) p
  have h3 := En.dpl (α := Sp) p
  have h4 : En.dp Sp = 1 := rfl
  constructor
  · show (okD (sd "cell") && (okD (En.en p) && true)) = true
    rw [show okD (sd "cell") = true from h, h2]; rfl
  · show max 0 (max (depD (En.en p)) 0) + 1 ≤ 3
    omega
theorem ok_rules : okD rulesD = true ∧ depD rulesD ≤ 3 := by
  have h := En.ok (α := String) "rules"
  constructor
  · show (okD (sd "rules") && (true && true)) = true
    rw [show okD (sd "rules") = true from h]; rfl
  · show max 0 (max 0 0) + 1 ≤ 3
    omega
theorem ok_grant (k : Nat) : okD (grantD k) = true ∧ depD (grantD k) ≤ 3 := by
  have h := En.ok (α := String) "grant"
  constructor
  · show (okD (sd "grant") && (true && true)) = true
    rw [show okD (sd "grant") = true from h]; rfl
  · show max 0 (max 0 0) + 1 ≤ 3
    omega
theorem ok_lst : ∀ {ds : List D}, (∀ d ∈ ds, okD d = true ∧ depD d ≤ 3) → okDs ds = true ∧ depDs ds ≤ 3
  | [], _ => ⟨rfl, Nat.zero_le _⟩
  | d :: ds, h => by
    obtain ⟨h1, h2⟩ := h d List.mem_cons_self
    obtain ⟨h3, h4⟩ := ok_lst fun x hx => h x (List.mem_cons_of_mem _ hx)
    exact ⟨by show (okD d && okDs ds) = true; rw [h1, h3]; rfl, by show max (depD d) (depDs ds) ≤ 3; omega⟩
theorem ok_cnf (b o t : Bk) : ∀ d ∈ cnf b o t, okD d = true ∧ depD d ≤ 3 := by
  intro d hd
  unfold cnf cnC at hd
  rcases List.mem_append.mp hd with h | h
  · obtain ⟨p, _, rfl⟩ := List.mem_map.mp h
    exact ok_cell p
  · split at h
    · rw [List.mem_singleton.mp h]; exact ok_rules
    · cases h
theorem ok_chs (b o : Bk) : ∀ d ∈ chs b o, okD d = true ∧ depD d ≤ 3 := by
  intro d hd
  unfold chs chR cha rest at hd
  rcases List.mem_append.mp hd with h | h
  · rcases List.mem_append.mp h with h | h
    · obtain ⟨p, _, rfl⟩ := List.mem_map.mp h
      exact ok_cell p
    · split at h
      · rw [List.mem_singleton.mp h]; exact ok_rules
      · cases h
  · obtain ⟨k, _, rfl⟩ := List.mem_map.mp h
    exact ok_grant k
theorem ne_chs (b o : Bk) : dNe (.lst (chs b o)) (.lst (chs b o)) = some (.bl false) := by
  obtain ⟨h1, h2⟩ := ok_lst (ok_chs b o)
  unfold dNe
  rw [eqD_refl (d := .lst (chs b o)) h1 (by show depDs (chs b o) + 1 ≤ 64; omega)]
  rfl
/-! the merged book has keys told apart -/
theorem mcF_nd (x y z : Cls) : ∀ {ps : List Sp}, ps.Nodup → (ckey (mcF x y z ps)).Nodup
  | [], _ => List.nodup_nil
  | p :: ps, nd => by
    have nd' := List.nodup_cons.mp nd
    have ih := mcF_nd x y z nd'.2
    rw [mcF_cons]
    cases pk x y z p with
    | none => exact ih
    | some v =>
      show (p :: ckey (mcF x y z ps)).Nodup
      exact List.nodup_cons.mpr ⟨fun h => nd'.1 (mcF_key x y z ps p h), ih⟩
theorem mB_kys {b o t : Bk} (h : M3 b o t) : Kys (mB b o t).c := ⟨mcF_nd _ _ _ (plc_nd _), fun p hp => by
  obtain ⟨c, hc, hp⟩ := plc_mem.mp (mcF_key _ _ _ _ p hp)
  exact (three_mem (P := fun c : Bk => Kys c.c) h.kb h.ko h.kt c hc).sp p hp⟩
theorem ne_mRes {b o t : Bk} (h : M3 b o t) : dNeB (mRes b o t) (mRes b o t) = some (.bl false) := by
  unfold mRes
  split
  · exact neB_bk (Same.refl (mB_kys h))
  · obtain ⟨h1, h2⟩ := ok_lst (ok_cnf b o t)
    unfold dNeB
    rw [eqD_refl (d := .tup [.non, .lst (cnf b o t)]) (by show (true && (okDs _ && true)) = true; rw [h1]; rfl) (by show max 0 (max (depDs (cnf b o t) + 1) 0) + 1 ≤ 64; omega)]
    rfl
/-! both ways round -/
theorem cf_comm (x y z : Cls) (p : Sp) : cf x y z p = cf x z y p := by
  unfold cf
  rw [Bool.eq_iff_iff, decide_eq_true_eq, decide_eq_true_eq]
  exact ⟨fun ⟨a, b, c⟩ => ⟨b, a, fun e => c e.symm⟩, fun ⟨a, b, c⟩ => ⟨b, a, fun e => c e.symm⟩⟩
theorem cr_comm (b o t : Bk) : cr b o t = cr b t o := by
  unfold cr
  rw [Bool.eq_iff_iff, decide_eq_true_eq, decide_eq_true_eq]
  exact ⟨fun ⟨a, b, c⟩ => ⟨b, a, fun e => c e.symm⟩, fun ⟨a, b, c⟩ => ⟨b, a, fun e => c e.symm⟩⟩
theorem plc_comm (b o t : Bk) : plc [b, o, t] = plc [b, t, o] := plc_perm fun c => by
  simp only [List.mem_cons, List.not_mem_nil, or_false]
  exact ⟨fun h => h.elim .inl fun h => h.elim (fun h => .inr (.inr h)) fun h => .inr (.inl h), fun h => h.elim .inl fun h => h.elim (fun h => .inr (.inr h)) fun h => .inr (.inl h)⟩
theorem cnf_comm (b o t : Bk) : cnf b o t = cnf b t o := by
  unfold cnf cnC
  rw [plc_comm b o t, cr_comm b o t]
  have : cf b.c o.c t.c = cf b.c t.c o.c := funext fun p => cf_comm _ _ _ p
  rw [this]
theorem fl_comm (g o t : Bool) : fl g o t = fl g t o := by cases g <;> cases o <;> cases t <;> rfl
theorem flp_comm : ∀ b o t : List Gr, flp b o t = flp b t o
  | [], _, _ => rfl
  | g :: gs, [], [] => rfl
  | g :: gs, [], _ :: _ => rfl
  | g :: gs, _ :: _, [] => rfl
  | g :: gs, o :: os, t :: ts => by
    show g.turn (fl g.x o.x t.x) :: flp gs os ts = g.turn (fl g.x t.x o.x) :: flp gs ts os
    rw [fl_comm, flp_comm gs os ts]
theorem mG_comm (b o t : List Gr) : mG b o t = mG b t o := by
  unfold mG
  rw [flp_comm, more_comm]
theorem pk_comm {x y z : Cls} {p : Sp} (h : cf x y z p = false) : pk x y z p = pk x z y p := by
  have h : ¬ (ent x p ≠ ent y p ∧ ent x p ≠ ent z p ∧ ent y p ≠ ent z p) := of_decide_eq_false h
  unfold pk
  by_cases q1 : ent y p = ent x p
  · rw [if_pos q1]
    by_cases q2 : ent z p = ent x p
    · rw [if_pos q2]
      exact ent_look.mp (by rw [q1, q2])
    · rw [if_neg q2]
  · rw [if_neg q1]
    by_cases q2 : ent z p = ent x p
    · rw [if_pos q2]
    · rw [if_neg q2]
      refine ent_look.mp ?_
      by_cases q3 : ent y p = ent z p
      · exact q3
      · exact absurd ⟨fun e => q1 e.symm, fun e => q2 e.symm, q3⟩ h
theorem filter_nil_mem {α : Type} {f : α → Bool} {l : List α} (h : l.filter f = []) : ∀ x ∈ l, f x = false := by
  intro x hx
  cases e : f x with
  | false => rfl
  | true =>
    have : x ∈ l.filter f := List.mem_filter.mpr ⟨hx, e⟩
    rw [h] at this; cases this
theorem mcF_congr {x y z x' y' z' : Cls} {ps : List Sp} (h : ∀ p ∈ ps, pk x y z p = pk x' y' z' p) : mcF x y z ps = mcF x' y' z' ps := by
  induction ps with
  | nil => rfl
  | cons p ps ih =>
    rw [mcF_cons, mcF_cons, h p List.mem_cons_self, ih fun q hq => h q (List.mem_cons_of_mem _ hq)]
theorem mRes_comm (b o t : Bk) : mRes b o t = mRes b t o := by
  unfold mRes
  rw [← cnf_comm b o t]
  by_cases hc : cnf b o t = []
  · rw [if_pos hc, if_pos hc]
    have hc' := List.append_eq_nil_iff.mp (show cnC b o t ++ _ = [] from hc)
    have hn : (plc [b, o, t]).filter (cf b.c o.c t.c) = [] := List.map_eq_nil_iff.mp hc'.1
    have hr : cr b o t = false := by
      cases e : cr b o t with
      | false => rfl
      | true => have := hc'.2; rw [e, if_pos rfl] at this; cases this
    have e1 : mgC b o t = mgC b t o := by
      unfold mgC
      rw [← plc_comm b o t]
      exact mcF_congr fun p hp => pk_comm (filter_nil_mem hn p hp)
    have e2 : mR b o t = mR b t o := by
      have hr : ¬ (b.r ≠ o.r ∧ b.r ≠ t.r ∧ o.r ≠ t.r) := of_decide_eq_false hr
      unfold mR
      by_cases q1 : o.r = b.r <;> by_cases q2 : t.r = b.r
      · rw [if_pos q1, if_pos q2, q1, q2]
      · rw [if_pos q1, if_neg q2]
      · rw [if_neg q1, if_pos q2]
      · rw [if_neg q1, if_neg q2]
        by_cases q3 : o.r = t.r
        · exact q3
        · exact absurd ⟨fun e => q1 e.symm, fun e => q2 e.symm, q3⟩ hr
    have : mB b o t = mB b t o := by
      unfold mB
      rw [e1, e2, mG_comm]
    rw [this]
  · rw [if_neg hc, if_neg hc]
end Law
namespace Law
open PySem L2 DL
/-! ### merging with oneself -/
def PreL (b o : List Gr) : Prop := ∀ (k : Nat) (g h : Gr), b[k]? = some g → o[k]? = some h → h.turn g.x = g
theorem PreL.tail {g h : Gr} {b o : List Gr} (p : PreL (g :: b) (h :: o)) : PreL b o := fun k a c h1 h2 => p (k + 1) a c h1 h2
theorem PreL.head {g h : Gr} {b o : List Gr} (p : PreL (g :: b) (h :: o)) : g.turn h.x = h := by
  have := p 0 g h rfl rfl
  rw [← this]; rfl
theorem flp_bob : ∀ b o : List Gr, PreL b o → b.length ≤ o.length → flp b o b = o.take b.length
  | [], _, _, _ => by simp [flp]
  | g :: gs, [], _, h => by simp at h
  | g :: gs, o :: os, p, h => by
    show g.turn (fl g.x o.x g.x) :: flp gs os gs = o :: os.take gs.length
    have e : fl g.x o.x g.x = o.x := by unfold fl; split <;> simp_all
    rw [e, p.head, flp_bob gs os p.tail (by simpa using h)]
theorem flp_bbt : ∀ b o : List Gr, PreL b o → b.length ≤ o.length → flp b b o = o.take b.length
  | [], _, _, _ => by simp [flp]
  | g :: gs, [], _, h => by simp at h
  | g :: gs, o :: os, p, h => by
    show g.turn (fl g.x g.x o.x) :: flp gs gs os = o :: os.take gs.length
    have e : fl g.x g.x o.x = o.x := by unfold fl; split <;> simp_all
    rw [e, p.head, flp_bbt gs os p.tail (by simpa using h)]
theorem flp_boo : ∀ b o : List Gr, PreL b o → b.length ≤ o.length → flp b o o = o.take b.length
  | [], _, _, _ => by simp [flp]
  | g :: gs, [], _, h => by simp at h
  | g :: gs, o :: os, p, h => by
    show g.turn (fl g.x o.x o.x) :: flp gs os os = o :: os.take gs.length
    have e : fl g.x o.x o.x = o.x := by unfold fl; split <;> simp_all
    rw [e, p.head, flp_boo gs os p.tail (by simpa using h)]
theorem mem_filterMap_pk {x y z : Cls} {ps : List Sp} {q : Sp × (String × Int)} : q ∈ mcF x y z ps ↔ q.1 ∈ ps ∧ pk x y z q.1 = some q.2 := by
  unfold mcF
  rw [List.mem_filterMap]
  constructor
  · rintro ⟨p, hp, e⟩
    cases z : pk x y _ p with
    | none => rw [z] at e; cases e
    | some v => rw [z] at e; cases e; exact ⟨hp, z⟩
  · rintro ⟨hp, e⟩
    exact ⟨q.1, hp, by rw [e]; rfl⟩
theorem same_c {b o t : Bk} (y : Bk) (hk : Kys y.c) (hy : ∀ p ∈ ckey y.c, p ∈ plc [b, o, t]) (hp : ∀ p, pk b.c o.c t.c p = look y.c p) : (mgC b o t).length = y.c.length ∧ ∀ q ∈ mgC b o t, look y.c q.1 = some q.2 := by
  have hv : ∀ q ∈ mgC b o t, look y.c q.1 = some q.2 := fun q hq => by
    have := mem_filterMap_pk.mp hq
    rw [← hp]; exact this.2
  refine ⟨?_, hv⟩
  have n1 : (ckey (mgC b o t)).Nodup := mcF_nd _ _ _ (plc_nd _)
  have pm := (List.perm_ext_iff_of_nodup n1 hk.nd).mpr fun p => by
    constructor
    · intro h
      obtain ⟨q, hq, rfl⟩ := List.mem_map.mp h
      exact look_key.mp (by rw [hv q hq]; rfl)
    · intro h
      have hs := look_key.mpr h
      cases e : look y.c p with
      | none => rw [e] at hs; cases hs
      | some v => exact List.mem_map.mpr ⟨(p, v), mem_filterMap_pk.mpr ⟨hy p h, by rw [hp, e]⟩, rfl⟩
  have := pm.length_eq
  unfold ckey at this
  rw [List.length_map, List.length_map] at this
  exact this
theorem mem_plc1 {b o t : Bk} {y : Bk} (h : y ∈ [b, o, t]) : ∀ p ∈ ckey y.c, p ∈ plc [b, o, t] := fun p hp => plc_mem.mpr ⟨y, h, hp⟩
theorem cnf_nil {b o t : Bk} (h : ∀ p, cf b.c o.c t.c p = false) (hr : cr b o t = false) : cnf b o t = [] := by
  unfold cnf cnC
  rw [hr, if_neg Bool.false_ne_true, List.append_nil, List.map_eq_nil_iff, List.filter_eq_nil_iff]
  exact fun p _ => by rw [h p]; exact Bool.false_ne_true
theorem ne_bob {b o : Bk} (p : Pre b o) (ko : Kys o.c) : dNeB (mRes b o b) (.tup [o.d, .lst []]) = some (.bl false) := by
  have hc : cnf b o b = [] := cnf_nil (fun p => by unfold cf; simp) (by unfold cr; simp)
  unfold mRes
  rw [if_pos hc]
  obtain ⟨h1, h2⟩ := same_c (b := b) (o := o) (t := b) o ko (mem_plc1 (by simp)) fun p => by
    unfold pk
    split
    · rename_i q; exact (ent_look.mp q).symm
    · rfl
  refine neB_bk ⟨p.u.symm, ?_, ?_, h1, h2⟩
  · show mR b o b = o.r
    unfold mR
    split
    · rename_i q; exact q.symm
    · rfl
  · show mG b.g o.g b.g = o.g
    unfold mG
    rw [List.drop_length, more_nil, flp_bob _ _ p.eq p.le, List.take_append_drop]
theorem ne_bbt {b o : Bk} (p : Pre b o) (ko : Kys o.c) : dNeB (mRes b b o) (.tup [o.d, .lst []]) = some (.bl false) := by
  have hc : cnf b b o = [] := cnf_nil (fun p => by unfold cf; simp) (by unfold cr; simp)
  unfold mRes
  rw [if_pos hc]
  obtain ⟨h1, h2⟩ := same_c (b := b) (o := b) (t := o) o ko (mem_plc1 (by simp)) fun p => by
    unfold pk
    rw [if_pos rfl]
  refine neB_bk ⟨p.u.symm, ?_, ?_, h1, h2⟩
  · show mR b b o = o.r
    unfold mR
    rw [if_pos rfl]
  · show mG b.g b.g o.g = o.g
    unfold mG
    rw [List.drop_length, nil_more, flp_bbt _ _ p.eq p.le, List.take_append_drop]
theorem ne_boo {b o : Bk} (p : Pre b o) (ko : Kys o.c) (hl : o.g.length = b.g.length) : dNeB (mRes b o o) (.tup [o.d, .lst []]) = some (.bl false) := by
  have hc : cnf b o o = [] := cnf_nil (fun p => by unfold cf; simp) (by unfold cr; simp)
  unfold mRes
  rw [if_pos hc]
  obtain ⟨h1, h2⟩ := same_c (b := b) (o := o) (t := o) o ko (mem_plc1 (by simp)) fun p => by
    unfold pk
    split <;> rfl
  refine neB_bk ⟨p.u.symm, ?_, ?_, h1, h2⟩
  · show mR b o o = o.r
    unfold mR
    split <;> rfl
  · show mG b.g o.g o.g = o.g
    unfold mG
    rw [← hl, List.drop_length, nil_more, List.append_nil]
    have := flp_boo _ _ p.eq p.le
    rw [this, ← hl, List.take_length]
/-! ### an edit keeps the grants that were there -/
theorem pre_refl (b : Bk) : Pre b b := ⟨Nat.le_refl _, fun k g h h1 h2 => by rw [h1] at h2; cases h2; rfl, rfl⟩
theorem pre_done {b o : Bk} {e : Ed} (p : Pre b o) (he : EOk o e) : Pre b (done o e) := by
  cases e with
  | cell q t w => exact ⟨p.le, p.eq, p.u⟩
  | blank q => exact ⟨p.le, p.eq, p.u⟩
  | rule i r => exact ⟨p.le, p.eq, p.u⟩
  | unrule i => exact ⟨p.le, p.eq, p.u⟩
  | grant g =>
    refine ⟨Nat.le_trans p.le (by show o.g.length ≤ (o.g ++ [g]).length; simp), fun k a c h1 h2 => ?_, p.u⟩
    have hk : k < b.g.length := (List.getElem?_eq_some_iff.mp h1).1
    have h2 : (o.g ++ [g])[k]? = some c := h2
    rw [List.getElem?_append_left (by have := p.le; omega)] at h2
    exact p.eq k a c h1 h2
  | revoke i x =>
    have hi : i < o.g.length := he.f
    refine ⟨by show b.g.length ≤ (o.g.set _ _).length; rw [List.length_set]; exact p.le, fun k a c h1 h2 => ?_, p.u⟩
    obtain ⟨g, hg⟩ : ∃ g, o.g[i]? = some g := ⟨_, List.getElem?_eq_getElem hi⟩
    have h2 : (o.g.set i ((o.g[i]?.getD ⟨((0, 0), (0, 0)), [], [], 0, false⟩).turn x))[k]? = some c := h2
    rw [hg] at h2
    by_cases q : i = k
    · subst q
      rw [List.getElem?_set_self hi] at h2
      cases h2
      exact p.eq i a g h1 hg
    · rw [List.getElem?_set_ne q] at h2
      exact p.eq k a c h1 h2
end Law
namespace Law
open PySem L2 DL
/-! ### books can be shown -/
mutual
theorem toL_eq : ∀ d : D, okD d = true → toL d = toP d ∧ DL.okL d = true
  | .non, _ => ⟨rfl, rfl⟩
  | .bl _, _ => ⟨rfl, rfl⟩
  | .int _, _ => ⟨rfl, rfl⟩
  | .str _, _ => ⟨rfl, rfl⟩
  | .lst xs, h => by have := toLs_eq xs h; exact ⟨by show PyData.list (toLs xs) = .list (toPs xs); rw [this.1], this.2⟩
  | .tup xs, h => by have := toLs_eq xs h; exact ⟨by show PyData.tuple (toLs xs) = .tuple (toPs xs); rw [this.1], this.2⟩
  | .klst xs, h => by have := toLs_eq xs h; exact ⟨by show PyData.list (toLs xs) = .list (toPs xs); rw [this.1], this.2⟩
  | .ktup xs, h => by have := toLs_eq xs h; exact ⟨by show PyData.tuple (toLs xs) = .tuple (toPs xs); rw [this.1], this.2⟩
  | .dK _, h => by cases h
  | .dT _, h => by cases h
  | .fn _, h => by cases h
  | .clo _ _, h => by cases h
  | .scr _, h => by cases h
  | .ty _, h => by cases h
  | .rng _ _, h => by cases h
theorem toLs_eq : ∀ d : List D, okDs d = true → toLs d = toPs d ∧ okLs d = true
  | [], _ => ⟨rfl, rfl⟩
  | x :: xs, h => by
    have h : (okD x && okDs xs) = true := h
    rw [Bool.and_eq_true] at h
    have h1 := toL_eq x h.1
    have h2 := toLs_eq xs h.2
    exact ⟨by show toL x :: toLs xs = toP x :: toPs xs; rw [h1.1, h2.1], by show (DL.okL x && okLs xs) = true; rw [h1.2, h2.2]; rfl⟩
end
structure SL (n w : Nat) (d : D) : Prop where
  ok : DL.okL d = true
  dp : (toL d).depth ≤ n
  sh : (toL d).showable = true
  rb : (toL d).shown.length ≤ w
theorem SL.of {n w : Nat} {d : D} (h : Sm n w d) : SL n w d := by
  have e := toL_eq d h.ok
  refine ⟨e.2, ?_, ?_, ?_⟩
  · rw [e.1, depD_dep d h.ok]; exact h.dp
  · rw [e.1]; exact showD_ok d h.sh
  · rw [e.1]; exact Nat.le_trans (rb_ok d h.ok) h.rb
theorem SL.mono {n w n' w' : Nat} {d : D} (h : SL n w d) (hn : n ≤ n') (hw : w ≤ w') : SL n' w' d := ⟨h.ok, Nat.le_trans h.dp hn, h.sh, Nat.le_trans h.rb hw⟩
theorem sl_all {n w : Nat} : ∀ {ds : List D}, (∀ d ∈ ds, SL n w d) → okLs ds = true ∧ PyData.depthAll (toLs ds) ≤ n ∧ PyData.showableAll (toLs ds) = true ∧ ((PyData.shownAll (toLs ds)).map (·.length)).sum ≤ w * ds.length ∧ (PyData.shownAll (toLs ds)).length = ds.length
  | [], _ => ⟨rfl, by simp [toLs, PyData.depthAll], by simp [toLs, PyData.showableAll], by simp [toLs, PyData.shownAll], by simp [toLs, PyData.shownAll]⟩
  | d :: ds, h => by
    have h1 := h d List.mem_cons_self
    obtain ⟨a, b, c, e, f⟩ := sl_all fun x hx => h x (List.mem_cons_of_mem _ hx)
    have e0 : toLs (d :: ds) = toL d :: toLs ds := rfl
    refine ⟨by show (DL.okL d && okLs ds) = true; rw [h1.ok, a]; rfl, ?_, ?_, ?_, ?_⟩
    · rw [e0, PyData.depthAll.eq_2]; have := h1.dp; omega
    · rw [e0, PyData.showableAll.eq_2, h1.sh, c]; rfl
    · rw [e0, PyData.shownAll.eq_2, List.map_cons, List.sum_cons, List.length_cons, Nat.mul_succ]
      have := h1.rb
      omega
    · rw [e0, PyData.shownAll.eq_2, List.length_cons, List.length_cons, f]
theorem SL.tup {n w v : Nat} {ds : List D} (h : ∀ d ∈ ds, SL n w d) (hv : w * ds.length + 2 * ds.length + 3 ≤ v) : SL (n + 1) v (.tup ds) := by
  obtain ⟨a, b, c, e, f⟩ := sl_all h
  refine ⟨a, ?_, ?_, ?_⟩
  · show PyData.depthAll (toLs ds) + 1 ≤ n + 1
    omega
  · show (PyData.tuple (toLs ds)).showable = true
    rw [PyData.showable.eq_6]; exact c
  · show (PyData.tuple (toLs ds)).shown.length ≤ v
    rw [PyData.shown.eq_6]
    have := tupleText_len_le (PyData.shownAll (toLs ds))
    omega
/-! small data -/
theorem sm_in {i : Int} (h : -1000 ≤ i ∧ i ≤ 1000) : Sm 0 100 (.int i) := Sm.int (by omega) (Nat.le_refl _)
theorem sp_small {p : Sp} (h : p ∈ SPOTS) : (-1000 ≤ p.1 ∧ p.1 ≤ 1000) ∧ (-1000 ≤ p.2 ∧ p.2 ≤ 1000) := by
  simp only [SPOTS, List.mem_cons, List.not_mem_nil, or_false] at h
  rcases h with rfl | rfl | rfl | rfl | rfl <;> decide
theorem sm_sp {p : Sp} (h : (-1000 ≤ p.1 ∧ p.1 ≤ 1000) ∧ (-1000 ≤ p.2 ∧ p.2 ≤ 1000)) : Sm 1 207 (En.en p) := Sm.tup (n := 0) (w := 100) (ds := [.int p.1, .int p.2]) (fun d hd => by
  rcases List.mem_cons.mp hd with q | q
  · rw [q]; exact sm_in h.1
  · rw [List.mem_singleton.mp q]; exact sm_in h.2) (by simp)
theorem sm_ar {a : Ar} (h : a ∈ AREAS) : Sm 2 421 (En.en a) := by
  have : ∀ a ∈ AREAS, ((-1000 ≤ a.1.1 ∧ a.1.1 ≤ 1000) ∧ (-1000 ≤ a.1.2 ∧ a.1.2 ≤ 1000)) ∧ ((-1000 ≤ a.2.1 ∧ a.2.1 ≤ 1000) ∧ (-1000 ≤ a.2.2 ∧ a.2.2 ≤ 1000)) := by decide
  have hh := this a h
  exact Sm.tup (n := 1) (w := 207) (ds := [En.en a.1, En.en a.2]) (fun d hd => by
    rcases List.mem_cons.mp hd with q | q
    · rw [q]; exact sm_sp hh.1
    · rw [List.mem_singleton.mp q]; exact sm_sp hh.2) (by simp)
theorem sm_okL {xs : List Int} (h : okL xs) : Sm 2 421 (En.en xs) := by
  have s : Sm 1 411 (.lst (xs.map (En.en : Int → D))) := Sm.lst (n := 0) (w := 100) (fun d hd => by
    obtain ⟨i, hi, rfl⟩ := List.mem_map.mp hd
    exact sm_in (by have := h.2 i hi; omega)) (by rw [List.length_map]; have := h.1; omega)
  exact s.mono (by decide) (by decide)
theorem strOk_s (s : String) : PyData.strOk (Str.ofString s) = true := En.ok (α := String) s
theorem sm_sd {s : String} (h : s.toList.length ≤ 11) : Sm 0 112 (sd s) := Sm.str (strOk_s s) (by rw [DL.ks_len]; omega)
theorem text_len {t : String} (h : t ∈ TEXTS) : t.toList.length ≤ 11 := by
  have : ∀ t ∈ TEXTS, t.toList.length ≤ 11 := by decide +kernel
  exact this t h
theorem sm_fun {f : List String} (h : f ∈ FUNL) : Sm 2 421 (En.en f) := by
  have : ∀ f ∈ FUNL, f.length ≤ 2 ∧ ∀ s ∈ f, s.toList.length ≤ 11 := by decide +kernel
  have hh := this f h
  have s : Sm 1 231 (.lst (f.map (En.en : String → D))) := Sm.lst (n := 0) (w := 112) (fun d hd => by
    obtain ⟨i, hi, rfl⟩ := List.mem_map.mp hd
    exact sm_sd (hh.2 i hi)) (by rw [List.length_map]; have := hh.1; omega)
  exact s.mono (by decide) (by decide)
theorem sm_ru {u : Ru} (h : u.ok) : Sm 3 1695 (En.en u) := Sm.tup (n := 2) (w := 421) (ds := [En.en u.a, En.en u.r, En.en u.w, En.en u.o]) (fun d hd => by
  simp only [List.mem_cons, List.not_mem_nil, or_false] at hd
  rcases hd with q | q | q | q
  · rw [q]; exact sm_ar h.qa
  · rw [q]; exact sm_okL h.qr
  · rw [q]; exact sm_okL h.qw
  · rw [q]; exact sm_okL h.qo) (by simp)
theorem sm_gr {u : Gr} (h : u.ok) : Sm 3 2118 (En.en u) := Sm.tup (n := 2) (w := 421) (ds := [En.en u.a, En.en u.f, En.en u.t, .int u.b, .bl u.x]) (fun d hd => by
  simp only [List.mem_cons, List.not_mem_nil, or_false] at hd
  rcases hd with q | q | q | q | q
  · rw [q]; exact sm_ar h.qa
  · rw [q]; exact sm_fun h.qf
  · rw [q]; exact sm_okL h.qt
  · rw [q]; exact (sm_in (by have := h.qb; omega)).mono (by decide) (by decide)
  · rw [q]; exact Sm.bl (by decide)) (by simp)
theorem sm_rs {l : List Ru} (h : ∀ u ∈ l, u.ok) (hl : l.length ≤ 24) : Sm 4 50883 (En.en l) := Sm.lst (n := 3) (w := 1695) (fun d hd => by
  obtain ⟨i, hi, rfl⟩ := List.mem_map.mp hd
  exact sm_ru (h i hi)) (by rw [List.length_map]; omega)
theorem sm_gs {l : List Gr} (h : ∀ u ∈ l, u.ok) (hl : l.length ≤ 24) : Sm 4 50883 (En.en l) := Sm.lst (n := 3) (w := 2118) (fun d hd => by
  obtain ⟨i, hi, rfl⟩ := List.mem_map.mp hd
  exact sm_gr (h i hi)) (by rw [List.length_map]; omega)
/-! dicts -/
theorem sl_dT (f : Sp × (String × Int) → List Key × D) (hf : ∀ q, (f q).1 = spK q.1) : ∀ c : Cls, (∀ q ∈ c, q.1 ∈ SPOTS ∧ SL 0 112 (f q).2) → okLt (c.map f) = true ∧ PyData.depthKv (toLt (c.map f)) ≤ 1 ∧ PyData.showableKv (toLt (c.map f)) = true ∧ ((PyData.shownKv (toLt (c.map f))).map (·.length)).sum ≤ 321 * c.length ∧ (PyData.shownKv (toLt (c.map f))).length = c.length
  | [], _ => by simp [toLt, okLt, PyData.depthKv, PyData.showableKv, PyData.shownKv]
  | q :: c, h => by
    have hq := h q List.mem_cons_self
    have s2 := sm_sp (sp_small hq.1)
    obtain ⟨a, b, g, e, l⟩ := sl_dT f hf c fun x hx => h x (List.mem_cons_of_mem _ hx)
    have e0 : toLt ((q :: c).map f) = (.tuple ((f q).1.map kE), toL (f q).2) :: toLt (c.map f) := rfl
    have e1 : PyData.tuple ((f q).1.map kE) = toP (En.en q.1) := by rw [hf]; rfl
    rw [e1] at e0
    have d1 := depD_dep (En.en q.1) s2.ok
    have d2 := s2.dp
    have v1 := showD_ok _ s2.sh
    have r1 := rb_ok _ s2.ok
    have r2 := s2.rb
    refine ⟨by show (DL.okL (f q).2 && okLt (c.map f)) = true; rw [hq.2.ok, a]; rfl, ?_, ?_, ?_, ?_⟩
    · rw [e0]
      simp only [PyData.depthKv]
      have := hq.2.dp
      omega
    · rw [e0]
      simp only [PyData.showableKv]
      rw [v1, hq.2.sh, g]; rfl
    · rw [e0]
      simp only [PyData.shownKv, List.map_cons, List.sum_cons, List.length_cons]
      rw [strLen_append, strLen_append]
      have h5 : (": " : Str).length = 2 := rfl
      rw [h5]
      have := hq.2.rb
      omega
    · rw [e0]
      simp only [PyData.shownKv, List.length_cons, l]
theorem sl_dict (f : Sp × (String × Int) → List Key × D) (hf : ∀ q, (f q).1 = spK q.1) (c : Cls) (h : ∀ q ∈ c, q.1 ∈ SPOTS ∧ SL 0 112 (f q).2) (hl : c.length ≤ 5) : SL 2 2000 (.dT (c.map f)) := by
  obtain ⟨a, b, g, e, l⟩ := sl_dT f hf c h
  have e0 : toL (.dT (c.map f)) = .dict (toLt (c.map f)) := rfl
  refine ⟨a, ?_, ?_, ?_⟩
  · rw [e0]
    simp only [PyData.depth]
    omega
  · rw [e0]
    simp only [PyData.showable]
    exact g
  · rw [e0, PyData.shown.eq_7]
    have := dictText_len_le (PyData.shownKv (toLt (c.map f)))
    omega
theorem sl_bk {n : Nat} {b : Bk} (h : BOk n b) (hn : n ≤ 24) : SL 5 305313 b.d := by
  have hl := ckey_len h.k
  have hs : ∀ q ∈ b.c, q.1 ∈ SPOTS := fun q hq => h.k.sp q.1 (List.mem_map_of_mem (f := (·.1)) hq)
  have k1 := sl_dict enK hfe b.c (fun q hq => ⟨hs q hq, SL.of (sm_sd (text_len (h.e q hq).1))⟩) hl
  have k2 := sl_dict auK hfa b.c (fun q hq => ⟨hs q hq, SL.of ((sm_in (i := q.2.2) (by have := (h.e q hq).2; omega)).mono (Nat.le_refl _) (by decide))⟩) hl
  have k3 := SL.of (sm_rs h.rk (Nat.le_trans h.r hn))
  have k4 := SL.of (sm_gs h.gk (Nat.le_trans h.g hn))
  have hu := h.u
  exact SL.tup (n := 4) (w := 50883) (ds := [sd "book", .int b.u, .dT (b.c.map enK), .dT (b.c.map auK), En.en b.r, En.en b.g]) (fun d hd => by
    simp only [List.mem_cons, List.not_mem_nil, or_false] at hd
    rcases hd with q | q | q | q | q | q
    · rw [q]; exact (SL.of (sm_sd (s := "book") (by decide))).mono (by decide) (by decide)
    · rw [q]; exact (SL.of (sm_in (i := b.u) (by omega))).mono (by decide) (by decide)
    · rw [q]; exact k1.mono (by decide) (by decide)
    · rw [q]; exact k2.mono (by decide) (by decide)
    · rw [q]; exact k3
    · rw [q]; exact k4) (by simp)
theorem repr_three {n : Nat} {b o t : Bk} (hb : BOk n b) (ho : BOk n o) (ht : BOk n t) (hn : n ≤ 24) : ∃ s, dReprL (.tup [b.d, o.d, t.d]) = some (.str s) := by
  have h : SL 6 915948 (.tup [b.d, o.d, t.d]) := SL.tup (n := 5) (w := 305313) (fun d hd => by
    simp only [List.mem_cons, List.not_mem_nil, or_false] at hd
    rcases hd with q | q | q
    · rw [q]; exact sl_bk hb hn
    · rw [q]; exact sl_bk ho hn
    · rw [q]; exact sl_bk ht hn) (by simp)
  refine ⟨reprL (.tup [b.d, o.d, t.d]), ?_⟩
  unfold dReprL
  rw [h.ok, h.sh, decide_eq_true (Nat.le_trans h.dp (by decide))]
  show (if (true && true && true && true) = true then _ else none) = _
  rw [if_pos (by rfl), if_pos (show (reprL _).length ≤ 1000000 from Nat.le_trans h.rb (by decide))]
end Law
namespace Law
open PySem L2 DL
/-! ### the law -/
abbrev L9 (x0 : Option DV) (sv : DV) (b o t : D) (x5 x6 x7 x8 : Option DV) : List (Option DV) := [x0, some sv, some (.p b), some (.p o), some (.p t), x5, x6, x7, x8]
section
variable {N : Nat} {sv : DV} {Iv : List O → Prop}
structure Bks (n : Nat) (b o t : Bk) : Prop where
  qb : BOk 12 b
  qo : BOk n o
  qt : BOk n t
  po : Pre b o
  pt : Pre b t
noncomputable def oStep : SM := (sSeq (sAsg (mCallB 2 m_l_edit (aCons (mVar 1) (aCons (mVar 3) aNil))) (gN 6))
  (sSeq (sAsg (mCallA 2 m_l_done (aCons (mVar 3) (aCons (mVar 6) aNil))) (gN 3))
  (sIf (mAnd (mBin dEq (mCallB 2 m_l_take (aCons (mVar 1) (aCons (mC (.int 4)) aNil))) (mC (.int 0))) (mAnd (mBin dEq (mIx (mVar 6) (mC (.int 0))) (mC (.str (PySem.Str.ofString "cell")))) (mOr (mBin dNe (mIx (mVar 6) (mC (.int 2))) (mC (.str (PySem.Str.ofString "")))) (mDin false (mIx (mVar 6) (mC (.int 1))) (mIx (mVar 4) (mC (.int 2))))))) (sAsg (mCallA 2 m_l_done (aCons (mVar 4) (aCons (mVar 6) aNil))) (gN 4)) sNil)))
theorem and_bnd (a b : EM) (l : List (Option DV)) (M M1 M2 : List O) (p : Bool) (q : Bool) (h1 : a ⟨l, M⟩ = some (.ok (.p (.bl p)) M1)) (h2 : b ⟨l, M1⟩ = some (.ok (.p (.bl q)) M1)) : mAnd a b ⟨l, M⟩ = some (.ok (.p (.bl (p && q))) M1) := by
  cases p <;> simp [e_bnd, h1, h2]
/-- the edit is a cell's, and it fits the other book -/
def fitsT (t : Bk) : Ed → Bool
  | .cell _ _ _ => true
  | .blank p => (look t.c p).isSome
  | _ => false
theorem fits_ok {o t : Bk} {e : Ed} (h : EOk o e) (f : fitsT t e = true) : EOk t e := by
  cases e with
  | cell p x w => exact ⟨h.f, fun _ _ h => (nomatch h), fun _ h => (nomatch h)⟩
  | blank p => exact ⟨f, fun _ _ h => (nomatch h), fun _ h => (nomatch h)⟩
  | _ => cases f
theorem test_run (t : Bk) (e : Ed) (ht : ∀ p x w, e = .cell p x w → x ≠ "") (l : List (Option DV)) (M : List O) (h6 : gv l 6 = some (.p e.d)) (h4 : gv l 4 = some (.p t.d)) : mAnd (mBin dEq (mIx (mVar 6) (mC (.int 0))) (mC (.str (PySem.Str.ofString "cell")))) (mOr (mBin dNe (mIx (mVar 6) (mC (.int 2))) (mC (.str (PySem.Str.ofString "")))) (mDin false (mIx (mVar 6) (mC (.int 1))) (mIx (mVar 4) (mC (.int 2))))) ⟨l, M⟩ = some (.ok (.p (.bl (fitsT t e))) M) := by
  have v6 : mVar 6 ⟨l, M⟩ = some (.ok (.p e.d) M) := by rw [e_var]; dsimp only; rw [h6]
  have nk : ∀ k r, e.d = .tup (sd k :: r) → k ≠ "cell" → fitsT t e = false → mAnd (mBin dEq (mIx (mVar 6) (mC (.int 0))) (mC (.str (PySem.Str.ofString "cell")))) (mOr (mBin dNe (mIx (mVar 6) (mC (.int 2))) (mC (.str (PySem.Str.ofString "")))) (mDin false (mIx (mVar 6) (mC (.int 1))) (mIx (mVar 4) (mC (.int 2))))) ⟨l, M⟩ = some (.ok (.p (.bl (fitsT t e))) M) := fun k r hd hk hf => by
    have i0 : ixD e.d 0 = some (sd k) := by rw [hd]; simp
    have c := eq_runE (α := String) (by decide) (mIx (mVar 6) (mC (.int 0))) (mC (.str (PySem.Str.ofString "cell"))) l M k "cell" (ix_run _ _ _ _ _ _ _ v6 rfl i0) rfl
    rw [decide_eq_false hk] at c
    rw [e_and, e_bnd, c, hf]
    rfl
  cases e with
  | cell p x w =>
    have c := eq_runE (α := String) (by decide) (mIx (mVar 6) (mC (.int 0))) (mC (.str (PySem.Str.ofString "cell"))) l M "cell" "cell" (ix_run _ _ _ _ _ _ _ v6 rfl rfl) rfl
    have c2 := ne_run (α := String) (by decide) (mIx (mVar 6) (mC (.int 2))) (mC (.str (PySem.Str.ofString ""))) l M x "" (ix_run _ _ _ _ _ _ _ v6 rfl rfl) rfl
    rw [decide_eq_true (ht p x w rfl)] at c2
    rw [e_and, e_bnd, c]
    show mOr _ _ ⟨l, M⟩ = _
    rw [e_or, e_bnd, c2]
    rfl
  | blank p =>
    have c := eq_runE (α := String) (by decide) (mIx (mVar 6) (mC (.int 0))) (mC (.str (PySem.Str.ofString "cell"))) l M "cell" "cell" (ix_run _ _ _ _ _ _ _ v6 rfl rfl) rfl
    have c2 := ne_run (α := String) (by decide) (mIx (mVar 6) (mC (.int 2))) (mC (.str (PySem.Str.ofString ""))) l M "" "" (ix_run _ _ _ _ _ _ _ v6 rfl rfl) rfl
    have c3 : mDin false (mIx (mVar 6) (mC (.int 1))) (mIx (mVar 4) (mC (.int 2))) ⟨l, M⟩ = some (.ok (.p (.bl (look t.c p).isSome)) M) := by
      have i1 : mIx (mVar 6) (mC (.int 1)) ⟨l, M⟩ = some (.ok (.p (En.en p)) M) := ix_run _ _ _ _ _ _ _ v6 rfl rfl
      rw [e_din, e_bnd, i1]
      dsimp only
      rw [e_pur, e_bnd, ix_book t 4 l M 2 _ h4 rfl]
      dsimp only
      rw [e_dinK]
      dsimp only
      rw [getM_en]
      cases look t.c p <;> rfl
    rw [e_and, e_bnd, c]
    show mOr _ _ ⟨l, M⟩ = _
    rw [e_or, e_bnd, c2]
    exact c3
  | rule i r => exact nk "rule" _ rfl (by decide) rfl
  | unrule i => exact nk "unrule" _ rfl (by decide) rfl
  | grant g => exact nk "grant" _ rfl (by decide) rfl
  | revoke i x => exact nk "revoke" _ rfl (by decide) rfl
theorem o_loop (W : Dw sv N Iv) (x0 x7 x8 : Option DV) (b : Bk) : ∀ (k n : Nat) (o t : Bk) (i : Int) (x5 x6 : Option DV) (M : List O), n + k ≤ 1000 → Bks n b o t → Iv M → ∃ (o' t' : Bk) (y5 y6 : Option DV) (M' : List O), loopS (gN 5) oStep (DL.intsFrom i k) ⟨L9 x0 sv b.d o.d t.d x5 x6 x7 x8, M⟩ = some (.nx, ⟨L9 x0 sv b.d o'.d t'.d y5 y6 x7 x8, M'⟩) ∧ Iv M' ∧ Bks (n + k) b o' t'
  | 0, n, o, t, i, x5, x6, M, _, hb, h => ⟨o, t, x5, x6, M, by rw [ints0]; rfl, h, hb⟩
  | k + 1, n, o, t, i, x5, x6, M, hn, hb, h => by
    obtain ⟨e, M1, e1, d1, he⟩ := edit_run W o (by omega) hb.qo M h
    have dn := done_eq hb.qo (by omega) he
    have s1 := asg_run _ (gN 6) (L9 x0 sv b.d o.d t.d (some (.p (.int i))) x6 x7 x8) M M1 _ ⟨L9 x0 sv b.d o.d t.d (some (.p (.int i))) (some (.p e.d)) x7 x8, M1⟩ (cB2 m_l_edit (mVar 1) (mVar 3) _ _ _ _ _ _ _ _ rfl rfl e1) rfl
    have s2 := asg_run _ (gN 3) (L9 x0 sv b.d o.d t.d (some (.p (.int i))) (some (.p e.d)) x7 x8) M1 M1 _ ⟨L9 x0 sv b.d (done o e).d t.d (some (.p (.int i))) (some (.p e.d)) x7 x8, M1⟩ (cA2' m_l_done (mVar 3) (mVar 6) _ M1 M1 M1 _ _ _ rfl rfl dn) rfl
    obtain ⟨q, M2, e3, d2, _⟩ := take1 W (L9 x0 sv b.d (done o e).d t.d (some (.p (.int i))) (some (.p e.d)) x7 x8) M1 (mVar 1) (mC (.int 4)) 4 rfl rfl (by decide) (by decide) d1
    have c1 : mBin dEq (mCallB 2 m_l_take (aCons (mVar 1) (aCons (mC (.int 4)) aNil))) (mC (.int 0)) ⟨L9 x0 sv b.d (done o e).d t.d (some (.p (.int i))) (some (.p e.d)) x7 x8, M1⟩ = some (.ok (.p (.bl (decide (q = 0)))) M2) := bin2 dEq _ _ _ _ _ _ _ (.int 0) _ e3 rfl (by simp [dEq])
    have c2 := test_run t e (fun p x w hh => text_ne (by have := he.f; rw [hh] at this; exact this.2.1)) (L9 x0 sv b.d (done o e).d t.d (some (.p (.int i))) (some (.p e.d)) x7 x8) M2 rfl rfl
    have c3 := and_bnd _ _ _ _ _ M2 _ _ c1 c2
    have g : gN 5 (.p (.int i)) ⟨L9 x0 sv b.d o.d t.d x5 x6 x7 x8, M⟩ = some ⟨L9 x0 sv b.d o.d t.d (some (.p (.int i))) x6 x7 x8, M⟩ := rfl
    have pre : ∀ r, (if (decide (q = 0) && fitsT t e) = true then sAsg (mCallA 2 m_l_done (aCons (mVar 4) (aCons (mVar 6) aNil))) (gN 4) ⟨L9 x0 sv b.d (done o e).d t.d (some (.p (.int i))) (some (.p e.d)) x7 x8, M2⟩ else sNil ⟨L9 x0 sv b.d (done o e).d t.d (some (.p (.int i))) (some (.p e.d)) x7 x8, M2⟩) = r → oStep ⟨L9 x0 sv b.d o.d t.d (some (.p (.int i))) x6 x7 x8, M⟩ = r := fun r hh => (seq_nx _ _ _ _ s1).trans ((seq_nx _ _ _ _ s2).trans ((nsif _ c3).trans hh))
    by_cases hq : (decide (q = 0) && fitsT t e) = true
    · have ft : EOk t e := fits_ok he (by rw [Bool.and_eq_true] at hq; exact hq.2)
      have s4 := asg_run _ (gN 4) (L9 x0 sv b.d (done o e).d t.d (some (.p (.int i))) (some (.p e.d)) x7 x8) M2 M2 _ ⟨L9 x0 sv b.d (done o e).d (done t e).d (some (.p (.int i))) (some (.p e.d)) x7 x8, M2⟩ (cA2' m_l_done (mVar 4) (mVar 6) _ M2 M2 M2 _ _ _ rfl rfl (done_eq hb.qt (by omega) ft)) rfl
      obtain ⟨o', t', y5, y6, M', e5, d5, hb'⟩ := o_loop W x0 x7 x8 b k (n + 1) (done o e) (done t e) (i + 1) (some (.p (.int i))) (some (.p e.d)) M2 (by omega) ⟨hb.qb, done_ok hb.qo he, done_ok hb.qt ft, pre_done hb.po he, pre_done hb.pt ft⟩ d2
      refine ⟨o', t', y5, y6, M', ?_, d5, by rw [show n + (k + 1) = n + 1 + k by omega]; exact hb'⟩
      rw [intsS, loopS_cons, g]
      dsimp only
      rw [pre _ ((if_pos hq).trans s4)]
      exact e5
    · obtain ⟨o', t', y5, y6, M', e5, d5, hb'⟩ := o_loop W x0 x7 x8 b k (n + 1) (done o e) t (i + 1) (some (.p (.int i))) (some (.p e.d)) M2 (by omega) ⟨hb.qb, done_ok hb.qo he, hb.qt.mono (Nat.le_succ _), pre_done hb.po he, hb.pt⟩ d2
      refine ⟨o', t', y5, y6, M', ?_, d5, by rw [show n + (k + 1) = n + 1 + k by omega]; exact hb'⟩
      rw [intsS, loopS_cons, g]
      dsimp only
      rw [pre (some (.nx, ⟨L9 x0 sv b.d (done o e).d t.d (some (.p (.int i))) (some (.p e.d)) x7 x8, M2⟩)) ((if_neg hq).trans rfl)]
      exact e5
theorem t_loop2 (W : Dw sv N Iv) (x0 x6 x7 x8 : Option DV) (b o : Bk) : ∀ (k n : Nat) (t : Bk) (i : Int) (x5 : Option DV) (M : List O), n + k ≤ 1000 → Bks n b o t → Iv M → ∃ (t' : Bk) (y5 : Option DV) (M' : List O), loopS (gN 5) (sAsg (mCallA 2 m_l_done (aCons (mVar 4) (aCons (mCallB 2 m_l_edit (aCons (mVar 1) (aCons (mVar 4) aNil))) aNil))) (gN 4)) (DL.intsFrom i k) ⟨L9 x0 sv b.d o.d t.d x5 x6 x7 x8, M⟩ = some (.nx, ⟨L9 x0 sv b.d o.d t'.d y5 x6 x7 x8, M'⟩) ∧ Iv M' ∧ Bks (n + k) b o t'
  | 0, n, t, i, x5, M, _, hb, h => ⟨t, x5, M, by rw [ints0]; rfl, h, hb⟩
  | k + 1, n, t, i, x5, M, hn, hb, h => by
    obtain ⟨e, M1, e1, d1, he⟩ := edit_run W t (by omega) hb.qt M h
    obtain ⟨t', y5, M', e2, d2, hb'⟩ := t_loop2 W x0 x6 x7 x8 b o k (n + 1) (done t e) (i + 1) (some (.p (.int i))) M1 (by omega) ⟨hb.qb, hb.qo.mono (Nat.le_succ _), done_ok hb.qt he, hb.po, pre_done hb.pt he⟩ d1
    refine ⟨t', y5, M', ?_, d2, by rw [show n + (k + 1) = n + 1 + k by omega]; exact hb'⟩
    rw [intsS, loopS_cons]
    have s1 := asg_run _ (gN 4) (L9 x0 sv b.d o.d t.d (some (.p (.int i))) x6 x7 x8) M M1 _ ⟨L9 x0 sv b.d o.d (done t e).d (some (.p (.int i))) x6 x7 x8, M1⟩ (cA2' m_l_done (mVar 4) _ _ M M M1 _ _ _ rfl (cB2 m_l_edit (mVar 1) (mVar 4) _ M M M M1 _ _ _ rfl rfl e1) (done_eq hb.qt (by omega) he)) rfl
    have g : gN 5 (.p (.int i)) ⟨L9 x0 sv b.d o.d t.d x5 x6 x7 x8, M⟩ = some ⟨L9 x0 sv b.d o.d t.d (some (.p (.int i))) x6 x7 x8, M⟩ := rfl
    rw [g]
    dsimp only
    rw [s1]
    exact e2
end
end Law
namespace Law
open PySem L2 DL
theorem m3_of {n : Nat} {b o t : Bk} (hn : n ≤ 1000) (hb : BOk n b) (ho : BOk n o) (ht : BOk n t) (l1 : b.g.length ≤ o.g.length) (l2 : b.g.length ≤ t.g.length) : M3 b o t :=
  ⟨hb.k, ho.k, ht.k, fun q hq => (ho.e q hq).1, fun q hq => (ht.e q hq).1, l1, l2, Nat.le_trans ho.g hn, Nat.le_trans ht.g hn, Nat.le_trans ho.r hn, Nat.le_trans ht.r hn⟩
theorem tok_of {P0 : Addr} {n : Nat} {sv : DV} {M : List O} (d : Db [O.tbl P0 (lamq (PySem.Str.ofString "_law_spots"))] n sv M) : TOk [P0] M := by
  refine ⟨by rw [d.tb 0 Nat.one_pos]; rfl, ?_⟩
  rw [d.len]; exact d.cl
theorem law_end (P0 : Addr) {n : Nat} {b o t : Bk} {M : List O} (hB : TOk [P0] M) (hn : n ≤ 24) (hb : Bks n b o t) (h12 : 12 ≤ n) (x0 : Option DV) (sv : DV) (x5 x6 : Option DV) : ∃ s, b_law_5 [P0] ⟨L9 x0 sv b.d o.d t.d x5 x6 none none, M⟩ = some (.rt (.p (.bl true)), s) := by
  have bb := hb.qb.mono h12
  obtain ⟨rs, hr⟩ := repr_three bb hb.qo hb.qt hn
  have m1 := m3_of (by omega) bb hb.qo hb.qt hb.po.le hb.pt.le
  have m2 := m3_of (by omega) bb hb.qt hb.qo hb.pt.le hb.po.le
  have m3 := m3_of (by omega) bb hb.qo bb hb.po.le (Nat.le_refl _)
  have m4 := m3_of (by omega) bb bb hb.qt (Nat.le_refl _) hb.pt.le
  have m5 := m3_of (by omega) bb hb.qo hb.qo hb.po.le hb.po.le
  have rp : ∀ x7 x8, mCB (g1 dReprL) (aCons (disp .tup (aCons (mVar 2) (aCons (mVar 3) (aCons (mVar 4) aNil)))) aNil) ⟨L9 x0 sv b.d o.d t.d x5 x6 x7 x8, M⟩ = some (.ok (.p (.str rs)) M) := fun _ _ => cb1_run dReprL _ _ _ (.tup [b.d, o.d, t.d]) (.str rs) rfl hr
  unfold b_law_5
  rw [seq_asg _ (gN 7) _ _ ⟨L9 x0 sv b.d o.d t.d x5 x6 (some (.p (.str rs))) none, M⟩ _ M (rp _ _) rfl]
  unfold b_law_6
  rw [seq_asg _ (gN 8) _ _ ⟨L9 x0 sv b.d o.d t.d x5 x6 (some (.p (.str rs))) (some (.p (mRes b o t))), M⟩ _ M (cB3 (m_l_merged [P0]) (mVar 2) (mVar 3) (mVar 4) _ M M M M M _ _ _ _ rfl rfl rfl (l_merged_eq b o t hB m1)) rfl]
  generalize hl : L9 x0 sv b.d o.d t.d x5 x6 (some (.p (.str rs))) (some (.p (mRes b o t))) = l
  have v2 : mVar 2 ⟨l, M⟩ = some (.ok (.p b.d) M) := by rw [← hl]; rfl
  have v3 : mVar 3 ⟨l, M⟩ = some (.ok (.p o.d) M) := by rw [← hl]; rfl
  have v4 : mVar 4 ⟨l, M⟩ = some (.ok (.p t.d) M) := by rw [← hl]; rfl
  have v7 : mVar 7 ⟨l, M⟩ = some (.ok (.p (.str rs)) M) := by rw [← hl]; rfl
  have v8 : mVar 8 ⟨l, M⟩ = some (.ok (.p (mRes b o t)) M) := by rw [← hl]; rfl
  have rp2 : mCB (g1 dReprL) (aCons (disp .tup (aCons (mVar 2) (aCons (mVar 3) (aCons (mVar 4) aNil)))) aNil) ⟨l, M⟩ = some (.ok (.p (.str rs)) M) := by rw [← hl]; exact rp _ _
  have i5 : ∀ i (x : Bk), mVar i ⟨l, M⟩ = some (.ok (.p x.d) M) → mIx (mVar i) (mC (.int 5)) ⟨l, M⟩ = some (.ok (.p (En.en x.g)) M) := fun i x h => ix_run _ _ _ _ _ _ _ h rfl rfl
  clear rp hl
  have skip : ∀ (c : EM) (a k : SM), c ⟨l, M⟩ = some (.ok (.p (.bl false)) M) → sSeq (sIf c a sNil) k ⟨l, M⟩ = k ⟨l, M⟩ := fun c a k h => seq_nx _ _ _ _ ((nsif _ h).trans (if_neg Bool.false_ne_true))
  unfold b_law_7
  have n1 := bin_run dNeB _ _ _ _ _ _ _ (cA3' m_merged _ _ _ _ _ _ _ _ _ _ _ _ v2 v3 v4 (merged_eq b o t m1)) v8 (ne_mRes m1)
  have n2 := bin_run dNeB _ _ _ _ _ _ (.bl false) (cA3' m_merged _ _ _ _ _ _ _ _ _ _ _ _ v2 v4 v3 (merged_eq b t o m2)) v8 (by rw [← mRes_comm b o t]; exact ne_mRes m1)
  rw [skip _ _ _ (or2 _ _ _ _ _ _ n1 n2)]
  unfold b_law_8
  have hg : o.g.length ≤ 1000 := Nat.le_trans hb.qo.g (by omega)
  have hg2 : t.g.length ≤ 1000 := Nat.le_trans hb.qt.g (by omega)
  have n3 := bin_run dNe _ _ _ _ _ _ _ (cA2' m_touched _ _ _ _ _ _ _ _ _ v2 v3 (touched_eq b o bb.k hb.qo.k hb.po hg)) (cB2 (m_l_changes [P0]) _ _ _ _ _ _ _ _ _ _ v2 v3 (changes_eq hB b o bb.k hb.qo.k hg)) (ne_chs b o)
  have n4 := bin_run dNe _ _ _ _ _ _ _ (cA2' m_touched _ _ _ _ _ _ _ _ _ v2 v4 (touched_eq b t bb.k hb.qt.k hb.pt hg2)) (cB2 (m_l_changes [P0]) _ _ _ _ _ _ _ _ _ _ v2 v4 (changes_eq hB b t bb.k hb.qt.k hg2)) (ne_chs b t)
  rw [skip _ _ _ (or2 _ _ _ _ _ _ n3 n4)]
  unfold b_law_9
  have tp : ∀ i (x : Bk), mVar i ⟨l, M⟩ = some (.ok (.p x.d) M) → disp .tup (aCons (mVar i) (aCons (disp .lst aNil) aNil)) ⟨l, M⟩ = some (.ok (.p (.tup [x.d, .lst []])) M) := fun i x h => t2 _ _ _ _ _ _ _ _ h rfl
  have n5 := bin_run dNeB _ _ _ _ _ _ _ (cA3' m_merged _ _ _ _ _ _ _ _ _ _ _ _ v2 v3 v2 (merged_eq b o b m3)) (tp 3 o v3) (ne_bob hb.po hb.qo.k)
  have n6 := bin_run dNeB _ _ _ _ _ _ _ (cA3' m_merged _ _ _ _ _ _ _ _ _ _ _ _ v2 v2 v4 (merged_eq b b t m4)) (tp 4 t v4) (ne_bbt hb.pt hb.qt.k)
  rw [skip _ _ _ (or2 _ _ _ _ _ _ n5 n6)]
  unfold b_law_10
  have c1 := eq_runE (α := Int) (by decide) _ _ l M (o.g.length : Int) (b.g.length : Int) (len_of _ _ _ o.g (i5 3 o v3)) (len_of _ _ _ b.g (i5 2 b v2))
  have c2 : mAnd (mBin dEq (mCB dLen (aCons (mIx (mVar 3) (mC (.int 5))) aNil)) (mCB dLen (aCons (mIx (mVar 2) (mC (.int 5))) aNil))) (mBin dNeB (mCallA 3 m_merged (aCons (mVar 2) (aCons (mVar 3) (aCons (mVar 3) aNil)))) (disp .tup (aCons (mVar 3) (aCons (disp .lst aNil) aNil)))) ⟨l, M⟩ = some (.ok (.p (.bl false)) M) := by
    rw [e_and, e_bnd, c1]
    by_cases q : (o.g.length : Int) = (b.g.length : Int)
    · rw [decide_eq_true q]
      exact bin_run dNeB _ _ _ _ _ _ _ (cA3' m_merged _ _ _ _ _ _ _ _ _ _ _ _ v2 v3 v3 (merged_eq b o o m5)) (tp 3 o v3) (ne_boo hb.po hb.qo.k (by omega))
    · rw [decide_eq_false q]
      rfl
  rw [skip _ _ _ c2]
  unfold b_law_11
  refine ⟨⟨l, M⟩, ret_run _ _ _ _ (bin_run dEq _ _ _ _ _ _ _ rp2 v7 ?_)⟩
  have h : scalD (.str rs) (.str rs) = some true := by unfold scalD; simp
  unfold dEq eqD
  rw [h]; rfl
theorem law_ok (Fa Ts : List Addr) (ns : List Int) (hC : Fa = []) (hp : Ts.length = lamNms.length) (hl : ns.length ≤ 63) (hb : ∀ z ∈ ns, Builtin.Int.intBits z ≤ 1048576) : ∃ s, b_law (Fa ++ Ts) ⟨slotsOf 9 ([D.scr (ns.map .int)].map .p), tbls Ts lamNms⟩ = some (.rt (.p (.bl true)), s) := by
  subst hC
  obtain ⟨P0, rfl⟩ : ∃ P0, Ts = [P0] := by
    match Ts, hp with
    | [P0], _ => exact ⟨P0, rfl⟩
  have ht : tbls [P0] lamNms = [.tbl P0 (lamq (PySem.Str.ofString "_law_spots"))] := rfl
  rw [ht]
  show ∃ s, b_law [P0] _ = _
  obtain ⟨n, sv, B0, e0, d0⟩ := state_Ts [.tbl P0 (lamq (PySem.Str.ofString "_law_spots"))] (fun o ho => ⟨_, _, List.mem_singleton.mp ho⟩) ns hl
  have hs : slotsOf 9 ([D.scr (ns.map .int)].map .p) = [some (.p (.scr (ns.map .int))), none, none, none, none, none, none, none, none] := rfl
  rw [hs]
  have a0 : mCallB 1 m_l_state (aCons (mVar 0) aNil) ⟨[some (.p (.scr (ns.map .int))), none, none, none, none, none, none, none, none], [.tbl P0 (lamq (PySem.Str.ofString "_law_spots"))]⟩ = some (.ok sv B0) := cB1 m_l_state _ _ _ _ _ _ _ rfl e0
  generalize hx : (some (DV.p (.scr (ns.map .int))) : Option DV) = x0 at *
  generalize hTb : [O.tbl P0 (lamq (PySem.Str.ofString "_law_spots"))] = Tb at *
  have W := Dw.db Tb n sv
  unfold b_law
  rw [seq_asg _ (gN 1) _ _ ⟨[x0, some sv, none, none, none, none, none, none, none], B0⟩ sv B0 a0 rfl]
  unfold b_law_1
  obtain ⟨r, M1, e1, d1, r0, r1⟩ := take1 W [x0, some sv, none, none, none, none, none, none, none] B0 (mVar 1) (mC (.int 4)) 4 rfl rfl (by decide) (by decide) d0
  obtain ⟨b, M2, e2, d2, hbk⟩ := book_run W (1 + r) 11 (by omega) (by omega) (by decide) (by decide) M1 d1
  have hbk : BOk 12 b := hbk
  have a1 := bin2 dAdd (mC (.int 1)) _ [x0, some sv, none, none, none, none, none, none, none] B0 B0 M1 (.int 1) (.int r) (.int (1 + r)) rfl e1 rfl
  rw [seq_asg _ (gN 2) _ _ ⟨[x0, some sv, some (.p b.d), none, none, none, none, none, none], M2⟩ _ M2 (cB3 m_l_book (mVar 1) _ (mC (.int 11)) _ B0 B0 M1 M1 M2 _ _ _ _ rfl a1 rfl e2) rfl]
  unfold b_law_2
  have s2 : sPar 3 4 (aCons (mVar 2) (aCons (mVar 2) aNil)) ⟨[x0, some sv, some (.p b.d), none, none, none, none, none, none], M2⟩ = some (.nx, ⟨L9 x0 sv b.d b.d b.d none none none none, M2⟩) := rfl
  rw [seq_nx _ _ _ _ s2]
  unfold b_law_3
  obtain ⟨q, M3, e3, d3, q0, q1⟩ := take1 W (L9 x0 sv b.d b.d b.d none none none none) M2 (mVar 1) (mC (.int 7)) 7 rfl rfl (by decide) (by decide) d2
  obtain ⟨o, t, y5, y6, M4, e4, d4, h4⟩ := o_loop W x0 none none b q.toNat 12 b b 0 none none M3 (by omega) ⟨hbk, hbk, hbk, pre_refl b, pre_refl b⟩ d3
  rw [e_seq, e_for, e_lift, rngT _ _ _ _ _ e3 q0 (by omega)]
  have e4 : loopS (gN 5) oStep _ _ = _ := e4
  have e4' := e4
  unfold oStep at e4'
  dsimp only
  rw [e4']
  dsimp only
  unfold b_law_4
  obtain ⟨p, M5, e5, d5, p0, p1⟩ := take1 W (L9 x0 sv b.d o.d t.d y5 y6 none none) M4 (mVar 1) (mC (.int 7)) 7 rfl rfl (by decide) (by decide) d4
  obtain ⟨t', z5, M6, e6, d6, h6⟩ := t_loop2 W x0 y6 none none b o p.toNat (12 + q.toNat) t 0 y5 M5 (by omega) h4 d5
  rw [e_seq, e_for, e_lift, rngT _ _ _ _ _ e5 p0 (by omega)]
  dsimp only
  rw [e6]
  dsimp only
  subst hTb
  exact law_end P0 (tok_of d6) (by omega) h6 (by omega) x0 sv z5 y6
end Law

def PySem.W.Fast.tw10662359692764983488 : Nat := 0
def PySem.W.Fast.tw17098781842295513344 : Nat := 0
def PySem.W.Fast.tw18127329610741919264 : Nat := 0
def PySem.W.Fast.tw7257237477947579232 : Nat := 0
def PySem.W.Fast.tw8118004627397989344 : Nat := 0
def PySem.W.Fast.tw1822740686957537377 : Nat := 0
def PySem.W.Fast.tw1356118648788824417 : Nat := 0
def PySem.W.Fast.tw9790713087992911329 : Nat := 0
def PySem.W.Fast.tw5181462365751470753 : Nat := 0
def PySem.W.Fast.tw14856071513697544322 : Nat := 0
def PySem.W.Fast.tw2383629844307497186 : Nat := 0
def PySem.W.Fast.tw9499612913990667682 : Nat := 0
def PySem.W.Fast.tw7523035916166738434 : Nat := 0
def PySem.W.Fast.tw13842741489160818306 : Nat := 0
def PySem.W.Fast.tw13154157073431724834 : Nat := 0
def PySem.W.Fast.tw12775476714509523874 : Nat := 0
def PySem.W.Fast.tw11767640700780670979 : Nat := 0
def PySem.W.Fast.tw10890758881248922819 : Nat := 0
def PySem.W.Fast.tw2661419322080266499 : Nat := 0
def PySem.W.Fast.tw3032252302914464291 : Nat := 0
def PySem.W.Fast.tw6224374394340427427 : Nat := 0
def PySem.W.Fast.tw16511840730403896035 : Nat := 0
def PySem.W.Fast.tw11051701550197176356 : Nat := 0
def PySem.W.Fast.tw18130591177781124228 : Nat := 0
def PySem.W.Fast.tw13824731663962532036 : Nat := 0
def PySem.W.Fast.tw13529278154034285860 : Nat := 0
def PySem.W.Fast.tw1259697673951127940 : Nat := 0
def PySem.W.Fast.tw16795528364808059460 : Nat := 0
def PySem.W.Fast.tw870564788206128804 : Nat := 0
def PySem.W.Fast.tw10557298266420739812 : Nat := 0
def PySem.W.Fast.tw5812640301842256165 : Nat := 0
def PySem.W.Fast.tw9660266719645540773 : Nat := 0
def PySem.W.Fast.tw8810706078955064837 : Nat := 0
def PySem.W.Fast.tw3722445596151610534 : Nat := 0
def PySem.W.Fast.tw15587436522832239974 : Nat := 0
def PySem.W.Fast.tw5561266109453491590 : Nat := 0
def PySem.W.Fast.tw2553748995986510566 : Nat := 0
def PySem.W.Fast.tw7864581098572569639 : Nat := 0
def PySem.W.Fast.tw11529228515080575079 : Nat := 0
def PySem.W.Fast.tw16711611871626236039 : Nat := 0
def PySem.W.Fast.tw3905396046332035303 : Nat := 0
def PySem.W.Fast.tw4813010307428916519 : Nat := 0
def PySem.W.Fast.tw13299040868635754823 : Nat := 0
def PySem.W.Fast.tw7258353349185101127 : Nat := 0
def PySem.W.Fast.tw13150968474900916743 : Nat := 0
def PySem.W.Fast.tw10187687614535486151 : Nat := 0
def PySem.W.Fast.tw10339797818912733192 : Nat := 0
def PySem.W.Fast.tw16316429959086417960 : Nat := 0
def PySem.W.Fast.tw651449170468508808 : Nat := 0
def PySem.W.Fast.tw575995165290179336 : Nat := 0
def PySem.W.Fast.tw11047582319126822953 : Nat := 0
def PySem.W.Fast.tw13627594445565464681 : Nat := 0
def PySem.W.Fast.tw10857738932942215465 : Nat := 0
def PySem.W.Fast.tw5276805701245143529 : Nat := 0
def PySem.W.Fast.tw1759347336953225865 : Nat := 0
def PySem.W.Fast.tw5876043707541895913 : Nat := 0
def PySem.W.Fast.tw13650204959410646889 : Nat := 0
def PySem.W.Fast.tw1114541527638494185 : Nat := 0
def PySem.W.Fast.tw7842169074688573450 : Nat := 0
def PySem.W.Fast.tw13120742561356617226 : Nat := 0
def PySem.W.Fast.tw14178753043980950026 : Nat := 0
def PySem.W.Fast.tw5196545560563959306 : Nat := 0
def PySem.W.Fast.tw502142228061690442 : Nat := 0
def PySem.W.Fast.tw3507892351464685162 : Nat := 0
def PySem.W.Fast.tw10445060558709827242 : Nat := 0
def PySem.W.Fast.tw7301705224849887978 : Nat := 0
def PySem.W.Fast.tw13168751840050886538 : Nat := 0
def PySem.W.Fast.tw4198276202303349067 : Nat := 0
def PySem.W.Fast.tw9119311585044533771 : Nat := 0
def PySem.W.Fast.tw8796958593693479627 : Nat := 0
def PySem.W.Fast.tw7352283611820496012 : Nat := 0
def PySem.W.Fast.tw17252174230729822412 : Nat := 0
def PySem.W.Fast.tw9441213529889237228 : Nat := 0
def PySem.W.Fast.tw14545802604962273804 : Nat := 0
def PySem.W.Fast.tw11103946709619586732 : Nat := 0
def PySem.W.Fast.tw5477589329516389324 : Nat := 0
def PySem.W.Fast.tw12715062870023404717 : Nat := 0
def PySem.W.Fast.tw5684364227416626669 : Nat := 0
def PySem.W.Fast.tw10637653464164773453 : Nat := 0
def PySem.W.Fast.tw14097337413697028909 : Nat := 0
def PySem.W.Fast.tw7899326108053224462 : Nat := 0
def PySem.W.Fast.tw10232696618098762990 : Nat := 0
def PySem.W.Fast.tw1154180167174204014 : Nat := 0
def PySem.W.Fast.tw16235287846673844078 : Nat := 0
def PySem.W.Fast.tw5709483071575452558 : Nat := 0
def PySem.W.Fast.tw13562060694550051790 : Nat := 0
def PySem.W.Fast.tw16786084410987437038 : Nat := 0
def PySem.W.Fast.tw12777848902618780719 : Nat := 0
def PySem.W.Fast.tw14468837282998458511 : Nat := 0
def PySem.W.Fast.tw11808650286552337135 : Nat := 0
def PySem.W.Fast.tw7240611852600927023 : Nat := 0
def PySem.W.Fast.tw10732687664102620079 : Nat := 0
def PySem.W.Fast.tw2832499046416362447 : Nat := 0
def PySem.W.Fast.tw11757792077512540752 : Nat := 0
def PySem.W.Fast.tw2642033840997955312 : Nat := 0
def PySem.W.Fast.tw3134362846252583760 : Nat := 0
def PySem.W.Fast.tw6824197929932902641 : Nat := 0
def PySem.W.Fast.tw15247725512411289937 : Nat := 0
def PySem.W.Fast.tw6602783115830721905 : Nat := 0
def PySem.W.Fast.tw11542560775608454993 : Nat := 0
def PySem.W.Fast.tw11619377097321892274 : Nat := 0
def PySem.W.Fast.tw18163204521914646994 : Nat := 0
def PySem.W.Fast.tw10439291678742382354 : Nat := 0
def PySem.W.Fast.tw10032151900056572754 : Nat := 0
def PySem.W.Fast.tw2384801877548932050 : Nat := 0
def PySem.W.Fast.tw9513556019411307923 : Nat := 0
def PySem.W.Fast.tw2864214853465362035 : Nat := 0
def PySem.W.Fast.tw9034534847641239251 : Nat := 0
def PySem.W.Fast.tw8997089797159670004 : Nat := 0
def PySem.W.Fast.tw1777750118166275572 : Nat := 0
def PySem.W.Fast.tw6563259727865931348 : Nat := 0
def PySem.W.Fast.tw16611977301685381780 : Nat := 0
def PySem.W.Fast.tw6810645433363706772 : Nat := 0
def PySem.W.Fast.tw13344092919769458005 : Nat := 0
def PySem.W.Fast.tw4285340524093069717 : Nat := 0
def PySem.W.Fast.tw14634383792932928309 : Nat := 0
def PySem.W.Fast.tw12668562055851291509 : Nat := 0
def PySem.W.Fast.tw13992856429482682261 : Nat := 0
def PySem.W.Fast.tw14611324228733678710 : Nat := 0
def PySem.W.Fast.tw17671192840558476662 : Nat := 0
def PySem.W.Fast.tw593181895439441494 : Nat := 0
def PySem.W.Fast.tw16901541136643881590 : Nat := 0
def PySem.W.Fast.tw14902700170638379734 : Nat := 0
def PySem.W.Fast.tw7046994284021693783 : Nat := 0
def PySem.W.Fast.tw835866190942160375 : Nat := 0
def PySem.W.Fast.tw16216965973482318327 : Nat := 0
def PySem.W.Fast.tw14177891557942970039 : Nat := 0
def PySem.W.Fast.tw9961570977195184855 : Nat := 0
def PySem.W.Fast.tw15688703694070965015 : Nat := 0
def PySem.W.Fast.tw5030300567028669239 : Nat := 0
def PySem.W.Fast.tw12212893760405424664 : Nat := 0
def PySem.W.Fast.tw2200356323033713176 : Nat := 0
def PySem.W.Fast.tw10421546933896102937 : Nat := 0
def PySem.W.Fast.tw4018139395988546713 : Nat := 0
def PySem.W.Fast.tw14065724867627098489 : Nat := 0
def PySem.W.Fast.tw11455860737960708697 : Nat := 0
def PySem.W.Fast.tw13830940830195723897 : Nat := 0
def PySem.W.Fast.tw2745882774269118297 : Nat := 0
def PySem.W.Fast.tw16318666396812770201 : Nat := 0
def PySem.W.Fast.tw2867577763949682585 : Nat := 0
def PySem.W.Fast.tw4429311951153115065 : Nat := 0
def PySem.W.Fast.tw1761831371367507258 : Nat := 0
def PySem.W.Fast.tw9909967655041472890 : Nat := 0
def PySem.W.Fast.tw10269779876786592218 : Nat := 0
def PySem.W.Fast.tw15465512413273350778 : Nat := 0
def PySem.W.Fast.tw2336929935290441402 : Nat := 0
def PySem.W.Fast.tw9223377146339954394 : Nat := 0
def PySem.W.Fast.tw2004352552907653946 : Nat := 0
def PySem.W.Fast.tw3692616630487574458 : Nat := 0
def PySem.W.Fast.tw7143972471332381243 : Nat := 0
def PySem.W.Fast.tw5772149051051565691 : Nat := 0
def PySem.W.Fast.tw500011453678736059 : Nat := 0
def PySem.W.Fast.tw5395451832507688955 : Nat := 0
def PySem.W.Fast.tw3323913816229417852 : Nat := 0
def PySem.W.Fast.tw15235952797023426653 : Nat := 0
def PySem.W.Fast.tw475452017552870525 : Nat := 0
def PySem.W.Fast.tw15244170327862287581 : Nat := 0
def PySem.W.Fast.tw14150846488026166557 : Nat := 0
def PySem.W.Fast.tw11869677262895341853 : Nat := 0
def PySem.W.Fast.tw3133674210960703997 : Nat := 0
def PySem.W.Fast.tw3879150976445667005 : Nat := 0
def PySem.W.Fast.tw17670708877760582846 : Nat := 0
def PySem.W.Fast.tw10386544077588835262 : Nat := 0
def PySem.W.Fast.tw7426439303286660447 : Nat := 0
def PySem.W.Fast.tw2375762093740817183 : Nat := 0
def PySem.W.Fast.tw826881598111446815 : Nat := 0
def PySem.W.Fast.tw12589397766810965923 : Nat := 0
open Lean in
local macro_rules
  | `(tactic| o_head $H) => do
    if (H.raw.find? fun s => s.isIdent && s.getId.eraseMacroScopes == `DL.sysHook).isSome then Macro.throwUnsupported
    `(tactic| o_head (DL.sysHook $H))
open PySem PySem.W PyProof.Rows in
set_option maxRecDepth 100000 in
set_option maxHeartbeats 0 in
theorem PySem.Challenge.cw_labelgrid_k73_merging_two_books_holds : PySem.Challenge.rw_labelgrid_k73_merging_two_books.Holds := by
  w_on; o_law; k_head; (case hw => w_witness2)
  k_fill
  refine DL.walk_dlTS (l := PySem.Challenge.rw_labelgrid_k73_merging_two_books) (k := 6) (x := "law") (qual := "law") (st := Law.s_law) (N := Law.n_law) (m := Law.b_law) (C := fun Fa => Fa = []) (nms := Law.lamNms) rfl rfl ⟨rfl, by decide, by decide⟩ (fun w h Y => PySem.W.km_in_of Y.1) (fun w h Y => Y.2) Law.sc_law ?F Law.law_ok
  case F =>
    intro w mg fa h Y KX G hmg
    have hT := PySem.W.km_tabs_of Y.1
    refine' Law.all_mk KX G hmg ?a0 ?l0 ?c0 ?k0 ?a1 ?l1 ?c1 ?k1 ?a2 ?l2 ?c2 ?k2 ?a3 ?l3 ?c3 ?k3 ?a4 ?l4 ?c4 ?k4 ?a5 ?l5 ?c5 ?k5 ?a6 ?l6 ?c6 ?k6 ?a7 ?l7 ?c7 ?k7 ?a8 ?l8 ?c8 ?k8 ?a9 ?l9 ?c9 ?k9 ?a10 ?l10 ?c10 ?k10 ?a11 ?l11 ?c11 ?k11 ?a12 ?l12 ?c12 ?k12 ?a13 ?l13 ?c13 ?k13 ?a14 ?l14 ?c14 ?k14 ?a15 ?l15 ?c15 ?k15 ?a16 ?l16 ?c16 ?k16 ?a17 ?l17 ?c17 ?k17 ?a18 ?l18 ?c18 ?k18 ?a19 ?l19 ?c19 ?k19 ?a20 ?l20 ?c20 ?k20 ?a21 ?l21 ?c21 ?k21 ?a22 ?l22 ?c22 ?k22 ?a23 ?l23 ?c23 ?k23 ?a24 ?l24 ?c24 ?k24 ?a25 ?l25 ?c25 ?k25 ?a26 ?l26 ?c26 ?k26 ?a27 ?l27 ?c27 ?k27 ?z_abs ?z_dict ?z_enumerate ?z_int ?z_len ?z_list ?z_range ?z_repr ?z_sorted ?h11 ?u11 ?t11
    (case a0 => k_is)
    (case l0 => k_is)
    (case c0 => k_is)
    (case k0 => k_is)
    (case a1 => k_is)
    (case l1 => k_is)
    (case c1 => k_is)
    (case k1 => k_is)
    (case a2 => k_is)
    (case l2 => k_is)
    (case c2 => k_is)
    (case k2 => k_is)
    (case a3 => k_is)
    (case l3 => k_is)
    (case c3 => k_is)
    (case k3 => k_is)
    (case a4 => k_is)
    (case l4 => k_is)
    (case c4 => k_is)
    (case k4 => k_is)
    (case a5 => k_is)
    (case l5 => k_is)
    (case c5 => k_is)
    (case k5 => k_is)
    (case a6 => k_is)
    (case l6 => k_is)
    (case c6 => k_is)
    (case k6 => k_is)
    (case a7 => k_is)
    (case l7 => k_is)
    (case c7 => k_is)
    (case k7 => k_is)
    (case a8 => k_is)
    (case l8 => k_is)
    (case c8 => k_is)
    (case k8 => k_is)
    (case a9 => k_is)
    (case l9 => k_is)
    (case c9 => k_is)
    (case k9 => k_is)
    (case a10 => k_is)
    (case l10 => k_is)
    (case c10 => k_is)
    (case k10 => k_is)
    (case a11 => k_is)
    (case l11 => k_is)
    (case c11 => k_is)
    (case k11 => k_is)
    (case a12 => k_is)
    (case l12 => k_is)
    (case c12 => k_is)
    (case k12 => k_is)
    (case a13 => k_is)
    (case l13 => k_is)
    (case c13 => k_is)
    (case k13 => k_is)
    (case a14 => k_is)
    (case l14 => k_is)
    (case c14 => k_is)
    (case k14 => k_is)
    (case a15 => k_is)
    (case l15 => k_is)
    (case c15 => k_is)
    (case k15 => k_is)
    (case a16 => k_is)
    (case l16 => k_is)
    (case c16 => k_is)
    (case k16 => k_is)
    (case a17 => k_is)
    (case l17 => k_is)
    (case c17 => k_is)
    (case k17 => k_is)
    (case a18 => k_is)
    (case l18 => k_is)
    (case c18 => k_is)
    (case k18 => k_is)
    (case a19 => k_is)
    (case l19 => k_is)
    (case c19 => k_is)
    (case k19 => k_is)
    (case a20 => k_is)
    (case l20 => k_is)
    (case c20 => k_is)
    (case k20 => k_is)
    (case a21 => k_is)
    (case l21 => k_is)
    (case c21 => k_is)
    (case k21 => k_is)
    (case a22 => k_is)
    (case l22 => k_is)
    (case c22 => k_is)
    (case k22 => k_is)
    (case a23 => k_is)
    (case l23 => k_is)
    (case c23 => k_is)
    (case k23 => k_is)
    (case a24 => k_is)
    (case l24 => k_is)
    (case c24 => k_is)
    (case k24 => k_is)
    (case a25 => k_is)
    (case l25 => k_is)
    (case c25 => k_is)
    (case k25 => k_is)
    (case a26 => k_is)
    (case l26 => k_is)
    (case c26 => k_is)
    (case k26 => k_is)
    (case a27 => k_is)
    (case l27 => k_is)
    (case c27 => k_is)
    (case k27 => k_is)
    (case z_abs => k_is)
    (case z_dict => k_is)
    (case z_enumerate => k_is)
    (case z_int => k_is)
    (case z_len => k_is)
    (case z_list => k_is)
    (case z_range => k_is)
    (case z_repr => k_is)
    (case z_sorted => k_is)
    (case h11 => kernel_rfl)
    (case u11 => kernel_rfl)
    (case t11 => exact hT _ (List.contains_iff_mem.mp (by kernel_rfl)))

