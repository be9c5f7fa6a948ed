import PyProof.Rows.All
import Wide.All
import OpenK.AllK
import Wide.FinOn
import HandS.ForMost
import HandS.ForExc
import HandS.Lambda
import HandS.Nested
import HandS.EndTab
import HandS.Wide
import HandS.Comp
import HandS.IsInst
import HandS.EndBits
import HandS.Text
import HandS.StrMore
import HandS.FStr
import HandS.Replace
import HandS.Deep
import HandS.RaiseMore
import PyProof.StrOps2
import PyProof.Rows.StrPadFill
import PyProof.StrLawsTight
import PyProof.StrLawsChain
import PyProof.Rows.StrItems
import PyProof.Rows.StrCut
import PyProof.Rows.StrPadWhole
import KE.IntTextLaws
import PyProof.ReprRoads
import PyProof.ReprLen
import PyProof.Rows.StrReprFit
import HandS.Style
import PyProof.Rows.RuleB_bool
import PyProof.Rows.SeqMore
import HandS.Dict
import HandS.More
import KE.SortKeyHeap
import HandS.ExcValue
import HandS.SortKw
import KE.KDictSum
import KE.KDictCopyH
import HandS.Sort
import HandS.HeadWalk
import HandS.WideBits
import HandS.RevRange
import HandS.Iter
import HandS.Conv
import KE.SortData
import KE.IntBitsLaws
import KE.DataMinMax
import ObjForm.LawKit
import HandS.CallLocal
import HandS.CallSlots
import HandS.WrittenGet
import HandS.ReplaceLit
import HandS.Exc
import HandS.ExcInit
import HandS.ExcField
import HandS.ExcIs
import HandS.ExcBuiltin
import KE.KExcIs
import KE.KxMul
import PyProof.DictMoreH
import HandS.DictEq
import KE.KDictOf
import HandS.DictComp
import HandS.Flow
import KE.KItem
import KE.GoesEnumKw
import KE.GoesNew
import KE.KNestM
import PySem.Challenge.RW_labelgrid_k26_graphs
set_option Elab.async false
set_option linter.all false
set_option autoImplicit false
set_option maxRecDepth 100000
set_option maxHeartbeats 4000000
namespace DL
open PySem L2
/-! data, values with objects of one's own, objects -/
/-- a lambda as it stands in the text; ix tells it apart from the others of its law -/
structure LamS where
  ix : Nat
  nm : Str
  params : Arguments
  body : Expr
  scope : Scope
  fr : List Str
def LamS.nf (L : LamS) (cl : List (Str × Addr)) (c : Addr) : NdefX.NF := ⟨"<lambda>", L.nm, L.params, [], L.scope, cl, c⟩
def LamO (f : Addr) (F : NdefX.NF) (body : Expr) : HO := .ext fun h => ∃ (od : Option Addr) (sl : Array (Option Value)) (pm ctv : Value), h.get? f = some (⟨.type "function", od, .func (PySem.W.kla_fn F.name F.qual F.params body F.scope F.cl pm (.ref F.c) ctv), sl⟩ : Obj)
def cellO (o : Obj) : HO := .frz o (.own 0)
/-- a closure stands at a: its captured cells are still, and hold vs -/
structure CloAt (Z : Hp) (L : LamS) (a c : Addr) (cl : List (Str × Addr)) (vs : List V) : Prop where
  fn : Z a = some (LamO a (L.nf cl c) L.body)
  code : Z c = some (LamX.CodeO c L.nm)
  all : ∀ (y : Str) (b : Addr), cl.lookup y = some b → ∃ o v, Z b = some (cellO o) ∧ o.data = .cell v
  inj : ∀ (x y : Str) (b : Addr), cl.lookup x = some b → cl.lookup y = some b → x = y
  len : vs.length = L.fr.length
  has : ∀ (i : Nat) (y : Str), L.fr[i]? = some y → ∃ b o v u, cl.lookup y = some b ∧ Z b = some (cellO o) ∧ o.data = .cell (some u) ∧ vs[i]? = some v ∧ RelV v u
theorem CloAt.mono {Z Z' : Hp} {L : LamS} {a c : Addr} {cl : List (Str × Addr)} {vs : List V} (h : CloAt Z L a c cl vs) (e : Same Z Z') : CloAt Z' L a c cl vs :=
  ⟨e _ _ h.fn, e _ _ h.code, fun y b q => (h.all y b q).imp fun o ⟨v, h1, h2⟩ => ⟨v, e _ _ h1, h2⟩, h.inj, h.len, fun i y q => by
    obtain ⟨b, o, v, u, h1, h2, h3, h4, h5⟩ := h.has i y q
    exact ⟨b, o, v, u, h1, e _ _ h2, h3, h4, h5⟩⟩
inductive D where
  | non | bl (b : Bool) | int (i : Int) | str (s : Str)
  | tup (xs : List D) | ktup (xs : List D) | lst (xs : List D) | klst (xs : List D) | dK (kvs : List (Key × D)) | dT (kvs : List (List Key × D)) | fn (a : Addr) | clo (L : LamS) (xs : List D) | scr (xs : List D) | ty (n : String) | rng (lo hi : Int)
inductive DV where
  | p (d : D) | o (n : Nat)
inductive O where
  | lst (xs : List DV) | dK (kvs : List (Key × DV)) | dT (kvs : List (List Key × DV)) | ins (C : Addr) (fs : List (Str × DV)) | tbl (P : Addr) (q : Str) | clo (L : LamS) (xs : List DV) | gone
inductive Rs (α : Type) where
  | ok (v : α) (M : List O) | ex (c : Addr) (fs : List (Str × D)) (M : List O)
structure S where
  l : List (Option DV)
  m : List O
mutual
inductive Rep (K : PySem.W.Frag) (Z : Hp) : V → D → Prop
  | non : Rep K Z .non .non
  | bl (b : Bool) : Rep K Z (.bl b) (.bl b)
  | int (i : Int) : Rep K Z (.int i) (.int i)
  | str (x : Str) : Rep K Z (.str x) (.str x)
  | lst {a : Addr} {xs : List V} {ds : List D} : Rd Z a (.lst xs) → RepA K Z xs ds → Rep K Z (.ref a) (.lst ds)
  | tup {a : Addr} {xs : List V} {ds : List D} : Z a = some (.tup xs) → RepA K Z xs ds → Rep K Z (.ref a) (.tup ds)
  | ktup {a : Addr} {xs : List V} {ds : List D} : SqT K Z a xs → RepA K Z xs ds → Rep K Z (.ref a) (.ktup ds)
  | klst {a : Addr} {xs : List V} {ds : List D} : SqL K Z a xs → RepA K Z xs ds → Rep K Z (.ref a) (.klst ds)
  | dK {a : Addr} {o : Obj} {ks : List (Key × V)} {ds : List (Key × D)} : Z a = some (.frz o (.dK ks)) → RepK K Z ks ds → Rep K Z (.ref a) (.dK ds)
  | dT {a : Addr} {o : Obj} {ks : List (List Key × V)} {ds : List (List Key × D)} : Z a = some (.frz o (.dT ks)) → RepT K Z ks ds → Rep K Z (.ref a) (.dT ds)
  | fn (a : Addr) : Rep K Z (.ref a) (.fn a)
  | clo {a c : Addr} {cl : List (Str × Addr)} {vs : List V} {L : LamS} {ds : List D} : CloAt Z L a c cl vs → RepA K Z vs ds → Rep K Z (.ref a) (.clo L ds)
  | ty (n : String) : Rep K Z (.ty n) (.ty n)
  | rng {a : Addr} {lo hi : Int} : Z a = some (.rng lo hi) → Rep K Z (.ref a) (.rng lo hi)
  | scr {a : Addr} {xs : List V} {ds : List D} : SqL K Z a xs → RepA K Z xs ds → Rep K Z (.ref a) (.scr ds)
inductive RepA (K : PySem.W.Frag) (Z : Hp) : List V → List D → Prop
  | nil : RepA K Z [] []
  | cons {v : V} {vs : List V} {d : D} {ds : List D} : Rep K Z v d → RepA K Z vs ds → RepA K Z (v :: vs) (d :: ds)
inductive RepK (K : PySem.W.Frag) (Z : Hp) : List (Key × V) → List (Key × D) → Prop
  | nil : RepK K Z [] []
  | cons {k : Key} {v : V} {vs : List (Key × V)} {d : D} {ds : List (Key × D)} : Rep K Z v d → RepK K Z vs ds → RepK K Z ((k, v) :: vs) ((k, d) :: ds)
inductive RepT (K : PySem.W.Frag) (Z : Hp) : List (List Key × V) → List (List Key × D) → Prop
  | nil : RepT K Z [] []
  | cons {k : List Key} {v : V} {vs : List (List Key × V)} {d : D} {ds : List (List Key × D)} : Rep K Z v d → RepT K Z vs ds → RepT K Z ((k, v) :: vs) ((k, d) :: ds)
end
theorem same_l {K : PySem.W.Frag} {H H' : Hp} {a : Addr} {xs : List V} (e : Same H H') (h : SqL K H a xs) : SqL K H' a xs := e.seq h
theorem same_rd {H H' : Hp} {a : Addr} {u : HO} (e : Same H H') (h : Rd H a u) : Rd H' a u := by
  rcases h with h | ⟨o, h⟩
  · exact .inl (e a _ h)
  · exact .inr ⟨o, e a _ h⟩
theorem sqt {K : PySem.W.Frag} {H H' : Hp} {a : Addr} {xs : List V} (e : Same H H') (h : H a = some (.tup xs)) : SqT K H' a xs := .inl (.inl (e a _ h))
theorem same_t {K : PySem.W.Frag} {H H' : Hp} {a : Addr} {xs : List V} (e : Same H H') (h : SqT K H a xs) : SqT K H' a xs := by
  rcases h with (h | ⟨o, h⟩) | h
  · exact .inl (.inl (e a _ h))
  · exact .inl (.inr ⟨o, e a _ h⟩)
  · exact .inr h
section
variable {K : PySem.W.Frag} {Z Z' H H' : Hp}
mutual
theorem Rep.mono (e : Same Z Z') : ∀ {v : V} {d : D}, Rep K Z v d → Rep K Z' v d
  | _, _, .non => .non
  | _, _, .bl b => .bl b
  | _, _, .int i => .int i
  | _, _, .str x => .str x
  | _, _, .lst h r => .lst (same_rd e h) (RepA.mono e r)
  | _, _, .tup h r => .tup (e _ _ h) (RepA.mono e r)
  | _, _, .ktup h r => .ktup (same_t e h) (RepA.mono e r)
  | _, _, .klst h r => .klst (same_l e h) (RepA.mono e r)
  | _, _, .dK h r => .dK (e _ _ h) (RepK.mono e r)
  | _, _, .dT h r => .dT (e _ _ h) (RepT.mono e r)
  | _, _, .fn a => .fn a
  | _, _, .clo h r => .clo (h.mono e) (RepA.mono e r)
  | _, _, .ty n => .ty n
  | _, _, .rng h => .rng (e _ _ h)
  | _, _, .scr h r => .scr (same_l e h) (RepA.mono e r)
theorem RepA.mono (e : Same Z Z') : ∀ {v : List V} {d : List D}, RepA K Z v d → RepA K Z' v d
  | _, _, .nil => .nil
  | _, _, .cons h r => .cons (Rep.mono e h) (RepA.mono e r)
theorem RepK.mono (e : Same Z Z') : ∀ {v : List (Key × V)} {d : List (Key × D)}, RepK K Z v d → RepK K Z' v d
  | _, _, .nil => .nil
  | _, _, .cons h r => .cons (Rep.mono e h) (RepK.mono e r)
theorem RepT.mono (e : Same Z Z') : ∀ {v : List (List Key × V)} {d : List (List Key × D)}, RepT K Z v d → RepT K Z' v d
  | _, _, .nil => .nil
  | _, _, .cons h r => .cons (Rep.mono e h) (RepT.mono e r)
end
theorem RepA.length : ∀ {v : List V} {d : List D}, RepA K Z v d → v.length = d.length
  | _, _, .nil => rfl
  | _, _, .cons _ r => by rw [List.length_cons, List.length_cons, RepA.length r]
theorem RepA.get : ∀ {v : List V} {d : List D} {i : Nat} {x : D}, RepA K Z v d → d[i]? = some x → ∃ u, v[i]? = some u ∧ Rep K Z u x
  | _, _, _, _, .nil, e => by simp at e
  | _, _, 0, _, .cons h _, e => by simp at e; subst e; exact ⟨_, rfl, h⟩
  | _, _, i + 1, x, .cons _ r, e => by
    obtain ⟨u, h1, h2⟩ := RepA.get (i := i) (x := x) r (by simpa using e)
    exact ⟨u, by simpa using h1, h2⟩
theorem RepA.append : ∀ {v w : List V} {d f : List D}, RepA K Z v d → RepA K Z w f → RepA K Z (v ++ w) (d ++ f)
  | _, _, _, _, .nil, s => s
  | _, _, _, _, .cons h r, s => .cons h (RepA.append r s)
theorem RepA.take : ∀ {v : List V} {d : List D} (n : Nat), RepA K Z v d → RepA K Z (v.take n) (d.take n)
  | _, _, 0, _ => .nil
  | _, _, _ + 1, .nil => .nil
  | _, _, n + 1, .cons h r => .cons h (RepA.take n r)
theorem RepA.drop : ∀ {v : List V} {d : List D} (n : Nat), RepA K Z v d → RepA K Z (v.drop n) (d.drop n)
  | _, _, 0, h => h
  | _, _, _ + 1, .nil => .nil
  | _, _, n + 1, .cons _ r => RepA.drop n r
/-! values with objects of one's own -/
def RepV (K : PySem.W.Frag) (Z : Hp) (I : List Addr) (v : V) : DV → Prop
  | .p d => Rep K Z v d
  | .o n => ∃ a, I[n]? = some a ∧ v = .ref a
abbrev RepVs (K : PySem.W.Frag) (Z : Hp) (I : List Addr) : List V → List DV → Prop := Paired (RepV K Z I)
theorem paired_len {α β : Type} {F : α → β → Prop} : ∀ {xs : List α} {ys : List β}, Paired F xs ys → xs.length = ys.length
  | _, _, .nil => rfl
  | _, _, .cons _ r => by rw [List.length_cons, List.length_cons, paired_len r]
theorem paired_get {α β : Type} {F : α → β → Prop} : ∀ {xs : List α} {ys : List β} {i : Nat} {y : β}, Paired F xs ys → ys[i]? = some y → ∃ x, xs[i]? = some x ∧ F x y
  | _, _, _, _, .nil, e => by simp at e
  | _, _, 0, _, .cons h _, e => by simp at e; subst e; exact ⟨_, rfl, h⟩
  | _, _, i + 1, x, .cons _ r, e => by
    obtain ⟨u, h1, h2⟩ := paired_get (i := i) (y := x) r (by simpa using e)
    exact ⟨u, by simpa using h1, h2⟩
theorem paired_set {α β : Type} {F : α → β → Prop} {x : α} {y : β} (h : F x y) : ∀ {xs : List α} {ys : List β} (i : Nat), Paired F xs ys → Paired F (xs.set i x) (ys.set i y)
  | _, _, _, .nil => .nil
  | _, _, 0, .cons _ r => .cons h r
  | _, _, i + 1, .cons q r => .cons q (paired_set h i r)
theorem paired_app {α β : Type} {F : α → β → Prop} : ∀ {xs zs : List α} {ys ws : List β}, Paired F xs ys → Paired F zs ws → Paired F (xs ++ zs) (ys ++ ws)
  | _, _, _, _, .nil, s => s
  | _, _, _, _, .cons h r, s => .cons h (paired_app r s)
theorem paired_imp {α β : Type} {F G : α → β → Prop} (k : ∀ a b, F a b → G a b) : ∀ {xs : List α} {ys : List β}, Paired F xs ys → Paired G xs ys
  | _, _, .nil => .nil
  | _, _, .cons h r => .cons (k _ _ h) (paired_imp k r)
def FRel (K : PySem.W.Frag) (Z : Hp) (I : List Addr) {κ : Type} (p : κ × V) (q : κ × DV) : Prop := p.1 = q.1 ∧ RepV K Z I p.2 q.2
def RepO (K : PySem.W.Frag) (Z : Hp) (I : List Addr) (H : Hp) (a : Addr) : O → Prop
  | .lst ds => ∃ xs, H a = some (.lst xs) ∧ RepVs K Z I xs ds
  | .dK ds => ∃ ks, H a = some (.dK ks) ∧ Paired (FRel K Z I) ks ds
  | .dT ds => ∃ ks, H a = some (.dT ks) ∧ Paired (FRel K Z I) ks ds
  | .ins C fs => ∃ dx vs, H a = some (.ins C dx vs) ∧ Paired (FRel K Z I) vs fs
  | .tbl P q => a = P ∧ ∃ ps : Array Value, H a = some (.tbl ps) ∧ TriplesOk ps.toList ∧ ∀ (pos : Pos) (cv : Value), codeAmong pos ps.toList = some cv → ∃ c, cv = .ref c ∧ Z c = some (LamX.CodeO c q)
  | .clo L xs => ∃ c cl cvs, CloAt Z L a c cl cvs ∧ (∀ (y : Str) (b : Addr), cl.lookup y = some b → b ∉ I) ∧ RepVs K Z I cvs xs
  | .gone => True
/-- what is one's own is not given up yet; a closure stands still from the start -/
def ZN (Z : Hp) (a : Addr) : O → Prop
  | .clo _ _ => True
  | _ => Z a = none
def O.opn : O → Prop
  | .clo _ _ => False
  | _ => True
theorem ZN.of {Z : Hp} {a : Addr} (h : Z a = none) : ∀ o : O, ZN Z a o
  | .clo _ _ => trivial
  | .lst _ => h | .dK _ => h | .dT _ => h | .ins _ _ => h | .tbl _ _ => h | .gone => h
theorem ZN.get {Z : Hp} {a : Addr} : ∀ {o : O}, o.opn → ZN Z a o → Z a = none
  | .clo _ _, q, _ => q.elim
  | .lst _, _, h => h | .dK _, _, h => h | .dT _, _, h => h | .ins _ _, _, h => h | .tbl _ _, _, h => h | .gone, _, h => h
theorem ZN.imp {Z Z' : Hp} {a : Addr} (f : Z a = none → Z' a = none) : ∀ {o : O}, ZN Z a o → ZN Z' a o
  | .clo _ _, _ => trivial
  | .lst _, h => f h | .dK _, h => f h | .dT _, h => f h | .ins _ _, h => f h | .tbl _ _, h => f h | .gone, h => f h
structure Wf (K : PySem.W.Frag) (Z H : Hp) (I : List Addr) (M : List O) : Prop where
  sub : Same Z H
  len : I.length = M.length
  nd : I.Nodup
  tr : ∀ a ∈ I, H a ≠ none
  ob : ∀ (n : Nat) (a : Addr) (o : O), I[n]? = some a → M[n]? = some o → o ≠ .gone → ZN Z a o ∧ RepO K Z I H a o
/-- nobody's own: free, or a tuple -/
def Fr (H : Hp) (a : Addr) : Prop := H a = none ∨ ∃ xs, H a = some (.tup xs)
theorem Fr.no {H : Hp} {a : Addr} {u : HO} (h : H a = some u) (n : ∀ xs, u ≠ .tup xs) (f : Fr H a) : False := by
  rcases f with f | ⟨xs, f⟩
  · rw [h] at f; cases f
  · rw [h] at f; cases f; exact n xs rfl
theorem repO_nt {K : PySem.W.Frag} {Z H : Hp} {I : List Addr} {a : Addr} {o : O} (sub : Same Z H) (r : RepO K Z I H a o) (hg : o ≠ .gone) : ∃ u, H a = some u ∧ ∀ xs, u ≠ .tup xs := by
  cases o with
  | lst ds => obtain ⟨xs, h, _⟩ := r; exact ⟨_, h, fun _ e => nomatch e⟩
  | dK ds => obtain ⟨xs, h, _⟩ := r; exact ⟨_, h, fun _ e => nomatch e⟩
  | dT ds => obtain ⟨xs, h, _⟩ := r; exact ⟨_, h, fun _ e => nomatch e⟩
  | ins C fs => obtain ⟨dx, xs, h, _⟩ := r; exact ⟨_, h, fun _ e => nomatch e⟩
  | tbl P q => obtain ⟨e, ps, h, _⟩ := r; exact ⟨_, h, fun _ e => nomatch e⟩
  | clo L xs => obtain ⟨c, cl, cvs, h, _⟩ := r; exact ⟨_, sub _ _ h.fn, fun _ e => nomatch e⟩
  | gone => exact absurd rfl hg
structure Ext (Z H : Hp) (I : List Addr) (Z' H' : Hp) (I' : List Addr) : Prop where
  z : Same Z Z'
  i : ∃ t, I' = I ++ t
  fr : ∀ a o, H a = some o → a ∉ I → H' a = some o
  nw : ∀ a ∈ I', a ∈ I ∨ H a = none
  zn : ∀ a, Z' a ≠ none → Z a ≠ none ∨ Fr H a ∨ a ∈ I
  tr : ∀ a, H a ≠ none → H' a ≠ none
end
theorem Ext.refl {Z H : Hp} {I : List Addr} : Ext Z H I Z H I := ⟨Same.refl Z, ⟨[], by simp⟩, fun _ _ h _ => h, fun _ h => .inl h, fun _ h => .inl h, fun _ h => h⟩
theorem Ext.trans {Z H Z1 H1 Z2 H2 : Hp} {I I1 I2 : List Addr} (a : Ext Z H I Z1 H1 I1) (b : Ext Z1 H1 I1 Z2 H2 I2) : Ext Z H I Z2 H2 I2 where
  z := a.z.trans b.z
  i := by
    obtain ⟨t, e⟩ := a.i
    obtain ⟨u, f⟩ := b.i
    exact ⟨t ++ u, by rw [f, e, List.append_assoc]⟩
  fr := fun c o h n => b.fr c o (a.fr c o h n) fun m => by
    rcases a.nw c m with k | k
    · exact n k
    · rw [h] at k; cases k
  nw := fun c m => by
    rcases b.nw c m with k | k
    · exact a.nw c k
    · right
      cases e : H c with
      | none => rfl
      | some o => exact absurd k (a.tr c (by rw [e]; simp))
  zn := fun c h => by
    rcases b.zn c h with k | k | k
    · exact a.zn c k
    · cases e : H c with
      | none => exact .inr (.inl (.inl e))
      | some o =>
        by_cases q : c ∈ I
        · exact .inr (.inr q)
        · have e1 := a.fr c o e q
          rcases k with k | ⟨xs, k⟩
          · rw [e1] at k; cases k
          · rw [e1] at k; cases k; exact .inr (.inl (.inr ⟨xs, e⟩))
    · rcases a.nw c k with q | q
      · exact .inr (.inr q)
      · exact .inr (.inl (.inl q))
  tr := fun c h => b.tr c (a.tr c h)
section
variable {K : PySem.W.Frag} {Z H Z' H' : Hp} {I I' : List Addr}
theorem RepV.mono (e : Ext Z H I Z' H' I') {v : V} : ∀ {d : DV}, RepV K Z I v d → RepV K Z' I' v d
  | .p _, h => Rep.mono e.z h
  | .o n, ⟨a, h, q⟩ => by
    obtain ⟨t, rfl⟩ := e.i
    exact ⟨a, by rw [List.getElem?_append_left (List.getElem?_eq_some_iff.mp h).1]; exact h, q⟩
theorem RepV.mono' (z : Same Z Z') {v : V} : ∀ {d : DV}, RepV K Z I v d → RepV K Z' I v d
  | .p _, h => Rep.mono z h
  | .o _, h => h
/-- a pure step: nothing of one's own is touched -/
structure ExtP (Z H Z' H' : Hp) : Prop where
  z : Same Z Z'
  h : Same H H'
  sub : Same Z' H'
  zn : ∀ a, Z' a ≠ none → Z a ≠ none ∨ Fr H a
theorem ExtP.refl (h : Same Z H) : ExtP Z H Z H := ⟨Same.refl _, Same.refl _, h, fun _ h => .inl h⟩
theorem ExtP.trans {Z2 H2 : Hp} (a : ExtP Z H Z' H') (b : ExtP Z' H' Z2 H2) : ExtP Z H Z2 H2 := ⟨a.z.trans b.z, a.h.trans b.h, b.sub, fun c h => by
  rcases b.zn c h with k | k
  · exact a.zn c k
  · rcases k with k | ⟨xs, k⟩
    · exact .inr (.inl (a.h.free k))
    · cases e : H c with
      | none => exact .inr (.inl e)
      | some o => rw [a.h c o e] at k; cases k; exact .inr (.inr ⟨xs, e⟩)⟩
theorem none_of {Z H : Hp} (s : Same Z H) {p : Addr} (h : H p = none) : Z p = none := s.free h
theorem same_upd {H : Hp} {p : Addr} {o : HO} (h : H p = none) : Same H (upd H p o) := fun a u e => by
  rw [upd_ne (ne_of_none e h)]; exact e
theorem ExtP.new {p : Addr} {o : HO} (s : Same Z H) (h : H p = none) : ExtP Z H (upd Z p o) (upd H p o) := by
  refine ⟨same_upd (none_of s h), same_upd h, fun a u e => ?_, fun a e => ?_⟩
  · by_cases q : a = p
    · subst q; rw [upd_same] at e ⊢; exact e
    · rw [upd_ne q] at e ⊢; exact s a u e
  · by_cases q : a = p
    · subst q; exact .inr (.inl h)
    · rw [upd_ne q] at e; exact .inl e
theorem RepO.mono {a : Addr} (z : Same Z Z') (ha : H' a = H a) : ∀ {o : O}, RepO K Z I H a o → RepO K Z' I H' a o
  | .lst _, ⟨xs, h, r⟩ => ⟨xs, ha.trans h, paired_imp (fun _ _ q => RepV.mono' z q) r⟩
  | .dK _, ⟨xs, h, r⟩ => ⟨xs, ha.trans h, paired_imp (fun _ _ q => ⟨q.1, RepV.mono' z q.2⟩) r⟩
  | .dT _, ⟨xs, h, r⟩ => ⟨xs, ha.trans h, paired_imp (fun _ _ q => ⟨q.1, RepV.mono' z q.2⟩) r⟩
  | .ins _ _, ⟨dx, xs, h, r⟩ => ⟨dx, xs, ha.trans h, paired_imp (fun _ _ q => ⟨q.1, RepV.mono' z q.2⟩) r⟩
  | .tbl _ _, ⟨e, ps, h, t, r⟩ => ⟨e, ps, ha.trans h, t, fun pos cv hc => by
      obtain ⟨c, h1, h2⟩ := r pos cv hc
      exact ⟨c, h1, z _ _ h2⟩⟩
  | .clo _ _, ⟨c, cl, cvs, h, n, r⟩ => ⟨c, cl, cvs, h.mono z, n, paired_imp (fun _ _ q => RepV.mono' z q) r⟩
  | .gone, _ => trivial
theorem same_eq {H H' : Hp} (e : Same H H') {a : Addr} (h : H a ≠ none) : H' a = H a := by
  cases q : H a with
  | none => exact absurd q h
  | some o => exact e a o q
theorem Wf.extP {M : List O} (w : Wf K Z H I M) (e : ExtP Z H Z' H') : Wf K Z' H' I M where
  sub := e.sub
  len := w.len
  nd := w.nd
  tr := fun a h => by rw [same_eq e.h (w.tr a h)]; exact w.tr a h
  ob := fun n a o h1 h2 h3 => by
    obtain ⟨q1, q2⟩ := w.ob n a o h1 h2 h3
    have ha := w.tr a (List.mem_of_getElem? h1)
    refine ⟨q1.imp fun q1 => ?_, q2.mono e.z (same_eq e.h ha)⟩
    cases q : Z' a with
    | none => rfl
    | some u =>
      rcases e.zn a (by rw [q]; simp) with k | k
      · exact absurd q1 k
      · obtain ⟨u', hu, hn⟩ := repO_nt w.sub q2 h3
        exact (Fr.no hu hn k).elim
theorem ExtP.ext {M : List O} (w : Wf K Z H I M) (e : ExtP Z H Z' H') : Ext Z H I Z' H' I := ⟨e.z, ⟨[], by simp⟩, fun a o h _ => e.h a o h, fun _ h => .inl h, fun a h => (e.zn a h).imp_right .inl, fun a h => by rw [same_eq e.h h]; exact h⟩
/-! ### slots -/
structure RepS (K : PySem.W.Frag) (Z : Hp) (I : List Addr) (σ : St) (l : List (Option DV)) : Prop where
  len : σ.length = l.length
  at_ : ∀ (i : Nat) (dv : DV), l[i]? = some (some dv) → ∃ v, σ[i]? = some (some v) ∧ RepV K Z I v dv
theorem RepS.mono {σ : St} {l : List (Option DV)} (r : RepS K Z I σ l) (e : Ext Z H I Z' H' I') : RepS K Z' I' σ l := ⟨r.len, fun i dv h => by
  obtain ⟨v, h1, h2⟩ := r.at_ i dv h
  exact ⟨v, h1, h2.mono e⟩⟩
theorem RepS.set {σ : St} {l : List (Option DV)} (r : RepS K Z I σ l) {v : V} {dv : DV} (h : RepV K Z I v dv) (i : Nat) : RepS K Z I (σ.set i (some v)) (l.set i (some dv)) := by
  refine ⟨by simpa using r.len, fun j dw e => ?_⟩
  by_cases q : i = j
  · subst q
    by_cases b : i < l.length
    · rw [List.getElem?_set_self b] at e
      cases e
      exact ⟨v, by rw [List.getElem?_set_self (by rw [r.len]; exact b)], h⟩
    · rw [List.getElem?_eq_none (by simpa using b)] at e; cases e
  · rw [List.getElem?_set_ne q] at e ⊢
    exact r.at_ j dw e
/-! ### what is wanted -/
def ExcAt (K : PySem.W.Frag) (Z H : Hp) (d : Option Addr) (fs : List (Str × D)) : Prop :=
  (d = none ∧ fs = []) ∨ ∃ a vs, d = some a ∧ H a = some (.xd vs) ∧ Paired (fun (p : Str × V) (q : Str × D) => p.1 = q.1 ∧ Rep K Z p.2 q.2) vs fs
def PostX (K : PySem.W.Frag) (W : WX) (Z H : Hp) (I : List Addr) (σ : St) (M' : List O) (c : Addr) (fs : List (Str × D)) : Prop :=
  ∀ d Z' H' I', Wf K Z' H' I' M' → Ext Z H I Z' H' I' → ExcAt K Z' H' d fs → (∀ a, d = some a → H a = none ∧ a ∉ I') → W (.ref c) d σ H'
theorem PostX.mono {W : WX} {σ : St} {M' : List O} {c : Addr} {fs : List (Str × D)} {Z1 H1 : Hp} {I1 : List Addr} (e : Ext Z H I Z1 H1 I1) (h : PostX K W Z H I σ M' c fs) : PostX K W Z1 H1 I1 σ M' c fs :=
  fun d Z' H' I' w x a n => h d Z' H' I' w (e.trans x) a fun b q => ⟨by
    cases z : H b with
    | none => rfl
    | some o => exact absurd (n b q).1 (e.tr b (by rw [z]; simp)), (n b q).2⟩
def PostR {α β : Type} (K : PySem.W.Frag) (W : WX) (R : Hp → List Addr → β → α → Prop) (Z H : Hp) (I : List Addr) (σ : St) (Q : β → Hp → Prop) : Rs α → Prop
  | .ok a M' => ∀ b Z' H' I', Wf K Z' H' I' M' → Ext Z H I Z' H' I' → R Z' I' b a → Q b H'
  | .ex c fs M' => PostX K W Z H I σ M' c fs
theorem PostR.mono {α β : Type} {W : WX} {R : Hp → List Addr → β → α → Prop} {σ : St} {Q : β → Hp → Prop} {Z1 H1 : Hp} {I1 : List Addr} (e : Ext Z H I Z1 H1 I1) : ∀ {r : Rs α}, PostR K W R Z H I σ Q r → PostR K W R Z1 H1 I1 σ Q r
  | .ok _ _, h => fun b Z' H' I' w x q => h b Z' H' I' w (e.trans x) q
  | .ex _ _ _, h => PostX.mono e h
theorem PostR.x {α β : Type} {W : WX} {R : Hp → List Addr → β → α → Prop} {σ : St} {Q : β → Hp → Prop} {r : Rs α} (h : PostR K W R Z H I σ Q r) (c : Addr) (fs : List (Str × D)) (M : List O) (e : r = .ex c fs M) : PostX K W Z H I σ M c fs := by
  subst e; exact h
abbrev Mi (α : Type) := S → Option (Rs α)
structure Sound {α β : Type} (K : PySem.W.Frag) (W : WX) (R : Hp → List Addr → β → α → Prop) (t : St → Hp → (β → Hp → Prop) → Prop) (m : Mi α) : Prop where
  ok : ∀ (σ : St) (H : Hp) (s : S) (Z : Hp) (I : List Addr) (r : Rs α) (Q : β → Hp → Prop), Wf K Z H I s.m → RepS K Z I σ s.l → m s = some r → PostR K W R Z H I σ Q r → t σ H Q
def bnd {α γ : Type} (m : Mi α) (k : α → Mi γ) : Mi γ := fun s => match m s with
  | some (.ok v M) => k v ⟨s.l, M⟩
  | some (.ex c f M) => some (.ex c f M)
  | none => none
theorem Sound.bnd {α β γ : Type} {W : WX} {R : Hp → List Addr → β → α → Prop} {t : St → Hp → (β → Hp → Prop) → Prop} {m : Mi α} (h : Sound K W R t m) {σ : St} {s : S} {k : α → Mi γ} {r : Rs γ} {Q : β → Hp → Prop}
    (w : Wf K Z H I s.m) (rs : RepS K Z I σ s.l) (e : DL.bnd m k s = some r) (hx : ∀ c fs M, r = .ex c fs M → PostX K W Z H I σ M c fs)
    (hk : ∀ a b M' Z' H' I', Wf K Z' H' I' M' → RepS K Z' I' σ s.l → Ext Z H I Z' H' I' → R Z' I' b a → k a ⟨s.l, M'⟩ = some r → Q b H') : t σ H Q := by
  unfold DL.bnd at e
  cases q : m s with
  | none => rw [q] at e; cases e
  | some r0 =>
    rw [q] at e
    cases r0 with
    | ok v M => exact h.ok σ H s Z I _ Q w rs q fun b Z' H' I' w' x' r' => hk v b M Z' H' I' w' (rs.mono x') x' r' e
    | ex c f M =>
      obtain rfl := Option.some.inj e
      exact h.ok σ H s Z I _ Q w rs q (hx c f M rfl)
abbrev EM := Mi DV
abbrev AM := Mi (List DV)
structure DE (K : PySem.W.Frag) (X : Cx) (W : WX) (e : Expr) (t : TE) (m : EM) : Prop where
  k : X.K = K
  pe : PE X e t
  so : Sound K W (RepV K) t m
def RepB (_ : Hp) (_ : List Addr) (b : Bool) (d : DV) : Prop := d = .p (.bl b)
structure DT (K : PySem.W.Frag) (X : Cx) (W : WX) (e : Expr) (t : TT) (m : EM) : Prop where
  k : X.K = K
  pt : PT X e t
  so : Sound K W RepB t m
structure DW (K : PySem.W.Frag) (X : Cx) (W : WX) (e : Expr) (t : TT) (m : EM) : Prop where
  k : X.K = K
  pw : PW X e t
  so : Sound K W RepB t m
structure DA (K : PySem.W.Frag) (X : Cx) (W : WX) (es : List Expr) (t : TA) (m : AM) : Prop where
  k : X.K = K
  pa : PA X es t
  so : Sound K W (RepVs K) t m
/-- statements -/
inductive Fl where
  | nx | rt (v : DV) | bk | ct | ex (c : Addr) (fs : List (Str × D))
abbrev SM := S → Option (Fl × S)
def PostS (K : PySem.W.Frag) (W : WX) (Z H : Hp) (I : List Addr) (D : Ends) : Fl × S → Prop
  | (.nx, s') => ∀ σ' Z' H' I', Wf K Z' H' I' s'.m → RepS K Z' I' σ' s'.l → Ext Z H I Z' H' I' → D.nx σ' H'
  | (.rt dv, s') => ∀ v Z' H' I', Wf K Z' H' I' s'.m → Ext Z H I Z' H' I' → RepV K Z' I' v dv → D.rt v H'
  | (.bk, s') => ∀ σ' Z' H' I', Wf K Z' H' I' s'.m → RepS K Z' I' σ' s'.l → Ext Z H I Z' H' I' → D.bk σ' H'
  | (.ct, s') => ∀ σ' Z' H' I', Wf K Z' H' I' s'.m → RepS K Z' I' σ' s'.l → Ext Z H I Z' H' I' → D.ct σ' H'
  | (.ex c fs, s') => ∀ σ' d Z' H' I', Wf K Z' H' I' s'.m → RepS K Z' I' σ' s'.l → Ext Z H I Z' H' I' → ExcAt K Z' H' d fs → (∀ a, d = some a → H a = none ∧ a ∉ I') → W (.ref c) d σ' H'
structure SoundS (K : PySem.W.Frag) (W : WX) (t : TS) (m : SM) : Prop where
  ok : ∀ (σ : St) (H : Hp) (s : S) (Z : Hp) (I : List Addr) (r : Fl × S) (D : Ends), Wf K Z H I s.m → RepS K Z I σ s.l → m s = some r → PostS K W Z H I D r → t D σ H
structure DS (K : PySem.W.Frag) (X : Cx) (W : WX) (st : Stmt) (t : TS) (m : SM) : Prop where
  k : X.K = K
  ps : PS X st t
  so : SoundS K W t m
structure DSs (K : PySem.W.Frag) (X : Cx) (W : WX) (st : List Stmt) (t : TS) (m : SM) : Prop where
  k : X.K = K
  ps : PSs X st t
  so : SoundS K W t m
end
end DL
namespace DL
open PySem L2
section
variable {K : PySem.W.Frag} {X : Cx} {W : WX} {e a b c : Expr} {pos : Pos}
/-! ### names, constants -/
def gv (l : List (Option DV)) (i : Nat) : Option DV := match l[i]? with
  | some (some d) => some d
  | _ => none
def mVar (i : Nat) : EM := fun s => match gv s.l i with
  | some d => some (.ok d s.m)
  | none => none
theorem gv_some {l : List (Option DV)} {i : Nat} {d : DV} (h : gv l i = some d) : l[i]? = some (some d) := by
  unfold gv at h
  split at h
  · cases h; assumption
  · cases h
theorem so_var {i : Nat} : Sound K W (RepV K) (tVar i) (mVar i) := ⟨fun σ H s Z I r Q w rs e p => by
  unfold mVar at e
  split at e
  · rename_i d hd
    obtain rfl := Option.some.inj e
    obtain ⟨v, h1, h2⟩ := rs.at_ i d (gv_some hd)
    exact ⟨v, h1, p v Z H I w Ext.refl h2⟩
  · cases e⟩
def mC (d : D) : EM := fun s => some (.ok (.p d) s.m)
theorem so_c {v : V} {d : D} (h : ∀ Z, Rep K Z v d) : Sound K W (RepV K) (tC v) (mC d) := ⟨fun σ H s Z I r Q w rs e p => by
  obtain rfl := Option.some.inj e
  exact p v Z H I w Ext.refl (h Z)⟩
theorem de_var (i : Nat) {x : Str} (k : X.K = K := by rfl) (hN : X.N[i]? = some x := by rfl) (hv : Vis X.env.scope x := by first | exact Or.inl rfl | exact Or.inr (Or.inl rfl) | exact Or.inr (Or.inr rfl)) (hd : (x == ("__debug__" : Str)) = false := by decide)
    (hcd : (x == ("__classdict__" : Str)) = false := by decide) : DE K X W (.Name x pos) (tVar i) (mVar i) := ⟨k, pe_var hN hv hd hcd, so_var⟩
theorem de_int {i : Int} {j} (k : X.K = K := by rfl) : DE K X W (.Constant (.int i) j pos) (tC (.int i)) (mC (.int i)) := ⟨k, pe_int, so_c fun _ => .int i⟩
theorem de_bl {i : Bool} {j} (k : X.K = K := by rfl) : DE K X W (.Constant (.bool i) j pos) (tC (.bl i)) (mC (.bl i)) := ⟨k, pe_bl, so_c fun _ => .bl i⟩
/-- a constant of the top: its value u, what it is -/
theorem de_glob {x : Str} {v : V} {u : Value} {d : D} (hm : X.mg x = some u) (r : RelV v u) (h : ∀ Z, Rep K Z v d) (k : X.K = K := by rfl) (hg : Gl X x := by rfl) (hd : (x == ("__debug__" : Str)) = false := by decide) :
    DE K X W (.Name x pos) (tC v) (mC d) := ⟨k, pe_glob hg hm r hd, so_c h⟩
/-! ### operations on data -/
def pur {γ : Type} (k : D → Mi γ) : DV → Mi γ
  | .p d, s => k d s
  | .o _, _ => none
/-- the value of an operation: at the heap as it is, or with new objects -/
def PostP (K : PySem.W.Frag) (Z H : Hp) (d : D) (Q : VK) : Prop := ∀ v Z' H', ExtP Z H Z' H' → Rep K Z' v d → Q v H'
def ret (o : Option D) : EM := fun s => match o with
  | some d => some (.ok (.p d) s.m)
  | none => none
theorem PostP.of {Z H : Hp} {I : List Addr} {σ : St} {Q : VK} {d : D} {M : List O} (w : Wf K Z H I M) (p : PostR K W (RepV K) Z H I σ Q (.ok (.p d) M)) : PostP K Z H d Q :=
  fun v Z' H' x r => p v Z' H' I (w.extP x) (x.ext w) r
structure OpD (K : PySem.W.Frag) (X : Cx) (f : Value → Value → Sem Value) (r : R2) (g : D → D → Option D) : Prop where
  op : X.K = K → OpR X f r
  ok : ∀ (x y : V) (d e c : D) (Z H : Hp) (Q : VK), Same Z H → Rep K Z x d → Rep K Z y e → g d e = some c → PostP K Z H c Q → r x y H Q
def mBin (g : D → D → Option D) (m n : EM) : EM := bnd m (pur fun d => bnd n (pur fun e => ret (g d e)))
theorem so_bin {r : R2} {g : D → D → Option D} {ta tb : TE} {m n : EM} (h : ∀ (x y : V) (d e c : D) (Z H : Hp) (Q : VK), Same Z H → Rep K Z x d → Rep K Z y e → g d e = some c → PostP K Z H c Q → r x y H Q)
    (ha : Sound K W (RepV K) ta m) (hb : Sound K W (RepV K) tb n) : Sound K W (RepV K) (tOp r ta tb) (mBin g m n) := ⟨fun σ H s Z I r0 Q w rs e p => by
  refine ha.bnd w rs e (p.x) fun d v M1 Z1 H1 I1 w1 rs1 x1 q1 e1 => ?_
  cases d with
  | o n => cases e1
  | p d =>
  have p1 := p.mono x1
  refine hb.bnd (s := ⟨s.l, M1⟩) w1 rs1 e1 (p1.x) fun d2 v2 M2 Z2 H2 I2 w2 rs2 x2 q2 e2 => ?_
  cases d2 with
  | o n => cases e2
  | p d2 =>
  have p2 := p1.mono x2
  have e3 : ret (g d d2) ⟨s.l, M2⟩ = some r0 := e2
  unfold ret at e3
  cases q : g d d2 with
  | none => rw [q] at e3; cases e3
  | some c =>
    rw [q] at e3
    obtain rfl := Option.some.inj e3
    exact h v v2 d d2 c Z2 H2 Q w2.sub (Rep.mono x2.z q1) q2 q (PostP.of w2 p2)⟩
theorem de_bin {op : Operator} {r : R2} {g : D → D → Option D} {ta tb : TE} {m n : EM} (h : OpD K X (binaryOp op) r g) (ha : DE K X W a ta m) (hb : DE K X W b tb n) : DE K X W (.BinOp a op b pos) (tOp r ta tb) (mBin g m n) :=
  ⟨ha.k, pe_op (h.op ha.k) ha.pe hb.pe, so_bin h.ok ha.so hb.so⟩
theorem de_cmp {op : CmpOp} {r : R2} {g : D → D → Option D} {ta tb : TE} {m n : EM} (h : OpD K X (compareOp op) r g) (ha : DE K X W a ta m) (hb : DE K X W b tb n) (hm : behindInMarks op b = false := by first | exact nomark _ | rfl) : DE K X W (.Compare a [op] [b] pos) (tOp r ta tb) (mBin g m n) :=
  ⟨ha.k, pe_cmpR (h.op ha.k) ha.pe hb.pe hm, so_bin h.ok ha.so hb.so⟩
theorem so_test {t : TE} {m : EM} (h : Sound K W (RepV K) t m) (hb : ∀ s r, m s = some r → ∀ v M, r = .ok v M → ∃ b, v = .p (.bl b)) : Sound K W RepB (tTest t) m := ⟨fun σ H s Z I r Q w rs e p => by
  refine h.ok σ H s Z I r _ w rs e ?_
  cases r with
  | ex c fs M => exact p
  | ok v M =>
    obtain ⟨b, rfl⟩ := hb s _ e v M rfl
    intro v Z' H' I' w' x' r'
    cases r'
    exact ⟨b, rfl, p b Z' H' I' w' x' rfl⟩⟩
/-- a result that is a truth -/
def boolD (g : D → D → Option D) : Prop := ∀ d e c, g d e = some c → ∃ b, c = .bl b
theorem bnd_ok {α γ : Type} {m : Mi α} {k : α → Mi γ} {s : S} {v : γ} {M : List O} (e : bnd m k s = some (.ok v M)) : ∃ a M1, m s = some (.ok a M1) ∧ k a ⟨s.l, M1⟩ = some (.ok v M) := by
  unfold bnd at e
  cases q : m s with
  | none => rw [q] at e; cases e
  | some r0 =>
    rw [q] at e
    cases r0 with
    | ok a M1 => exact ⟨a, M1, rfl, e⟩
    | ex c f M1 => cases e
theorem pur_ok {γ : Type} {k : D → Mi γ} {v : DV} {s : S} {r : Rs γ} (e : pur k v s = some r) : ∃ d, v = .p d ∧ k d s = some r := by
  cases v with
  | p d => exact ⟨d, rfl, e⟩
  | o n => cases e
theorem ret_ok {o : Option D} {s : S} {r : Rs DV} (e : ret o s = some r) : ∃ d, o = some d ∧ r = .ok (.p d) s.m := by
  cases o with
  | none => cases e
  | some d => exact ⟨d, rfl, (Option.some.inj e).symm⟩
theorem mBin_bool {g : D → D → Option D} {m n : EM} (hg : boolD g) (s : S) (r : Rs DV) (e : mBin g m n s = some r) (v : DV) (M : List O) (hr : r = .ok v M) : ∃ b, v = .p (.bl b) := by
  subst hr
  obtain ⟨a, M1, _, e⟩ := bnd_ok e
  obtain ⟨d, _, e⟩ := pur_ok e
  obtain ⟨a2, M2, _, e⟩ := bnd_ok e
  obtain ⟨d2, _, e⟩ := pur_ok e
  obtain ⟨c, q, e⟩ := ret_ok e
  cases e
  obtain ⟨b, rfl⟩ := hg _ _ _ q
  exact ⟨b, rfl⟩
theorem dt_cmp {op : CmpOp} {r : R2} {g : D → D → Option D} {ta tb : TE} {m n : EM} (h : OpD K X (compareOp op) r g) (hg : boolD g) (ha : DE K X W a ta m) (hb : DE K X W b tb n) (hm : behindInMarks op b = false := by first | exact nomark _ | rfl) : DT K X W (.Compare a [op] [b] pos) (tTest (tOp r ta tb)) (mBin g m n) :=
  ⟨ha.k, pt_cmpR (h.op ha.k) ha.pe hb.pe hm, so_test (so_bin h.ok ha.so hb.so) (mBin_bool hg)⟩
/-! the ints -/
def dI (g : Int → Int → Option D) : D → D → Option D
  | .int i, .int j => g i j
  | _, _ => none
theorem ok_rI {C : Int → Int → Prop} {h : Int → Int → V} {g : Int → Int → Option D} (hc : ∀ i j c, g i j = some c → C i j ∧ ∀ Z, Rep K Z (h i j) c) : ∀ (x y : V) (d e c : D) (Z H : Hp) (Q : VK), Same Z H → Rep K Z x d → Rep K Z y e → dI g d e = some c → PostP K Z H c Q → rI C h x y H Q := by
  intro x y d e c Z H Q s hx hy hg p
  unfold dI at hg
  split at hg
  · cases hx; cases hy
    obtain ⟨h1, h2⟩ := hc _ _ _ hg
    exact ⟨_, _, rfl, rfl, h1, p _ Z H (ExtP.refl s) (h2 Z)⟩
  · cases hg
theorem ok_rI0 {h : Int → Int → V} {g : Int → Int → Option D} (hc : ∀ i j c, g i j = some c → ∀ Z, Rep K Z (h i j) c) : ∀ (x y : V) (d e c : D) (Z H : Hp) (Q : VK), Same Z H → Rep K Z x d → Rep K Z y e → dI g d e = some c → PostP K Z H c Q → rI0 h x y H Q := by
  intro x y d e c Z H Q s hx hy hg p
  unfold dI at hg
  split at hg
  · cases hx; cases hy
    exact ⟨_, _, rfl, rfl, p _ Z H (ExtP.refl s) (hc _ _ _ hg Z)⟩
  · cases hg
abbrev dIi (g : Int → Int → Int) : D → D → Option D := dI fun i j => some (.int (g i j))
abbrev dIb (g : Int → Int → Bool) : D → D → Option D := dI fun i j => some (.bl (g i j))
def dAdd : D → D → Option D
  | .int i, .int j => some (.int (i + j))
  | .str x, .str y => if x.length + y.length ≤ 1000000 then some (.str (x ++ y)) else none
  | _, _ => none
theorem size_le {n : Nat} (h : n ≤ 1000000) : n ≤ sizeLine := Nat.le_trans h (by decide)
theorem size_lt {n : Nat} (h : n ≤ 1000000) : n < sizeLine := Nat.lt_of_le_of_lt h (by decide)
theorem od_add : OpD K X (binaryOp .Add) (fun x y H Q => rI0 (fun i j => .int (i + j)) x y H Q ∨ ∃ i j, x = .str i ∧ y = .str j ∧ i.length + j.length ≤ sizeLine ∧ Q (.str (i ++ j)) H) dAdd where
  op := fun _ pins s σ H x y v u Q I rx ry h => by
    rcases h with h | h
    · exact op_add pins s σ H x y v u Q I rx ry h
    · exact op_add_str pins s σ H x y v u Q I rx ry h
  ok := by
    intro x y d e c Z H Q s hx hy hg p
    unfold dAdd at hg
    split at hg
    · cases hx; cases hy; cases hg
      exact .inl ⟨_, _, rfl, rfl, p _ Z H (ExtP.refl s) (.int _)⟩
    · split at hg
      · rename_i hl
        cases hx; cases hy; cases hg
        exact .inr ⟨_, _, rfl, rfl, size_le hl, p _ Z H (ExtP.refl s) (.str _)⟩
      · cases hg
    · cases hg
theorem od_sub : OpD K X (binaryOp .Sub) (rI0 fun i j => .int (i - j)) (dIi fun i j => i - j) := ⟨fun _ => op_sub, ok_rI0 fun i j c h Z => by cases h; exact .int _⟩
def mulOk (i j : Int) : Bool := decide (-(2 ^ 64) < i ∧ i < 2 ^ 64) || decide (-(2 ^ 64) < j ∧ j < 2 ^ 64)
theorem od_mul : OpD K X (binaryOp .Mult) (rI CMul fun i j => .int (i * j)) (dI fun i j => if mulOk i j = true then some (.int (i * j)) else none) := ⟨fun _ => op_mul, ok_rI fun i j c h => by
  split at h
  · rename_i hc
    cases h
    refine ⟨?_, fun _ => .int _⟩
    unfold mulOk at hc
    simp only [Bool.or_eq_true, decide_eq_true_eq] at hc
    exact hc
  · cases h⟩
end
end DL
namespace DL
open PySem L2
section
variable {K : PySem.W.Frag} {X : Cx} {W : WX} {e a b c : Expr} {pos : Pos}
/-! ### more ints -/
theorem od_fdiv : OpD K X (binaryOp .FloorDiv) (rI CDivW fun i j => .int (i / j)) (dI fun i j => if 0 < j ∧ j < 18446744073709551616 then some (.int (i / j)) else none) := ⟨fun _ => op_fdivW, ok_rI fun i j c h => by
  split at h
  · rename_i hc
    cases h
    exact ⟨wide_div hc.1 (b := 64) (by have : (2 : Nat) ^ 64 = 18446744073709551616 := by decide
                                       omega) (by decide) (by decide), fun _ => .int _⟩
  · cases h⟩
theorem od_mod : OpD K X (binaryOp .Mod) (rI (fun _ j => 0 < j) fun i j => .int (i % j)) (dI fun i j => if 0 < j then some (.int (i % j)) else none) := ⟨fun _ => op_mod, ok_rI fun i j c h => by
  split at h
  · rename_i hc; cases h; exact ⟨hc, fun _ => .int _⟩
  · cases h⟩
theorem od_lt : OpD K X (compareOp .Lt) (rI0 fun i j => .bl (decide (i < j))) (dIb fun i j => decide (i < j)) := ⟨fun _ => op_lt, ok_rI0 fun i j c h Z => by cases h; exact .bl _⟩
theorem od_le : OpD K X (compareOp .LtE) (rI0 fun i j => .bl (decide (i ≤ j))) (dIb fun i j => decide (i ≤ j)) := ⟨fun _ => op_le, ok_rI0 fun i j c h Z => by cases h; exact .bl _⟩
theorem od_gt : OpD K X (compareOp .Gt) (rI0 fun i j => .bl (decide (j < i))) (dIb fun i j => decide (j < i)) := ⟨fun _ => op_gt, ok_rI0 fun i j c h Z => by cases h; exact .bl _⟩
theorem od_ge : OpD K X (compareOp .GtE) (rI0 fun i j => .bl (decide (j ≤ i))) (dIb fun i j => decide (j ≤ i)) := ⟨fun _ => op_ge, ok_rI0 fun i j c h Z => by cases h; exact .bl _⟩
theorem bool_dIb {g : Int → Int → Bool} : boolD (dIb g) := fun d e c h => by
  unfold dIb dI at h
  split at h
  · exact ⟨_, (Option.some.inj h).symm⟩
  · cases h
/-! ### one value in -/
def mUn (g : D → Option D) (m : EM) : EM := bnd m (pur fun d => ret (g d))
theorem so_un {r : V → Hp → VK → Prop} {g : D → Option D} {ta : TE} {m : EM} (h : ∀ (x : V) (d c : D) (Z H : Hp) (Q : VK), Same Z H → Rep K Z x d → g d = some c → PostP K Z H c Q → r x H Q)
    (ha : Sound K W (RepV K) ta m) : Sound K W (RepV K) (tUn r ta) (mUn g m) := ⟨fun σ H s Z I r0 Q w rs e p => by
  refine ha.bnd w rs e (p.x) fun d v M1 Z1 H1 I1 w1 rs1 x1 q1 e1 => ?_
  obtain ⟨d, rfl, e1⟩ := pur_ok e1
  obtain ⟨c, q, rfl⟩ := ret_ok e1
  exact h v d c Z1 H1 Q w1.sub q1 q (PostP.of w1 (p.mono x1))⟩
/-! ### is None -/
def isN : D → Bool
  | .non => true
  | _ => false
def isNV : DV → Bool
  | .p d => isN d
  | .o _ => false
def mIsN (m : EM) : EM := bnd m fun d s => some (.ok (.p (.bl (isNV d))) s.m)
def mNotN (m : EM) : EM := bnd m fun d s => some (.ok (.p (.bl (!isNV d))) s.m)
theorem so_B {t : TE} {m : EM} (h : Sound K W (RepV K) t m) (hb : ∀ s r, m s = some r → ∀ v M, r = .ok v M → ∃ b, v = .p (.bl b)) : Sound K W RepB (tB t) m := so_test h hb
/-! ### truth -/
def truD : D → Option Bool
  | .non => some false
  | .bl b => some b
  | .int i => some (i != 0)
  | .str y => if y.length ≤ 1000000 then some (!(y.length == 0)) else none
  | .lst xs => some (!xs.isEmpty)
  | .tup xs => some (!xs.isEmpty)
  | .ktup xs => some (!xs.isEmpty)
  | .klst xs => some (!xs.isEmpty)
  | _ => none
def truO : Option O → Option Bool
  | some (.lst xs) => some (!xs.isEmpty)
  | some (.dK xs) => some (!xs.isEmpty)
  | _ => none
def truM (M : List O) : DV → Option Bool
  | .p d => truD d
  | .o n => truO M[n]?
def mTru (m : EM) : EM := bnd m fun d s => match truM s.m d with
  | some b => some (.ok (.p (.bl b)) s.m)
  | none => none
theorem isEmpty_len {α β : Type} {xs : List α} {ys : List β} (h : xs.length = ys.length) : xs.isEmpty = ys.isEmpty := by
  cases xs <;> cases ys <;> first | rfl | cases h
theorem truV_of {Z H : Hp} {I : List Addr} {M : List O} {x : V} {d : DV} {b : Bool} (w : Wf K Z H I M) (h : RepV K Z I x d) (e : truM M d = some b) : TruV K x H b := by
  cases d with
  | o n =>
    obtain ⟨a, ha, rfl⟩ := h
    have e : truO M[n]? = some b := e
    cases q : M[n]? with
    | none => rw [q] at e; cases e
    | some o =>
      rw [q] at e
      cases o with
      | lst xs =>
        obtain ⟨_, ys, h1, h2⟩ := w.ob n a _ ha q (by intro z; cases z)
        cases e
        exact .inl ⟨ys, SqL.of h1, by rw [isEmpty_len (paired_len h2)]⟩
      | dK xs =>
        obtain ⟨_, ys, h1, h2⟩ := w.ob n a _ ha q (by intro z; cases z)
        cases e
        exact .inr (.inr ⟨ys, h1, by rw [isEmpty_len (paired_len h2)]⟩)
      | _ => cases e
  | p d =>
    have h : Rep K Z x d := h
    have e : truD d = some b := e
    cases h with
    | non => cases e; rfl
    | bl k => cases e; rfl
    | int i => cases e; rfl
    | str y =>
      have e : (if y.length ≤ 1000000 then some (!(y.length == 0)) else none) = some b := e
      split at e
      · rename_i hl
        cases e
        refine ⟨size_le hl, ?_⟩
        cases hz : y.length with
        | zero => rfl
        | succ n =>
          have : ¬ ((n : Int) + 1 = 0) := by omega
          simp [this]
      · cases e
    | lst h1 h2 => cases e; exact .inl ⟨_, .inl (same_rd w.sub h1), by rw [isEmpty_len h2.length]⟩
    | tup h1 h2 => cases e; exact .inr (.inl ⟨_, sqt w.sub h1, by rw [isEmpty_len h2.length]⟩)
    | ktup h1 h2 => cases e; exact .inr (.inl ⟨_, same_t w.sub h1, by rw [isEmpty_len h2.length]⟩)
    | klst h1 h2 => cases e; exact .inl ⟨_, same_l w.sub h1, by rw [isEmpty_len h2.length]⟩
    | dK _ _ => cases e
    | dT _ _ => cases e
    | fn _ => cases e
    | clo _ _ => cases e
    | scr _ _ => cases e
    | ty _ => cases e
    | rng _ => cases e
theorem dt_tru {ta : TE} {m : EM} (ha : DE K X W a ta m) (he : ∀ whole, isTrue a X.env whole = (do let v ← whole; standAt a.pos; holding [v] (truthy v)) := by intro _; rfl) : DT K X W a (fun σ H Q => ta σ H fun x H' => ∃ k, TruV K x H' k ∧ Q k H') (mTru m) := by
  refine ⟨ha.k, ?_, ⟨fun σ H s Z I r0 Q w rs e p => ?_⟩⟩
  · rw [← ha.k]; exact pt_truth ha.pe he
  refine ha.so.bnd w rs e (p.x) fun d v M1 Z1 H1 I1 w1 rs1 x1 q1 e1 => ?_
  have e1 : (match truM M1 d with | some b => some (Rs.ok (DV.p (.bl b)) M1) | none => none) = some r0 := e1
  cases q : truM M1 d with
  | none => rw [q] at e1; cases e1
  | some k =>
    rw [q] at e1
    obtain rfl := Option.some.inj e1
    exact ⟨k, truV_of w1 q1 q, p k Z1 H1 I1 w1 x1 rfl⟩
/-! ### and, or, not, if-else -/
def ifM {γ : Type} (n k : Mi γ) : DV → Mi γ
  | .p (.bl true), s => n s
  | .p (.bl false), s => k s
  | _, _ => none
def fls : EM := fun s => some (.ok (.p (.bl false)) s.m)
def tru : EM := fun s => some (.ok (.p (.bl true)) s.m)
def mAnd (m n : EM) : EM := bnd m (ifM n fls)
def mOr (m n : EM) : EM := bnd m (ifM tru n)
def mNot (m : EM) : EM := bnd m (ifM fls tru)
def mIf (c m n : EM) : EM := bnd c (ifM m n)
theorem so_and {t u : TT} {m n : EM} (ha : Sound K W RepB t m) (hb : Sound K W RepB u n) : Sound K W RepB (tAnd t u) (mAnd m n) := ⟨fun σ H s Z I r0 Q w rs e p => by
  refine ha.bnd w rs e (p.x) fun d v M1 Z1 H1 I1 w1 rs1 x1 q1 e1 => ?_
  cases (show d = .p (.bl v) from q1)
  cases v with
  | true => exact hb.ok σ H1 ⟨s.l, M1⟩ Z1 I1 r0 Q w1 rs1 e1 (p.mono x1)
  | false => cases e1; exact p false Z1 H1 I1 w1 x1 rfl⟩
theorem so_or {t u : TT} {m n : EM} (ha : Sound K W RepB t m) (hb : Sound K W RepB u n) : Sound K W RepB (tOr t u) (mOr m n) := ⟨fun σ H s Z I r0 Q w rs e p => by
  refine ha.bnd w rs e (p.x) fun d v M1 Z1 H1 I1 w1 rs1 x1 q1 e1 => ?_
  cases (show d = .p (.bl v) from q1)
  cases v with
  | false => exact hb.ok σ H1 ⟨s.l, M1⟩ Z1 I1 r0 Q w1 rs1 e1 (p.mono x1)
  | true => cases e1; exact p true Z1 H1 I1 w1 x1 rfl⟩
theorem dw_and1 {t : TT} {m : EM} (ha : DT K X W a t m) : DW K X W (.BoolOp .And [a] pos) t m := ⟨ha.k, pw_and1 ha.pt, ha.so⟩
theorem dw_or1 {t : TT} {m : EM} (ha : DT K X W a t m) : DW K X W (.BoolOp .Or [a] pos) t m := ⟨ha.k, pw_or1 ha.pt, ha.so⟩
theorem dw_and {t u : TT} {m n : EM} {rest : List Expr} (ha : DT K X W a t m) (hb : DW K X W (.BoolOp .And (b :: rest) pos) u n) : DW K X W (.BoolOp .And (a :: b :: rest) pos) (tAnd t u) (mAnd m n) := ⟨ha.k, pw_and ha.pt hb.pw, so_and ha.so hb.so⟩
theorem dw_or {t u : TT} {m n : EM} {rest : List Expr} (ha : DT K X W a t m) (hb : DW K X W (.BoolOp .Or (b :: rest) pos) u n) : DW K X W (.BoolOp .Or (a :: b :: rest) pos) (tOr t u) (mOr m n) := ⟨ha.k, pw_or ha.pt hb.pw, so_or ha.so hb.so⟩
theorem dt_w {t : TT} {m : EM} (h : DW K X W a t m) : DT K X W a t m := ⟨h.k, h.pw.pt, h.so⟩
/-- as values -/
theorem so_andV {t u : TE} {m n : EM} (ha : Sound K W (RepV K) t m) (hb : Sound K W (RepV K) u n) : Sound K W (RepV K) (tAndV t u) (mAnd m n) := ⟨fun σ H s Z I r0 Q w rs e p => by
  refine ha.bnd w rs e (p.x) fun d v M1 Z1 H1 I1 w1 rs1 x1 q1 e1 => ?_
  unfold ifM at e1
  split at e1
  · cases q1; exact ⟨true, rfl, by rw [if_pos rfl]; exact hb.ok σ H1 ⟨s.l, M1⟩ Z1 I1 r0 Q w1 rs1 e1 (p.mono x1)⟩
  · cases q1; cases e1; exact ⟨false, rfl, by rw [if_neg Bool.false_ne_true]; exact p _ Z1 H1 I1 w1 x1 (.bl _)⟩
  · cases e1⟩
theorem de_one {op} {t : TE} {m : EM} (ha : DE K X W a t m) : DE K X W (.BoolOp op [a] pos) t m := ⟨ha.k, pe_one ha.pe, ha.so⟩
theorem de_and {t u : TE} {m n : EM} {rest : List Expr} (ha : DE K X W a t m) (hb : DE K X W (.BoolOp .And (b :: rest) pos) u n) : DE K X W (.BoolOp .And (a :: b :: rest) pos) (tAndV t u) (mAnd m n) := ⟨ha.k, pe_and ha.pe hb.pe, so_andV ha.so hb.so⟩
/-! ### a chain of two comparisons -/
def mChain (g h : D → D → Option D) (m n k : EM) : EM := bnd m (pur fun d => bnd n (pur fun e => bnd (ret (g d e)) (ifM (bnd k (pur fun f => ret (h e f))) fls)))
theorem so_chain {r r' : R2} {g h : D → D → Option D} {ta tb tc : TE} {m n k : EM} (hg : ∀ (x y : V) (d e c : D) (Z H : Hp) (Q : VK), Same Z H → Rep K Z x d → Rep K Z y e → g d e = some c → PostP K Z H c Q → r x y H Q)
    (hh : ∀ (x y : V) (d e c : D) (Z H : Hp) (Q : VK), Same Z H → Rep K Z x d → Rep K Z y e → h d e = some c → PostP K Z H c Q → r' x y H Q)
    (ha : Sound K W (RepV K) ta m) (hb : Sound K W (RepV K) tb n) (hc : Sound K W (RepV K) tc k) : Sound K W (RepV K) (tChain r r' ta tb tc) (mChain g h m n k) := ⟨fun σ H s Z I r0 Q w rs e p => by
  refine ha.bnd w rs e (p.x) fun d v M1 Z1 H1 I1 w1 rs1 x1 q1 e1 => ?_
  obtain ⟨d, rfl, e1⟩ := pur_ok e1
  have p1 := p.mono x1
  refine hb.bnd (s := ⟨s.l, M1⟩) w1 rs1 e1 (p1.x) fun d2 v2 M2 Z2 H2 I2 w2 rs2 x2 q2 e2 => ?_
  obtain ⟨d2, rfl, e2⟩ := pur_ok e2
  have p2 := p1.mono x2
  cases hq : g d d2 with
  | none =>
    have e2 : bnd (ret (g d d2)) (ifM (bnd k (pur fun f => ret (h d2 f))) fls) ⟨s.l, M2⟩ = some r0 := e2
    rw [hq] at e2; cases e2
  | some c =>
    have e2 : bnd (ret (g d d2)) (ifM (bnd k (pur fun f => ret (h d2 f))) fls) ⟨s.l, M2⟩ = some r0 := e2
    rw [hq] at e2
    have e2 : ifM (bnd k (pur fun f => ret (h d2 f))) fls (.p c) ⟨s.l, M2⟩ = some r0 := e2
    refine hg v v2 d d2 c Z2 H2 _ w2.sub (Rep.mono x2.z q1) q2 hq fun v3 Z3 H3 x3 q3 => ?_
    have w3 := w2.extP x3
    have y3 := x3.ext w2
    have p3 := p2.mono y3
    have rs3 := rs2.mono y3
    unfold ifM at e2
    split at e2
    · rename_i hz
      cases hz
      cases q3
      refine ⟨true, rfl, ?_⟩
      rw [if_pos rfl]
      refine hc.bnd (s := ⟨s.l, M2⟩) w3 rs3 e2 (p3.x) fun d4 v4 M4 Z4 H4 I4 w4 rs4 x4 q4 e4 => ?_
      obtain ⟨d4, rfl, e4⟩ := pur_ok e4
      obtain ⟨c, q, rfl⟩ := ret_ok e4
      exact hh v2 v4 d2 d4 c Z4 H4 Q w4.sub (Rep.mono x4.z (Rep.mono x3.z q2)) q4 q (PostP.of w4 (p3.mono x4))
    · rename_i hz
      cases hz
      cases q3
      cases e2
      refine ⟨false, rfl, ?_⟩
      rw [if_neg Bool.false_ne_true]
      exact p3 _ Z3 H3 I2 w3 Ext.refl (.bl _)
    · cases e2⟩
theorem de_chain {op op' : CmpOp} {r r' : R2} {g h : D → D → Option D} {ta tb tc : TE} {m n k : EM} (hg : OpD K X (compareOp op) r g) (hh : OpD K X (compareOp op') r' h) (ha : DE K X W a ta m) (hb : DE K X W b tb n) (hc : DE K X W c tc k)
    (hm : lastMarks [op, op'] [b, c] = false := by with_unfolding_all rfl) : DE K X W (.Compare a [op, op'] [b, c] pos) (tChain r r' ta tb tc) (mChain g h m n k) :=
  ⟨ha.k, pe_chain (hg.op ha.k) (hh.op ha.k) ha.pe hb.pe hc.pe hm, so_chain hg.ok hh.ok ha.so hb.so hc.so⟩
end
end DL
namespace DL
open PySem L2
section
variable {K : PySem.W.Frag} {Z H Z' H' : Hp} {I I' : List Addr} {M : List O}
/-! ### the store's steps -/
theorem RepO.ext {a : Addr} (s : Same Z H) (x : Ext Z H I Z' H' I') (ha : H' a = H a) : ∀ {o : O}, RepO K Z I H a o → RepO K Z' I' H' a o
  | .lst _, ⟨xs, h, r⟩ => ⟨xs, ha.trans h, paired_imp (fun _ _ q => RepV.mono x q) r⟩
  | .dK _, ⟨xs, h, r⟩ => ⟨xs, ha.trans h, paired_imp (fun _ _ q => ⟨q.1, RepV.mono x q.2⟩) r⟩
  | .dT _, ⟨xs, h, r⟩ => ⟨xs, ha.trans h, paired_imp (fun _ _ q => ⟨q.1, RepV.mono x q.2⟩) r⟩
  | .ins _ _, ⟨dx, xs, h, r⟩ => ⟨dx, xs, ha.trans h, paired_imp (fun _ _ q => ⟨q.1, RepV.mono x q.2⟩) r⟩
  | .tbl _ _, ⟨e, ps, h, t, r⟩ => ⟨e, ps, ha.trans h, t, fun pos cv hc => by
      obtain ⟨c, h1, h2⟩ := r pos cv hc
      exact ⟨c, h1, x.z _ _ h2⟩⟩
  | .clo _ _, ⟨c, cl, cvs, h, n, r⟩ => ⟨c, cl, cvs, h.mono x.z, (fun y b q m => by
      obtain ⟨o, v, h1, _⟩ := h.all y b q
      rcases x.nw b m with k | k
      · exact n y b q k
      · rw [s b _ h1] at k; cases k), paired_imp (fun _ _ q => RepV.mono x q) r⟩
  | .gone, _ => trivial
theorem ext_new {p : Addr} {o : HO} (s : Same Z H) (h : H p = none) : Ext Z H I Z (upd H p o) (I ++ [p]) where
  z := Same.refl _
  i := ⟨[p], rfl⟩
  fr := fun a u e _ => by rw [upd_ne (ne_of_none e h)]; exact e
  nw := fun a m => by
    rcases List.mem_append.mp m with k | k
    · exact .inl k
    · rw [List.mem_singleton.mp k]; exact .inr h
  zn := fun a e => .inl e
  tr := fun a e => by
    rw [upd_ne (fun q => e (by rw [q]; exact h))]; exact e
theorem Wf.newO (w : Wf K Z H I M) {p : Addr} {ho : HO} {o : O} (hp : H p = none) (r : RepO K Z (I ++ [p]) (upd H p ho) p o) : Wf K Z (upd H p ho) (I ++ [p]) (M ++ [o]) where
  sub := fun a u e => by rw [upd_ne (ne_of_none (w.sub a u e) hp)]; exact w.sub a u e
  len := by rw [List.length_append, List.length_append, w.len]; rfl
  nd := by
    refine List.nodup_append.mpr ⟨w.nd, by simp, fun a ha b hb => ?_⟩
    rw [List.mem_singleton.mp hb]
    intro q
    exact w.tr a ha (by rw [q]; exact hp)
  tr := fun a m => by
    rcases List.mem_append.mp m with k | k
    · rw [upd_ne (fun q => w.tr a k (by rw [q]; exact hp))]; exact w.tr a k
    · rw [List.mem_singleton.mp k, upd_same]; simp
  ob := fun n a o' h1 h2 h3 => by
    by_cases hn : n < I.length
    · rw [List.getElem?_append_left hn] at h1
      rw [List.getElem?_append_left (by rw [← w.len]; exact hn)] at h2
      obtain ⟨q1, q2⟩ := w.ob n a o' h1 h2 h3
      exact ⟨q1, q2.ext w.sub (ext_new w.sub hp) (upd_ne fun q => w.tr a (List.mem_of_getElem? h1) (by rw [q]; exact hp))⟩
    · have e1 : n = I.length := by
        have := (List.getElem?_eq_some_iff.mp h1).1
        rw [List.length_append, List.length_singleton] at this
        omega
      subst e1
      rw [List.getElem?_append_right (Nat.le_refl _), Nat.sub_self] at h1
      rw [List.getElem?_append_right (by rw [w.len]; exact Nat.le_refl _), w.len, Nat.sub_self] at h2
      cases h1
      cases h2
      exact ⟨ZN.of (none_of w.sub hp) _, r⟩
theorem ext_set {a : Addr} {ho : HO} (ha : a ∈ I) : Ext Z H I Z (upd H a ho) I where
  z := Same.refl _
  i := ⟨[], by simp⟩
  fr := fun b u e n => by rw [upd_ne (fun q => n (by rw [q]; exact ha))]; exact e
  nw := fun _ m => .inl m
  zn := fun _ e => .inl e
  tr := fun b e => by
    by_cases q : b = a
    · rw [q, upd_same]; simp
    · rw [upd_ne q]; exact e
theorem Wf.setO (w : Wf K Z H I M) {n : Nat} {a : Addr} {ho : HO} {o o' : O} (ha : I[n]? = some a) (hm : M[n]? = some o) (hg : o ≠ .gone) (r : RepO K Z I (upd H a ho) a o') (op : o.opn := by trivial) : Wf K Z (upd H a ho) I (M.set n o') where
  sub := fun b u e => by
    have q := (w.ob n a o ha hm hg).1.get op
    rw [upd_ne (fun z => by rw [z, q] at e; cases e)]; exact w.sub b u e
  len := by rw [List.length_set]; exact w.len
  nd := w.nd
  tr := fun b m => (ext_set (Z := Z) (I := I) (List.mem_of_getElem? ha)).tr b (w.tr b m)
  ob := fun j b u h1 h2 h3 => by
    by_cases q : n = j
    · subst q
      rw [ha] at h1; cases h1
      rw [List.getElem?_set_self (List.getElem?_eq_some_iff.mp hm).1] at h2
      cases h2
      exact ⟨ZN.of ((w.ob n a o ha hm hg).1.get op) _, r⟩
    · rw [List.getElem?_set_ne q] at h2
      obtain ⟨q1, q2⟩ := w.ob j b u h1 h2 h3
      refine ⟨q1, q2.ext w.sub (ext_set (List.mem_of_getElem? ha)) (upd_ne fun z => ?_)⟩
      obtain ⟨l1, e1⟩ := List.getElem?_eq_some_iff.mp ha
      obtain ⟨l2, e2⟩ := List.getElem?_eq_some_iff.mp h1
      exact q ((List.getElem_inj w.nd).mp (e1.trans (z.symm.trans e2.symm)))
def allP : List DV → Option (List D)
  | [] => some []
  | .p d :: r => (allP r).map (d :: ·)
  | .o _ :: _ => none
theorem allP_rep : ∀ {vs : List V} {ds : List DV} {xs : List D}, RepVs K Z I vs ds → allP ds = some xs → RepA K Z vs xs
  | _, [], _, .nil, e => by cases e; exact .nil
  | _, .p d :: r, _, .cons h t, e => by
    have e : (allP r).map (d :: ·) = some _ := e
    cases q : allP r with
    | none => rw [q] at e; cases e
    | some ys =>
      rw [q] at e; cases e
      exact .cons h (allP_rep t q)
  | _, .o n :: r, _, .cons h t, e => by cases e
theorem allP_map : ∀ {vs : List V} {xs : List D}, RepA K Z vs xs → RepVs K Z I vs (xs.map .p)
  | _, _, .nil => .nil
  | _, _, .cons h t => .cons h (allP_map t)
/-- one's own list is given up: from now on it stays -/
theorem ext_frz {n : Nat} {a : Addr} {ho : HO} (w : Wf K Z H I M) (ha : I[n]? = some a) (hz : Z a = none) (hh : H a = some ho) : Ext Z H I (upd Z a ho) H I where
  z := same_upd hz
  i := ⟨[], by simp⟩
  fr := fun _ _ e _ => e
  nw := fun _ m => .inl m
  zn := fun b e => by
    by_cases q : b = a
    · rw [q]; exact .inr (.inr (List.mem_of_getElem? ha))
    · rw [upd_ne q] at e; exact .inl e
  tr := fun _ e => e
theorem Wf.frz (w : Wf K Z H I M) {n : Nat} {a : Addr} {ho : HO} {o : O} (ha : I[n]? = some a) (hm : M[n]? = some o) (hg : o ≠ .gone) (hh : H a = some ho) (op : o.opn := by trivial) : Wf K (upd Z a ho) H I (M.set n .gone) where
  sub := fun b u e => by
    by_cases q : b = a
    · rw [q, upd_same] at e; rw [q, hh]; exact e
    · rw [upd_ne q] at e; exact w.sub b u e
  len := by rw [List.length_set]; exact w.len
  nd := w.nd
  tr := w.tr
  ob := fun j b u h1 h2 h3 => by
    by_cases q : n = j
    · subst q
      rw [List.getElem?_set_self (List.getElem?_eq_some_iff.mp hm).1] at h2
      cases h2
      exact absurd rfl h3
    · rw [List.getElem?_set_ne q] at h2
      obtain ⟨q1, q2⟩ := w.ob j b u h1 h2 h3
      have hz := (w.ob n a o ha hm hg).1.get op
      refine ⟨q1.imp fun q1 => ?_, q2.ext w.sub (ext_frz w ha hz hh) rfl⟩
      rw [upd_ne fun z => ?_]
      · exact q1
      obtain ⟨l1, e1⟩ := List.getElem?_eq_some_iff.mp ha
      obtain ⟨l2, e2⟩ := List.getElem?_eq_some_iff.mp h1
      exact q ((List.getElem_inj w.nd).mp (e1.trans (z.symm.trans e2.symm)))
end
section
variable {K : PySem.W.Frag} {X : Cx} {W : WX} {e a b c : Expr} {es : List Expr} {pos : Pos}
/-! ### argument lists, displays -/
def aNil : AM := fun s => some (.ok [] s.m)
def aCons (m : EM) (ms : AM) : AM := bnd m fun d => bnd ms fun ds s => some (.ok (d :: ds) s.m)
theorem so_aNil : Sound K W (RepVs K) tNil aNil := ⟨fun σ H s Z I r Q w rs e p => by
  obtain rfl := Option.some.inj e
  exact p [] Z H I w Ext.refl .nil⟩
theorem so_aCons {ta : TE} {tr : TA} {m : EM} {ms : AM} (ha : Sound K W (RepV K) ta m) (hr : Sound K W (RepVs K) tr ms) : Sound K W (RepVs K) (tCons ta tr) (aCons m ms) := ⟨fun σ H s Z I r0 Q w rs e p => by
  refine ha.bnd w rs e (p.x) fun d v M1 Z1 H1 I1 w1 rs1 x1 q1 e1 => ?_
  have p1 := p.mono x1
  refine hr.bnd (s := ⟨s.l, M1⟩) w1 rs1 e1 (p1.x) fun ds vs M2 Z2 H2 I2 w2 rs2 x2 q2 e2 => ?_
  obtain rfl := Option.some.inj e2
  exact p1 _ Z2 H2 I2 w2 x2 (.cons (q1.mono x2) q2)⟩
theorem da_nil (k : X.K = K := by rfl) : DA K X W [] tNil aNil := ⟨k, pa_nil, so_aNil⟩
theorem da_cons {ta : TE} {tr : TA} {m : EM} {ms : AM} (ha : DE K X W e ta m) (hr : DA K X W es tr ms) (hs : starEach (e :: es) X.env = (false, eval e X.env) :: starEach es X.env := by rfl) : DA K X W (e :: es) (tCons ta tr) (aCons m ms) :=
  ⟨ha.k, pa_cons ha.pe hr.pa hs, so_aCons ha.so hr.so⟩
def disp (g : List D → D) (ms : AM) : EM := bnd ms fun ds s => match allP ds with
  | some xs => if xs.length ≤ 1000000 then some (.ok (.p (g xs)) s.m) else none
  | none => none
theorem so_tup {t : TA} {ms : AM} (h : Sound K W (RepVs K) t ms) : Sound K W (RepV K) (tTup t) (disp .tup ms) := ⟨fun σ H s Z I r0 Q w rs e p => by
  refine h.bnd w rs e (p.x) fun ds vs M1 Z1 H1 I1 w1 rs1 x1 q1 e1 => ?_
  have e1 : (match allP ds with | some xs => if xs.length ≤ 1000000 then some (Rs.ok (DV.p (D.tup xs)) M1) else none | none => none) = some r0 := e1
  cases q : allP ds with
  | none => rw [q] at e1; cases e1
  | some xs =>
    rw [q] at e1
    have e1 : (if xs.length ≤ 1000000 then some (Rs.ok (DV.p (D.tup xs)) M1) else none) = some r0 := e1
    split at e1
    · rename_i hl
      obtain rfl := Option.some.inj e1
      have ra := allP_rep q1 q
      refine ⟨by rw [ra.length]; exact size_le hl, fun l hl => ?_⟩
      have y := ExtP.new (o := .tup vs) w1.sub hl
      exact (p.mono x1) _ _ _ I1 (w1.extP y) (y.ext w1) (.tup upd_same (ra.mono y.z))
    · cases e1⟩
theorem so_lst {t : TA} {ms : AM} (h : Sound K W (RepVs K) t ms) : Sound K W (RepV K) (tLst t) (disp .lst ms) := ⟨fun σ H s Z I r0 Q w rs e p => by
  refine h.bnd w rs e (p.x) fun ds vs M1 Z1 H1 I1 w1 rs1 x1 q1 e1 => ?_
  have e1 : (match allP ds with | some xs => if xs.length ≤ 1000000 then some (Rs.ok (DV.p (D.lst xs)) M1) else none | none => none) = some r0 := e1
  cases q : allP ds with
  | none => rw [q] at e1; cases e1
  | some xs =>
    rw [q] at e1
    have e1 : (if xs.length ≤ 1000000 then some (Rs.ok (DV.p (D.lst xs)) M1) else none) = some r0 := e1
    split at e1
    · rename_i hl
      obtain rfl := Option.some.inj e1
      have ra := allP_rep q1 q
      refine ⟨by rw [ra.length]; exact size_le hl, fun l hl => ?_⟩
      have y := ExtP.new (o := .lst vs) w1.sub hl
      exact (p.mono x1) _ _ _ I1 (w1.extP y) (y.ext w1) (.lst (.inl upd_same) (ra.mono y.z))
    · cases e1⟩
def dispO (ms : AM) : EM := bnd ms fun ds s => if ds.length ≤ 1000000 then some (.ok (.o s.m.length) (s.m ++ [.lst ds])) else none
theorem so_lstO {t : TA} {ms : AM} (h : Sound K W (RepVs K) t ms) : Sound K W (RepV K) (tLst t) (dispO ms) := ⟨fun σ H s Z I r0 Q w rs e p => by
  refine h.bnd w rs e (p.x) fun ds vs M1 Z1 H1 I1 w1 rs1 x1 q1 e1 => ?_
  have e1 : (if ds.length ≤ 1000000 then some (Rs.ok (DV.o M1.length) (M1 ++ [.lst ds])) else none) = some r0 := e1
  split at e1
  · rename_i hl
    obtain rfl := Option.some.inj e1
    refine ⟨by rw [paired_len q1]; exact size_le hl, fun l hp => ?_⟩
    have y := ext_new (I := I1) (o := .lst vs) w1.sub hp
    refine (p.mono x1) _ Z1 _ (I1 ++ [l]) (w1.newO hp ⟨vs, upd_same, paired_imp (fun _ _ q => RepV.mono y q) q1⟩) y ⟨l, ?_, rfl⟩
    rw [← w1.len, List.getElem?_append_right (Nat.le_refl _), Nat.sub_self]
    rfl
  · cases e1⟩
theorem de_tup {t : TA} {ms : AM} {x1} (h : DA K X W es t ms) : DE K X W (.Tuple es x1 pos) (tTup t) (disp .tup ms) := ⟨h.k, pe_tup h.pa, so_tup h.so⟩
theorem de_lst {t : TA} {ms : AM} (h : DA K X W es t ms) : DE K X W (.List es pos) (tLst t) (disp .lst ms) := ⟨h.k, pe_lst h.pa, so_lst h.so⟩
theorem de_lstO {t : TA} {ms : AM} (h : DA K X W es t ms) : DE K X W (.List es pos) (tLst t) (dispO ms) := ⟨h.k, pe_lst h.pa, so_lstO h.so⟩
/-! ### an item -/
def ixD : D → Int → Option D
  | .lst xs, i => atI xs i
  | .tup xs, i => atI xs i
  | .ktup xs, i => atI xs i
  | .klst xs, i => atI xs i
  | .str z, i => if z.length ≤ 1000000 then (atI z.cps.toList i).map fun c => .str ⟨#[c]⟩ else none
  | _, _ => none
def ixO : Option O → Int → Option DV
  | some (.lst xs), i => atI xs i
  | _, _ => none
def ixM (M : List O) : DV → Int → Option DV
  | .p d, i => (ixD d i).map .p
  | .o n, i => ixO M[n]? i
def mIx (m n : EM) : EM := bnd m fun d => bnd n (pur fun i s => match i with
  | .int i => match ixM s.m d i with
    | some c => some (.ok c s.m)
    | none => none
  | _ => none)
theorem atI_get {α : Type} {xs : List α} {i : Int} {x : α} (h : atI xs i = some x) : ∃ j, ixN xs.length i = some j ∧ xs[j]? = some x := by
  unfold atI at h
  cases q : ixN xs.length i with
  | none => rw [q] at h; cases h
  | some j => rw [q] at h; exact ⟨j, rfl, h⟩
theorem atI_rep {Z : Hp} {xs : List V} {ds : List D} {i : Int} {d : D} (r : RepA K Z xs ds) (h : atI ds i = some d) : ∃ v, atI xs i = some v ∧ Rep K Z v d := by
  obtain ⟨j, h1, h2⟩ := atI_get h
  obtain ⟨v, h3, h4⟩ := r.get h2
  exact ⟨v, by unfold atI; rw [r.length, h1]; exact h3, h4⟩
theorem atI_repV {Z : Hp} {I : List Addr} {xs : List V} {ds : List DV} {i : Int} {d : DV} (r : RepVs K Z I xs ds) (h : atI ds i = some d) : ∃ v, atI xs i = some v ∧ RepV K Z I v d := by
  obtain ⟨j, h1, h2⟩ := atI_get h
  obtain ⟨v, h3, h4⟩ := paired_get r h2
  exact ⟨v, by unfold atI; rw [paired_len r, h1]; exact h3, h4⟩
theorem ix_ok {Z H : Hp} {I : List Addr} {M : List O} {x : V} {d c : DV} {i : Int} {Q : VK} (w : Wf K Z H I M) (h : RepV K Z I x d) (e : ixM M d i = some c) (q : ∀ v, RepV K Z I v c → Q v H) : rIx K x (.int i) H Q := by
  cases d with
  | o n =>
    obtain ⟨a, ha, rfl⟩ := h
    have e : ixO M[n]? i = some c := e
    cases z : M[n]? with
    | none => rw [z] at e; cases e
    | some o =>
      rw [z] at e
      cases o with
      | lst xs =>
        obtain ⟨_, ys, h1, h2⟩ := w.ob n a _ ha z (by intro z; cases z)
        obtain ⟨v, h3, h4⟩ := atI_repV h2 e
        exact .inl ⟨_, ys, i, v, rfl, rfl, SqL.of h1, h3, q v h4⟩
      | _ => cases e
  | p d =>
    have h : Rep K Z x d := h
    have e : (ixD d i).map .p = some c := e
    cases z : ixD d i with
    | none => rw [z] at e; cases e
    | some c' =>
    rw [z] at e; cases e
    cases h with
    | lst h1 h2 =>
      obtain ⟨v, h3, h4⟩ := atI_rep h2 (show atI _ i = some c' from z)
      exact .inl ⟨_, _, i, v, rfl, rfl, .inl (same_rd w.sub h1), h3, q v h4⟩
    | tup h1 h2 =>
      obtain ⟨v, h3, h4⟩ := atI_rep h2 (show atI _ i = some c' from z)
      exact .inr (.inl ⟨_, _, i, v, rfl, rfl, sqt w.sub h1, h3, q v h4⟩)
    | ktup h1 h2 =>
      obtain ⟨v, h3, h4⟩ := atI_rep h2 (show atI _ i = some c' from z)
      exact .inr (.inl ⟨_, _, i, v, rfl, rfl, same_t w.sub h1, h3, q v h4⟩)
    | klst h1 h2 =>
      obtain ⟨v, h3, h4⟩ := atI_rep h2 (show atI _ i = some c' from z)
      exact .inl ⟨_, _, i, v, rfl, rfl, same_l w.sub h1, h3, q v h4⟩
    | str y =>
      have z : (if y.length ≤ 1000000 then (atI y.cps.toList i).map fun c => D.str ⟨#[c]⟩ else none) = some c' := z
      split at z
      · rename_i hl
        cases z2 : atI y.cps.toList i with
        | none => rw [z2] at z; cases z
        | some k =>
          rw [z2] at z; cases z
          exact .inr (.inr ⟨y, i, k, rfl, rfl, size_le hl, z2, q _ (.str _)⟩)
      · cases z
    | _ => cases z
theorem so_ix {ta tb : TE} {m n : EM} (ha : Sound K W (RepV K) ta m) (hb : Sound K W (RepV K) tb n) : Sound K W (RepV K) (tOp (rIx K) ta tb) (mIx m n) := ⟨fun σ H s Z I r0 Q w rs e p => by
  refine ha.bnd w rs e (p.x) fun d v M1 Z1 H1 I1 w1 rs1 x1 q1 e1 => ?_
  have p1 := p.mono x1
  refine hb.bnd (s := ⟨s.l, M1⟩) w1 rs1 e1 (p1.x) fun d2 v2 M2 Z2 H2 I2 w2 rs2 x2 q2 e2 => ?_
  obtain ⟨d2, rfl, e2⟩ := pur_ok e2
  have p2 := p1.mono x2
  cases d2 with
  | int i =>
    have e2 : (match ixM M2 d i with | some c => some (Rs.ok c M2) | none => none) = some r0 := e2
    cases q2
    cases z : ixM M2 d i with
    | none => rw [z] at e2; cases e2
    | some c =>
      rw [z] at e2; cases e2
      exact ix_ok w2 (q1.mono x2) z fun v r => p2 v Z2 H2 I2 w2 Ext.refl r
  | _ => cases e2⟩
theorem de_ix {ta tb : TE} {m n : EM} (ha : DE K X W a ta m) (hb : DE K X W b tb n) (hs : PlainIx b := by exact fun _ _ => rfl) : DE K X W (.Subscript a b pos) (tOp (rIx K) ta tb) (mIx m n) := by
  refine ⟨ha.k, ?_, so_ix ha.so hb.so⟩
  have h := pe_ix (X := X) (pos := pos) ix_seq ha.pe hb.pe hs
  rw [ha.k] at h
  exact h
/-! ### built-in calls -/
structure CallD (K : PySem.W.Frag) (X : Cx) (f : Value) (r : List V → Hp → VK → Prop) (g : List O → List DV → Option D) : Prop where
  op : X.K = K → CallR X f r
  ok : ∀ (vs : List V) (ds : List DV) (c : D) (Z H : Hp) (I : List Addr) (M : List O) (Q : VK), Wf K Z H I M → RepVs K Z I vs ds → g M ds = some c → PostP K Z H c Q → r vs H Q
def mCB (g : List O → List DV → Option D) (ms : AM) : EM := bnd ms fun ds s => ret (g s.m ds) s
theorem so_cb {r : List V → Hp → VK → Prop} {g : List O → List DV → Option D} {t : TA} {ms : AM} (h : ∀ (vs : List V) (ds : List DV) (c : D) (Z H : Hp) (I : List Addr) (M : List O) (Q : VK), Wf K Z H I M → RepVs K Z I vs ds → g M ds = some c → PostP K Z H c Q → r vs H Q)
    (ha : Sound K W (RepVs K) t ms) : Sound K W (RepV K) (tCB r t) (mCB g ms) := ⟨fun σ H s Z I r0 Q w rs e p => by
  refine ha.bnd w rs e (p.x) fun ds vs M1 Z1 H1 I1 w1 rs1 x1 q1 e1 => ?_
  obtain ⟨c, q, rfl⟩ := ret_ok e1
  exact h vs ds c Z1 H1 I1 M1 Q w1 q1 q (PostP.of w1 (p.mono x1))⟩
theorem de_callB {id : String} {r : List V → Hp → VK → Prop} {g : List O → List DV → Option D} {t : TA} {ms : AM} {x : Str} {p : Pos} (h : CallD K X (.builtin id) r g) (hm : X.mg x = none) (ha : DA K X W (e :: es) t ms) (hv : bootBuiltins x = some (.builtin id) := by decide +kernel) (hg : Gl X x := by rfl) (hn : x ≠ "__name__" := by decide) (hdb : (x == ("__debug__" : Str)) = false := by decide)
    (he : starEach (e :: es) X.env = (false, eval e X.env) :: starEach es X.env := by rfl) (hpl : (backTo pos (starEach es X.env)).any (·.1) = false := by rfl) : DE K X W (.Call (.Name x p) (e :: es) [] pos) (tCB r t) (mCB g ms) :=
  ⟨ha.k, pe_callB (h.op ha.k) hg hm hv ha.pa hn hdb he hpl, so_cb h.ok ha.so⟩
theorem de_callTy {T : String} {r : List V → Hp → VK → Prop} {g : List O → List DV → Option D} {t : TA} {ms : AM} {x : Str} {p : Pos} (h : CallD K X (.type T) r g) (hm : X.mg x = none) (ha : DA K X W (e :: es) t ms) (hv : bootBuiltins x = some (.type T) := by decide +kernel) (hg : Gl X x := by rfl) (hn : x ≠ "__name__" := by decide) (hdb : (x == ("__debug__" : Str)) = false := by decide)
    (he : starEach (e :: es) X.env = (false, eval e X.env) :: starEach es X.env := by rfl) (hpl : (backTo pos (starEach es X.env)).any (·.1) = false := by rfl) : DE K X W (.Call (.Name x p) (e :: es) [] pos) (tCB r t) (mCB g ms) :=
  ⟨ha.k, pe_callTy (h.op ha.k) hg hm hv ha.pa hn hdb he hpl, so_cb h.ok ha.so⟩
def g1 (g : D → Option D) : List O → List DV → Option D
  | _, [.p d] => g d
  | _, _ => none
theorem g1_ok {r : List V → Hp → VK → Prop} {g : D → Option D} (h : ∀ (x : V) (d c : D) (Z H : Hp) (Q : VK), Same Z H → Rep K Z x d → g d = some c → PostP K Z H c Q → r [x] H Q) :
    ∀ (vs : List V) (ds : List DV) (c : D) (Z H : Hp) (I : List Addr) (M : List O) (Q : VK), Wf K Z H I M → RepVs K Z I vs ds → g1 g M ds = some c → PostP K Z H c Q → r vs H Q := by
  intro vs ds c Z H I M Q w rv hg p
  unfold g1 at hg
  split at hg
  · cases rv with
    | cons h1 h2 =>
      cases h2
      exact h _ _ c Z H Q w.sub h1 hg p
  · cases hg
def dAbs : D → Option D
  | .int i => some (.int (if i < 0 then -i else i))
  | _ => none
theorem cd_abs : CallD K X (.builtin "abs") (fun xs H Q => ∃ i, xs = [.int i] ∧ Q (.int (if i < 0 then -i else i)) H) (g1 dAbs) := ⟨fun _ => call_abs, g1_ok fun x d c Z H Q s hx hg p => by
  unfold dAbs at hg
  split at hg
  · cases hx; cases hg; exact ⟨_, rfl, p _ Z H (ExtP.refl s) (.int _)⟩
  · cases hg⟩
def dInt : D → Option D
  | .int i => some (.int i)
  | .bl b => some (.int (if b then 1 else 0))
  | _ => none
theorem cd_int : CallD K X (.type "int") (fun xs H Q => (∃ i, xs = [.int i] ∧ Q (.int i) H) ∨ ∃ k, xs = [.bl k] ∧ Q (.int (if k then 1 else 0)) H) (g1 dInt) := ⟨fun _ => call_int1, g1_ok fun x d c Z H Q s hx hg p => by
  unfold dInt at hg
  split at hg
  · cases hx; cases hg; exact .inl ⟨_, rfl, p _ Z H (ExtP.refl s) (.int _)⟩
  · cases hx; cases hg; exact .inr ⟨_, rfl, p _ Z H (ExtP.refl s) (.int _)⟩
  · cases hg⟩
def lenD : D → Option Nat
  | .lst xs => some xs.length
  | .tup xs => some xs.length
  | .ktup xs => some xs.length
  | .klst xs => some xs.length
  | .str y => if y.length ≤ 1000000 then some y.length else none
  | _ => none
def lenO : Option O → Option Nat
  | some (.lst xs) => some xs.length
  | _ => none
def lenM (M : List O) : DV → Option Nat
  | .p d => lenD d
  | .o n => lenO M[n]?
def dLen : List O → List DV → Option D
  | M, [d] => Option.map (fun (n : Nat) => D.int (n : Int)) (lenM M d)
  | _, _ => none
theorem cd_len : CallD K X (.builtin "len") (fun xs H Q => ∃ x n, xs = [x] ∧ LenV K x H n ∧ Q (.int n) H) dLen := ⟨fun k => by rw [← k]; exact call_len, fun vs ds c Z H I M Q w rv hg p => by
  unfold dLen at hg
  split at hg
  · rename_i d
    cases rv with
    | cons h1 h2 =>
    cases h2
    cases z : lenM M d with
    | none => rw [z] at hg; cases hg
    | some n =>
      rw [z] at hg; cases hg
      refine ⟨_, n, rfl, ?_, p _ Z H (ExtP.refl w.sub) (.int _)⟩
      cases d with
      | o j =>
        obtain ⟨a, ha, rfl⟩ := h1
        have z : lenO M[j]? = some n := z
        cases y : M[j]? with
        | none => rw [y] at z; cases z
        | some o =>
          rw [y] at z
          cases o with
          | lst xs =>
            obtain ⟨_, ys, g1, g2⟩ := w.ob j a _ ha y (by intro z; cases z)
            cases z
            exact .inl ⟨ys, SqL.of g1, (paired_len g2).symm⟩
          | _ => cases z
      | p d =>
        have h1 : Rep K Z _ d := h1
        have z : lenD d = some n := z
        cases h1 with
        | lst g1 g2 => cases z; exact .inl ⟨_, .inl (same_rd w.sub g1), g2.length.symm⟩
        | tup g1 g2 => cases z; exact .inr ⟨_, sqt w.sub g1, g2.length.symm⟩
        | ktup g1 g2 => cases z; exact .inr ⟨_, same_t w.sub g1, g2.length.symm⟩
        | klst g1 g2 => cases z; exact .inl ⟨_, same_l w.sub g1, g2.length.symm⟩
        | str y =>
          have z : (if y.length ≤ 1000000 then some y.length else none) = some n := z
          split at z
          · rename_i hl
            cases z
            exact ⟨size_le hl, rfl⟩
          · cases z
        | _ => cases z
  · cases hg⟩
end
end DL
namespace DL
open PySem L2
/-! ### defs: by data alone (A), with objects of one's own (B) -/
inductive RD where
  | ok (d : D) | ex (c : Addr) (fs : List (Str × D))
abbrev MA := List D → Option RD
def spA (K : PySem.W.Frag) (n : Nat) (f : MA) : Sp := fun vs H Q E => vs.length = n ∧ ∃ Z ds r, Same Z H ∧ RepA K Z vs ds ∧ f ds = some r ∧ (match r with
  | .ok d => PostP K Z H d Q
  | .ex c fs => ∀ d Z' H', ExtP Z H Z' H' → ExcAt K Z' H' d fs → (∀ a, d = some a → H a = none) → E (.ref c) d H')
def spB (K : PySem.W.Frag) (n : Nat) (f : List DV → List O → Option (Rs DV)) : Sp := fun vs H Q E => vs.length = n ∧ ∃ Z I M ds r, Wf K Z H I M ∧ RepVs K Z I vs ds ∧ f ds M = some r ∧ (match r with
  | .ok dv M' => ∀ v Z' H' I', Wf K Z' H' I' M' → Ext Z H I Z' H' I' → RepV K Z' I' v dv → Q v H'
  | .ex c fs M' => ∀ d Z' H' I', Wf K Z' H' I' M' → Ext Z H I Z' H' I' → ExcAt K Z' H' d fs → (∀ a, d = some a → H a = none ∧ a ∉ I') → E (.ref c) d H')
theorem spA_len {K : PySem.W.Frag} {n : Nat} {f : MA} : ∀ vs H Q E, spA K n f vs H Q E → vs.length = n := fun _ _ _ _ h => h.1
theorem spB_len {K : PySem.W.Frag} {n : Nat} {f : List DV → List O → Option (Rs DV)} : ∀ vs H Q E, spB K n f vs H Q E → vs.length = n := fun _ _ _ _ h => h.1
section
variable {K : PySem.W.Frag} {X : Cx} {W : WX} {e a b c : Expr} {es : List Expr} {pos : Pos}
/-! ### calls of defs -/
def mCallA (n : Nat) (f : MA) (ms : AM) : EM := bnd ms fun ds s => if ds.length = n then match allP ds with
  | some xs => match f xs with
    | some (.ok d) => some (.ok (.p d) s.m)
    | some (.ex c fs) => some (.ex c fs s.m)
    | none => none
  | none => none else none
def mCallB (n : Nat) (f : List DV → List O → Option (Rs DV)) (ms : AM) : EM := bnd ms fun ds s => if ds.length = n then f ds s.m else none
theorem so_callA {n : Nat} {f : MA} {t : TA} {ms : AM} (ha : Sound K W (RepVs K) t ms) : Sound K W (RepV K) (tCallS (spA K n f) (fun σ => WE W σ) t) (mCallA n f ms) := ⟨fun σ H s Z I r0 Q w rs e p => by
  refine ha.bnd w rs e (p.x) fun ds vs M1 Z1 H1 I1 w1 rs1 x1 q1 e1 => ?_
  have p1 := p.mono x1
  have e1 : (if ds.length = n then match allP ds with
    | some xs => match f xs with
      | some (.ok d) => some (Rs.ok (DV.p d) M1)
      | some (.ex c fs) => some (Rs.ex c fs M1)
      | none => none
    | none => none else none) = some r0 := e1
  split at e1
  · rename_i hl
    cases z : allP ds with
    | none => rw [z] at e1; cases e1
    | some xs =>
      rw [z] at e1
      have e1 : (match f xs with
        | some (.ok d) => some (Rs.ok (DV.p d) M1)
        | some (.ex c fs) => some (Rs.ex c fs M1)
        | none => none) = some r0 := e1
      have ra := allP_rep q1 z
      cases y : f xs with
      | none => rw [y] at e1; cases e1
      | some r =>
        rw [y] at e1
        refine ⟨by rw [paired_len q1]; exact hl, Z1, xs, r, w1.sub, ra, y, ?_⟩
        cases r with
        | ok d => cases e1; exact PostP.of w1 p1
        | ex c fs =>
          cases e1
          intro d Z2 H2 x2 ea na
          exact p1 d Z2 H2 I1 (w1.extP x2) (x2.ext w1) ea fun b q => ⟨na b q, fun m => w1.tr b m (na b q)⟩
  · cases e1⟩
theorem so_callB {n : Nat} {f : List DV → List O → Option (Rs DV)} {t : TA} {ms : AM} (ha : Sound K W (RepVs K) t ms) : Sound K W (RepV K) (tCallS (spB K n f) (fun σ => WE W σ) t) (mCallB n f ms) := ⟨fun σ H s Z I r0 Q w rs e p => by
  refine ha.bnd w rs e (p.x) fun ds vs M1 Z1 H1 I1 w1 rs1 x1 q1 e1 => ?_
  have p1 := p.mono x1
  have e1 : (if ds.length = n then f ds M1 else none) = some r0 := e1
  split at e1
  · rename_i hl
    refine ⟨by rw [paired_len q1]; exact hl, Z1, I1, M1, ds, r0, w1, q1, e1, ?_⟩
    cases r0 with
    | ok d M' => exact p1
    | ex c fs M' => exact p1
  · cases e1⟩
theorem de_callA {n k : Nat} {f : MA} {fa : Addr} {fd : FuncData} {ps : List Str} {t : TA} {ms : AM} {x : Str} {p : Pos} (F : FnOk X.prog X.w K X.mg X.base (L2.CX X.prog X.w) k fa fd ps (spA K n f)) (hr : Room k X.A) (tk : Takes X W) (hm : X.mg x = some (.ref fa)) (hk : PySem.W.keepIn K (.ref fa) = true) (hb : Binds K fd ps [])
    (ha : DA K X W (e :: es) t ms) (hg : Gl X x := by rfl) (hdb : (x == ("__debug__" : Str)) = false := by decide) (he : starEach (e :: es) X.env = (false, eval e X.env) :: starEach es X.env := by rfl) (hpl : (backTo pos (starEach es X.env)).any (·.1) = false := by rfl) :
    DE K X W (.Call (.Name x p) (e :: es) [] pos) (tCallS (spA K n f) (fun σ => WE W σ) t) (mCallA n f ms) := by
  have k := ha.k
  subst k
  exact ⟨rfl, pe_callS F hr hg hm hk hb (fun σ => passAt tk σ) ha.pa hdb he hpl, so_callA ha.so⟩
theorem de_callB' {n k : Nat} {f : List DV → List O → Option (Rs DV)} {fa : Addr} {fd : FuncData} {ps : List Str} {t : TA} {ms : AM} {x : Str} {p : Pos} (F : FnOk X.prog X.w K X.mg X.base (L2.CX X.prog X.w) k fa fd ps (spB K n f)) (hr : Room k X.A) (tk : Takes X W) (hm : X.mg x = some (.ref fa)) (hk : PySem.W.keepIn K (.ref fa) = true) (hb : Binds K fd ps [])
    (ha : DA K X W (e :: es) t ms) (hg : Gl X x := by rfl) (hdb : (x == ("__debug__" : Str)) = false := by decide) (he : starEach (e :: es) X.env = (false, eval e X.env) :: starEach es X.env := by rfl) (hpl : (backTo pos (starEach es X.env)).any (·.1) = false := by rfl) :
    DE K X W (.Call (.Name x p) (e :: es) [] pos) (tCallS (spB K n f) (fun σ => WE W σ) t) (mCallB n f ms) := by
  have k := ha.k
  subst k
  exact ⟨rfl, pe_callS F hr hg hm hk hb (fun σ => passAt tk σ) ha.pa hdb he hpl, so_callB ha.so⟩
/-! ### one's own list, given up -/
def mFrz (m : EM) : EM := bnd m fun d s => match d with
  | .p d => some (.ok (.p d) s.m)
  | .o n => match s.m[n]? with
    | some (.lst ds) => match allP ds with
      | some xs => some (.ok (.p (.lst xs)) (s.m.set n .gone))
      | none => none
    | _ => none
theorem so_frz {t : TE} {m : EM} (h : Sound K W (RepV K) t m) : Sound K W (RepV K) t (mFrz m) := ⟨fun σ H s Z I r0 Q w rs e p => by
  unfold mFrz bnd at e
  cases z : m s with
  | none => rw [z] at e; cases e
  | some r =>
    rw [z] at e
    refine h.ok σ H s Z I r Q w rs z ?_
    cases r with
    | ex c fs M => cases e; exact p
    | ok d M =>
      cases d with
      | p d => cases e; exact p
      | o n =>
        have e : (match M[n]? with
          | some (.lst ds) => match allP ds with
            | some xs => some (Rs.ok (DV.p (D.lst xs)) (M.set n .gone))
            | none => none
          | _ => none) = some r0 := e
        intro v Z' H' I' w' x' q'
        obtain ⟨a, ha, rfl⟩ := q'
        cases y : M[n]? with
        | none => rw [y] at e; cases e
        | some o =>
          rw [y] at e
          cases o with
          | lst ds =>
            have e : (match allP ds with
              | some xs => some (Rs.ok (DV.p (D.lst xs)) (M.set n .gone))
              | none => none) = some r0 := e
            cases u : allP ds with
            | none => rw [u] at e; cases e
            | some xs =>
              rw [u] at e; cases e
              obtain ⟨hz, ys, h1, h2⟩ := w'.ob n a _ ha y (by intro z; cases z)
              have x2 := ext_frz w' ha hz h1
              exact p _ _ _ I' (w'.frz ha y (by intro z; cases z) h1) (x'.trans x2) (.lst (.inl upd_same) ((allP_rep h2 u).mono x2.z))
          | _ => cases e⟩
theorem de_frz {t : TE} {m : EM} (h : DE K X W e t m) : DE K X W e t (mFrz m) := ⟨h.k, h.pe, so_frz h.so⟩
/-! ### statements -/
def liftS {α : Type} (m : Mi α) (k : α → SM) : SM := fun s => match m s with
  | some (.ok v M) => k v ⟨s.l, M⟩
  | some (.ex c f M) => some (.ex c f, ⟨s.l, M⟩)
  | none => none
theorem PostS.mono {Z H Z1 H1 : Hp} {I I1 : List Addr} {D : Ends} (x : Ext Z H I Z1 H1 I1) : ∀ {r : Fl × S}, PostS K W Z H I D r → PostS K W Z1 H1 I1 D r
  | (.nx, _), p => fun σ' Z' H' I' w r x' => p σ' Z' H' I' w r (x.trans x')
  | (.rt _, _), p => fun v Z' H' I' w x' r => p v Z' H' I' w (x.trans x') r
  | (.bk, _), p => fun σ' Z' H' I' w r x' => p σ' Z' H' I' w r (x.trans x')
  | (.ct, _), p => fun σ' Z' H' I' w r x' => p σ' Z' H' I' w r (x.trans x')
  | (.ex _ _, _), p => fun σ' d Z' H' I' w r x' ea na => p σ' d Z' H' I' w r (x.trans x') ea fun b q => ⟨by
      cases z : H b with
      | none => rfl
      | some o => exact absurd (na b q).1 (x.tr b (by rw [z]; simp)), (na b q).2⟩
theorem Sound.lift {α β : Type} {R : Hp → List Addr → β → α → Prop} {t : St → Hp → (β → Hp → Prop) → Prop} {m : Mi α} (h : Sound K W R t m) {σ : St} {H Z : Hp} {I : List Addr} {s : S} {k : α → SM} {r : Fl × S} {D : Ends} {Q : β → Hp → Prop}
    (w : Wf K Z H I s.m) (rs : RepS K Z I σ s.l) (e : liftS m k s = some r) (p : PostS K W Z H I D r)
    (hk : ∀ a b M' Z' H' I', Wf K Z' H' I' M' → RepS K Z' I' σ s.l → Ext Z H I Z' H' I' → R Z' I' b a → k a ⟨s.l, M'⟩ = some r → PostS K W Z' H' I' D r → Q b H') : t σ H Q := by
  unfold liftS at e
  cases q : m s with
  | none => rw [q] at e; cases e
  | some r0 =>
    rw [q] at e
    cases r0 with
    | ok v M => exact h.ok σ H s Z I _ Q w rs q fun b Z' H' I' w' x' r' => hk v b M Z' H' I' w' (rs.mono x') x' r' e (p.mono x')
    | ex c f M =>
      obtain rfl := Option.some.inj e
      exact h.ok σ H s Z I _ Q w rs q fun d Z' H' I' w' x' ea na => p σ d Z' H' I' w' (rs.mono x') x' ea na
def sNil : SM := fun s => some (.nx, s)
def sSeq (a b : SM) : SM := fun s => match a s with
  | some (.nx, s1) => b s1
  | r => r
theorem so_nil : SoundS K W tNext sNil := ⟨fun σ H s Z I r D w rs e p => by
  cases e; exact p σ Z H I w rs Ext.refl⟩
theorem so_seq {t u : TS} {m n : SM} (ha : SoundS K W t m) (hb : SoundS K W u n) : SoundS K W (tSeq t u) (sSeq m n) := ⟨fun σ H s Z I r D w rs e p => by
  unfold sSeq at e
  show t { D with nx := u D } σ H
  cases q : m s with
  | none => rw [q] at e; cases e
  | some r1 =>
    rw [q] at e
    obtain ⟨f, s1⟩ := r1
    cases f with
    | nx => exact ha.ok σ H s Z I _ _ w rs q fun σ' Z' H' I' w' rs' x' => hb.ok σ' H' s1 Z' I' r D w' rs' e (p.mono x')
    | rt v => cases e; exact ha.ok σ H s Z I _ _ w rs q p
    | bk => cases e; exact ha.ok σ H s Z I _ _ w rs q p
    | ct => cases e; exact ha.ok σ H s Z I _ _ w rs q p
    | ex c fs => cases e; exact ha.ok σ H s Z I _ _ w rs q p⟩
theorem dss_nil (k : X.K = K := by rfl) : DSs K X W [] tNext sNil := ⟨k, pss_nil, so_nil⟩
theorem dss_cons {st : Stmt} {rest : List Stmt} {t u : TS} {m n : SM} (ha : DS K X W st t m) (hb : DSs K X W rest u n) : DSs K X W (st :: rest) (tSeq t u) (sSeq m n) := ⟨ha.k, pss_cons ha.ps hb.ps, so_seq ha.so hb.so⟩
theorem dss_one {st : Stmt} {t : TS} {m : SM} (ha : DS K X W st t m) : DSs K X W [st] t m := ⟨ha.k, pss_one ha.ps, ha.so⟩
def sExpr (m : EM) : SM := liftS m fun _ s => some (.nx, s)
theorem ds_expr {te : TE} {m : EM} (h : DE K X W e te m) (hs : swapsWith e none pos.line X.env = pure false := by rfl) : DS K X W (.Expr e pos) (tDrop te) (sExpr m) := ⟨h.k, ps_expr h.pe hs, ⟨fun σ H s Z I r D w rs e p => by
  refine h.so.lift w rs e p fun d v M1 Z1 H1 I1 w1 rs1 x1 q1 e1 p1 => ?_
  cases e1; exact p1 σ Z1 H1 I1 w1 rs1 Ext.refl⟩⟩
def sRet (m : EM) : SM := liftS m fun d s => some (.rt d, s)
theorem ds_ret {te : TE} {m : EM} (h : DE K X W e te m) : DS K X W (.Return (some e) pos) (tRet te) (sRet m) := ⟨h.k, ps_ret h.pe, ⟨fun σ H s Z I r D w rs e p => by
  refine h.so.lift w rs e p fun d v M1 Z1 H1 I1 w1 rs1 x1 q1 e1 p1 => ?_
  cases e1; exact p1 v Z1 H1 I1 w1 Ext.refl q1⟩⟩
def sRetN : SM := fun s => some (.rt (.p .non), s)
theorem ds_retN (k : X.K = K := by rfl) : DS K X W (.Return none pos) tRetN sRetN := ⟨k, ps_retN, ⟨fun σ H s Z I r D w rs e p => by
  cases e; exact p .non Z H I w Ext.refl .non⟩⟩
def ifS (n k : SM) : DV → SM
  | .p (.bl true), s => n s
  | .p (.bl false), s => k s
  | _, _ => none
def sIf (c : EM) (m n : SM) : SM := liftS c (ifS m n)
theorem ds_if {x y : List Stmt} {tc : TT} {t u : TS} {k : EM} {m n : SM} (hc : DT K X W c tc k) (ha : DSs K X W x t m) (hb : DSs K X W y u n) : DS K X W (.If c x y pos) (tIfS tc t u) (sIf k m n) := ⟨hc.k, ps_if hc.pt ha.ps hb.ps, ⟨fun σ H s Z I r D w rs e p => by
  refine hc.so.lift w rs e p fun d v M1 Z1 H1 I1 w1 rs1 x1 q1 e1 p1 => ?_
  cases (show d = .p (.bl v) from q1)
  cases v with
  | true => exact ha.so.ok σ H1 ⟨s.l, M1⟩ Z1 I1 r D w1 rs1 e1 p1
  | false => exact hb.so.ok σ H1 ⟨s.l, M1⟩ Z1 I1 r D w1 rs1 e1 p1⟩⟩
/-! ### targets -/
theorem wipe_set {σ : St} {i : Nat} {x : Option V} : ∀ {vs : List Nat}, i ∈ vs → wipe (σ.set i x) vs = wipe σ vs
  | v :: vs, h => by
    show (wipe (σ.set i x) vs).set v none = (wipe σ vs).set v none
    by_cases q : i ∈ vs
    · rw [wipe_set q]
    · have e : v = i := by
        rcases List.mem_cons.mp h with k | k
        · exact k.symm
        · exact absurd k q
      subst e
      have c : ∀ ws : List Nat, v ∉ ws → wipe (σ.set v x) ws = (wipe σ ws).set v x := by
        intro ws
        induction ws with
        | nil => intro _; rfl
        | cons w ws ih =>
          intro hw
          rw [List.mem_cons, not_or] at hw
          show (wipe (σ.set v x) ws).set w none = ((wipe σ ws).set w none).set v x
          rw [ih hw.2, List.set_comm _ _ hw.1]
      rw [c vs q, List.set_set]
abbrev GM := DV → S → Option S
structure DG (K : PySem.W.Frag) (X : Cx) (tg : Expr) (g : TG) (m : GM) (ix : List Nat) : Prop where
  k : X.K = K
  pg : PG X tg g
  ok : ∀ (v : V) (dv : DV) (σ : St) (H : Hp) (s s' : S) (Z : Hp) (I : List Addr) (Q : St → Hp → Prop), Wf K Z H I s.m → RepS K Z I σ s.l → RepV K Z I v dv → m dv s = some s' →
    (∀ σ' Z' H' I', Wf K Z' H' I' s'.m → RepS K Z' I' σ' s'.l → Ext Z H I Z' H' I' → (∀ vs, (∀ i ∈ ix, i ∈ vs) → wipe σ' vs = wipe σ vs) → Q σ' H') → g v σ H Q
def gN (i : Nat) : GM := fun d s => some ⟨s.l.set i (some d), s.m⟩
theorem dg_name {i : Nat} {x : Str} (hN : X.N.Nodup) (k : X.K = K := by rfl) (hi : X.N[i]? = some x := by rfl) (hx : Loc X.env.scope x := by first | exact Or.inl rfl | exact Or.inr rfl) (hf : X.fn x = true ∨ X.env.scope.names.lookup x = some .local := by first | exact .inl rfl | exact .inr rfl) : DG K X (.Name x pos) (gName i) (gN i) [i] :=
  ⟨k, pg_name hN hi hx hf, fun v dv σ H s s' Z I Q w rs rv e q => by
    cases e; exact q _ Z H I w (rs.set rv i) Ext.refl fun vs hv => wipe_set (hv i (by simp))⟩
structure DGs (K : PySem.W.Frag) (X : Cx) (tg : List Expr) (g : TGs) (m : List DV → S → Option S) (ix : List Nat) : Prop where
  k : X.K = K
  pg : PGs X tg g
  ok : ∀ (v : List V) (dv : List DV) (σ : St) (H : Hp) (s s' : S) (Z : Hp) (I : List Addr) (Q : St → Hp → Prop), Wf K Z H I s.m → RepS K Z I σ s.l → RepVs K Z I v dv → m dv s = some s' →
    (∀ σ' Z' H' I', Wf K Z' H' I' s'.m → RepS K Z' I' σ' s'.l → Ext Z H I Z' H' I' → (∀ vs, (∀ i ∈ ix, i ∈ vs) → wipe σ' vs = wipe σ vs) → Q σ' H') → g v σ H Q
def gsNil : List DV → S → Option S
  | [], s => some s
  | _, _ => none
def gsCons (m : GM) (n : List DV → S → Option S) : List DV → S → Option S
  | d :: r, s => match m d s with
    | some s1 => n r s1
    | none => none
  | [], _ => none
theorem dgs_nil (k : X.K = K := by rfl) : DGs K X [] gNil gsNil [] := ⟨k, pgs_nil, fun v dv σ H s s' Z I Q w rs rv e q => by
  cases rv with
  | nil => cases e; exact ⟨rfl, q σ Z H I w rs Ext.refl fun _ _ => rfl⟩
  | cons _ _ => cases e⟩
theorem dgs_cons {tg : Expr} {tgs : List Expr} {t : TG} {u : TGs} {m : GM} {n : List DV → S → Option S} {i1 i2 : List Nat} (h1 : DG K X tg t m i1) (h2 : DGs K X tgs u n i2)
    (hs : (assignEach (tg :: tgs) X.env).map (·.2) = assign tg X.env :: (assignEach tgs X.env).map (·.2) := by rfl) : DGs K X (tg :: tgs) (gCons t u) (gsCons m n) (i1 ++ i2) := ⟨h1.k, pgs_cons h1.pg h2.pg hs, fun v dv σ H s s' Z I Q w rs rv e q => by
  cases rv with
  | nil => cases e
  | @cons _ d _ _ r1 r2 =>
    have e : (match m d s with | some s1 => n _ s1 | none => none) = some s' := e
    refine ⟨_, _, rfl, ?_⟩
    cases z : m d s with
    | none => rw [z] at e; cases e
    | some s1 =>
      rw [z] at e
      refine h1.ok _ d σ H s s1 Z I _ w rs r1 z fun σ' Z' H' I' w' rs' x' k' => ?_
      exact h2.ok _ _ σ' H' s1 s' Z' I' Q w' rs' (paired_imp (fun _ _ q => RepV.mono x' q) r2) e fun σ2 Z2 H2 I2 w2 rs2 x2 k2 => q σ2 Z2 H2 I2 w2 rs2 (x'.trans x2) fun vs hv =>
        (k2 vs fun i hi => hv i (List.mem_append_right _ hi)).trans (k' vs fun i hi => hv i (List.mem_append_left _ hi))⟩
def gT (n : Nat) (m : List DV → S → Option S) : GM := fun d s => match d with
  | .p (.tup xs) => if xs.length = n then m (xs.map .p) s else none
  | .p (.ktup xs) => if xs.length = n then m (xs.map .p) s else none
  | _ => none
theorem dg_tup {tgs : List Expr} {k : Nat} {t : TGs} {m : List DV → S → Option S} {n : Nat} {ix : List Nat} (hc : X.calm = true) (h : DGs K X tgs t m ix) (hn : (assignEach tgs X.env).length = n := by rfl) (hst : (assignEach tgs X.env).findIdx? (·.1) = none := by rfl) :
    DG K X (.Tuple tgs k pos) (gTup K n t) (gT n m) ix := by
  have kk := h.k
  subst kk
  refine ⟨rfl, pg_tup hc h.pg hn hst, fun v dv σ H s s' Z I Q w rs rv e q => ?_⟩
  cases dv with
  | o j => cases e
  | p d =>
    have rv : Rep X.K Z v d := rv
    cases rv with
    | tup h1 h2 =>
      rename_i a xs ds
      have e : (if ds.length = n then m (ds.map .p) s else none) = some s' := e
      split at e
      · rename_i hl
        exact ⟨a, xs, rfl, sqt w.sub h1, by rw [h2.length]; exact hl, h.ok _ _ σ H s s' Z I Q w rs (allP_map h2) e q⟩
      · cases e
    | ktup h1 h2 =>
      rename_i a xs ds
      have e : (if ds.length = n then m (ds.map .p) s else none) = some s' := e
      split at e
      · rename_i hl
        exact ⟨a, xs, rfl, same_t w.sub h1, by rw [h2.length]; exact hl, h.ok _ _ σ H s s' Z I Q w rs (allP_map h2) e q⟩
      · cases e
    | _ => cases e
def sAsg (m : EM) (g : GM) : SM := liftS m fun d s => match g d s with
  | some s1 => some (.nx, s1)
  | none => none
theorem ds_asg {tg : Expr} {te : TE} {g : TG} {m : EM} {gm : GM} {ix : List Nat} (he : DE K X W e te m) (hg : DG K X tg g gm ix) (hs : swapsWithSole [tg] e pos.line X.env = pure false := by rfl) (hw : swappedStores [tg] e X.env = pure none := by rfl)
    (h1 : (assignEach [tg] X.env).map (·.2) = [assign tg X.env] := by rfl) : DS K X W (.Assign [tg] e pos) (tAsg te g) (sAsg m gm) := ⟨he.k, ps_asg he.pe hg.pg hs hw h1, ⟨fun σ H s Z I r D w rs e p => by
  refine he.so.lift w rs e p fun d v M1 Z1 H1 I1 w1 rs1 x1 q1 e1 p1 => ?_
  have e1 : (match gm d ⟨s.l, M1⟩ with | some s1 => some (Fl.nx, s1) | none => none) = some r := e1
  cases z : gm d ⟨s.l, M1⟩ with
  | none => rw [z] at e1; cases e1
  | some s1 =>
    rw [z] at e1; cases e1
    exact hg.ok v d σ H1 ⟨s.l, M1⟩ s1 Z1 I1 _ w1 rs1 q1 z fun σ' Z' H' I' w' rs' x' _ => p1 σ' Z' H' I' w' rs' x'⟩⟩
theorem ds_set {i : Nat} {x : Str} {te : TE} {m : EM} {px : Pos} (hN : X.N.Nodup) (he : DE K X W e te m) (hi : X.N[i]? = some x := by rfl) (hx : Loc X.env.scope x := by first | exact Or.inl rfl | exact Or.inr rfl) (hf : X.fn x = true ∨ X.env.scope.names.lookup x = some .local := by first | exact .inl rfl | exact .inr rfl)
    (hs : swapsWithSole [.Name x px] e pos.line X.env = pure false := by rfl) (hw : swappedStores [.Name x px] e X.env = pure none := by rfl) (h1 : (assignEach [.Name x px] X.env).map (·.2) = [assign (.Name x px) X.env] := by rfl) : DS K X W (.Assign [.Name x px] e pos) (tAsg te (gName i)) (sAsg m (gN i)) :=
  ds_asg he (dg_name hN he.k hi hx hf) hs hw h1
/-- a, b = x, y -/
def sPar (i j : Nat) (ms : AM) : SM := liftS ms fun ds s => match ds with
  | [d, f] => some (.nx, ⟨(s.l.set i (some d)).set j (some f), s.m⟩)
  | _ => none
theorem ds_par {i j : Nat} {x y : Str} {ta : TA} {ms : AM} {px py pt : Pos} {kt k2} {pt2 : Pos} (hc : X.calm = true) (hN : X.N.Nodup) (ha : DA K X W [a, b] ta ms) (hi : X.N[i]? = some x := by rfl) (hj : X.N[j]? = some y := by rfl) (hij : i ≠ j := by decide)
    (hx : X.env.scope.names.lookup x = some .local := by rfl) (hy : X.env.scope.names.lookup y = some .local := by rfl)
    (hw : swappedStores [.Tuple [.Name x px, .Name y py] kt pt] (.Tuple [a, b] k2 pt2) X.env = pure (some [x, y]) := by rfl) (hs : swapsWithSole [.Tuple [.Name x px, .Name y py] kt pt] (.Tuple [a, b] k2 pt2) pos.line X.env = pure false := by rfl) :
    DS K X W (.Assign [.Tuple [.Name x px, .Name y py] kt pt] (.Tuple [a, b] k2 pt2) pos) (tPar i j ta) (sPar i j ms) := ⟨ha.k, ps_par hc hN hi hj hij hx hy ha.pa hw hs, ⟨fun σ H s Z I r D w rs e p => by
  refine ha.so.lift w rs e p fun ds vs M1 Z1 H1 I1 w1 rs1 x1 q1 e1 p1 => ?_
  cases q1 with
  | nil => cases e1
  | cons r1 q1 =>
  cases q1 with
  | nil => cases e1
  | cons r2 q1 =>
  cases q1 with
  | nil =>
    cases e1
    exact ⟨_, _, rfl, p1 _ Z1 H1 I1 w1 ((rs1.set r1 i).set r2 j) Ext.refl⟩
  | cons _ _ => cases e1⟩⟩
end
end DL
namespace DL
open PySem L2
section
variable {K : PySem.W.Frag} {X : Cx} {W : WX} {e a b c tg iter : Expr} {es : List Expr} {pos : Pos}
/-! ### what is walked -/
def ItOk (K : PySem.W.Frag) (Z0 : Hp) (I0 : List Addr) (J : It) (items : List DV) : Prop :=
  ∀ Z H I, Same Z0 Z → (∃ t, I = I0 ++ t) → Same Z H → ∀ i : Nat, (∀ d, items[i]? = some d → J.go i H ∧ ∀ x H', J.yld i H x H' → ∃ Z', ExtP Z H Z' H' ∧ RepV K Z' I x d) ∧ (items.length ≤ i → J.stop i H)
abbrev IM := Mi (List DV)
structure DI (K : PySem.W.Frag) (X : Cx) (W : WX) (tg iter : Expr) (wi : TI) (m : IM) : Prop where
  k : X.K = K
  pi : PI X tg iter wi
  so : Sound K W (ItOk K) wi m
def mItD (g : D → Option (List DV)) (m : EM) : IM := bnd m (pur fun d s => match g d with
  | some ds => some (.ok ds s.m)
  | none => none)
theorem so_itD {g : D → Option (List DV)} {te : TE} {m : EM} {r : V → Hp → (It → Hp → Prop) → Prop} (h : Sound K W (RepV K) te m) (hr : ∀ v d ds Z H I (R : It → Hp → Prop), Same Z H → Rep K Z v d → g d = some ds → (∀ J, ItOk K Z I J ds → R J H) → r v H R) :
    Sound K W (ItOk K) (fun σ H R => te σ H fun x H1 => r x H1 R) (mItD g m) := ⟨fun σ H s Z I r0 Q w rs e p => by
  refine h.bnd w rs e (p.x) fun d v M1 Z1 H1 I1 w1 rs1 x1 q1 e1 => ?_
  obtain ⟨d, rfl, e1⟩ := pur_ok e1
  have e1 : (match g d with | some ds => some (Rs.ok ds M1) | none => none) = some r0 := e1
  cases z : g d with
  | none => rw [z] at e1; cases e1
  | some ds =>
    rw [z] at e1; cases e1
    exact hr v d ds Z1 H1 I1 Q w1.sub q1 z fun J hJ => p J Z1 H1 I1 w1 x1 hJ⟩
def itL : D → Option (List DV)
  | .lst xs => some (xs.map .p)
  | .klst xs => some (xs.map .p)
  | .scr xs => some (xs.map .p)
  | _ => none
def itT : D → Option (List DV)
  | .tup xs => some (xs.map .p)
  | .ktup xs => some (xs.map .p)
  | _ => none
theorem getP {α : Type} {xs : List D} {i : Nat} {d : DV} (h : (xs.map DV.p)[i]? = some d) : ∃ y, xs[i]? = some y ∧ d = .p y := by
  rw [List.getElem?_map] at h
  cases q : xs[i]? with
  | none => rw [q] at h; cases h
  | some y => rw [q] at h; cases h; exact ⟨y, rfl, rfl⟩
theorem di_list {te : TE} {m : EM} (h : DE K X W iter te m) : DI K X W tg iter (iList K te) (mItD itL m) := by
  refine ⟨h.k, ?_, ?_⟩
  · rw [← h.k]; exact pi_list h.pe
  · refine so_itD (r := fun x H1 R => ∃ a, x = .ref a ∧ (∃ xs, SqL K H1 a xs) ∧ R (Itl K a) H1) h.so fun v d ds Z H I R s hd hg q => ?_
    cases hd with
    | lst h1 h2 =>
      rename_i a vs xs
      cases hg
      refine ⟨a, rfl, ⟨vs, .inl (same_rd s h1)⟩, q _ fun Z' H' I' z _ s' i => ⟨fun d hd => ?_, fun hl => ⟨vs, .inl (same_rd s' (same_rd z h1)), by rw [h2.length]; simpa using hl⟩⟩⟩
      obtain ⟨y, hy, rfl⟩ := getP (α := Unit) hd
      obtain ⟨v, hv, rv⟩ := h2.get hy
      refine ⟨⟨vs, v, .inl (same_rd s' (same_rd z h1)), hv⟩, fun x H2 hx => ?_⟩
      obtain ⟨rfl, hx⟩ := hx
      have := hx vs (.inl (same_rd s' (same_rd z h1)))
      rw [hv] at this
      cases this
      exact ⟨Z', ExtP.refl s', rv.mono z⟩
    | klst h1 h2 =>
      rename_i a vs xs
      cases hg
      refine ⟨a, rfl, ⟨vs, same_l s h1⟩, q _ fun Z' H' I' z _ s' i => ⟨fun d hd => ?_, fun hl => ⟨vs, same_l s' (same_l z h1), by rw [h2.length]; simpa using hl⟩⟩⟩
      obtain ⟨y, hy, rfl⟩ := getP (α := Unit) hd
      obtain ⟨v, hv, rv⟩ := h2.get hy
      refine ⟨⟨vs, v, same_l s' (same_l z h1), hv⟩, fun x H2 hx => ?_⟩
      obtain ⟨rfl, hx⟩ := hx
      have := hx vs (same_l s' (same_l z h1))
      rw [hv] at this
      cases this
      exact ⟨Z', ExtP.refl s', rv.mono z⟩
    | scr h1 h2 =>
      rename_i a vs xs
      cases hg
      refine ⟨a, rfl, ⟨vs, same_l s h1⟩, q _ fun Z' H' I' z _ s' i => ⟨fun d hd => ?_, fun hl => ⟨vs, same_l s' (same_l z h1), by rw [h2.length]; simpa using hl⟩⟩⟩
      obtain ⟨y, hy, rfl⟩ := getP (α := Unit) hd
      obtain ⟨v, hv, rv⟩ := h2.get hy
      refine ⟨⟨vs, v, same_l s' (same_l z h1), hv⟩, fun x H2 hx => ?_⟩
      obtain ⟨rfl, hx⟩ := hx
      have := hx vs (same_l s' (same_l z h1))
      rw [hv] at this
      cases this
      exact ⟨Z', ExtP.refl s', rv.mono z⟩
    | _ => cases hg
def itS : D → Option (List DV)
  | .str x => some (x.cps.toList.map fun c => .p (.str ⟨#[c]⟩))
  | _ => none
def intsFrom (lo : Int) (n : Nat) : List DV := (List.range n).map fun (i : Nat) => .p (.int (lo + (i : Int)))
theorem itr_ok {Z : Hp} {I : List Addr} {lo : Int} {n : Nat} : ItOk K Z I (Itr lo n) (intsFrom lo n) := fun Z' H' I' z _ s' i => by
  refine ⟨fun d hd => ?_, fun hl => ?_⟩
  · unfold intsFrom at hd
    rw [List.getElem?_map] at hd
    cases q : (List.range n)[i]? with
    | none => rw [q] at hd; cases hd
    | some j =>
      rw [q] at hd
      have hi : i < n := by simpa using (List.getElem?_eq_some_iff.mp q).1
      have ej : j = i := by
        rw [List.getElem?_range hi] at q
        exact (Option.some.inj q).symm
      subst ej
      cases hd
      refine ⟨hi, fun x H2 hx => ?_⟩
      obtain ⟨rfl, rfl⟩ := hx
      exact ⟨Z', ExtP.refl s', .int _⟩
  · show n ≤ i
    simpa [intsFrom] using hl
def rngOk (i : Int) : Bool := decide (-4611686018427387904 ≤ i ∧ i < 4611686018427387904)
def rng1D : List DV → Option (List DV)
  | [.p (.int j)] => if rngOk j = true then some (intsFrom 0 j.toNat) else none
  | _ => none
def rng2D : List DV → Option (List DV)
  | [.p (.int i), .p (.int j)] => if rngOk i = true then if rngOk j = true then some (intsFrom i (j - i).toNat) else none else none
  | _ => none
def mRng (g : List DV → Option (List DV)) (ms : AM) : IM := bnd ms fun ds s => match g ds with
  | some xs => some (.ok xs s.m)
  | none => none
theorem rng_bound {i : Int} (h : rngOk i = true) : -(2 ^ 62) ≤ i ∧ i < 2 ^ 62 := by
  unfold rngOk at h
  simp only [decide_eq_true_eq] at h
  have : (2 : Int) ^ 62 = 4611686018427387904 := by decide
  omega
theorem so_rng {g : List DV → Option (List DV)} {ta : TA} {ms : AM} {r : List V → Hp → (It → Hp → Prop) → Prop} (h : Sound K W (RepVs K) ta ms) (hr : ∀ vs ds xs Z H I (R : It → Hp → Prop), RepVs K Z I vs ds → g ds = some xs → (∀ J, ItOk K Z I J xs → R J H) → r vs H R) :
    Sound K W (ItOk K) (fun σ H R => ta σ H fun vs H1 => r vs H1 R) (mRng g ms) := ⟨fun σ H s Z I r0 Q w rs e p => by
  refine h.bnd w rs e (p.x) fun ds vs M1 Z1 H1 I1 w1 rs1 x1 q1 e1 => ?_
  have e1 : (match g ds with | some xs => some (Rs.ok xs M1) | none => none) = some r0 := e1
  cases z : g ds with
  | none => rw [z] at e1; cases e1
  | some xs =>
    rw [z] at e1; cases e1
    exact hr vs ds xs Z1 H1 I1 Q q1 z fun J hJ => p J Z1 H1 I1 w1 x1 hJ⟩
theorem di_range1 {ta : TA} {ms : AM} {p : Pos} (hm : X.mg "range" = none) (h : DA K X W [a] ta ms) (hg : Gl X "range" := by rfl) (hs : starEach [a] X.env = [(false, eval a X.env)] := by rfl) : DI K X W tg (.Call (.Name "range" p) [a] [] pos) (iRng1 ta) (mRng rng1D ms) :=
  ⟨h.k, pi_range1 hg hm h.pa hs, so_rng (r := fun vs H1 R => ∃ j : Int, vs = [.int j] ∧ -(2 ^ 62) ≤ j ∧ j < 2 ^ 62 ∧ R (Itr 0 j.toNat) H1) h.so fun vs ds xs Z H I R rv z q => by
    unfold rng1D at z
    split at z
    · split at z
      · rename_i hb
        cases z
        cases rv with
        | cons g1 g2 =>
        cases g2
        cases g1
        obtain ⟨b1, b2⟩ := rng_bound hb
        exact ⟨_, rfl, b1, b2, q _ itr_ok⟩
      · cases z
    · cases z⟩
theorem di_range2 {ta : TA} {ms : AM} {p : Pos} (hm : X.mg "range" = none) (h : DA K X W [a, b] ta ms) (hg : Gl X "range" := by rfl) (hs : starEach [a, b] X.env = [(false, eval a X.env), (false, eval b X.env)] := by rfl) (hs2 : starEach [b] X.env = [(false, eval b X.env)] := by rfl) : DI K X W tg (.Call (.Name "range" p) [a, b] [] pos) (iRng2 ta) (mRng rng2D ms) :=
  ⟨h.k, pi_range2 hg hm h.pa hs hs2, so_rng (r := fun vs H1 R => ∃ i j : Int, vs = [.int i, .int j] ∧ (-(2 ^ 62) ≤ i ∧ i < 2 ^ 62 ∧ -(2 ^ 62) ≤ j ∧ j < 2 ^ 62) ∧ R (Itr i (j - i).toNat) H1) h.so fun vs ds xs Z H I R rv z q => by
    unfold rng2D at z
    split at z
    · split at z
      · rename_i hb
        split at z
        · rename_i hb2
          cases z
          cases rv with
          | cons g1 g2 =>
          cases g2 with
          | cons g2 g3 =>
          cases g3
          cases g1
          cases g2
          obtain ⟨b1, b2⟩ := rng_bound hb
          obtain ⟨b3, b4⟩ := rng_bound hb2
          exact ⟨_, _, rfl, ⟨b1, b2, b3, b4⟩, q _ itr_ok⟩
        · cases z
      · cases z
    · cases z⟩
/-! ### for -/
def loopS (g : GM) (body : SM) : List DV → SM
  | [], s => some (.nx, s)
  | d :: ds, s => match g d s with
    | none => none
    | some s1 => match body s1 with
      | none => none
      | some (.nx, s2) => loopS g body ds s2
      | some (.ct, s2) => loopS g body ds s2
      | some (.bk, s2) => some (.nx, s2)
      | some (.rt v, s2) => some (.rt v, s2)
      | some (.ex c f, s2) => some (.ex c f, s2)
def sFor (it : IM) (g : GM) (body : SM) : SM := liftS it fun ds => loopS g body ds
theorem ds_for {body : List Stmt} {wi : TI} {g : TG} {tb : TS} {it : IM} {gm : GM} {ix : List Nat} {mb : SM} (hp : PassesOwn (model X.prog X.w) X.A X.env X.xe) (hc : X.calm = true) (hi : DI K X W tg iter wi it) (hg : DG K X tg g gm ix) (hb : DSs K X W body tb mb)
    (hs : ∀ x, foldedSetIterable iter X.env x = pure x := by intro _; rfl) : DS K X W (.For tg iter body [] pos) (tFor wi g tb) (sFor it gm mb) := ⟨hi.k, ps_for hp hc hi.pi hg.pg hb.ps hs, ⟨fun σ H s Z I r D w rs e p => by
  refine hi.so.lift w rs e p fun ds J M1 Z1 H1 I1 w1 rs1 x1 q1 e1 p1 => ?_
  refine ⟨fun i m σ' H' => m = ds.length - i ∧ i ≤ ds.length ∧ ∃ Z' I' s', Wf K Z' H' I' s'.m ∧ RepS K Z' I' σ' s'.l ∧ Ext Z1 H1 I1 Z' H' I' ∧ loopS gm mb (ds.drop i) s' = some r, ⟨ds.length, by simp, Nat.zero_le _, Z1, I1, ⟨s.l, M1⟩, w1, rs1, Ext.refl, e1⟩, ?_⟩
  rintro i m σ' H' ⟨rfl, hi', Z', I', s', w', rs', x', e'⟩
  have Jo := q1 Z' H' I' x'.z x'.i w'.sub i
  by_cases hlt : i < ds.length
  · right
    have hd : ds[i]? = some ds[i] := by simp [hlt]
    obtain ⟨go, yl⟩ := Jo.1 _ hd
    rw [List.drop_eq_getElem_cons hlt] at e'
    refine ⟨go, fun σ2 H2 => ∃ Z2 I2 s2, Wf K Z2 H2 I2 s2.m ∧ RepS K Z2 I2 σ2 s2.l ∧ Ext Z1 H1 I1 Z2 H2 I2 ∧ loopS gm mb (ds.drop (i + 1)) s2 = some r,
      fun σ2 H2 h2 => ⟨ds.length - (i + 1), by omega, rfl, hlt, h2⟩, fun x H2 hx => ?_⟩
    obtain ⟨Z2, x2, rx⟩ := yl x H2 hx
    have w2 := w'.extP x2
    have y2 := x2.ext w'
    have e' : (match gm ds[i] s' with
      | none => none
      | some s1 => match mb s1 with
        | none => none
        | some (.nx, s2) => loopS gm mb (ds.drop (i + 1)) s2
        | some (.ct, s2) => loopS gm mb (ds.drop (i + 1)) s2
        | some (.bk, s2) => some (.nx, s2)
        | some (.rt v, s2) => some (.rt v, s2)
        | some (.ex c f, s2) => some (.ex c f, s2)) = some r := e'
    cases z : gm ds[i] s' with
    | none => rw [z] at e'; cases e'
    | some s1 =>
      rw [z] at e'
      refine hg.ok x ds[i] σ' H2 s' s1 Z2 I' _ w2 (rs'.mono y2) rx z fun σ3 Z3 H3 I3 w3 rs3 x3 _ => ?_
      have xx := (x'.trans y2).trans x3
      cases z2 : mb s1 with
      | none =>
        have e' : (match mb s1 with
          | none => none
          | some (.nx, s2) => loopS gm mb (ds.drop (i + 1)) s2
          | some (.ct, s2) => loopS gm mb (ds.drop (i + 1)) s2
          | some (.bk, s2) => some (.nx, s2)
          | some (.rt v, s2) => some (.rt v, s2)
          | some (.ex c f, s2) => some (.ex c f, s2)) = some r := e'
        rw [z2] at e'; cases e'
      | some fr =>
        have e' : (match mb s1 with
          | none => none
          | some (.nx, s2) => loopS gm mb (ds.drop (i + 1)) s2
          | some (.ct, s2) => loopS gm mb (ds.drop (i + 1)) s2
          | some (.bk, s2) => some (.nx, s2)
          | some (.rt v, s2) => some (.rt v, s2)
          | some (.ex c f, s2) => some (.ex c f, s2)) = some r := e'
        rw [z2] at e'
        obtain ⟨f, s2⟩ := fr
        have p3 := p1.mono xx
        refine hb.so.ok σ3 H3 s1 Z3 I3 _ _ w3 rs3 z2 ?_
        cases f with
        | nx => exact fun σ4 Z4 H4 I4 w4 rs4 x4 => ⟨Z4, I4, s2, w4, rs4, xx.trans x4, e'⟩
        | ct => exact fun σ4 Z4 H4 I4 w4 rs4 x4 => ⟨Z4, I4, s2, w4, rs4, xx.trans x4, e'⟩
        | bk => cases e'; exact p3
        | rt v => cases e'; exact p3
        | ex c fs => cases e'; exact p3
  · left
    have e0 : ds.drop i = [] := List.drop_eq_nil_of_le (by omega)
    rw [e0] at e'
    cases e'
    exact ⟨Jo.2 (by omega), (p1.mono x') σ' Z' H' I' w' rs' Ext.refl⟩⟩⟩
/-! ### while -/
def sWhile : Nat → EM → SM → SM
  | 0, _, _ => fun _ => none
  | n + 1, c, body => liftS c fun d s => match d with
    | .p (.bl true) => match body s with
      | none => none
      | some (.nx, s2) => sWhile n c body s2
      | some (.ct, s2) => sWhile n c body s2
      | some (.bk, s2) => some (.nx, s2)
      | some (.rt v, s2) => some (.rt v, s2)
      | some (.ex c f, s2) => some (.ex c f, s2)
    | .p (.bl false) => some (.nx, s)
    | _ => none
theorem ds_while {body : List Stmt} {tc : TT} {tb : TS} {c : Expr} {mc : EM} {mb : SM} (n : Nat) (hp : PassesOwn (model X.prog X.w) X.A X.env X.xe) (hc : DT K X W c tc mc) (hb : DSs K X W body tb mb) : DS K X W (.While c body [] pos) (tWhile tc tb) (sWhile n mc mb) := ⟨hc.k, ps_while hp hc.pt hb.ps, ⟨fun σ H s Z I r D w rs e p => by
  refine ⟨fun m σ' H' => ∃ Z' I' s', Wf K Z' H' I' s'.m ∧ RepS K Z' I' σ' s'.l ∧ Ext Z H I Z' H' I' ∧ sWhile m mc mb s' = some r, ⟨n, Z, I, s, w, rs, Ext.refl, e⟩, ?_⟩
  rintro m σ' H' ⟨Z', I', s', w', rs', x', e'⟩
  cases m with
  | zero => cases e'
  | succ m =>
    refine hc.so.lift w' rs' e' (p.mono x') fun d v M1 Z1 H1 I1 w1 rs1 x1 q1 e1 p1 => ?_
    cases (show d = .p (.bl v) from q1)
    cases v with
    | false =>
      rw [if_neg Bool.false_ne_true]
      cases e1
      exact p1 σ' Z1 H1 I1 w1 rs1 Ext.refl
    | true =>
      rw [if_pos rfl]
      have e1 : (match mb ⟨s'.l, M1⟩ with
        | none => none
        | some (.nx, s2) => sWhile m mc mb s2
        | some (.ct, s2) => sWhile m mc mb s2
        | some (.bk, s2) => some (.nx, s2)
        | some (.rt v, s2) => some (.rt v, s2)
        | some (.ex c f, s2) => some (.ex c f, s2)) = some r := e1
      refine ⟨fun σ2 H2 => ∃ Z2 I2 s2, Wf K Z2 H2 I2 s2.m ∧ RepS K Z2 I2 σ2 s2.l ∧ Ext Z H I Z2 H2 I2 ∧ sWhile m mc mb s2 = some r, fun σ2 H2 h2 => ⟨m, Nat.lt_succ_self m, h2⟩, ?_⟩
      cases z2 : mb ⟨s'.l, M1⟩ with
      | none => rw [z2] at e1; cases e1
      | some fr =>
        rw [z2] at e1
        obtain ⟨f, s2⟩ := fr
        refine hb.so.ok σ' H1 ⟨s'.l, M1⟩ Z1 I1 _ _ w1 rs1 z2 ?_
        cases f with
        | nx => exact fun σ4 Z4 H4 I4 w4 rs4 x4 => ⟨Z4, I4, s2, w4, rs4, (x'.trans x1).trans x4, e1⟩
        | ct => exact fun σ4 Z4 H4 I4 w4 rs4 x4 => ⟨Z4, I4, s2, w4, rs4, (x'.trans x1).trans x4, e1⟩
        | bk => cases e1; exact p1
        | rt v => cases e1; exact p1
        | ex c fs => cases e1; exact p1⟩⟩
end
end DL
namespace DL
open PySem L2
abbrev WF : WX := fun _ _ _ _ => False
section
variable {K : PySem.W.Frag} {X : Cx} {W : WX} {e a b c tg iter : Expr} {es : List Expr} {pos : Pos}
def wipeL (l : List (Option DV)) : List Nat → List (Option DV)
  | [] => l
  | v :: vs => (wipeL l vs).set v none
theorem RepS.wipe {Z : Hp} {I : List Addr} {σ : St} {l : List (Option DV)} (r : RepS K Z I σ l) : ∀ vs : List Nat, RepS K Z I (L2.wipe σ vs) (wipeL l vs)
  | [] => r
  | v :: vs => by
    have h := RepS.wipe r vs
    refine ⟨by show ((L2.wipe σ vs).set v none).length = ((wipeL l vs).set v none).length; simpa using h.len, fun i dv e => ?_⟩
    have e : ((wipeL l vs).set v none)[i]? = some (some dv) := e
    by_cases q : v = i
    · subst q
      by_cases b : v < (wipeL l vs).length
      · rw [List.getElem?_set_self b] at e; cases e
      · rw [List.getElem?_eq_none (by simpa using b)] at e; cases e
    · rw [List.getElem?_set_ne q] at e
      obtain ⟨u, h1, h2⟩ := h.at_ i dv e
      refine ⟨u, ?_, h2⟩
      show ((L2.wipe σ vs).set v none)[i]? = _
      rw [List.getElem?_set_ne q]; exact h1
theorem wipe_wipe {σ : St} : ∀ vs ws : List Nat, (∀ i ∈ vs, i ∈ ws) → L2.wipe (L2.wipe σ vs) ws = L2.wipe σ ws
  | [], _, _ => rfl
  | v :: vs, ws, h => by
    show L2.wipe ((L2.wipe σ vs).set v none) ws = _
    rw [wipe_set (h v (by simp))]
    exact wipe_wipe vs ws fun i hi => h i (by simp [hi])
/-- the block of a list comprehension: results that are data -/
def compL (l : List (Option DV)) (g : GM) (t e : EM) : List DV → List D → List O → Option (List D × List O)
  | [], acc, M => some (acc, M)
  | d :: ds, acc, M => match g d ⟨l, M⟩ with
    | none => none
    | some s1 => match t s1 with
      | some (.ok (.p (.bl true)) M1) => match e ⟨s1.l, M1⟩ with
        | some (.ok (.p y) M2) => if acc.length < 1000000 then compL l g t e ds (acc ++ [y]) M2 else none
        | _ => none
      | some (.ok (.p (.bl false)) M1) => compL l g t e ds acc M1
      | _ => none
def mLc (it : IM) (vs : List Nat) (g : GM) (t e : EM) : EM := bnd it fun ds s => match compL (wipeL s.l vs) g t e ds [] s.m with
  | some (acc, M) => some (.ok (.p (.lst acc)) M)
  | none => none
def mLcO (it : IM) (vs : List Nat) (g : GM) (t e : EM) : EM := bnd it fun ds s => match compL (wipeL s.l vs) g t e ds [] s.m with
  | some (acc, M) => some (.ok (.o M.length) (M ++ [.lst (acc.map .p)]))
  | none => none
/-- what is known of the new list at D while it is filled -/
structure Fill (K : PySem.W.Frag) (Z1 H1 : Hp) (I1 : List Addr) (D : Addr) (Z H : Hp) (I : List Addr) (M : List O) (acc : List V) (ad : List DL.D) : Prop where
  w : Wf K Z H I M
  x : Ext Z1 H1 I1 Z H I
  at_ : H D = some (.lst acc)
  nz : Z D = none
  ni : D ∉ I
  r : RepA K Z acc ad
theorem Fill.step {Z1 H1 Z H Z' H' : Hp} {I1 I I' : List Addr} {D : Addr} {M M' : List O} {acc : List V} {ad : List DL.D} (f : Fill K Z1 H1 I1 D Z H I M acc ad) (w : Wf K Z' H' I' M') (x : Ext Z H I Z' H' I') : Fill K Z1 H1 I1 D Z' H' I' M' acc ad where
  w := w
  x := f.x.trans x
  at_ := x.fr D _ f.at_ f.ni
  nz := by
    cases q : Z' D with
    | none => rfl
    | some o =>
      rcases x.zn D (by rw [q]; simp) with k | k | k
      · exact absurd f.nz k
      · exact (Fr.no f.at_ (fun _ e => nomatch e) k).elim
      · exact absurd k f.ni
  ni := fun m => by
    rcases x.nw D m with k | k
    · exact f.ni k
    · rw [f.at_] at k; cases k
  r := f.r.mono x.z
theorem Fill.put {Z1 H1 Z H : Hp} {I1 I : List Addr} {D : Addr} {M : List O} {acc : List V} {ad : List DL.D} (f : Fill K Z1 H1 I1 D Z H I M acc ad) (h0 : H1 D = none) {v : V} {d : DL.D} (r : Rep K Z v d) : Fill K Z1 H1 I1 D Z (upd H D (.lst (acc ++ [v]))) I M (acc ++ [v]) (ad ++ [d]) where
  w := ⟨fun a u e => by rw [upd_ne (fun q => by rw [q, f.nz] at e; cases e)]; exact f.w.sub a u e, f.w.len, f.w.nd, fun a m => by rw [upd_ne (fun q => f.ni (by rw [← q]; exact m))]; exact f.w.tr a m, fun n a o h1 h2 h3 => by
    obtain ⟨q1, q2⟩ := f.w.ob n a o h1 h2 h3
    exact ⟨q1, q2.mono (Same.refl _) (upd_ne fun q => f.ni (by rw [← q]; exact List.mem_of_getElem? h1))⟩⟩
  x := ⟨f.x.z, f.x.i, fun a o e n => by rw [upd_ne (ne_of_none e h0)]; exact f.x.fr a o e n, f.x.nw, f.x.zn, fun a e => by
    by_cases q : a = D
    · rw [q, upd_same]; simp
    · rw [upd_ne q]; exact f.x.tr a e⟩
  at_ := upd_same
  nz := f.nz
  ni := f.ni
  r := f.r.append (.cons r .nil)
theorem tLc_ok {wi : TI} {g : TG} {tt : TT} {te : TE} {vs : List Nat} {it : IM} {gm : GM} {ix : List Nat} {t em : EM} (hi : Sound K W (ItOk K) wi it)
    (hg : ∀ (v : V) (dv : DV) (σ : St) (H : Hp) (s s' : S) (Z : Hp) (I : List Addr) (Q : St → Hp → Prop), Wf K Z H I s.m → RepS K Z I σ s.l → RepV K Z I v dv → gm dv s = some s' →
      (∀ σ' Z' H' I', Wf K Z' H' I' s'.m → RepS K Z' I' σ' s'.l → Ext Z H I Z' H' I' → (∀ vs, (∀ i ∈ ix, i ∈ vs) → L2.wipe σ' vs = L2.wipe σ vs) → Q σ' H') → g v σ H Q) (hix : ∀ i ∈ ix, i ∈ vs)
    (ht : Sound K WF RepB tt t) (he : Sound K WF (RepV K) te em) {σ : St} {H : Hp} {s : S} {Z : Hp} {I : List Addr} {r : Rs DV} {Q : VK} {k : List D → List O → Rs DV} (w : Wf K Z H I s.m) (rs : RepS K Z I σ s.l)
    (e : bnd it (fun ds s => match compL (wipeL s.l vs) gm t em ds [] s.m with | some (acc, M) => some (k acc M) | none => none) s = some r) (px : ∀ c fs M, r = .ex c fs M → PostX K W Z H I σ M c fs)
    (hk : ∀ Z1 H1 I1 D Z' H' I' M acc ad, r = k ad M → H1 D = none → Ext Z H I Z1 H1 I1 → Fill K Z1 H1 I1 D Z' H' I' M acc ad → Q (.ref D) H') : tLc wi g tt te vs σ H Q := by
  refine hi.bnd w rs e px fun ds J M1 Z1 H1 I1 w1 rs1 x1 q1 e1 => ?_
  have e1 : (match compL (wipeL s.l vs) gm t em ds [] M1 with | some (acc, M) => some (k acc M) | none => none) = some r := e1
  cases zc : compL (wipeL s.l vs) gm t em ds [] M1 with
  | none => rw [zc] at e1; cases e1
  | some am =>
    rw [zc] at e1
    obtain ⟨ad, Mf⟩ := am
    have e1 : some (k ad Mf) = some r := e1
    intro D hD
    have f0 : Fill K Z1 H1 I1 D Z1 (upd H1 D (.lst [])) I1 M1 [] [] := by
      refine ⟨⟨fun a u q => by rw [upd_ne (ne_of_none (w1.sub a u q) hD)]; exact w1.sub a u q, w1.len, w1.nd, fun a m => by rw [upd_ne (fun q => w1.tr a m (by rw [q]; exact hD))]; exact w1.tr a m, fun n a o h1 h2 h3 => ?_⟩, ⟨Same.refl _, ⟨[], by simp⟩, fun a o q _ => by rw [upd_ne (ne_of_none q hD)]; exact q, fun _ m => .inl m, fun _ m => .inl m, fun a q => by rw [upd_ne (fun y => q (by rw [y]; exact hD))]; exact q⟩, upd_same, none_of w1.sub hD, fun m => w1.tr D m hD, .nil⟩
      obtain ⟨q1, q2⟩ := w1.ob n a o h1 h2 h3
      exact ⟨q1, q2.mono (Same.refl _) (upd_ne fun q => w1.tr a (List.mem_of_getElem? h1) (by rw [q]; exact hD))⟩
    refine ⟨fun i m H' => m = ds.length - i ∧ i ≤ ds.length ∧ ∃ Z' I' M acc bd, Fill K Z1 H1 I1 D Z' H' I' M acc bd ∧ compL (wipeL s.l vs) gm t em (ds.drop i) bd M = some (ad, Mf), ⟨ds.length, by simp, Nat.zero_le _, Z1, I1, M1, [], [], f0, zc⟩, ?_⟩
    rintro i m H' ⟨rfl, hil, Z', I', M, acc, bd, f, e'⟩
    have Jo := q1 Z' H' I' f.x.z f.x.i f.w.sub i
    by_cases hlt : i < ds.length
    · right
      have hd : ds[i]? = some ds[i] := by simp [hlt]
      obtain ⟨go, yl⟩ := Jo.1 _ hd
      rw [List.drop_eq_getElem_cons hlt] at e'
      refine ⟨go, fun H2 => ∃ Z2 I2 M2 acc2 bd2, Fill K Z1 H1 I1 D Z2 H2 I2 M2 acc2 bd2 ∧ compL (wipeL s.l vs) gm t em (ds.drop (i + 1)) bd2 M2 = some (ad, Mf),
        fun H2 h2 => ⟨ds.length - (i + 1), by omega, rfl, hlt, h2⟩, fun x H2 hx => ?_⟩
      obtain ⟨Z2, x2, rx⟩ := yl x H2 hx
      have f2 := f.step (f.w.extP x2) (x2.ext f.w)
      have rs2 : RepS K Z2 I' (L2.wipe σ vs) (wipeL s.l vs) := ((rs1.mono f2.x)).wipe vs
      unfold compL at e'
      cases zg : gm ds[i] ⟨wipeL s.l vs, M⟩ with
      | none => rw [zg] at e'; cases e'
      | some s1 =>
        rw [zg] at e'
        refine hg x ds[i] (L2.wipe σ vs) H2 ⟨wipeL s.l vs, M⟩ s1 Z2 I' _ f2.w rs2 rx zg fun σ3 Z3 H3 I3 w3 rs3 x3 k3 => ?_
        have f3 := f2.step w3 x3
        refine ⟨(k3 vs hix).trans (wipe_wipe vs vs fun _ h => h) , ?_⟩
        have e' : (match t s1 with
          | some (.ok (.p (.bl true)) M1) => match em ⟨s1.l, M1⟩ with
            | some (.ok (.p y) M2) => if bd.length < 1000000 then compL (wipeL s.l vs) gm t em (ds.drop (i + 1)) (bd ++ [y]) M2 else none
            | _ => none
          | some (.ok (.p (.bl false)) M1) => compL (wipeL s.l vs) gm t em (ds.drop (i + 1)) bd M1
          | _ => none) = some (ad, Mf) := e'
        cases zt : t s1 with
        | none => rw [zt] at e'; cases e'
        | some rt =>
          rw [zt] at e'
          refine ht.ok σ3 H3 s1 Z3 I3 rt _ w3 rs3 zt ?_
          cases rt with
          | ex c fs M4 => cases e'
          | ok d4 M4 =>
            intro b Z4 H4 I4 w4 x4 r4
            cases (show d4 = .p (.bl b) from r4)
            have f4 := f3.step w4 x4
            cases b with
            | false =>
              rw [if_neg Bool.false_ne_true]
              exact ⟨Z4, I4, M4, acc, bd, f4, e'⟩
            | true =>
              rw [if_pos rfl]
              have e' : (match em ⟨s1.l, M4⟩ with
                | some (.ok (.p y) M2) => if bd.length < 1000000 then compL (wipeL s.l vs) gm t em (ds.drop (i + 1)) (bd ++ [y]) M2 else none
                | _ => none) = some (ad, Mf) := e'
              cases ze : em ⟨s1.l, M4⟩ with
              | none => rw [ze] at e'; cases e'
              | some re =>
                rw [ze] at e'
                refine he.ok σ3 H4 ⟨s1.l, M4⟩ Z4 I4 re _ w4 (rs3.mono x4) ze ?_
                cases re with
                | ex c fs M5 => cases e'
                | ok d5 M5 =>
                  intro y Z5 H5 I5 w5 x5 r5
                  have f5 := f4.step w5 x5
                  cases d5 with
                  | o n => cases e'
                  | p d5 =>
                    have e' : (if bd.length < 1000000 then compL (wipeL s.l vs) gm t em (ds.drop (i + 1)) (bd ++ [d5]) M5 else none) = some (ad, Mf) := e'
                    split at e'
                    · rename_i hlen
                      refine ⟨acc, f5.at_, by rw [f5.r.length]; exact size_lt (Nat.le_of_lt hlen), ?_⟩
                      exact ⟨Z5, I5, M5, _, _, f5.put hD r5, e'⟩
                    · cases e'
    · left
      have e0 : ds.drop i = [] := List.drop_eq_nil_of_le (by omega)
      rw [e0] at e'
      cases e'
      exact ⟨Jo.2 (by omega), hk Z1 H1 I1 D Z' H' I' _ acc _ (Option.some.inj e1).symm hD x1 f⟩
theorem Fill.frz {Z1 H1 Z H : Hp} {I1 I : List Addr} {D : Addr} {M : List O} {acc : List V} {ad : List DL.D} (f : Fill K Z1 H1 I1 D Z H I M acc ad) (h0 : H1 D = none) : Wf K (upd Z D (.lst acc)) H I M ∧ Ext Z1 H1 I1 (upd Z D (.lst acc)) H I := by
  refine ⟨⟨fun a u e => ?_, f.w.len, f.w.nd, f.w.tr, fun n a o h1 h2 h3 => ?_⟩, ⟨f.x.z.trans (same_upd f.nz), f.x.i, f.x.fr, f.x.nw, fun a e => ?_, f.x.tr⟩⟩
  · by_cases q : a = D
    · rw [q, upd_same] at e; rw [q, f.at_]; exact e
    · rw [upd_ne q] at e; exact f.w.sub a u e
  · obtain ⟨q1, q2⟩ := f.w.ob n a o h1 h2 h3
    exact ⟨q1.imp fun q1 => by rw [upd_ne fun q => f.ni (by rw [← q]; exact List.mem_of_getElem? h1)]; exact q1, q2.mono (same_upd f.nz) rfl⟩
  · by_cases q : a = D
    · rw [q]; exact .inr (.inl (.inl h0))
    · rw [upd_ne q] at e; exact f.x.zn a e
theorem Fill.own {Z1 H1 Z H : Hp} {I1 I : List Addr} {D : Addr} {M : List O} {acc : List V} {ad : List DL.D} (f : Fill K Z1 H1 I1 D Z H I M acc ad) (h0 : H1 D = none) : Wf K Z H (I ++ [D]) (M ++ [.lst (ad.map .p)]) ∧ Ext Z1 H1 I1 Z H (I ++ [D]) := by
  have x : Ext Z1 H1 I1 Z H (I ++ [D]) := by
    refine ⟨f.x.z, ?_, f.x.fr, fun a m => ?_, f.x.zn, f.x.tr⟩
    · obtain ⟨t, e⟩ := f.x.i
      exact ⟨t ++ [D], by rw [e, List.append_assoc]⟩
    · rcases List.mem_append.mp m with k | k
      · exact f.x.nw a k
      · rw [List.mem_singleton.mp k]; exact .inr h0
  have x2 : Ext Z H I Z H (I ++ [D]) ∨ True := .inr trivial
  refine ⟨⟨f.w.sub, by rw [List.length_append, List.length_append, f.w.len]; rfl, ?_, fun a m => ?_, fun n a o h1 h2 h3 => ?_⟩, x⟩
  · refine List.nodup_append.mpr ⟨f.w.nd, by simp, fun a ha b hb => ?_⟩
    rw [List.mem_singleton.mp hb]
    intro q
    exact f.ni (by rw [← q]; exact ha)
  · rcases List.mem_append.mp m with k | k
    · exact f.w.tr a k
    · rw [List.mem_singleton.mp k, f.at_]; simp
  · have up : ∀ {v : V} {d : DV}, RepV K Z I v d → RepV K Z (I ++ [D]) v d := fun {v d} h => by
      cases d with
      | p d => exact h
      | o j =>
        obtain ⟨b, hb, q⟩ := h
        exact ⟨b, by rw [List.getElem?_append_left (List.getElem?_eq_some_iff.mp hb).1]; exact hb, q⟩
    by_cases hn : n < I.length
    · rw [List.getElem?_append_left hn] at h1
      rw [List.getElem?_append_left (by rw [← f.w.len]; exact hn)] at h2
      obtain ⟨q1, q2⟩ := f.w.ob n a o h1 h2 h3
      refine ⟨q1, ?_⟩
      cases o with
      | lst _ => obtain ⟨xs, h, r⟩ := q2; exact ⟨xs, h, paired_imp (fun _ _ q => up q) r⟩
      | dK _ => obtain ⟨xs, h, r⟩ := q2; exact ⟨xs, h, paired_imp (fun _ _ q => ⟨q.1, up q.2⟩) r⟩
      | dT _ => obtain ⟨xs, h, r⟩ := q2; exact ⟨xs, h, paired_imp (fun _ _ q => ⟨q.1, up q.2⟩) r⟩
      | ins _ _ => obtain ⟨dx, xs, h, r⟩ := q2; exact ⟨dx, xs, h, paired_imp (fun _ _ q => ⟨q.1, up q.2⟩) r⟩
      | tbl _ _ => exact q2
      | clo _ _ =>
        obtain ⟨c, cl, cvs, h, n, r⟩ := q2
        refine ⟨c, cl, cvs, h, fun y b q m => ?_, paired_imp (fun _ _ q => up q) r⟩
        rcases List.mem_append.mp m with k | k
        · exact n y b q k
        · obtain ⟨o, v, g1, _⟩ := h.all y b q
          have g2 := f.w.sub b _ g1
          rw [List.mem_singleton.mp k, f.at_] at g2; cases g2
      | gone => trivial
    · have e1 : n = I.length := by
        have := (List.getElem?_eq_some_iff.mp h1).1
        rw [List.length_append, List.length_singleton] at this
        omega
      subst e1
      rw [List.getElem?_append_right (Nat.le_refl _), Nat.sub_self] at h1
      rw [List.getElem?_append_right (by rw [f.w.len]; exact Nat.le_refl _), f.w.len, Nat.sub_self] at h2
      cases h1
      cases h2
      exact ⟨ZN.of f.nz _, acc, f.at_, allP_map f.r⟩
def tYesM : EM := tru
theorem so_yes : Sound K WF RepB tYes tYesM := ⟨fun σ H s Z I r Q w rs e p => by
  cases e; exact p true Z H I w Ext.refl rfl⟩
structure DPT (K : PySem.W.Frag) (X : Cx) (es : List Expr) (t : TT) (m : EM) : Prop where
  k : X.K = K
  pt : PTs X es t
  so : Sound K WF RepB t m
theorem dpt_nil (k : X.K = K := by rfl) : DPT K X [] tYes tYesM := ⟨k, pts_nil, so_yes⟩
theorem dpt_one {t : TT} {m : EM} (h : DT K X WF c t m) : DPT K X [c] t m := ⟨h.k, pts_one h.pt, h.so⟩
section
variable {elt : Expr} {ifs : List Expr} {scope : Scope} {own : List (Str × Nat)} {wi : TI} {g : TG} {tt : TT} {te : TE} {it : IM} {gm : GM} {ix : List Nat} {t em : EM}
theorem so_lc (hi : Sound K W (ItOk K) wi it) (hg : ∃ X' tg', DG K X' tg' g gm ix) (hix : ∀ i ∈ ix, i ∈ own.map (·.2)) (ht : Sound K WF RepB tt t) (he : Sound K WF (RepV K) te em) : Sound K W (RepV K) (tLc wi g tt te (own.map (·.2))) (mLc it (own.map (·.2)) gm t em) := ⟨fun σ H s Z I r Q w rs e p => by
  obtain ⟨X', tg', hg⟩ := hg
  refine tLc_ok hi hg.ok hix ht he (k := fun acc M => .ok (.p (.lst acc)) M) w rs e p.x fun Z1 H1 I1 D Z' H' I' M acc ad er h0 x1 f => ?_
  subst er
  obtain ⟨w', x'⟩ := f.frz h0
  exact p _ _ H' I' w' (x1.trans x') (.lst (.inl upd_same) (f.r.mono (same_upd f.nz)))⟩
theorem so_lcO (hi : Sound K W (ItOk K) wi it) (hg : ∃ X' tg', DG K X' tg' g gm ix) (hix : ∀ i ∈ ix, i ∈ own.map (·.2)) (ht : Sound K WF RepB tt t) (he : Sound K WF (RepV K) te em) : Sound K W (RepV K) (tLc wi g tt te (own.map (·.2))) (mLcO it (own.map (·.2)) gm t em) := ⟨fun σ H s Z I r Q w rs e p => by
  obtain ⟨X', tg', hg⟩ := hg
  refine tLc_ok hi hg.ok hix ht he (k := fun (acc : List D) M => Rs.ok (DV.o M.length) (M ++ [O.lst (acc.map DV.p)])) w rs e p.x fun Z1 H1 I1 D Z' H' I' M acc ad er h0 x1 f => ?_
  subst er
  obtain ⟨w', x'⟩ := f.own h0
  exact p _ _ H' _ w' (x1.trans x') ⟨D, by rw [← f.w.len, List.getElem?_append_right (Nat.le_refl _), Nat.sub_self]; rfl, rfl⟩⟩
theorem de_lc {vs : List Nat} (hN : X.N.Nodup) (hc : X.calm = true) (hi : DI K X W tg iter wi it) (ok : BlkOk X.N X.env.scope scope own)
    (hg : ∀ (s : Shared) (H : Hp) (C : Addr) (cl : List (Str × Addr)) (fp : List Addr), DG K (X.blk s H scope (compEnvC scope cl C X.env) fp) tg g gm ix) (ht : ∀ (s : Shared) (H : Hp) (C : Addr) (cl : List (Str × Addr)) (fp : List Addr), DPT K (X.blk s H scope (compEnvC scope cl C X.env) fp) ifs tt t)
    (he : ∀ (s : Shared) (H : Hp) (C : Addr) (cl : List (Str × Addr)) (fp : List Addr), DE K (X.blk s H scope (compEnvC scope cl C X.env) fp) WF elt te em) (hix : ∀ i ∈ ix, i ∈ own.map (·.2) := by decide) (hs : ∀ x, foldedSetIterable iter X.env x = pure x := by intro _; rfl) (hv : own.map (·.2) = vs := by rfl) :
    DE K X W (.ListComp elt [⟨tg, iter, ifs, 0⟩] scope pos) (tLc wi g tt te vs) (mLc it vs gm t em) := by
  subst hv
  exact ⟨hi.k, pe_lc hc hN hi.pi ok (fun s H C cl fp => (hg s H C cl fp).pg) (fun s H C cl fp => (ht s H C cl fp).pt) (fun s H C cl fp => (he s H C cl fp).pe) hs,
    so_lc hi.so ⟨_, _, hg {} (fun _ => none) 0 [] []⟩ hix (ht {} (fun _ => none) 0 [] []).so (he {} (fun _ => none) 0 [] []).so⟩
theorem de_lcO {vs : List Nat} (hN : X.N.Nodup) (hc : X.calm = true) (hi : DI K X W tg iter wi it) (ok : BlkOk X.N X.env.scope scope own)
    (hg : ∀ (s : Shared) (H : Hp) (C : Addr) (cl : List (Str × Addr)) (fp : List Addr), DG K (X.blk s H scope (compEnvC scope cl C X.env) fp) tg g gm ix) (ht : ∀ (s : Shared) (H : Hp) (C : Addr) (cl : List (Str × Addr)) (fp : List Addr), DPT K (X.blk s H scope (compEnvC scope cl C X.env) fp) ifs tt t)
    (he : ∀ (s : Shared) (H : Hp) (C : Addr) (cl : List (Str × Addr)) (fp : List Addr), DE K (X.blk s H scope (compEnvC scope cl C X.env) fp) WF elt te em) (hix : ∀ i ∈ ix, i ∈ own.map (·.2) := by decide) (hs : ∀ x, foldedSetIterable iter X.env x = pure x := by intro _; rfl) (hv : own.map (·.2) = vs := by rfl) :
    DE K X W (.ListComp elt [⟨tg, iter, ifs, 0⟩] scope pos) (tLc wi g tt te vs) (mLcO it vs gm t em) := by
  subst hv
  exact ⟨hi.k, pe_lc hc hN hi.pi ok (fun s H C cl fp => (hg s H C cl fp).pg) (fun s H C cl fp => (ht s H C cl fp).pt) (fun s H C cl fp => (he s H C cl fp).pe) hs,
    so_lcO hi.so ⟨_, _, hg {} (fun _ => none) 0 [] []⟩ hix (ht {} (fun _ => none) 0 [] []).so (he {} (fun _ => none) 0 [] []).so⟩
end
end
end DL
namespace DL
open PySem L2
section
variable {K : PySem.W.Frag} {X : Cx} {W : WX} {e a b c tg iter : Expr} {es : List Expr} {pos : Pos}
section
variable {elt : Expr} {ifs : List Expr} {scope : Scope} {own : List (Str × Nat)} {wi : TI} {g : TG} {tt : TT} {te : TE} {it : IM} {gm : GM} {ix : List Nat} {t em : EM}
theorem so_asg {te : TE} {g : TG} {m : EM} {gm : GM} {ix : List Nat} {X' : Cx} {tg' : Expr} (he : Sound K W (RepV K) te m) (hg : DG K X' tg' g gm ix) : SoundS K W (tAsg te g) (sAsg m gm) := ⟨fun σ H s Z I r D w rs e p => by
  refine he.lift w rs e p fun d v M1 Z1 H1 I1 w1 rs1 x1 q1 e1 p1 => ?_
  have e1 : (match gm d ⟨s.l, M1⟩ with | some s1 => some (Fl.nx, s1) | none => none) = some r := e1
  cases z : gm d ⟨s.l, M1⟩ with
  | none => rw [z] at e1; cases e1
  | some s1 =>
    rw [z] at e1; cases e1
    exact hg.ok v d σ H1 ⟨s.l, M1⟩ s1 Z1 I1 _ w1 rs1 q1 z fun σ' Z' H' I' w' rs' x' _ => p1 σ' Z' H' I' w' rs' x'⟩
theorem ds_setLc {i : Nat} {vs : List Nat} {y : Str} {py spos : Pos} (hN : X.N.Nodup) (hc : X.calm = true) (hi : DI K X W tg iter wi it) (ok : BlkOk X.N X.env.scope scope own)
    (hg : ∀ (s : Shared) (H : Hp) (C : Addr) (cl : List (Str × Addr)) (fp : List Addr), DG K (X.blk s H scope (compEnvC scope cl C X.env) fp) tg g gm ix) (ht : ∀ (s : Shared) (H : Hp) (C : Addr) (cl : List (Str × Addr)) (fp : List Addr), DPT K (X.blk s H scope (compEnvC scope cl C X.env) fp) ifs tt t)
    (he : ∀ (s : Shared) (H : Hp) (C : Addr) (cl : List (Str × Addr)) (fp : List Addr), DE K (X.blk s H scope (compEnvC scope cl C X.env) fp) WF elt te em) (hy : X.N[i]? = some y := by rfl) (hyl : X.env.scope.names.lookup y = some .local := by rfl)
    (hsw : swapsWith (.ListComp elt [⟨tg, iter, ifs, 0⟩] scope pos) (some (.Name y py)) spos.line X.env = pure true := by exact sw_true rfl rfl rfl (by decide +kernel)) (hix : ∀ i ∈ ix, i ∈ own.map (·.2) := by decide) (hs : ∀ x, foldedSetIterable iter X.env x = pure x := by intro _; rfl) (hv : own.map (·.2) = vs := by rfl) :
    DS K X W (.Assign [.Name y py] (.ListComp elt [⟨tg, iter, ifs, 0⟩] scope pos) spos) (tAsg (tLc wi g tt te vs) (gName i)) (sAsg (mLc it vs gm t em) (gN i)) := by
  subst hv
  exact ⟨hi.k, ps_setLc hc hN hy hyl hsw hi.pi ok (fun s H C cl fp => (hg s H C cl fp).pg) (fun s H C cl fp => (ht s H C cl fp).pt) (fun s H C cl fp => (he s H C cl fp).pe) hs,
    so_asg (so_lc hi.so ⟨_, _, hg {} (fun _ => none) 0 [] []⟩ hix (ht {} (fun _ => none) 0 [] []).so (he {} (fun _ => none) 0 [] []).so) (dg_name hN hi.k hy (.inl hyl) (.inr hyl) : DG K X (.Name y py) _ _ _)⟩
theorem ds_setLcO {i : Nat} {vs : List Nat} {y : Str} {py spos : Pos} (hN : X.N.Nodup) (hc : X.calm = true) (hi : DI K X W tg iter wi it) (ok : BlkOk X.N X.env.scope scope own)
    (hg : ∀ (s : Shared) (H : Hp) (C : Addr) (cl : List (Str × Addr)) (fp : List Addr), DG K (X.blk s H scope (compEnvC scope cl C X.env) fp) tg g gm ix) (ht : ∀ (s : Shared) (H : Hp) (C : Addr) (cl : List (Str × Addr)) (fp : List Addr), DPT K (X.blk s H scope (compEnvC scope cl C X.env) fp) ifs tt t)
    (he : ∀ (s : Shared) (H : Hp) (C : Addr) (cl : List (Str × Addr)) (fp : List Addr), DE K (X.blk s H scope (compEnvC scope cl C X.env) fp) WF elt te em) (hy : X.N[i]? = some y := by rfl) (hyl : X.env.scope.names.lookup y = some .local := by rfl)
    (hsw : swapsWith (.ListComp elt [⟨tg, iter, ifs, 0⟩] scope pos) (some (.Name y py)) spos.line X.env = pure true := by exact sw_true rfl rfl rfl (by decide +kernel)) (hix : ∀ i ∈ ix, i ∈ own.map (·.2) := by decide) (hs : ∀ x, foldedSetIterable iter X.env x = pure x := by intro _; rfl) (hv : own.map (·.2) = vs := by rfl) :
    DS K X W (.Assign [.Name y py] (.ListComp elt [⟨tg, iter, ifs, 0⟩] scope pos) spos) (tAsg (tLc wi g tt te vs) (gName i)) (sAsg (mLcO it vs gm t em) (gN i)) := by
  subst hv
  exact ⟨hi.k, ps_setLc hc hN hy hyl hsw hi.pi ok (fun s H C cl fp => (hg s H C cl fp).pg) (fun s H C cl fp => (ht s H C cl fp).pt) (fun s H C cl fp => (he s H C cl fp).pe) hs,
    so_asg (so_lcO hi.so ⟨_, _, hg {} (fun _ => none) 0 [] []⟩ hix (ht {} (fun _ => none) 0 [] []).so (he {} (fun _ => none) 0 [] []).so) (dg_name hN hi.k hy (.inl hyl) (.inr hyl) : DG K X (.Name y py) _ _ _)⟩
end
/-! ### o[i] = v at a list of one's own -/
def setL (m : List O) (n : Nat) (i : Int) (d : DV) : Option (List O) := match m[n]? with
  | some (.lst ds) => match ixN ds.length i with
    | some j => some (m.set n (.lst (ds.set j d)))
    | none => none
  | _ => none
def gSetK (d x : DV) (y : D) : EM := fun s => match x, y with
  | .o n, .int j => match setL s.m n j d with
    | some M => some (.ok (.p .non) M)
    | none => none
  | _, _ => none
def gSet (o i : EM) : GM := fun d s => match bnd o (fun x => bnd i (pur (gSetK d x))) s with
  | some (.ok _ M) => some ⟨s.l, M⟩
  | _ => none
theorem dg_set {o i : Expr} {to ti : TE} {mo mi : EM} (ho : DE K X WF o to mo) (hi : DE K X WF i ti mi) (ha : ∀ v, assign (.Subscript o i pos) X.env v = (do
      let ov ← holding [v] (eval o X.env)
      let iv ← holding [v, ov] (eval i X.env)
      standAt pos
      holding [v, ov, iv] (setItem ov iv v)
      release [v, ov, iv] []) := by intro _; rfl) : DG K X (.Subscript o i pos) (gSub to ti rSetL) (gSet mo mi) [] :=
  ⟨ho.k, pg_sub ho.pe hi.pe set_list ha, fun v dv σ H s s' Z I Q w rs rv e q => by
    unfold gSet at e
    cases z : bnd mo (fun x => bnd mi (pur (gSetK dv x))) s with
    | none => rw [z] at e; cases e
    | some r0 =>
      rw [z] at e
      cases r0 with
      | ex c fs M => cases e
      | ok d0 M0 =>
        cases e
        refine ho.so.bnd w rs z (fun c fs M h => by cases h) fun x ov M1 Z1 H1 I1 w1 rs1 x1 q1 e1 => ?_
        refine hi.so.bnd (s := ⟨s.l, M1⟩) w1 rs1 e1 (fun c fs M h => by cases h) fun y iv M2 Z2 H2 I2 w2 rs2 x2 q2 e2 => ?_
        obtain ⟨y, rfl, e2⟩ := pur_ok e2
        cases x with
        | p d => cases e2
        | o n =>
          cases y with
          | int j =>
            have e2 : (match setL M2 n j dv with | some M => some (Rs.ok (DV.p .non) M) | none => none) = some (Rs.ok d0 M0) := e2
            obtain ⟨a, ha', rfl⟩ := q1.mono x2
            cases q2
            cases y : setL M2 n j dv with
            | none => rw [y] at e2; cases e2
            | some M3 =>
              rw [y] at e2
              obtain rfl : M3 = M0 := by cases e2; rfl
              unfold setL at y
              cases y1 : M2[n]? with
              | none => rw [y1] at y; cases y
              | some ob =>
                rw [y1] at y
                cases ob with
                | lst ds =>
                  have y : (match ixN ds.length j with | some j => some (M2.set n (.lst (ds.set j dv))) | none => none) = some M3 := y
                  cases y2 : ixN ds.length j with
                  | none => rw [y2] at y; cases y
                  | some k =>
                    rw [y2] at y; cases y
                    obtain ⟨_, xs, h1, h2⟩ := w2.ob n a _ ha' y1 (by intro z; cases z)
                    have y3 := ext_set (Z := Z2) (H := H2) (ho := .lst (xs.set k v)) (List.mem_of_getElem? ha')
                    have rv2 : RepV K Z2 I2 v dv := RepV.mono (x1.trans x2) rv
                    refine ⟨a, xs, j, k, rfl, rfl, h1, by rw [paired_len h2]; exact y2, ?_⟩
                    exact q σ Z2 _ I2 (w2.setO (o' := .lst (ds.set k dv)) ha' y1 (by intro z; cases z) ⟨_, upd_same, paired_set rv2 k h2⟩) (rs2.mono y3) ((x1.trans x2).trans y3) fun _ _ => rfl
                | _ => cases y
          | _ => cases e2⟩
/-! ### methods of built-in types -/
def tyOk (T : String) (M : List O) : DV → Bool
  | .p (.str _) => T == "str"
  | .p (.lst _) => T == "list"
  | .p (.klst _) => T == "list"
  | .o n => match M[n]? with
    | some (.lst _) => T == "list"
    | some (.dK _) => T == "dict"
    | some (.dT _) => T == "dict"
    | _ => false
  | _ => false
theorem ty_of {T : String} {Z H : Hp} {I : List Addr} {M : List O} {x : V} {d : DV} (w : Wf K Z H I M) (h : RepV K Z I x d) (e : tyOk T M d = true) : tyV K T x H := by
  cases d with
  | o n =>
    obtain ⟨a, ha, rfl⟩ := h
    unfold tyOk at e
    simp only at e
    cases z : M[n]? with
    | none => rw [z] at e; cases e
    | some o =>
      rw [z] at e
      cases o with
      | lst ds =>
        obtain ⟨_, xs, h1, _⟩ := w.ob n a _ ha z (by intro z; cases z)
        exact .inl ⟨by simpa using e, xs, SqL.of h1⟩
      | dK ds =>
        obtain ⟨_, xs, h1, _⟩ := w.ob n a _ ha z (by intro z; cases z)
        exact .inr (.inr (.inl ⟨by simpa using e, .inl ⟨xs, h1⟩⟩))
      | dT ds =>
        obtain ⟨_, xs, h1, _⟩ := w.ob n a _ ha z (by intro z; cases z)
        exact .inr (.inr (.inl ⟨by simpa using e, .inr ⟨xs, h1⟩⟩))
      | _ => cases e
  | p d =>
    have h : Rep K Z x d := h
    cases h with
    | str y => exact (by simpa [tyOk] using e : T = "str")
    | lst h1 h2 => exact .inl ⟨by simpa [tyOk] using e, _, .inl (same_rd w.sub h1)⟩
    | klst h1 h2 => exact .inl ⟨by simpa [tyOk] using e, _, same_l w.sub h1⟩
    | _ => cases e
abbrev MtG := DV → List DV → EM
structure MthD (K : PySem.W.Frag) (X : Cx) (id : String) (r : V → List V → Hp → VK → Prop) (g : MtG) : Prop where
  op : X.K = K → MtR X id r
  ok : ∀ (W : WX) (σ : St) (x : V) (d : DV) (vs : List V) (ds : List DV) (Z H : Hp) (I : List Addr) (s : S) (r0 : Rs DV) (Q : VK), Wf K Z H I s.m → RepV K Z I x d → RepVs K Z I vs ds → g d ds s = some r0 → PostR K W (RepV K) Z H I σ Q r0 → r x vs H Q
def mMth (T : String) (g : MtG) (o : EM) (ms : AM) : EM := bnd o fun d s => if tyOk T s.m d = true then bnd ms (fun ds => g d ds) s else none
theorem so_mth {T : String} {r : V → List V → Hp → VK → Prop} {g : MtG} {to : TE} {t : TA} {mo : EM} {ms : AM}
    (h : ∀ (W : WX) (σ : St) (x : V) (d : DV) (vs : List V) (ds : List DV) (Z H : Hp) (I : List Addr) (s : S) (r0 : Rs DV) (Q : VK), Wf K Z H I s.m → RepV K Z I x d → RepVs K Z I vs ds → g d ds s = some r0 → PostR K W (RepV K) Z H I σ Q r0 → r x vs H Q)
    (ho : Sound K W (RepV K) to mo) (ha : Sound K W (RepVs K) t ms) : Sound K W (RepV K) (tBM K T r to t) (mMth T g mo ms) := ⟨fun σ H s Z I r0 Q w rs e p => by
  refine ho.bnd w rs e p.x fun d v M1 Z1 H1 I1 w1 rs1 x1 q1 e1 => ?_
  have e1 : (if tyOk T M1 d = true then bnd ms (fun ds => g d ds) ⟨s.l, M1⟩ else none) = some r0 := e1
  split at e1
  · rename_i hty
    have p1 := p.mono x1
    refine ⟨ty_of w1 q1 hty, ha.bnd (s := ⟨s.l, M1⟩) w1 rs1 e1 p1.x fun ds vs M2 Z2 H2 I2 w2 rs2 x2 q2 e2 => ?_⟩
    exact h W σ v d vs ds Z2 H2 I2 ⟨s.l, M2⟩ r0 Q w2 (q1.mono x2) q2 e2 (p1.mono x2)
  · cases e1⟩
theorem de_mth {T id : String} {r : V → List V → Hp → VK → Prop} {g : MtG} {o : Expr} {name : Str} {apos cpos : Pos} {to : TE} {t : TA} {mo : EM} {ms : AM} (h : MthD K X id r g) (ho : DE K X W o to mo) (ha : DA K X W (e :: es) t ms) (pa : PlainAttrs T) (slot : Slot T name id) (hty : typeOf (.builtin id) = pure (.type "method_descriptor"))
    (hs : starEach (e :: es) X.env = (false, eval e X.env) :: starEach es X.env := by rfl) (hpl : (backTo cpos (starEach es X.env)).any (·.1) = false := by rfl)
    (hbase : attributeBase o name X.env (eval o X.env) = eval o X.env := by rfl) (hfew : ((((backTo cpos (starEach (e :: es) X.env)).all fun x => !x.1) && (backToKw cpos (keywordEach [] X.env)).all fun x => x.1.isSome) && decide (((e :: es).length + ([] : List Keyword).length + if ([] : List Keyword).isEmpty = true then 0 else 1) < 30)) = true := by rfl)
    (hline : (apos.endLine == cpos.line) = true := by rfl) : DE K X W (.Call (.Attribute o name apos) (e :: es) [] cpos) (tBM K T r to t) (mMth T g mo ms) := by
  refine ⟨ho.k, ?_, so_mth h.ok ho.so ha.so⟩
  have q := pe_bm (X := X) (cpos := cpos) (apos := apos) pa slot hty (h.op ho.k) ho.pe ha.pa (hbase := hbase) (hfew := hfew) (hline := hline) (hs := hs) (hplain := hpl)
  rw [ho.k] at q
  exact q
/-- data in, data out -/
def gP (g : D → List D → Option D) : MtG := fun d ds s => match d with
  | .p d => match allP ds with
    | some xs => ret (g d xs) s
    | none => none
  | .o _ => none
def gApp : MtG := fun d ds s => match d, ds with
  | .o n, [y] => match s.m[n]? with
    | some (.lst xs) => if xs.length < 1000000 then some (.ok (.p .non) (s.m.set n (.lst (xs ++ [y])))) else none
    | _ => none
  | _, _ => none
theorem md_app : MthD K X "list.append" rAppend gApp := ⟨fun _ => mt_append, fun W σ x d vs ds Z H I s r0 Q w hx hv e p => by
  unfold gApp at e
  split at e
  · rename_i n y
    obtain ⟨a, ha, rfl⟩ := hx
    cases hv with
    | cons h1 h2 =>
    cases h2
    split at e
    · rename_i xs hm
      split at e
      · rename_i hl
        cases e
        obtain ⟨_, ys, g1, g2⟩ := w.ob n a _ ha hm (by intro z; cases z)
        refine ⟨a, ys, _, rfl, rfl, g1, by rw [paired_len g2]; exact size_lt (Nat.le_of_lt hl), ?_⟩
        exact p _ Z _ I (w.setO ha hm (by intro z; cases z) ⟨_, upd_same, paired_app g2 (.cons h1 .nil)⟩) (ext_set (List.mem_of_getElem? ha)) .non
      · cases e
    · cases e
  · cases e⟩
/-! ### defs -/
def slotsOf (n : Nat) (ds : List DV) : List (Option DV) := ds.map some ++ List.replicate (n - ds.length) none
theorem start_rep {Z : Hp} {I : List Addr} {N : List Str} {vs : List V} {ds : List DV} (r : RepVs K Z I vs ds) : RepS K Z I (L2.start N vs) (slotsOf N.length ds) := by
  have hl := paired_len r
  refine ⟨by unfold L2.start slotsOf; simp [hl], fun i dv e => ?_⟩
  unfold slotsOf at e
  unfold L2.start
  by_cases hi : i < ds.length
  · rw [List.getElem?_append_left (by simpa using hi), List.getElem?_map] at e
    cases q : ds[i]? with
    | none => rw [q] at e; cases e
    | some d =>
      rw [q] at e
      cases e
      obtain ⟨v, h1, h2⟩ := paired_get r q
      exact ⟨v, by rw [List.getElem?_append_left (by simpa [hl] using hi), List.getElem?_map, h1]; rfl, h2⟩
  · rw [List.getElem?_append_right (by simpa using hi), List.getElem?_replicate] at e
    split at e <;> cases e
def runA (n : Nat) (m : SM) : MA := fun ds => match m ⟨slotsOf n (ds.map .p), []⟩ with
  | some (.nx, _) => some (.ok .non)
  | some (.rt (.p d), _) => some (.ok d)
  | some (.ex c fs, _) => some (.ex c fs)
  | _ => none
def ltO (k : Nat) : DV → Bool
  | .p _ => true
  | .o n => decide (n < k)
def closed (k : Nat) : O → Bool
  | .lst xs => xs.all (ltO k)
  | .dK xs => xs.all fun p => ltO k p.2
  | .dT xs => xs.all fun p => ltO k p.2
  | .ins _ xs => xs.all fun p => ltO k p.2
  | .tbl _ _ => true
  | .clo _ xs => xs.all (ltO k)
  | .gone => true
def dropM (k : Nat) (d : DV) (M : List O) : List O := if (ltO k d && (M.take k).all (closed k)) = true then M.take k else M
def runB (n : Nat) (m : SM) : List DV → List O → Option (Rs DV) := fun ds M => match m ⟨slotsOf n ds, M⟩ with
  | some (.nx, s) => some (.ok (.p .non) (dropM M.length (.p .non) s.m))
  | some (.rt d, s) => some (.ok d (dropM M.length d s.m))
  | some (.ex c fs, s) => some (.ex c fs (dropM M.length (.p .non) s.m))
  | _ => none
theorem repV_take {Z : Hp} {I t : List Addr} {v : V} {d : DV} (h : RepV K Z (I ++ t) v d) (l : ltO I.length d = true) : RepV K Z I v d := by
  cases d with
  | p d => exact h
  | o n =>
    obtain ⟨a, ha, e⟩ := h
    have l : n < I.length := by simpa [ltO] using l
    exact ⟨a, by rw [List.getElem?_append_left l] at ha; exact ha, e⟩
theorem paired_all {α β : Type} {F G : α → β → Prop} {p : β → Bool} (k : ∀ a b, F a b → p b = true → G a b) : ∀ {xs : List α} {ys : List β}, Paired F xs ys → ys.all p = true → Paired G xs ys
  | _, _, .nil, _ => .nil
  | _, _, .cons h r, e => by
    rw [List.all_cons, Bool.and_eq_true] at e
    exact .cons (k _ _ h e.1) (paired_all k r e.2)
theorem wf_take {Z H : Hp} {I t : List Addr} {M : List O} (w : Wf K Z H (I ++ t) M) (l : (M.take I.length).all (closed I.length) = true) : Wf K Z H I (M.take I.length) where
  sub := w.sub
  len := by
    have := w.len
    rw [List.length_append] at this
    rw [List.length_take]; omega
  nd := (List.nodup_append.mp w.nd).1
  tr := fun a m => w.tr a (List.mem_append_left _ m)
  ob := fun n a o h1 h2 h3 => by
    have hn := (List.getElem?_eq_some_iff.mp h1).1
    have cl : closed I.length o = true := List.all_eq_true.mp l o (List.mem_of_getElem? h2)
    rw [List.getElem?_take_of_lt hn] at h2
    obtain ⟨q1, q2⟩ := w.ob n a o (by rw [List.getElem?_append_left hn]; exact h1) h2 h3
    refine ⟨q1, ?_⟩
    cases o with
    | lst ds => obtain ⟨xs, h, r⟩ := q2; exact ⟨xs, h, paired_all (p := ltO I.length) (fun _ _ q l => repV_take q l) r cl⟩
    | dK _ => obtain ⟨xs, h, r⟩ := q2; exact ⟨xs, h, paired_all (G := FRel K Z I) (p := fun p => ltO I.length p.2) (fun a b q l => (⟨q.1, repV_take q.2 l⟩ : FRel K Z I a b)) r cl⟩
    | dT _ => obtain ⟨xs, h, r⟩ := q2; exact ⟨xs, h, paired_all (G := FRel K Z I) (p := fun p => ltO I.length p.2) (fun a b q l => (⟨q.1, repV_take q.2 l⟩ : FRel K Z I a b)) r cl⟩
    | ins _ _ => obtain ⟨dx, xs, h, r⟩ := q2; exact ⟨dx, xs, h, paired_all (G := FRel K Z I) (p := fun p => ltO I.length p.2) (fun a b q l => (⟨q.1, repV_take q.2 l⟩ : FRel K Z I a b)) r cl⟩
    | tbl _ _ => exact q2
    | clo _ _ => obtain ⟨c, cl2, cvs, h, nn, r⟩ := q2; exact ⟨c, cl2, cvs, h, fun y b q m => nn y b q (List.mem_append_left _ m), paired_all (p := ltO I.length) (fun _ _ q l => repV_take q l) r cl⟩
    | gone => trivial
theorem drop_ok {Z H Z' H' : Hp} {I I' : List Addr} {M M' : List O} {v : V} {d : DV} (w0 : Wf K Z H I M) (w : Wf K Z' H' I' M') (x : Ext Z H I Z' H' I') (r : RepV K Z' I' v d) : ∃ I2, Wf K Z' H' I2 (dropM M.length d M') ∧ Ext Z H I Z' H' I2 ∧ RepV K Z' I2 v d ∧ ∀ a ∈ I2, a ∈ I' := by
  unfold dropM
  split
  · rename_i h
    rw [Bool.and_eq_true] at h
    obtain ⟨t, rfl⟩ := x.i
    rw [← w0.len] at h ⊢
    exact ⟨I, wf_take w h.2, ⟨x.z, ⟨[], by simp⟩, x.fr, fun a m => .inl m, x.zn, x.tr⟩, repV_take r h.1, fun a m => List.mem_append_left _ m⟩
  · exact ⟨I', w, x, r, fun _ m => m⟩
section
variable {P : Program} {w : World} {mg : Str → Option Value} {base : Heap} {x qual : Str} {st : Stmt} {f : Addr} {fd : FuncData} {N ps : List Str} {k : Nat}
abbrev WE0 (E : XK) : WX := fun cls d _ H => E cls d H
theorem fnA {m : SM} (F : Fun K x qual st f fd) (Sc : FnScope N ps (defScope st))
    (body : ∀ (cdv : Value) (A : Around) (outer : List Env) (s : Shared) (H : Hp) (E : XK), Room k (A.deeper (PyProof.Rows.envOfC qual (defScope st) s.heap.objs.size f cdv)) →
      ∃ t, DSs K (cxOf (L2.CX P w) P w K mg base N qual (defScope st) f cdv A outer s H E) (WE0 E) (defBody st) t m) : FnOk P w K mg base (L2.CX P w) (k + 1) f fd ps (spA K ps.length (runA N.length m)) := by
  refine F.okX Sc spA_len fun cdv A outer s H vs Q E hr h => ?_
  obtain ⟨hl, Z, ds, r, sub, rp, e, p⟩ := h
  obtain ⟨t, b⟩ := body cdv A outer s H E hr
  refine ⟨t, b.ps, ?_⟩
  have w0 : Wf K Z H [] [] := ⟨sub, rfl, List.nodup_nil, (by simp), fun n a o h => by simp at h⟩
  unfold runA at e
  cases z : m ⟨slotsOf N.length (ds.map .p), []⟩ with
  | none => rw [z] at e; cases e
  | some fs =>
    rw [z] at e
    obtain ⟨fl, s1⟩ := fs
    have xp : ∀ {Z' H' I'}, Wf K Z' H' I' s1.m → Ext Z H [] Z' H' I' → ExtP Z H Z' H' := fun {Z' H' I'} w' x' => ⟨x'.z, fun a o q => x'.fr a o q (by simp), w'.sub, fun a q => by
      rcases x'.zn a q with k | k | k
      · exact .inl k
      · exact .inr k
      · cases k⟩
    refine b.so.ok (L2.start N vs) H _ Z [] _ _ w0 (start_rep (allP_map rp)) z ?_
    cases fl with
    | nx => cases e; exact fun σ' Z' H' I' w' rs' x' => p _ Z' H' (xp w' x') .non
    | rt d =>
      cases d with
      | p d => cases e; exact fun v Z' H' I' w' x' r' => p v Z' H' (xp w' x') r'
      | o n => cases e
    | ex c fs => cases e; exact fun σ' d Z' H' I' w' rs' x' ea na => p d Z' H' (xp w' x') ea fun a q => (na a q).1
    | bk => cases e
    | ct => cases e
theorem fnB {m : SM} (F : Fun K x qual st f fd) (Sc : FnScope N ps (defScope st))
    (body : ∀ (cdv : Value) (A : Around) (outer : List Env) (s : Shared) (H : Hp) (E : XK), Room k (A.deeper (PyProof.Rows.envOfC qual (defScope st) s.heap.objs.size f cdv)) →
      ∃ t, DSs K (cxOf (L2.CX P w) P w K mg base N qual (defScope st) f cdv A outer s H E) (WE0 E) (defBody st) t m) : FnOk P w K mg base (L2.CX P w) (k + 1) f fd ps (spB K ps.length (runB N.length m)) := by
  refine F.okX Sc spB_len fun cdv A outer s H vs Q E hr h => ?_
  obtain ⟨hl, Z, I, M, ds, r, w0, rp, e, p⟩ := h
  obtain ⟨t, b⟩ := body cdv A outer s H E hr
  refine ⟨t, b.ps, ?_⟩
  unfold runB at e
  cases z : m ⟨slotsOf N.length ds, M⟩ with
  | none => rw [z] at e; cases e
  | some fs =>
    rw [z] at e
    obtain ⟨fl, s1⟩ := fs
    refine b.so.ok (L2.start N vs) H ⟨slotsOf N.length ds, M⟩ Z I _ _ w0 (start_rep rp) z ?_
    cases fl with
    | nx =>
      cases e
      intro σ' Z' H' I' w' rs' x'
      obtain ⟨I2, w2, x2, r2, _⟩ := drop_ok (d := .p .non) (v := .non) w0 w' x' (show Rep K Z' .non .non from .non)
      exact p _ Z' H' I2 w2 x2 r2
    | rt d =>
      cases e
      intro v Z' H' I' w' x' r'
      obtain ⟨I2, w2, x2, r2, _⟩ := drop_ok w0 w' x' r'
      exact p v Z' H' I2 w2 x2 r2
    | ex c fs =>
      cases e
      intro σ' d Z' H' I' w' rs' x' ea na
      obtain ⟨I2, w2, x2, _, h2⟩ := drop_ok (d := .p .non) (v := .non) w0 w' x' (show Rep K Z' .non .non from .non)
      exact p d Z' H' I2 w2 x2 ea fun a q => ⟨(na a q).1, fun m => (na a q).2 (h2 a m)⟩
    | bk => cases e
    | ct => cases e
end
end
end DL
namespace DL
open PySem L2
/-! ### equality of data -/
mutual
def toP : D → PyData
  | .non => .none
  | .bl b => .bool b
  | .int i => .int i
  | .str s => .str s
  | .lst xs => .list (toPs xs)
  | .klst xs => .list (toPs xs)
  | .tup xs => .tuple (toPs xs)
  | .ktup xs => .tuple (toPs xs)
  | .dK _ => .dict []
  | .dT _ => .dict []
  | .fn _ => .dict []
  | .clo _ _ => .dict []
  | .scr _ => .dict []
  | .ty _ => .dict []
  | .rng _ _ => .dict []
def toPs : List D → List PyData
  | [] => []
  | d :: r => toP d :: toPs r
end
mutual
/-- the same, as == tells -/
def deq : D → D → Bool
  | .non, .non => true
  | .bl a, .bl b => a == b
  | .bl a, .int j => (if a then 1 else 0) == j
  | .int i, .bl b => i == (if b then 1 else 0)
  | .int i, .int j => i == j
  | .str x, .str y => x == y
  | .lst xs, .lst ys => deqs xs ys
  | .lst xs, .klst ys => deqs xs ys
  | .klst xs, .lst ys => deqs xs ys
  | .klst xs, .klst ys => deqs xs ys
  | .tup xs, .tup ys => deqs xs ys
  | .tup xs, .ktup ys => deqs xs ys
  | .ktup xs, .tup ys => deqs xs ys
  | .ktup xs, .ktup ys => deqs xs ys
  | _, _ => false
def deqs : List D → List D → Bool
  | [], [] => true
  | x :: xs, y :: ys => deq x y && deqs xs ys
  | _, _ => false
end
mutual
theorem deq_eqv : ∀ a b : D, PyData.eqv (toP a) (toP b) = deq a b
  | .lst xs, b => by
    cases b with
    | lst ys => exact deqs_eqv xs ys
    | klst ys => exact deqs_eqv xs ys
    | _ => rfl
  | .klst xs, b => by
    cases b with
    | lst ys => exact deqs_eqv xs ys
    | klst ys => exact deqs_eqv xs ys
    | _ => rfl
  | .tup xs, b => by
    cases b with
    | tup ys => exact deqs_eqv xs ys
    | ktup ys => exact deqs_eqv xs ys
    | _ => rfl
  | .ktup xs, b => by
    cases b with
    | tup ys => exact deqs_eqv xs ys
    | ktup ys => exact deqs_eqv xs ys
    | _ => rfl
  | .non, b => by cases b <;> rfl
  | .bl _, b => by cases b <;> rfl
  | .int _, b => by cases b <;> rfl
  | .str _, b => by cases b <;> rfl
  | .dK _, b => by cases b <;> rfl
  | .dT _, b => by cases b <;> rfl
  | .fn _, b => by cases b <;> rfl
  | .clo _ _, b => by cases b <;> rfl
  | .scr _, b => by cases b <;> rfl
  | .ty _, b => by cases b <;> rfl
  | .rng _ _, b => by cases b <;> rfl
theorem deqs_eqv : ∀ a b : List D, PyData.eqvAll (toPs a) (toPs b) = deqs a b
  | [], [] => rfl
  | x :: xs, y :: ys => by
    show (PyData.eqv (toP x) (toP y) && PyData.eqvAll (toPs xs) (toPs ys)) = (deq x y && deqs xs ys)
    rw [deq_eqv x y, deqs_eqv xs ys]
  | [], _ :: _ => rfl
  | _ :: _, [] => rfl
end
section
variable {K : PySem.W.Frag} {Z H : Hp}
mutual
theorem Rep.dp (s : Same Z H) : ∀ {v : V} {d : D}, Rep K Z v d → PyData.canLay0 (toP d) = true → Dp K H v (toP d)
  | _, _, .non, _ => .non
  | _, _, .bl b, _ => .bl b
  | _, _, .int i, _ => .int i
  | _, _, .str x, _ => .str x
  | _, _, .lst h r, e => .lst (.inl (same_rd s h)) (RepA.dp s r e)
  | _, _, .tup h r, e => .tup (sqt s h) (RepA.dp s r e)
  | _, _, .ktup h r, e => .tup (same_t s h) (RepA.dp s r e)
  | _, _, .klst h r, e => .lst (same_l s h) (RepA.dp s r e)
  | _, _, .dK _ _, e => by cases e
  | _, _, .dT _ _, e => by cases e
  | _, _, .fn _, e => by cases e
  | _, _, .clo _ _, e => by cases e
  | _, _, .scr _ _, e => by cases e
  | _, _, .ty _, e => by cases e
  | _, _, .rng _, e => by cases e
theorem RepA.dp (s : Same Z H) : ∀ {v : List V} {d : List D}, RepA K Z v d → PyData.canLayAll0 (toPs d) = true → DpAll K H v (toPs d)
  | _, _, .nil, _ => .nil
  | _, _, .cons h r, e => by
    have e : (PyData.canLay0 (toP _) && PyData.canLayAll0 (toPs _)) = true := e
    rw [Bool.and_eq_true] at e
    exact .cons (Rep.dp s h e.1) (RepA.dp s r e.2)
end
end
mutual
def okD : D → Bool
  | .non => true
  | .bl _ => true
  | .int _ => true
  | .str x => PyData.strOk x
  | .lst xs => okDs xs
  | .tup xs => okDs xs
  | .ktup xs => okDs xs
  | .klst xs => okDs xs
  | _ => false
def okDs : List D → Bool
  | [] => true
  | x :: xs => okD x && okDs xs
end
mutual
def depD : D → Nat
  | .lst xs => depDs xs + 1
  | .tup xs => depDs xs + 1
  | .ktup xs => depDs xs + 1
  | .klst xs => depDs xs + 1
  | _ => 0
def depDs : List D → Nat
  | [] => 0
  | x :: xs => max (depD x) (depDs xs)
end
mutual
theorem okD_can : ∀ d : D, okD d = true → PyData.canLay0 (toP d) = true
  | .non, _ => rfl
  | .bl _, _ => rfl
  | .int _, _ => rfl
  | .str x, h => h
  | .lst xs, h => okDs_can xs h
  | .tup xs, h => okDs_can xs h
  | .ktup xs, h => okDs_can xs h
  | .klst xs, h => okDs_can xs h
  | .dK _, h => by cases h
  | .dT _, h => by cases h
  | .fn _, h => by cases h
  | .clo _ _, h => by cases h
  | .scr _, h => by cases h
  | .ty _, h => by cases h
  | .rng _ _, h => by cases h
theorem okDs_can : ∀ d : List D, okDs d = true → PyData.canLayAll0 (toPs d) = true
  | [], _ => rfl
  | x :: xs, h => by
    have h : (okD x && okDs xs) = true := h
    rw [Bool.and_eq_true] at h
    show (PyData.canLay0 (toP x) && PyData.canLayAll0 (toPs xs)) = true
    rw [okD_can x h.1, okDs_can xs h.2]; rfl
end
mutual
theorem depD_dep : ∀ d : D, okD d = true → PyData.depth (toP d) = depD d
  | .non, _ => rfl
  | .bl _, _ => rfl
  | .int _, _ => rfl
  | .str x, _ => rfl
  | .lst xs, h => by show PyData.depthAll (toPs xs) + 1 = depDs xs + 1; rw [depDs_dep xs h]
  | .tup xs, h => by show PyData.depthAll (toPs xs) + 1 = depDs xs + 1; rw [depDs_dep xs h]
  | .ktup xs, h => by show PyData.depthAll (toPs xs) + 1 = depDs xs + 1; rw [depDs_dep xs h]
  | .klst xs, h => by show PyData.depthAll (toPs xs) + 1 = depDs xs + 1; rw [depDs_dep xs h]
  | .dK _, h => by cases h
  | .dT _, h => by cases h
  | .fn _, h => by cases h
  | .clo _ _, h => by cases h
  | .scr _, h => by cases h
  | .ty _, h => by cases h
  | .rng _ _, h => by cases h
theorem depDs_dep : ∀ d : List D, okDs d = true → PyData.depthAll (toPs d) = depDs d
  | [], _ => rfl
  | x :: xs, h => by
    have h : (okD x && okDs xs) = true := h
    rw [Bool.and_eq_true] at h
    show max (PyData.depth (toP x)) (PyData.depthAll (toPs xs)) = max (depD x) (depDs xs)
    rw [depD_dep x h.1, depDs_dep xs h.2]
end
def shp (d : D) : Bool := okD d && decide (depD d ≤ 64)
theorem shp_ok {d : D} (h : shp d = true) : SeqAt.shaped (toP d) = true := by
  unfold shp at h
  rw [Bool.and_eq_true] at h
  unfold SeqAt.shaped
  rw [okD_can d h.1, depD_dep d h.1, h.2]; rfl
/-- scalars are told apart at once; the rest has to be shaped -/
def scalD : D → D → Option Bool
  | .non, .non => some true
  | .non, .int _ => some false
  | .int _, .non => some false
  | .non, .bl _ => some false
  | .bl _, .non => some false
  | .non, .str _ => some false
  | .str _, .non => some false
  | .int i, .int j => some (i == j)
  | .bl i, .bl j => some (i == j)
  | .str x, .str y => some (x == y)
  | .int _, .str _ => some false
  | .str _, .int _ => some false
  | .bl _, .str _ => some false
  | .str _, .bl _ => some false
  | _, _ => none
def eqD (d e : D) : Option Bool := match scalD d e with
  | some b => some b
  | none => if (shp d && shp e) = true then some (deq d e) else none
def dEq (d e : D) : Option D := (eqD d e).map .bl
def dNe (d e : D) : Option D := (eqD d e).map fun b => .bl !b
theorem boolMap {α : Type} {o : Option α} {f : α → Bool} {c : D} (h : (o.map fun a => D.bl (f a)) = some c) : ∃ b, c = .bl b := by
  cases o with
  | none => cases h
  | some a => cases h; exact ⟨_, rfl⟩
theorem bool_dEq : boolD dEq := fun d e c h => boolMap (f := id) h
theorem bool_dNe : boolD dNe := fun d e c h => boolMap h
section
variable {K : PySem.W.Frag} {X : Cx}
theorem scal_ok {Z : Hp} {x y : V} {d e : D} {b : Bool} (hx : Rep K Z x d) (hy : Rep K Z y e) (h : scalD d e = some b) : scal x y = true ∧ decide (x = y) = b := by
  cases hx with
  | non => cases hy <;> cases h <;> exact ⟨rfl, rfl⟩
  | int i => cases hy with
    | int j => cases h; refine ⟨rfl, ?_⟩; by_cases q : i = j <;> simp [q]
    | non => cases h; exact ⟨rfl, rfl⟩
    | str _ => cases h; exact ⟨rfl, rfl⟩
    | _ => cases h
  | bl i => cases hy with
    | bl j => cases h; refine ⟨rfl, ?_⟩; by_cases q : i = j <;> simp [q]
    | non => cases h; exact ⟨rfl, rfl⟩
    | str _ => cases h; exact ⟨rfl, rfl⟩
    | _ => cases h
  | str i => cases hy with
    | str j => cases h; refine ⟨rfl, ?_⟩; by_cases q : i = j <;> simp [q]
    | non => cases h; exact ⟨rfl, rfl⟩
    | int _ => cases h; exact ⟨rfl, rfl⟩
    | bl _ => cases h; exact ⟨rfl, rfl⟩
    | _ => cases h
  | _ => cases hy <;> cases h
def rEqX (K : PySem.W.Frag) : R2 := fun x y H Q => rEq x y H Q ∨ rEqD K x y H Q
def rNeX (K : PySem.W.Frag) : R2 := fun x y H Q => rNe x y H Q ∨ rNeD K x y H Q
theorem shaped_can {d : D} (h : shp d = true) : PyData.canLay0 (toP d) = true := SeqAt.canLay_of_shaped (shp_ok h)
theorem od_eq (hu : X.A.units + 64 < cLine) : OpD K X (compareOp .Eq) (rEqX K) dEq where
  op := fun k pins s σ H x y v u Q I rx ry h => by
    subst k
    rcases h with h | h
    · exact op_eq pins s σ H x y v u Q I rx ry h
    · exact op_eqD hu pins s σ H x y v u Q I rx ry h
  ok := by
    intro x y d e c Z H Q s hx hy hg p
    unfold dEq eqD at hg
    cases z : scalD d e with
    | some b =>
      rw [z] at hg; cases hg
      obtain ⟨h1, h2⟩ := scal_ok hx hy z
      exact .inl ⟨h1, by rw [h2]; exact p _ Z H (ExtP.refl s) (.bl _)⟩
    | none =>
      rw [z] at hg
      have hg : (if (shp d && shp e) = true then some (deq d e) else none).map D.bl = some c := hg
      split at hg
      · rename_i hs
        cases hg
        rw [Bool.and_eq_true] at hs
        exact .inr ⟨_, _, hx.dp s (shaped_can hs.1), hy.dp s (shaped_can hs.2), shp_ok hs.1, shp_ok hs.2, by rw [deq_eqv]; exact p _ Z H (ExtP.refl s) (.bl _)⟩
      · cases hg
theorem od_ne (hu : X.A.units + 64 < cLine) : OpD K X (compareOp .NotEq) (rNeX K) dNe where
  op := fun k pins s σ H x y v u Q I rx ry h => by
    subst k
    rcases h with h | h
    · exact op_ne pins s σ H x y v u Q I rx ry h
    · exact op_neD hu pins s σ H x y v u Q I rx ry h
  ok := by
    intro x y d e c Z H Q s hx hy hg p
    unfold dNe eqD at hg
    cases z : scalD d e with
    | some b =>
      rw [z] at hg; cases hg
      obtain ⟨h1, h2⟩ := scal_ok hx hy z
      exact .inl ⟨h1, by rw [h2]; exact p _ Z H (ExtP.refl s) (.bl _)⟩
    | none =>
      rw [z] at hg
      have hg : (if (shp d && shp e) = true then some (deq d e) else none).map (fun b => D.bl !b) = some c := hg
      split at hg
      · rename_i hs
        cases hg
        rw [Bool.and_eq_true] at hs
        exact .inr ⟨_, _, hx.dp s (shaped_can hs.1), hy.dp s (shaped_can hs.2), shp_ok hs.1, shp_ok hs.2, by rw [deq_eqv]; exact p _ Z H (ExtP.refl s) (.bl _)⟩
      · cases hg
end
/-! ### slices -/
section
variable {K : PySem.W.Frag} {X : Cx} {W : WX} {e a b c : Expr} {es : List Expr} {pos : Pos}
def RepOI (_ : Hp) (_ : List Addr) (x y : Option Int) : Prop := x = y
abbrev PM := Mi (Option Int)
structure DP (K : PySem.W.Frag) (X : Cx) (W : WX) (e : Option Expr) (t : TO) (m : PM) : Prop where
  k : X.K = K
  po : PO X e t
  so : Sound K W RepOI t m
def pNone : PM := fun s => some (.ok none s.m)
def pSome (m : EM) : PM := bnd m (pur fun d s => match d with
  | .int i => some (.ok (some i) s.m)
  | _ => none)
theorem dp_none (k : X.K = K := by rfl) : DP K X W none tNoPart pNone := ⟨k, po_none, ⟨fun σ H s Z I r Q w rs e p => by
  cases e; exact p none Z H I w Ext.refl rfl⟩⟩
theorem dp_some {te : TE} {m : EM} (h : DE K X W e te m) : DP K X W (some e) (tPart te) (pSome m) := ⟨h.k, po_some h.pe, ⟨fun σ H s Z I r Q w rs e p => by
  refine h.so.bnd w rs e p.x fun d v M1 Z1 H1 I1 w1 rs1 x1 q1 e1 => ?_
  obtain ⟨d, rfl, e1⟩ := pur_ok e1
  cases d with
  | int i => cases q1; cases e1; exact ⟨i, rfl, p _ Z1 H1 I1 w1 x1 rfl⟩
  | _ => cases e1⟩⟩
def cutD {α : Type} (xs : List α) (lo hi : Option Int) : List α := (xs.drop (HT.sIx xs.length 0 lo)).take (HT.sIx xs.length xs.length hi - HT.sIx xs.length 0 lo)
def slD : D → Option Int → Option Int → Option D
  | .str z, l, u => if z.length ≤ 1000000 then some (.str (cutS z l u)) else none
  | .lst xs, l, u => some (.lst (cutD xs l u))
  | .scr xs, l, u => some (.lst (cutD xs l u))
  | .tup xs, l, u => if HT.sIx xs.length 0 l = 0 ∧ HT.sIx xs.length xs.length u = xs.length then some (.tup xs) else some (.tup (cutD xs l u))
  | _, _, _ => none
def rSl (K : PySem.W.Frag) : V → Option Int → Option Int → Hp → VK → Prop := fun x lo hi H Q => rSlS x lo hi H Q ∨ rSlL K x lo hi H Q ∨ (∃ a xs, x = .ref a ∧ SqT K H a xs ∧ ¬ (HT.sIx xs.length 0 lo = 0 ∧ HT.sIx xs.length xs.length hi = xs.length) ∧ ∀ p, H p = none → Q (.ref p) (upd H p (.tup (cutV xs lo hi))))
theorem RepA.cut {Z : Hp} {xs : List V} {ds : List D} (r : RepA K Z xs ds) (lo hi : Option Int) : RepA K Z (cutV xs lo hi) (cutD ds lo hi) := by
  unfold cutV cutD
  rw [r.length]
  exact (r.drop _).take _
theorem sl_any : SlR X (rSl X.K) := fun pins s σ H x v vl vu lo hi sl Q I rx hs pl pu h => by
  rcases h with h | h | h
  · exact sl_str pins s σ H x v vl vu lo hi sl Q I rx hs pl pu h
  · exact sl_list pins s σ H x v vl vu lo hi sl Q I rx hs pl pu h
  · exact sl_tup pins s σ H x v vl vu lo hi sl Q I rx hs pl pu h
theorem sl_ok {x : V} {d c : D} {lo hi : Option Int} {Z H : Hp} {Q : VK} (s : Same Z H) (hx : Rep K Z x d) (hg : slD d lo hi = some c) (p : PostP K Z H c Q) (nt : ∀ xs, d ≠ .tup xs) : rSl K x lo hi H Q := by
  cases hx with
  | str z =>
    have hg : (if z.length ≤ 1000000 then some (D.str (cutS z lo hi)) else none) = some c := hg
    split at hg
    · rename_i hl
      cases hg
      exact .inl ⟨z, rfl, size_le hl, p _ Z H (ExtP.refl s) (.str _)⟩
    · cases hg
  | lst h1 h2 =>
    cases hg
    exact .inr (.inl ⟨_, _, rfl, .inl (same_rd s h1), fun l hl => p _ _ _ (ExtP.new s hl) (.lst (.inl upd_same) ((h2.cut lo hi).mono (same_upd (none_of s hl))))⟩)
  | scr h1 h2 =>
    cases hg
    exact .inr (.inl ⟨_, _, rfl, same_l s h1, fun l hl => p _ _ _ (ExtP.new s hl) (.lst (.inl upd_same) ((h2.cut lo hi).mono (same_upd (none_of s hl))))⟩)
  | tup h1 h2 => exact absurd rfl (nt _)
  | _ => cases hg
/-- (tuples are not cut here) -/
def slE (d : D) (l u : Option Int) : Option D := match d with
  | .tup _ => none
  | d => slD d l u
theorem de_sl {te : TE} {tl th : TO} {m : EM} {ml mu : PM} {lo hi : Option Expr} {p2 : Pos} (h : DE K X W e te m) (hl : DP K X W lo tl ml) (hh : DP K X W hi th mu) : DE K X W (.Subscript e (.Slice lo hi none p2) pos) (tSl (rSl K) te tl th) (bnd m (pur fun d => bnd ml fun i => bnd mu fun j => ret (slE d i j))) := by
  refine ⟨h.k, ?_, ⟨fun σ H s Z I r0 Q w rs e p => ?_⟩⟩
  · have q := pe_slice (X := X) (pos := pos) (p2 := p2) sl_any h.pe hl.po hh.po
    rw [h.k] at q
    exact q
  · refine h.so.bnd w rs e p.x fun d v M1 Z1 H1 I1 w1 rs1 x1 q1 e1 => ?_
    obtain ⟨d, rfl, e1⟩ := pur_ok e1
    have p1 := p.mono x1
    refine hl.so.bnd (s := ⟨s.l, M1⟩) w1 rs1 e1 p1.x fun i i' M2 Z2 H2 I2 w2 rs2 x2 q2 e2 => ?_
    cases (show i' = i from q2)
    have p2 := p1.mono x2
    refine hh.so.bnd (s := ⟨s.l, M2⟩) w2 rs2 e2 p2.x fun j j' M3 Z3 H3 I3 w3 rs3 x3 q3 e3 => ?_
    cases (show j' = j from q3)
    obtain ⟨c, hc, rfl⟩ := ret_ok e3
    have hx : Rep K Z3 v d := Rep.mono x3.z (Rep.mono x2.z q1)
    unfold slE at hc
    split at hc
    · cases hc
    · rename_i hn
      exact sl_ok w3.sub hx hc (PostP.of w3 (p2.mono x3)) fun xs h => hn xs h
end
end DL
namespace DL
open PySem L2
section
variable {K : PySem.W.Frag} {X : Cx} {W : WX} {e a b c : Expr} {es : List Expr} {pos : Pos}
/-! ### isinstance -/
def tyName : D → Option String
  | .non => some "NoneType"
  | .bl _ => some "bool"
  | .int _ => some "int"
  | .str _ => some "str"
  | .lst _ => some "list"
  | .tup _ => some "tuple"
  | .ktup _ => some "tuple"
  | _ => none
def dIsi : List O → List DV → Option D
  | _, [.p d, .p (.ty n)] => match tyName d with
    | some t => (kitB t n).map .bl
    | none => none
  | _, _ => none
end
end DL
namespace DL
open PySem L2
abbrev dSub : D → D → Option D := dIi fun i j => i - j
abbrev dMul : D → D → Option D := dI fun i j => if mulOk i j = true then some (.int (i * j)) else none
abbrev dDiv : D → D → Option D := dI fun i j => if 0 < j ∧ j < 18446744073709551616 then some (.int (i / j)) else none
abbrev dMod : D → D → Option D := dI fun i j => if 0 < j then some (.int (i % j)) else none
abbrev dLt : D → D → Option D := dIb fun i j => decide (i < j)
abbrev dLe : D → D → Option D := dIb fun i j => decide (i ≤ j)
abbrev dGt : D → D → Option D := dIb fun i j => decide (j < i)
abbrev dGe : D → D → Option D := dIb fun i j => decide (j ≤ i)
def dNeg : D → Option D
  | .int i => some (.int (-i))
  | _ => none
theorem de_usub {K : PySem.W.Frag} {X : Cx} {W : WX} {a : Expr} {pos : Pos} {ta : TE} {m : EM} (ha : DE K X W a ta m) : DE K X W (.UnaryOp .USub a pos) (tUn (rU fun i => .int (-i)) ta) (mUn dNeg m) :=
  ⟨ha.k, pe_un un_neg ha.pe, so_un (fun x d c Z H Q s hx hg p => by
    unfold dNeg at hg
    split at hg
    · cases hx; cases hg; exact ⟨_, rfl, p _ Z H (ExtP.refl s) (.int _)⟩
    · cases hg) ha.so⟩
/-- a def of the top -/
structure Df (K : PySem.W.Frag) (mg : Str → Option Value) (nm : Str) (st : Stmt) (ps : List Str) where
  a : Addr
  fd : FuncData
  F : Fun K nm nm st a fd
  m : mg nm = some (.ref a)
  b : Binds K fd ps []
theorem intsRep {K : PySem.W.Frag} {Z : Hp} : ∀ ns : List Int, RepA K Z (ns.map V.int) (ns.map D.int)
  | [] => .nil
  | n :: r => .cons (.int n) (intsRep r)
end DL
namespace DL
open PySem L2
/-- a constant of the top -/
structure GC (K : PySem.W.Frag) (mg : Str → Option Value) (x : Str) (d : D) where
  v : V
  u : Value
  m : mg x = some u
  r : RelV v u
  h : ∀ Z, Rep K Z v d
def gc_mk {K : PySem.W.Frag} {mg : Str → Option Value} {x : Str} {d : D} {v : V} {u : Value} (m : mg x = some u) (r : RelV v u) (h : ∀ Z, Rep K Z v d) : GC K mg x d := ⟨v, u, m, r, h⟩
theorem de_gc {K : PySem.W.Frag} {X : Cx} {W : WX} {x : Str} {d : D} {pos : Pos} {mg : Str → Option Value} (g : GC K mg x d) (hm : X.mg = mg := by rfl) (k : X.K = K := by rfl) (hg : Gl X x := by rfl) (hd : (x == ("__debug__" : Str)) = false := by decide) : DE K X W (.Name x pos) (tC g.v) (mC d) :=
  de_glob (by rw [hm]; exact g.m) g.r g.h k hg hd
def mSlE (m : EM) (l u : PM) : EM := bnd m (pur fun d => bnd l fun i => bnd u fun j => ret (slE d i j))
end DL
namespace DL
open PySem L2
/-! the mirror's equations -/
@[simp] theorem e_gv0 (x : Option DV) (r : List (Option DV)) : gv (x :: r) 0 = x := by unfold gv; cases x <;> rfl
@[simp] theorem e_gvS (x : Option DV) (r : List (Option DV)) (n : Nat) : gv (x :: r) (n + 1) = gv r n := by unfold gv; rfl
@[simp] theorem e_var (i : Nat) (s : S) : mVar i s = (match gv s.l i with | some d => some (.ok d s.m) | none => none) := rfl
@[simp] theorem e_c (d : D) (s : S) : mC d s = some (.ok (.p d) s.m) := rfl
theorem e_bnd {α γ : Type} (m : Mi α) (k : α → Mi γ) (s : S) : bnd m k s = (match m s with | some (.ok v M) => k v ⟨s.l, M⟩ | some (.ex c f M) => some (.ex c f M) | none => none) := rfl
@[simp] theorem e_pur {γ : Type} (k : D → Mi γ) (d : D) (s : S) : pur k (.p d) s = k d s := rfl
@[simp] theorem e_ret (d : D) (s : S) : ret (some d) s = some (.ok (.p d) s.m) := rfl
@[simp] theorem e_bin (g : D → D → Option D) (m n : EM) (s : S) : mBin g m n s = (bnd m (pur fun d => bnd n (pur fun e => ret (g d e)))) s := rfl
@[simp] theorem e_un (g : D → Option D) (m : EM) (s : S) : mUn g m s = (bnd m (pur fun d => ret (g d))) s := rfl
@[simp] theorem e_dI (g : Int → Int → Option D) (i j : Int) : dI g (.int i) (.int j) = g i j := rfl
@[simp] theorem e_addI (i j : Int) : dAdd (.int i) (.int j) = some (.int (i + j)) := rfl
@[simp] theorem e_addS (x y : Str) : dAdd (.str x) (.str y) = if x.length + y.length ≤ 1000000 then some (.str (x ++ y)) else none := rfl
@[simp] theorem e_neg (i : Int) : dNeg (.int i) = some (.int (-i)) := rfl
@[simp] theorem e_isN (m : EM) (s : S) : mIsN m s = (bnd m fun d s => some (.ok (.p (.bl (isNV d))) s.m)) s := rfl
@[simp] theorem e_notN (m : EM) (s : S) : mNotN m s = (bnd m fun d s => some (.ok (.p (.bl (!isNV d))) s.m)) s := rfl
@[simp] theorem e_isNVo (n : Nat) : isNV (.o n) = false := rfl
@[simp] theorem e_isNV0 : isNV (.p .non) = true := rfl
@[simp] theorem e_isNV1 (i : Int) : isNV (.p (.int i)) = false := rfl
@[simp] theorem e_isNV2 (i : Str) : isNV (.p (.str i)) = false := rfl
@[simp] theorem e_isNV3 (i : List D) : isNV (.p (.tup i)) = false := rfl
@[simp] theorem e_isNV4 (i : List D) : isNV (.p (.lst i)) = false := rfl
@[simp] theorem e_isNV5 (i : Bool) : isNV (.p (.bl i)) = false := rfl
@[simp] theorem e_tru (m : EM) (s : S) : mTru m s = (bnd m fun d s => match truM s.m d with | some b => some (.ok (.p (.bl b)) s.m) | none => none) s := rfl
@[simp] theorem e_truB (M : List O) (b : Bool) : truM M (.p (.bl b)) = some b := rfl
@[simp] theorem e_ifMt {γ : Type} (n k : Mi γ) (s : S) : ifM n k (.p (.bl true)) s = n s := rfl
@[simp] theorem e_ifMf {γ : Type} (n k : Mi γ) (s : S) : ifM n k (.p (.bl false)) s = k s := rfl
@[simp] theorem e_fls (s : S) : fls s = some (.ok (.p (.bl false)) s.m) := rfl
@[simp] theorem e_trus (s : S) : tru s = some (.ok (.p (.bl true)) s.m) := rfl
@[simp] theorem e_and (m n : EM) (s : S) : mAnd m n s = (bnd m (ifM n fls)) s := rfl
@[simp] theorem e_or (m n : EM) (s : S) : mOr m n s = (bnd m (ifM tru n)) s := rfl
@[simp] theorem e_not (m : EM) (s : S) : mNot m s = (bnd m (ifM fls tru)) s := rfl
@[simp] theorem e_ifE (c m n : EM) (s : S) : mIf c m n s = (bnd c (ifM m n)) s := rfl
@[simp] theorem e_chain (g h : D → D → Option D) (m n k : EM) (s : S) : mChain g h m n k s = (bnd m (pur fun d => bnd n (pur fun e => bnd (ret (g d e)) (ifM (bnd k (pur fun f => ret (h e f))) fls)))) s := rfl
@[simp] theorem e_aNil (s : S) : aNil s = some (.ok [] s.m) := rfl
@[simp] theorem e_aCons (m : EM) (ms : AM) (s : S) : aCons m ms s = (bnd m fun d => bnd ms fun ds s => some (.ok (d :: ds) s.m)) s := rfl
@[simp] theorem e_allP0 : allP [] = some [] := rfl
@[simp] theorem e_allP1 (d : D) (r : List DV) : allP (.p d :: r) = (allP r).map (d :: ·) := rfl
@[simp] theorem e_allPm (xs : List D) : allP (xs.map .p) = some xs := by
  induction xs with
  | nil => rfl
  | cons x r ih => show (allP (r.map .p)).map _ = _; rw [ih]; rfl
@[simp] theorem e_disp (g : List D → D) (ms : AM) (s : S) : disp g ms s = (bnd ms fun ds s => match allP ds with | some xs => if xs.length ≤ 1000000 then some (.ok (.p (g xs)) s.m) else none | none => none) s := rfl
@[simp] theorem e_dispO (ms : AM) (s : S) : dispO ms s = (bnd ms fun ds s => if ds.length ≤ 1000000 then some (.ok (.o s.m.length) (s.m ++ [.lst ds])) else none) s := rfl
def ixK (d : DV) (i : D) : EM := fun s => match i with
  | .int i => (match ixM s.m d i with
    | some c => some (.ok c s.m)
    | none => none)
  | _ => none
@[simp] theorem e_ix (m n : EM) (s : S) : mIx m n s = (bnd m fun d => bnd n (pur (ixK d))) s := rfl
@[simp] theorem e_ixK (d : DV) (i : Int) (s : S) : ixK d (.int i) s = (match ixM s.m d i with | some c => some (.ok c s.m) | none => none) := rfl
@[simp] theorem e_ixp (M : List O) (d : D) (i : Int) : ixM M (.p d) i = (ixD d i).map .p := rfl
@[simp] theorem e_ixo (M : List O) (n : Nat) (i : Int) : ixM M (.o n) i = ixO M[n]? i := rfl
@[simp] theorem e_ixl (xs : List D) (i : Int) : ixD (.lst xs) i = atI xs i := rfl
@[simp] theorem e_ixt (xs : List D) (i : Int) : ixD (.tup xs) i = atI xs i := rfl
@[simp] theorem e_ixO (xs : List DV) (i : Int) : ixO (some (.lst xs)) i = atI xs i := rfl
@[simp] theorem e_cb (g : List O → List DV → Option D) (ms : AM) (s : S) : mCB g ms s = (bnd ms fun ds s => ret (g s.m ds) s) s := rfl
@[simp] theorem e_g1 (g : D → Option D) (M : List O) (d : D) : g1 g M [.p d] = g d := rfl
@[simp] theorem e_abs (i : Int) : dAbs (.int i) = some (.int (if i < 0 then -i else i)) := rfl
@[simp] theorem e_int (i : Int) : dInt (.int i) = some (.int i) := rfl
@[simp] theorem e_intb (b : Bool) : dInt (.bl b) = some (.int (if b then 1 else 0)) := rfl
@[simp] theorem e_len (M : List O) (d : DV) : dLen M [d] = Option.map (fun (n : Nat) => D.int (n : Int)) (lenM M d) := rfl
@[simp] theorem e_lenp (M : List O) (d : D) : lenM M (.p d) = lenD d := rfl
@[simp] theorem e_leno (M : List O) (n : Nat) : lenM M (.o n) = lenO M[n]? := rfl
@[simp] theorem e_lenl (xs : List D) : lenD (.lst xs) = some xs.length := rfl
@[simp] theorem e_lent (xs : List D) : lenD (.tup xs) = some xs.length := rfl
@[simp] theorem e_lens (y : Str) : lenD (.str y) = if y.length ≤ 1000000 then some y.length else none := rfl
@[simp] theorem e_lenO (xs : List DV) : lenO (some (.lst xs)) = some xs.length := rfl
@[simp] theorem e_callA (n : Nat) (f : MA) (ms : AM) (s : S) : mCallA n f ms s = (bnd ms fun ds s => if ds.length = n then match allP ds with
  | some xs => match f xs with
    | some (.ok d) => some (.ok (.p d) s.m)
    | some (.ex c fs) => some (.ex c fs s.m)
    | none => none
  | none => none else none) s := rfl
@[simp] theorem e_callB (n : Nat) (f : List DV → List O → Option (Rs DV)) (ms : AM) (s : S) : mCallB n f ms s = (bnd ms fun ds s => if ds.length = n then f ds s.m else none) s := rfl
theorem e_lift {α : Type} (m : Mi α) (k : α → SM) (s : S) : liftS m k s = (match m s with | some (.ok v M) => k v ⟨s.l, M⟩ | some (.ex c f M) => some (.ex c f, ⟨s.l, M⟩) | none => none) := rfl
@[simp] theorem e_nil (s : S) : sNil s = some (.nx, s) := rfl
theorem e_seq (a b : SM) (s : S) : sSeq a b s = (match a s with | some (.nx, s1) => b s1 | r => r) := rfl
@[simp] theorem e_expr (m : EM) (s : S) : sExpr m s = (liftS m fun _ s => some (.nx, s)) s := rfl
@[simp] theorem e_sret (m : EM) (s : S) : sRet m s = (liftS m fun d s => some (.rt d, s)) s := rfl
@[simp] theorem e_ifSt (n k : SM) (s : S) : ifS n k (.p (.bl true)) s = n s := rfl
@[simp] theorem e_ifSf (n k : SM) (s : S) : ifS n k (.p (.bl false)) s = k s := rfl
@[simp] theorem e_sif (c : EM) (m n : SM) (s : S) : sIf c m n s = (liftS c (ifS m n)) s := rfl
@[simp] theorem e_gN (i : Nat) (d : DV) (s : S) : gN i d s = some ⟨s.l.set i (some d), s.m⟩ := rfl
@[simp] theorem e_asg (m : EM) (g : GM) (s : S) : sAsg m g s = (liftS m fun d s => match g d s with | some s1 => some (.nx, s1) | none => none) s := rfl
@[simp] theorem e_par (i j : Nat) (ms : AM) (s : S) : sPar i j ms s = (liftS ms fun ds s => match ds with | [d, f] => some (.nx, ⟨(s.l.set i (some d)).set j (some f), s.m⟩) | _ => none) s := rfl
@[simp] theorem e_loop0 (g : GM) (b : SM) (s : S) : loopS g b [] s = some (.nx, s) := rfl
@[simp] theorem e_for (it : IM) (g : GM) (b : SM) (s : S) : sFor it g b s = (liftS it fun ds => loopS g b ds) s := rfl
@[simp] theorem e_frz (m : EM) (s : S) : mFrz m s = (bnd m fun d s => match d with
  | .p d => some (.ok (.p d) s.m)
  | .o n => match s.m[n]? with
    | some (.lst ds) => match allP ds with
      | some xs => some (.ok (.p (.lst xs)) (s.m.set n .gone))
      | none => none
    | _ => none) s := rfl
theorem e_runA (n : Nat) (m : SM) (ds : List D) : runA n m ds = (match m ⟨slotsOf n (ds.map .p), []⟩ with
  | some (.nx, _) => some (.ok .non)
  | some (.rt (.p d), _) => some (.ok d)
  | some (.ex c fs, _) => some (.ex c fs)
  | _ => none) := rfl
theorem e_runB (n : Nat) (m : SM) (ds : List DV) (M : List O) : runB n m ds M = (match m ⟨slotsOf n ds, M⟩ with
  | some (.nx, s) => some (.ok (.p .non) (dropM M.length (.p .non) s.m))
  | some (.rt d, s) => some (.ok d (dropM M.length d s.m))
  | some (.ex c fs, s) => some (.ex c fs (dropM M.length (.p .non) s.m))
  | _ => none) := rfl
@[simp] theorem e_slots (n : Nat) (ds : List DV) : slotsOf n ds = ds.map some ++ List.replicate (n - ds.length) none := rfl
@[simp] theorem e_pNone (s : S) : pNone s = some (.ok none s.m) := rfl
@[simp] theorem e_pSome (m : EM) (s : S) : pSome m s = (bnd m (pur fun d s => match d with | .int i => some (.ok (some i) s.m) | _ => none)) s := rfl
@[simp] theorem e_slE (m : EM) (l u : PM) (s : S) : mSlE m l u s = (bnd m (pur fun d => bnd l fun i => bnd u fun j => ret (slE d i j))) s := rfl
@[simp] theorem e_itD (g : D → Option (List DV)) (m : EM) (s : S) : mItD g m s = (bnd m (pur fun d s => match g d with | some ds => some (.ok ds s.m) | none => none)) s := rfl
@[simp] theorem e_itL (xs : List D) : itL (.lst xs) = some (xs.map .p) := rfl
@[simp] theorem e_itT (xs : List D) : itT (.tup xs) = some (xs.map .p) := rfl
@[simp] theorem e_rng (g : List DV → Option (List DV)) (ms : AM) (s : S) : mRng g ms s = (bnd ms fun ds s => match g ds with | some xs => some (.ok xs s.m) | none => none) s := rfl
@[simp] theorem e_rng1 (j : Int) : rng1D [.p (.int j)] = if rngOk j = true then some (intsFrom 0 j.toNat) else none := rfl
@[simp] theorem e_rng2 (i j : Int) : rng2D [.p (.int i), .p (.int j)] = if rngOk i = true then if rngOk j = true then some (intsFrom i (j - i).toNat) else none else none := rfl
@[simp] theorem e_mth (T : String) (g : MtG) (o : EM) (ms : AM) (s : S) : mMth T g o ms s = (bnd o fun d s => if tyOk T s.m d = true then bnd ms (fun ds => g d ds) s else none) s := rfl
@[simp] theorem e_lc (it : IM) (vs : List Nat) (g : GM) (t e : EM) (s : S) : mLc it vs g t e s = (bnd it fun ds s => match compL (wipeL s.l vs) g t e ds [] s.m with | some (acc, M) => some (.ok (.p (.lst acc)) M) | none => none) s := rfl
@[simp] theorem e_lcO (it : IM) (vs : List Nat) (g : GM) (t e : EM) (s : S) : mLcO it vs g t e s = (bnd it fun ds s => match compL (wipeL s.l vs) g t e ds [] s.m with | some (acc, M) => some (.ok (.o M.length) (M ++ [.lst (acc.map .p)])) | none => none) s := rfl
@[simp] theorem e_wipe0 (l : List (Option DV)) : wipeL l [] = l := rfl
@[simp] theorem e_wipe1 (l : List (Option DV)) (v : Nat) (vs : List Nat) : wipeL l (v :: vs) = (wipeL l vs).set v none := rfl
@[simp] theorem e_yes (s : S) : tYesM s = some (.ok (.p (.bl true)) s.m) := rfl
@[simp] theorem e_eqD (d e : D) : dEq d e = (eqD d e).map .bl := rfl
@[simp] theorem e_neD (d e : D) : dNe d e = (eqD d e).map fun b => .bl !b := rfl
@[simp] theorem e_eqII (i j : Int) : eqD (.int i) (.int j) = some (decide (i = j)) := by show some (i == j) = _; rw [Bool.beq_eq_decide_eq]
@[simp] theorem e_eqSS (i j : Str) : eqD (.str i) (.str j) = some (decide (i = j)) := by
  show some (i == j) = _
  by_cases h : i = j <;> simp [h]
@[simp] theorem e_eqBB (i j : Bool) : eqD (.bl i) (.bl j) = some (decide (i = j)) := by show some (i == j) = _; rw [Bool.beq_eq_decide_eq]
@[simp] theorem e_eqNI (j : Int) : eqD .non (.int j) = some false := rfl
@[simp] theorem e_eqIN (j : Int) : eqD (.int j) .non = some false := rfl
@[simp] theorem e_eqNN : eqD .non .non = some true := rfl
@[simp] theorem mul2L (i : Int) : mulOk 2 i = true := by unfold mulOk; simp
end DL
namespace DL
open PySem L2
/-! the drawn numbers -/
def stateB : SM := (sSeq (sAsg (mLcO (mItD itL (mSlE (mVar 0) pNone (pSome (mC (.int 63))))) [2] (gN 2) tYesM (mCB (g1 dAbs) (aCons (mVar 2) aNil))) (gN 1))
  (sSeq (sIf (mBin dEq (mCB dLen (aCons (mVar 1) aNil)) (mC (.int 0))) (sAsg (dispO (aCons (mC (.int 0)) aNil)) (gN 1)) sNil)
  (sRet (dispO (aCons (mC (.int 0)) (aCons (mVar 1) aNil))))))
def stateM : List DV → List O → Option (Rs DV) := runB 3 stateB
def takeB : SM := (sSeq (sIf (mBin dLt (mVar 1) (mC (.int 1))) (sRet (mC (.int 0))) sNil)
  (sSeq (sAsg (mIx (mVar 0) (mC (.int 1))) (gN 2))
  (sSeq (sAsg (mBin dMod (mIx (mVar 0) (mC (.int 0))) (mCB dLen (aCons (mVar 2) aNil))) (gN 3))
  (sSeq (sAsg (mIx (mVar 2) (mVar 3)) (gN 4))
  (sSeq (sIf (mBin dGe (mVar 4) (mC (.int 1000000000000000000))) (sSeq (sAsg (mBin dDiv (mVar 4) (mVar 1)) (gSet (mVar 2) (mVar 3)))
  (sRet (mBin dMod (mVar 4) (mVar 1)))) sNil)
  (sSeq (sAsg (mBin dAdd (mIx (mVar 0) (mC (.int 0))) (mC (.int 1))) (gSet (mVar 0) (mC (.int 0))))
  (sSeq (sAsg (mBin dMod (mCB (g1 dInt) (aCons (mBin dAdd (mBin dMul (mVar 4) (mC (.int 48271))) (mBin dMul (mIx (mVar 0) (mC (.int 0))) (mC (.int 69621)))) aNil)) (mC (.int 2147483647))) (gN 5))
  (sSeq (sAsg (mBin dMod (mCB (g1 dInt) (aCons (mBin dAdd (mBin dMul (mVar 5) (mC (.int 16807))) (mBin dMul (mIx (mVar 0) (mC (.int 0))) (mC (.int 7919)))) aNil)) (mC (.int 1000000007))) (gN 5))
  (sRet (mBin dMod (mBin dDiv (mVar 5) (mC (.int 7))) (mVar 1)))))))))))
def takeM : List DV → List O → Option (Rs DV) := runB 6 takeB
structure Dr (n : Nat) (sv : DV) (M : List O) : Prop where
  len : M.length = n
  cl : M.all (closed n) = true
  ex : ∃ (k c : Nat) (i : Int) (cells : List Int), sv = .o k ∧ M[k]? = some (.lst [.p (.int i), .o c]) ∧ M[c]? = some (.lst (cells.map fun z => .p (.int z))) ∧ k ≠ c ∧ 0 ≤ i ∧ cells ≠ [] ∧ ∀ z ∈ cells, 0 ≤ z
theorem dropM_len {k : Nat} {d : DV} {M : List O} (h : M.length = k) : dropM k d M = M := by
  unfold dropM
  rw [List.take_of_length_le (by omega)]
  split <;> rfl
theorem dropM_app {k : Nat} {d : DL.D} {M g : List O} (h : M.length = k) (c : M.all (closed k) = true) : dropM k (.p d) (M ++ g) = M := by
  unfold dropM
  have e : (M ++ g).take k = M := by rw [← h, List.take_left]
  rw [e, c]
  rfl
theorem atI_nat' {α : Type} {xs : List α} {j : Int} {x : α} (h0 : 0 ≤ j) (h : xs[j.toNat]? = some x) : atI xs j = some x := by
  have hl := (List.getElem?_eq_some_iff.mp h).1
  unfold atI ixN
  rw [if_pos h0, if_pos (by omega)]
  exact h
theorem ixN_nat {n : Nat} {j : Int} (h0 : 0 ≤ j) (h : j < n) : ixN n j = some j.toNat := by
  unfold ixN
  rw [if_pos h0, if_pos h]
theorem atI0 {α : Type} (x : α) (xs : List α) : atI (x :: xs) 0 = some x := atI_nat' (by decide) rfl
theorem atI1 {α : Type} (x y : α) (xs : List α) : atI (x :: y :: xs) 1 = some y := atI_nat' (by decide) rfl
theorem all_set {p : O → Bool} {M : List O} {o : O} (h : M.all p = true) (ho : p o = true) (n : Nat) : (M.set n o).all p = true := by
  rw [List.all_eq_true] at h ⊢
  intro x hx
  rcases List.mem_or_eq_of_mem_set hx with h1 | h1
  · exact h x h1
  · rw [h1]; exact ho
theorem closed_ints (n : Nat) (cells : List Int) : closed n (.lst (cells.map fun z => .p (.int z))) = true := by
  show (cells.map fun z => DV.p (.int z)).all (ltO n) = true
  rw [List.all_map]
  exact List.all_eq_true.mpr fun _ _ => rfl
theorem get_map {cells : List Int} {j : Nat} (h : j < cells.length) : (cells.map fun z => DV.p (.int z))[j]? = some (.p (.int cells[j])) := by
  rw [List.getElem?_map, List.getElem?_eq_getElem h]; rfl
theorem e_set (o i : EM) (d : DV) (s : S) : gSet o i d s = (match bnd o (fun x => bnd i (pur (gSetK d x))) s with | some (.ok _ M) => some ⟨s.l, M⟩ | _ => none) := rfl
theorem e_setK (d : DV) (n : Nat) (j : Int) (s : S) : gSetK d (.o n) (.int j) s = (match setL s.m n j d with | some M => some (.ok (.p .non) M) | none => none) := rfl
theorem setL_ok {M : List O} {n : Nat} {ds : List DV} {j : Int} {d : DV} (h : M[n]? = some (.lst ds)) (h0 : 0 ≤ j) (h1 : j < ds.length) : setL M n j d = some (M.set n (.lst (ds.set j.toNat d))) := by
  unfold setL
  rw [h]
  show (match ixN ds.length j with | some j => some (M.set n (.lst (ds.set j d))) | none => none) = _
  rw [ixN_nat h0 h1]
theorem mulOkR (i j : Int) (h : -18446744073709551616 < j) (h' : j < 18446744073709551616) : mulOk i j = true := by
  unfold mulOk
  have e : (2 : Int) ^ 64 = 18446744073709551616 := by decide
  simp only [e, Bool.or_eq_true, decide_eq_true_eq]
  exact .inr ⟨h, h'⟩
theorem take_spec {n : Nat} {sv : DV} {M : List O} (h : Dr n sv M) (most : Int) (hm : most < 18446744073709551616) : ∃ r M', takeM [sv, .p (.int most)] M = some (.ok (.p (.int r)) M') ∧ Dr n sv M' ∧ (most < 1 → r = 0) ∧ (1 ≤ most → 0 ≤ r ∧ r < most) := by
  obtain ⟨k, c, i, cells, rfl, hk, hc, kc, hi, ne, nn⟩ := h.ex
  by_cases h1 : most < 1
  · refine ⟨0, M, ?_, h, fun _ => rfl, fun h2 => by omega⟩
    simp [e_bnd, e_seq, e_lift, e_runA, e_runB, takeM, takeB, h1, dropM_len h.len, h.len]
  · have hl : 0 < cells.length := List.length_pos_iff.mpr ne
    have hl' : (0 : Int) < (cells.length : Int) := by omega
    have a0 : 0 ≤ i % (cells.length : Int) := Int.emod_nonneg _ (by omega)
    have a1 : i % (cells.length : Int) < (cells.length : Int) := Int.emod_lt_of_pos _ hl'
    have aN : (i % (cells.length : Int)).toNat < cells.length := by omega
    have hg := atI_nat' (xs := cells.map fun z => DV.p (.int z)) a0 (get_map aN)
    have cn : 0 ≤ cells[(i % (cells.length : Int)).toNat] := nn _ (List.getElem_mem aN)
    generalize hz : cells[(i % (cells.length : Int)).toNat] = z at hg cn
    have m0 : 0 < most := by omega
    by_cases h2 : 1000000000000000000 ≤ z
    · refine ⟨z % most, M.set c (.lst ((cells.set (i % (cells.length : Int)).toNat (z / most)).map fun z => .p (.int z))), ?_, ⟨by rw [List.length_set]; exact h.len, all_set h.cl (closed_ints n _) c, k, c, i, _, rfl, by rw [List.getElem?_set_ne kc.symm]; exact hk, by rw [List.getElem?_set_self (List.getElem?_eq_some_iff.mp hc).1], kc, hi, ?_, ?_⟩, fun h3 => absurd h3 h1, fun _ => ⟨Int.emod_nonneg _ (by omega), Int.emod_lt_of_pos _ m0⟩⟩
      · have hs := setL_ok (M := M) (n := c) (d := .p (.int (z / most))) hc a0 (by rw [List.length_map]; exact a1)
        simp [e_bnd, e_seq, e_lift, e_runA, e_runB, takeM, takeB, h1, hk, hc, atI0, atI1, hl, hl', hg, h2, e_set, e_setK, m0, hm, hs, h.len, dropM_len]
      · simpa using ne
      · intro y hy
        rcases List.mem_or_eq_of_mem_set hy with q | q
        · exact nn y q
        · rw [q]; exact Int.ediv_nonneg cn (by omega)
    · have hs := setL_ok (M := M) (n := k) (d := .p (.int (i + 1))) (j := 0) hk (by decide) (by simp)
      have hk' : (M.set k (.lst [DV.p (.int (i + 1)), .o c]))[k]? = some (.lst [.p (.int (i + 1)), .o c]) := by
        rw [List.getElem?_set_self (List.getElem?_eq_some_iff.mp hk).1]
      refine ⟨((((z * 48271 + (i + 1) * 69621) % 2147483647) * 16807 + (i + 1) * 7919) % 1000000007) / 7 % most, M.set k (.lst [.p (.int (i + 1)), .o c]), ?_, ⟨by rw [List.length_set]; exact h.len, all_set h.cl ?_ k, k, c, i + 1, cells, rfl, hk', by rw [List.getElem?_set_ne kc]; exact hc, kc, by omega, ne, nn⟩, fun h3 => absurd h3 h1, fun _ => ⟨Int.emod_nonneg _ (by omega), Int.emod_lt_of_pos _ m0⟩⟩
      · simp [e_bnd, e_seq, e_lift, e_runA, e_runB, takeM, takeB, h1, hk, hc, atI0, atI1, hl, hl', hg, h2, e_set, e_setK, m0, hm, hs, hk', h.len, dropM_len, mulOkR]
      · have := List.all_eq_true.mp h.cl _ (List.mem_of_getElem? hk)
        exact this
end DL
namespace DL
open PySem L2
theorem compL_fm {l : List (Option DV)} {g : GM} {t e : EM} {p : DV → Bool} {f : DV → D} {M : List O} : ∀ (ds : List DV) (acc : List D),
    (∀ d ∈ ds, ∃ s1 : S, g d ⟨l, M⟩ = some s1 ∧ t s1 = some (.ok (.p (.bl (p d))) M) ∧ (p d = true → e ⟨s1.l, M⟩ = some (.ok (.p (f d)) M))) → acc.length + ds.length ≤ 1000000 →
    compL l g t e ds acc M = some (acc ++ (ds.filter p).map f, M)
  | [], acc, _, _ => by simp [compL]
  | d :: ds, acc, h, hl => by
    obtain ⟨s1, h1, h2, h3⟩ := h d (by simp)
    have hl' : acc.length + (ds.length + 1) ≤ 1000000 := hl
    unfold compL
    rw [h1]
    dsimp only
    rw [h2]
    cases hp : p d with
    | true =>
      dsimp only
      rw [h3 hp]
      dsimp only
      rw [if_pos (by omega), compL_fm ds (acc ++ [f d]) (fun x hx => h x (by simp [hx])) (by simp; omega)]
      simp [hp]
    | false =>
      dsimp only
      rw [compL_fm ds acc (fun x hx => h x (by simp [hx])) (by omega)]
      simp [hp]
theorem compL_map {l : List (Option DV)} {g : GM} {t e : EM} {f : DV → D} {M : List O} (ds : List DV)
    (h : ∀ d ∈ ds, ∃ s1 : S, g d ⟨l, M⟩ = some s1 ∧ t s1 = some (.ok (.p (.bl true)) M) ∧ e ⟨s1.l, M⟩ = some (.ok (.p (f d)) M)) (hl : ds.length ≤ 1000000) : compL l g t e ds [] M = some (ds.map f, M) := by
  have q := compL_fm (p := fun _ => true) (f := f) ds [] (l := l) (g := g) (t := t) (e := e) (M := M) (fun d hd => by
    obtain ⟨s1, h1, h2, h3⟩ := h d hd
    exact ⟨s1, h1, h2, fun _ => h3⟩) (by simpa using hl)
  rw [q, List.filter_eq_self.mpr (fun _ _ => rfl)]
  rfl
theorem cut63 {α : Type} (xs : List α) (h : xs.length ≤ 63) : cutD xs none (some 63) = xs := by
  unfold cutD
  rw [HT.sIx_none, show (63 : Int) = ((63 : Nat) : Int) from rfl, HT.sIx_nat, List.drop_zero]
  exact List.take_of_length_le (by omega)
def iabs (i : Int) : Int := if i < 0 then -i else i
theorem ints0 (lo : Int) : DL.intsFrom lo 0 = [] := rfl
theorem intsS (lo : Int) (n : Nat) : DL.intsFrom lo (n + 1) = .p (.int lo) :: DL.intsFrom (lo + 1) n := by
  unfold DL.intsFrom
  rw [List.range_succ_eq_map, List.map_cons, List.map_map]
  have e : lo + ((0 : Nat) : Int) = lo := by omega
  rw [e]
  congr 1
  refine List.map_congr_left fun i _ => ?_
  show DV.p (.int (lo + ((i + 1 : Nat) : Int))) = DV.p (.int (lo + 1 + (i : Int)))
  congr 2; omega
theorem loopS_cons {g : GM} {b : SM} {d : DV} {ds : List DV} {s : S} : loopS g b (d :: ds) s = (match g d s with
    | none => none
    | some s1 => match b s1 with
      | none => none
      | some (.nx, s2) => loopS g b ds s2
      | some (.ct, s2) => loopS g b ds s2
      | some (.bk, s2) => some (.nx, s2)
      | some (.rt v, s2) => some (.rt v, s2)
      | some (.ex c f, s2) => some (.ex c f, s2)) := rfl
end DL
namespace DL
open PySem L2
/-! going through a mirror step by step -/
def wpB {α : Type} (o : Option (Rs α)) (P : α → List O → Prop) : Prop := ∃ v M, o = some (.ok v M) ∧ P v M
def noX : Fl → Bool
  | .ex _ _ => false
  | _ => true
def wpS (o : Option (Fl × S)) (P : Fl → S → Prop) : Prop := ∃ f s, o = some (f, s) ∧ noX f = true ∧ P f s
def wpA (o : Option RD) (P : D → Prop) : Prop := ∃ d, o = some (.ok d) ∧ P d
@[simp] theorem w_ok {α : Type} (v : α) (M : List O) (P : α → List O → Prop) : wpB (some (.ok v M)) P ↔ P v M := ⟨fun ⟨_, _, e, h⟩ => by cases e; exact h, fun h => ⟨_, _, rfl, h⟩⟩
@[simp] theorem w_no {α : Type} (P : α → List O → Prop) : wpB none P ↔ False := ⟨fun ⟨_, _, e, h⟩ => (by cases e), fun h => False.elim h⟩
@[simp] theorem w_bnd {α γ : Type} (m : Mi α) (k : α → Mi γ) (s : S) (P : γ → List O → Prop) : wpB (bnd m k s) P ↔ wpB (m s) fun v M => wpB (k v ⟨s.l, M⟩) P := by
  constructor
  · rintro ⟨v, M, e, h⟩
    unfold bnd at e
    cases q : m s with
    | none => rw [q] at e; cases e
    | some r =>
      rw [q] at e
      cases r with
      | ok a M1 => exact ⟨a, M1, rfl, v, M, e, h⟩
      | ex c f M1 => cases e
  · rintro ⟨a, M1, e, v, M, e2, h⟩
    exact ⟨v, M, by unfold bnd; rw [e]; exact e2, h⟩
@[simp] theorem w_sok (f : Fl) (s : S) (P : Fl → S → Prop) : wpS (some (f, s)) P ↔ noX f = true ∧ P f s := ⟨fun ⟨_, _, e, h⟩ => by cases e; exact h, fun h => ⟨_, _, rfl, h⟩⟩
@[simp] theorem w_sno (P : Fl → S → Prop) : wpS none P ↔ False := ⟨fun ⟨_, _, e, h⟩ => (by cases e), fun h => False.elim h⟩
@[simp] theorem noX1 : noX .nx = true := rfl
@[simp] theorem noX2 (v : DV) : noX (.rt v) = true := rfl
@[simp] theorem noX3 : noX .bk = true := rfl
@[simp] theorem noX4 : noX .ct = true := rfl
/-- what follows a statement -/
def andS (b : SM) (P : Fl → S → Prop) : Fl → S → Prop
  | .nx, s => wpS (b s) P
  | f, s => P f s
@[simp] theorem w_andN (b : SM) (P : Fl → S → Prop) (s : S) : andS b P .nx s = wpS (b s) P := rfl
@[simp] theorem w_andR (b : SM) (P : Fl → S → Prop) (v : DV) (s : S) : andS b P (.rt v) s = P (.rt v) s := rfl
@[simp] theorem w_seq (a b : SM) (s : S) (P : Fl → S → Prop) : wpS (sSeq a b s) P ↔ wpS (a s) (andS b P) := by
  constructor
  · rintro ⟨f, s', e, n, h⟩
    unfold sSeq at e
    cases q : a s with
    | none => rw [q] at e; cases e
    | some r =>
      rw [q] at e
      obtain ⟨f1, s1⟩ := r
      refine ⟨f1, s1, rfl, ?_⟩
      cases f1 with
      | nx => exact ⟨rfl, f, s', e, n, h⟩
      | _ => cases e; exact ⟨n, h⟩
  · rintro ⟨f1, s1, e, n, h⟩
    cases f1 with
    | nx =>
      obtain ⟨f, s', e2, n, h⟩ := h
      exact ⟨f, s', by unfold sSeq; rw [e]; exact e2, n, h⟩
    | _ => exact ⟨_, s1, by unfold sSeq; rw [e], n, h⟩
@[simp] theorem w_lift {α : Type} (m : Mi α) (k : α → SM) (s : S) (P : Fl → S → Prop) : wpS (liftS m k s) P ↔ wpB (m s) fun v M => wpS (k v ⟨s.l, M⟩) P := by
  constructor
  · rintro ⟨f, s', e, n, h⟩
    unfold liftS at e
    cases q : m s with
    | none => rw [q] at e; cases e
    | some r =>
      rw [q] at e
      cases r with
      | ok a M1 => exact ⟨a, M1, rfl, f, s', e, n, h⟩
      | ex c f M1 => cases e; cases n
  · rintro ⟨a, M1, e, f, s', e2, n, h⟩
    exact ⟨f, s', by unfold liftS; rw [e]; exact e2, n, h⟩
def endB (k : Nat) (P : DV → List O → Prop) : Fl → S → Prop
  | .nx, s => P (.p .non) (dropM k (.p .non) s.m)
  | .rt d, s => P d (dropM k d s.m)
  | _, _ => False
@[simp] theorem w_endBn (k : Nat) (P : DV → List O → Prop) (s : S) : endB k P .nx s = P (.p .non) (dropM k (.p .non) s.m) := rfl
@[simp] theorem w_endBr (k : Nat) (P : DV → List O → Prop) (d : DV) (s : S) : endB k P (.rt d) s = P d (dropM k d s.m) := rfl
@[simp] theorem w_runB (n : Nat) (m : SM) (ds : List DV) (M : List O) (P : DV → List O → Prop) : wpB (runB n m ds M) P ↔ wpS (m ⟨slotsOf n ds, M⟩) (endB M.length P) := by
  constructor
  · rintro ⟨v, M1, e, h⟩
    rw [e_runB] at e
    cases q : m ⟨slotsOf n ds, M⟩ with
    | none => rw [q] at e; cases e
    | some r =>
      rw [q] at e
      obtain ⟨f1, s1⟩ := r
      cases f1 with
      | nx => cases e; exact ⟨_, _, rfl, rfl, h⟩
      | rt d => cases e; exact ⟨_, _, rfl, rfl, h⟩
      | _ => cases e
  · rintro ⟨f1, s1, e, n, h⟩
    cases f1 with
    | nx => exact ⟨_, _, by rw [e_runB, e], h⟩
    | rt d => exact ⟨_, _, by rw [e_runB, e], h⟩
    | _ => exact False.elim h
def endA (P : D → Prop) : Fl → S → Prop
  | .nx, s => P .non
  | .rt (.p d), s => P d
  | _, _ => False
@[simp] theorem w_endAn (P : D → Prop) (s : S) : endA P .nx s = P .non := rfl
@[simp] theorem w_endAr (P : D → Prop) (d : D) (s : S) : endA P (.rt (.p d)) s = P d := rfl
@[simp] theorem w_runA (n : Nat) (m : SM) (ds : List D) (P : D → Prop) : wpA (runA n m ds) P ↔ wpS (m ⟨slotsOf n (ds.map .p), []⟩) (endA P) := by
  constructor
  · rintro ⟨v, e, h⟩
    rw [e_runA] at e
    cases q : m ⟨slotsOf n (ds.map .p), []⟩ with
    | none => rw [q] at e; cases e
    | some r =>
      rw [q] at e
      obtain ⟨f1, s1⟩ := r
      cases f1 with
      | nx => cases e; exact ⟨_, _, rfl, rfl, h⟩
      | rt d =>
        cases d with
        | p d => cases e; exact ⟨_, _, rfl, rfl, h⟩
        | o n => cases e
      | _ => cases e
  · rintro ⟨f1, s1, e, n, h⟩
    cases f1 with
    | nx => exact ⟨_, by rw [e_runA, e], h⟩
    | rt d =>
      cases d with
      | p d => exact ⟨_, by rw [e_runA, e], h⟩
      | o n => exact False.elim h
    | _ => exact False.elim h
@[simp] theorem w_ifM {γ : Type} (n k : Mi γ) (b : Bool) (s : S) (P : γ → List O → Prop) : wpB (ifM n k (.p (.bl b)) s) P ↔ (b = true → wpB (n s) P) ∧ (b = false → wpB (k s) P) := by
  cases b
  · exact ⟨fun h => ⟨fun q => (by cases q), fun _ => h⟩, fun h => h.2 rfl⟩
  · exact ⟨fun h => ⟨fun _ => h, fun q => (by cases q)⟩, fun h => h.1 rfl⟩
@[simp] theorem w_ifS (n k : SM) (b : Bool) (s : S) (P : Fl → S → Prop) : wpS (ifS n k (.p (.bl b)) s) P ↔ (b = true → wpS (n s) P) ∧ (b = false → wpS (k s) P) := by
  cases b
  · exact ⟨fun h => ⟨fun q => (by cases q), fun _ => h⟩, fun h => h.2 rfl⟩
  · exact ⟨fun h => ⟨fun _ => h, fun q => (by cases q)⟩, fun h => h.1 rfl⟩
@[simp] theorem w_okA (d : D) (P : D → Prop) : wpA (some (.ok d)) P ↔ P d := ⟨fun ⟨_, e, h⟩ => by cases e; exact h, fun h => ⟨_, rfl, h⟩⟩
theorem wpB.imp {α : Type} {o : Option (Rs α)} {P Q : α → List O → Prop} (h : wpB o P) (k : ∀ v M, P v M → Q v M) : wpB o Q := by
  obtain ⟨v, M, e, p⟩ := h
  exact ⟨v, M, e, k v M p⟩
theorem wpA.imp {o : Option RD} {P Q : D → Prop} (h : wpA o P) (k : ∀ v, P v → Q v) : wpA o Q := by
  obtain ⟨v, e, p⟩ := h
  exact ⟨v, e, k v p⟩
theorem wpA.eq {o : Option RD} {d : D} (h : wpA o (· = d)) : o = some (.ok d) := by
  obtain ⟨v, e, p⟩ := h
  rw [e, p]
/-- a drawn number -/
theorem wp_take {n : Nat} {sv : DV} {M : List O} {most : Int} {P : DV → List O → Prop} (h : Dr n sv M) (hm : most < 18446744073709551616) (k : ∀ r M', Dr n sv M' → (most < 1 → r = 0) → (1 ≤ most → 0 ≤ r ∧ r < most) → P (.p (.int r)) M') : wpB (takeM [sv, .p (.int most)] M) P := by
  obtain ⟨r, M', e, d, b0, b⟩ := take_spec h most hm
  exact ⟨_, _, e, k r M' d b0 b⟩
end DL
namespace DL
open PySem L2
/-! texts that are written; comparing tuples -/
theorem char_inj {a b : Char} (h : a.toNat = b.toNat) : a = b := Char.toNat_inj.mp h
theorem map_toNat_inj : ∀ {a b : List Char}, a.map Char.toNat = b.map Char.toNat → a = b
  | [], [], _ => rfl
  | [], _ :: _, h => by cases h
  | _ :: _, [], h => by cases h
  | x :: a, y :: b, h => by
    injection h with h1 h2
    rw [char_inj h1, map_toNat_inj h2]
@[simp] theorem ofString_inj (a b : String) : (Str.ofString a = Str.ofString b) ↔ a = b := by
  constructor
  · intro h
    rw [Str.ofString_eq_toList, Str.ofString_eq_toList] at h
    injection h with h
    have h2 := congrArg Array.toList h
    exact String.toList_inj.mp (map_toNat_inj h2)
  · intro h; rw [h]
@[simp] theorem strOk_of (s : String) : PyData.strOk (Str.ofString s) = true := by
  rw [Str.ofString_eq_toList]
  unfold PyData.strOk
  rw [Array.all_eq_true]
  intro i hi
  simp
  have h := (s.toList[i]'(by simpa using hi)).valid
  rcases h with h | h
  · exact Nat.lt_of_lt_of_le h (by decide)
  · exact h.2
@[simp] theorem e_okN : okD .non = true := rfl
@[simp] theorem e_okI (i : Int) : okD (.int i) = true := rfl
@[simp] theorem e_okB (i : Bool) : okD (.bl i) = true := rfl
@[simp] theorem e_okS (i : Str) : okD (.str i) = PyData.strOk i := rfl
@[simp] theorem e_okL (i : List D) : okD (.lst i) = okDs i := rfl
@[simp] theorem e_okT (i : List D) : okD (.tup i) = okDs i := rfl
@[simp] theorem e_ok0 : okDs [] = true := rfl
@[simp] theorem e_ok1 (x : D) (r : List D) : okDs (x :: r) = (okD x && okDs r) := rfl
@[simp] theorem e_dpN : depD .non = 0 := rfl
@[simp] theorem e_dpI (i : Int) : depD (.int i) = 0 := rfl
@[simp] theorem e_dpB (i : Bool) : depD (.bl i) = 0 := rfl
@[simp] theorem e_dpS (i : Str) : depD (.str i) = 0 := rfl
@[simp] theorem e_dpL (i : List D) : depD (.lst i) = depDs i + 1 := rfl
@[simp] theorem e_dpT (i : List D) : depD (.tup i) = depDs i + 1 := rfl
@[simp] theorem e_dp0 : depDs [] = 0 := rfl
@[simp] theorem e_dp1 (x : D) (r : List D) : depDs (x :: r) = max (depD x) (depDs r) := rfl
@[simp] theorem e_shp (d : D) : shp d = (okD d && decide (depD d ≤ 64)) := rfl
@[simp] theorem e_eqTT (xs ys : List D) : eqD (.tup xs) (.tup ys) = if (shp (.tup xs) && shp (.tup ys)) = true then some (deqs xs ys) else none := rfl
@[simp] theorem e_eqLL (xs ys : List D) : eqD (.lst xs) (.lst ys) = if (shp (.lst xs) && shp (.lst ys)) = true then some (deqs xs ys) else none := rfl
@[simp] theorem e_eqTN (xs : List D) : eqD (.tup xs) .non = if (shp (.tup xs) && shp .non) = true then some false else none := rfl
@[simp] theorem e_eqNT (xs : List D) : eqD .non (.tup xs) = if (shp .non && shp (.tup xs)) = true then some false else none := rfl
@[simp] theorem e_deqII (i j : Int) : deq (.int i) (.int j) = decide (i = j) := by show (i == j) = _; rw [Bool.beq_eq_decide_eq]
@[simp] theorem e_deqSS (i j : Str) : deq (.str i) (.str j) = decide (i = j) := by
  show (i == j) = _
  by_cases h : i = j <;> simp [h]
@[simp] theorem e_deqBB (i j : Bool) : deq (.bl i) (.bl j) = decide (i = j) := by show (i == j) = _; rw [Bool.beq_eq_decide_eq]
@[simp] theorem e_deqNN : deq .non .non = true := rfl
@[simp] theorem e_deqTT (i j : List D) : deq (.tup i) (.tup j) = deqs i j := rfl
@[simp] theorem e_deqLL (i j : List D) : deq (.lst i) (.lst j) = deqs i j := rfl
@[simp] theorem e_deqIS (i : Int) (j : Str) : deq (.int i) (.str j) = false := rfl
@[simp] theorem e_deqSI (i : Int) (j : Str) : deq (.str j) (.int i) = false := rfl
@[simp] theorem e_deqNI (i : Int) : deq .non (.int i) = false := rfl
@[simp] theorem e_deqIN (i : Int) : deq (.int i) .non = false := rfl
@[simp] theorem e_deqNS (i : Str) : deq .non (.str i) = false := rfl
@[simp] theorem e_deqSN (i : Str) : deq (.str i) .non = false := rfl
@[simp] theorem e_deqNT (i : List D) : deq .non (.tup i) = false := rfl
@[simp] theorem e_deqTN (i : List D) : deq (.tup i) .non = false := rfl
@[simp] theorem e_deqs0 : deqs [] [] = true := rfl
@[simp] theorem e_deqs1 (x y : D) (xs ys : List D) : deqs (x :: xs) (y :: ys) = (deq x y && deqs xs ys) := rfl
@[simp] theorem e_deqs2 (x : D) (xs : List D) : deqs (x :: xs) [] = false := rfl
@[simp] theorem e_deqs3 (x : D) (xs : List D) : deqs [] (x :: xs) = false := rfl
@[simp] theorem e_isi (M : List O) (d : D) (n : String) : dIsi M [.p d, .p (.ty n)] = (match tyName d with | some t => (kitB t n).map .bl | none => none) := rfl
@[simp] theorem e_tyT (xs : List D) : tyName (.tup xs) = some "tuple" := rfl
@[simp] theorem kit_tt : kitB "tuple" "tuple" = some true := by decide +kernel
@[simp] theorem at0 {α : Type} (x : α) (xs : List α) : atI (x :: xs) 0 = some x := atI0 x xs
@[simp] theorem at1 {α : Type} (x y : α) (xs : List α) : atI (x :: y :: xs) 1 = some y := atI1 x y xs
end DL
namespace DL
open PySem L2
section
variable {K : PySem.W.Frag} {X : Cx} {W : WX} {e a b c : Expr} {es : List Expr} {pos : Pos}
/-! ### built-in calls on texts -/
def dStr : D → Option D
  | .int i => if i.natAbs.log2 < 1920 then some (.str (Str.ofString (toString i))) else none
  | .str x => some (.str x)
  | _ => none
def dIntS : D → Option D
  | .str x => if x.length ≤ 640 then (PySem.intText? x).map .int else none
  | _ => none
def allBl : List D → Option (List Bool)
  | [] => some []
  | .bl b :: r => (allBl r).map (b :: ·)
  | _ :: _ => none
theorem allBl_rep {Z : Hp} : ∀ {vs : List V} {ds : List D} {bs : List Bool}, RepA K Z vs ds → allBl ds = some bs → vs = bs.map V.bl
  | _, _, _, .nil, e => by cases e; rfl
  | _, _, _, .cons (d := d) (ds := ds) h r, e => by
    cases h with
    | bl b =>
      have e : (allBl ds).map (b :: ·) = some _ := e
      cases q : allBl ds with
      | none => rw [q] at e; cases e
      | some bs => rw [q] at e; cases e; rw [allBl_rep r q]; rfl
    | _ => cases e
def dAll : D → Option D
  | .lst ds => (allBl ds).map fun bs => .bl (bs.all id)
  | _ => none
def dAny : D → Option D
  | .lst ds => (allBl ds).map fun bs => .bl (bs.any id)
  | _ => none
theorem cd_any (hc : X.calm = true) : CallD K X (.builtin "any") (rAny K) (g1 dAny) := ⟨fun k => by rw [← k]; exact cr_any hc, g1_ok fun x d c Z H Q s hx hg p => by
  unfold dAny at hg
  split at hg
  · rename_i ds
    cases q : allBl ds with
    | none => rw [q] at hg; cases hg
    | some bs =>
      rw [q] at hg; cases hg
      cases hx with
      | lst h1 h2 => exact ⟨_, bs, rfl, by rw [← allBl_rep h2 q]; exact .inl (same_rd s h1), p _ Z H (ExtP.refl s) (.bl _)⟩
  · cases hg⟩
def dMax2 : List O → List DV → Option D
  | _, [.p (.int i), .p (.int j)] => some (.int (if j > i then j else i))
  | _, _ => none
def dMin2 : List O → List DV → Option D
  | _, [.p (.int i), .p (.int j)] => some (.int (if j < i then j else i))
  | _, _ => none
theorem cd_max2 (hc : X.calm = true) : CallD K X (.builtin "max") (fun xs H Q => ∃ i j, xs = [.int i, .int j] ∧ Q (.int (if j > i then j else i)) H) dMax2 := ⟨fun _ => call_max2 hc, fun vs ds c Z H I M Q w rv hg p => by
  unfold dMax2 at hg
  split at hg
  · cases rv with
    | cons h1 h2 =>
    cases h2 with
    | cons h2 h3 =>
    cases h3; cases h1; cases h2; cases hg
    exact ⟨_, _, rfl, p _ Z H (ExtP.refl w.sub) (.int _)⟩
  · cases hg⟩
theorem cd_min2 (hc : X.calm = true) : CallD K X (.builtin "min") (fun xs H Q => ∃ i j, xs = [.int i, .int j] ∧ Q (.int (if j < i then j else i)) H) dMin2 := ⟨fun _ => call_min2 hc, fun vs ds c Z H I M Q w rv hg p => by
  unfold dMin2 at hg
  split at hg
  · cases rv with
    | cons h1 h2 =>
    cases h2 with
    | cons h2 h3 =>
    cases h3; cases h1; cases h2; cases hg
    exact ⟨_, _, rfl, p _ Z H (ExtP.refl w.sub) (.int _)⟩
  · cases hg⟩
/-! ### in, not in -/
theorem units65 {k : Nat} {A : Around} (r : Room k A) : A.units + 65 < cLine := by have := r.un; omega
def inS (i j : Str) : Bool := !(Builtin.Str.occurrences j i 0 j.length 1).isEmpty
def inD : D → D → Option Bool
  | .str i, .str j => some (inS i j)
  | d, .lst ds => if (shp d && shp (.lst ds)) = true then some (ds.any fun z => deq z d) else none
  | d, .klst ds => if (shp d && shp (.klst ds)) = true then some (ds.any fun z => deq z d) else none
  | d, .tup ds => if (shp d && shp (.tup ds)) = true then some (ds.any fun z => deq z d) else none
  | d, .ktup ds => if (shp d && shp (.ktup ds)) = true then some (ds.any fun z => deq z d) else none
  | _, _ => none
def dIn (d e : D) : Option D := (inD d e).map .bl
def dNin (d e : D) : Option D := (inD d e).map fun b => .bl !b
theorem bool_dNin : boolD dNin := fun d e c h => boolMap h
theorem any_eqv (d : D) : ∀ ds : List D, ((toPs ds).any fun z => PyData.eqv z (toP d)) = ds.any fun z => deq z d
  | [] => rfl
  | x :: xs => by
    show (PyData.eqv (toP x) (toP d) || _) = (deq x d || _)
    rw [deq_eqv x d]
    exact congrArg _ (any_eqv d xs)
theorem in_cases {d e : D} {b : Bool} (h : inD d e = some b) : (∃ i j, d = .str i ∧ e = .str j ∧ b = inS i j) ∨ ∃ ds, (e = .lst ds ∨ e = .klst ds ∨ e = .tup ds ∨ e = .ktup ds) ∧ shp d = true ∧ shp e = true ∧ b = ds.any fun z => deq z d := by
  unfold inD at h
  split at h
  · cases h; exact .inl ⟨_, _, rfl, rfl, rfl⟩
  · split at h
    · rename_i hs
      cases h
      rw [Bool.and_eq_true] at hs
      exact .inr ⟨_, .inl rfl, hs.1, hs.2, rfl⟩
    · cases h
  · split at h
    · rename_i hs
      cases h
      rw [Bool.and_eq_true] at hs
      exact .inr ⟨_, .inr (.inl rfl), hs.1, hs.2, rfl⟩
    · cases h
  · split at h
    · rename_i hs
      cases h
      rw [Bool.and_eq_true] at hs
      exact .inr ⟨_, .inr (.inr (.inl rfl)), hs.1, hs.2, rfl⟩
    · cases h
  · split at h
    · rename_i hs
      cases h
      rw [Bool.and_eq_true] at hs
      exact .inr ⟨_, .inr (.inr (.inr rfl)), hs.1, hs.2, rfl⟩
    · cases h
  · cases h
/-- x in a list or a tuple of data -/
def rInD2 (K : PySem.W.Frag) (neg : Bool) : R2 := fun x y H Q => ∃ d e ds, Dp K H x d ∧ Dp K H y e ∧ SeqAt.shaped d = true ∧ SeqAt.shaped e = true ∧ (e = .list ds ∨ e = .tuple ds) ∧ Q (.bl (if neg then !(ds.any fun z => PyData.eqv z d) else ds.any fun z => PyData.eqv z d)) H
theorem op_ninD2 (hu : X.A.units + 65 < cLine) : OpR X (compareOp .NotIn) (rInD2 X.K true) := by
  intro pins s σ H x y v u Q I rx ry h
  obtain ⟨d, e, ds, hd, he, sd, se, hl, q⟩ := h
  obtain ⟨as, r1⟩ := Dp.reads I d x v hd rx
  obtain ⟨bs, r2⟩ := Dp.reads I e y u he ry
  rcases hl with rfl | rfl
  · exact SeqAt.notIn_list_reads r2 r1 (SeqAt.canLay_of_shaped se) (SeqAt.canLay_of_shaped sd) (PyProof.Rows.room_in_shaped sd hu) ⟨.bl _, H, I, rfl, q⟩
  · exact SeqAt.notIn_tuple_reads r2 r1 (SeqAt.canLay_of_shaped se) (SeqAt.canLay_of_shaped sd) (PyProof.Rows.room_in_shaped sd hu) ⟨.bl _, H, I, rfl, q⟩
theorem in_dp {K : PySem.W.Frag} {Z H : Hp} {x y : V} {d e : D} {ds : List D} (s : Same Z H) (hx : Rep K Z x d) (hy : Rep K Z y e) (hl : e = .lst ds ∨ e = .klst ds ∨ e = .tup ds ∨ e = .ktup ds) (h1 : shp d = true) (h2 : shp e = true) : ∃ d' e' ds', Dp K H x d' ∧ Dp K H y e' ∧ SeqAt.shaped d' = true ∧ SeqAt.shaped e' = true ∧ (e' = .list ds' ∨ e' = .tuple ds') ∧ (ds'.any fun z => PyData.eqv z d') = ds.any fun z => deq z d := by
  refine ⟨toP d, toP e, toPs ds, hx.dp s (shaped_can h1), hy.dp s (shaped_can h2), shp_ok h1, shp_ok h2, ?_, any_eqv d ds⟩
  rcases hl with rfl | rfl | rfl | rfl
  · exact .inl rfl
  · exact .inl rfl
  · exact .inr rfl
  · exact .inr rfl
theorem od_nin (hu : X.A.units + 65 < cLine) : OpD K X (compareOp .NotIn) (fun x y H Q => (∃ i j, x = .str i ∧ y = .str j ∧ Q (.bl (!(!(Builtin.Str.occurrences j i 0 j.length 1).isEmpty))) H) ∨ rInD2 K true x y H Q) dNin where
  op := fun k pins s σ H x y v u Q I rx ry h => by
    subst k
    rcases h with h | h
    · exact op_notin_str pins s σ H x y v u Q I rx ry h
    · exact op_ninD2 hu pins s σ H x y v u Q I rx ry h
  ok := by
    intro x y d e c Z H Q s hx hy hg p
    unfold dNin at hg
    cases z : inD d e with
    | none => rw [z] at hg; cases hg
    | some b =>
      rw [z] at hg; cases hg
      rcases in_cases z with ⟨i, j, rfl, rfl, rfl⟩ | ⟨ds, hl, h1, h2, rfl⟩
      · cases hx; cases hy
        exact .inl ⟨_, _, rfl, rfl, p _ Z H (ExtP.refl s) (.bl _)⟩
      · obtain ⟨d', e', ds', a1, a2, a3, a4, a5, a6⟩ := in_dp s hx hy hl h1 h2
        exact .inr ⟨d', e', ds', a1, a2, a3, a4, a5, by rw [a6]; exact p _ Z H (ExtP.refl s) (.bl _)⟩
/-! ### a text times an int -/
def repS (x : Str) (n : Int) : Str := if n < 1 then Str.empty else if (n == 1 || x.length == 0) = true then x else ⟨(List.replicate n.toNat x.cps).foldl (· ++ ·) #[]⟩
def dMulS : D → D → Option D
  | .str x, .int n => if x.length = 1 ∧ -1000 ≤ n ∧ n ≤ 1000 then some (.str (repS x n)) else none
  | _, _ => none
/-! ### methods of texts -/
def dZfill : D → List D → Option D
  | .str x, [.int i] => if PadOk i = true then some (.str (Txt.zfill x i)) else none
  | _, _ => none
def dRstrip : D → List D → Option D
  | .str x, [.str y] => if x.length ≤ 1000000 then some (.str (Txt.rstripChars x y)) else none
  | _, _ => none
def dRmpre : D → List D → Option D
  | .str x, [.str y] => if x.length ≤ 1000000 then some (.str (Txt.removeprefix x y)) else none
  | _, _ => none
def dPart : D → List D → Option D
  | .str x, [.str y] => if (y.length == 0) = false ∧ x.length ≤ 1000000 then some (.tup [.str (Txt.partition x y).1, .str (Txt.partition x y).2.1, .str (Txt.partition x y).2.2]) else none
  | _, _ => none
def dSplit : D → List D → Option D
  | .str x, [.str y] => if (y.length == 0) = false ∧ x.length ≤ 1000000 then some (.lst ((Txt.split x y).map .str)) else none
  | _, _ => none
def allS : List D → Option (List Str)
  | [] => some []
  | .str x :: r => (allS r).map (x :: ·)
  | _ :: _ => none
def dJoin : D → List D → Option D
  | .str a, [.lst ds] => match allS ds with
    | some ys => if (ys.map (·.length)).sum + ys.length * a.length ≤ 16777216 then some (.str (Txt.join a ys)) else none
    | none => none
  | _, _ => none
def dLjust : D → List D → Option D
  | .str x, [.int i, .str f] => if PadOk i = true ∧ f.length = 1 then some (.str (Txt.ljustF x i (f.cps.getD 0 0))) else none
  | _, _ => none
/-! ### f-strings -/
def dFmt : D → Option D
  | .int i => if i.natAbs.log2 < 1920 then some (.str (Str.ofString (toString i))) else none
  | .str y => if y.length ≤ 1000000 then some (.str y) else none
  | _ => none
def mFmt (m : EM) : EM := bnd m (pur fun d => ret (dFmt d))
def RepStr (_ : Hp) (_ : List Addr) (x y : Str) : Prop := x = y
abbrev JM := Str → Mi Str
structure DJ (K : PySem.W.Frag) (X : Cx) (W : WX) (es : List Expr) (ts : List TE) (m : JM) : Prop where
  k : X.K = K
  pj : PJ X es ts
  so : ∀ acc, Sound K W RepStr (tJs ts acc) (m acc)
def jNil : JM := fun acc s => some (.ok acc s.m)
def jCons (m : EM) (r : JM) : JM := fun acc => bnd m (pur fun d => match d with
  | .str y => fun s => if acc.length + y.length ≤ 1000000 then r (acc ++ y) s else none
  | _ => fun _ => none)
def mJoined (r : JM) : EM := bnd (r Str.empty) fun y s => some (.ok (.p (.str y)) s.m)
end
end DL
namespace DL
open PySem L2
/-! ### texts as lists of their signs -/
def tx (l : List Nat) : Str := ⟨l.toArray⟩
@[simp] theorem tx_list (l : List Nat) : (tx l).cps.toList = l := List.toList_toArray
@[simp] theorem tx_len (l : List Nat) : (tx l).length = l.length := List.size_toArray
theorem tx_of (x : Str) : x = tx x.cps.toList := by
  cases x with
  | mk a => show Str.mk a = Str.mk a.toList.toArray; rw [Array.toArray_toList]
theorem eq_tx {x : Str} {l : List Nat} (h : x.cps.toList = l) : x = tx l := by rw [← h]; exact tx_of x
@[simp] theorem tx_inj (a b : List Nat) : tx a = tx b ↔ a = b := ⟨fun h => by have := congrArg (fun x : Str => x.cps.toList) h; simpa using this, fun h => by rw [h]⟩
@[simp] theorem tx_app (a b : List Nat) : tx a ++ tx b = tx (a ++ b) := by
  apply eq_tx
  show ((tx a).cps ++ (tx b).cps).toList = _
  rw [Array.toList_append, tx_list, tx_list]
@[simp] theorem tx_empty : Str.empty = tx [] := rfl
@[simp] theorem in_tx (c : Nat) (l : List Nat) : inS (tx [c]) (tx l) = decide (c ∈ l) := by
  have h := StrLaws.found_one (tx l) c
  rw [tx_list] at h
  exact h
@[simp] theorem e_inSS (i j : Str) : inD (.str i) (.str j) = some (inS i j) := rfl
@[simp] theorem e_dIn (d e : D) : dIn d e = (inD d e).map .bl := rfl
@[simp] theorem e_dNin (d e : D) : dNin d e = (inD d e).map fun b => .bl !b := rfl
/-! slices -/
@[simp] theorem e_slS (z : Str) (lo hi : Option Int) : slE (.str z) lo hi = if z.length ≤ 1000000 then some (.str (cutS z lo hi)) else none := rfl
@[simp] theorem e_ixS (l : List Nat) (i : Int) : ixD (.str (tx l)) i = if l.length ≤ 1000000 then (atI l i).map fun c => .str (tx [c]) else none := by
  show (if (tx l).length ≤ 1000000 then (atI (tx l).cps.toList i).map fun c => D.str ⟨#[c]⟩ else none) = _
  rw [tx_len, tx_list]; rfl
/-! the digits of a number -/
def logOk (i : Int) : Bool := decide (i.natAbs.log2 < 1920)
def intS (i : Int) : Str := Str.ofString (toString i)
@[simp] theorem e_str (i : Int) : dStr (.int i) = if logOk i = true then some (.str (intS i)) else none := by
  show (if i.natAbs.log2 < 1920 then some (D.str (intS i)) else none) = _
  unfold logOk
  by_cases h : i.natAbs.log2 < 1920
  · rw [if_pos h, if_pos (decide_eq_true h)]
  · rw [if_neg h, if_neg (by simpa using h)]
@[simp] theorem e_intS (x : Str) : dIntS (.str x) = if x.length ≤ 640 then (PySem.intText? x).map .int else none := rfl
@[simp] theorem e_allL (ds : List D) : dAll (.lst ds) = (allBl ds).map fun bs => .bl (bs.all id) := rfl
@[simp] theorem e_mulS (x : Str) (n : Int) : dMulS (.str x) (.int n) = if x.length = 1 ∧ -1000 ≤ n ∧ n ≤ 1000 then some (.str (repS x n)) else none := rfl
@[simp] theorem e_gP (g : D → List D → Option D) (d : D) (ds : List DV) (s : S) : gP g (.p d) ds s = (match allP ds with | some xs => ret (g d xs) s | none => none) := rfl
@[simp] theorem e_zfill (x : Str) (i : Int) : dZfill (.str x) [.int i] = if PadOk i = true then some (.str (Txt.zfill x i)) else none := rfl
@[simp] theorem e_rstrip (x y : Str) : dRstrip (.str x) [.str y] = if x.length ≤ 1000000 then some (.str (Txt.rstripChars x y)) else none := rfl
@[simp] theorem e_rmpre (x y : Str) : dRmpre (.str x) [.str y] = if x.length ≤ 1000000 then some (.str (Txt.removeprefix x y)) else none := rfl
@[simp] theorem e_part (x y : Str) : dPart (.str x) [.str y] = if (y.length == 0) = false ∧ x.length ≤ 1000000 then some (.tup [.str (Txt.partition x y).1, .str (Txt.partition x y).2.1, .str (Txt.partition x y).2.2]) else none := rfl
@[simp] theorem e_split (x y : Str) : dSplit (.str x) [.str y] = if (y.length == 0) = false ∧ x.length ≤ 1000000 then some (.lst ((Txt.split x y).map .str)) else none := rfl
@[simp] theorem e_join (a : Str) (ds : List D) : dJoin (.str a) [.lst ds] = (match allS ds with | some ys => if (ys.map (·.length)).sum + ys.length * a.length ≤ 16777216 then some (.str (Txt.join a ys)) else none | none => none) := rfl
def sign1 (f : Str) : Nat := f.cps.getD 0 0
@[simp] theorem e_sign1 (c : Nat) : sign1 (tx [c]) = c := rfl
@[simp] theorem e_ljust (x : Str) (i : Int) (f : Str) : dLjust (.str x) [.int i, .str f] = if PadOk i = true ∧ f.length = 1 then some (.str (Txt.ljustF x i (sign1 f))) else none := rfl
@[simp] theorem e_fmt (m : EM) (s : S) : mFmt m s = (bnd m (pur fun d => ret (dFmt d))) s := rfl
@[simp] theorem e_fmtI (i : Int) : dFmt (.int i) = if logOk i = true then some (.str (intS i)) else none := e_str i
@[simp] theorem e_fmtS (y : Str) : dFmt (.str y) = if y.length ≤ 1000000 then some (.str y) else none := rfl
@[simp] theorem e_jNil (acc : Str) (s : S) : jNil acc s = some (.ok acc s.m) := rfl
def jK (r : JM) (acc : Str) (d : D) : Mi Str := match d with
  | .str y => fun s => if acc.length + y.length ≤ 1000000 then r (acc ++ y) s else none
  | _ => fun _ => none
@[simp] theorem e_jCons (m : EM) (r : JM) (acc : Str) (s : S) : jCons m r acc s = (bnd m (pur (jK r acc))) s := rfl
@[simp] theorem e_jK (r : JM) (acc y : Str) (s : S) : jK r acc (.str y) s = if acc.length + y.length ≤ 1000000 then r (acc ++ y) s else none := rfl
@[simp] theorem e_joined (r : JM) (s : S) : mJoined r s = (bnd (r Str.empty) fun y s => some (.ok (.p (.str y)) s.m)) s := rfl
theorem log_ok {n : Nat} (h : n ≤ 1000000000000000000) : n.log2 < 1920 := by
  by_cases q : n = 0
  · subst q; decide
  · exact Nat.lt_of_lt_of_le ((Nat.log2_lt q).mpr (Nat.lt_of_le_of_lt h (by decide : 1000000000000000000 < 2 ^ 64))) (by decide)
theorem logOk_of {i : Int} (h : i.natAbs ≤ 1000000000000000000) : logOk i = true := decide_eq_true (log_ok h)
@[simp] theorem e_itS (l : List Nat) : itS (.str (tx l)) = some (l.map fun c => .p (.str (tx [c]))) := by
  show some ((tx l).cps.toList.map _) = _
  rw [tx_list]; rfl
@[simp] theorem e_tyS (M : List O) (x : Str) : tyOk "str" M (.p (.str x)) = true := rfl
@[simp] theorem e_tyL (M : List O) (x : List D) : tyOk "list" M (.p (.lst x)) = true := rfl
@[simp] theorem e_gs0 (s : S) : gsNil [] s = some s := rfl
@[simp] theorem e_gs1 (m : GM) (n : List DV → S → Option S) (d : DV) (r : List DV) (s : S) : gsCons m n (d :: r) s = (match m d s with | some s1 => n r s1 | none => none) := rfl
@[simp] theorem e_gT (n : Nat) (m : List DV → S → Option S) (xs : List D) (s : S) : gT n m (.p (.tup xs)) s = if xs.length = n then m (xs.map .p) s else none := rfl
end DL
namespace DL
open PySem L2
/-! loops and comprehensions with what stays true -/
theorem wpS.imp {o : Option (Fl × S)} {P Q : Fl → S → Prop} (h : wpS o P) (k : ∀ f s, P f s → Q f s) : wpS o Q := by
  obtain ⟨f, s, e, n, p⟩ := h
  exact ⟨f, s, e, n, k f s p⟩
/-- a comprehension that draws -/
theorem compL_draw {l : List (Option DV)} {g : GM} {e : EM} {Inv : List O → Prop} {R : D → Prop} : ∀ (ds : List DV) (acc : List D) (M : List O), Inv M → (∀ y ∈ acc, R y) → acc.length + ds.length ≤ 1000000 →
    (∀ d ∈ ds, ∀ M, Inv M → ∃ s1, g d ⟨l, M⟩ = some s1 ∧ wpB (e s1) (fun v M2 => ∃ y, v = .p y ∧ R y ∧ Inv M2)) →
    ∃ ys M', compL l g tYesM e ds acc M = some (ys, M') ∧ Inv M' ∧ (∀ y ∈ ys, R y) ∧ ys.length = acc.length + ds.length
  | [], acc, M, h, ha, _, _ => ⟨acc, M, rfl, h, ha, rfl⟩
  | d :: ds, acc, M, h, ha, hl, k => by
    obtain ⟨s1, h1, v, M2, e1, y, rfl, hy, h2⟩ := k d (by simp) M h
    have hl' : acc.length + (ds.length + 1) ≤ 1000000 := hl
    obtain ⟨ys, M', e2, i2, r2, l2⟩ := compL_draw ds (acc ++ [y]) M2 h2 (fun z hz => by
      rw [List.mem_append] at hz
      rcases hz with hz | hz
      · exact ha z hz
      · simp at hz; rw [hz]; exact hy) (by simp; omega) fun x hx => k x (List.mem_cons_of_mem _ hx)
    refine ⟨ys, M', ?_, i2, r2, by rw [l2]; simp; omega⟩
    unfold compL
    rw [h1]
    dsimp only
    have q : tYesM s1 = some (.ok (.p (.bl true)) s1.m) := rfl
    rw [q]
    dsimp only
    have q2 : e ⟨s1.l, s1.m⟩ = some (.ok (.p y) M2) := e1
    rw [q2]
    dsimp only
    rw [if_pos (by omega)]
    exact e2
end DL
namespace DL
open PySem L2
open PyProof.Rows (AllBare IntsAre)
/-! ### the law's own def, run by the caller itself: no repr is under way -/
section
variable {P : Program} {w : World} {K : PySem.W.Frag} {mg : Str → Option Value} {base : Heap} {x qual : Str} {st : Stmt} {f a : Addr} {fd : FuncData} {N : List Str} {k : Nat}
def Told (s₁ : Shared) (r : Result) (s' : Shared) : Prop := r = .ok (.ret (.bool true)) ∧ OldK s₁.heap s'.heap ∧ s'.os = s₁.os ∧ AllBare s'.gens
abbrev TopB (P : Program) (w : World) (K : PySem.W.Frag) (mg : Str → Option Value) (base : Heap) (N : List Str) (qual : Str) (st : Stmt) (f : Addr) (k : Nat) (m : SM) : Prop :=
  ∀ (cdv : Value) (s : Shared) (H : Hp) (E : XK), Room k (callerA.deeper (PyProof.Rows.envOfC qual (defScope st) s.heap.objs.size f cdv)) →
    ∃ t, DSs K (cxOf (L2.CX P w) P w K mg base N qual (defScope st) f cdv callerA [] s H E) (WE0 E) (defBody st) t m
/-- the entry: what is tracked is the script at most -/
theorem entry {H : Hp} {s₁ : Shared} {mb : Str → Option Value} {vs : List Value} (KX : K.In s₁.heap) (hns : s₁.heap.Ns mainGlobals mg) (hb : s₁.heap.Ns builtinsNs mb) (hbb : ∀ x : Str, x ≠ "__name__" → mb x = bootBuiltins x) (hlim : s₁.heap.NoLimit) (hg : s₁.gens = #[])
    (ha : s₁.heap.get? a = some { cls := .type "list", data := .seq vs.toArray }) (hok : HOk P w H s₁.heap) (one : ∀ b, H b ≠ none → b = a) (out : H a ≠ none → K.lookup a = none) :
    Env0 P w K mg (hidT s₁.heap H) callerA [] s₁ H ∧ K.In (hidT s₁.heap H) ∧ (hidT s₁.heap H).Ns mainGlobals mg := by
  have free : ∀ {b : Addr}, b ≠ a → H b = none := fun {b} n => by
    cases q : H b with
    | none => rfl
    | some u => exact absurd (one b (by rw [q]; simp)) n
  have kin : K.In (hidT s₁.heap H) := fun b o e => by
    refine hidT_get (KX b o e) ?_
    by_cases n : b = a
    · subst n
      cases q : H b with
      | none => rfl
      | some u => rw [out (by rw [q]; simp)] at e; cases e
    · exact free n
  have ns : ∀ {b : Addr} {m : Str → Option Value}, s₁.heap.Ns b m → (hidT s₁.heap H).Ns b m := fun {b m} h => by
    obtain ⟨o, es, ep, e, d, r⟩ := h
    refine ⟨o, es, ep, hidT_get e ?_, d, r⟩
    by_cases n : b = a
    · subst n
      rw [ha] at e; cases e
      have d' : Data.seq vs.toArray _ = Data.dict es ep := d
      cases d'
    · exact free n
  refine ⟨⟨rfl, ⟨kin, ns hns, ⟨mb, ns hb, hbb⟩, ?_⟩, fun b o e => of_hidT e, Nat.le_of_eq (hidT_size _ _), trivial, fun b q => absurd (show b ∈ ([] : List Addr) from q) (by simp), hok, .of_eq hg⟩, kin, ns hns⟩
  obtain ⟨mc, h1, h2⟩ := hlim
  exact ⟨mc, ns h1, h2⟩
end
end DL
namespace DL
open PySem L2
/-! ### repr of data -/
section
variable {K : PySem.W.Frag} {X : Cx} {W : WX} {e a b c : Expr} {es : List Expr} {pos : Pos}
def rReprT (K : PySem.W.Frag) : List V → Hp → VK → Prop := fun xs H Q => ∃ x d, xs = [x] ∧ Dp K H x d ∧ PyData.canLay0 d = true ∧ d.depth ≤ 64 ∧ d.showable = true ∧ d.shown.length ≤ sizeLine ∧ Q (.str d.shown) H
theorem call_reprT (hg : X.A.guards = some []) (hu : X.A.units + 66 < cLine) : CallR X (.builtin "repr") (rReprT X.K) := by
  intro pins s σ H xs us Q I rs h
  obtain ⟨x, d, rfl, hd, hc, hdep, hs, hz, q⟩ := h
  cases rs with
  | cons rx r =>
  cases r
  rename_i v
  have ref : ∀ (p : Addr), x = .ref p → wpAny (model X.prog X.w) X.A (call (.builtin "repr") [v]) (EP X pins σ Q) X.xe s := fun p e => by
    subst e
    obtain ⟨as, r1⟩ := Dp.reads I d _ v hd rx
    obtain rfl : v = Value.ref p := rx
    exact PySem.repr_of_reads' r1 hs (PyData.noDict_hsm (PyData.hasDict_of_canLay d hc)) hg (by omega) (fun _ _ q => q) (fun h' u tk hk => ⟨.str _, H, I.kept hk, ⟨_, rfl⟩, q⟩) hz
  cases hd with
  | non => obtain rfl : v = Value.none := rx; exact PySem.P.repr_of_none ⟨.str _, H, I.tok _, ⟨_, rfl⟩, q⟩
  | bl b => obtain rfl : v = Value.bool b := rx; exact PySem.P.repr_of_bool ⟨.str _, H, I.tok _, ⟨_, rfl⟩, by cases b <;> exact q⟩
  | int i =>
    obtain ⟨t, rfl⟩ := rx
    have hs' : decide (i.natAbs.log2 < 1920) = true := hs
    exact PySem.P.repr_of_int (of_decide_eq_true hs') ⟨.str _, H, I.tok _, ⟨_, rfl⟩, q⟩
  | str y => obtain ⟨t, rfl⟩ := rx; exact PySem.P.repr_of_str ⟨.str _, H, I.tok _, ⟨_, rfl⟩, q⟩ hz
  | lst h1 h2 => exact ref _ rfl
  | tup h1 h2 => exact ref _ rfl
mutual
def showD : D → Bool
  | .int i => logOk i
  | .lst xs => showDs xs
  | .tup xs => showDs xs
  | .ktup xs => showDs xs
  | .klst xs => showDs xs
  | .non => true
  | .bl _ => true
  | .str _ => true
  | _ => false
def showDs : List D → Bool
  | [] => true
  | x :: xs => showD x && showDs xs
end
/-! what a text of it has at most -/
mutual
def rb : D → Nat
  | .int i => (intS i).length
  | .str x => (reprText x).length
  | .lst xs => rbs xs + 3
  | .tup xs => rbs xs + 3
  | .ktup xs => rbs xs + 3
  | .klst xs => rbs xs + 3
  | _ => 5
def rbs : List D → Nat
  | [] => 0
  | x :: xs => rb x + 2 + rbs xs
end
mutual
theorem showD_ok : ∀ d : D, showD d = true → (toP d).showable = true
  | .non, _ => by simp [toP, PyData.showable]
  | .bl _, _ => by simp [toP, PyData.showable]
  | .int i, h => h
  | .str x, _ => by simp [toP, PyData.showable]
  | .lst xs, h => by
    show PyData.showable (.list (toPs xs)) = true
    simp only [PyData.showable]
    exact showDs_ok xs h
  | .tup xs, h => by
    show PyData.showable (.tuple (toPs xs)) = true
    simp only [PyData.showable]
    exact showDs_ok xs h
  | .klst xs, h => by
    show PyData.showable (.list (toPs xs)) = true
    simp only [PyData.showable]
    exact showDs_ok xs h
  | .ktup xs, h => by
    show PyData.showable (.tuple (toPs xs)) = true
    simp only [PyData.showable]
    exact showDs_ok xs h
  | .dK _, h => by cases h
  | .dT _, h => by cases h
  | .fn _, h => by cases h
  | .clo _ _, h => by cases h
  | .scr _, h => by cases h
  | .ty _, h => by cases h
  | .rng _ _, h => by cases h
theorem showDs_ok : ∀ d : List D, showDs d = true → PyData.showableAll (toPs d) = true
  | [], _ => by simp [toPs, PyData.showableAll]
  | x :: xs, h => by
    have h : (showD x && showDs xs) = true := h
    rw [Bool.and_eq_true] at h
    show PyData.showableAll (toP x :: toPs xs) = true
    simp only [PyData.showableAll]
    rw [showD_ok x h.1, showDs_ok xs h.2]; rfl
end
theorem none_len : (PyData.shown .none).length ≤ 5 := by decide +kernel
theorem bool_len (b : Bool) : (PyData.shown (.bool b)).length ≤ 5 := by cases b <;> decide +kernel
mutual
theorem rb_ok : ∀ d : D, okD d = true → (toP d).shown.length ≤ rb d
  | .non, _ => none_len
  | .bl b, _ => bool_len b
  | .int i, _ => by
    show (PyData.shown (.int i)).length ≤ (intS i).length
    simp only [PyData.shown]
    exact Nat.le_refl _
  | .str x, _ => by
    show (PyData.shown (.str x)).length ≤ (reprText x).length
    simp only [PyData.shown]
    exact Nat.le_refl _
  | .lst xs, h => by
    show (PyData.shown (.list (toPs xs))).length ≤ rbs xs + 3
    simp only [PyData.shown]
    have a := listText_len_le (PyData.shownAll (toPs xs))
    have b := rbs_ok xs h
    omega
  | .tup xs, h => by
    show (PyData.shown (.tuple (toPs xs))).length ≤ rbs xs + 3
    simp only [PyData.shown]
    have a := tupleText_len_le (PyData.shownAll (toPs xs))
    have b := rbs_ok xs h
    omega
  | .klst xs, h => by
    show (PyData.shown (.list (toPs xs))).length ≤ rbs xs + 3
    simp only [PyData.shown]
    have a := listText_len_le (PyData.shownAll (toPs xs))
    have b := rbs_ok xs h
    omega
  | .ktup xs, h => by
    show (PyData.shown (.tuple (toPs xs))).length ≤ rbs xs + 3
    simp only [PyData.shown]
    have a := tupleText_len_le (PyData.shownAll (toPs xs))
    have b := rbs_ok xs h
    omega
  | .dK _, h => by cases h
  | .dT _, h => by cases h
  | .fn _, h => by cases h
  | .clo _ _, h => by cases h
  | .scr _, h => by cases h
  | .ty _, h => by cases h
  | .rng _ _, h => by cases h
theorem rbs_ok : ∀ d : List D, okDs d = true → ((PyData.shownAll (toPs d)).map (·.length)).sum + 2 * (PyData.shownAll (toPs d)).length ≤ rbs d
  | [], _ => by
    have e : PyData.shownAll (toPs []) = [] := by show PyData.shownAll [] = []; simp only [PyData.shownAll]
    rw [e]; simp [rbs]
  | x :: xs, h => by
    have h : (okD x && okDs xs) = true := h
    rw [Bool.and_eq_true] at h
    have e : PyData.shownAll (toPs (x :: xs)) = (toP x).shown :: PyData.shownAll (toPs xs) := by show PyData.shownAll (toP x :: toPs xs) = _; simp only [PyData.shownAll]
    have a := rb_ok x h.1
    have b := rbs_ok xs h.2
    rw [e, List.map_cons, List.sum_cons, List.length_cons]
    show _ ≤ rb x + 2 + rbs xs
    omega
end
def reprD (d : D) : Str := (toP d).shown
def dRepr (d : D) : Option D := if (shp d && showD d) = true then if rb d ≤ 1000000 then some (.str (reprD d)) else none else none
theorem cd_repr (hg : X.A.guards = some []) (hu : X.A.units + 66 < cLine) : CallD K X (.builtin "repr") (rReprT K) (g1 dRepr) := ⟨fun k => by rw [← k]; exact call_reprT hg hu, g1_ok fun x d c Z H Q s hx hg p => by
  unfold dRepr at hg
  split at hg
  · rename_i h1
    split at hg
    · rename_i h2
      cases hg
      rw [Bool.and_eq_true] at h1
      have h0 := h1.1
      unfold shp at h0
      rw [Bool.and_eq_true, decide_eq_true_eq] at h0
      exact ⟨x, toP d, rfl, hx.dp s (shaped_can h1.1), shaped_can h1.1, by rw [depD_dep d h0.1]; exact h0.2, showD_ok d h1.2, Nat.le_trans (rb_ok d h0.1) (size_le h2), p _ Z H (ExtP.refl s) (.str _)⟩
    · cases hg
  · cases hg⟩
theorem units66 {k : Nat} {A : Around} (r : Room k A) : A.units + 66 < cLine := by have := r.un; omega
end
end DL
namespace DL
open PySem L2
section
variable {K : PySem.W.Frag} {X : Cx} {W : WX} {e a b c : Expr} {es : List Expr} {pos : Pos}
/-! ### order of ints, texts, truths -/
/-! ### is True, is False -/
/-! ### lists one behind the other -/
def rCatL (K : PySem.W.Frag) : R2 := fun x y H Q => ∃ l b xs zs, x = .ref l ∧ y = .ref b ∧ SqL K H l xs ∧ SqL K H b zs ∧ xs.length + zs.length ≤ sizeLine ∧ ∀ p, H p = none → Q (.ref p) (upd H p (.lst (xs ++ zs)))
theorem op_catL : OpR X (binaryOp .Add) (rCatL X.K) := by
  intro pins s σ H x y v u Q I rx ry h
  obtain ⟨l, b, xs, zs, rfl, rfl, hx, hy, hz, q⟩ := h
  obtain rfl : v = Value.ref l := rx
  obtain rfl : u = Value.ref b := ry
  obtain ⟨its, r, ⟨⟨cls, dd, data, sl⟩, n, ho, hc, hdn, hd⟩, _⟩ := I.list hx
  obtain ⟨its2, r2, ⟨⟨cls2, dd2, data2, sl2⟩, n2, ho2, hc2, hdn2, hd2⟩, _⟩ := I.list hy
  simp only at hc hd hdn hc2 hd2 hdn2
  subst hc hd hdn hc2 hd2 hdn2
  have hl := r.length
  have hl2 := r2.length
  refine concat_meets ⟨_, ho, rfl⟩ ⟨_, ho2, rfl⟩ noFill_list_add seq_list_add PySem.F.slot_list_add PySem.F.entry_list_add (PySem.F.args_list_add_2 _ _) (PyProof.Rows.list_addW l b its.toArray its2.toArray n n2 none none sl sl2 (by simp; omega)) ⟨ho, ho2, ?_⟩
  have e : its.toArray ++ its2.toArray = (its ++ its2).toArray := by simp
  rw [e]
  exact ⟨.ref _, _, I.lnew (t' := s.toks) (r.append r2) (by rw [List.length_append]; omega), rfl, q _ I.fresh⟩
def dAdd2 : D → D → Option D
  | .int i, .int j => some (.int (i + j))
  | .str x, .str y => if x.length + y.length ≤ 1000000 then some (.str (x ++ y)) else none
  | .lst x, .lst y => if x.length + y.length ≤ 1000000 then some (.lst (x ++ y)) else none
  | _, _ => none
theorem od_add2 : OpD K X (binaryOp .Add) (fun x y H Q => rI0 (fun i j => .int (i + j)) x y H Q ∨ (∃ i j, x = .str i ∧ y = .str j ∧ i.length + j.length ≤ sizeLine ∧ Q (.str (i ++ j)) H) ∨ rCatL K x y H Q) dAdd2 where
  op := fun k pins s σ H x y v u Q I rx ry h => by
    subst k
    rcases h with h | h | h
    · exact op_add pins s σ H x y v u Q I rx ry h
    · exact op_add_str pins s σ H x y v u Q I rx ry h
    · exact op_catL pins s σ H x y v u Q I rx ry h
  ok := by
    intro x y d e c Z H Q s hx hy hg p
    unfold dAdd2 at hg
    split at hg
    · cases hx; cases hy; cases hg
      exact .inl ⟨_, _, rfl, rfl, p _ Z H (ExtP.refl s) (.int _)⟩
    · split at hg
      · rename_i hl
        cases hx; cases hy; cases hg
        exact .inr (.inl ⟨_, _, rfl, rfl, size_le hl, p _ Z H (ExtP.refl s) (.str _)⟩)
      · cases hg
    · split at hg
      · rename_i hl
        cases hg
        cases hx with
        | lst h1 h2 =>
        cases hy with
        | lst h3 h4 =>
        exact .inr (.inr ⟨_, _, _, _, rfl, rfl, .inl (same_rd s h1), .inl (same_rd s h3), by rw [h2.length, h4.length]; exact size_le hl, fun l hl => p _ _ _ (ExtP.new s hl) (.lst (.inl upd_same) ((h2.append h4).mono (same_upd (none_of s hl))))⟩)
      · cases hg
    · cases hg
end
end DL
namespace DL
open PySem L2
section
variable {K : PySem.W.Frag} {X : Cx} {W : WX} {e a b c tg iter tg1 iter1 elt : Expr} {es : List Expr} {pos : Pos}
/-! ### a comprehension with two fors -/
theorem RepV.mono2 {Z Z' : Hp} {I I' : List Addr} (z : Same Z Z') (i : ∃ t, I' = I ++ t) {v : V} : ∀ {d : DV}, RepV K Z I v d → RepV K Z' I' v d
  | .p _, h => Rep.mono z h
  | .o n, ⟨a, h, q⟩ => by
    obtain ⟨t, rfl⟩ := i
    exact ⟨a, by rw [List.getElem?_append_left (List.getElem?_eq_some_iff.mp h).1]; exact h, q⟩
theorem RepS.mono2 {Z Z' : Hp} {I I' : List Addr} {σ : St} {l : List (Option DV)} (r : RepS K Z I σ l) (z : Same Z Z') (i : ∃ t, I' = I ++ t) : RepS K Z' I' σ l := ⟨r.len, fun n dv h => by
  obtain ⟨v, h1, h2⟩ := r.at_ n dv h
  exact ⟨v, h1, h2.mono2 z i⟩⟩
section
variable {ifs ifs1 : List Expr} {scope : Scope} {own : List (Str × Nat)} {wi wi1 : TI} {g g1 : TG} {tt tt1 : TT} {te : TE} {it it1 : IM} {gm gm1 : GM} {ix ix1 : List Nat} {t t1 em : EM}
end
end
end DL
namespace DL
open PySem L2
/-- a tuple of the module -/
theorem rep_ktup {K : PySem.W.Frag} {a : Addr} {d : Option Addr} {its : Array Value} {z : Nat} {w : Array (Option Value)} {Z : Hp} {xs : List V} {ds : List D} (l : K.lookup a = some ⟨.type "tuple", d, .seq its z, w⟩) (hz : its.size ≤ sizeLine) (v : Vals xs its.toList) (r : RepA K Z xs ds) : Rep K Z (.ref a) (.ktup ds) :=
  .ktup (.inr ⟨_, its, z, l, rfl, rfl, hz, v⟩) r
end DL
namespace DL
open PySem L2
section
variable {K : PySem.W.Frag} {X : Cx} {W : WX} {e a b c : Expr} {es : List Expr} {pos : Pos}
/-! ### a dict of the module, keys texts -/
structure GD (K : PySem.W.Frag) (w : World) (mg : Str → Option Value) (x : Str) (kvs : List (Str × D)) where
  a : Addr
  m : mg x = some (.ref a)
  at_ : ∀ z d, kvs.lookup z = some d → ∃ v, KDct K w a z v ∧ ∀ Z, Rep K Z v d
/-! ### dicts with keys ints and texts -/
def keyD : D → Option Key
  | .int i => some (.inl i)
  | .str x => some (.inr x)
  | _ => none
def valD (kvs : List (Key × D)) (k : Key) : Option D := (kvs.find? fun kv => decide (kv.1 = k)).map (·.2)
theorem key_rep {Z : Hp} {v : V} {d : D} {k : Key} (h : Rep K Z v d) (e : keyD d = some k) : v = kV k := by
  unfold keyD at e
  split at e
  · cases h; cases e; rfl
  · cases h; cases e; rfl
  · cases e
def getD (d k : D) : Option (Option D) := match d with
  | .dK kvs => (keyD k).map (valD kvs)
  | _ => none
end
end DL
namespace DL
open PySem L2
section
variable {K : PySem.W.Frag} {X : Cx} {W : WX} {pos : Pos}
theorem units1 {k : Nat} {A : Around} (r : Room k A) : A.units + 1 < cLine := by have := r.un; omega
end
end DL
namespace DL
open PySem L2 PySem.W
/-! ### sorted: the data -/
def tupNE : PyData → Bool
  | .tuple (_ :: _) => true
  | _ => false
def plainK : PyData → Bool
  | .none => false
  | .tuple _ => false
  | _ => true
def sortOk (ks : List PyData) : Bool := (ks.all tupNE || ks.all plainK) && ks.all fun d => ks.all fun e => alike d e
theorem sortOk_like {ks : List PyData} (h : sortOk ks = true) : AllAlike ks := by
  intro d hd e he
  unfold sortOk at h
  rw [Bool.and_eq_true] at h
  exact List.all_eq_true.mp (List.all_eq_true.mp h.2 d hd) e he
theorem sortOk_sortable {ks : List PyData} (h : sortOk ks = true) : Sortable ks := by
  unfold sortOk at h
  rw [Bool.and_eq_true, Bool.or_eq_true] at h
  rcases h.1 with q | q
  · refine .inl fun d hd => ?_
    have z := List.all_eq_true.mp q d hd
    unfold tupNE at z
    split at z
    · exact ⟨_, _, rfl⟩
    · cases z
  · refine .inr fun d hd => ?_
    have z := List.all_eq_true.mp q d hd
    refine ⟨fun e => ?_, fun xs e => ?_⟩ <;> subst e <;> cases z
noncomputable def sortBy (ds ks : List D) : List D := ((ds.zip ks).mergeSort (dataLe false fun p => toP p.2)).map (·.1)
def keysM (f : MA) : List D → Option (List D)
  | [] => some []
  | d :: r => match f [d] with
    | some (.ok k) => match keysM f r with
      | some ks => some (k :: ks)
      | none => none
    | _ => none
theorem toPs_map : ∀ ds : List D, toPs ds = ds.map toP
  | [] => rfl
  | d :: r => by show toP d :: toPs r = _; rw [toPs_map r]; rfl
section
variable {X : Cx} {pins : List (Addr × Obj)} {σ : St} {H : Hp} {s : Shared}
end
/-! ### what sorted goes over: a list, or the keys of a dict -/
section
variable {K : PySem.W.Frag}
def kD : Key → D
  | .inl i => .int i
  | .inr s => .str s
theorem kD_rep {Z : Hp} (k : Key) : Rep K Z (kV k) (kD k) := by cases k <;> first | exact .int _ | exact .str _
theorem kDs_rep {Z : Hp} : ∀ ks : List Key, RepA K Z (ks.map kV) (ks.map kD)
  | [] => .nil
  | k :: r => .cons (kD_rep k) (kDs_rep r)
end
theorem ext_tup {Z H : Hp} (s : Same Z H) {q : Addr} {xs : List V} (h : H q = some (.tup xs)) : ∃ Z', ExtP Z H Z' H ∧ Z' q = some (.tup xs) := by
  cases z : Z q with
  | some u =>
    have := s q u z
    rw [h] at this
    cases this
    exact ⟨Z, ExtP.refl s, z⟩
  | none =>
    refine ⟨upd Z q (.tup xs), ⟨same_upd z, Same.refl _, fun a u e => ?_, fun a e => ?_⟩, upd_same⟩
    · by_cases w : a = q
      · rw [w, upd_same] at e; rw [w, h]; exact e
      · rw [upd_ne w] at e; exact s a u e
    · by_cases w : a = q
      · rw [w]; exact .inr (.inr ⟨xs, h⟩)
      · rw [upd_ne w] at e; exact .inl e
section
open PySem.Spec PyProof.Rows
variable {X : Cx} {pins : List (Addr × Obj)} {σ : L2.St} {H Z : Hp} {s : Shared}
end
end DL
namespace DL
open PySem L2 PySem.W
open PyProof.Rows (seqObj get?_update_seq listUpdate_at listItems_at seqEpoch_at size_push' ksk_rest ksk_fold ksk_tree ksk_t1)
def atS (a : Addr) (xs : Array Value) (n : Nat) : HO := .ext fun h => h.get? a = some (seqObj "list" xs n)
section
variable {X : Cx} {pins : List (Addr × Obj)} {σ : St} {H Z : Hp} {s : Shared}
structure Turn (X : Cx) (pins : List (Addr × Obj)) (σ : St) (Z H : Hp) (a kS : Addr) (e1 : Nat) (ks : List D) (j : Nat) (s' : Shared) : Prop where
  ex : ∃ (Hj Zj : Hp) (kA : Array Value) (e : Nat) (kvs : List V), Inv X pins σ Hj s' ∧ ExtP Z H Zj Hj ∧ Hj kS = some (atS kS kA e) ∧ Hj a = some (atS a #[] e1) ∧ Zj kS = none ∧ Zj a = none ∧ Vals kvs kA.toList ∧ RepA X.K Zj kvs (ks.take j)
theorem Same.outer {Z1 H1 : Hp} {a : Addr} {o : HO} (h : Same Z1 H1) (e : Z1 a = none) : Same Z1 (upd H1 a o) := fun b u q => by
  rw [upd_ne (ne_of_none q e)]; exact h b u q
end
end DL
namespace DL
open PySem L2 PySem.W
open PyProof.Rows (seqObj get?_update_seq listUpdate_at listItems_at seqEpoch_at size_push' ksk_rest ksk_fold ksk_tree ksk_t1 ksk_s1 ksk_l1)
section
variable {X : Cx} {pins : List (Addr × Obj)} {σ : St} {H Z : Hp} {s : Shared}
/-- the mirror -/
noncomputable def sortKD (f : MA) : D → Option D
  | .lst ds => match keysM f ds with
    | some ks => if (ks.all shp && sortOk (toPs ks)) = true then some (.lst (sortBy ds ks)) else none
    | none => none
  | .dT kvs => match keysM f (kvs.map fun p => D.tup (p.1.map kD)) with
    | some ks => if (ks.all shp && sortOk (toPs ks)) = true then some (.lst (sortBy (kvs.map fun p => D.tup (p.1.map kD)) ks)) else none
    | none => none
  | _ => none
noncomputable def mSortK (f : MA) (m : EM) : EM := bnd m (pur fun d => ret (sortKD f d))
end
@[simp] theorem e_add2I (i j : Int) : dAdd2 (.int i) (.int j) = some (.int (i + j)) := rfl
@[simp] theorem e_add2S (x y : Str) : dAdd2 (.str x) (.str y) = if x.length + y.length ≤ 1000000 then some (.str (x ++ y)) else none := rfl
@[simp] theorem e_add2L (x y : List D) : dAdd2 (.lst x) (.lst y) = if x.length + y.length ≤ 1000000 then some (.lst (x ++ y)) else none := rfl
@[simp] theorem e_inDL (xs ys : List D) : inD (.tup xs) (.lst ys) = if (shp (.tup xs) && shp (.lst ys)) = true then some (ys.any fun z => deq z (.tup xs)) else none := rfl
@[simp] theorem e_sortK (f : MA) (m : EM) (s : S) : mSortK f m s = (bnd m (pur fun d => ret (sortKD f d))) s := rfl
/-- pairs of ints as keys -/
theorem sortOk_ii {α : Type} (l : List α) (a b : α → Int) : sortOk (toPs (l.map fun x => D.tup [.int (a x), .int (b x)])) = true := by
  rw [toPs_map, List.map_map]
  unfold sortOk
  rw [Bool.and_eq_true, Bool.or_eq_true]
  refine ⟨.inl (List.all_eq_true.mpr fun d hd => ?_), List.all_eq_true.mpr fun d hd => List.all_eq_true.mpr fun e he => ?_⟩
  · obtain ⟨x, _, rfl⟩ := List.mem_map.mp hd; rfl
  · obtain ⟨x, _, rfl⟩ := List.mem_map.mp hd
    obtain ⟨y, _, rfl⟩ := List.mem_map.mp he
    simp [toP, toPs, alike, alikeAll]
section
variable {K : PySem.W.Frag} {X : Cx} {W : WX} {e : Expr} {pos p p2 kp : Pos}
end
end DL
namespace DL
open PySem L2
/-! ### dicts: one's own, and data; keys ints and texts, or tuples of them -/
section
variable {α κ : Type} [DecidableEq κ]
def valO (kvs : List (κ × α)) (k : κ) : Option α := (kvs.find? fun kv => decide (kv.1 = k)).map (·.2)
def putO (kvs : List (κ × α)) (k : κ) (v : α) : List (κ × α) :=
  if (kvs.any fun kv => decide (kv.1 = k)) = true then kvs.map (fun kv => if kv.1 = k then (kv.1, v) else kv) else kvs ++ [(k, v)]
def dropO (kvs : List (κ × α)) (k : κ) : List (κ × α) := kvs.filter fun kv => decide (kv.1 ≠ k)
end
def keysD : List D → Option (List Key)
  | [] => some []
  | d :: r => match keyD d, keysD r with
    | some k, some ks => some (k :: ks)
    | _, _ => none
def keyT : D → Option (List Key)
  | .tup xs => keysD xs
  | _ => none
section
variable {K : PySem.W.Frag} {X : Cx} {W : WX} {e a b c : Expr} {es : List Expr} {pos : Pos} {Z H : Hp} {I : List Addr} {M : List O}
theorem keys_rep : ∀ {vs : List V} {xs : List D} {ks : List Key}, RepA K Z vs xs → keysD xs = some ks → vs = ks.map kV
  | _, [], _, .nil, e => by cases e; rfl
  | _, d :: r, _, .cons h t, e => by
    have e : (match keyD d, keysD r with | some k, some ks => some (k :: ks) | _, _ => none) = some _ := e
    cases q : keyD d with
    | none => rw [q] at e; cases e
    | some k =>
      cases q2 : keysD r with
      | none => rw [q, q2] at e; cases e
      | some ks =>
        rw [q, q2] at e; cases e
        rw [key_rep h q, keys_rep t q2]; rfl
theorem keyT_rep {v : V} {d : D} {ks : List Key} (h : Rep K Z v d) (e : keyT d = some ks) : ∃ b, v = .ref b ∧ Z b = some (.tup (ks.map kV)) := by
  cases h with
  | tup h1 h2 => exact ⟨_, rfl, by rw [← keys_rep h2 (show keysD _ = some ks from e)]; exact h1⟩
  | _ => cases e
section
variable {κ : Type} [DecidableEq κ]
theorem valP_rep {ks : List (κ × V)} {ds : List (κ × DV)} (r : Paired (FRel K Z I) ks ds) (k : κ) : (valV ks k = none ∧ valO ds k = none) ∨ ∃ v d, valV ks k = some v ∧ valO ds k = some d ∧ RepV K Z I v d := by
  induction r with
  | nil => exact .inl ⟨rfl, rfl⟩
  | @cons p q ps qs h t ih =>
    obtain ⟨h1, h2⟩ := h
    by_cases z : p.1 = k
    · exact .inr ⟨p.2, q.2, by simp [valV, z], by simp [valO, ← h1, z], h2⟩
    · have e1 : valV (p :: ps) k = valV ps k := by simp [valV, z]
      have e2 : valO (q :: qs) k = valO qs k := by simp [valO, ← h1, z]
      rw [e1, e2]; exact ih
theorem anyP_rep {ks : List (κ × V)} {ds : List (κ × DV)} (r : Paired (FRel K Z I) ks ds) (k : κ) : (ks.any fun kv => decide (kv.1 = k)) = ds.any fun kv => decide (kv.1 = k) := by
  induction r with
  | nil => rfl
  | @cons p q ps qs h t ih => rw [List.any_cons, List.any_cons, ih, h.1]
theorem mapP_rep {ks : List (κ × V)} {ds : List (κ × DV)} (k : κ) {v : V} {d : DV} (h : RepV K Z I v d) (r : Paired (FRel K Z I) ks ds) : Paired (FRel K Z I) (ks.map (fun kv => if kv.1 = k then (kv.1, v) else kv)) (ds.map (fun kv => if kv.1 = k then (kv.1, d) else kv)) := by
  induction r with
  | nil => exact .nil
  | @cons p q ps qs g t ih =>
    refine .cons ?_ ih
    show FRel K Z I (if p.1 = k then (p.1, v) else p) (if q.1 = k then (q.1, d) else q)
    by_cases z : p.1 = k
    · rw [if_pos z, if_pos (g.1.symm.trans z)]; exact ⟨g.1, h⟩
    · rw [if_neg z, if_neg (fun y => z (g.1.trans y))]; exact g
theorem putP_rep {ks : List (κ × V)} {ds : List (κ × DV)} (r : Paired (FRel K Z I) ks ds) (k : κ) {v : V} {d : DV} (h : RepV K Z I v d) : Paired (FRel K Z I) (putK ks k v) (putO ds k d) := by
  unfold putK putO
  rw [anyP_rep r k]
  split
  · exact mapP_rep k h r
  · exact paired_app r (.cons ⟨rfl, h⟩ .nil)
theorem dropP_rep {ks : List (κ × V)} {ds : List (κ × DV)} (r : Paired (FRel K Z I) ks ds) (k : κ) : Paired (FRel K Z I) (dropK ks k) (dropO ds k) := by
  unfold dropK dropO
  induction r with
  | nil => exact .nil
  | @cons p q ps qs g t ih =>
    rw [List.filter_cons, List.filter_cons, g.1]
    split
    · exact .cons g ih
    · exact ih
end
theorem repK_paired {ks : List (Key × V)} : ∀ {ds : List (Key × D)}, RepK K Z ks ds → Paired (FRel K Z I) ks (ds.map fun p => (p.1, DV.p p.2))
  | _, .nil => .nil
  | _, .cons h r => .cons ⟨rfl, h⟩ (repK_paired r)
theorem repT_paired {ks : List (List Key × V)} : ∀ {ds : List (List Key × D)}, RepT K Z ks ds → Paired (FRel K Z I) ks (ds.map fun p => (p.1, DV.p p.2))
  | _, .nil => .nil
  | _, .cons h r => .cons ⟨rfl, h⟩ (repT_paired r)
/-- the dict that a value is -/
inductive Dc where
  | k (kvs : List (Key × DV)) | t (kvs : List (List Key × DV))
def dcM (M : List O) : DV → Option Dc
  | .p (.dK kvs) => some (.k (kvs.map fun p => (p.1, .p p.2)))
  | .p (.dT kvs) => some (.t (kvs.map fun p => (p.1, .p p.2)))
  | .o n => match M[n]? with
    | some (.dK kvs) => some (.k kvs)
    | some (.dT kvs) => some (.t kvs)
    | _ => none
  | _ => none
def RepDc (K : PySem.W.Frag) (Z H : Hp) (I : List Addr) (a : Addr) : Dc → Prop
  | .k ds => ∃ ks, Rd H a (.dK ks) ∧ Paired (FRel K Z I) ks ds
  | .t ds => ∃ ks, Rd H a (.dT ks) ∧ Paired (FRel K Z I) ks ds
theorem dc_rep {x : V} {d : DV} {c : Dc} (w : Wf K Z H I M) (h : RepV K Z I x d) (e : dcM M d = some c) : ∃ a, x = .ref a ∧ RepDc K Z H I a c := by
  cases d with
  | o n =>
    obtain ⟨a, ha, rfl⟩ := h
    unfold dcM at e
    cases z : M[n]? with
    | none => simp only [z] at e; cases e
    | some o =>
      simp only [z] at e
      cases o with
      | dK ds => cases e; obtain ⟨_, ks, r1, r2⟩ := w.ob n a _ ha z (by intro z; cases z); exact ⟨a, rfl, ks, .inl r1, r2⟩
      | dT ds => cases e; obtain ⟨_, ks, r1, r2⟩ := w.ob n a _ ha z (by intro z; cases z); exact ⟨a, rfl, ks, .inl r1, r2⟩
      | _ => cases e
  | p d =>
    have h : Rep K Z x d := h
    cases h with
    | dK h1 h2 => cases e; exact ⟨_, rfl, _, .inr ⟨_, w.sub _ _ h1⟩, repK_paired h2⟩
    | dT h1 h2 => cases e; exact ⟨_, rfl, _, .inr ⟨_, w.sub _ _ h1⟩, repT_paired h2⟩
    | _ => cases e
def getC : Dc → D → Option (Option DV)
  | .k kvs, k => (keyD k).map (valO kvs)
  | .t kvs, k => (keyT k).map (valO kvs)
theorem getC_rep {x : Addr} {y : V} {c : Dc} {k : D} {o : Option DV} (s : Same Z H) (h : RepDc K Z H I x c) (hy : Rep K Z y k) (e : getC c k = some o) : ∃ r, DGet H x y r ∧ ((r = none ∧ o = none) ∨ ∃ v d, r = some v ∧ o = some d ∧ RepV K Z I v d) := by
  cases c with
  | k ds =>
    obtain ⟨ks, h1, h2⟩ := h
    have e : (keyD k).map (valO ds) = some o := e
    cases q : keyD k with
    | none => rw [q] at e; cases e
    | some kk =>
      rw [q] at e; cases e
      refine ⟨_, .inl ⟨ks, kk, h1, key_rep hy q, rfl⟩, ?_⟩
      exact valP_rep h2 kk
  | t ds =>
    obtain ⟨ks, h1, h2⟩ := h
    have e : (keyT k).map (valO ds) = some o := e
    cases q : keyT k with
    | none => rw [q] at e; cases e
    | some kk =>
      rw [q] at e; cases e
      obtain ⟨b, rfl, hb⟩ := keyT_rep hy q
      refine ⟨_, .inr ⟨ks, kk, b, h1, rfl, s _ _ hb, rfl⟩, ?_⟩
      exact valP_rep h2 kk
def getM (M : List O) (d : DV) (k : D) : Option (Option DV) := match dcM M d with
  | some c => getC c k
  | none => none
theorem getM_rep {x y : V} {d : DV} {k : D} {o : Option DV} (w : Wf K Z H I M) (hx : RepV K Z I x d) (hy : Rep K Z y k) (e : getM M d k = some o) :
    ∃ a r, x = .ref a ∧ DGet H a y r ∧ ((r = none ∧ o = none) ∨ ∃ v d, r = some v ∧ o = some d ∧ RepV K Z I v d) := by
  unfold getM at e
  cases z : dcM M d with
  | none => simp only [z] at e; cases e
  | some c =>
    simp only [z] at e
    obtain ⟨ad, rfl, rc⟩ := dc_rep w hx z
    obtain ⟨r, g, k⟩ := getC_rep w.sub rc hy e
    exact ⟨ad, r, rfl, g, k⟩
/-- d[k] -/
def dgK (d : DV) (k : D) : EM := fun s => match getM s.m d k with
  | some (some v) => some (.ok v s.m)
  | _ => none
def mDget (m n : EM) : EM := bnd m fun d => bnd n (pur (dgK d))
theorem de_dgetG (hu : X.A.units + 1 < cLine) {td ty : TE} {m n : EM} (ha : DE K X W a td m) (hb : DE K X W b ty n) (hs : NoSl b := by exact fun _ _ => rfl) : DE K X W (.Subscript a b pos) (tDGet td ty) (mDget m n) := by
  refine ⟨ha.k, pe_dget hu ha.pe hb.pe hs, ⟨fun σ H s Z I r0 Q w rs e p => ?_⟩⟩
  refine ha.so.bnd w rs e p.x fun d v M1 Z1 H1 I1 w1 rs1 x1 q1 e1 => ?_
  have p1 := p.mono x1
  refine hb.so.bnd (s := ⟨s.l, M1⟩) w1 rs1 e1 p1.x fun d2 v2 M2 Z2 H2 I2 w2 rs2 x2 q2 e2 => ?_
  obtain ⟨d2, rfl, e2⟩ := pur_ok e2
  have e2 : (match getM M2 d d2 with | some (some v) => some (Rs.ok v M2) | _ => none) = some r0 := e2
  cases z : getM M2 d d2 with
  | none => rw [z] at e2; cases e2
  | some o =>
    rw [z] at e2
    obtain ⟨ad, r, rfl, g, k⟩ := getM_rep w2 (q1.mono x2) q2 z
    rcases k with ⟨_, rfl⟩ | ⟨u, c', rfl, rfl, hr⟩
    · cases e2
    · cases e2
      exact ⟨ad, u, rfl, g, (p1.mono x2) u Z2 H2 I2 w2 Ext.refl hr⟩
/-- k in d, k not in d -/
def dinK (neg : Bool) (k : D) (d : DV) : EM := fun s => match getM s.m d k with
  | some o => some (.ok (.p (.bl (if neg then !o.isSome else o.isSome))) s.m)
  | _ => none
def mDin (neg : Bool) (m n : EM) : EM := bnd m (pur fun k => bnd n (dinK neg k))
theorem so_din (neg : Bool) {ty td : TE} {m n : EM} (ha : Sound K W (RepV K) ty m) (hb : Sound K W (RepV K) td n) :
    Sound K W (RepV K) (fun σ H Q => ty σ H fun y H1 => td σ H1 fun x H2 => ∃ a o, x = .ref a ∧ DGet H2 a y o ∧ Q (.bl (if neg then !o.isSome else o.isSome)) H2) (mDin neg m n) := ⟨fun σ H s Z I r0 Q w rs e p => by
  refine ha.bnd w rs e p.x fun d v M1 Z1 H1 I1 w1 rs1 x1 q1 e1 => ?_
  obtain ⟨d, rfl, e1⟩ := pur_ok e1
  have p1 := p.mono x1
  refine hb.bnd (s := ⟨s.l, M1⟩) w1 rs1 e1 p1.x fun d2 v2 M2 Z2 H2 I2 w2 rs2 x2 q2 e2 => ?_
  have e2 : (match getM M2 d2 d with | some o => some (Rs.ok (DV.p (.bl (if neg then !o.isSome else o.isSome))) M2) | _ => none) = some r0 := e2
  cases z : getM M2 d2 d with
  | none => rw [z] at e2; cases e2
  | some o =>
    rw [z] at e2; cases e2
    obtain ⟨ad, r, rfl, g, k⟩ := getM_rep w2 q2 (Rep.mono x2.z q1) z
    refine ⟨ad, r, rfl, g, ?_⟩
    have er : r.isSome = o.isSome := by
      rcases k with ⟨rfl, rfl⟩ | ⟨u, c', rfl, rfl, hr⟩ <;> rfl
    rw [er]
    exact (p1.mono x2) _ Z2 H2 I2 w2 Ext.refl (.bl _)⟩
theorem mDin_bool {neg : Bool} {m n : EM} (s : S) (r : Rs DV) (e : mDin neg m n s = some r) (v : DV) (M : List O) (hr : r = .ok v M) : ∃ b, v = .p (.bl b) := by
  subst hr
  obtain ⟨a, M1, _, e⟩ := bnd_ok e
  obtain ⟨d, _, e⟩ := pur_ok e
  obtain ⟨a2, M2, _, e⟩ := bnd_ok e
  unfold dinK at e
  cases z : getM M2 a2 d with
  | none => simp only [z] at e; cases e
  | some o => simp only [z] at e; cases e; exact ⟨_, rfl⟩
theorem dt_din (hu : X.A.units + 1 < cLine) {ty td : TE} {m n : EM} (ha : DE K X W a ty m) (hb : DE K X W b td n) (hm : behindInMarks .In b = false := by rfl) : DT K X W (.Compare a [.In] [b] pos) (tB (tDIn ty td)) (mDin false m n) := ⟨ha.k, pt_cmp (pc_din hu ha.pe hb.pe) hm, so_B (so_din false ha.so hb.so) mDin_bool⟩
theorem dt_dnin (hu : X.A.units + 1 < cLine) {ty td : TE} {m n : EM} (ha : DE K X W a ty m) (hb : DE K X W b td n) (hm : behindInMarks .NotIn b = false := by rfl) : DT K X W (.Compare a [.NotIn] [b] pos) (tB (tDNotIn ty td)) (mDin true m n) := ⟨ha.k, pt_cmp (pc_dnotin hu ha.pe hb.pe) hm, so_B (so_din true ha.so hb.so) mDin_bool⟩
/-- d[k] = v at a dict of one's own -/
def putM (M : List O) (n : Nat) (k : D) (v : DV) : Option (List O) := match M[n]? with
  | some (.dK ds) => match keyD k with
    | some kk => if ds.length < 1000000 then some (M.set n (.dK (putO ds kk v))) else none
    | none => none
  | some (.dT ds) => match keyT k with
    | some kk => if ds.length < 1000000 then some (M.set n (.dT (putO ds kk v))) else none
    | none => none
  | _ => none
def sPutK (v d : DV) (k : D) : SM := fun s => match d with
  | .o n => match putM s.m n k v with
    | some M => some (.nx, ⟨s.l, M⟩)
    | none => none
  | _ => none
def purS (k : D → SM) : DV → SM
  | .p d, s => k d s
  | .o _, _ => none
theorem purS_ok {k : D → SM} {v : DV} {s : S} {r : Fl × S} (e : purS k v s = some r) : ∃ d, v = .p d ∧ k d s = some r := by
  cases v with
  | p d => exact ⟨d, rfl, e⟩
  | o n => cases e
def sPut (mv md mk : EM) : SM := liftS mv fun v => liftS md fun d => liftS mk (purS fun k => sPutK v d k)
theorem put_rep {n : Nat} {a : Addr} {k : D} {y v : V} {dv : DV} {M' : List O} (w : Wf K Z H I M) (ha : I[n]? = some a) (hy : Rep K Z y k) (hv : RepV K Z I v dv) (e : putM M n k dv = some M') :
    ∃ H', DPut H a y v H' ∧ Wf K Z H' I M' ∧ Ext Z H I Z H' I := by
  unfold putM at e
  split at e
  · rename_i ds hm
    split at e
    · rename_i kk hk
      split at e
      · rename_i hl
        cases e
        obtain ⟨_, ks, h1, h2⟩ := w.ob n a _ ha hm (by intro z; cases z)
        refine ⟨_, .inl ⟨ks, kk, h1, key_rep hy hk, by rw [paired_len h2]; exact size_lt (Nat.le_of_lt hl), rfl⟩, w.setO ha hm (by intro z; cases z) ⟨_, upd_same, putP_rep h2 kk hv⟩, ext_set (List.mem_of_getElem? ha)⟩
      · cases e
    · cases e
  · rename_i ds hm
    split at e
    · rename_i kk hk
      split at e
      · rename_i hl
        cases e
        obtain ⟨_, ks, h1, h2⟩ := w.ob n a _ ha hm (by intro z; cases z)
        obtain ⟨b, rfl, hb⟩ := keyT_rep hy hk
        refine ⟨_, .inr ⟨ks, kk, b, h1, rfl, w.sub _ _ hb, by rw [paired_len h2]; exact size_lt (Nat.le_of_lt hl), rfl⟩, w.setO ha hm (by intro z; cases z) ⟨_, upd_same, putP_rep h2 kk hv⟩, ext_set (List.mem_of_getElem? ha)⟩
      · cases e
    · cases e
  · cases e
theorem ds_put (hu : X.A.units + 1 < cLine) {pos' : Pos} {o i v : Expr} {td ty tv : TE} {md mk mv : EM} (hv : DE K X W v tv mv) (ho : DE K X W o td md) (hi : DE K X W i ty mk) (hs : swapsWith v (some (.Subscript o i pos')) pos.line X.env = pure false := by rfl) :
    DS K X W (.Assign [.Subscript o i pos'] v pos) (sDPut td ty tv) (sPut mv md mk) := ⟨hv.k, ps_dput hu ho.pe hi.pe hv.pe hs, ⟨fun σ H s Z I r D w rs e p => by
  refine hv.so.lift w rs e p fun d v M1 Z1 H1 I1 w1 rs1 x1 q1 e1 p1 => ?_
  refine ho.so.lift (s := ⟨s.l, M1⟩) w1 rs1 e1 p1 fun d2 v2 M2 Z2 H2 I2 w2 rs2 x2 q2 e2 p2 => ?_
  refine hi.so.lift (s := ⟨s.l, M2⟩) w2 rs2 e2 p2 fun d3 v3 M3 Z3 H3 I3 w3 rs3 x3 q3 e3 p3 => ?_
  obtain ⟨d3, rfl, e3⟩ := purS_ok e3
  cases d2 with
  | p d => cases e3
  | o n =>
    have e3 : (match putM M3 n d3 d with | some M => some (Fl.nx, (⟨s.l, M⟩ : S)) | none => none) = some r := e3
    obtain ⟨a, ha, rfl⟩ := q2.mono x3
    cases z : putM M3 n d3 d with
    | none => rw [z] at e3; cases e3
    | some M4 =>
      rw [z] at e3; cases e3
      obtain ⟨H4, hp, w4, x4⟩ := put_rep w3 ha q3 (q1.mono (x2.trans x3)) z
      exact ⟨a, H4, rfl, hp, p3 σ Z3 H4 I3 w4 (rs3.mono x4) x4⟩⟩⟩
/-- {} of one's own -/
def mDnew (o : O) : EM := fun s => some (.ok (.o s.m.length) (s.m ++ [o]))
theorem de_dnewT (k : X.K = K := by rfl) : DE K X W (.Dict [] [] pos) tDNewT (mDnew (.dT [])) := ⟨k, pe_dnewT, ⟨fun σ H s Z I r Q w rs e p => by
  cases e
  intro l hp
  refine p _ Z _ (I ++ [l]) (w.newO hp ⟨[], upd_same, .nil⟩) (ext_new w.sub hp) ⟨l, ?_, rfl⟩
  rw [← w.len, List.getElem?_append_right (Nat.le_refl _), Nat.sub_self]; rfl⟩⟩
def gGet : MtG := fun d ds s => match ds with
  | [.p k] => match getM s.m d k with
    | some (some v) => some (.ok v s.m)
    | some none => some (.ok (.p .non) s.m)
    | none => none
  | [.p k, z] => match getM s.m d k with
    | some (some v) => some (.ok v s.m)
    | some none => some (.ok z s.m)
    | none => none
  | _ => none
/-! ### l.pop(i) of one's own -/
def gPopAt : MtG := fun d ds s => match d, ds with
  | .o n, [.p (.int 0)] => match s.m[n]? with
    | some (.lst (x :: xs)) => some (.ok x (s.m.set n (.lst xs)))
    | _ => none
  | _, _ => none
/-! ### ranges as data -/
def dRng1 : D → Option D
  | .int j => some (.rng 0 j)
  | _ => none
def dInR (neg : Bool) : D → D → Option D
  | .int i, .rng lo hi => some (.bl (if neg then !decide (lo ≤ i ∧ i < hi) else decide (lo ≤ i ∧ i < hi)))
  | _, _ => none
/-! ### l.index(x), flat items -/
def flatD : D → Bool
  | .non => true
  | .bl _ => true
  | .int _ => true
  | .str _ => true
  | _ => false
def findJ (x : D) : List D → Nat → Option Nat
  | [], _ => none
  | y :: ys, j => if deq y x = true then some j else findJ x ys (j + 1)
def dLindex : D → List D → Option D
  | .lst ys, [x] => if flatD x = true ∧ ys.all flatD = true then (findJ x ys 0).map fun (j : Nat) => .int (j : Int) else none
  | .klst ys, [x] => if flatD x = true ∧ ys.all flatD = true then (findJ x ys 0).map fun (j : Nat) => .int (j : Int) else none
  | _, _ => none
/-! ### from here on it stays: a name's own object is given up -/
def allKP {κ : Type} : List (κ × DV) → Option (List (κ × D))
  | [] => some []
  | (k, .p d) :: r => (allKP r).map ((k, d) :: ·)
  | (_, .o _) :: _ => none
theorem allKP_k : ∀ {ks : List (Key × V)} {ds : List (Key × DV)} {xs : List (Key × D)}, Paired (FRel K Z I) ks ds → allKP ds = some xs → RepK K Z ks xs
  | _, [], _, .nil, e => by cases e; exact .nil
  | (k', v) :: ks, (k, .p d) :: r, _, .cons h t, e => by
    have e : (allKP r).map ((k, d) :: ·) = some _ := e
    cases q : allKP r with
    | none => rw [q] at e; cases e
    | some ys =>
      rw [q] at e; cases e
      obtain ⟨h1, h2⟩ := h
      cases (show k' = k from h1)
      exact .cons h2 (allKP_k t q)
  | _, (_, .o _) :: _, _, .cons h t, e => by cases e
theorem allKP_t : ∀ {ks : List (List Key × V)} {ds : List (List Key × DV)} {xs : List (List Key × D)}, Paired (FRel K Z I) ks ds → allKP ds = some xs → RepT K Z ks xs
  | _, [], _, .nil, e => by cases e; exact .nil
  | (k', v) :: ks, (k, .p d) :: r, _, .cons h t, e => by
    have e : (allKP r).map ((k, d) :: ·) = some _ := e
    cases q : allKP r with
    | none => rw [q] at e; cases e
    | some ys =>
      rw [q] at e; cases e
      obtain ⟨h1, h2⟩ := h
      cases (show k' = k from h1)
      exact .cons h2 (allKP_t t q)
  | _, (_, .o _) :: _, _, .cons h t, e => by cases e
def frzO : O → Option D
  | .lst ds => (allP ds).map .lst
  | _ => none
def sFrz (i : Nat) : SM := fun s => match gv s.l i with
  | some (.o n) => match s.m[n]? with
    | some o => match frzO o with
      | some d => some (.nx, ⟨s.l.set i (some (.p d)), s.m.set n .gone⟩)
      | none => none
    | none => none
  | _ => none
theorem frz_rep {n : Nat} {a : Addr} {o : O} {d : D} (w : Wf K Z H I M) (ha : I[n]? = some a) (hm : M[n]? = some o) (e : frzO o = some d) : ∃ Z', Wf K Z' H I (M.set n .gone) ∧ Ext Z H I Z' H I ∧ Rep K Z' (.ref a) d := by
  cases o with
  | lst ds =>
    obtain ⟨xs, hx, rfl⟩ := Option.map_eq_some_iff.mp (show (allP ds).map D.lst = some d from e)
    obtain ⟨hz, ys, h1, h2⟩ := w.ob n a _ ha hm (by intro z; cases z)
    have x2 := ext_frz w ha hz h1
    exact ⟨_, w.frz ha hm (by intro z; cases z) h1, x2, .lst (.inl upd_same) ((allP_rep h2 hx).mono x2.z)⟩
  | _ => cases e
theorem so_sfrz (i : Nat) {t : TS} {m : SM} (h : SoundS K W t m) : SoundS K W t (sSeq (sFrz i) m) := ⟨fun σ H s Z I r D w rs e p => by
  unfold sSeq sFrz at e
  cases q : gv s.l i with
  | none => simp only [q] at e; cases e
  | some d =>
    cases d with
    | p d => simp only [q] at e; cases e
    | o n =>
      simp only [q] at e
      cases q2 : s.m[n]? with
      | none => simp only [q2] at e; cases e
      | some o =>
        simp only [q2] at e
        cases q3 : frzO o with
        | none => simp only [q3] at e; cases e
        | some d =>
          simp only [q3] at e
          obtain ⟨v, h1, a, ha, rfl⟩ := rs.at_ i _ (gv_some q)
          obtain ⟨Z', w', x', rp⟩ := frz_rep w ha q2 q3
          refine h.ok σ H _ Z' I r D w' ?_ e (p.mono x')
          have r1 := (rs.mono x').set (v := .ref a) (dv := .p d) rp i
          have e2 : σ.set i (some (V.ref a)) = σ := by
            obtain ⟨hl, he⟩ := List.getElem?_eq_some_iff.mp h1
            rw [← he, List.set_getElem_self]
          rw [e2] at r1
          exact r1⟩
theorem dss_frz (i : Nat) {sts : List Stmt} {t : TS} {m : SM} (h : DSs K X W sts t m) : DSs K X W sts t (sSeq (sFrz i) m) := ⟨h.k, h.ps, so_sfrz i h.so⟩
end
end DL
namespace DL
open PySem L2
/-! equations of DL31, and data that stand for values of a type -/
@[simp] theorem e_dget (m n : EM) (s : S) : mDget m n s = (bnd m fun d => bnd n (pur (dgK d))) s := rfl
@[simp] theorem e_dgK (d : DV) (k : D) (s : S) : dgK d k s = (match getM s.m d k with | some (some v) => some (.ok v s.m) | _ => none) := rfl
@[simp] theorem e_din (neg : Bool) (m n : EM) (s : S) : mDin neg m n s = (bnd m (pur fun k => bnd n (dinK neg k))) s := rfl
@[simp] theorem e_dinK (neg : Bool) (k : D) (d : DV) (s : S) : dinK neg k d s = (match getM s.m d k with | some o => some (.ok (.p (.bl (if neg then !o.isSome else o.isSome))) s.m) | _ => none) := rfl
@[simp] theorem e_put (mv md mk : EM) (s : S) : sPut mv md mk s = (liftS mv fun v => liftS md fun d => liftS mk (purS fun k => sPutK v d k)) s := rfl
@[simp] theorem e_purS (k : D → SM) (d : D) (s : S) : purS k (.p d) s = k d s := rfl
@[simp] theorem e_putK (v : DV) (n : Nat) (k : D) (s : S) : sPutK v (.o n) k s = (match putM s.m n k v with | some M => some (.nx, ⟨s.l, M⟩) | none => none) := rfl
@[simp] theorem e_dnew (o : O) (s : S) : mDnew o s = some (.ok (.o s.m.length) (s.m ++ [o])) := rfl
@[simp] theorem e_get1 (d : DV) (k : D) (s : S) : gGet d [.p k] s = (match getM s.m d k with | some (some v) => some (.ok v s.m) | some none => some (.ok (.p .non) s.m) | none => none) := rfl
@[simp] theorem e_get2 (d : DV) (k : D) (z : DV) (s : S) : gGet d [.p k, z] s = (match getM s.m d k with | some (some v) => some (.ok v s.m) | some none => some (.ok z s.m) | none => none) := rfl
@[simp] theorem e_popAt (n : Nat) (s : S) : gPopAt (.o n) [.p (.int 0)] s = (match s.m[n]? with | some (.lst (x :: xs)) => some (.ok x (s.m.set n (.lst xs))) | _ => none) := rfl
@[simp] theorem e_rngD (j : Int) : dRng1 (.int j) = some (.rng 0 j) := rfl
@[simp] theorem e_inR0 (i lo hi : Int) : dInR false (.int i) (.rng lo hi) = some (.bl (decide (lo ≤ i ∧ i < hi))) := rfl
@[simp] theorem e_inR1 (i lo hi : Int) : dInR true (.int i) (.rng lo hi) = some (.bl (!decide (lo ≤ i ∧ i < hi))) := rfl
@[simp] theorem e_sfrz (i : Nat) (s : S) : sFrz i s = (match gv s.l i with
  | some (.o n) => match s.m[n]? with
    | some o => match frzO o with
      | some d => some (.nx, ⟨s.l.set i (some (.p d)), s.m.set n .gone⟩)
      | none => none
    | none => none
  | _ => none) := rfl
@[simp] theorem e_frzL (xs : List DV) : frzO (.lst xs) = (allP xs).map .lst := rfl
@[simp] theorem e_lindex (ys : List D) (x : D) : dLindex (.lst ys) [x] = if flatD x = true ∧ ys.all flatD = true then (findJ x ys 0).map fun (j : Nat) => .int (j : Int) else none := rfl
@[simp] theorem e_flatI (i : Int) : flatD (.int i) = true := rfl
@[simp] theorem e_flatS (i : Str) : flatD (.str i) = true := rfl
@[simp] theorem e_tyOkP (M : List O) (xs : List D) : tyOk "list" M (.p (.lst xs)) = true := rfl
/-! equality -/
theorem scal_deq {d e : D} {b : Bool} (h : scalD d e = some b) : b = deq d e := by
  unfold scalD at h
  split at h <;> first | (cases h; rfl) | cases h
theorem eqD_shp {d e : D} (h1 : shp d = true) (h2 : shp e = true) : eqD d e = some (deq d e) := by
  unfold eqD
  split
  · rename_i h; rw [scal_deq h]
  · rw [h1, h2]; rfl
theorem inD_shp {d : D} {ds : List D} (h1 : shp d = true) (h2 : shp (.lst ds) = true) : inD d (.lst ds) = some (ds.any fun z => deq z d) := by
  have e : inD d (.lst ds) = if (shp d && shp (.lst ds)) = true then some (ds.any fun z => deq z d) else none := by cases d <;> rfl
  rw [e, h1, h2]; rfl
/-- values of a type, as data -/
class En (α : Type) [DecidableEq α] where
  en : α → D
  dq : ∀ a b, deq (en a) (en b) = decide (a = b)
  ok : ∀ a, okD (en a) = true
  dp : Nat
  dpl : ∀ a, depD (en a) ≤ dp
section
variable {α β : Type} [DecidableEq α] [DecidableEq β] [En α] [En β]
instance : En Int := ⟨.int, fun a b => by simp, fun _ => rfl, 0, fun _ => Nat.le_refl _⟩
instance : En Bool := ⟨.bl, fun a b => by simp, fun _ => rfl, 0, fun _ => Nat.le_refl _⟩
theorem deqs_en : ∀ l m : List α, deqs (l.map En.en) (m.map En.en) = decide (l = m)
  | [], [] => rfl
  | [], y :: ys => by simp
  | x :: xs, [] => by simp
  | x :: xs, y :: ys => by
    rw [List.map_cons, List.map_cons, e_deqs1, En.dq, deqs_en xs ys]
    by_cases h1 : x = y <;> by_cases h2 : xs = ys <;> simp [h1, h2]
theorem okDs_en : ∀ l : List α, okDs (l.map En.en) = true
  | [] => rfl
  | x :: xs => by rw [List.map_cons, e_ok1, En.ok, okDs_en xs]; rfl
theorem depDs_en : ∀ l : List α, depDs (l.map En.en) ≤ En.dp α
  | [] => Nat.zero_le _
  | x :: xs => by rw [List.map_cons, e_dp1]; exact Nat.max_le.mpr ⟨En.dpl x, depDs_en xs⟩
instance : En (α × β) := ⟨fun p => .tup [En.en p.1, En.en p.2], fun a b => by
    obtain ⟨a1, a2⟩ := a; obtain ⟨b1, b2⟩ := b
    by_cases h1 : a1 = b1 <;> by_cases h2 : a2 = b2 <;> simp [En.dq, h1, h2], fun a => by simp [En.ok], max (En.dp α) (En.dp β) + 1, fun a => by
    have h1 := En.dpl a.1; have h2 := En.dpl a.2
    simp; omega⟩
instance : En (List α) := ⟨fun l => .lst (l.map En.en), deqs_en, okDs_en, En.dp α + 1, fun l => Nat.succ_le_succ (depDs_en l)⟩
theorem shp_en (a : α) (h : En.dp α ≤ 64) : shp (En.en a) = true := by
  have := En.dpl a
  rw [e_shp, En.ok]; simp; omega
theorem eqD_en (a b : α) (h : En.dp α ≤ 64) : eqD (En.en a) (En.en b) = some (decide (a = b)) := by
  rw [eqD_shp (shp_en a h) (shp_en b h), En.dq]
theorem any_en (a : α) : ∀ l : List α, ((l.map En.en).any fun z => deq z (En.en a)) = decide (a ∈ l)
  | [] => rfl
  | x :: xs => by
    rw [List.map_cons, List.any_cons, En.dq, any_en a xs]
    by_cases h1 : x = a <;> by_cases h2 : a ∈ xs <;> simp [h1, h2, eq_comm]
    all_goals (intro h; exact absurd h.symm h1)
theorem inD_en (a : α) (l : List α) (h : En.dp α + 1 ≤ 64) : inD (En.en a) (.lst (l.map En.en)) = some (decide (a ∈ l)) := by
  rw [inD_shp (shp_en a (by omega)) (shp_en (α := List α) l h), any_en]
end
end DL
namespace DL
open PySem L2
/-! data whose text is short -/
theorem int_rb (i : Int) (h : i.natAbs ≤ 1000000000000000000) : rb (.int i) ≤ 100 := by
  have hl : i.natAbs.log2 < 64 := by
    by_cases h0 : i.natAbs = 0
    · rw [h0]; decide
    · exact (Nat.log2_lt h0).mpr (by omega)
  show (intS i).length ≤ 100
  have := int_text_length_le (k := 64) (by decide) hl
  unfold intS
  rw [ofString_length]
  omega
/-- data of depth n at most, whose text has w signs at most -/
structure Sm (n w : Nat) (d : D) : Prop where
  ok : okD d = true
  dp : depD d ≤ n
  sh : showD d = true
  rb : rb d ≤ w
theorem Sm.int {n w : Nat} {i : Int} (h : i.natAbs ≤ 1000000000000000000) (hw : 100 ≤ w) : Sm n w (.int i) := ⟨rfl, Nat.zero_le _, logOk_of h, Nat.le_trans (int_rb i h) hw⟩
theorem Sm.bl {n w : Nat} {i : Bool} (hw : 5 ≤ w) : Sm n w (.bl i) := ⟨rfl, Nat.zero_le _, rfl, hw⟩
theorem Sm.non {n w : Nat} (hw : 5 ≤ w) : Sm n w .non := ⟨rfl, Nat.zero_le _, rfl, hw⟩
theorem Sm.mono {n w n' w' : Nat} {d : D} (h : Sm n w d) (hn : n ≤ n') (hw : w ≤ w') : Sm n' w' d := ⟨h.ok, Nat.le_trans h.dp hn, h.sh, Nat.le_trans h.rb hw⟩
theorem sm_all {n w : Nat} : ∀ {ds : List D}, (∀ d ∈ ds, Sm n w d) → okDs ds = true ∧ depDs ds ≤ n ∧ showDs ds = true ∧ rbs ds ≤ (w + 2) * ds.length
  | [], _ => ⟨rfl, Nat.zero_le _, rfl, Nat.zero_le _⟩
  | d :: ds, h => by
    have h1 := h d (by simp)
    obtain ⟨a, b, c, e⟩ := sm_all (n := n) (w := w) (ds := ds) fun x hx => h x (List.mem_cons_of_mem _ hx)
    refine ⟨by rw [e_ok1, h1.ok, a]; rfl, by rw [e_dp1]; exact Nat.max_le.mpr ⟨h1.dp, b⟩, ?_, ?_⟩
    · show (showD d && showDs ds) = true
      rw [h1.sh, c]; rfl
    · show DL.rb d + 2 + rbs ds ≤ (w + 2) * (ds.length + 1)
      have := h1.rb
      rw [Nat.mul_succ]
      omega
theorem Sm.lst {n w v : Nat} {ds : List D} (h : ∀ d ∈ ds, Sm n w d) (hv : (w + 2) * ds.length + 3 ≤ v) : Sm (n + 1) v (.lst ds) := by
  obtain ⟨a, b, c, e⟩ := sm_all h
  exact ⟨a, Nat.succ_le_succ b, c, by show rbs ds + 3 ≤ v; omega⟩
theorem Sm.tup {n w v : Nat} {ds : List D} (h : ∀ d ∈ ds, Sm n w d) (hv : (w + 2) * ds.length + 3 ≤ v) : Sm (n + 1) v (.tup ds) := by
  obtain ⟨a, b, c, e⟩ := sm_all h
  exact ⟨a, Nat.succ_le_succ b, c, by show rbs ds + 3 ≤ v; omega⟩
theorem Sm.repr {n w : Nat} {d : D} (h : Sm n w d) (hn : n ≤ 64) (hw : w ≤ 1000000) : dRepr d = some (.str (reprD d)) := by
  unfold dRepr
  have hs : shp d = true := by
    rw [e_shp, h.ok]
    have := h.dp
    simp; omega
  have := h.rb
  rw [hs, h.sh, if_pos (by decide), if_pos (by omega)]
theorem Sm.str {n w : Nat} {s : Str} (h : PyData.strOk s = true) (hw : 10 * s.length + 2 ≤ w) : Sm n w (.str s) := by
  refine ⟨h, Nat.zero_le _, rfl, Nat.le_trans ?_ hw⟩
  refine StrLaws.reprText_len s fun c hc => ?_
  unfold PyData.strOk at h
  rw [← Array.all_toList, List.all_eq_true] at h
  have := of_decide_eq_true (h c hc)
  have e : (1114112 : Nat) ≤ 16 ^ 8 := by decide
  omega
end DL
namespace DL
open PySem L2
section
variable {α κ : Type} [DecidableEq κ]
theorem valO_cons (p : κ × α) (r : List (κ × α)) (k : κ) : valO (p :: r) k = if p.1 = k then some p.2 else valO r k := by
  by_cases h : p.1 = k <;> simp [valO, h]
end
end DL
namespace DL
open PySem L2
@[simp] theorem at2 {α : Type} (x y z : α) (xs : List α) : atI (x :: y :: z :: xs) 2 = some z := atI_nat' (by decide) rfl
@[simp] theorem at3 {α : Type} (x y z u : α) (xs : List α) : atI (x :: y :: z :: u :: xs) 3 = some u := atI_nat' (by decide) rfl
@[simp] theorem at4 {α : Type} (x y z u v : α) (xs : List α) : atI (x :: y :: z :: u :: v :: xs) 4 = some v := atI_nat' (by decide) rfl
@[simp] theorem at5 {α : Type} (x y z u v t : α) (xs : List α) : atI (x :: y :: z :: u :: v :: t :: xs) 5 = some t := atI_nat' (by decide) rfl
end DL
namespace DL
open PySem L2
theorem getM_T {M : List O} {n : Nat} {kvs : List (List Key × DV)} (h : M[n]? = some (.dT kvs)) (k : D) : getM M (.o n) k = (keyT k).map (valO kvs) := by
  unfold getM dcM; simp only [h]; rfl
theorem putM_T {M : List O} {n : Nat} {kvs : List (List Key × DV)} (h : M[n]? = some (.dT kvs)) {k : D} {kk : List Key} (hk : keyT k = some kk) (hl : kvs.length < 1000000) (v : DV) : putM M n k v = some (M.set n (.dT (putO kvs kk v))) := by
  unfold putM; simp only [h, hk, if_pos hl]
@[simp] theorem tyOk_dT {M : List O} {n : Nat} {kvs : List (List Key × DV)} (h : M[n]? = some (.dT kvs)) : tyOk "dict" M (.o n) = true := by
  unfold tyOk; simp only [h]; rfl
end DL
namespace DL
open PySem L2
/-- a loop, its turns counted -/
theorem w_loopN {g : GM} {b : SM} {Inv : Nat → S → Prop} {R : DV → S → Prop} : ∀ (ds : List DV) (n : Nat) (s : S), Inv n s →
    (∀ d ∈ ds, ∀ m, n ≤ m → m < n + ds.length → ∀ s, Inv m s → ∃ s1, g d s = some s1 ∧ wpS (b s1) (fun f s2 => (f = .nx ∧ Inv (m + 1) s2) ∨ (∃ v, f = .rt v ∧ R v s2))) →
    wpS (loopS g b ds s) (fun f s2 => (f = .nx ∧ Inv (n + ds.length) s2) ∨ (∃ v, f = .rt v ∧ R v s2))
  | [], n, s, h, _ => by simp; exact h
  | d :: ds, n, s, h, k => by
    obtain ⟨s1, h1, f, s2, e, nn, p⟩ := k d (by simp) n (Nat.le_refl _) (by simp) s h
    rw [loopS_cons, h1]
    dsimp only
    rw [e]
    rcases p with ⟨rfl, p⟩ | ⟨v, rfl, p⟩
    · have := w_loopN (R := R) ds (n + 1) s2 p fun x hx m h1 h2 => k x (List.mem_cons_of_mem _ hx) m (by omega) (by simp; omega)
      rw [show n + 1 + ds.length = n + (d :: ds).length by simp; omega] at this
      exact this
    · exact ⟨_, _, rfl, rfl, .inr ⟨v, rfl, p⟩⟩
theorem list_of {α : Type} {f : α → D} {p : α → Prop} : ∀ {ys : List D}, (∀ y ∈ ys, ∃ a, y = f a ∧ p a) → ∃ l : List α, ys = l.map f ∧ ∀ a ∈ l, p a
  | [], _ => ⟨[], rfl, by simp⟩
  | y :: ys, h => by
    obtain ⟨a, rfl, ha⟩ := h y (by simp)
    obtain ⟨l, rfl, hl⟩ := list_of fun z hz => h z (List.mem_cons_of_mem _ hz)
    exact ⟨a :: l, rfl, fun b hb => by
      rcases List.mem_cons.mp hb with rfl | hb
      · exact ha
      · exact hl b hb⟩
@[simp] theorem intsFrom_len (lo : Int) (n : Nat) : (DL.intsFrom lo n).length = n := by unfold DL.intsFrom; simp
end DL
namespace DL
open PySem L2
end DL
namespace DL
open PySem PySem.Spec PyProof.Rows L2 LamX NdefX
/-! ### lambdas: the object, its promise -/
theorem lamO_at {P : Program} {w : World} {H : Hp} {h : Heap} {f : Addr} {F : NF} {body : Expr} (hok : HOk P w H h) (e : H f = some (LamO f F body)) : ∃ (od : Option Addr) (sl : Array (Option Value)) (pm ctv : Value), h.get? f = some (⟨.type "function", od, .func (PySem.W.kla_fn F.name F.qual F.params body F.scope F.cl pm (.ref F.c) ctv), sl⟩ : Obj) :=
  (hok f _ e).1
section
variable {X : Cx} {pins : List (Addr × Obj)} {σ : L2.St} {H : Hp} {s : Shared}
theorem inv_lam {F : NF} {body : Expr} {o : Obj} {t' : Nat} {pm ctv : Value} (I : Inv X pins σ H s) (ho : o = PySem.W.kla_obj F.name F.qual F.params body F.scope F.cl pm F.c ctv) :
    Inv X pins σ (upd H s.heap.objs.size (LamO s.heap.objs.size F body)) { s with heap := s.heap.push o, toks := t' } := by
  subst ho
  refine I.laid (a := s.heap.objs.size) (fun b u e => Heap.get?_push_of_some _ e) (Nat.le_refl _) ?_
  have e : (s.heap.push (PySem.W.kla_obj F.name F.qual F.params body F.scope F.cl pm F.c ctv)).get? s.heap.objs.size = some (PySem.W.kla_obj F.name F.qual F.params body F.scope F.cl pm F.c ctv) := Heap.get?_push_size _ rfl
  exact ⟨⟨_, _, pm, ctv, e⟩, ⟨_, e⟩, fun h1 h2 ⟨od, sl, p, t, z⟩ st => ⟨od, sl, p, t, st _ z⟩⟩
/-- the lambda is made: its code object is new, or found in the table -/
theorem lam_make3 {nm : Str} {c P : Addr} {params : Arguments} {body : Expr} {scope : Scope} {pos : Pos} {E : Value → Shared → Prop} {Q : Value → Shared → Prop} {ps : Array Value} (I : Inv X pins σ H s) (TB : TabB X.base X.mg c P) (hcode : X.env.code = .ref c)
    (hn : nm = X.env.qual ++ "<lambda>") (hP : H P = some (.tbl ps)) (ht : TriplesOk ps.toList) (ha : ∀ (pos : Pos) (cv : Value), codeAmong pos ps.toList = some cv → ∃ c, cv = .ref c ∧ H c = some (CodeO c nm)) (hdef : defaultsOf params X.env = ([], [])) (hfree : ∀ y ∈ scope.names, y.2 = .free → ∃ c, X.env.cells.lookup y.1 = some c)
    (h : ∀ (f c' : Addr) (H1 : Hp) (s' : Shared) (ps' : Array Value), Inv X pins σ H1 s' → (∀ b o, b ≠ P → H b = some o → H1 b = some o) → (∀ b, H1 b = Option.none → H b = Option.none) → H1 P = some (.tbl ps') → TriplesOk ps'.toList →
      (∀ (pos : Pos) (cv : Value), codeAmong pos ps'.toList = some cv → codeAmong pos ps.toList = some cv ∨ cv = .ref c') → H f = none → f ≠ c' → (H c' = none ∨ ∃ pos, codeAmong pos ps.toList = some (.ref c')) → H1 f = some (LamO f ⟨"<lambda>", nm, params, [], scope, cloFrom X.env.cells scope.names [], c'⟩ body) → H1 c' = some (CodeO c' nm) → Q (.ref f) s') :
    wpAny (model X.prog X.w) X.A (eval (.Lambda params body scope pos) X.env) Q E s := by
  subst hn
  refine PySem.W.kla_eval hdef ?_
  have bP : s.heap.BuiltinsAt X.mg P := TB.bm.keeps I.bk
  have hP' : s.heap.get? P = some { cls := .none, data := .fields ps } := I.hok P _ hP
  cases hc : codeAmong pos ps.toList with
  | none =>
    refine PySem.W.kla_makeFunction (mg := X.mg) (c := c) (P := P) (ps := ps) (closure_ok hfree) I.ok.glob (I.mod.glob.keeps I.bk) hcode (TB.code.keeps I.bk) hP' ht hc TB.gP bP fun c' ctv h' tk hx hge hlt hrec htb => ?_
    obtain ⟨c2, oc, vs, t, e2, hoc, hd, hv⟩ := hrec
    cases e2
    have nC : H c' = none := I.hok.fresh hge
    have I1 := inv_table (t' := tk) (more := #[rawInt pos.line, rawInt pos.col, .ref c']) (h' := h') I hP (fun b o hb e => hx b o hb e) htb hge ⟨oc, vs, t, hoc, hd, hv⟩
    have nF := I1.hok.fresh (Nat.le_refl _)
    have I2 := inv_lam (F := ⟨"<lambda>", X.env.qual ++ "<lambda>", params, [], scope, cloFrom X.env.cells scope.names [], c'⟩) (body := body) (t' := tk) (pm := (X.mg "__name__").getD .none) (ctv := ctv) I1 rfl
    have eL : (ps ++ #[rawInt pos.line, rawInt pos.col, .ref c']).toList = ps.toList ++ [rawInt pos.line, rawInt pos.col, .ref c'] := by simp
    have nPf : P ≠ h'.objs.size := Nat.ne_of_lt (Heap.lt_size htb)
    refine h h'.objs.size c' _ _ (ps ++ #[rawInt pos.line, rawInt pos.col, .ref c']) I2 (fun b o hb e => ?_) (fun b e => upd_none (upd_none (upd_none e))) ?_ (by rw [eL]; exact PySem.TriplesOk_snoc _ _ _ _ ht) (fun p' cv hcv => ?_) (I.hok.fresh (Nat.le_trans hge (Nat.le_of_lt hlt))) (Nat.ne_of_gt hlt) (.inl nC) upd_same ?_
    · have nb : b ≠ h'.objs.size := fun z => by
        have := I.hok.fresh (Nat.le_trans hge (Nat.le_of_lt hlt))
        rw [← z] at this; rw [this] at e; cases e
      rw [upd_ne nb, upd_ne (ne_of_none e nC), upd_ne hb]; exact e
    · rw [upd_ne nPf, upd_ne (ne_of_none hP nC), upd_same]
    · rw [eL] at hcv
      exact among_app _ ht hcv
    · exact (upd_ne (Nat.ne_of_lt hlt)).trans upd_same
  | some cv =>
    obtain ⟨c', e, hco⟩ := ha pos cv hc
    subst e
    refine PySem.W.kla_makeFunctionHit (mg := X.mg) (c := c) (P := P) (ps := ps) (closure_ok hfree) I.ok.glob (I.mod.glob.keeps I.bk) hcode (TB.code.keeps I.bk) hP' ht hc bP fun ctv h' tk hx hsz => ?_
    have I1 : Inv X pins σ H { s with heap := h', toks := tk } := I.kept hx
    have nF : H h'.objs.size = none := I1.hok.fresh (Nat.le_refl _)
    have I2 := inv_lam (F := ⟨"<lambda>", X.env.qual ++ "<lambda>", params, [], scope, cloFrom X.env.cells scope.names [], c'⟩) (body := body) (t' := tk) (pm := (X.mg "__name__").getD .none) (ctv := ctv) I1 rfl
    refine h h'.objs.size c' _ _ ps I2 (fun b o hb e => ?_) (fun b e => upd_none e) ?_ ht (fun p' cv hcv => ?_) nF (fun z => by rw [z] at nF; rw [nF] at hco; cases hco) (.inr ⟨pos, hc⟩) upd_same ?_
    · exact (upd_ne (ne_of_none e nF)).trans e
    · exact (upd_ne (ne_of_none hP nF)).trans hP
    · exact .inl hcv
    · exact (upd_ne (ne_of_none hco nF)).trans hco
end
/-- the promise of the lambda F at f: sp ws, ws what its captured cells hold at the call -/
structure LOk (P : Program) (w : World) (K : PySem.W.Frag) (mg : Str → Option Value) (base : Heap) (CX : CXT) (k : Nat) (f : Addr) (F : NF) (body : Expr) (ps fr : List Str) (sp : List (Option V) → Sp) : Prop where
  len : ∀ ws vs H Q E, sp ws vs H Q E → vs.length = ps.length
  run : ∀ (A : Around) (outer : List Env) (s : Shared) (H : Hp) (us : List Value) (vs : List V) (ws : List (Option V)) (Q : VK) (E : XK), Room k A → Env0 P w K mg base A outer s H → H f = some (LamO f F body) → H F.c = some (CodeO F.c F.qual) →
    CellsAt F.cl fr ws s.heap H → Vals vs us → sp ws vs H Q E → codeAny (model P w) A (.call (.ref f) ⟨us, []⟩) (CR CX outer P w H s Q E) s
section
variable {CX : CXT} {P : Program} {w : World} {K : PySem.W.Frag} {mg : Str → Option Value} {base : Heap} {N ps fr : List Str} {F : NF} {f : Addr} {k j : Nat} {body : Expr} {sp : List (Option V) → Sp}
theorem lok_of (S : NScope N ps fr F.scope) (hb : ∀ (pm ctv : Value) (us : List Value), us.length = ps.length → bindArgs (PySem.W.kla_fn F.name F.qual F.params body F.scope F.cl pm (.ref F.c) ctv) ⟨us, []⟩ = pure (ps.zip us)) (len : ∀ ws vs H Q E, sp ws vs H Q E → vs.length = ps.length)
    (hbody : ∀ (A : Around) (outer : List Env) (s : Shared) (H : Hp) (vs : List V) (ws : List (Option V)) (Q : VK) (E : XK), Room k (A.deeper (envF F f s.heap.objs.size)) → ws.length = fr.length → sp ws vs H Q E →
      ∃ t, PE (ncx CX P w K mg base N F f A outer s H E) body t ∧ t (startF N vs ws) H Q) :
    LOk P w K mg base CX (k + 1) f F body ps fr sp := by
  refine ⟨len, fun A outer s H us vs ws Q E hr e0 hf hc C r hsp => ?_⟩
  have hl := len _ _ _ _ _ hsp
  have lim : s.heap.NoLimit := e0.mod.nolimit.keeps fun b o e => (e0.bs b o e).1
  obtain ⟨od, sl, pm, ctv, ho⟩ := lamO_at e0.hok hf
  refine PySem.W.kla_callFunE hr.depth ho rfl S.co S.gen rfl (codeO_at e0.hok hc) ?_
  rw [hb pm ctv us (by rw [← r.length]; exact hl)]
  refine wpAny_pure (wpAny_newFunctionEnv S.nocell (fun ⟨n, _⟩ hy => S.par n (List.of_mem_zip hy).1) (fun h₁ hns hsb => ⟨lim.fresh _ hsb, ?_⟩) S.kind)
  show codeAny _ _ (.expr body (envF F f s.heap.objs.size)) _ _
  have kp : ∀ b o, s.heap.get? b = some o → h₁.get? b = some o := fun b o e => hsb.extBut b o (Nat.ne_of_lt (Heap.lt_size e)) (Heap.get?_push_of_some _ e)
  obtain ⟨t, hte, hq⟩ := hbody A outer s H vs ws Q E (hr.deeper _) C.len hsp
  have I : Inv (ncx CX P w K mg base N F f A outer s H E) [] (startF N vs ws) H { s with heap := h₁, toks := s.toks + (ps.zip us).length } := inv_startN S hr.hd e0 hl r C hns kp
  refine PySem.W.kla_codeExpr (wpAny_mono (hte.run [] _ (startF N vs ws) H Q I hq) (fun v s' hs => ?_) fun e s' hs => hs)
  obtain ⟨w', H', J, rv, q⟩ := hs
  exact ⟨w', H', J.os, J.bare, J.base, J.hok, rv, q⟩
end
end DL
namespace DL
open PySem L2 PySem.W
open PyProof.Rows (seqObj get?_update_seq listUpdate_at listItems_at seqEpoch_at size_push' ksk_rest ksk_fold ksk_tree ksk_t1)
open PyProof.Rows (seqObj get?_update_seq listUpdate_at listItems_at seqEpoch_at size_push' ksk_rest ksk_fold ksk_tree ksk_t1 ksk_s1 ksk_l1)
section
variable {X : Cx} {pins : List (Addr × Obj)} {σ : St} {H Z : Hp} {s : Shared}
end
end DL
namespace DL
open PySem PySem.Spec L2 LamX NdefX
/-! ### sorted(e, key=lambda p: body) -/
def tLam (P : Addr) (nm : Str) (mk : Addr → NF) (body : Expr) : TE := fun σ H Q => ∃ ps : Array Value, H P = some (.tbl ps) ∧ TriplesOk ps.toList ∧ (∀ (pos : Pos) (cv : Value), codeAmong pos ps.toList = some cv → ∃ c, cv = .ref c ∧ H c = some (CodeO c nm)) ∧
  ∀ (f c' : Addr) (H1 : Hp) (ps' : Array Value), (∀ b o, b ≠ P → H b = some o → H1 b = some o) → (∀ b, H1 b = Option.none → H b = Option.none) → H1 P = some (.tbl ps') → TriplesOk ps'.toList →
    (∀ (pos : Pos) (cv : Value), codeAmong pos ps'.toList = some cv → codeAmong pos ps.toList = some cv ∨ cv = .ref c') → H f = none → f ≠ c' → (H c' = none ∨ ∃ pos, codeAmong pos ps.toList = some (.ref c')) → H1 f = some (LamO f (mk c') body) → H1 c' = some (CodeO c' nm) → Q (.ref f) H1
abbrev lamF (X : Cx) (nm : Str) (params : Arguments) (scope : Scope) (c' : Addr) : NF := ⟨"<lambda>", nm, params, [], scope, cloFrom X.env.cells scope.names [], c'⟩
theorem pe_lam {X : Cx} {nm : Str} {c P : Addr} {params : Arguments} {body : Expr} {scope : Scope} {pos : Pos} (TB : TabB X.base X.mg c P) (hcode : X.env.code = .ref c) (hn : nm = X.env.qual ++ "<lambda>") (hdef : defaultsOf params X.env = ([], []))
    (hfree : ∀ y ∈ scope.names, y.2 = .free → X.env.scope.names.lookup y.1 = some .cell ∨ X.env.scope.names.lookup y.1 = some .free) : PE X (.Lambda params body scope pos) (tLam P nm (lamF X nm params scope) body) := ⟨fun pins s σ H Q I h => by
  obtain ⟨ps, hP, ht, ha, h⟩ := h
  have hfr : ∀ y ∈ scope.names, y.2 = .free → ∃ c, X.env.cells.lookup y.1 = some c := fun y hy e => (hfree y hy e).elim (fun z => I.ok.has _ (.inl z)) fun z => I.ok.has _ (.inr z)
  exact lam_make3 I TB hcode hn hP ht ha hdef hfr fun f c' H1 s' ps' I1 k1 k2 k3 k4 k5 k6 k7 k8 k9 k10 => ⟨.ref f, H1, I1, rfl, h f c' H1 ps' k1 k2 k3 k4 k5 k6 k7 k8 k9 k10⟩⟩
section
variable {P : Program} {w : World} {K : PySem.W.Frag} {mg : Str → Option Value} {base : Heap} {N : List Str} {p : Str} {F : NF} {f : Addr} {k : Nat} {body : Expr} {em : EM}
end
section
variable {X : Cx} {pins : List (Addr × Obj)} {σ : L2.St} {H : Hp} {s : Shared}
end
section
variable {X : Cx}
end
def tblAt (M : List O) (i : Nat) (P : Addr) (nm : Str) : Bool := match M[i]? with
  | some (.tbl P' q) => decide (P' = P) && decide (q = nm)
  | _ => false
theorem tbl_at {K : PySem.W.Frag} {Z H : Hp} {I : List Addr} {M : List O} {i : Nat} {P : Addr} {nm : Str} (w : Wf K Z H I M) (h : tblAt M i P nm = true) : I[i]? = some P ∧ M[i]? = some (.tbl P nm) := by
  unfold tblAt at h
  split at h
  · rename_i P' q e
    rw [Bool.and_eq_true, decide_eq_true_eq, decide_eq_true_eq] at h
    obtain ⟨rfl, rfl⟩ := h
    refine ⟨?_, e⟩
    have hl := (List.getElem?_eq_some_iff.mp e).1
    have hi : I[i]? = some (I[i]'(by rw [w.len]; exact hl)) := List.getElem?_eq_getElem (by rw [w.len]; exact hl)
    obtain ⟨_, r, _⟩ := w.ob i _ _ hi e (by intro z; cases z)
    rw [hi, r]
  · cases h
/-- a lambda is made: the heap behind it -/
theorem lam_wf {K : PySem.W.Frag} {Z H H1 : Hp} {I : List Addr} {M : List O} {i : Nat} {P f c' : Addr} {nm : Str} {ps ps' : Array Value} {F : NF} {body : Expr} (w : Wf K Z H I M) (hi : I[i]? = some P) (hm : M[i]? = some (.tbl P nm)) (hP : H P = some (.tbl ps)) (hz : ∀ (pos : Pos) (cv : Value), codeAmong pos ps.toList = some cv → ∃ c, cv = .ref c ∧ Z c = some (CodeO c nm))
    (k1 : ∀ b o, b ≠ P → H b = some o → H1 b = some o) (k2 : ∀ b, H1 b = Option.none → H b = Option.none) (k3 : H1 P = some (.tbl ps')) (k4 : TriplesOk ps'.toList) (k5 : ∀ (pos : Pos) (cv : Value), codeAmong pos ps'.toList = some cv → codeAmong pos ps.toList = some cv ∨ cv = .ref c') (k6 : H f = none) (k6' : f ≠ c')
    (k7 : H c' = none ∨ ∃ pos, codeAmong pos ps.toList = some (.ref c')) (k8 : H1 f = some (LamO f F body)) (k9 : H1 c' = some (CodeO c' nm)) : ∃ Z', Wf K Z' H1 I M ∧ Ext Z H I Z' H1 I ∧ Z' f = some (LamO f F body) ∧ Z' c' = some (CodeO c' nm) := by
  have hPi : P ∈ I := List.mem_of_getElem? hi
  have nfP : f ≠ P := fun z => by rw [z, hP] at k6; cases k6
  have zc : Z c' = none ∨ Z c' = some (CodeO c' nm) := by
    rcases k7 with k7 | ⟨pos, k7⟩
    · exact .inl (none_of w.sub k7)
    · obtain ⟨c, e, h⟩ := hz pos _ k7
      cases e; exact .inr h
  have ncP : c' ≠ P := fun z => by
    rw [z, k3] at k9
    exact codeO_ne (c := P) (q := nm) ps' (Option.some.inj k9).symm
  have zf : Z f = none := none_of w.sub k6
  let Z' : Hp := upd (upd Z c' (CodeO c' nm)) f (LamO f F body)
  have sZ : Same Z Z' := fun b o e => by
    show upd (upd Z c' (CodeO c' nm)) f (LamO f F body) b = some o
    rw [upd_ne (ne_of_none e zf)]
    by_cases q : b = c'
    · subst q
      rcases zc with z | z
      · rw [z] at e; cases e
      · rw [upd_same, ← e, z]
    · rw [upd_ne q]; exact e
  have sub : Same Z' H1 := fun b o e => by
    have e : upd (upd Z c' (CodeO c' nm)) f (LamO f F body) b = some o := e
    by_cases q : b = f
    · subst q; rw [upd_same] at e; rw [← e]; exact k8
    · rw [upd_ne q] at e
      by_cases q2 : b = c'
      · subst q2; rw [upd_same] at e; rw [← e]; exact k9
      · rw [upd_ne q2] at e
        refine k1 b o (fun z => ?_) (w.sub b o e)
        have := (w.ob i P _ hi hm (by intro z; cases z)).1
        rw [z, this] at e; cases e
  have fin : ∀ a, Z' a ≠ none → Z a ≠ none ∨ Fr H a ∨ a ∈ I := fun a q => by
    have q : upd (upd Z c' (CodeO c' nm)) f (LamO f F body) a ≠ none := q
    by_cases z : a = f
    · rw [z]; exact .inr (.inl (.inl k6))
    · rw [upd_ne z] at q
      by_cases z2 : a = c'
      · rw [z2]
        rcases k7 with k7 | ⟨pos, k7⟩
        · exact .inr (.inl (.inl k7))
        · obtain ⟨c, e, h⟩ := hz pos _ k7
          cases e
          exact .inl (by rw [h]; simp)
      · rw [upd_ne z2] at q; exact .inl q
  have x : Ext Z H I Z' H1 I := ⟨sZ, ⟨[], by simp⟩, fun b o e n => k1 b o (fun z => n (by rw [z]; exact hPi)) e, fun _ h => .inl h, fin, fun b e q => e (k2 b q)⟩
  have znone : ∀ a ∈ I, Z a = none → Z' a = none := fun a ha e => by
    cases q : Z' a with
    | none => rfl
    | some o =>
      have q' : upd (upd Z c' (CodeO c' nm)) f (LamO f F body) a = some o := q
      have nf : a ≠ f := fun z => absurd k6 (by rw [← z]; exact w.tr a ha)
      rw [upd_ne nf] at q'
      by_cases z2 : a = c'
      · rcases k7 with k7 | ⟨pos, k7⟩
        · exact absurd k7 (by rw [← z2]; exact w.tr a ha)
        · obtain ⟨c, e2, h⟩ := hz pos _ k7
          cases e2
          rw [← z2, e] at h; cases h
      · rw [upd_ne z2, e] at q'; cases q'
  refine ⟨Z', ⟨sub, w.len, w.nd, fun a ha q => w.tr a ha (k2 a q), fun n a o h1 h2 h3 => ?_⟩, x, upd_same, ?_⟩
  · obtain ⟨q1, q2⟩ := w.ob n a o h1 h2 h3
    have hai : a ∈ I := List.mem_of_getElem? h1
    refine ⟨q1.imp (znone a hai), ?_⟩
    by_cases hn : n = i
    · subst hn
      rw [hi] at h1; cases h1
      rw [hm] at h2; cases h2
      refine ⟨rfl, ps', k3, k4, fun pos cv hcv => ?_⟩
      rcases k5 pos cv hcv with z | z
      · obtain ⟨c, e, h⟩ := hz pos cv z
        exact ⟨c, e, sZ _ _ h⟩
      · exact ⟨c', z, by show upd (upd Z c' (CodeO c' nm)) f (LamO f F body) c' = _; rw [upd_ne (Ne.symm k6'), upd_same]⟩
    · have naP : a ≠ P := fun z => by
        obtain ⟨l1, e1⟩ := List.getElem?_eq_some_iff.mp h1
        obtain ⟨l2, e2⟩ := List.getElem?_eq_some_iff.mp hi
        exact hn ((List.getElem_inj w.nd).mp (e1.trans (z.trans e2.symm)))
      refine q2.ext w.sub x ?_
      cases q : H a with
      | none => exact absurd q (w.tr a hai)
      | some u => exact k1 a u naP q
  · show upd (upd Z c' (CodeO c' nm)) f (LamO f F body) c' = _
    rw [upd_ne (Ne.symm k6'), upd_same]
section
variable {K : PySem.W.Frag} {X : Cx} {W : WX} {e : Expr} {pos p p2 kp lpos : Pos}
end
end DL
namespace DL
open PySem PySem.Spec PyProof.Rows L2 LamX NdefX
/-! ### the end of a law whose defs make lambdas: tables of code objects -/
def tbls : List Addr → List Str → List O
  | P :: Ps, q :: qs => .tbl P q :: tbls Ps qs
  | _, _ => []
theorem tbls_len : ∀ (Ps : List Addr) (qs : List Str), Ps.length = qs.length → (tbls Ps qs).length = Ps.length
  | [], _, _ => by cases ‹List Str› <;> rfl
  | _ :: _, [], h => by cases h
  | P :: Ps, q :: qs, h => by
    show (tbls Ps qs).length + 1 = Ps.length + 1
    rw [tbls_len Ps qs (by simpa using h)]
theorem tbls_at : ∀ {Ps : List Addr} {qs : List Str} {n : Nat} {b : Addr} {o : O}, Ps[n]? = some b → (tbls Ps qs)[n]? = some o → ∃ q, o = .tbl b q
  | [], _, _, _, _, h, _ => by simp at h
  | _ :: _, [], _, _, _, _, h => by simp [tbls] at h
  | P :: Ps, q :: qs, 0, b, o, h1, h2 => by
    simp at h1; simp [tbls] at h2
    exact ⟨q, by rw [← h1, h2]⟩
  | P :: Ps, q :: qs, n + 1, b, o, h1, h2 => tbls_at (Ps := Ps) (qs := qs) (n := n) (by simpa using h1) (by simpa [tbls] using h2)
section
variable {P : Program} {w : World} {K : PySem.W.Frag} {mg : Str → Option Value} {base : Heap} {x qual : Str} {st : Stmt} {f a : Addr} {fd : FuncData} {N : List Str} {k : Nat}
/-- from the entry on -/
theorem run_topT {m : SM} {cs : List (Addr × Addr)} {nms : List Str} {s₁ : Shared} {H : Hp} {ns : List Int} {p : Str} (F : Fun K x qual st f fd) (Sc : FnScope N [p] (defScope st)) (hr : Room (k + 1) callerA) (body : TopB P w K mg base N qual st f k m)
    (e0 : Env0 P w K mg base callerA [] s₁ H) (hb : BindsTo s₁ fd ⟨[.ref a], []⟩ [(p, .ref a)]) (hH : ∀ p ∈ cs, H p.2 = some (.tbl #[])) (hS : SqL K H a (ns.map V.int)) (hO : ∀ b, H b = none ∨ b ∈ cs.map (·.2) ∨ ∃ o xs, H b = some (.frz o (.lst xs))) (aT : a ∉ cs.map (·.2)) (hT : ∀ p ∈ cs, s₁.heap.get? p.2 = some { cls := .none, data := .fields #[] }) (C : ∀ p ∈ cs, PySem.W.CodeHd s₁.heap p.1 p.2) (nd : (cs.map (·.2)).Nodup) (hln : cs.length = nms.length) (good : ∃ s, m ⟨slotsOf N.length ([D.scr (ns.map .int)].map .p), tbls (cs.map (·.2)) nms⟩ = some (.rt (.p (.bl true)), s)) :
    codeAny (model P w) callerA (.call (.ref f) ⟨[.ref a], []⟩) (Told s₁) s₁ := by
  obtain ⟨oc, od, kV, doc, pm, an, cdv, ct, osl, rfl, lk, hcd⟩ := F.ex
  have inS : ∀ b o, base.get? b = some o → s₁.heap.get? b = some o := fun b o q => (e0.bs b o q).1
  have KS : K.In s₁.heap := e0.mod.kin.keeps inS
  have NL : s₁.heap.NoLimit := e0.mod.nolimit.keeps inS
  refine codeAny_mono (R := CR (L2.CX P w) [] P w H s₁ (fun v _ => v = V.bl true) (fun _ _ _ => False)) ?_ fun r s' h => ?_
  rotate_left
  · cases r with
    | error e =>
      obtain ⟨_, _, _, _, _, _, _, _, _, _, _, _, z⟩ := (show L2.CX P w [] H s₁ (fun _ _ _ => False) e s' from h)
      exact z.elim
    | ok fl =>
      cases fl with
      | ret u =>
        obtain ⟨v, H', os, bare, un, hok, rv, e⟩ := h
        have e : v = V.bl true := e
        subst e
        obtain rfl : u = Value.bool true := rv
        have key : ∀ b o, b ∉ cs.map (·.2) → s₁.heap.get? b = some o → s'.heap.get? b = some o := fun b o nb e => by
          rcases hO b with z | z | ⟨ob, xs, z⟩
          · exact un.keep b o e z (by intro q; exact absurd (show b ∈ ([] : List Addr) from q) (by simp)) (by simp)
          · exact absurd z nb
          · obtain ⟨e1, _⟩ := e0.hok b _ z
            obtain ⟨e2, _⟩ := hok b _ (un.frzs b ob _ z)
            rw [e] at e1; cases e1
            exact e2
        have grown : ∀ p ∈ cs, ∃ more : Array Value, s'.heap.get? p.2 = some { cls := .none, data := .fields more } := fun p hp => by
          obtain ⟨more, z⟩ := un.tbls p.2 #[] (hH p hp)
          exact ⟨_, hok p.2 _ z⟩
        refine ⟨rfl, ⟨fun b o e => ?_, fun b o e => ?_⟩, os, bare⟩
        · by_cases hb : b ∈ cs.map (·.2)
          · obtain ⟨p, hp, ep⟩ := List.mem_map.mp hb
            obtain ⟨more, hm⟩ := grown p hp
            rw [← ep] at e ⊢
            rw [hT p hp] at e
            cases e
            exact .inr (.inl ⟨((C p hp).tab (hT p hp)).isCodeTable, rfl, #[], more, rfl, by rw [Array.empty_append]; exact hm⟩)
          · exact .inl (key b o hb e)
        · by_cases hb : b ∈ cs.map (·.2)
          · obtain ⟨p, hp, ep⟩ := List.mem_map.mp hb
            obtain ⟨more, hm⟩ := grown p hp
            rw [← ep]
            exact ⟨_, hm⟩
          · exact ⟨o, key b o hb e⟩
      | next => exact False.elim h
      | brk => exact False.elim h
      | cont => exact False.elim h
  -- the frame is made, the script bound
  refine PySem.codeAny_call_function hr.depth (KS _ _ lk) rfl Sc.co Sc.gen rfl (PySem.W.codeRec_of KS hcd) (hb _ _ _ _ ?_)
  refine PySem.wpAny_newFunctionEnv_cells Sc.kind (fun y hy => ?_) fun env he s2 made => ?_
  · obtain ⟨n, v⟩ := y
    rcases Sc.par n (List.of_mem_zip (l₁ := [p]) (l₂ := [Value.ref a]) hy).1 with q | q
    · exact .inl q
    · exact .inr ⟨q, PySem.W.cellsFrom_some _ _ _ (.inl q)⟩
  subst he
  refine ⟨NL.keeps made.toInCall.keep, PySem.codeAny_func ?_⟩
  obtain ⟨t, d⟩ := body cdv s₁ H (fun _ _ _ => False) (hr.deeper _)
  have I := inv_start (CX := L2.CX P w) (E := fun _ _ _ => False) Sc hr.hd e0 (vs := [.ref a]) rfl (.cons rfl .nil) made
  have q : t { nx := fun _ H' => (fun v (_ : Hp) => v = V.bl true) .non H', rt := fun v _ => v = V.bl true } (L2.start N [.ref a]) H := by
    let Z0 : Hp := fun b => if b ∈ cs.map (·.2) then none else H b
    have w0 : Wf K Z0 H (cs.map (·.2)) (tbls (cs.map (·.2)) nms) := by
      refine ⟨fun b o e => ?_, by rw [tbls_len _ _ (by rw [List.length_map]; exact hln)], nd, fun b hb => ?_, fun n b o h1 h2 h3 => ?_⟩
      · have e : (if b ∈ cs.map (·.2) then none else H b) = some o := e
        split at e
        · cases e
        · exact e
      · obtain ⟨p, hp, rfl⟩ := List.mem_map.mp hb
        rw [hH p hp]; simp
      · have hb : b ∈ cs.map (·.2) := List.mem_of_getElem? h1
        refine ⟨ZN.of (if_pos hb) _, ?_⟩
        obtain ⟨p, hp, rfl⟩ := List.mem_map.mp hb
        obtain ⟨q, rfl⟩ := tbls_at h1 h2
        refine ⟨rfl, #[], hH p hp, trivial, fun pos cv z => ?_⟩
        have z : codeAmong pos [] = some cv := z
        simp [codeAmong] at z
    have hS0 : SqL K Z0 a (ns.map V.int) := by
      rcases hS with z | z
      · refine .inl ?_
        have ea : Z0 a = H a := if_neg aT
        unfold Rd at z ⊢
        rw [ea]; exact z
      · exact .inr z
    obtain ⟨s1, z⟩ := good
    refine d.so.ok (L2.start N [.ref a]) H _ Z0 (cs.map (·.2)) _ _ w0 (start_rep (.cons (show RepV K Z0 (cs.map (·.2)) (.ref a) (.p (.scr (ns.map .int))) from Rep.scr hS0 (intsRep ns)) .nil)) z ?_
    exact fun v Z' H' I' w' x' r' => by cases r'; rfl
  refine wpAny_mono (d.ps.run [] s2 (L2.start N [.ref a]) H _ I q) (fun fl s' h => ?_) fun e s' h => ?_
  · cases fl with
    | ret u =>
      obtain ⟨v, σ', H', J, rv, e⟩ := h
      exact ⟨v, H', J.os, J.bare, J.base, J.hok, rv, e⟩
    | next =>
      obtain ⟨σ', H', J, e⟩ := h
      cases e
    | brk =>
      obtain ⟨_, _, _, e⟩ := h
      exact False.elim e
    | cont =>
      obtain ⟨_, _, _, e⟩ := h
      exact False.elim e
  · exact h
end
/-! ### a def that makes lambdas: its code object is known -/
section
variable {P : Program} {w : World} {K : PySem.W.Frag} {mg : Str → Option Value} {base : Heap} {x qual : Str} {st : Stmt} {f : Addr} {fd : FuncData} {N ps : List Str} {k : Nat}
theorem Fun.okC {sp : Sp} (F : Fun K x qual st f fd) (S : FnScope N ps (defScope st)) (len : ∀ vs H Q E, sp vs H Q E → vs.length = ps.length)
    (hbody : ∀ (A : Around) (outer : List Env) (s : Shared) (H : Hp) (vs : List V) (Q : VK) (E : XK), Room k (A.deeper (envOfC qual (defScope st) s.heap.objs.size f fd.code)) → sp vs H Q E →
      ∃ t, PSs (cxOf (L2.CX P w) P w K mg base N qual (defScope st) f fd.code A outer s H E) (defBody st) t ∧ t { nx := fun _ H' => Q .non H', rt := Q } (start N vs) H) : FnOk P w K mg base (L2.CX P w) (k + 1) f fd ps sp := by
  obtain ⟨oc, od, kV, doc, pm, an, cdv, ct, osl, rfl, lk, hcd⟩ := F.ex
  exact fn_of lk hcd S len fun A outer s H vs Q E hr hsp => hbody A outer s H vs Q E hr hsp
theorem fnBC {m : SM} (F : Fun K x qual st f fd) (Sc : FnScope N ps (defScope st))
    (body : ∀ (A : Around) (outer : List Env) (s : Shared) (H : Hp) (E : XK), Room k (A.deeper (PyProof.Rows.envOfC qual (defScope st) s.heap.objs.size f fd.code)) →
      ∃ t, DSs K (cxOf (L2.CX P w) P w K mg base N qual (defScope st) f fd.code A outer s H E) (WE0 E) (defBody st) t m) : FnOk P w K mg base (L2.CX P w) (k + 1) f fd ps (spB K ps.length (runB N.length m)) := by
  refine Fun.okC F Sc spB_len fun A outer s H vs Q E hr h => ?_
  obtain ⟨hl, Z, I, M, ds, r, w0, rp, e, p⟩ := h
  obtain ⟨t, b⟩ := body A outer s H E hr
  refine ⟨t, b.ps, ?_⟩
  unfold runB at e
  cases z : m ⟨slotsOf N.length ds, M⟩ with
  | none => rw [z] at e; cases e
  | some fs =>
    rw [z] at e
    obtain ⟨fl, s1⟩ := fs
    refine b.so.ok (L2.start N vs) H ⟨slotsOf N.length ds, M⟩ Z I _ _ w0 (start_rep rp) z ?_
    cases fl with
    | nx =>
      cases e
      intro σ' Z' H' I' w' rs' x'
      obtain ⟨I2, w2, x2, r2, _⟩ := drop_ok (d := .p .non) (v := .non) w0 w' x' (show Rep K Z' .non .non from .non)
      exact p _ Z' H' I2 w2 x2 r2
    | rt d =>
      cases e
      intro v Z' H' I' w' x' r'
      obtain ⟨I2, w2, x2, r2, _⟩ := drop_ok w0 w' x' r'
      exact p v Z' H' I2 w2 x2 r2
    | ex c fs =>
      cases e
      intro σ' d Z' H' I' w' rs' x' ea na
      obtain ⟨I2, w2, x2, _, h2⟩ := drop_ok (d := .p .non) (v := .non) w0 w' x' (show Rep K Z' .non .non from .non)
      exact p d Z' H' I2 w2 x2 ea fun a q => ⟨(na a q).1, fun m => (na a q).2 (h2 a m)⟩
    | bk => cases e
    | ct => cases e
end
end DL
namespace DL
open PySem L2 PySem.W
/-! ### sorted(xs) of data -/
section
variable {X : Cx} {pins : List (Addr × Obj)} {σ : St} {H Z : Hp} {s : Shared}
theorem each_rep {K : PySem.W.Frag} {Z : Hp} : ∀ {us : List Value} {vs : List V} {ds : List D}, Vals vs us → RepA K Z vs ds → EachIs (fun u d => ∃ v, RelV v u ∧ Rep K Z v d) us ds
  | _, _, _, .nil, .nil => .nil
  | _, _, _, .cons r1 t1, .cons r2 t2 => .cons ⟨_, r1, r2⟩ (each_rep t1 t2)
theorem each_readsP (I : Inv X pins σ H s) (sz : Same Z H) : ∀ {us : List Value} {vs : List V} {ks : List D}, Vals vs us → RepA X.K Z vs ks → (∀ k ∈ ks, shp k = true) → EachIs (fun u d => ∃ as, Reads s.heap u (toP d) as) us ks
  | _, _, _, .nil, .nil, _ => .nil
  | _, _, _, .cons r1 t1, .cons (d := d) r2 t2, h => .cons (Dp.reads I (toP d) _ _ (r2.dp sz (shaped_can (h d List.mem_cons_self))) r1) (each_readsP I sz t1 t2 fun k hk => h k (List.mem_cons_of_mem _ hk))
theorem each_vals1 {K : PySem.W.Frag} {Z : Hp} : ∀ {us : List Value} {ps : List D}, EachIs (fun u d => ∃ v, RelV v u ∧ Rep K Z v d) us ps → ∃ vs, Vals vs us ∧ RepA K Z vs ps
  | _, _, .nil => ⟨[], .nil, .nil⟩
  | _, _, .cons h t => by
    obtain ⟨v, r1, r2⟩ := h
    obtain ⟨vs, q1, q2⟩ := each_vals1 t
    exact ⟨v :: vs, .cons r1 q1, .cons r2 q2⟩
noncomputable def sortL (ds : List D) : List D := ds.mergeSort (dataLe false toP)
noncomputable def dSort : D → Option D
  | .lst ds => if (ds.all shp && sortOk (toPs ds)) = true then some (.lst (sortL ds)) else none
  | _ => none
def rSortP (K : PySem.W.Frag) : List V → Hp → VK → Prop := fun vs H Q => ∃ (x : V) (Z : Hp) (d c : D), vs = [x] ∧ Same Z H ∧ Rep K Z x d ∧ dSort d = some c ∧ PostP K Z H c Q
theorem cr_sortP (hu : X.A.units + 67 < cLine) : CallR X (.builtin "sorted") (rSortP X.K) := by
  intro pins s σ H vs us Q I r h
  obtain ⟨x, Z, d, c, rfl, sz, hx, hd, p⟩ := h
  unfold dSort at hd
  split at hd
  · split at hd
    · rename_i ds hc
      cases hd
      rw [Bool.and_eq_true] at hc
      have hsp : ∀ k ∈ ds, shp k = true := fun k hk => List.all_eq_true.mp hc.1 k hk
      cases hx with
      | lst h1 h2 =>
        obtain ⟨its, rv, hl, hz⟩ := I.list (.inl (same_rd sz h1))
        rw [Vals.ref1 r]
        have hal : AllAlike (ds.map toP) := by rw [← toPs_map]; exact sortOk_like hc.2
        have hso : Sortable (ds.map toP) := by rw [← toPs_map]; exact sortOk_sortable hc.2
        refine sorted_data hl.isList (each_rep rv h2) (each_readsP I sz rv h2 hsp) hal hso (by rw [← h2.length]; exact hz) (fun b hb => ?_) fun out ho eo => ?_
        · have z := hsp b hb
          unfold shp at z
          rw [Bool.and_eq_true] at z
          have y := of_decide_eq_true z.2
          have dd : (toP b).depth = depD b := depD_dep b z.1
          rw [dd]; omega
        · obtain ⟨ov, o1, o2⟩ := each_vals1 eo
          obtain ⟨ep, he'⟩ := PyProof.Rows.sortedAll_at s.heap its out.toArray
          have hn : H (s.heap.objs.size + 1) = none := I.hok.fresh (Nat.le_succ _)
          have hlen : ov.length ≤ sizeLine := by rw [o1.length, ho, ← h2.length]; exact hz
          have xp := ExtP.new (o := .lst ov) sz hn
          exact ⟨.ref _, upd H (s.heap.objs.size + 1) (.lst ov), I.laid (t' := s.toks) (fun _ _ => PyProof.Rows.sortedAll_old) (Nat.le_succ _) ⟨hlen, out, ep, o1, he'⟩, rfl, p _ _ _ xp (.lst (.inl upd_same) (o2.mono xp.z))⟩
    · cases hd
  · cases hd
end
section
variable {K : PySem.W.Frag} {X : Cx} {W : WX} {e a b c tg : Expr} {es : List Expr} {pos : Pos}
theorem units67 {k : Nat} {A : Around} (r : Room k A) : A.units + 67 < cLine := by have := r.un; omega
theorem cd_sort (hu : X.A.units + 67 < cLine) : CallD K X (.builtin "sorted") (rSortP K) (g1 dSort) := ⟨fun k => by rw [← k]; exact cr_sortP hu, g1_ok fun x d c Z H Q s hx hg p => ⟨x, Z, d, c, rfl, s, hx, hg, p⟩⟩
/-! ### max(xs), min(xs) of ints -/
def intsD : List D → Option (List Int)
  | [] => some []
  | .int i :: r => (intsD r).map (i :: ·)
  | _ :: _ => none
theorem intsD_map : ∀ ns : List Int, intsD (ns.map .int) = some ns
  | [] => rfl
  | n :: r => by show (intsD (r.map .int)).map (n :: ·) = _; rw [intsD_map r]; rfl
/-! ### list(x): a new list -/
def dList : D → Option D
  | .lst xs => some (.lst xs)
  | .klst xs => some (.lst xs)
  | .tup xs => some (.lst xs)
  | .ktup xs => some (.lst xs)
  | _ => none
theorem cd_list : CallD K X (.type "list") (fun xs H Q => ∃ p ys, xs = [.ref p] ∧ (SqL K H p ys ∨ SqT K H p ys) ∧ ∀ l, H l = none → Q (.ref l) (upd H l (.lst ys))) (g1 dList) := ⟨fun k => by rw [← k]; exact call_list_of, g1_ok fun x d c Z H Q s hx hg p => by
  have main : ∀ {a : Addr} {vs : List V} {ds : List D}, (SqL K H a vs ∨ SqT K H a vs) → RepA K Z vs ds → PostP K Z H (.lst ds) Q → ∃ p ys, [V.ref a] = [V.ref p] ∧ (SqL K H p ys ∨ SqT K H p ys) ∧ ∀ l, H l = none → Q (.ref l) (upd H l (.lst ys)) := fun h r p =>
    ⟨_, _, rfl, h, fun l hl => p _ _ _ (ExtP.new s hl) (.lst (.inl upd_same) (r.mono (ExtP.new s hl).z))⟩
  cases hx with
  | lst h1 h2 => cases hg; exact main (.inl (.inl (same_rd s h1))) h2 p
  | klst h1 h2 => cases hg; exact main (.inl (same_l s h1)) h2 p
  | tup h1 h2 => cases hg; exact main (.inr (sqt s h1)) h2 p
  | ktup h1 h2 => cases hg; exact main (.inr (same_t s h1)) h2 p
  | _ => cases hg⟩
/-! ### bits -/
def dShl : D → D → Option D := dI fun i j => if 0 ≤ j ∧ j ≤ 100000 ∧ Builtin.Int.intBits i ≤ 100000 then some (.int (i * 2 ^ j.toNat)) else none
def dBand : D → D → Option D := dIi Builtin.bitAnd
def dBor : D → D → Option D := dIi Builtin.bitOr
def dBxor : D → D → Option D := dIi Builtin.bitXor
theorem od_shl : OpD K X (binaryOp .LShift) (rI CShl fun i j => .int (i * 2 ^ j.toNat)) dShl := ⟨fun _ => op_shlW, ok_rI fun i j c h => by
  split at h
  · rename_i hc
    cases h
    refine ⟨⟨hc.1, ?_⟩, fun _ => .int _⟩
    have : (2 : Int) ^ 27 = 134217728 := by decide
    omega
  · cases h⟩
theorem od_band : OpD K X (binaryOp .BitAnd) (rI0 fun i j => .int (Builtin.bitAnd i j)) dBand := ⟨fun _ => op_and, ok_rI0 fun i j c h Z => by cases h; exact .int _⟩
theorem od_bor : OpD K X (binaryOp .BitOr) (rI0 fun i j => .int (Builtin.bitOr i j)) dBor := ⟨fun _ => op_or, ok_rI0 fun i j c h Z => by cases h; exact .int _⟩
theorem od_bxor : OpD K X (binaryOp .BitXor) (rI0 fun i j => .int (Builtin.bitXor i j)) dBxor := ⟨fun _ => op_xor, ok_rI0 fun i j c h Z => by cases h; exact .int _⟩
def dInv : D → Option D
  | .int i => some (.int (Builtin.bitNot i))
  | _ => none
theorem de_inv {ta : TE} {m : EM} (ha : DE K X W a ta m) : DE K X W (.UnaryOp .Invert a pos) (tUn (rU fun i => .int (Builtin.bitNot i)) ta) (mUn dInv m) :=
  ⟨ha.k, pe_un un_inv ha.pe, so_un (fun x d c Z H Q s hx hg p => by
    unfold dInv at hg
    split at hg
    · cases hx; cases hg; exact ⟨_, rfl, p _ Z H (ExtP.refl s) (.int _)⟩
    · cases hg) ha.so⟩
/-! ### enumerate, reversed(range(..)) -/
end
end DL
namespace DL
open PySem L2
/-- the name of the lambdas of a def -/
def lamq (x : Str) : Str := x ++ ".<locals>." ++ "<lambda>"
/-- the table of a code object of the written part -/
def codeTab (K : PySem.W.Frag) (c : Addr) : Addr := match K.lookup c with
  | some ⟨_, _, .fields vs, _⟩ => match (vs[11]? : Option Value) with
    | some (.ref P) => P
    | _ => 0
  | _ => 0
theorem tb_of {base : Heap} {mg : Str → Option Value} {cs : List (Addr × Addr)} {i : Nat} {c P : Addr} (hB : ∀ p ∈ cs, LamX.TabB base mg p.1 p.2) (h : cs[i]? = some (c, P)) : LamX.TabB base mg c ((cs.map (·.2)).getD i 0) := by
  have e : (cs.map (·.2)).getD i 0 = P := by
    rw [List.getD_eq_getElem?_getD, List.getElem?_map, h]; rfl
  rw [e]
  exact hB _ (List.mem_of_getElem? h)
end DL
namespace DL
open PySem L2
/-! ### equations and steps that no law owns: numbers of a list that pass a test, comprehensions, statements one by one, draws behind a table -/
theorem en_ls {α : Type} [DecidableEq α] [En α] (l : List α) : (En.en l : D) = .lst (l.map En.en) := rfl
theorem rng_ok {i : Int} (h : -1000000 ≤ i) (h2 : i ≤ 1000000) : rngOk i = true := by unfold rngOk; simp; omega
def enO {α : Type} [DecidableEq α] [En α] : Option α → D
  | some a => En.en a
  | none => .non
theorem lcs (it : IM) (vs : List Nat) (g : GM) (t e : EM) (s : S) (ds : List DV) (xs : List D) (h : it s = some (.ok ds s.m)) (h2 : compL (wipeL s.l vs) g t e ds [] s.m = some (xs, s.m)) : mLc it vs g t e s = some (.ok (.p (.lst xs)) s.m) := by
  rw [e_lc, e_bnd, h]
  show (match compL (wipeL s.l vs) g t e ds [] s.m with | some (acc, M) => some (Rs.ok (DV.p (D.lst acc)) M) | none => none) = _
  rw [h2]
theorem runA_ret (n : Nat) (m : EM) (ds : List D) (z : D) (h : m ⟨slotsOf n (ds.map .p), []⟩ = some (.ok (.p z) [])) : runA n (sRet m) ds = some (.ok z) := by
  rw [e_runA, e_sret, e_lift, h]
def lx {α : Type} (a b : α → Int) (p q : α) : Bool := decide (a p < a q ∨ (a p = a q ∧ b p ≤ b q))
theorem all_shp {α : Type} [DecidableEq α] [En α] (h : En.dp α ≤ 64) (l : List α) : (l.map En.en).all shp = true := by
  rw [List.all_eq_true]
  intro d hd
  obtain ⟨a, _, rfl⟩ := List.mem_map.mp hd
  exact shp_en a h
theorem seq_asg (m : EM) (g : GM) (k : SM) (s s1 : S) (d : DV) (M : List O) (h1 : m s = some (.ok d M)) (h2 : g d ⟨s.l, M⟩ = some s1) : sSeq (sAsg m g) k s = k s1 := by
  rw [e_seq, e_asg, e_lift, h1]
  show (match (match g d ⟨s.l, M⟩ with | some s1 => some (Fl.nx, s1) | none => none) with | some (.nx, s1) => k s1 | r => r) = _
  rw [h2]
theorem seq_for (it : IM) (g : GM) (b k : SM) (s s1 : S) (ds : List DV) (r : Fl × S) (h1 : it s = some (.ok ds s.m)) (h2 : loopS g b ds s = some (.nx, s1)) (h3 : k s1 = some r) : sSeq (sFor it g b) k s = some r := by
  rw [e_seq, e_for, e_lift, h1]
  show (match loopS g b ds s with | some (.nx, s1) => k s1 | r => r) = _
  rw [h2]
  exact h3
theorem loop_step (g : GM) (b : SM) (d : DV) (ds : List DV) (s s1 s2 : S) (h1 : g d s = some s1) (h2 : b s1 = some (.nx, s2)) : loopS g b (d :: ds) s = loopS g b ds s2 := by
  rw [loopS_cons, h1]
  show (match b s1 with | none => none | some (.nx, s2) => loopS g b ds s2 | some (.ct, s2) => loopS g b ds s2 | some (.bk, s2) => some (.nx, s2) | some (.rt v, s2) => some (.rt v, s2) | some (.ex c f, s2) => some (.ex c f, s2)) = _
  rw [h2]
theorem map_comp {α β : Type} [DecidableEq α] [En α] [DecidableEq β] [En β] {l : List (Option DV)} {g : GM} {e : EM} {M : List O} (f : α → β) (ds : List α) (h : ∀ a, ∃ s1 : S, g (.p (En.en a)) ⟨l, M⟩ = some s1 ∧ s1.m = M ∧ e s1 = some (.ok (.p (En.en (f a))) M)) (hl : ds.length ≤ 1000000) : compL l g tYesM e ((ds.map En.en).map .p) [] M = some ((ds.map f).map En.en, M) := by
  have main : ∀ (ds : List α) (acc : List D), acc.length + ds.length ≤ 1000000 → compL l g tYesM e ((ds.map En.en).map .p) acc M = some (acc ++ (ds.map f).map En.en, M) := by
    intro ds
    induction ds with
    | nil => intro acc _; simp [compL]
    | cons a ds ih =>
      intro acc hn
      simp only [List.length_cons] at hn
      obtain ⟨s1, h1, h2, h3⟩ := h a
      show compL _ _ _ _ (.p (En.en a) :: (ds.map En.en).map .p) acc M = _
      unfold compL
      rw [h1]
      have q : tYesM s1 = some (.ok (.p (.bl true)) s1.m) := rfl
      dsimp only
      rw [q]
      dsimp only
      have q2 : e ⟨s1.l, s1.m⟩ = some (.ok (.p (En.en (f a))) M) := h3
      rw [q2]
      dsimp only
      rw [if_pos (by omega), ih _ (by simp; omega)]
      simp
  have := main ds [] (by simpa using hl)
  simpa using this
theorem lcsD (i : Nat) (vs : List Nat) (g : GM) (e : EM) (l : List (Option DV)) (M : List O) (ds xs : List D) (h : gv l i = some (.p (.lst ds))) (h2 : compL (wipeL l vs) g tYesM e (ds.map .p) [] M = some (xs, M)) : mLc (mItD itL (mVar i)) vs g tYesM e ⟨l, M⟩ = some (.ok (.p (.lst xs)) M) := by
  refine lcs _ vs g _ e ⟨l, M⟩ (ds.map .p) xs ?_ h2
  simp [e_bnd, h]
theorem bit_sub (N m : Nat) : ∀ k, (N - (N &&& m)).testBit k = (N.testBit k && !m.testBit k)
  | 0 => by
    rw [Nat.testBit_zero, Nat.testBit_zero, Nat.testBit_zero]
    have h1 : (N &&& m) % 2 = 1 ↔ N % 2 = 1 ∧ m % 2 = 1 := Nat.and_mod_two_eq_one
    have h2 : N &&& m ≤ N := Nat.and_le_left
    rw [Bool.eq_iff_iff, Bool.and_eq_true, decide_eq_true_eq, decide_eq_true_eq, Bool.not_eq_true', decide_eq_false_iff_not]
    omega
  | k + 1 => by
    rw [Nat.testBit_succ, Nat.testBit_succ, Nat.testBit_succ, ← bit_sub (N / 2) (m / 2) k]
    have h1 : (N &&& m) % 2 = 1 ↔ N % 2 = 1 ∧ m % 2 = 1 := Nat.and_mod_two_eq_one
    have h2 : N &&& m ≤ N := Nat.and_le_left
    have h3 : (N &&& m) / 2 = N / 2 &&& m / 2 := Nat.and_div_two
    rw [← h3]
    congr 1
    omega
theorem bor_nat (N m : Nat) : Builtin.bitOr (N : Int) (m : Int) = ((N ||| m : Nat) : Int) := by
  unfold Builtin.bitOr Builtin.bitAnd Builtin.bitNot
  have h1 : decide (0 ≤ -(N : Int) - 1) = false := by simp; omega
  have h2 : decide (0 ≤ -(m : Int) - 1) = false := by simp; omega
  rw [h1, h2]
  dsimp only
  have e1 : (-(-(N : Int) - 1) - 1).toNat = N := by omega
  have e2 : (-(-(m : Int) - 1) - 1).toNat = m := by omega
  rw [e1, e2]
  omega
theorem bandn_nat (N m : Nat) : Builtin.bitAnd (N : Int) (Builtin.bitNot (m : Int)) = ((N - (N &&& m) : Nat) : Int) := by
  unfold Builtin.bitAnd Builtin.bitNot
  have h1 : decide (0 ≤ (N : Int)) = true := by simp
  have h2 : decide (0 ≤ -(m : Int) - 1) = false := by simp; omega
  rw [h1, h2]
  dsimp only
  have e2 : (-(-(m : Int) - 1) - 1).toNat = m := by omega
  rw [e2, Int.toNat_natCast]
  have h2 : N &&& m ≤ N := Nat.and_le_left
  omega
theorem band_nat (N m : Nat) : Builtin.bitAnd (N : Int) (m : Int) = ((N &&& m : Nat) : Int) := by
  unfold Builtin.bitAnd
  have h1 : decide (0 ≤ (N : Int)) = true := by simp
  have h2 : decide (0 ≤ (m : Int)) = true := by simp
  rw [h1, h2]
  rfl
theorem shl_eq {i j : Int} (h0 : 0 ≤ j) (h1 : j ≤ 100000) (h2 : i.natAbs < 2 ^ 100000) : dShl (.int i) (.int j) = some (.int (i * 2 ^ j.toNat)) := by
  unfold dShl dI
  exact if_pos ⟨h0, h1, intBits_le_iff.mpr h2⟩
theorem shl_one {j : Int} (h0 : 0 ≤ j) (h1 : j ≤ 100000) : dShl (.int 1) (.int j) = some (.int ((2 ^ j.toNat : Nat) : Int)) := by
  rw [shl_eq h0 h1 (Nat.one_lt_two_pow (by decide)), Int.one_mul]
  congr 2
theorem mul_eq {i j : Int} (h : mulOk i j = true) : dMul (.int i) (.int j) = some (.int (i * j)) := if_pos h
theorem div_eq {i j : Int} (h : 0 < j ∧ j < 18446744073709551616) : dDiv (.int i) (.int j) = some (.int (i / j)) := if_pos h
def intL (cells : List Int) : O := .lst (cells.map fun z => .p (.int z))
theorem take_raw {k c : Nat} {i : Int} {cells : List Int} {M : List O} (hk : M[k]? = some (.lst [.p (.int i), .o c])) (hc : M[c]? = some (intL cells)) (kc : k ≠ c) (hi : 0 ≤ i) (ne : cells ≠ []) (nn : ∀ z ∈ cells, 0 ≤ z) (most : Int) (hm : most < 18446744073709551616) : ∃ r M', takeM [.o k, .p (.int most)] M = some (.ok (.p (.int r)) M') ∧ (M' = M ∨ (∃ cells', M' = M.set c (intL cells') ∧ cells' ≠ [] ∧ ∀ z ∈ cells', 0 ≤ z) ∨ M' = M.set k (.lst [.p (.int (i + 1)), .o c])) ∧ (most < 1 → r = 0) ∧ (1 ≤ most → 0 ≤ r ∧ r < most) := by
  by_cases h1 : most < 1
  · refine ⟨0, M, ?_, .inl rfl, fun _ => rfl, fun h2 => by omega⟩
    simp [e_bnd, e_seq, e_lift, e_runA, e_runB, takeM, takeB, h1, dropM_len]
  · have hl : 0 < cells.length := List.length_pos_iff.mpr ne
    have hl' : (0 : Int) < (cells.length : Int) := by omega
    have a0 : 0 ≤ i % (cells.length : Int) := Int.emod_nonneg _ (by omega)
    have a1 : i % (cells.length : Int) < (cells.length : Int) := Int.emod_lt_of_pos _ hl'
    have aN : (i % (cells.length : Int)).toNat < cells.length := by omega
    have hg := atI_nat' (xs := cells.map fun z => DV.p (.int z)) a0 (get_map aN)
    have cn : 0 ≤ cells[(i % (cells.length : Int)).toNat] := nn _ (List.getElem_mem aN)
    generalize hz : cells[(i % (cells.length : Int)).toNat] = z at hg cn
    have m0 : 0 < most := by omega
    unfold intL at hc
    by_cases h2 : 1000000000000000000 ≤ z
    · refine ⟨z % most, M.set c (intL (cells.set (i % (cells.length : Int)).toNat (z / most))), ?_, .inr (.inl ⟨_, rfl, by simpa using ne, ?_⟩), fun h3 => absurd h3 h1, fun _ => ⟨Int.emod_nonneg _ (by omega), Int.emod_lt_of_pos _ m0⟩⟩
      · have hs := setL_ok (M := M) (n := c) (d := .p (.int (z / most))) hc a0 (by rw [List.length_map]; exact a1)
        unfold intL
        simp [e_bnd, e_seq, e_lift, e_runA, e_runB, takeM, takeB, h1, hk, hc, atI0, atI1, hl, hl', hg, h2, e_set, e_setK, m0, hm, hs, dropM_len]
      · intro y hy
        rcases List.mem_or_eq_of_mem_set hy with q | q
        · exact nn y q
        · rw [q]; exact Int.ediv_nonneg cn (by omega)
    · have hs := setL_ok (M := M) (n := k) (d := .p (.int (i + 1))) (j := 0) hk (by decide) (by simp)
      have hk' : (M.set k (.lst [DV.p (.int (i + 1)), .o c]))[k]? = some (.lst [.p (.int (i + 1)), .o c]) := by
        rw [List.getElem?_set_self (List.getElem?_eq_some_iff.mp hk).1]
      refine ⟨((((z * 48271 + (i + 1) * 69621) % 2147483647) * 16807 + (i + 1) * 7919) % 1000000007) / 7 % most, M.set k (.lst [.p (.int (i + 1)), .o c]), ?_, .inr (.inr rfl), fun h3 => absurd h3 h1, fun _ => ⟨Int.emod_nonneg _ (by omega), Int.emod_lt_of_pos _ m0⟩⟩
      simp [e_bnd, e_seq, e_lift, e_runA, e_runB, takeM, takeB, h1, hk, hc, atI0, atI1, hl, hl', hg, h2, e_set, e_setK, m0, hm, hs, hk', dropM_len, mulOkR]
structure DB (T : O) (n : Nat) (sv : DV) (B : List O) : Prop where
  len : B.length = n
  tb : B[0]? = some T
  cl : B.all (closed n) = true
  ex : ∃ (k c : Nat) (i : Int) (cells : List Int), sv = .o k ∧ k ≠ 0 ∧ c ≠ 0 ∧ B[k]? = some (.lst [.p (.int i), .o c]) ∧ B[c]? = some (intL cells) ∧ k ≠ c ∧ 0 ≤ i ∧ cells ≠ [] ∧ ∀ z ∈ cells, 0 ≤ z
theorem w_asgE (m : EM) (i : Nat) (K : SM) (s : S) (d : DV) (M : List O) (P : Fl → S → Prop) (h1 : m s = some (.ok d M)) (h2 : wpS (K ⟨s.l.set i (some d), M⟩) P) : wpS (sSeq (sAsg m (gN i)) K s) P := by
  rw [seq_asg m (gN i) K s ⟨s.l.set i (some d), M⟩ d M h1 rfl]
  exact h2
theorem w_asgT (m : EM) (i : Nat) (K : SM) (s : S) (P : Fl → S → Prop) (h : wpB (m s) fun d M => wpS (K ⟨s.l.set i (some d), M⟩) P) : wpS (sSeq (sAsg m (gN i)) K s) P := by
  obtain ⟨d, M, e, h⟩ := h
  exact w_asgE m i K s d M P e h
theorem w_ifE (c : EM) (a K : SM) (s : S) (M : List O) (P : Fl → S → Prop) (h1 : c s = some (.ok (.p (.bl false)) M)) (h2 : wpS (K ⟨s.l, M⟩) P) : wpS (sSeq (sIf c a sNil) K s) P := by
  have e : sIf c a sNil s = some (.nx, ⟨s.l, M⟩) := by
    rw [e_sif, e_lift, h1]
    rfl
  rw [e_seq, e]
  exact h2
theorem w_ifZ (c : EM) (a : SM) (s : S) (M : List O) (P : Fl → S → Prop) (h1 : c s = some (.ok (.p (.bl false)) M)) (h2 : P .nx ⟨s.l, M⟩) : wpS (sIf c a sNil s) P := by
  have e : sIf c a sNil s = some (.nx, ⟨s.l, M⟩) := by
    rw [e_sif, e_lift, h1]
    rfl
  rw [e]
  exact ⟨_, _, rfl, rfl, h2⟩
theorem reprB (b : Bool) : ∃ z, dRepr (.bl b) = some z ∧ eqD z z = some true := by
  have := Sm.repr (Sm.bl (n := 0) (w := 5) (i := b) (Nat.le_refl _)) (by decide) (by decide)
  exact ⟨_, this, by rw [e_eqSS]; simp⟩
theorem w_call2 (f : List DV → List O → Option (Rs DV)) (i : Nat) (me : EM) (l : List (Option DV)) (M : List O) (d e : DV) (Q : DV → List O → Prop) (h1 : gv l i = some d) (h2 : me ⟨l, M⟩ = some (.ok e M)) (h : wpB (f [d, e] M) Q) : wpB (mCallB 2 f (aCons (mVar i) (aCons me aNil)) ⟨l, M⟩) Q := by
  obtain ⟨v, M2, e1, q⟩ := h
  refine ⟨v, M2, ?_, q⟩
  simp [e_bnd, h1, h2, e1]
theorem w_call1 (f : List DV → List O → Option (Rs DV)) (i : Nat) (l : List (Option DV)) (M : List O) (d : DV) (Q : DV → List O → Prop) (h1 : gv l i = some d) (h : wpB (f [d] M) Q) : wpB (mCallB 1 f (aCons (mVar i) aNil) ⟨l, M⟩) Q := by
  obtain ⟨v, M2, e1, q⟩ := h
  refine ⟨v, M2, ?_, q⟩
  simp [e_bnd, h1, e1]
theorem callA2 (f : MA) (i j : Nat) (l : List (Option DV)) (M : List O) (x y d : D) (h1 : gv l i = some (.p x)) (h2 : gv l j = some (.p y)) (e : f [x, y] = some (.ok d)) : mCallA 2 f (aCons (mVar i) (aCons (mVar j) aNil)) ⟨l, M⟩ = some (.ok (.p d) M) := by
  simp [e_bnd, h1, h2, e]
theorem w_forE (it : IM) (g : GM) (b K : SM) (s s1 : S) (ds : List DV) (P : Fl → S → Prop) (h1 : it s = some (.ok ds s.m)) (h2 : loopS g b ds s = some (.nx, s1)) (h3 : wpS (K s1) P) : wpS (sSeq (sFor it g b) K s) P := by
  obtain ⟨f, s2, e, nn, p⟩ := h3
  exact ⟨f, s2, seq_for it g b K s s1 ds _ h1 h2 e, nn, p⟩
end DL
namespace DL
open PySem L2
section
variable {K : PySem.W.Frag} {X : Cx} {W : WX} {e a b c tg : Expr} {es : List Expr} {pos : Pos}
/-! ### a list behind a list: a new own list -/
def lsO (M : List O) : DV → Option (List DV)
  | .p (.lst xs) => some (xs.map .p)
  | .p (.klst xs) => some (xs.map .p)
  | .o n => match M[n]? with
    | some (.lst ds) => some ds
    | _ => none
  | _ => none
def mCatO (m n : EM) : EM := bnd m fun d => bnd n fun e s => match lsO s.m d, lsO s.m e with
  | some xs, some ys => if xs.length + ys.length ≤ 1000000 then some (.ok (.o s.m.length) (s.m ++ [.lst (xs ++ ys)])) else none
  | _, _ => none
@[simp] theorem e_catO (m n : EM) (s : S) : mCatO m n s = (bnd m fun d => bnd n fun e s => match lsO s.m d, lsO s.m e with
  | some xs, some ys => if xs.length + ys.length ≤ 1000000 then some (.ok (.o s.m.length) (s.m ++ [.lst (xs ++ ys)])) else none
  | _, _ => none) s := rfl
@[simp] theorem e_lsP (M : List O) (xs : List D) : lsO M (.p (.lst xs)) = some (xs.map .p) := rfl
@[simp] theorem e_lsK (M : List O) (xs : List D) : lsO M (.p (.klst xs)) = some (xs.map .p) := rfl
@[simp] theorem e_lsO (M : List O) (n : Nat) : lsO M (.o n) = (match M[n]? with | some (.lst ds) => some ds | _ => none) := rfl
end
end DL
namespace DL
open PySem L2 PySem.W
section
variable {K : PySem.W.Frag} {X : Cx} {W : WX} {e a b c tg : Expr} {es : List Expr} {pos p p2 kp : Pos}
/-! ### sum(xs) of ints; min and max with default= -/
def dSum : D → Option D
  | .lst ds => (intsD ds).map fun ns => .int ns.sum
  | _ => none
@[simp] theorem e_sumI (ns : List Int) : dSum (.lst (ns.map .int)) = some (.int ns.sum) := by
  show (intsD (ns.map .int)).map _ = _
  rw [intsD_map]; rfl
def bestD (g : List Int → Int → Int) : D → D → Option D
  | .lst ds, .int j => (intsD ds).map fun ns => .int (g ns j)
  | _, _ => none
def mBestDf (g : List Int → Int → Int) (m n : EM) : EM := bnd m (pur fun d => bnd n (pur fun z => ret (bestD g d z)))
@[simp] theorem e_best (g : List Int → Int → Int) (m n : EM) (s : S) : mBestDf g m n s = (bnd m (pur fun d => bnd n (pur fun z => ret (bestD g d z)))) s := rfl
@[simp] theorem e_bestI (g : List Int → Int → Int) (ns : List Int) (j : Int) : bestD g (.lst (ns.map .int)) (.int j) = some (.int (g ns j)) := by
  show (intsD (ns.map .int)).map _ = _
  rw [intsD_map]; rfl
end
end DL
namespace DL
open PySem L2 PySem.Spec PyProof.Rows
/-! ### a call of a local that holds a def: the defs that it may hold, with their addresses -/
structure VFn (P : Program) (w : World) (K : PySem.W.Frag) (mg : Str → Option Value) (base : Heap) (k n : Nat) (f : Addr) (m : MA) : Prop where
  ex : ∃ (fd : FuncData) (ps : List Str), FnOk P w K mg base (L2.CX P w) k f fd ps (spA K n m) ∧ PySem.W.keepIn K (.ref f) = true ∧ Binds K fd ps []
section
variable {K : PySem.W.Frag} {X : Cx} {W : WX} {e : Expr} {es : List Expr} {pos p : Pos} {x : Str} {i n k : Nat} {tb : List (Addr × MA)} {t : TA} {ms : AM}
end
end DL
namespace DL
open PySem PySem.Spec L2 PyProof.Rows
/-! ### the end of a law whose mirrors speak of the addresses of defs -/
end DL
namespace DL
open PySem PySem.Spec L2 PyProof.Rows
/-! ### a text in a dict of the module: the keys, and texts that are known to be none -/
def KIn (K : PySem.W.Frag) (w : World) (a : Addr) (z : Str) (b : Bool) : Prop := ∃ es n r, K.lookup a = some ⟨.type "dict", none, .dict es n, #[]⟩ ∧ PySem.W.KeysLit w.params es.toList ∧ (a == sysModules) = false ∧ PySem.W.nsIn K a z = some r ∧ r.isSome = b
section
variable {X : Cx}
end
structure GIn (K : PySem.W.Frag) (w : World) (mg : Str → Option Value) (x : Str) (keys miss : List Str) where
  a : Addr
  m : mg x = some (.ref a)
  at_ : ∀ z, z ∈ keys → KIn K w a z true
  no : ∀ z, z ∈ miss → KIn K w a z false
def inKd (keys miss : List Str) : D → EM
  | .str z => fun s => if z ∈ keys then some (.ok (.p (.bl true)) s.m) else if z ∈ miss then some (.ok (.p (.bl false)) s.m) else none
  | _ => fun _ => none
def mInKd (keys miss : List Str) (m : EM) : EM := bnd m (pur (inKd keys miss))
section
variable {K : PySem.W.Frag} {X : Cx} {W : WX} {e : Expr} {pos p : Pos} {te : TE} {m : EM} {mg : Str → Option Value} {w : World} {x : Str} {keys miss : List Str}
end
end DL
namespace DL
open PySem PySem.Spec L2 PyProof.Rows
@[simp] theorem e_inKdm (keys miss : List Str) (m : EM) (s : S) : mInKd keys miss m s = (bnd m (pur (inKd keys miss))) s := rfl
@[simp] theorem e_inKdS (keys miss : List Str) (z : Str) (s : S) : inKd keys miss (.str z) s = if z ∈ keys then some (.ok (.p (.bl true)) s.m) else if z ∈ miss then some (.ok (.p (.bl false)) s.m) else none := rfl
end DL
namespace DL
open PySem PySem.Spec L2 PyProof.Rows
/-! ### l.extend(xs): xs data -/
section
variable {X : Cx}
end
section
variable {K : PySem.W.Frag} {X : Cx}
def gExt : MtG := fun d ds s => match d, ds with
  | .o n, [.p (.lst ys)] => match s.m[n]? with
    | some (.lst xs) => if xs.length + ys.length ≤ 1000000 then some (.ok (.p .non) (s.m.set n (.lst (xs ++ ys.map .p)))) else none
    | _ => none
  | _, _ => none
@[simp] theorem e_ext (n : Nat) (ys : List D) (s : S) : gExt (.o n) [.p (.lst ys)] s = (match s.m[n]? with
    | some (.lst xs) => if xs.length + ys.length ≤ 1000000 then some (.ok (.p .non) (s.m.set n (.lst (xs ++ ys.map .p)))) else none
    | _ => none) := rfl
end
end DL
namespace DL
open PySem PySem.Spec L2 PyProof.Rows
section
variable {K : PySem.W.Frag} {X : Cx} {W : WX} {e : Expr} {pos p : Pos} {te : TE} {m : EM} {mg : Str → Option Value} {w : World} {x : Str} {keys miss : List Str}
end
end DL
namespace DL
open PySem L2
/-! ### a list of one's own that a loop fills, and is given up -/
theorem tyOk_lst {M : List O} {n : Nat} {ds : List DV} (h : M[n]? = some (.lst ds)) : tyOk "list" M (.o n) = true := by unfold tyOk; simp only [h]; rfl
theorem app_run (i n : Nat) (me : EM) (l : List (Option DV)) (M : List O) (xs : List DV) (d : DV) (h1 : gv l i = some (.o n)) (h2 : M[n]? = some (.lst xs)) (h3 : xs.length < 1000000) (h4 : me ⟨l, M⟩ = some (.ok d M)) :
    sExpr (mMth "list" gApp (mVar i) (aCons me aNil)) ⟨l, M⟩ = some (.nx, ⟨l, M.set n (.lst (xs ++ [d]))⟩) := by
  have tk := tyOk_lst h2
  simp [e_bnd, e_lift, h1, tk, h4, gApp, h2, h3]
theorem frz_run (i n : Nat) (l : List (Option DV)) (M : List O) (ds : List D) (h1 : gv l i = some (.o n)) (h2 : M[n]? = some (.lst (ds.map .p))) : mFrz (mVar i) ⟨l, M⟩ = some (.ok (.p (.lst ds)) (M.set n .gone)) := by
  simp [e_bnd, h1, h2]
theorem seq_nx (a b : SM) (s s1 : S) (h : a s = some (.nx, s1)) : sSeq a b s = b s1 := by rw [e_seq, h]
@[reducible] def enOpt {α : Type} [DecidableEq α] [En α] (hn : ∀ a : α, deq (En.en a) .non = false) (hn2 : ∀ a : α, deq .non (En.en a) = false) : En (Option α) := ⟨enO, fun a b => by
    cases a <;> cases b <;> simp [enO, En.dq, hn, hn2], fun a => by cases a <;> simp [enO, En.ok], En.dp α, fun a => by
    cases a with
    | none => exact Nat.zero_le _
    | some a => exact En.dpl a⟩
instance : En (Option Int) := enOpt (fun _ => rfl) (fun _ => rfl)
instance : En (Option Bool) := enOpt (fun _ => rfl) (fun _ => rfl)
end DL
namespace DL
open PySem L2
theorem sif_f (c : EM) (a b : SM) (s : S) (M : List O) (h : c s = some (.ok (.p (.bl false)) M)) : sIf c a b s = b ⟨s.l, M⟩ := by
  rw [e_sif, e_lift, h]; rfl
theorem sif_t (c : EM) (a b : SM) (s : S) (M : List O) (h : c s = some (.ok (.p (.bl true)) M)) : sIf c a b s = a ⟨s.l, M⟩ := by
  rw [e_sif, e_lift, h]; rfl
theorem runA_of {n : Nat} {m : SM} {ds : List D} {d : D} {s : S} (h : m ⟨slotsOf n (ds.map .p), []⟩ = some (.rt (.p d), s)) : runA n m ds = some (.ok d) := by
  rw [e_runA, h]
theorem ret_run (m : EM) (s : S) (d : DV) (M : List O) (h : m s = some (.ok d M)) : sRet m s = some (.rt d, ⟨s.l, M⟩) := by
  rw [e_sret, e_lift, h]
theorem filter_compE {α : Type} (enc : α → D) {l : List (Option DV)} {g : GM} {t e : EM} {M : List O} (f : α → D) (q : α → Bool) (ds : List α) (h : ∀ a ∈ ds, ∃ s1 : S, g (.p (enc a)) ⟨l, M⟩ = some s1 ∧ s1.m = M ∧ t s1 = some (.ok (.p (.bl (q a))) M) ∧ (q a = true → e s1 = some (.ok (.p (f a)) M))) (hl : ds.length ≤ 1000000) : compL l g t e ((ds.map enc).map .p) [] M = some ((ds.filter q).map f, M) := by
  have main : ∀ (ds : List α) (acc : List D), (∀ a ∈ ds, ∃ s1 : S, g (.p (enc a)) ⟨l, M⟩ = some s1 ∧ s1.m = M ∧ t s1 = some (.ok (.p (.bl (q a))) M) ∧ (q a = true → e s1 = some (.ok (.p (f a)) M))) → acc.length + ds.length ≤ 1000000 → compL l g t e ((ds.map enc).map .p) acc M = some (acc ++ (ds.filter q).map f, M) := by
    intro ds
    induction ds with
    | nil => intro acc _ _; simp [compL]
    | cons a ds ih =>
      intro acc h hn
      simp only [List.length_cons] at hn
      obtain ⟨s1, h1, h2, h3, h4⟩ := h a List.mem_cons_self
      have ih := fun acc hn => ih acc (fun b hb => h b (List.mem_cons_of_mem _ hb)) hn
      show compL _ _ _ _ (.p (enc a) :: (ds.map enc).map .p) acc M = _
      unfold compL
      rw [h1]
      dsimp only
      rw [h3]
      cases hq : q a with
      | true =>
        dsimp only
        have q2 : e ⟨s1.l, M⟩ = some (.ok (.p (f a)) M) := by have h4 := h4 hq; rw [← h2] at h4 ⊢; exact h4
        rw [q2]
        dsimp only
        rw [if_pos (by omega), ih _ (by simp; omega)]
        simp [hq]
      | false =>
        dsimp only
        rw [ih _ (by omega)]
        simp [hq]
  have := main ds [] h (by simpa using hl)
  simpa using this
theorem map_compE {α : Type} (enc : α → D) {l : List (Option DV)} {g : GM} {e : EM} {M : List O} (f : α → D) (ds : List α) (h : ∀ a ∈ ds, ∃ s1 : S, g (.p (enc a)) ⟨l, M⟩ = some s1 ∧ s1.m = M ∧ e s1 = some (.ok (.p (f a)) M)) (hl : ds.length ≤ 1000000) : compL l g tYesM e ((ds.map enc).map .p) [] M = some (ds.map f, M) := by
  have q := filter_compE enc (l := l) (g := g) (t := tYesM) (e := e) (M := M) f (fun _ => true) ds (fun a ha => by
    obtain ⟨s1, h1, h2, h3⟩ := h a ha
    exact ⟨s1, h1, h2, by rw [← h2]; rfl, fun _ => h3⟩) hl
  rw [q, List.filter_eq_self.mpr (fun _ _ => rfl)]
theorem it_var (j : Nat) (l : List (Option DV)) (M : List O) (ds : List D) (h : gv l j = some (.p (.lst ds))) : mItD itL (mVar j) ⟨l, M⟩ = some (.ok (ds.map .p) M) := by
  simp [e_bnd, h]
end DL
namespace DL
open PySem L2
/-! sorted lists of ints -/
@[simp] theorem e_slL (xs : List D) (l u : Option Int) : slE (.lst xs) l u = some (.lst (cutD xs l u)) := rfl
end DL
namespace DL
open PySem L2
/-! ### drawn numbers, with other objects of one's own behind them -/
theorem ltO_mono {n m : Nat} (h : n ≤ m) (d : DV) (k : ltO n d = true) : ltO m d = true := by
  cases d with
  | p _ => rfl
  | o i => have k : decide (i < n) = true := k; exact decide_eq_true (by have := of_decide_eq_true k; omega)
theorem closed_mono {n m : Nat} (h : n ≤ m) (o : O) (k : closed n o = true) : closed m o = true := by
  cases o with
  | lst xs => exact List.all_eq_true.mpr fun d hd => ltO_mono h d (List.all_eq_true.mp k d hd)
  | dK xs => exact List.all_eq_true.mpr fun d hd => ltO_mono h d.2 (List.all_eq_true.mp k d hd)
  | dT xs => exact List.all_eq_true.mpr fun d hd => ltO_mono h d.2 (List.all_eq_true.mp k d hd)
  | ins C xs => exact List.all_eq_true.mpr fun d hd => ltO_mono h d.2 (List.all_eq_true.mp k d hd)
  | tbl _ _ => rfl
  | clo _ xs => exact List.all_eq_true.mpr fun d hd => ltO_mono h d (List.all_eq_true.mp k d hd)
  | gone => rfl
theorem closed_data (n : Nat) (ds : List D) : closed n (.lst (ds.map .p)) = true := by
  show (ds.map DV.p).all (ltO n) = true
  rw [List.all_map]
  exact List.all_eq_true.mpr fun _ _ => rfl
def Dx (n : Nat) (sv : DV) (R M : List O) : Prop := ∃ B, M = B ++ R ∧ Dr n sv B
theorem Dx.of {n : Nat} {sv : DV} {M : List O} (h : Dr n sv M) : Dx n sv [] M := ⟨M, (List.append_nil _).symm, h⟩
theorem Dx.nil {n : Nat} {sv : DV} {M : List O} (h : Dx n sv [] M) : Dr n sv M := by obtain ⟨B, rfl, h⟩ := h; rwa [List.append_nil]
theorem Dx.len {n : Nat} {sv : DV} {R M : List O} (h : Dx n sv R M) : M.length = n + R.length := by obtain ⟨B, rfl, h⟩ := h; rw [List.length_append, h.len]
theorem Dx.get {n : Nat} {sv : DV} {R M : List O} (h : Dx n sv R M) (i : Nat) : M[n + i]? = R[i]? := by
  obtain ⟨B, rfl, h⟩ := h
  rw [List.getElem?_append_right (by rw [h.len]; omega), h.len]
  congr 1; omega
theorem Dx.set {n : Nat} {sv : DV} {R M : List O} (h : Dx n sv R M) (i : Nat) (o : O) : Dx n sv (R.set i o) (M.set (n + i) o) := by
  obtain ⟨B, rfl, h⟩ := h
  refine ⟨B, ?_, h⟩
  rw [List.set_append_right _ _ (by rw [h.len]; omega), h.len]
  congr 2; omega
theorem Dx.app {n : Nat} {sv : DV} {R M : List O} (h : Dx n sv R M) (o : O) : Dx n sv (R ++ [o]) (M ++ [o]) := by
  obtain ⟨B, rfl, h⟩ := h
  exact ⟨B, List.append_assoc _ _ _, h⟩
theorem Dx.drop {n : Nat} {sv : DV} {R G M : List O} {d : D} (h : Dx n sv (R ++ G) M) (hR : R.all (closed (n + R.length)) = true) {k : Nat} (hk : k = n + R.length) : Dx n sv R (dropM k (.p d) M) := by
  subst hk
  obtain ⟨B, rfl, h⟩ := h
  have e : (B ++ (R ++ G)).take (n + R.length) = B ++ R := by
    rw [← List.append_assoc, List.take_append_of_le_length (by rw [List.length_append, h.len]; exact Nat.le_refl _), List.take_of_length_le (by rw [List.length_append, h.len]; exact Nat.le_refl _)]
  have c : (B ++ R).all (closed (n + R.length)) = true := by
    rw [List.all_append, hR, Bool.and_true]
    exact List.all_eq_true.mpr fun o ho => closed_mono (Nat.le_add_right _ _) o (List.all_eq_true.mp h.cl o ho)
  unfold dropM
  rw [e, c]
  exact ⟨B, rfl, h⟩
theorem Dx.same {n : Nat} {sv : DV} {R M M' : List O} {d : D} (h : Dx n sv R M) (h' : Dx n sv R M') : dropM M.length (.p d) M' = M' := dropM_len (by rw [h.len, h'.len])
theorem wp_takeX {n : Nat} {sv : DV} {R M : List O} {most : Int} {P : DV → List O → Prop} (h : Dx n sv R M) (hm : most < 18446744073709551616) (k : ∀ r M', Dx n sv R M' → (most < 1 → r = 0) → (1 ≤ most → 0 ≤ r ∧ r < most) → P (.p (.int r)) M') : wpB (takeM [sv, .p (.int most)] M) P := by
  obtain ⟨B, rfl, h⟩ := h
  obtain ⟨kk, c, i, cells, rfl, hk, hc, kc, hi, ne, nn⟩ := h.ex
  have lk := (List.getElem?_eq_some_iff.mp hk).1
  have lc := (List.getElem?_eq_some_iff.mp hc).1
  obtain ⟨r, M', e, d, b0, b⟩ := take_raw (M := B ++ R) (by rw [List.getElem?_append_left lk]; exact hk) (by rw [List.getElem?_append_left lc]; exact hc) kc hi ne nn most hm
  refine ⟨_, _, e, ?_⟩
  rcases d with rfl | ⟨cells', rfl, ne', nn'⟩ | rfl
  · exact k r _ ⟨B, rfl, h⟩ b0 b
  · rw [List.set_append_left _ _ lc]
    exact k r _ ⟨_, rfl, ⟨by rw [List.length_set]; exact h.len, all_set h.cl (closed_ints n _) c, kk, c, i, cells', rfl, by rw [List.getElem?_set_ne kc.symm]; exact hk, by rw [List.getElem?_set_self lc]; rfl, kc, hi, ne', nn'⟩⟩ b0 b
  · rw [List.set_append_left _ _ lk]
    exact k r _ ⟨_, rfl, ⟨by rw [List.length_set]; exact h.len, all_set h.cl (show closed n (.lst [.p (.int (i + 1)), .o c]) = true from (List.all_eq_true.mp h.cl _ (List.mem_of_getElem? hk) : closed n (.lst [.p (.int i), .o c]) = true)) kk, kk, c, i + 1, cells, rfl, by rw [List.getElem?_set_self lk], by rw [List.getElem?_set_ne kc]; exact hc, kc, by omega, ne, nn⟩⟩ b0 b
/-- a loop that goes on or returns, its turns' places told -/
theorem wpS_mono {o : Option (Fl × S)} {P Q : Fl → S → Prop} (h : wpS o P) (k : ∀ f s, P f s → Q f s) : wpS o Q := wpS.imp h k
end DL
namespace DL
open PySem L2
theorem wp_lc {it : IM} {vs : List Nat} {g : GM} {e : EM} {s : S} {P : DV → List O → Prop} (h : wpB (it s) fun ds M => ∃ ys M', compL (wipeL s.l vs) g tYesM e ds [] M = some (ys, M') ∧ P (.p (.lst ys)) M') : wpB (mLc it vs g tYesM e s) P := by
  obtain ⟨ds, M, e1, ys, M', e2, p⟩ := h
  refine ⟨_, M', ?_, p⟩
  rw [e_lc, e_bnd, e1]
  show (match compL (wipeL s.l vs) g tYesM e ds [] M with | some (acc, M) => some (Rs.ok (DV.p (D.lst acc)) M) | none => none) = _
  rw [e2]
theorem wp_rng1 {m : EM} {s : S} {Q : List DV → List O → Prop} (h : wpB (m s) fun d M => ∃ j, d = .p (.int j) ∧ rngOk j = true ∧ Q (DL.intsFrom 0 j.toNat) M) : wpB (mRng rng1D (aCons m aNil) s) Q := by
  obtain ⟨d, M, e, j, rfl, hj, q⟩ := h
  refine ⟨_, M, ?_, q⟩
  rw [e_rng, e_bnd, e_aCons, e_bnd, e]
  simp [e_bnd, hj]
theorem w_forT (it : IM) (g : GM) (b K : SM) (s : S) (P : Fl → S → Prop) (h : wpB (it s) fun ds M => wpS (loopS g b ds ⟨s.l, M⟩) (andS K P)) : wpS (sSeq (sFor it g b) K s) P := by
  rw [w_seq, e_for, w_lift]; exact h
end DL
namespace DL
open PySem PySem.Spec L2 PyProof.Rows
/-! ### a statement, or an expression, that no run reaches -/
section
variable {K : PySem.W.Frag} {X : Cx} {W : WX} {st : Stmt} {ex : Expr}
end
/-! ### a def that calls itself: the promise of no step -/
/-! ### attributes of an instance of one's own -/
def putD (f : Str) (v : DV) : List (Str × DV) → List (Str × DV)
  | [] => [(f, v)]
  | p :: r => if p.1 = f then (p.1, v) :: r else p :: putD f v r
theorem putf_rep {K : PySem.W.Frag} {Z : Hp} {I : List Addr} {f : Str} {v : V} {d : DV} (h : RepV K Z I v d) : ∀ {vs : List (Str × V)} {fs : List (Str × DV)}, Paired (FRel K Z I) vs fs → Paired (FRel K Z I) (putF f v vs) (putD f d fs)
  | _, _, .nil => .cons ⟨rfl, h⟩ .nil
  | (a, x) :: vs, (b, y) :: fs, .cons ⟨e, q⟩ r => by
    have e : a = b := e
    subst e
    unfold putD putF
    by_cases k : a = f
    · rw [if_pos k, if_pos k]; exact .cons ⟨rfl, h⟩ r
    · rw [if_neg k, if_neg k]; exact .cons ⟨rfl, q⟩ (putf_rep h r)
theorem look_rep {K : PySem.W.Frag} {Z : Hp} {I : List Addr} {f : Str} : ∀ {vs : List (Str × V)} {fs : List (Str × DV)}, Paired (FRel K Z I) vs fs → (∀ d, fs.lookup f = some d → ∃ v, vs.lookup f = some v ∧ RepV K Z I v d) ∧ (fs.lookup f = none → vs.lookup f = none)
  | _, _, .nil => ⟨fun d h => (by cases h), fun _ => rfl⟩
  | (a, x) :: vs, (b, y) :: fs, .cons ⟨e, q⟩ r => by
    have e : a = b := e
    subst e
    obtain ⟨h1, h2⟩ := look_rep (f := f) r
    rw [List.lookup_cons, List.lookup_cons]
    cases f == a with
    | true => exact ⟨fun d h => (by cases h; exact ⟨x, rfl, q⟩), fun h => (by cases h)⟩
    | false => exact ⟨h1, h2⟩
def insM (M : List O) (C : Addr) : DV → Option (Nat × List (Str × DV))
  | .o n => match M[n]? with
    | some (.ins c fs) => if c = C then some (n, fs) else none
    | _ => none
  | _ => none
theorem ins_rep {K : PySem.W.Frag} {Z H : Hp} {I : List Addr} {M : List O} {C : Addr} {x : V} {d : DV} {n : Nat} {fs : List (Str × DV)} (w : Wf K Z H I M) (h : RepV K Z I x d) (e : insM M C d = some (n, fs)) : ∃ a dx vs, x = .ref a ∧ I[n]? = some a ∧ M[n]? = some (.ins C fs) ∧ H a = some (.ins C dx vs) ∧ Paired (FRel K Z I) vs fs := by
  unfold insM at e
  cases d with
  | p _ => cases e
  | o m =>
    obtain ⟨a, ha, rfl⟩ := h
    dsimp only at e
    split at e
    · rename_i c gs hm
      split at e
      · rename_i hc
        cases e
        subst hc
        obtain ⟨_, dx, vs, h1, h2⟩ := w.ob n a _ ha hm (by intro z; cases z)
        exact ⟨a, dx, vs, rfl, ha, hm, h1, h2⟩
      · cases e
    · cases e
def mFld (C : Addr) (f : Str) (m : EM) : EM := bnd m fun d s => match insM s.m C d with
  | some (_, fs) => match fs.lookup f with
    | some v => some (.ok v s.m)
    | none => none
  | none => none
structure Kls (K : PySem.W.Frag) (C : Addr) (fs : List Str) : Prop where
  c : Cls K C
  n : ∀ f ∈ fs, NoAttr K C f
section
variable {K : PySem.W.Frag} {X : Cx} {W : WX} {o e value : Expr} {es : List Expr} {pos pos' apos tpos p : Pos} {ta tv te : TE} {t : TA} {m mv : EM} {ms : AM} {f : Str} {C : Addr} {fl : List Str}
theorem so_fld (c : Kls K C fl) (hf : f ∈ fl) (h : Sound K W (RepV K) ta m) : Sound K W (RepV K) (tFld K ta f) (mFld C f m) := ⟨fun σ H s Z I r0 Q w rs e1 p1 => by
  refine h.bnd w rs e1 p1.x fun d v M1 Z1 H1 I1 w1 rs1 x1 q1 e2 => ?_
  have e2 : (match insM M1 C d with | some (_, fs) => (match fs.lookup f with | some v => some (Rs.ok v M1) | none => none) | none => none) = some r0 := e2
  cases z : insM M1 C d with
  | none => rw [z] at e2; cases e2
  | some q =>
    obtain ⟨n, fs⟩ := q
    rw [z] at e2
    dsimp only at e2
    cases y : fs.lookup f with
    | none => rw [y] at e2; cases e2
    | some dv =>
      rw [y] at e2
      cases e2
      obtain ⟨a, dx, vs, rfl, ha, hm, hH, pr⟩ := ins_rep w1 q1 z
      obtain ⟨u, hu, ru⟩ := (look_rep pr).1 _ y
      exact ⟨a, C, dx, vs, u, rfl, hH, c.c, c.n f hf, hu, p1 u Z1 H1 I1 w1 x1 ru⟩⟩
theorem de_fld (c : Kls K C fl) (hf : f ∈ fl) (h : DE K X W e ta m) (hb : attributeBase e f X.env (eval e X.env) = eval e X.env := by rfl) : DE K X W (.Attribute e f pos) (tFld K ta f) (mFld C f m) :=
  ⟨h.k, by rw [← h.k]; exact pe_fld h.pe hb, so_fld c hf h.so⟩
def sFldK (C : Addr) (f : Str) (y d : DV) : SM := fun s => match insM s.m C d with
  | some (n, fs) => if fs.length < 1000 then some (.nx, ⟨s.l, s.m.set n (.ins C (putD f y fs))⟩) else none
  | none => none
def sFldM (C : Addr) (f : Str) (mv m : EM) : SM := liftS mv fun y => liftS m fun d => sFldK C f y d
theorem fld_set {Z H : Hp} {I : List Addr} {M : List O} {n : Nat} {a dx : Addr} {vs : List (Str × V)} {fs : List (Str × DV)} {v : V} {d : DV} (w : Wf K Z H I M) (ha : I[n]? = some a) (hm : M[n]? = some (.ins C fs)) (pr : Paired (FRel K Z I) vs fs) (r : RepV K Z I v d) :
    Wf K Z (upd H a (.ins C dx (putF f v vs))) I (M.set n (.ins C (putD f d fs))) := w.setO ha hm (by intro z; cases z) ⟨dx, _, upd_same, putf_rep r pr⟩
theorem so_setfld (c : Kls K C fl) (hf : f ∈ fl) (hv : Sound K W (RepV K) tv mv) (h : Sound K W (RepV K) ta m) : SoundS K W (sFld K ta tv f) (sFldM C f mv m) := ⟨fun σ H s Z I r D w rs e1 p1 => by
  refine hv.lift w rs e1 p1 fun y yv M1 Z1 H1 I1 w1 rs1 x1 q1 e2 p2 => ?_
  refine h.lift (s := ⟨s.l, M1⟩) w1 rs1 e2 p2 fun d v M2 Z2 H2 I2 w2 rs2 x2 q2 e3 p3 => ?_
  have e3 : (match insM M2 C d with | some (n, fs) => if fs.length < 1000 then some (Fl.nx, ⟨s.l, M2.set n (.ins C (putD f y fs))⟩) else none | none => none) = some r := e3
  cases z : insM M2 C d with
  | none => rw [z] at e3; cases e3
  | some q =>
    obtain ⟨n, fs⟩ := q
    rw [z] at e3
    dsimp only at e3
    split at e3
    · rename_i hl
      cases e3
      obtain ⟨a, dx, vs, rfl, ha, hm, hH, pr⟩ := ins_rep w2 q2 z
      have ry := RepV.mono x2 q1
      refine ⟨a, C, dx, vs, rfl, hH, c.c, c.n f hf, by rw [paired_len pr]; exact hl, ?_⟩
      exact p3 σ Z2 _ I2 (fld_set w2 ha hm pr ry) rs2 (ext_set (List.mem_of_getElem? ha))
    · cases e3⟩
theorem ds_setfld (c : Kls K C fl) (hf : f ∈ fl) (hv : DE K X W value tv mv) (h : DE K X W o ta m) (hs : swapsWith value (some (.Attribute o f pos')) pos.line X.env = pure false := by rfl) : DS K X W (.Assign [.Attribute o f pos'] value pos) (sFld K ta tv f) (sFldM C f mv m) :=
  ⟨h.k, by rw [← h.k]; exact ps_fld h.pe hv.pe hs, so_setfld c hf hv.so h.so⟩
end
/-! ### methods of one's own classes -/
def tMethS (C : Addr) (mn : Str) (sp : Sp) (E : L2.St → XK) (ta : TE) (t : TA) : TE := fun σ H Q => ta σ H fun x H1 => ∃ a dx fs, x = .ref a ∧ H1 a = some (.ins C dx fs) ∧ fs.lookup mn = none ∧
  t σ H1 fun vs H2 => sp (x :: vs) H2 Q (E σ)
section
variable {X : Cx} {CX : CXT} {k : Nat} {C f : Addr} {fd : FuncData} {ps : List Str} {mn : Str} {sp : Sp} {E : L2.St → XK} {o e : Expr} {es : List Expr} {ta : TE} {t : TA} {apos pos : Pos}
theorem pe_methS' {pl : Sem Bool} (he : PE X o ta) (c : Cls X.K C) (hm : Meth X.K C mn f) (F : FnOk X.prog X.w X.K X.mg X.base CX k f fd ps sp) (hr : Room k X.A) (hb : Binds X.K fd ps []) (hx : ∀ σ, PassesAt CX X σ (E σ)) (ha : PA X (e :: es) t)
    (hst : starEach (e :: es) X.env = (false, eval e X.env) :: starEach es X.env := by rfl) (hpl : (backTo pos (starEach es X.env)).any (·.1) = false := by rfl)
    (ht : eval (.Call (.Attribute o mn apos) (e :: es) [] pos) X.env = (do
      let ov ← eval o X.env
      standAt apos.atName
      let (f, first) ← holding [ov] (getMethod ov mn pl)
      callWith pos f first (backTo pos (starEach (e :: es) X.env)) (backToKw pos (keywordEach [] X.env))) := by rfl) :
    PE X (.Call (.Attribute o mn apos) (e :: es) [] pos) (tMethS C mn sp E ta t) := by
  refine ⟨fun pins s σ H Q I h => ?_⟩
  refine PySem.W.methodCall_KW (pl := pl) (thn (he.run pins s σ H _ I h) fun u s1 ⟨x, H1, I1, rx, a, dx, fs, ex, ea, l, q⟩ => ?_) ht
  subst ex
  obtain rfl : u = Value.ref a := rx
  refine getmeth_ok I1 ea c hm l ?_
  refine PySem.W.callWith_K (first := [.ref a]) (h₀ := X.base) I.ok.mod.kin hm.kp (thn (ha.run pos pins s1 σ H1 _ I1 q) fun us s2 ⟨vs, H2, I2, r, q2⟩ => ⟨I2.kIn, ?_⟩) hst hpl
  exact run_fnS (us := .ref a :: us) (vs := .ref a :: vs) F hr hb (hx σ) I2 (.cons rfl r) q2
theorem pe_methS0' {pl : Sem Bool} (he : PE X o ta) (c : Cls X.K C) (hm : Meth X.K C mn f) (F : FnOk X.prog X.w X.K X.mg X.base CX k f fd ps sp) (hr : Room k X.A) (hb : Binds X.K fd ps []) (hx : ∀ σ, PassesAt CX X σ (E σ))
    (ht : eval (.Call (.Attribute o mn apos) [] [] pos) X.env = (do
      let ov ← eval o X.env
      standAt apos.atName
      let (f, first) ← holding [ov] (getMethod ov mn pl)
      callWith pos f first (backTo pos (starEach [] X.env)) (backToKw pos (keywordEach [] X.env))) := by rfl) :
    PE X (.Call (.Attribute o mn apos) [] [] pos) (tMethS C mn sp E ta tNil) := by
  refine ⟨fun pins s σ H Q I h => ?_⟩
  refine PySem.W.methodCall_KW (pl := pl) (thn (he.run pins s σ H _ I h) fun u s1 ⟨x, H1, I1, rx, a, dx, fs, ex, ea, l, q⟩ => ?_) ht
  subst ex
  obtain rfl : u = Value.ref a := rx
  refine getmeth_ok I1 ea c hm l ?_
  exact PySem.W.callWith_K0 (first := [.ref a]) I1.kIn hm.kp (run_fnS (us := [.ref a]) (vs := [.ref a]) F hr hb (hx σ) I1 (.cons rfl .nil) q)
end
/-- o.m(..): the instance goes first -/
def mMeth (C : Addr) (mn : Str) (n : Nat) (g : List DV → List O → Option (Rs DV)) (m : EM) (ms : AM) : EM := bnd m fun d s => match insM s.m C d with
  | some (_, fs) => match fs.lookup mn with
    | none => bnd ms (fun ds s => if ds.length = n then g (d :: ds) s.m else none) s
    | some _ => none
  | none => none
section
variable {K : PySem.W.Frag} {X : Cx} {W : WX} {o e : Expr} {es : List Expr} {pos apos : Pos} {ta : TE} {t : TA} {m : EM} {ms : AM} {mn : Str} {C fa : Addr} {fl : List Str} {n k : Nat} {g : List DV → List O → Option (Rs DV)} {fd : FuncData} {ps : List Str}
theorem so_meth (h : Sound K W (RepV K) ta m) (ha : Sound K W (RepVs K) t ms) : Sound K W (RepV K) (tMethS C mn (spB K (n + 1) g) (fun σ => WE W σ) ta t) (mMeth C mn n g m ms) := ⟨fun σ H s Z I r0 Q w rs e1 p1 => by
  refine h.bnd w rs e1 p1.x fun d v M1 Z1 H1 I1 w1 rs1 x1 q1 e2 => ?_
  have p2 := p1.mono x1
  have e2 : (match insM M1 C d with | some (_, fs) => (match fs.lookup mn with | none => bnd ms (fun ds s => if ds.length = n then g (d :: ds) s.m else none) ⟨s.l, M1⟩ | some _ => none) | none => none) = some r0 := e2
  cases z : insM M1 C d with
  | none => rw [z] at e2; cases e2
  | some q =>
    obtain ⟨i, fs⟩ := q
    rw [z] at e2
    dsimp only at e2
    cases y : fs.lookup mn with
    | some _ => rw [y] at e2; cases e2
    | none =>
      rw [y] at e2
      dsimp only at e2
      obtain ⟨a, dx, vs, rfl, hi, hm, hH, pr⟩ := ins_rep w1 q1 z
      refine ⟨a, dx, vs, rfl, hH, (look_rep pr).2 y, ?_⟩
      refine ha.bnd (s := ⟨s.l, M1⟩) w1 rs1 e2 p2.x fun ds us M2 Z2 H2 I2 w2 rs2 x2 q2 e3 => ?_
      have p3 := p2.mono x2
      have e3 : (if ds.length = n then g (d :: ds) M2 else none) = some r0 := e3
      split at e3
      · rename_i hl
        refine ⟨by rw [List.length_cons, paired_len q2, hl], Z2, I2, M2, d :: ds, r0, w2, .cons (RepV.mono x2 q1) q2, e3, ?_⟩
        cases r0 with
        | ok d M' => exact p3
        | ex c fs M' => exact p3
      · cases e3⟩
theorem de_meth (c : Kls K C fl) (hm : Meth K C mn fa) (F : FnOk X.prog X.w K X.mg X.base (L2.CX X.prog X.w) k fa fd ps (spB K (n + 1) g)) (hr : Room k X.A) (tk : Takes X W) (hb : Binds K fd ps []) (h : DE K X W o ta m) (ha : DA K X W (e :: es) t ms)
    {pl : Sem Bool} (hst : starEach (e :: es) X.env = (false, eval e X.env) :: starEach es X.env := by rfl) (hpl : (backTo pos (starEach es X.env)).any (·.1) = false := by rfl)
    (ht : eval (.Call (.Attribute o mn apos) (e :: es) [] pos) X.env = (do
      let ov ← eval o X.env
      standAt apos.atName
      let (f, first) ← holding [ov] (getMethod ov mn pl)
      callWith pos f first (backTo pos (starEach (e :: es) X.env)) (backToKw pos (keywordEach [] X.env))) := by rfl) :
    DE K X W (.Call (.Attribute o mn apos) (e :: es) [] pos) (tMethS C mn (spB K (n + 1) g) (fun σ => WE W σ) ta t) (mMeth C mn n g m ms) := by
  have k := h.k
  subst k
  exact ⟨rfl, pe_methS' h.pe c.c hm F hr hb (fun σ => passAt tk σ) ha.pa hst hpl ht, so_meth h.so ha.so⟩
theorem de_meth0 (c : Kls K C fl) (hm : Meth K C mn fa) (F : FnOk X.prog X.w K X.mg X.base (L2.CX X.prog X.w) k fa fd ps (spB K 1 g)) (hr : Room k X.A) (tk : Takes X W) (hb : Binds K fd ps []) (h : DE K X W o ta m) (ha : DA K X W [] tNil aNil)
    {pl : Sem Bool} (ht : eval (.Call (.Attribute o mn apos) [] [] pos) X.env = (do
      let ov ← eval o X.env
      standAt apos.atName
      let (f, first) ← holding [ov] (getMethod ov mn pl)
      callWith pos f first (backTo pos (starEach [] X.env)) (backToKw pos (keywordEach [] X.env))) := by rfl) :
    DE K X W (.Call (.Attribute o mn apos) [] [] pos) (tMethS C mn (spB K 1 g) (fun σ => WE W σ) ta tNil) (mMeth C mn 0 g m aNil) := by
  have k := h.k
  subst k
  exact ⟨rfl, pe_methS0' h.pe c.c hm F hr hb (fun σ => passAt tk σ) ht, so_meth (n := 0) h.so ha.so⟩
end
end DL
namespace DL
open PySem PySem.Spec L2 PyProof.Rows
/-! ### an instance is made -/
def tMakeS (C : Addr) (sp : Sp) (E : L2.St → XK) (t : TA) : TE := fun σ H Q => t σ H fun vs H1 => ∀ x dx, H1 x = none → H1 dx = none → dx ≠ x →
  sp (.ref x :: vs) (upd (upd H1 dx (.own x)) x (.ins C dx [])) (fun v H2 => v = .non ∧ Q (.ref x) H2) (E σ)
section
variable {X : Cx} {CX : CXT} {k : Nat} {C f : Addr} {fd : FuncData} {ps : List Str} {sp : Sp} {E : L2.St → XK} {e : Expr} {es : List Expr} {t : TA} {pos p : Pos} {x : Str}
theorem run_makeS {pins : List (Addr × Obj)} {σ : L2.St} {H : Hp} {s : Shared} {Q : VK} {us : List Value} {vs : List V} (M : Mk X.K C f) (F : FnOk X.prog X.w X.K X.mg X.base CX k f fd ps sp) (hr : Room (k + 1) X.A) (hb : Binds X.K fd ps [])
    (hx : PassesAt CX X σ (E σ)) (I : Inv X pins σ H s) (r : Vals vs us)
    (h : ∀ x dx, H x = none → H dx = none → dx ≠ x → sp (.ref x :: vs) (upd (upd H dx (.own x)) x (.ins C dx [])) (fun v H2 => v = .non ∧ Q (.ref x) H2) (E σ)) :
    wpAny (model X.prog X.w) X.A (call (.ref C) us) (EP X pins σ Q) X.xe s := by
  have hq := h (s.heap.objs.size + 1) s.heap.objs.size (I.hok.fresh (Nat.le_succ _)) (I.hok.fresh (Nat.le_refl _)) (Nat.ne_of_lt (Nat.lt_succ_self _))
  have I2 := Inv.made (C := C) I
  have r2 : Vals (V.ref (s.heap.objs.size + 1) :: vs) (Value.ref (s.heap.objs.size + 1) :: us) := .cons rfl r
  have hl : (Value.ref (s.heap.objs.size + 1) :: us).length = ps.length := by
    have e := r2.length
    rw [F.len _ _ _ _ hq] at e
    exact e.symm
  have b := hb _ (Value.ref (s.heap.objs.size + 1) :: us) I2.kIn (by rw [List.append_nil]; exact hl)
  rw [List.append_nil] at b
  refine wpAny_call (make_map (f := f) I.kIn M.makes M.init (beq_iff_eq.mp M.fn) (codeAny_mono (F.run _ X.stack _ _ ⟨Value.ref (s.heap.objs.size + 1) :: us, []⟩ (Value.ref (s.heap.objs.size + 1) :: us) _ _ (E σ) (hr.make C us [])
    (I2.env0.make C us []) b r2 hq) fun r s' hq' => ?_))
  cases r with
  | error e => exact hx pins _ _ e s' I2 hq'
  | ok fl =>
    cases fl with
    | ret u =>
      obtain ⟨v, H', I3, rv, ev, q3⟩ := I2.after hq'
      subst ev
      exact ⟨rv, ⟨V.ref (s.heap.objs.size + 1), H', I3, rfl, q3⟩⟩
    | next => exact False.elim hq'
    | brk => exact False.elim hq'
    | cont => exact False.elim hq'
theorem pe_makeS0 (M : Mk X.K C f) (F : FnOk X.prog X.w X.K X.mg X.base CX k f fd ps sp) (hr : Room (k + 1) X.A) (hg : Gl X x) (hm : X.mg x = some (.ref C)) (hb : Binds X.K fd ps []) (hx : ∀ σ, PassesAt CX X σ (E σ))
    (hdb : (x == ("__debug__" : Str)) = false := by decide) : PE X (.Call (.Name x p) [] [] pos) (tMakeS C sp E tNil) := by
  refine ⟨fun pins s σ H Q I h => ?_⟩
  refine wpAny_Call_Name_kw (ld_glob I hg hm ?_ hdb)
  exact PySem.W.callWith_K0 I.kIn M.kp (run_makeS (us := []) M F hr hb (hx σ) I .nil h)
end
def mMake (C : Addr) (n : Nat) (g : List DV → List O → Option (Rs DV)) (ms : AM) : EM := bnd ms fun ds s => if ds.length = n then match g (.o s.m.length :: ds) (s.m ++ [.ins C []]) with
  | some (.ok (.p .non) M) => some (.ok (.o s.m.length) M)
  | some (.ex c fs M) => some (.ex c fs M)
  | _ => none else none
section
variable {K : PySem.W.Frag} {X : Cx} {W : WX} {e : Expr} {es : List Expr} {pos p : Pos} {t : TA} {ms : AM} {x : Str} {C fa : Addr} {n k : Nat} {g : List DV → List O → Option (Rs DV)} {fd : FuncData} {ps : List Str}
theorem so_make (ha : Sound K W (RepVs K) t ms) : Sound K W (RepV K) (tMakeS C (spB K (n + 1) g) (fun σ => WE W σ) t) (mMake C n g ms) := ⟨fun σ H s Z I r0 Q w rs e1 p1 => by
  refine ha.bnd w rs e1 p1.x fun ds us M1 Z1 H1 I1 w1 rs1 x1 q1 e2 => ?_
  have p2 := p1.mono x1
  have e2 : (if ds.length = n then match g (.o M1.length :: ds) (M1 ++ [.ins C []]) with
    | some (.ok (.p .non) M) => some (Rs.ok (DV.o M1.length) M)
    | some (.ex c fs M) => some (Rs.ex c fs M)
    | _ => none else none) = some r0 := e2
  split at e2
  · rename_i hl
    intro a dx ha0 hd0 hne
    have hd1 : ExtP Z1 H1 Z1 (upd H1 dx (.own a)) := ⟨Same.refl _, same_upd hd0, fun b o q => by rw [upd_ne (ne_of_none (w1.sub b o q) hd0)]; exact w1.sub b o q, fun b q => .inl q⟩
    have w2 := w1.extP hd1
    have ha1 : upd H1 dx (.own a) a = none := by rw [upd_ne (Ne.symm hne)]; exact ha0
    have w3 : Wf K Z1 (upd (upd H1 dx (.own a)) a (.ins C dx [])) (I1 ++ [a]) (M1 ++ [.ins C []]) := w2.newO ha1 ⟨dx, [], upd_same, .nil⟩
    have x3 : Ext Z1 H1 I1 Z1 (upd (upd H1 dx (.own a)) a (.ins C dx [])) (I1 ++ [a]) := (hd1.ext w1).trans (ext_new w2.sub ha1)
    have p3 := p2.mono x3
    have ia : (I1 ++ [a])[M1.length]? = some a := by rw [← w1.len]; simp
    have rr : RepVs K Z1 (I1 ++ [a]) (.ref a :: us) (.o M1.length :: ds) := .cons ⟨a, ia, rfl⟩ (paired_imp (fun _ _ q => RepV.mono x3 q) q1)
    cases z : g (.o M1.length :: ds) (M1 ++ [.ins C []]) with
    | none => rw [z] at e2; cases e2
    | some r =>
      rw [z] at e2
      refine ⟨by rw [List.length_cons, paired_len q1, hl], Z1, I1 ++ [a], M1 ++ [.ins C []], _, r, w3, rr, z, ?_⟩
      cases r with
      | ok d M =>
        cases d with
        | o _ => cases e2
        | p d =>
          cases d with
          | non =>
            cases e2
            intro v Z' H' I' w' x' r'
            cases r'
            obtain ⟨tl, e⟩ := x'.i
            exact ⟨rfl, p3 _ Z' H' I' w' x' ⟨a, by rw [e, List.getElem?_append_left (List.getElem?_eq_some_iff.mp ia).1]; exact ia, rfl⟩⟩
          | _ => cases e2
      | ex c fs M => cases e2; exact p3
  · cases e2⟩
theorem de_make0 (Mc : Mk K C fa) (F : FnOk X.prog X.w K X.mg X.base (L2.CX X.prog X.w) k fa fd ps (spB K 1 g)) (hr : Room (k + 1) X.A) (tk : Takes X W) (hm : X.mg x = some (.ref C)) (hb : Binds K fd ps []) (ha : DA K X W [] tNil aNil)
    (hg : Gl X x := by rfl) (hdb : (x == ("__debug__" : Str)) = false := by decide) :
    DE K X W (.Call (.Name x p) [] [] pos) (tMakeS C (spB K 1 g) (fun σ => WE W σ) tNil) (mMake C 0 g aNil) := by
  have k := ha.k
  subst k
  exact ⟨rfl, pe_makeS0 Mc F hr hg hm hb (fun σ => passAt tk σ) hdb, so_make (n := 0) ha.so⟩
end
/-- a method as the class holds it -/
structure Dm (K : PySem.W.Frag) (C : Addr) (nm qual : Str) (st : Stmt) (ps : List Str) where
  a : Addr
  fd : FuncData
  F : Fun K nm qual st a fd
  m : Meth K C nm a
  b : Binds K fd ps []
end DL
namespace DL
open PySem PySem.Spec L2 PyProof.Rows
/-! ### text.find(part, from) -/
section
variable {K : PySem.W.Frag} {X : Cx} {W : WX}
/-! ### xs[::-1] -/
end
/-! ### d.get(k, z), k in d, k not in d, of a dict of the module -/
section
variable {X : Cx} {e z : Expr} {te tz : TE} {x : Str} {a : Addr} {p apos pos : Pos}
end
structure GK (K : PySem.W.Frag) (w : World) (mg : Str → Option Value) (x : Str) (kvs : List (Str × D)) (miss : List Str) where
  a : Addr
  m : mg x = some (.ref a)
  ex : ∃ es n, K.lookup a = some ⟨.type "dict", none, .dict es n, #[]⟩ ∧ PySem.W.KeysLit w.params es.toList
  lo : (a == sysModules) = false
  at_ : ∀ z d, kvs.lookup z = some d → ∃ v, KDct K w a z v ∧ ∀ Z, Rep K Z v d
  no : ∀ z, z ∈ miss → KIn K w a z false
section
variable {K : PySem.W.Frag} {X : Cx} {W : WX} {e z : Expr} {te tz : TE} {m n : EM} {mg : Str → Option Value} {w : World} {x : Str} {kvs : List (Str × D)} {miss keys : List Str} {p apos pos : Pos}
def ninKd (keys miss : List Str) : D → EM
  | .str z => fun s => if z ∈ keys then some (.ok (.p (.bl false)) s.m) else if z ∈ miss then some (.ok (.p (.bl true)) s.m) else none
  | _ => fun _ => none
def mNinKd (keys miss : List Str) (m : EM) : EM := bnd m (pur (ninKd keys miss))
@[simp] theorem e_ninKdm (s : S) : mNinKd keys miss m s = (bnd m (pur (ninKd keys miss))) s := rfl
@[simp] theorem e_ninKdS (z : Str) (s : S) : ninKd keys miss (.str z) s = if z ∈ keys then some (.ok (.p (.bl false)) s.m) else if z ∈ miss then some (.ok (.p (.bl true)) s.m) else none := rfl
end
end DL
namespace DL
open PySem PySem.Spec L2 PyProof.Rows
/-! ### text.replace('a', 'b'): a written text has been read ahead of it -/
structure DET (K : PySem.W.Frag) (X : Cx) (W : WX) (e : Expr) (t : TE) (m : EM) : Prop where
  k : X.K = K
  pe : PET X e t
  so : Sound K W (RepV K) t m
structure DSsT (K : PySem.W.Frag) (X : Cx) (W : WX) (st : List Stmt) (t : TS) (m : SM) : Prop where
  k : X.K = K
  ps : PSsT X st t
  so : SoundS K W t m
structure DST (K : PySem.W.Frag) (X : Cx) (W : WX) (st : Stmt) (t : TS) (m : SM) : Prop where
  k : X.K = K
  ps : PST X st t
  so : SoundS K W t m
section
variable {K : PySem.W.Frag} {X : Cx} {W : WX} {o e : Expr} {te : TE} {m : EM} {pos p p' : Pos} {y z c : Str}
end
end DL
namespace DL
open PySem PySem.Spec L2 PyProof.Rows
/-- a class of one's own as the top holds it -/
structure Kl (K : PySem.W.Frag) (mg : Str → Option Value) (nm : Str) (fl : List Str) where
  a : Addr
  m : mg nm = some (.ref a)
  k : Kls K a fl
end DL
/-! a slice of a tuple (not the whole one) -/
namespace DL
open PySem PySem.Spec L2 PyProof.Rows
section
variable {K : PySem.W.Frag} {X : Cx} {W : WX} {e a b c : Expr} {es : List Expr} {pos : Pos}
end
end DL
namespace DL
open PySem L2
/-! exceptions of own classes: made, raised, caught -/
/-- what is known of a class over ValueError that has no own __init__ -/
structure Gx (K : PySem.W.Frag) (G : Addr) : Prop where
  g1 : PySem.W.specialIn K (.ref G) "__getattribute__" = some (some (.builtin "type.__getattribute__"))
  g2 : PySem.W.readsIn K G (.type "type") = true
  g3 : PySem.W.findCls K (.ref G) (.type "type") "__init__" = some (.val (.builtin "ValueError.__init__"))
section
variable {X : Cx} {x : Str} {G : Addr} {e : Expr} {es : List Expr} {ta : TA} {p1 p2 pos : Pos} {pl : Sem Bool}
end
/-- what a text in braces may be: an int of few digits, a text -/
def fsOk : D → Bool
  | .int i => decide (0 ≤ i ∧ i ≤ 1000000)
  | .str x => decide (x.length ≤ 900000)
  | _ => false
structure IniB (K : PySem.W.Frag) (X : Cx) (W : WX) (fld : Str) (body : List Stmt) : Prop where
  ex : ∃ (ta : TA) (to te : TE) (ms : AM), PSs X body (tSeq (tDrop (tVeI K ta)) (tOst K fld to te)) ∧ Sound K W (RepVs K) ta ms ∧ Sound K W (RepV K) to (mVar 0) ∧ Sound K W (RepV K) te (mVar 1) ∧
    ∀ (a : Addr) (d : D), fsOk d = true → ∃ z, ms ⟨[some (.p (.fn a)), some (.p d)], []⟩ = some (.ok [.p (.fn a), .p (.str z)] [])
section
variable {K : PySem.W.Frag} {X : Cx} {W : WX} {x fld : Str} {G : Addr} {e1 e2 o y : Expr} {ta : TA} {ms : AM} {to te : TE} {p1 p2 pos p3 p4 spos : Pos} {pl : Sem Bool}
end
section
variable {P : Program} {w : World} {K : PySem.W.Frag} {mg : Str → Option Value} {base : Heap} {x qual n fld : Str} {st : Stmt} {f C : Addr} {fd : FuncData} {k : Nat}
end
/-! raise C(e) -/
/-- what is known of a class whose exceptions are raised -/
structure Ek (K : PySem.W.Frag) (mg : Str → Option Value) (nm fld qual : Str) (st : Stmt) (n : Str) where
  a : Addr
  f : Addr
  fd : FuncData
  m : mg nm = some (.ref a)
  T : OexC K a
  no : PySem.W.findIn K (.ref a) fld = some none
  i : PySem.W.findIn K (.ref a) "__init__" = some (some (.ref f))
  t : PySem.W.typeIn K (.ref f) = some (.type "function")
  F : Fun K "__init__" qual st f fd
  b : Binds K fd ["self", n] []
  C : ExcC K a
  X : XfC K a
structure Gk (K : PySem.W.Frag) (mg : Str → Option Value) (nm : Str) where
  a : Addr
  m : mg nm = some (.ref a)
  g : Gx K a
section
variable {K : PySem.W.Frag} {X : Cx} {W : WX} {x n f qual : Str} {st : Stmt} {e : Expr} {te : TE} {m : EM} {p p2 pos : Pos} {C : Addr} {k kk : Nat} {mg : Str → Option Value}
end
/-! try: .. except G as e: .. -/
/-- what a suite does with the caught exception: a value is returned -/
structure TX (K : PySem.W.Frag) (i : Nat) (t : Addr → Value → Option Addr → TT) (m : Addr → Option Bool) : Prop where
  ok : ∀ (a c : Addr) (d : Option Addr) (fs : List (Str × D)) (σ : St) (H Z : Hp) (b : Bool) (Q : Bool → Hp → Prop), fs.isEmpty = false → Same Z H → σ[i]? = some (some (.ref a)) → ExcAt K Z H d fs → m c = some b → Q b H → t a (.ref c) d σ H Q
structure RX (K : PySem.W.Frag) (i : Nat) (t : Addr → Value → Option Addr → TE) (m : Addr → List (Str × D) → Option D) : Prop where
  ok : ∀ (a c : Addr) (d : Option Addr) (fs : List (Str × D)) (σ : St) (H Z : Hp) (y : D) (Q : VK), fs.isEmpty = false → Same Z H → σ[i]? = some (some (.ref a)) → ExcAt K Z H d fs → m c fs = some y → PostP K Z H y Q → t a (.ref c) d σ H Q
structure HXs (K : PySem.W.Frag) (X : Cx) (i : Nat) (body : List Stmt) (hm : Addr → List (Str × D) → Option D) : Prop where
  ex : ∃ ts : Addr → Value → Option Addr → TS, (∀ (a : Addr) (oe : Obj) (cls : Value) (d : Option Addr) (pn : List (Addr × Obj)), Zc cls d oe → (∃ vs, oe.data = .fields vs) → PSs (X.suite a ((a, oe) :: pn)) body (ts a cls d)) ∧
    ∀ (a c : Addr) (d : Option Addr) (fs : List (Str × D)) (σ : St) (H Z : Hp) (y : D) (E : Ends), fs.isEmpty = false → Same Z H → σ[i]? = some (some (.ref a)) → ExcAt K Z H d fs → hm c fs = some y → PostP K Z H y E.rt → ts a (.ref c) d E σ H
section
variable {K : PySem.W.Frag} {X : Cx} {W : WX} {x n : Str} {cc : Value} {i : Nat} {body suite : List Stmt} {b₀ : Stmt} {np pos pos' : Pos} {tb : WX → TS} {mb : SM} {hm : Addr → List (Str × D) → Option D} {cs : List (Addr × Bool)}
end
/-! what suites ask: isinstance(e, C), e.f -/
def SX (X : Cx) (K : PySem.W.Frag) (e : Expr) (t : Addr → Value → Option Addr → TT) : Prop := X.K = K ∧ ∀ (a : Addr) (oe : Obj) (cls : Value) (d : Option Addr) (pn : List (Addr × Obj)), Zc cls d oe → (∃ vs, oe.data = .fields vs) → PT (X.suite a ((a, oe) :: pn)) e (t a cls d)
def SW (X : Cx) (K : PySem.W.Frag) (e : Expr) (t : Addr → Value → Option Addr → TT) : Prop := X.K = K ∧ ∀ (a : Addr) (oe : Obj) (cls : Value) (d : Option Addr) (pn : List (Addr × Obj)), Zc cls d oe → (∃ vs, oe.data = .fields vs) → PW (X.suite a ((a, oe) :: pn)) e (t a cls d)
def SE (X : Cx) (K : PySem.W.Frag) (e : Expr) (t : Addr → Value → Option Addr → TE) : Prop := X.K = K ∧ ∀ (a : Addr) (oe : Obj) (cls : Value) (d : Option Addr) (pn : List (Addr × Obj)), Zc cls d oe → (∃ vs, oe.data = .fields vs) → PE (X.suite a ((a, oe) :: pn)) e (t a cls d)
/-- a test, a value of the suite -/
structure DTX (K : PySem.W.Frag) (X : Cx) (i : Nat) (e : Expr) (m : Addr → Option Bool) : Prop where
  ex : ∃ t, SX X K e t ∧ TX K i t m
structure DWX (K : PySem.W.Frag) (X : Cx) (i : Nat) (e : Expr) (m : Addr → Option Bool) : Prop where
  ex : ∃ t, SW X K e t ∧ TX K i t m
structure DEX (K : PySem.W.Frag) (X : Cx) (i : Nat) (e : Expr) (m : Addr → List (Str × D) → Option D) : Prop where
  ex : ∃ t, SE X K e t ∧ RX K i t m
section
variable {K : PySem.W.Frag} {X : Cx} {e e1 e2 : Expr} {i : Nat} {pos p p1 p2 : Pos} {x y f : Str} {cc : Addr} {cs : List (Addr × Bool)} {m m1 m2 : Addr → Option Bool} {h h1 h2 : Addr → List (Str × D) → Option D}
end
end DL
namespace DL
open PySem L2
structure Ok (K : PySem.W.Frag) (mg : Str → Option Value) (nm : Str) where
  a : Addr
  m : mg nm = some (.ref a)
section
variable {α : Type} {P : Addr → α → Prop} {Q : Addr → Prop} {a : Addr} {v : α} {cs : List (Addr × α)} {bs : List (Addr × Bool)}
end
end DL
namespace DL
open PySem L2 PyProof.Rows
section
variable {K : PySem.W.Frag} {X : Cx}
/-! lists times an int, longer texts times an int -/
def rRepL (K : PySem.W.Frag) : R2 := fun x y H Q => ∃ (l : Addr) (n : Int) (xs : List V), x = .ref l ∧ y = .int n ∧ SqL K H l xs ∧ 0 ≤ n ∧ n ≤ 1000 ∧ xs.length ≤ 1000 ∧ ∀ p, H p = none → Q (.ref p) (upd H p (.lst (List.replicate n.toNat xs).flatten))
theorem op_repL : OpR X (binaryOp .Mult) (rRepL X.K) := by
  intro pins s σ H x y v u Q I rx ry h
  obtain ⟨l, n, xs, rfl, rfl, hx, h1, h2, h3, q⟩ := h
  obtain rfl : v = Value.ref l := rx
  obtain ⟨t, rfl⟩ := ry
  obtain ⟨its, r, ⟨⟨cls, dd0, data, sl⟩, m, ho, hc, hdn, hd⟩, _⟩ := I.list hx
  simp only at hc hd hdn
  subst hc hd hdn
  have hl := r.length
  have big : its.length * n.toNat ≤ 1000000 := by
    have a1 : its.length ≤ 1000 := by omega
    have a2 : n.toNat ≤ 1000 := by omega
    exact Nat.le_trans (Nat.mul_le_mul a1 a2) (by decide)
  have big2 : its.toArray.size * n.toNat ≤ 1000000 := by rw [List.size_toArray]; exact big
  have c1 : ¬ (!Builtin.List.listFitsIndex n) = true := by simp [Builtin.List.listFitsIndex]; omega
  have c2 : ¬ its.toArray.size * n.toNat > (2 ^ 63 - 1) / 8 := by omega
  have c3 : ¬ Builtin.List.listTooLong (its.toArray.size * n.toNat) = true := by simp [Builtin.List.listTooLong, sizeLine] at *; omega
  have mul := lm_list_mul_any l its.toArray m none sl n t c1 c2 c3
  have rmul := lm_int_rmul_list_any n t l its.toArray m none sl
  refine wpAny_binaryOp_repeat_ref (T := "list") (U := "int")
    (by decide) ⟨_, ho, rfl⟩ (fun s' => typeIs_int s' n t)
    PySem.noFill_list_mul PySem.F.fills_int_mul PySem.F.slot_int_rmul
    PySem.repeat_list PySem.F.slot_int_index.lookup ?_
  refine call_meets PySem.F.slot_int_rmul
    (typeIs_int s n t) PySem.F.entry_int_rmul (PySem.F.args_int_rmul_2 _ _) rmul ⟨ho, rfl, ⟨_, ho, rfl⟩, ?_⟩
  refine call_meets PySem.F.slot_list_mul
    ⟨_, ho, rfl⟩ PySem.F.entry_list_mul (PySem.F.args_list_mul_2 _ _) mul ⟨ho, ?_⟩
  rw [listMul_foldl_if]
  have hr : Vals (List.replicate n.toNat xs).flatten (List.replicate n.toNat its).flatten := r.rep n.toNat
  exact ⟨.ref _, _, I.lnew (t' := s.toks) hr (by rw [lm_len_rep_flat, Nat.mul_comm, hl, sizeLine_eq]; omega), rfl, q _ I.fresh⟩
def dRepL : D → D → Option D
  | .lst xs, .int n => if 0 ≤ n ∧ n ≤ 1000 ∧ xs.length ≤ 1000 then some (.lst (List.replicate n.toNat xs).flatten) else none
  | _, _ => none
theorem repA_rep {Z : Hp} {vs : List V} {ds : List D} (h : RepA K Z vs ds) : ∀ n : Nat, RepA K Z (List.replicate n vs).flatten (List.replicate n ds).flatten
  | 0 => .nil
  | n + 1 => by rw [List.replicate_succ, List.replicate_succ, List.flatten_cons, List.flatten_cons]; exact h.append (repA_rep h n)
/-! calls without arguments -/
end
end DL
namespace DL
open PySem L2 PyProof.Rows
/-! any text in a dict of the module whose keys are texts -/
structure GInA (K : PySem.W.Frag) (w : World) (mg : Str → Option Value) (x : Str) (keys : List Str) where
  a : Addr
  m : mg x = some (.ref a)
  all : ∀ z, KIn K w a z (decide (z ∈ keys))
section
variable {K : PySem.W.Frag} {X : Cx} {W : WX} {e : Expr} {pos p : Pos} {te : TE} {m : EM} {mg : Str → Option Value} {w : World} {x : Str} {keys : List Str}
end
/-! a pair as a suite's value -/
theorem ExcAt.mono {K : PySem.W.Frag} {Z H Z' H' : Hp} {d : Option Addr} {fs : List (Str × D)} (x : ExtP Z H Z' H') (h : ExcAt K Z H d fs) : ExcAt K Z' H' d fs := by
  rcases h with h | ⟨a, vs, h1, h2, h3⟩
  · exact .inl h
  · exact .inr ⟨a, vs, h1, x.h _ _ h2, paired_imp (fun _ _ q => ⟨q.1, q.2.mono x.z⟩) h3⟩
section
variable {K : PySem.W.Frag} {X : Cx} {e1 e2 : Expr} {i : Nat} {pos : Pos} {m n : Addr → List (Str × D) → Option D}
end
end DL
namespace DL
open PySem PySem.Spec PyProof.Rows L2 LamX NdefX
/-! ### cells that are held still for a call, or let go for one -/
def without (H : Hp) (cs : Addr → Option Obj) : Hp := fun b => if (cs b).isSome then none else H b
def withC (H : Hp) (cs : Addr → Option Obj) : Hp := fun b => match cs b with
  | some o => some (cellO o)
  | none => H b
theorem without_in {H : Hp} {cs : Addr → Option Obj} {b : Addr} {o : Obj} (h : cs b = some o) : without H cs b = none := by unfold without; rw [h]; rfl
theorem without_out {H : Hp} {cs : Addr → Option Obj} {b : Addr} (h : cs b = none) : without H cs b = H b := by unfold without; rw [h]; rfl
theorem withC_in {H : Hp} {cs : Addr → Option Obj} {b : Addr} {o : Obj} (h : cs b = some o) : withC H cs b = some (cellO o) := by unfold withC; rw [h]
theorem withC_out {H : Hp} {cs : Addr → Option Obj} {b : Addr} (h : cs b = none) : withC H cs b = H b := by unfold withC; rw [h]
section
variable {P : Program} {w : World} {H H' : Hp} {h : Heap} {cs : Addr → Option Obj}
/-- only what is an object's own dict is looked up elsewhere -/
theorem prd_imp {α β : Type} {R S : α → β → Prop} (h : ∀ a b, R a b → S a b) : ∀ {xs : List α} {ys : List β}, Paired R xs ys → Paired S xs ys
  | _, _, .nil => .nil
  | _, _, .cons p r => .cons (h _ _ p) (prd_imp h r)
theorem objOk_of (hk : ∀ b C, H b = some (.own C) → H' b = some (.own C)) (ht : ∀ b xs, H b = some (.tup xs) → H' b = some (.tup xs)) {a : Addr} : ∀ {x : HO}, ObjOk P w H h a x → ObjOk P w H' h a x
  | .dT _, ⟨q1, q2, xs, q3, q4⟩ => ⟨q1, q2, xs, prd_imp (fun _ _ ⟨p1, p2, p3⟩ => ⟨p1, ht _ _ p2, p3⟩) q3, q4⟩
  | .lst _, q => q | .tup _, q => q | .dK _, q => q | .set _ _, q => q | .own _, q => q | .xd _, q => q | .met _ _, q => q | .rng _ _, q => q | .tbl _, q => q | .ext _, q => q
  | .ins _ _ _, q => ⟨hk _ _ q.1, q.2⟩
  | .frz o u, q => ⟨q.1, objOk_of hk ht (x := u) q.2⟩
theorem hok_without (hk : HOk P w H h) (hc : ∀ b o, cs b = some o → H b = some (cellO o)) : HOk P w (without H cs) h := fun a x e => by
  cases q : cs a with
  | some o => rw [without_in q] at e; cases e
  | none =>
    rw [without_out q] at e
    refine objOk_of (fun b C z => ?_) (fun b C z => ?_) (hk a x e)
    all_goals
      cases r : cs b with
      | some o => rw [hc b o r] at z; cases z
      | none => rw [without_out r]; exact z
theorem hok_withC (hk : HOk P w H h) (hc : ∀ b o, cs b = some o → H b = none ∧ h.get? b = some o) : HOk P w (withC H cs) h := fun a x e => by
  cases q : cs a with
  | some o =>
    rw [withC_in q] at e
    cases e
    exact ⟨(hc a o q).2, _, (hc a o q).2⟩
  | none =>
    rw [withC_out q] at e
    refine objOk_of (fun b C z => ?_) (fun b C z => ?_) (hk a x e)
    all_goals
      cases r : cs b with
      | some o => rw [(hc b o r).1] at z; cases z
      | none => rw [withC_out r]; exact z
end
section
variable {P : Program} {w : World} {H : Hp} {cs : Addr → Option Obj} {outer : List Env} {s s' : Shared} {Q : VK} {u : Value}
/-- cells held still for the call -/
theorem ce_with (hc : ∀ b o, cs b = some o → H b = none ∧ s.heap.get? b = some o) (c : CE outer P w (withC H cs) s (fun v H' => (∀ b o, cs b = some o → H' b = some (cellO o)) → Q v (without H' cs)) u s') : CE outer P w H s Q u s' := by
  obtain ⟨v, H', os, br, un, hk, rv, q⟩ := c
  have st : ∀ b o, cs b = some o → H' b = some (cellO o) := fun b o e => un.frzs b o _ (withC_in e)
  have sh : ∀ b o, cs b = some o → s'.heap.get? b = some o := fun b o e => (hk b _ (st b o e)).1
  refine ⟨v, without H' cs, os, br, ⟨fun b o e n f x => ?_, fun b o e n f x => ?_, fun b o e n x => ?_, fun b o e x => un.there b o e x, fun b xs e => ?_, fun b o x e => ?_, fun b ps e => ?_⟩, hok_without hk st, rv, q st⟩
  · cases q : cs b with
    | some o' =>
      have := (hc b o' q).2
      rw [e] at this; cases this
      exact sh b o q
    | none => exact un.keep b o e (by rw [withC_out q]; exact n) f x
  · cases q : cs b with
    | some o' =>
      have := (hc b o' q).2
      rw [e] at this; cases this
      exact ⟨o.slots, sh b o q⟩
    | none => exact un.slot b o e (by rw [withC_out q]; exact n) f x
  · cases q : cs b with
    | some o' => exact without_in q
    | none => rw [without_out q]; exact un.free b o e (by rw [withC_out q]; exact n) x
  · cases q : cs b with
    | some o' => rw [(hc b o' q).1] at e; cases e
    | none => rw [without_out q]; exact un.tups b xs (by rw [withC_out q]; exact e)
  · cases q : cs b with
    | some o' => rw [(hc b o' q).1] at e; cases e
    | none => rw [without_out q]; exact un.frzs b o x (by rw [withC_out q]; exact e)
  · cases q : cs b with
    | some o' => rw [(hc b o' q).1] at e; cases e
    | none =>
      rw [without_out q]; exact un.tbls b ps (by rw [withC_out q]; exact e)
/-- cells let go for the call -/
theorem ce_without (hk0 : HOk P w H s.heap) (hf : ∀ b ∈ frs outer, H b = none) (hc : ∀ b o, cs b = some o → H b = some (cellO o)) (c : CE outer P w (without H cs) s (fun v H' => (∀ b o, cs b = some o → H' b = none) → Q v (withC H' cs)) u s') : CE outer P w H s Q u s' := by
  obtain ⟨v, H', os, br, un, hk, rv, q⟩ := c
  have s0 : ∀ b o, cs b = some o → s.heap.get? b = some o := fun b o e => (hk0 b _ (hc b o e)).1
  have nf : ∀ b o, cs b = some o → ¬ b ∈ frs outer := fun b o e z => by have := hc b o e; rw [hf b z] at this; cases this
  have sh : ∀ b o, cs b = some o → H' b = none ∧ s'.heap.get? b = some o := fun b o e => ⟨un.free b o (s0 b o e) (without_in e) (by simp), un.keep b o (s0 b o e) (without_in e) (nf b o e) (by simp)⟩
  refine ⟨v, withC H' cs, os, br, ⟨fun b o e n f x => ?_, fun b o e n f x => ?_, fun b o e n x => ?_, fun b o e x => un.there b o e x, fun b xs e => ?_, fun b o x e => ?_, fun b ps e => ?_⟩, hok_withC hk sh, rv, q fun b o e => (sh b o e).1⟩
  · cases q : cs b with
    | some o' => rw [hc b o' q] at n; cases n
    | none => exact un.keep b o e (by rw [without_out q]; exact n) f x
  · cases q : cs b with
    | some o' => rw [hc b o' q] at n; cases n
    | none => exact un.slot b o e (by rw [without_out q]; exact n) f x
  · cases q : cs b with
    | some o' => rw [hc b o' q] at n; cases n
    | none => rw [withC_out q]; exact un.free b o e (by rw [without_out q]; exact n) x
  · cases q : cs b with
    | some o' => rw [hc b o' q] at e; cases e
    | none => rw [withC_out q]; exact un.tups b xs (by rw [without_out q]; exact e)
  · cases q : cs b with
    | some o' =>
      rw [hc b o' q] at e
      cases e
      exact withC_in q
    | none => rw [withC_out q]; exact un.frzs b o x (by rw [without_out q]; exact e)
  · cases q : cs b with
    | some o' => rw [hc b o' q] at e; cases e
    | none => rw [withC_out q]; exact un.tbls b ps (by rw [without_out q]; exact e)
end
end DL
namespace DL
open PySem PySem.Spec PyProof.Rows L2 LamX NdefX
/-! ### data without closures -/
mutual
def noClo : D → Bool
  | .clo _ _ => false
  | .lst xs => noClos xs
  | .tup xs => noClos xs
  | .ktup xs => noClos xs
  | .klst xs => noClos xs
  | .scr xs => noClos xs
  | .dK kvs => noCloK kvs
  | .dT kvs => noCloT kvs
  | .non => true | .bl _ => true | .int _ => true | .str _ => true | .fn _ => true | .ty _ => true | .rng _ _ => true
def noClos : List D → Bool
  | [] => true
  | d :: r => noClo d && noClos r
def noCloK : List (Key × D) → Bool
  | [] => true
  | (_, d) :: r => noClo d && noCloK r
def noCloT : List (List Key × D) → Bool
  | [] => true
  | (_, d) :: r => noClo d && noCloT r
end
section
variable {K : PySem.W.Frag} {Z Z' : Hp}
theorem seq_keep (e : ∀ b x, Z b = some x → (∀ o, x ≠ cellO o) → Z' b = some x) {a : Addr} {xs : List V} (h : SqL K Z a xs) : SqL K Z' a xs := by
  rcases h with (h | ⟨o, h⟩) | h
  · exact .inl (.inl (e _ _ h fun o z => by cases z))
  · exact .inl (.inr ⟨o, e _ _ h fun o z => by cases z⟩)
  · exact .inr h
mutual
/-- what is no cell is kept: so is what stands for data -/
theorem Rep.keep (e : ∀ b x, Z b = some x → (∀ o, x ≠ cellO o) → Z' b = some x) : ∀ {v : V} {d : D}, noClo d = true → Rep K Z v d → Rep K Z' v d
  | _, _, _, .non => .non
  | _, _, _, .bl b => .bl b
  | _, _, _, .int i => .int i
  | _, _, _, .str x => .str x
  | _, _, n, .lst h r => .lst (by
    rcases h with h | ⟨o, h⟩
    · exact .inl (e _ _ h fun o z => by cases z)
    · exact .inr ⟨o, e _ _ h fun o z => by cases z⟩) (RepA.keep e (by simpa [noClo] using n) r)
  | _, _, n, .tup h r => .tup (e _ _ h fun o z => by cases z) (RepA.keep e (by simpa [noClo] using n) r)
  | _, _, n, .ktup h r => .ktup (by
    rcases h with (h | ⟨o, h⟩) | h
    · exact .inl (.inl (e _ _ h fun o z => by cases z))
    · exact .inl (.inr ⟨o, e _ _ h fun o z => by cases z⟩)
    · exact .inr h) (RepA.keep e (by simpa [noClo] using n) r)
  | _, _, n, .klst h r => .klst (seq_keep e h) (RepA.keep e (by simpa [noClo] using n) r)
  | _, _, _, .fn a => .fn a
  | _, _, _, .ty n => .ty n
  | _, _, _, .rng h => .rng (e _ _ h fun o z => by cases z)
  | _, _, n, .scr h r => .scr (seq_keep e h) (RepA.keep e (by simpa [noClo] using n) r)
  | _, _, n, .clo _ _ => by simp [noClo] at n
  | _, _, n, .dK h r => .dK (e _ _ h fun o z => by cases z) (RepK.keep e (by simpa [noClo] using n) r)
  | _, _, n, .dT h r => .dT (e _ _ h fun o z => by cases z) (RepT.keep e (by simpa [noClo] using n) r)
theorem RepA.keep (e : ∀ b x, Z b = some x → (∀ o, x ≠ cellO o) → Z' b = some x) : ∀ {v : List V} {d : List D}, noClos d = true → RepA K Z v d → RepA K Z' v d
  | _, _, _, .nil => .nil
  | _, _, n, .cons h r => by
    have n : (noClo _ && noClos _) = true := n
    rw [Bool.and_eq_true] at n
    exact .cons (Rep.keep e n.1 h) (RepA.keep e n.2 r)
theorem RepK.keep (e : ∀ b x, Z b = some x → (∀ o, x ≠ cellO o) → Z' b = some x) : ∀ {v : List (Key × V)} {d : List (Key × D)}, noCloK d = true → RepK K Z v d → RepK K Z' v d
  | _, _, _, .nil => .nil
  | _, _, n, .cons h r => by
    have n : (noClo _ && noCloK _) = true := n
    rw [Bool.and_eq_true] at n
    exact .cons (Rep.keep e n.1 h) (RepK.keep e n.2 r)
theorem RepT.keep (e : ∀ b x, Z b = some x → (∀ o, x ≠ cellO o) → Z' b = some x) : ∀ {v : List (List Key × V)} {d : List (List Key × D)}, noCloT d = true → RepT K Z v d → RepT K Z' v d
  | _, _, _, .nil => .nil
  | _, _, n, .cons h r => by
    have n : (noClo _ && noCloT _) = true := n
    rw [Bool.and_eq_true] at n
    exact .cons (Rep.keep e n.1 h) (RepT.keep e n.2 r)
end
end
end DL
namespace DL
open PySem PySem.Spec PyProof.Rows L2 LamX NdefX
/-! ### the promise of a lambda that captures: its mirror takes the arguments and what is captured -/
def spW (K : PySem.W.Frag) (n : Nat) (m : MA) (ws : List (Option V)) : Sp := fun vs H Q _ => vs.length = n ∧ ∃ Z ds cvs cs r, Same Z H ∧ RepA K Z vs ds ∧ ws = cvs.map some ∧ RepA K Z cvs cs ∧ m (ds ++ cs) = some (.ok r) ∧ PostP K Z H r Q
section
variable {P : Program} {w : World} {K : PySem.W.Frag} {mg : Str → Option Value} {base : Heap} {N ps fr : List Str} {F : NF} {f : Addr} {k : Nat} {body : Expr} {em : EM}
end
/-! ### the call of a closure -/
theorem look_mem {α β : Type} [BEq α] [LawfulBEq α] {y : α} {b : β} : ∀ {l : List (α × β)}, l.lookup y = some b → (y, b) ∈ l
  | [], h => by cases h
  | (z, c) :: r, h => by
    rw [List.lookup_cons] at h
    cases q : y == z with
    | true =>
      rw [q] at h
      cases h
      rw [eq_of_beq q]
      exact .head _
    | false =>
      rw [q] at h
      exact .tail _ (look_mem h)
/-- what a lambda of the text does, wherever it was made -/
def CloOk (P : Program) (w : World) (K : PySem.W.Frag) (mg : Str → Option Value) (base : Heap) (k n : Nat) (L : LamS) (m : MA) : Prop :=
  ∃ ps : List Str, ps.length = n ∧ ∀ a c cl, LOk P w K mg base (L2.CX P w) k a (L.nf cl c) L.body ps L.fr (fun ws => spW K n m ws)
section
variable {X : Cx} {pins : List (Addr × Obj)} {σ : L2.St} {H : Hp} {s : Shared}
end
end DL
namespace DL
open PySem PySem.Spec PyProof.Rows L2 LamX NdefX
/-! ### the call of a local that holds a closure -/
open Classical in
/-- the mirror of a lambda: told by its number, then known to be the same -/
noncomputable def tbm : List (LamS × MA) → LamS → Option MA
  | [], _ => none
  | (L0, m) :: r, L => if L0.ix = L.ix then (if L0 = L then some m else none) else tbm r L
theorem lam_fnAt {P : Program} {w : World} {H : Hp} {h : Heap} {a : Addr} (hk : HOk P w H h) (e : ∃ F b, H a = some (LamO a F b)) : PySem.W.FnAt a h := by
  obtain ⟨F, b, e⟩ := e
  obtain ⟨od, sl, pm, ctv, ho⟩ := lamO_at hk e
  exact ⟨_, _, _, _, ho⟩
section
variable {K : PySem.W.Frag} {X : Cx} {W : WX} {e : Expr} {es : List Expr} {pos p : Pos} {x : Str} {i n k : Nat} {tb : List (LamS × MA)} {t : TA} {ms : AM}
end
end DL
namespace DL
open PySem PySem.Spec PyProof.Rows L2 LamX NdefX
/-! ### a def is called with a lambda that is made for the call -/
theorem funs_at {h base : Heap} : ∀ {l : List Env}, h.FunFrames base l → ∀ b ∈ frs l, ∃ o, h.get? b = some o
  | [], _, b, hb => by simp [frs] at hb
  | e :: r, q, b, hb => by
    simp only [Heap.FunFrames] at q
    obtain ⟨_, ⟨L, o, h1, _, h3, _⟩, h4⟩ := q
    simp only [frs, List.filterMap_cons, h1] at hb
    rcases List.mem_cons.mp hb with rfl | hb
    · exact ⟨o, h3⟩
    · exact funs_at h4 b hb
open Classical in
/-- the cells of a list, as the heap has them -/
noncomputable def cellsH (h : Heap) (cl : List (Str × Addr)) : Addr → Option Obj := fun b => if ∃ y, cl.lookup y = some b then h.get? b else none
theorem cellsH_in {h : Heap} {cl : List (Str × Addr)} {b : Addr} {o : Obj} (q : cellsH h cl b = some o) : (∃ y, cl.lookup y = some b) ∧ h.get? b = some o := by
  unfold cellsH at q
  split at q
  · rename_i y; exact ⟨y, q⟩
  · cases q
theorem cellsH_of {h : Heap} {cl : List (Str × Addr)} {y : Str} {b : Addr} (q : cl.lookup y = some b) : cellsH h cl b = h.get? b := by
  unfold cellsH
  rw [if_pos ⟨y, q⟩]
theorem vals_app : ∀ {vs ws : List V} {us xs : List Value}, Vals vs us → Vals ws xs → Vals (vs ++ ws) (us ++ xs)
  | _, _, _, _, .nil, h => h
  | _, _, _, _, .cons h r, q => .cons h (vals_app r q)
section
variable {X : Cx} {pins : List (Addr × Obj)} {σ : L2.St} {H : Hp} {s : Shared}
end
end DL
namespace DL
open PySem PySem.Spec PyProof.Rows L2 LamX NdefX
/-! ### f(e, lambda ..): the rule -/
section
variable {K : PySem.W.Frag} {X : Cx} {W : WX} {e : Expr} {pos p lpos : Pos} {x : Str} {k : Nat}
end
end DL
namespace DL
open PySem PySem.Spec PyProof.Rows L2 LamX NdefX
/-! ### lambdas out of the text -/
def lamPs : Expr → Arguments
  | .Lambda p _ _ _ => p
  | _ => defArgs (.Pass ⟨0, 0, 0, 0⟩)
def lamBd : Expr → Expr
  | .Lambda _ b _ _ => b
  | e => e
def lamSc : Expr → Scope
  | .Lambda _ _ s _ => s
  | _ => defScope (.Pass ⟨0, 0, 0, 0⟩)
def lamS (ix : Nat) (q : Str) (fr : List Str) (e : Expr) : LamS := ⟨ix, q, lamPs e, lamBd e, lamSc e, fr⟩
section
variable {P : Program} {w : World} {K : PySem.W.Frag} {mg : Str → Option Value} {base : Heap}
theorem CloOk.mono {k k' n : Nat} {L : LamS} {m : MA} (h : CloOk P w K mg base k n L m) (e : k ≤ k') : CloOk P w K mg base k' n L m := by
  obtain ⟨ps, hp, F⟩ := h
  exact ⟨ps, hp, fun a c cl => ⟨(F a c cl).len, fun A outer s H us vs ws Q E hr => (F a c cl).run A outer s H us vs ws Q E (hr.mono e)⟩⟩
end
@[simp] theorem tbm_hit (L : LamS) (m : MA) (r : List (LamS × MA)) : tbm ((L, m) :: r) L = some m := by
  unfold tbm
  rw [if_pos rfl, if_pos rfl]
/-! ### methods without arguments: l.pop(), l.clear() -/
section
variable {K : PySem.W.Frag} {X : Cx} {W : WX} {e : Expr} {es : List Expr} {pos : Pos}
def gPop : MtG := fun d ds s => match d, ds with
  | .o n, [] => match s.m[n]? with
    | some (.lst xs) => match xs[xs.length - 1]? with
      | some x => some (.ok x (s.m.set n (.lst xs.dropLast)))
      | none => none
    | _ => none
  | _, _ => none
def gClear : MtG := fun d ds s => match d, ds with
  | .o n, [] => match s.m[n]? with
    | some (.lst _) => some (.ok (.p .non) (s.m.set n (.lst [])))
    | _ => none
  | _, _ => none
/-! ### tuples one behind the other -/
def dCatT : D → D → Option D
  | .tup (x :: xs), .tup (y :: ys) => if xs.length + ys.length + 2 ≤ 1000000 then some (.tup (x :: xs ++ y :: ys)) else none
  | _, _ => none
end
@[simp] theorem e_catT (x y : D) (xs ys : List D) : dCatT (.tup (x :: xs)) (.tup (y :: ys)) = if xs.length + ys.length + 2 ≤ 1000000 then some (.tup (x :: xs ++ y :: ys)) else none := rfl
@[simp] theorem e_pop (n : Nat) (s : S) : gPop (.o n) [] s = (match s.m[n]? with | some (.lst xs) => (match xs[xs.length - 1]? with | some x => some (.ok x (s.m.set n (.lst xs.dropLast))) | none => none) | _ => none) := rfl
@[simp] theorem e_clear (n : Nat) (s : S) : gClear (.o n) [] s = (match s.m[n]? with | some (.lst _) => some (.ok (.p .non) (s.m.set n (.lst []))) | _ => none) := rfl
end DL
namespace DL
open PySem
/-! ### addresses that differ, by computing -/
end DL
namespace DL
open PySem L2
/-! ### drawing over any invariant that a draw keeps; the drawn state behind any number of tables -/
structure Dw (sv : DV) (n : Nat) (Iv : List O → Prop) : Prop where
  len : ∀ {M : List O}, Iv M → M.length = n
  tk : ∀ {M : List O} {most : Int} {P : DV → List O → Prop}, Iv M → most < 18446744073709551616 → (∀ r M', Iv M' → (most < 1 → r = 0) → (1 ≤ most → 0 ≤ r ∧ r < most) → P (.p (.int r)) M') → wpB (takeM [sv, .p (.int most)] M) P
theorem Dw.dr (n : Nat) (sv : DV) : Dw sv n (Dr n sv) := ⟨fun h => h.len, fun h hm k => wp_take h hm k⟩
theorem Dw.dx (n : Nat) (sv : DV) (R : List O) : Dw sv (n + R.length) (Dx n sv R) := ⟨fun h => h.len, fun h hm k => wp_takeX h hm k⟩
theorem Dw.drop {sv : DV} {n : Nat} {Iv : List O → Prop} (W : Dw sv n Iv) {M M' : List O} (h : Iv M) (h' : Iv M') (d : DV) : dropM M.length d M' = M' := dropM_len (by rw [W.len h, W.len h'])
structure Db (Ts : List O) (n : Nat) (sv : DV) (B : List O) : Prop where
  len : B.length = n
  tb : ∀ i, i < Ts.length → B[i]? = Ts[i]?
  cl : B.all (closed n) = true
  ex : ∃ (k c : Nat) (i : Int) (cells : List Int), sv = .o k ∧ Ts.length ≤ k ∧ Ts.length ≤ c ∧ B[k]? = some (.lst [.p (.int i), .o c]) ∧ B[c]? = some (intL cells) ∧ k ≠ c ∧ 0 ≤ i ∧ cells ≠ [] ∧ ∀ z ∈ cells, 0 ≤ z
def Dbx (Ts : List O) (n : Nat) (sv : DV) (R M : List O) : Prop := ∃ B, M = B ++ R ∧ Db Ts n sv B
theorem Dbx.of {Ts : List O} {n : Nat} {sv : DV} {M : List O} (h : Db Ts n sv M) : Dbx Ts n sv [] M := ⟨M, (List.append_nil _).symm, h⟩
theorem Dbx.nil {Ts : List O} {n : Nat} {sv : DV} {M : List O} (h : Dbx Ts n sv [] M) : Db Ts n sv M := by obtain ⟨B, rfl, h⟩ := h; rwa [List.append_nil]
theorem Dbx.len {Ts : List O} {n : Nat} {sv : DV} {R M : List O} (h : Dbx Ts n sv R M) : M.length = n + R.length := by obtain ⟨B, rfl, h⟩ := h; rw [List.length_append, h.len]
theorem Dbx.get {Ts : List O} {n : Nat} {sv : DV} {R M : List O} (h : Dbx Ts n sv R M) (i : Nat) : M[n + i]? = R[i]? := by
  obtain ⟨B, rfl, h⟩ := h
  rw [List.getElem?_append_right (by rw [h.len]; omega), h.len]
  congr 1; omega
theorem Dbx.set {Ts : List O} {n : Nat} {sv : DV} {R M : List O} (h : Dbx Ts n sv R M) (i : Nat) (o : O) : Dbx Ts n sv (R.set i o) (M.set (n + i) o) := by
  obtain ⟨B, rfl, h⟩ := h
  refine ⟨B, ?_, h⟩
  rw [List.set_append_right _ _ (by rw [h.len]; omega), h.len]
  congr 2; omega
theorem Dbx.app {Ts : List O} {n : Nat} {sv : DV} {R M : List O} (h : Dbx Ts n sv R M) (Q : List O) : Dbx Ts n sv (R ++ Q) (M ++ Q) := by
  obtain ⟨B, rfl, h⟩ := h
  exact ⟨B, List.append_assoc _ _ _, h⟩
theorem Dbx.tab {Ts : List O} {n : Nat} {sv : DV} {R M : List O} (h : Dbx Ts n sv R M) (hn : Ts.length ≤ n) (i : Nat) (hi : i < Ts.length) : M[i]? = Ts[i]? := by
  obtain ⟨B, rfl, h⟩ := h
  rw [List.getElem?_append_left (by rw [h.len]; omega), h.tb i hi]
theorem Db.le {Ts : List O} {n : Nat} {sv : DV} {B : List O} (h : Db Ts n sv B) : Ts.length ≤ n := by
  obtain ⟨k, c, i, cells, rfl, k0, c0, hk, _⟩ := h.ex
  have := (List.getElem?_eq_some_iff.mp hk).1
  rw [h.len] at this
  omega
theorem Dbx.drop {Ts : List O} {n : Nat} {sv : DV} {R G M : List O} {d : D} (h : Dbx Ts n sv (R ++ G) M) (hR : R.all (closed (n + R.length)) = true) {k : Nat} (hk : k = n + R.length) : Dbx Ts n sv R (dropM k (.p d) M) := by
  subst hk
  obtain ⟨B, rfl, h⟩ := h
  have e : (B ++ (R ++ G)).take (n + R.length) = B ++ R := by
    rw [← List.append_assoc, List.take_append_of_le_length (by rw [List.length_append, h.len]; exact Nat.le_refl _), List.take_of_length_le (by rw [List.length_append, h.len]; exact Nat.le_refl _)]
  have c : (B ++ R).all (closed (n + R.length)) = true := by
    rw [List.all_append, hR, Bool.and_true]
    exact List.all_eq_true.mpr fun o ho => closed_mono (Nat.le_add_right _ _) o (List.all_eq_true.mp h.cl o ho)
  unfold dropM
  rw [e, c]
  exact ⟨B, rfl, h⟩
theorem wp_takeB {Ts : List O} {n : Nat} {sv : DV} {R M : List O} {most : Int} {P : DV → List O → Prop} (h : Dbx Ts n sv R M) (hm : most < 18446744073709551616) (k : ∀ r M', Dbx Ts n sv R M' → (most < 1 → r = 0) → (1 ≤ most → 0 ≤ r ∧ r < most) → P (.p (.int r)) M') : wpB (takeM [sv, .p (.int most)] M) P := by
  obtain ⟨B, rfl, h⟩ := h
  obtain ⟨kk, c, i, cells, rfl, k0, c0, hk, hc, kc, hi, ne, nn⟩ := h.ex
  have lk := (List.getElem?_eq_some_iff.mp hk).1
  have lc := (List.getElem?_eq_some_iff.mp hc).1
  obtain ⟨r, M', e, d, b0, b⟩ := take_raw (M := B ++ R) (by rw [List.getElem?_append_left lk]; exact hk) (by rw [List.getElem?_append_left lc]; exact hc) kc hi ne nn most hm
  refine ⟨_, _, e, ?_⟩
  rcases d with rfl | ⟨cells', rfl, ne', nn'⟩ | rfl
  · exact k r _ ⟨B, rfl, h⟩ b0 b
  · rw [List.set_append_left _ _ lc]
    exact k r _ ⟨_, rfl, ⟨by rw [List.length_set]; exact h.len, fun j hj => by rw [List.getElem?_set_ne (by omega)]; exact h.tb j hj, all_set h.cl (closed_ints n _) c, kk, c, i, cells', rfl, k0, c0, by rw [List.getElem?_set_ne kc.symm]; exact hk, by rw [List.getElem?_set_self lc], kc, hi, ne', nn'⟩⟩ b0 b
  · rw [List.set_append_left _ _ lk]
    exact k r _ ⟨_, rfl, ⟨by rw [List.length_set]; exact h.len, fun j hj => by rw [List.getElem?_set_ne (by omega)]; exact h.tb j hj, all_set h.cl (show closed n (.lst [.p (.int (i + 1)), .o c]) = true from (List.all_eq_true.mp h.cl _ (List.mem_of_getElem? hk) : closed n (.lst [.p (.int i), .o c]) = true)) kk, kk, c, i + 1, cells, rfl, k0, c0, by rw [List.getElem?_set_self lk], by rw [List.getElem?_set_ne kc]; exact hc, kc, by omega, ne, nn⟩⟩ b0 b
theorem Dw.db (Ts : List O) (n : Nat) (sv : DV) : Dw sv n (Db Ts n sv) := ⟨fun h => h.len, fun h hm k => wp_takeB (Dbx.of h) hm fun r M' h' => k r M' h'.nil⟩
end DL
namespace DL
open PySem PySem.Spec PyProof.Rows L2 LamX NdefX
/-! ### the end of a law whose defs make lambdas and whose mirrors speak of addresses of defs and classes too -/
end DL
namespace DL
open PySem PySem.Spec PyProof.Rows L2
section
variable {K : PySem.W.Frag} {Z H : Hp} {I : List Addr} {M : List O}
/-! ### dicts that are data: given up and locked, read, walked -/
theorem ext_lck {n : Nat} {a : Addr} {u : HO} {o : O} (w : Wf K Z H I M) (ha : I[n]? = some a) (hm : M[n]? = some o) (hg : o ≠ .gone) (hu : H a = some u) (od : Obj) (op : o.opn := by trivial) : Ext Z H I (upd Z a (.frz od u)) (upd H a (.frz od u)) I where
  z := same_upd (ZN.get op (w.ob n a o ha hm hg).1)
  i := ⟨[], by simp⟩
  fr := fun b x e nb => by rw [upd_ne (fun q => nb (by rw [q]; exact List.mem_of_getElem? ha))]; exact e
  nw := fun _ m => .inl m
  zn := fun b e => by
    by_cases q : b = a
    · rw [q]; exact .inr (.inr (List.mem_of_getElem? ha))
    · rw [upd_ne q] at e; exact .inl e
  tr := fun b e => by
    by_cases q : b = a
    · rw [q, upd_same]; simp
    · rw [upd_ne q]; exact e
theorem Wf.lck {n : Nat} {a : Addr} {u : HO} {o : O} (w : Wf K Z H I M) (ha : I[n]? = some a) (hm : M[n]? = some o) (hg : o ≠ .gone) (hu : H a = some u) (od : Obj) (op : o.opn := by trivial) : Wf K (upd Z a (.frz od u)) (upd H a (.frz od u)) I (M.set n .gone) where
  sub := fun b x e => by
    by_cases q : b = a
    · rw [q, upd_same] at e ⊢; exact e
    · rw [upd_ne q] at e ⊢; exact w.sub b x e
  len := by rw [List.length_set]; exact w.len
  nd := w.nd
  tr := fun b hb => by
    by_cases q : b = a
    · rw [q, upd_same]; simp
    · rw [upd_ne q]; exact w.tr b hb
  ob := fun j b x h1 h2 h3 => by
    by_cases q : n = j
    · subst q
      rw [List.getElem?_set_self (List.getElem?_eq_some_iff.mp hm).1] at h2
      cases h2
      exact absurd rfl h3
    · rw [List.getElem?_set_ne q] at h2
      obtain ⟨q1, q2⟩ := w.ob j b x h1 h2 h3
      have hne : b ≠ a := fun z => by
        obtain ⟨l1, e1⟩ := List.getElem?_eq_some_iff.mp ha
        obtain ⟨l2, e2⟩ := List.getElem?_eq_some_iff.mp h1
        exact q ((List.getElem_inj w.nd).mp (e1.trans (z.symm.trans e2.symm)))
      exact ⟨q1.imp fun q1 => by rw [upd_ne hne]; exact q1, q2.mono (same_upd (ZN.get op (w.ob n a o ha hm hg).1)) (upd_ne hne)⟩
def frzOD : O → Option D
  | .dK ds => (allKP ds).map .dK
  | .dT ds => (allKP ds).map .dT
  | _ => none
theorem lck_rep {n : Nat} {a : Addr} {o : O} {d : D} (w : Wf K Z H I M) (ha : I[n]? = some a) (hm : M[n]? = some o) (e : frzOD o = some d) :
    ∃ u, H a = some u ∧ Mut (some u) ∧ ∀ od, ∃ Z', Wf K Z' (upd H a (.frz od u)) I (M.set n .gone) ∧ Ext Z H I Z' (upd H a (.frz od u)) I ∧ Rep K Z' (.ref a) d := by
  cases o with
  | dK ds =>
    obtain ⟨xs, hx, rfl⟩ := Option.map_eq_some_iff.mp (show (allKP ds).map D.dK = some d from e)
    obtain ⟨hz, ys, h1, h2⟩ := w.ob n a _ ha hm (by intro z; cases z)
    refine ⟨_, h1, trivial, fun od => ?_⟩
    have x2 := ext_lck w ha hm (by intro z; cases z) h1 od
    exact ⟨_, w.lck ha hm (by intro z; cases z) h1 od, x2, .dK upd_same ((allKP_k h2 hx).mono x2.z)⟩
  | dT ds =>
    obtain ⟨xs, hx, rfl⟩ := Option.map_eq_some_iff.mp (show (allKP ds).map D.dT = some d from e)
    obtain ⟨hz, ys, h1, h2⟩ := w.ob n a _ ha hm (by intro z; cases z)
    refine ⟨_, h1, trivial, fun od => ?_⟩
    have x2 := ext_lck w ha hm (by intro z; cases z) h1 od
    exact ⟨_, w.lck ha hm (by intro z; cases z) h1 od, x2, .dT upd_same ((allKP_t h2 hx).mono x2.z)⟩
  | _ => cases e
/-- a name's own dict is given up -/
def sFrzD (i : Nat) : SM := fun s => match gv s.l i with
  | some (.o n) => match s.m[n]? with
    | some o => match frzOD o with
      | some d => some (.nx, ⟨s.l.set i (some (.p d)), s.m.set n .gone⟩)
      | none => none
    | none => none
  | _ => none
def tLckS (i : Nat) (t : TS) : TS := fun D σ H => ∃ a u, σ[i]? = some (some (.ref a)) ∧ H a = some u ∧ Mut (some u) ∧ ∀ od, t D σ (upd H a (.frz od u))
variable {W : WX}
theorem so_sfrzD (i : Nat) {t : TS} {m : SM} (h : SoundS K W t m) : SoundS K W (tLckS i t) (sSeq (sFrzD i) m) := ⟨fun σ H s Z I r D w rs e p => by
  unfold sSeq sFrzD at e
  cases q : gv s.l i with
  | none => simp only [q] at e; cases e
  | some d =>
    cases d with
    | p d => simp only [q] at e; cases e
    | o n =>
      simp only [q] at e
      cases q2 : s.m[n]? with
      | none => simp only [q2] at e; cases e
      | some o =>
        simp only [q2] at e
        cases q3 : frzOD o with
        | none => simp only [q3] at e; cases e
        | some d =>
          simp only [q3] at e
          obtain ⟨v, h1, a, ha, rfl⟩ := rs.at_ i _ (gv_some q)
          obtain ⟨u, hu, mu, k⟩ := lck_rep w ha q2 q3
          refine ⟨a, u, h1, hu, mu, fun od => ?_⟩
          obtain ⟨Z', w', x', rp⟩ := k od
          refine h.ok σ _ _ Z' I r D w' ?_ e (p.mono x')
          have r1 := (rs.mono x').set (v := .ref a) (dv := .p d) rp i
          have e2 : σ.set i (some (V.ref a)) = σ := by
            obtain ⟨hl, he⟩ := List.getElem?_eq_some_iff.mp h1
            rw [← he, List.set_getElem_self]
          rw [e2] at r1
          exact r1⟩
theorem pss_lck {X : Cx} {sts : List Stmt} {t : TS} (i : Nat) (h : PSs X sts t) : PSs X sts (tLckS i t) := ⟨fun pins s σ H D J q => by
  obtain ⟨a, u, e1, e2, mu, k⟩ := q
  obtain ⟨od, J2⟩ := J.lock e2 mu
  exact h.run pins s σ _ D J2 (k od)⟩
theorem dss_frzD {X : Cx} (i : Nat) {sts : List Stmt} {t : TS} {m : SM} (h : DSs K X W sts t m) : DSs K X W sts (tLckS i t) (sSeq (sFrzD i) m) := ⟨h.k, pss_lck i h.ps, so_sfrzD i h.so⟩
end
section
variable {K : PySem.W.Frag} {X : Cx} {W : WX} {o e f tg iter : Expr} {apos cpos : Pos} {td ty tx : TE} {m n k : EM}
/-! ### d.get(k), d.get(k, x), of one's own or of data -/
def isDc (M : List O) (d : DV) : Bool := (dcM M d).isSome
theorem dc_isD {Z H : Hp} {I : List Addr} {M : List O} {x : V} {d : DV} (w : Wf K Z H I M) (h : RepV K Z I x d) (e : isDc M d = true) : ∃ a, x = .ref a ∧ IsD H a := by
  unfold isDc at e
  cases z : dcM M d with
  | none => rw [z] at e; cases e
  | some c =>
    obtain ⟨a, rfl, r⟩ := dc_rep w h z
    refine ⟨a, rfl, ?_⟩
    cases c with
    | k ds => obtain ⟨ks, r, _⟩ := r; exact .inl ⟨ks, r⟩
    | t ds => obtain ⟨ks, r, _⟩ := r; exact .inr ⟨ks, r⟩
def dg2K (d : DV) (k : D) (y : DV) : EM := fun s => match getM s.m d k with
  | some (some v) => some (.ok v s.m)
  | some none => some (.ok y s.m)
  | none => none
def mDg2 (m n k : EM) : EM := bnd m fun d s => if isDc s.m d = true then bnd n (pur fun k1 => bnd k (dg2K d k1)) s else none
theorem de_dgm2 (hu : X.A.units + 1 < cLine) (ho : DE K X W o td m) (he : DE K X W e ty n) (hfe : DE K X W f tx k) (hb : attributeBase o "get" X.env (eval o X.env) = eval o X.env := by rfl) (hf : ((backTo cpos (starEach [e, f] X.env)).all (fun x => !x.1) && (backToKw cpos (keywordEach [] X.env)).all (fun x => x.1.isSome)
    && decide (([e, f] : List Expr).length + ([] : List Keyword).length + (if ([] : List Keyword).isEmpty then 0 else 1) < 30)) = true := by rfl) (hl : (apos.endLine == cpos.line) = true := by rfl) (ht : backTo cpos (starEach [e, f] X.env) = [(false, eval e X.env), (false, eval f X.env)] := by rfl) :
    DE K X W (.Call (.Attribute o "get" apos) [e, f] [] cpos) (tDGet2 td ty tx) (mDg2 m n k) := by
  refine ⟨ho.k, pe_dget2 hu ho.pe he.pe hfe.pe ⟨hb, hf, hl, ht⟩, ⟨fun σ H s Z I r0 Q w rs e0 p => ?_⟩⟩
  refine ho.so.bnd w rs e0 p.x fun d v M1 Z1 H1 I1 w1 rs1 x1 q1 e1 => ?_
  have e1 : (if isDc M1 d = true then _ else none) = some r0 := e1
  split at e1
  · rename_i hd
    obtain ⟨a, rfl, ia⟩ := dc_isD w1 q1 hd
    refine ⟨a, rfl, ia, ?_⟩
    have p1 := p.mono x1
    refine he.so.bnd (s := ⟨s.l, M1⟩) w1 rs1 e1 p1.x fun d2 v2 M2 Z2 H2 I2 w2 rs2 x2 q2 e2 => ?_
    obtain ⟨d2, rfl, e2⟩ := pur_ok e2
    have e2 : bnd k (dg2K d d2) ⟨s.l, M2⟩ = some r0 := e2
    have p2 := p1.mono x2
    refine hfe.so.bnd (s := ⟨s.l, M2⟩) w2 rs2 e2 p2.x fun d3 v3 M3 Z3 H3 I3 w3 rs3 x3 q3 e3 => ?_
    have e3 : dg2K d d2 d3 ⟨s.l, M3⟩ = some r0 := e3
    unfold dg2K at e3
    dsimp only at e3
    cases z : getM M3 d d2 with
    | none => simp only [z] at e3; cases e3
    | some ov =>
      simp only [z] at e3
      obtain ⟨ad, r, ea, g, kk⟩ := getM_rep w3 ((q1.mono x2).mono x3) (Rep.mono x3.z q2) z
      cases ea
      refine ⟨r, g, ?_⟩
      rcases kk with ⟨rfl, rfl⟩ | ⟨u, c', rfl, rfl, hr⟩
      · cases e3; exact p _ _ _ _ w3 ((x1.trans x2).trans x3) q3
      · cases e3; exact p _ _ _ _ w3 ((x1.trans x2).trans x3) hr
  · cases e1
/-! ### for k in d, d data -/
def itKD : D → Option (List DV)
  | .dK kvs => some (kvs.map fun p => .p (kD p.1))
  | .dT kvs => some (kvs.map fun p => .p (.tup (p.1.map kD)))
  | _ => none
theorem repK_len {Z : Hp} : ∀ {ks : List (Key × V)} {ds : List (Key × D)}, RepK K Z ks ds → ks.length = ds.length ∧ ∀ i : Nat, (ks[i]?).map (fun p : Key × V => p.1) = (ds[i]?).map (fun p : Key × D => p.1)
  | _, _, .nil => ⟨rfl, fun _ => rfl⟩
  | _, _, .cons _ r => by
    have h := repK_len r
    exact ⟨by simp [h.1], fun i => by cases i with | zero => rfl | succ i => simpa using h.2 i⟩
theorem repT_len {Z : Hp} : ∀ {ks : List (List Key × V)} {ds : List (List Key × D)}, RepT K Z ks ds → ks.length = ds.length ∧ ∀ i : Nat, (ks[i]?).map (fun p : List Key × V => p.1) = (ds[i]?).map (fun p : List Key × D => p.1)
  | _, _, .nil => ⟨rfl, fun _ => rfl⟩
  | _, _, .cons _ r => by
    have h := repT_len r
    exact ⟨by simp [h.1], fun i => by cases i with | zero => rfl | succ i => simpa using h.2 i⟩
theorem di_keys (h : DE K X W iter td m) : DI K X W tg iter (iKeys td) (mItD itKD m) := by
  refine ⟨h.k, pi_keys h.pe, ?_⟩
  refine so_itD (r := fun x H1 R => ∃ d o, x = .ref d ∧ ((∃ kvs, H1 d = some (.frz o (.dK kvs)) ∧ R (Itk d o kvs) H1) ∨ ∃ kvs, H1 d = some (.frz o (.dT kvs)) ∧ R (Itkt d o kvs) H1)) h.so fun v d ds Z H I R s hd hg q => ?_
  cases hd with
  | dK h1 h2 =>
    rename_i a o ks xs
    cases hg
    refine ⟨a, o, rfl, .inl ⟨ks, s _ _ h1, q _ fun Z' H' I' z _ s' i => ⟨fun d hd => ?_, fun hl => ?_⟩⟩⟩
    · have hk := (repK_len h2).2 i
      rw [List.getElem?_map] at hd
      cases e : xs[i]? with
      | none => rw [e] at hd; cases hd
      | some p =>
        rw [e] at hd hk; cases hd
        have hlt : i < ks.length := by
          have := (List.getElem?_eq_some_iff.mp e).1
          rw [(repK_len h2).1]; exact this
        refine ⟨⟨s' _ _ (z _ _ h1), hlt⟩, fun x H2 hx => ?_⟩
        obtain ⟨rfl, k, v, hk2, rfl⟩ := hx
        rw [hk2] at hk
        have hk : k = p.1 := Option.some.inj hk
        exact ⟨Z', ExtP.refl s', by rw [hk]; exact kD_rep p.1⟩
    · rw [List.length_map, ← (repK_len h2).1] at hl
      exact ⟨s' _ _ (z _ _ h1), hl⟩
  | dT h1 h2 =>
    rename_i a o ks xs
    cases hg
    refine ⟨a, o, rfl, .inr ⟨ks, s _ _ h1, q _ fun Z' H' I' z _ s' i => ⟨fun d hd => ?_, fun hl => ?_⟩⟩⟩
    · have hk := (repT_len h2).2 i
      rw [List.getElem?_map] at hd
      cases e : xs[i]? with
      | none => rw [e] at hd; cases hd
      | some p =>
        rw [e] at hd hk; cases hd
        have hlt : i < ks.length := by
          have := (List.getElem?_eq_some_iff.mp e).1
          rw [(repT_len h2).1]; exact this
        refine ⟨⟨s' _ _ (z _ _ h1), hlt⟩, fun x H2 hx => ?_⟩
        obtain ⟨rfl, k, v, b, hk2, rfl, hb⟩ := hx
        rw [hk2] at hk
        have hk : k = p.1 := Option.some.inj hk
        obtain ⟨Z2, x2, e2⟩ := ext_tup s' hb
        refine ⟨Z2, x2, ?_⟩
        rw [hk] at e2
        exact .tup e2 (kDs_rep p.1)
    · rw [List.length_map, ← (repT_len h2).1] at hl
      exact ⟨s' _ _ (z _ _ h1), hl⟩
  | _ => cases hg
end
end DL
namespace DL
open PySem PySem.Spec PyProof.Rows L2
/-! ### repr of dicts with tuple keys, of data without lists -/
section
variable {X : Cx} {pins : List (Addr × Obj)} {σ : L2.St} {H Z : Hp} {s : Shared}
end
section
variable {K : PySem.W.Frag} {X : Cx}
end
end DL
namespace DL
open PySem PySem.Spec PyProof.Rows L2
/-! ### repr of data with dicts and lists inside: the base holds a dict at sysModules -/
def SysIn (h : Heap) : Prop := ∃ o es n, h.get? sysModules = some o ∧ o.data = .dict es n
section
variable {X : Cx} {pins : List (Addr × Obj)} {σ : L2.St} {H Z : Hp} {s : Shared}
end
section
variable {K : PySem.W.Frag} {X : Cx}
end
end DL
namespace DL
open PySem PySem.Spec PyProof.Rows L2 LamX NdefX
/-! ### the end of a law: the base holds a dict at sysModules -/
section
variable {P : Program} {w : World} {K : PySem.W.Frag} {mg : Str → Option Value} {base : Heap} {x qual : Str} {st : Stmt} {f a : Addr} {fd : FuncData} {N : List Str} {k : Nat}
theorem law_topTS {m : SM} {s₁ : Shared} {mb : Str → Option Value} {cs : List (Addr × Addr)} {nms : List Str} {vs : List Value} {ns : List Int} {p : Str}
    (KX : K.In s₁.heap) (hns : s₁.heap.Ns mainGlobals mg) (hb : s₁.heap.Ns builtinsNs mb) (hbb : ∀ x : Str, x ≠ "__name__" → mb x = bootBuiltins x) (hlim : s₁.heap.NoLimit) (hsy : SysIn s₁.heap) (hg : s₁.gens = #[])
    (hT : ∀ p ∈ cs, s₁.heap.get? p.2 = some { cls := .none, data := .fields #[] }) (nT : ∀ p ∈ cs, K.lookup p.2 = none) (C : ∀ p ∈ cs, PySem.W.CodeHd s₁.heap p.1 p.2)
    (hbm : ∃ (bm : Addr) (ob : Obj), mg "__builtins__" = some (.ref bm) ∧ bm ≠ builtinsNs ∧ s₁.heap.get? bm = some ob ∧ ob.cls = .type "module" ∧ ob.dict = some builtinsNs ∧ ob.data = .plain)
    (ha : s₁.heap.get? a = some { cls := .type "list", data := .seq vs.toArray }) (hi : IntsAre vs ns) (hl : ns.length ≤ sizeLine) (hr : Room (k + 1) callerA) (nd : (cs.map (·.2)).Nodup) (hln : cs.length = nms.length)
    (F : Fun K x qual st f fd) (Sc : FnScope N [p] (defScope st)) (hbind : ∀ (s : Shared) (u : Value), BindsTo s fd ⟨[u], []⟩ [(p, u)]) (body : ∀ base : Heap, K.In base → base.Ns mainGlobals mg → (∀ p ∈ cs, TabB base mg p.1 p.2) → SysIn base → TopB P w K mg base N qual st f k m)
    (good : ∃ s, m ⟨slotsOf N.length ([D.scr (ns.map .int)].map .p), tbls (cs.map (·.2)) nms⟩ = some (.rt (.p (.bl true)), s)) :
    codeAny (model P w) callerA (.call (.ref f) ⟨[.ref a], []⟩) (Told s₁) s₁ := by
  have rv := vals_ints hi
  have lenV := hi.length
  have isT : ∀ b : Addr, b ∈ cs.map (·.2) → s₁.heap.get? b = some { cls := .none, data := .fields #[] } := fun b hb => by
    obtain ⟨p, hp, e⟩ := List.mem_map.mp hb
    rw [← e]
    exact hT p hp
  have aT : a ∉ cs.map (·.2) := fun z => by
    have q := isT a z
    rw [ha] at q
    have z' : Data.seq vs.toArray _ = Data.fields #[] := congrArg Obj.data (Option.some.inj q)
    cases z'
  have memT : ∀ p ∈ cs, p.2 ∈ cs.map (·.2) := fun p hp => List.mem_map.mpr ⟨p, hp, rfl⟩
  -- from an abstract heap in which nothing but the script and the tables may be tracked
  have core : ∀ H : Hp, (∀ p ∈ cs, H p.2 = some (.tbl #[])) → (∀ b, H b = none ∨ b ∈ cs.map (·.2) ∨ ∃ o xs, H b = some (.frz o (.lst xs))) → SqL K H a (ns.map V.int) → HOk P w H s₁.heap → (∀ b, H b ≠ none → b = a ∨ b ∈ cs.map (·.2)) → (H a ≠ none → K.lookup a = none) →
      codeAny (model P w) callerA (.call (.ref f) ⟨[.ref a], []⟩) (Told s₁) s₁ := by
    intro H hH hO hS hok hA hK
    have base_of : ∀ {b : Addr} {o : Obj}, s₁.heap.get? b = some o → H b = none → (hidT s₁.heap H).get? b = some o := fun e n => hidT_get e n
    have noD : ∀ {b : Addr} {o : Obj}, s₁.heap.get? b = some o → (∀ vs n, o.data ≠ .seq vs n) → o.data ≠ .fields #[] → H b = none := fun {b o} e h1 h2 => by
      cases q : H b with
      | none => rfl
      | some u =>
        rcases hA b (by rw [q]; simp) with e' | e'
        · rw [e', ha] at e
          cases e
          exact (h1 _ _ rfl).elim
        · rw [isT b e'] at e
          cases e
          exact (h2 rfl).elim
    have noA : ∀ {b : Addr} {o : Obj} {es : Array DictEntry} {ep : Nat}, s₁.heap.get? b = some o → o.data = .dict es ep → H b = none := fun {b o es ep} e d => by
      refine noD e (fun vs n z => ?_) fun z => ?_
      · rw [d] at z
        cases z
      · rw [d] at z
        cases z
    have nsK : ∀ {b : Addr} {m : Str → Option Value}, s₁.heap.Ns b m → (hidT s₁.heap H).Ns b m := fun {b m} ⟨o, es, ep, e, d, r⟩ => ⟨o, es, ep, base_of e (noA e d), d, r⟩
    have hKb : K.In (hidT s₁.heap H) := fun b o e => base_of (KX b o e) (by
      cases q : H b with
      | none => rfl
      | some u =>
        rcases hA b (by rw [q]; simp) with e' | e'
        · rw [e'] at e q
          rw [hK (by rw [q]; simp)] at e
          cases e
        · obtain ⟨p, hp, ep⟩ := List.mem_map.mp e'
          rw [← ep, nT p hp] at e
          cases e)
    have hM : L2.Mod K mg (hidT s₁.heap H) := ⟨hKb, nsK hns, ⟨mb, nsK hb, hbb⟩, let ⟨mc, h1, h2⟩ := hlim; ⟨mc, nsK h1, h2⟩⟩
    have TB : ∀ p ∈ cs, TabB (hidT s₁.heap H) mg p.1 p.2 := fun p hp => by
      have hTp := hT p hp
      refine ⟨?_, ?_, fun z => ?_⟩
      · obtain ⟨o, us, file, tf, flags, tg, inF, text, tt, e1, r1, r2, r3, r4, r5, r6, r7, r8, hne⟩ := C p hp
        refine ⟨o, us, file, tf, flags, tg, inF, text, tt, base_of e1 (noD e1 (fun vs n z => ?_) fun z => ?_), r1, r2, r3, r4, r5, r6, r7, r8, hne⟩
        · rw [r2] at z
          cases z
        · rw [r2] at z
          cases z
          simp at r3
      · obtain ⟨bm, ob, b1, b2, b3, b4, b5, b6⟩ := hbm
        have nG : bm ≠ mainGlobals := fun q => by
          obtain ⟨o, es, ep, e, hd, _⟩ := hns
          rw [q, e] at b3
          cases b3
          rw [hd] at b6
          cases b6
        have nP : bm ≠ p.2 := fun q => by
          rw [q, hTp] at b3
          cases b3
          cases b6
        refine ⟨bm, ob, b1, b2, nG, nP, base_of b3 (noD b3 (fun vs n z => ?_) fun z => ?_), b4, b5, b6⟩
        · rw [b6] at z
          cases z
        · rw [b6] at z
          cases z
      · obtain ⟨o, es, ep, e, hd, _⟩ := hns
        rw [z, hTp] at e
        cases e
        cases hd
    have e0 : Env0 P w K mg (hidT s₁.heap H) callerA [] s₁ H := ⟨rfl, hM, fun b o e => of_hidT e, Nat.le_of_eq (hidT_size _ _), trivial, fun b hb => absurd (show b ∈ ([] : List Addr) from hb) (by simp), hok, .of_eq hg⟩
    exact run_topT F Sc hr (body _ hKb (nsK hns) TB (let ⟨o, es, n, e1, e2⟩ := hsy; ⟨o, es, n, base_of e1 (noA e1 e2), e2⟩)) e0 (hbind _ _) hH hS hO aT hT C nd hln good
  cases hk : K.lookup a with
  | some o =>
    have e := KX a o hk
    rw [ha] at e
    cases e
    refine core (fun b => if b ∈ cs.map (·.2) then some (.tbl #[]) else none) (fun p hp => if_pos (memT p hp)) (fun b => ?_) (.inr ⟨_, vs.toArray, _, hk, rfl, rfl, rfl, by rw [List.size_toArray, lenV]; exact hl, by simpa using rv⟩) (fun b u z => ?_) (fun b z => ?_) fun z => absurd (show (if a ∈ cs.map (·.2) then some (HO.tbl #[]) else none) = none from if_neg aT) z
    · by_cases hb : b ∈ cs.map (·.2)
      · exact .inr (.inl hb)
      · exact .inl (if_neg hb)
    · by_cases hb : b ∈ cs.map (·.2)
      · have z' := (if_pos hb).symm.trans z
        cases z'
        exact isT b hb
      · have z' := (if_neg hb).symm.trans z
        cases z'
    · by_cases hb : b ∈ cs.map (·.2)
      · exact .inr hb
      · exact absurd (if_neg hb) z
  | none =>
    refine core (fun b => if b = a then some (.frz { cls := .type "list", data := .seq vs.toArray } (.lst (ns.map V.int))) else if b ∈ cs.map (·.2) then some (.tbl #[]) else none) (fun p hp => (if_neg (show ¬ p.2 = a from fun z => aT (by rw [← z]; exact memT p hp))).trans (if_pos (memT p hp))) (fun b => ?_)
      (.inl (.inr ⟨{ cls := .type "list", data := .seq vs.toArray }, if_pos rfl⟩)) (fun b u z => ?_) (fun b z => ?_) fun _ => hk
    · by_cases hb : b = a
      · exact .inr (.inr ⟨_, _, if_pos hb⟩)
      · by_cases hb2 : b ∈ cs.map (·.2)
        · exact .inr (.inl hb2)
        · exact .inl ((if_neg hb).trans (if_neg hb2))
    · by_cases hb : b = a
      · have z' := (if_pos hb).symm.trans z
        cases z'
        rw [hb]
        exact ⟨ha, by rw [List.length_map]; exact hl, vs, _, rv, ha⟩
      · have z1 := (if_neg hb).symm.trans z
        by_cases hb2 : b ∈ cs.map (·.2)
        · have z' := (if_pos hb2).symm.trans z1
          cases z'
          exact isT b hb2
        · have z' := (if_neg hb2).symm.trans z1
          cases z'
    · by_cases hb : b = a
      · exact .inl hb
      · by_cases hb2 : b ∈ cs.map (·.2)
        · exact .inr hb2
        · exact absurd ((if_neg hb).trans (if_neg hb2)) z
end
end DL
namespace DL
open PySem PySem.Spec PyProof.Rows L2 LamX NdefX
theorem walk_dlTS {l : PySem.W.OpenLaw} {k : Nat} {q : Program} {loose : List Str} {XP : (Str → Option Value) → Heap → Prop} {YP : World → Heap → Prop} {d : DefRec} {K : Params → PySem.W.Frag} {x qual : Str} {st : Stmt} {N : List Str} {m : List Addr → SM} {nms : List Str} {C : List Addr → Prop} (hn : l.most = some 63) (hdf : d.params.defaults = []) (hr : Room (k + 1) callerA)
    (hY : ∀ (w : World) (h : Heap), YP w h → (K w.params).In h) (hYs : ∀ (w : World) (h : Heap), YP w h → SysIn h) (Sc : FnScope N ["script"] (defScope st))
    (F : ∀ (w : World) (mg : Str → Option Value) (fa : Addr) (h : Heap), YP w h → (K w.params).In h → h.Ns mainGlobals mg → mg d.name = some (.ref fa) →
      ∃ (fd : FuncData) (cs : List (Addr × Addr)) (Fa : List Addr), C Fa ∧ (∀ p ∈ cs, h.get? p.2 = some { cls := .none, data := .fields #[] }) ∧ (∀ p ∈ cs, (K w.params).lookup p.2 = none) ∧ (∀ p ∈ cs, PySem.W.CodeHd h p.1 p.2) ∧ (cs.map (·.2)).Nodup ∧ cs.length = nms.length ∧
        Fun (K w.params) x qual st fa fd ∧ (∀ (s : Shared) (u : Value), BindsTo s fd ⟨[u], []⟩ [("script", u)]) ∧ ∀ base : Heap, (K w.params).In base → base.Ns mainGlobals mg → (∀ p ∈ cs, TabB base mg p.1 p.2) → SysIn base → TopB l.prog w (K w.params) mg base N qual st fa k (m (Fa ++ cs.map (·.2))))
    (good : ∀ (Fa Ts : List Addr) (ns : List Int), C Fa → Ts.length = nms.length → ns.length ≤ 63 → (∀ z ∈ ns, Builtin.Int.intBits z ≤ 1048576) → ∃ s, m (Fa ++ Ts) ⟨slotsOf N.length ([D.scr (ns.map .int)].map .p), tbls Ts nms⟩ = some (.rt (.p (.bl true)), s)) :
    PySem.W.WalkO q loose XP YP l.row.toRowW d [] (fun f vs => PySem.call f vs) := by
  refine Att.attach_callB hn hdf fun w s₀ s₁ mg mb fa o pm cd doc a vs ns G Y ho hd hcd hmg hobj hints hlen hbits hg => ?_
  have KX := hY w _ Y
  obtain ⟨fd, cs, Fa, hC, hT, nT, Cd, nd, hln, hF, hbind, body⟩ := F w mg fa _ Y KX G.T.g hmg
  exact law_topTS KX G.T.g G.T.b G.T.builtins G.T.nolimit (hYs w _ Y) hg hT nT Cd G.T.bmain hobj hints (Nat.le_trans hlen (by decide)) hr nd hln hF Sc hbind body (good Fa (cs.map (·.2)) ns hC (by rw [List.length_map]; exact hln) hlen hbits)
/-- a hook that also says that a dict stands at sysModules -/
def isDictAt (h : Heap) : Bool := match h.get? sysModules with
  | some o => match o.data with
    | .dict _ _ => true
    | _ => false
  | none => false
theorem isDictAt_of {h : Heap} (e : isDictAt h = true) : SysIn h := by
  unfold isDictAt at e
  split at e
  · rename_i o h1
    split at e
    · rename_i es n h2
      exact ⟨o, es, n, h1, h2⟩
    · cases e
  · cases e
def sysHook (H : PySem.W.Hook) : PySem.W.Hook where
  α := H.α × Bool
  obs := fun s => (H.obs s, isDictAt s.heap)
  val := fun w => (H.val w, true)
  says := fun w h => H.says w h ∧ SysIn h
  of := fun w s e => ⟨H.of w s (Prod.mk.inj e).1, isDictAt_of (Prod.mk.inj e).2⟩
  keeps := fun w h h' x k => ⟨H.keeps w h h' x.1 k, let ⟨o, es, n, e1, e2⟩ := x.2; ⟨o, es, n, k _ _ e1, e2⟩⟩
end DL
namespace DL
open PySem PySem.Spec PyProof.Rows L2 LamX NdefX
end DL
namespace DL
open PySem PySem.Spec PyProof.Rows L2
/-! ### d.pop(k), del d[k], of dicts of one's own with texts, numbers or tuples as keys -/
section
variable {X : Cx} {pins : List (Addr × Obj)} {σ : L2.St} {H H' : Hp} {s : Shared} {a : Addr} {y v : V} {u : Value} {A : Around} {E : Value → Shared → Prop}
theorem kt_drop {H : Hp} {kvs : List (List Key × V)} {xs : List (List Key × Addr × Value)} (r : KT H kvs xs) (k : List Key) : KT H (dropK kvs k) (withoutH xs k) := by
  unfold dropK withoutH
  induction r with
  | nil => exact .nil
  | @cons p q ps qs g t ih =>
    rw [List.filter_cons, List.filter_cons, g.1]
    split
    · exact .cons g ih
    · exact ih
/-- the heap behind d.pop(y), its value v -/
def DDrop (H : Hp) (a : Addr) (y v : V) (H' : Hp) : Prop :=
  (∃ kvs k, H a = some (.dK kvs) ∧ y = kV k ∧ valV kvs k = some v ∧ H' = upd H a (.dK (dropK kvs k))) ∨
  ∃ kvs k b, H a = some (.dT kvs) ∧ y = .ref b ∧ H b = some (.tup (k.map kV)) ∧ valV kvs k = some v ∧ H' = upd H a (.dT (dropK kvs k))
theorem d_delT {Q : Unit → Shared → Prop} (hu : A.units + 1 < cLine) (I : Inv X pins σ H s) (g : DDrop H a y v H') (ry : RelV y u) (h : ∀ s', Inv X pins σ H' s' → Q () s') :
    wpAny (model X.prog X.w) A (delItem (.ref a) u) Q E s := by
  rcases g with ⟨kvs, k, e, ey, l, eH⟩ | ⟨kvs, k, b, e, ey, eb, l, eH⟩
  · subst ey eH
    exact d_delItem I e ry (by rw [l]; rfl) h
  · subst ey eH
    cases (show u = Value.ref b from ry)
    obtain ⟨z, hd, xs, rel, dd⟩ := dt_of I.hok e
    have hz : xs.length ≤ sizeLine := by rw [← Paired.length rel]; exact z
    have hl : (dropK kvs k).length ≤ sizeLine := Nat.le_trans (dropK_le kvs k) z
    obtain ⟨w', hw, rw'⟩ := RelO.some_of (v := v) (o := (atKey xs k).map (·.2)) (by rw [← l]; exact rel.val k)
    obtain ⟨p, hp, hp2⟩ := Option.map_eq_some_iff.mp hw
    refine wpAny_delItem_heap (hsz := hz) (tupleKind_room_in1 hu) (key_of I.hok eb) hd dd hp fun h' dd' hs => h _ ?_
    obtain ⟨q, es, ep, hq, h2, h3, h4, _, h5⟩ := dd'
    refine d_write I (by rw [e]; exact True.intro) hs ⟨q, hq⟩ ⟨hl, hd, _, (kt_drop rel k).keeps fun c ys ec => ?_, q, es, ep, hq, h2, h3, h4, h5⟩
    rw [upd_ne (ne_of ec e (fun z => nomatch z))]
    exact ec
theorem d_popT {Q : Value → Shared → Prop} (hu : A.units + 1 < cLine) (I : Inv X pins σ H s) (g : DDrop H a y v H') (ry : RelV y u) (h : ∀ w' s', Inv X pins σ H' s' → RelV v w' → Q w' s') :
    wpAny (model X.prog X.w) A (call (.builtin "dict.pop") [.ref a, u]) Q E s := by
  rcases g with ⟨kvs, k, e, ey, l, eH⟩ | ⟨kvs, k, b, e, ey, eb, l, eH⟩
  · subst ey eH
    exact d_pop I e ry l (.inl rfl) h
  · subst ey eH
    cases (show u = Value.ref b from ry)
    obtain ⟨z, hd, xs, rel, dd⟩ := dt_of I.hok e
    have hz : xs.length ≤ sizeLine := by rw [← Paired.length rel]; exact z
    have hl : (dropK kvs k).length ≤ sizeLine := Nat.le_trans (dropK_le kvs k) z
    obtain ⟨w', hw, rw'⟩ := RelO.some_of (v := v) (o := (atKey xs k).map (·.2)) (by rw [← l]; exact rel.val k)
    obtain ⟨p, hp, hp2⟩ := Option.map_eq_some_iff.mp hw
    refine call_pop_heap (more := []) (.inl rfl) (PySem.F.args_dict_pop_2 _ _) (hsz := hz) (tupleKind_room_in1 hu) (key_of I.hok eb) hd dd hp fun h' dd' hs => ?_
    rw [hp2]
    refine h w' _ ?_ rw'
    obtain ⟨q, es, ep, hq, h2, h3, h4, _, h5⟩ := dd'
    refine d_write I (by rw [e]; exact True.intro) hs ⟨q, hq⟩ ⟨hl, hd, _, (kt_drop rel k).keeps fun c ys ec => ?_, q, es, ep, hq, h2, h3, h4, h5⟩
    rw [upd_ne (ne_of ec e (fun z => nomatch z))]
    exact ec
end
def tDPopT (td ty : TE) : TE := fun σ H Q => td σ H fun x H1 => ∃ a, x = .ref a ∧ IsD H1 a ∧ ty σ H1 fun y H2 => ∃ v H3, DDrop H2 a y v H3 ∧ Q v H3
def sDDelT (td ty : TE) : TS := fun D σ H => td σ H fun x H1 => ty σ H1 fun y H2 => ∃ a v H3, x = .ref a ∧ DDrop H2 a y v H3 ∧ D.nx σ H3
section
variable {X : Cx} {o i e : Expr} {pos tpos apos cpos : Pos} {td ty : TE}
theorem pe_dpopT (hu : X.A.units + 1 < cLine) (ho : PE X o td) (he : PE X e ty) (m : M1 X o "pop" apos e cpos) : PE X (.Call (.Attribute o "pop" apos) [e] [] cpos) (tDPopT td ty) := by
  refine ⟨fun pins s σ H Q I h => ?_⟩
  refine wpAny_Call_method m.base m.few m.line PySem.F.plainAttrs_dict PySem.F.slot_dict_pop PySem.F.type_dict_pop (thn (ho.run pins s σ H _ I h) fun u s1 ⟨x, H1, I1, rx, a, ex, d, q1⟩ => ?_)
  subst ex
  obtain rfl : u = Value.ref a := rx
  obtain ⟨t1, t2, _⟩ := isD_at I1 d
  refine ⟨t1, t2, ?_⟩
  rw [m.trees]
  refine Calls.callWith_builtin rfl (Calls.evalArgs_plain (Calls.spliced_cons (thn (he.run pins s1 σ H1 _ I1 q1) fun iv s2 ⟨y, H2, I2, ry, v, H3, g, q2⟩ => Calls.spliced_nil ?_)))
  exact d_popT hu I2 g ry fun w' s3 I3 rw' => ⟨v, _, I3, rw', q2⟩
theorem ps_ddelT (hu : X.A.units + 1 < cLine) (ho : PE X o td) (hi : PE X i ty) : PS X (.Delete [.Subscript o i tpos] pos) (sDDelT td ty) := by
  refine ⟨fun pins s σ H D I h => ?_⟩
  refine wpAny_Delete (wpAny_deleteEach_cons (wpAny_delete_Subscript (thn (ho.run pins s σ H _ I h) fun u s1 ⟨x, H1, I1, rx, q1⟩ => thn (hi.run pins s1 σ H1 _ I1 q1) fun iv s2 ⟨y, H2, I2, ry, a, v, H3, ex, g, q2⟩ => ?_)))
  subst ex
  obtain rfl : u = Value.ref a := rx
  exact d_delT hu I2 g ry fun s3 I3 => wpAny_deleteEach_nil ⟨σ, _, I3, q2⟩
end
section
variable {K : PySem.W.Frag} {X : Cx} {W : WX} {o e i : Expr} {pos tpos apos cpos : Pos} {td ty : TE} {m n : EM} {Z H : Hp} {I : List Addr} {M M' : List O}
/-- d.pop(k) at a dict of one's own -/
def popM (M : List O) (n : Nat) (k : D) : Option (DV × List O) := match M[n]? with
  | some (.dK ds) => match keyD k with
    | some kk => match valO ds kk with
      | some v => some (v, M.set n (.dK (dropO ds kk)))
      | none => none
    | none => none
  | some (.dT ds) => match keyT k with
    | some kk => match valO ds kk with
      | some v => some (v, M.set n (.dT (dropO ds kk)))
      | none => none
    | none => none
  | _ => none
theorem pop_rep {n : Nat} {a : Addr} {k : D} {y : V} {dv : DV} (w : Wf K Z H I M) (ha : I[n]? = some a) (hy : Rep K Z y k) (e : popM M n k = some (dv, M')) :
    ∃ v H', DDrop H a y v H' ∧ RepV K Z I v dv ∧ Wf K Z H' I M' ∧ Ext Z H I Z H' I := by
  unfold popM at e
  split at e
  · rename_i ds hm
    split at e
    · rename_i kk hk
      split at e
      · rename_i v0 hv
        cases e
        obtain ⟨_, ks, h1, h2⟩ := w.ob n a _ ha hm (by intro z; cases z)
        rcases valP_rep h2 kk with ⟨_, q⟩ | ⟨v, d, q1, q2, q3⟩
        · rw [q] at hv; cases hv
        · rw [q2] at hv
          cases hv
          exact ⟨v, _, .inl ⟨ks, kk, h1, key_rep hy hk, q1, rfl⟩, q3, w.setO ha hm (by intro z; cases z) ⟨_, upd_same, dropP_rep h2 kk⟩, ext_set (List.mem_of_getElem? ha)⟩
      · cases e
    · cases e
  · rename_i ds hm
    split at e
    · rename_i kk hk
      split at e
      · rename_i v0 hv
        cases e
        obtain ⟨_, ks, h1, h2⟩ := w.ob n a _ ha hm (by intro z; cases z)
        obtain ⟨b, rfl, hb⟩ := keyT_rep hy hk
        rcases valP_rep h2 kk with ⟨_, q⟩ | ⟨v, d, q1, q2, q3⟩
        · rw [q] at hv; cases hv
        · rw [q2] at hv
          cases hv
          exact ⟨v, _, .inr ⟨ks, kk, b, h1, rfl, w.sub _ _ hb, q1, rfl⟩, q3, w.setO ha hm (by intro z; cases z) ⟨_, upd_same, dropP_rep h2 kk⟩, ext_set (List.mem_of_getElem? ha)⟩
      · cases e
    · cases e
  · cases e
def popK (d : DV) (k : D) : EM := fun s => match d with
  | .o i => match popM s.m i k with
    | some (v, M) => some (.ok v M)
    | none => none
  | _ => none
def mDpop (m n : EM) : EM := bnd m fun d s => if isDc s.m d = true then bnd n (pur (popK d)) s else none
theorem de_dpopT (hu : X.A.units + 1 < cLine) (ho : DE K X W o td m) (he : DE K X W e ty n) (hb : attributeBase o "pop" X.env (eval o X.env) = eval o X.env := by rfl) (hf : ((backTo cpos (starEach [e] X.env)).all (fun x => !x.1) && (backToKw cpos (keywordEach [] X.env)).all (fun x => x.1.isSome)
    && decide (([e] : List Expr).length + ([] : List Keyword).length + (if ([] : List Keyword).isEmpty then 0 else 1) < 30)) = true := by rfl) (hl : (apos.endLine == cpos.line) = true := by rfl) (ht : backTo cpos (starEach [e] X.env) = [(false, eval e X.env)] := by rfl) :
    DE K X W (.Call (.Attribute o "pop" apos) [e] [] cpos) (tDPopT td ty) (mDpop m n) := by
  refine ⟨ho.k, pe_dpopT hu ho.pe he.pe ⟨hb, hf, hl, ht⟩, ⟨fun σ H s Z I r0 Q w rs e0 p => ?_⟩⟩
  refine ho.so.bnd w rs e0 p.x fun d v M1 Z1 H1 I1 w1 rs1 x1 q1 e1 => ?_
  have e1 : (if isDc M1 d = true then _ else none) = some r0 := e1
  split at e1
  · rename_i hd
    obtain ⟨a, rfl, ia⟩ := dc_isD w1 q1 hd
    refine ⟨a, rfl, ia, ?_⟩
    have p1 := p.mono x1
    refine he.so.bnd (s := ⟨s.l, M1⟩) w1 rs1 e1 p1.x fun d2 v2 M2 Z2 H2 I2 w2 rs2 x2 q2 e2 => ?_
    obtain ⟨d2, rfl, e2⟩ := pur_ok e2
    have e2 : popK d d2 ⟨s.l, M2⟩ = some r0 := e2
    unfold popK at e2
    cases d with
    | p d => cases e2
    | o i =>
      dsimp only at e2
      cases z : popM M2 i d2 with
      | none => simp only [z] at e2; cases e2
      | some pr =>
        obtain ⟨dv, M3⟩ := pr
        simp only [z] at e2
        cases e2
        obtain ⟨a', ha, ea⟩ := q1.mono x2
        cases ea
        obtain ⟨v', H3, g, hr, w3, x3⟩ := pop_rep w2 ha q2 z
        refine ⟨v', H3, g, ?_⟩
        exact p _ _ _ _ w3 ((x1.trans x2).trans x3) (hr.mono x3)
  · cases e1
/-- del d[k] -/
def sDelK (d : DV) (k : D) : SM := fun s => match d with
  | .o n => match popM s.m n k with
    | some (_, M) => some (.nx, ⟨s.l, M⟩)
    | none => none
  | _ => none
def sDel (md mk : EM) : SM := liftS md fun d => liftS mk (purS fun k => sDelK d k)
theorem ds_ddelT (hu : X.A.units + 1 < cLine) (ho : DE K X W o td m) (hi : DE K X W i ty n) : DS K X W (.Delete [.Subscript o i tpos] pos) (sDDelT td ty) (sDel m n) := ⟨ho.k, ps_ddelT hu ho.pe hi.pe, ⟨fun σ H s Z I r D w rs e p => by
  refine ho.so.lift w rs e p fun d2 v2 M2 Z2 H2 I2 w2 rs2 x2 q2 e2 p2 => ?_
  refine hi.so.lift (s := ⟨s.l, M2⟩) w2 rs2 e2 p2 fun d3 v3 M3 Z3 H3 I3 w3 rs3 x3 q3 e3 p3 => ?_
  obtain ⟨d3, rfl, e3⟩ := purS_ok e3
  cases d2 with
  | p d => cases e3
  | o j =>
    have e3 : (match popM M3 j d3 with | some (_, M) => some (Fl.nx, (⟨s.l, M⟩ : S)) | none => none) = some r := e3
    obtain ⟨a, ha, rfl⟩ := q2.mono x3
    cases z : popM M3 j d3 with
    | none => rw [z] at e3; cases e3
    | some pr =>
      obtain ⟨dv, M4⟩ := pr
      rw [z] at e3; cases e3
      obtain ⟨v', H4, g, hr, w4, x4⟩ := pop_rep w3 ha q3 z
      exact ⟨a, v', H4, rfl, g, p3 σ Z3 H4 I3 w4 (rs3.mono x4) x4⟩⟩⟩
@[simp] theorem e_dpop (m n : EM) (s : S) : mDpop m n s = (bnd m fun d s => if isDc s.m d = true then bnd n (pur (popK d)) s else none) s := rfl
@[simp] theorem e_del (md mk : EM) (s : S) : sDel md mk s = (liftS md fun d => liftS mk (purS fun k => sDelK d k)) s := rfl
end
end DL
namespace PySem.SeqAt
open PySem PyProof.Rows
variable {P : Program} {w : World}
/-- two tuples of one length, all items equal -/
theorem dl_tup_eq (x y : Addr) (us vs : Array Value) (nx ny : Nat) (dx dy : Option Addr) (sx sy : Array (Option Value)) (hsz : us.size = vs.size) :
    MeetsIn P w (Builtin.«tuple.__eq__» ⟨[.ref x, .ref y], []⟩)
      (fun A R s => (s.heap.get? x = some { cls := .type "tuple", dict := dx, data := .seq us nx, slots := sx } ∧
        s.heap.get? y = some { cls := .type "tuple", dict := dy, data := .seq vs ny, slots := sy }) ∧
        (∀ (j : Nat) (h1 : j < us.size) (h2 : j < vs.size), EqP P w A.in1 s us[j] vs[j] true) ∧ R (.ok (.ret (.bool true))) s) :=
  .of_wp fun A R s hs => by
    obtain ⟨hp, gn, dr, tk, os⟩ := s
    obtain ⟨⟨e1, e2⟩, he, hR⟩ := hs
    have f2 := AutoSeq1.sub_tuple_tuple
    have hZ : (us.toList.zip vs.toList).length = us.size := by simp [hsz]
    wp_walk using wpAny_loadPart' e1, wpAny_loadPart' e2, wpAny_forIn_list _ (fun rest b s' => b.1 = none ∧ s' = ⟨hp, gn, dr, tk, os⟩ ∧ ∃ i, rest = (us.toList.zip vs.toList).drop i) _
    case turn =>
      rintro ⟨p, q⟩ rest b s' ⟨hb', rfl, i, hz⟩
      have hlt : i < (us.toList.zip vs.toList).length := by
        rcases Nat.lt_or_ge i (us.toList.zip vs.toList).length with k | k
        · exact k
        · rw [List.drop_of_length_le k] at hz; cases hz
      have h1 : i < us.size := by omega
      have h2 : i < vs.size := by omega
      rw [List.drop_eq_getElem_cons hlt] at hz
      injection hz with hpq hrest
      obtain rfl : p = us[i] := by simpa using congrArg Prod.fst hpq
      obtain rfl : q = vs[i] := by simpa using congrArg Prod.snd hpq
      refine wpAny_bind (he i h1 h2 _ _ ?_)
      wp_walk
      exact ⟨rfl, rfl, i + 1, hrest⟩
    case fin =>
      rintro ⟨b1, b2⟩ s' ⟨hb', rfl, i, hz⟩
      simp only at hb'
      subst hb'
      wp_walk
      exact ⟨_, rfl, by simpa [Builtin.Tuple.tupleCompareSizes, hsz] using hR⟩
    case h =>
      exact ⟨rfl, rfl, 0, rfl⟩
theorem dl_rc_tups {A : Around} {s : Shared} {x y : Addr} {us vs : Array Value} (hx : s.heap.IsTuple x us) (hy : s.heap.IsTuple y vs) (hsz : us.size = vs.size) (hu : A.units < cLine)
    (he : ∀ (j : Nat) (h1 : j < us.size) (h2 : j < vs.size), EqP P w A.in1 s us[j] vs[j] true) (E Q : Value → Shared → Prop) (q : Q (.bool true) s) :
    wpAny (model P w) A (richCompare .Eq (.ref x) (.ref y)) Q E s := by
  obtain ⟨⟨c1, d1, data1, sl1⟩, o1, k1, n1, g1⟩ := id hx
  obtain ⟨⟨c2, d2, data2, sl2⟩, o2, k2, n2, g2⟩ := id hy
  simp only at k1 g1 k2 g2
  subst k1 g1 k2 g2
  have t1 : s.TypeIs (.ref x) "tuple" := ⟨_, o1, rfl⟩
  have t2 : s.TypeIs (.ref y) "tuple" := ⟨_, o2, rfl⟩
  refine wpAny_richCompare_same_room (op := .Eq) t1 t2 F.slot_tuple_eq ?_ hu
  refine call_meetsIn F.slot_tuple_eq t1 F.entry_tuple_eq (F.args_tuple_eq_2 _ _) (dl_tup_eq x y us vs n1 n2 d1 d2 sl1 sl2 hsz) ⟨⟨o1, o2⟩, he, ?_⟩
  show Value.bool true ≠ Value.notImplemented ∧ Q (.bool true) s
  exact ⟨(fun z => nomatch z), q⟩
/-- the same, asked for != -/
theorem dl_tup_ne (x y : Addr) (us vs : Array Value) (nx ny : Nat) (dx dy : Option Addr) (sx sy : Array (Option Value)) (hsz : us.size = vs.size) :
    MeetsIn P w (Builtin.«tuple.__ne__» ⟨[.ref x, .ref y], []⟩)
      (fun A R s => (s.heap.get? x = some { cls := .type "tuple", dict := dx, data := .seq us nx, slots := sx } ∧
        s.heap.get? y = some { cls := .type "tuple", dict := dy, data := .seq vs ny, slots := sy }) ∧
        (∀ (j : Nat) (h1 : j < us.size) (h2 : j < vs.size), EqP P w A.in1 s us[j] vs[j] true) ∧ R (.ok (.ret (.bool false))) s) :=
  .of_wp fun A R s hs => by
    obtain ⟨hp, gn, dr, tk, os⟩ := s
    obtain ⟨⟨e1, e2⟩, he, hR⟩ := hs
    have f2 := AutoSeq1.sub_tuple_tuple
    have hZ : (us.toList.zip vs.toList).length = us.size := by simp [hsz]
    wp_walk using wpAny_loadPart' e1, wpAny_loadPart' e2, wpAny_forIn_list _ (fun rest b s' => b.1 = none ∧ s' = ⟨hp, gn, dr, tk, os⟩ ∧ ∃ i, rest = (us.toList.zip vs.toList).drop i) _
    case turn =>
      rintro ⟨p, q⟩ rest b s' ⟨hb', rfl, i, hz⟩
      have hlt : i < (us.toList.zip vs.toList).length := by
        rcases Nat.lt_or_ge i (us.toList.zip vs.toList).length with k | k
        · exact k
        · rw [List.drop_of_length_le k] at hz; cases hz
      have h1 : i < us.size := by omega
      have h2 : i < vs.size := by omega
      rw [List.drop_eq_getElem_cons hlt] at hz
      injection hz with hpq hrest
      obtain rfl : p = us[i] := by simpa using congrArg Prod.fst hpq
      obtain rfl : q = vs[i] := by simpa using congrArg Prod.snd hpq
      refine wpAny_bind (he i h1 h2 _ _ ?_)
      wp_walk
      exact ⟨rfl, rfl, i + 1, hrest⟩
    case fin =>
      rintro ⟨b1, b2⟩ s' ⟨hb', rfl, i, hz⟩
      simp only at hb'
      subst hb'
      wp_walk
      exact ⟨_, rfl, by simpa [Builtin.Tuple.tupleCompareSizes, hsz] using hR⟩
    case h =>
      exact ⟨rfl, rfl, 0, rfl⟩
theorem dl_rc_tupsN {A : Around} {s : Shared} {x y : Addr} {us vs : Array Value} (hx : s.heap.IsTuple x us) (hy : s.heap.IsTuple y vs) (hsz : us.size = vs.size) (hu : A.units < cLine)
    (he : ∀ (j : Nat) (h1 : j < us.size) (h2 : j < vs.size), EqP P w A.in1 s us[j] vs[j] true) (E Q : Value → Shared → Prop) (q : Q (.bool false) s) :
    wpAny (model P w) A (richCompare .NotEq (.ref x) (.ref y)) Q E s := by
  obtain ⟨⟨c1, d1, data1, sl1⟩, o1, k1, n1, g1⟩ := id hx
  obtain ⟨⟨c2, d2, data2, sl2⟩, o2, k2, n2, g2⟩ := id hy
  simp only at k1 g1 k2 g2
  subst k1 g1 k2 g2
  have t1 : s.TypeIs (.ref x) "tuple" := ⟨_, o1, rfl⟩
  have t2 : s.TypeIs (.ref y) "tuple" := ⟨_, o2, rfl⟩
  refine wpAny_richCompare_same_room (op := .NotEq) t1 t2 F.slot_tuple_ne ?_ hu
  refine call_meetsIn F.slot_tuple_ne t1 F.entry_tuple_ne (F.args_tuple_ne_2 _ _) (dl_tup_ne x y us vs n1 n2 d1 d2 sl1 sl2 hsz) ⟨⟨o1, o2⟩, he, ?_⟩
  show Value.bool false ≠ Value.notImplemented ∧ Q (.bool false) s
  exact ⟨(fun z => nomatch z), q⟩
end PySem.SeqAt
namespace PySem.W
open PySem PyProof.Rows PySem.Spec
variable {P : Program} {w : World} {K : Type} [DecidableEq K] {knd : HeapKind P w K}
/-- two dicts with tuples as keys, equal -/
theorem dl_samePairs {nm : String} {a b : Addr} {xs ys : List (K × Addr × Value)} {A : Around} {E : Value → Shared → Prop} {s : Shared} {Q : Bool → Shared → Prop} (hu : knd.room A)
    (sa : (a == sysModules) = false) (sb : (b == sysModules) = false) (da : s.heap.DictOfH knd a xs) (db : s.heap.DictOfH knd b ys) (hl : xs.length = ys.length)
    (hit : ∀ x ∈ xs, ∃ p, atKey ys x.1 = some p ∧ SeqAt.EqP P w A s x.2.2 p.2 true) (q : Q true s) : wpAny (model P w) A (Builtin.Dict.samePairs nm a b) Q E s := by
  obtain ⟨o1, es, ep, g1, _, d1, e1, is1, nd1⟩ := da
  obtain ⟨o2, fs, fp, g2, _, d2, e2, is2, nd2⟩ := db
  have z1 : es.size = xs.length := size_of_entries e1
  have z2 : fs.size = ys.length := size_of_entries e2
  unfold Builtin.Dict.samePairs Builtin.Dict.showsAll
  rw [if_neg (by rw [sa]; exact Bool.false_ne_true), if_neg (by rw [sb]; exact Bool.false_ne_true)]
  refine wpAny_bind (wpAny_pure (wpAny_bind (wpAny_pure ?_)))
  refine wpAny_bind (wpAny_dictEntries g1 d1 ?_)
  dsimp only
  refine wpAny_bind (wpAny_dictEntries g2 d2 ?_)
  rw [if_neg (by simp [z1, z2, hl])]
  refine wpAny_bind (wpAny_dictEpoch g1 d1 ?_)
  refine wpAny_bind ?_
  rw [Std.Legacy.Range.forIn_eq_forIn_range']
  simp only [Std.Legacy.Range.size, Nat.sub_zero, Nat.add_sub_cancel, Nat.div_one]
  refine wpAny_forIn_list _ (fun rest c s' => s' = s ∧ c = (none, ()) ∧ ∃ i, rest = List.range' i (es.size - i) ∧ i ≤ es.size) _ ?_ ?_ _ _ ⟨rfl, rfl, 0, by simp, Nat.zero_le _⟩
  · rintro j rest c s' ⟨rfl, rfl, i, hr, hi⟩
    have hlt : i < es.size := by
      rcases Nat.lt_or_ge i es.size with k | k
      · exact k
      · rw [Nat.sub_eq_zero_of_le k] at hr; simp at hr
    have hd : es.size - i = (es.size - (i + 1)) + 1 := by omega
    rw [hd, List.range'_succ] at hr
    injection hr with ej hrest
    subst ej
    have hx : j < xs.length := by omega
    have ex : es[j]? = some (entryOfKey knd xs[j]) := by rw [entry_at e1, List.getElem?_eq_getElem hx]; rfl
    have ex' : es[j] = entryOfKey knd xs[j] := by rw [Array.getElem?_eq_getElem hlt] at ex; exact Option.some.inj ex
    obtain ⟨p, hp, hq⟩ := hit xs[j] (List.getElem_mem hx)
    refine wpAny_bind (wpAny_dictEntries g1 d1 ?_)
    rw [ex]
    show wpAny _ _ (holding [Value.ref xs[j].2.1, xs[j].2.2] _ >>= _) _ _ _
    refine wpAny_bind (wpAny_holding (wpAny_bind (wpAny_dictFind_heap hu (is1 _ (List.getElem_mem hx)) g2 d2 e2 is2 nd2 (fun hn => ?_) fun m pm hm => ?_)))
    · have := atKey_none_of_get hn
      rw [hp] at this
      cases this
    · have hpm : pm = p := by
        have := atKey_of_get nd2 hm
        rw [hp] at this
        exact (Option.some.inj this).symm
      subst hpm
      refine wpAny_bind (wpAny_dictEntries g2 d2 ?_)
      rw [entry_at e2, hm]
      refine wpAny_holding (hq _ _ ?_)
      show wpAny _ _ (if (!true) = true then _ else _) _ _ _
      rw [if_neg (by decide)]
      refine wpAny_bind (wpAny_dictEpoch g1 d1 ?_)
      rw [if_neg (by simp)]
      exact wpAny_pure ⟨rfl, rfl, j + 1, hrest, hlt⟩
  · rintro c s' ⟨rfl, rfl, _⟩
    exact wpAny_pure q
theorem dl_rc_dicts {a b : Addr} {xs ys : List (K × Addr × Value)} {A : Around} {s : Shared} (hr : knd.room A.in1) (sa : (a == sysModules) = false) (sb : (b == sysModules) = false) (da : s.heap.DictOfH knd a xs) (db : s.heap.DictOfH knd b ys)
    (hu : A.units < cLine) (hl : xs.length = ys.length) (hit : ∀ x ∈ xs, ∃ p, atKey ys x.1 = some p ∧ SeqAt.EqP P w A.in1 s x.2.2 p.2 true) (E Q : Value → Shared → Prop) (q : Q (.bool true) s) :
    wpAny (model P w) A (richCompare .Eq (.ref a) (.ref b)) Q E s := by
  refine wpAny_richCompare_same_room (op := .Eq) da.typeIs db.typeIs PySem.F.slot_dict_eq ?_ hu
  refine wpAny_call_entry PySem.F.slot_dict_eq da.typeIs PySem.F.entry_dict_eq ?_ (PySem.F.args_dict_eq_2 _ _)
  show wpAny _ _ (Builtin.Dict.dictSlotArgs "__eq__" ⟨[.ref a, .ref b], []⟩ >>= _) _ _ s
  refine wpAny_bind ?_
  unfold Builtin.Dict.dictSlotArgs
  refine wpAny_bind (wpAny_notOrdered_dict da.typeIs (wpAny_pure ?_))
  refine wpAny_bind (wpAny_isInstance (T := "dict") db.typeIs PySem.F.sub_dict_dict ?_)
  simp only [Bool.not_true, Bool.false_eq_true, if_false]
  refine wpAny_bind (wpAny_pure (wpAny_bind (wpAny_pure ?_)))
  refine wpAny_bind (dl_samePairs hr sa sb da db hl hit ?_)
  exact wpAny_pure ⟨_, rfl, (fun z => nomatch z), q⟩
end PySem.W
namespace DL
open PySem PySem.Spec PyProof.Rows L2
/-! ### == of data with dicts inside, where it is true -/
mutual
def sameT : D → D → Bool
  | .non, e => match e with | .non => true | _ => false
  | .bl a, e => match e with | .bl b => a == b | _ => false
  | .int a, e => match e with | .int b => a == b | _ => false
  | .str a, e => match e with | .str b => a == b | _ => false
  | .lst xs, e => match e with | .lst ys => sameTs xs ys | .klst ys => sameTs xs ys | _ => false
  | .klst xs, e => match e with | .lst ys => sameTs xs ys | .klst ys => sameTs xs ys | _ => false
  | .tup xs, e => match e with | .tup ys => sameTs xs ys | .ktup ys => sameTs xs ys | _ => false
  | .ktup xs, e => match e with | .tup ys => sameTs xs ys | .ktup ys => sameTs xs ys | _ => false
  | .dT ks, e => match e with | .dT ls => ks.length == ls.length && sameTk ks ls | _ => false
  | _, _ => false
def sameTs : List D → List D → Bool
  | [], ys => ys.isEmpty
  | x :: xs, ys => match ys with | y :: zs => sameT x y && sameTs xs zs | [] => false
def sameTk : List (List Key × D) → List (List Key × D) → Bool
  | [], _ => true
  | (k, d) :: r, ls => (match valO ls k with | some e => sameT d e | none => false) && sameTk r ls
end
mutual
def depT : D → Nat
  | .lst xs => depTs xs + 2
  | .klst xs => depTs xs + 2
  | .tup xs => depTs xs + 2
  | .ktup xs => depTs xs + 2
  | .dT ks => depTk ks + 2
  | _ => 0
def depTs : List D → Nat
  | [] => 0
  | x :: r => max (depT x) (depTs r)
def depTk : List (List Key × D) → Nat
  | [] => 0
  | (_, d) :: r => max (depT d) (depTk r)
end
section
variable {X : Cx} {pins : List (Addr × Obj)} {σ : L2.St} {H Z : Hp} {s : Shared}
abbrev EQ (X : Cx) (s : Shared) (A : Around) (v u : Value) : Prop := SeqAt.EqP X.prog X.w A s v u true
theorem rep_seqL (sz : Same Z H) {x : V} {d : D} {xs : List D} (h : Rep X.K Z x d) (e : d = .lst xs ∨ d = .klst xs) : ∃ a vs, x = .ref a ∧ SqL X.K H a vs ∧ RepA X.K Z vs xs := by
  rcases e with rfl | rfl
  · cases h with | lst h1 h2 => exact ⟨_, _, rfl, .inl (same_rd sz h1), h2⟩
  · cases h with | klst h1 h2 => exact ⟨_, _, rfl, same_l sz h1, h2⟩
theorem rep_seqT (sz : Same Z H) {x : V} {d : D} {xs : List D} (h : Rep X.K Z x d) (e : d = .tup xs ∨ d = .ktup xs) : ∃ a vs, x = .ref a ∧ SqT X.K H a vs ∧ RepA X.K Z vs xs := by
  rcases e with rfl | rfl
  · cases h with | tup h1 h2 => exact ⟨_, _, rfl, sqt sz h1, h2⟩
  · cases h with | ktup h1 h2 => exact ⟨_, _, rfl, same_t sz h1, h2⟩
abbrev RQ (X : Cx) (s : Shared) (A : Around) (op : CmpOp) (b : Bool) (v u : Value) : Prop := ∀ (E Q : Value → Shared → Prop), Q (.bool b) s → wpAny (model X.prog X.w) A (richCompare op v u) Q E s
theorem eq_refs {A : Around} {a b : Addr} (h : ∀ (E Q : Value → Shared → Prop), Q (.bool true) s → wpAny (model X.prog X.w) A (richCompare .Eq (.ref a) (.ref b)) Q E s) : EQ X s A (.ref a) (.ref b) := by
  by_cases e : a = b
  · subst e; exact (SeqAt.EqAt.same _).eqP
  · exact SeqAt.eqP_refs e h
theorem sameTs_len : ∀ {xs ys : List D}, sameTs xs ys = true → xs.length = ys.length
  | [], [], _ => rfl
  | [], _ :: _, h => by cases h
  | _ :: _, [], h => by cases h
  | x :: xs, y :: ys, h => by
    have h : (sameT x y && sameTs xs ys) = true := h
    rw [Bool.and_eq_true] at h
    rw [List.length_cons, List.length_cons, sameTs_len h.2]
theorem rc_list (I : Inv X pins σ H s) (sz : Same Z H) {A : Around} {x y : V} {d e : D} {v u : Value} {xs ys : List D} (hx : Rep X.K Z x d) (hy : Rep X.K Z y e) (rx : RelV x v) (ry : RelV y u) (ed : d = .lst xs ∨ d = .klst xs) (ee : e = .lst ys ∨ e = .klst ys)
    (hl : xs.length = ys.length) (hu : A.units < cLine) (ih : ∀ vs ws us zs, RepA X.K Z vs xs → RepA X.K Z ws ys → Vals vs us → Vals ws zs → ∀ (j : Nat) (h1 : j < us.length) (h2 : j < zs.length), EQ X s A.in1 us[j] zs[j]) : ∃ a b, v = .ref a ∧ u = .ref b ∧ RQ X s A .Eq true (.ref a) (.ref b) := by
  obtain ⟨a, vs, rfl, s1, r1⟩ := rep_seqL sz hx ed
  obtain ⟨b, ws, rfl, s2, r2⟩ := rep_seqL sz hy ee
  cases (show v = Value.ref a from rx)
  cases (show u = Value.ref b from ry)
  obtain ⟨us, q1, p1, _⟩ := I.list s1
  obtain ⟨zs, q2, p2, _⟩ := I.list s2
  have hsz : us.toArray.size = zs.toArray.size := by
    rw [List.size_toArray, List.size_toArray, ← q1.length, ← q2.length, r1.length, r2.length, hl]
  refine ⟨a, b, rfl, rfl, fun E Q q => SeqAt.rcP_lists (e := fun _ => true) p1.isList p2.isList hsz hu (fun j h1 h2 => ?_) E Q ?_⟩
  · simpa using ih vs ws us zs r1 r2 q1 q2 j (by simpa using h1) (by simpa using h2)
  · rw [show ((List.range us.toArray.size).all fun _ => true) = true from List.all_eq_true.mpr fun _ _ => rfl]
    exact q
theorem rc_tuple (I : Inv X pins σ H s) (sz : Same Z H) {A : Around} {x y : V} {d e : D} {v u : Value} {xs ys : List D} (hx : Rep X.K Z x d) (hy : Rep X.K Z y e) (rx : RelV x v) (ry : RelV y u) (ed : d = .tup xs ∨ d = .ktup xs) (ee : e = .tup ys ∨ e = .ktup ys)
    (hl : xs.length = ys.length) (hu : A.units < cLine) (ih : ∀ vs ws us zs, RepA X.K Z vs xs → RepA X.K Z ws ys → Vals vs us → Vals ws zs → ∀ (j : Nat) (h1 : j < us.length) (h2 : j < zs.length), EQ X s A.in1 us[j] zs[j]) :
    ∃ a b, v = .ref a ∧ u = .ref b ∧ RQ X s A .Eq true (.ref a) (.ref b) ∧ RQ X s A .NotEq false (.ref a) (.ref b) := by
  obtain ⟨a, vs, rfl, s1, r1⟩ := rep_seqT sz hx ed
  obtain ⟨b, ws, rfl, s2, r2⟩ := rep_seqT sz hy ee
  cases (show v = Value.ref a from rx)
  cases (show u = Value.ref b from ry)
  obtain ⟨us, q1, p1, _⟩ := I.tuple s1
  obtain ⟨zs, q2, p2, _⟩ := I.tuple s2
  have hsz : us.toArray.size = zs.toArray.size := by
    rw [List.size_toArray, List.size_toArray, ← q1.length, ← q2.length, r1.length, r2.length, hl]
  have k : ∀ (j : Nat) (h1 : j < us.toArray.size) (h2 : j < zs.toArray.size), SeqAt.EqP X.prog X.w A.in1 s us.toArray[j] zs.toArray[j] true := fun j h1 h2 => by
    simpa using ih vs ws us zs r1 r2 q1 q2 j (by simpa using h1) (by simpa using h2)
  exact ⟨a, b, rfl, rfl, fun E Q q => SeqAt.dl_rc_tups p1 p2 hsz hu k E Q q, fun E Q q => SeqAt.dl_rc_tupsN p1 p2 hsz hu k E Q q⟩
theorem eq_list (I : Inv X pins σ H s) (sz : Same Z H) {A : Around} {x y : V} {d e : D} {v u : Value} {xs ys : List D} (hx : Rep X.K Z x d) (hy : Rep X.K Z y e) (rx : RelV x v) (ry : RelV y u) (ed : d = .lst xs ∨ d = .klst xs) (ee : e = .lst ys ∨ e = .klst ys)
    (hl : xs.length = ys.length) (hu : A.units < cLine) (ih : ∀ vs ws us zs, RepA X.K Z vs xs → RepA X.K Z ws ys → Vals vs us → Vals ws zs → ∀ (j : Nat) (h1 : j < us.length) (h2 : j < zs.length), EQ X s A.in1 us[j] zs[j]) : EQ X s A v u := by
  obtain ⟨a, b, rfl, rfl, h⟩ := rc_list I sz hx hy rx ry ed ee hl hu ih
  exact eq_refs h
theorem eq_tuple (I : Inv X pins σ H s) (sz : Same Z H) {A : Around} {x y : V} {d e : D} {v u : Value} {xs ys : List D} (hx : Rep X.K Z x d) (hy : Rep X.K Z y e) (rx : RelV x v) (ry : RelV y u) (ed : d = .tup xs ∨ d = .ktup xs) (ee : e = .tup ys ∨ e = .ktup ys)
    (hl : xs.length = ys.length) (hu : A.units < cLine) (ih : ∀ vs ws us zs, RepA X.K Z vs xs → RepA X.K Z ws ys → Vals vs us → Vals ws zs → ∀ (j : Nat) (h1 : j < us.length) (h2 : j < zs.length), EQ X s A.in1 us[j] zs[j]) : EQ X s A v u := by
  obtain ⟨a, b, rfl, rfl, h, _⟩ := rc_tuple I sz hx hy rx ry ed ee hl hu ih
  exact eq_refs h
theorem units_in1 {A : Around} {n : Nat} (h : A.units + (n + 2) < cLine) : A.units < cLine ∧ A.in1.units + n < cLine ∧ A.units + 1 + 1 < cLine := by
  have : A.in1.units = A.units + 1 := rfl
  omega
mutual
theorem eqP_D (I : Inv X pins σ H s) (sz : Same Z H) : ∀ (d e : D) (A : Around) (x y : V) (v u : Value), sameT d e = true → A.units + depT d < cLine → Rep X.K Z x d → Rep X.K Z y e → RelV x v → RelV y u → EQ X s A v u
  | .non, e, A, x, y, v, u, hs, _, hx, hy, rx, ry => by
    cases e <;> first | cases hs | skip
    cases hx; cases hy; cases rx; cases ry; exact (SeqAt.EqAt.same _).eqP
  | .bl a, e, A, x, y, v, u, hs, _, hx, hy, rx, ry => by
    cases e <;> first | cases hs | skip
    rename_i b
    have hs : (a == b) = true := hs
    cases hx; cases hy; cases rx; cases ry
    have := (SeqAt.EqAt.bool_bool (A := A) (s := s) a b).eqP (prog := X.prog) (w := X.w)
    rw [hs] at this; exact this
  | .int a, e, A, x, y, v, u, hs, _, hx, hy, rx, ry => by
    cases e <;> first | cases hs | skip
    rename_i b
    have hs : (a == b) = true := hs
    cases hx; cases hy
    obtain ⟨t, rfl⟩ := rx
    obtain ⟨t', rfl⟩ := ry
    have := (SeqAt.EqAt.int_int (A := A) (s := s) a t b t').eqP (prog := X.prog) (w := X.w)
    rw [hs] at this; exact this
  | .str a, e, A, x, y, v, u, hs, _, hx, hy, rx, ry => by
    cases e <;> first | cases hs | skip
    rename_i b
    have hs : (a == b) = true := hs
    cases hx; cases hy
    obtain ⟨t, rfl⟩ := rx
    obtain ⟨t', rfl⟩ := ry
    have := (SeqAt.EqAt.str_str (A := A) (s := s) a t b t').eqP (prog := X.prog) (w := X.w)
    rw [hs] at this; exact this
  | .lst xs, e, A, x, y, v, u, hs, hu, hx, hy, rx, ry => by
    have hu := units_in1 (show A.units + (depTs xs + 2) < cLine from hu)
    cases e <;> first | cases hs | skip
    · have hs : sameTs xs _ = true := hs
      exact eq_list I sz hx hy rx ry (.inl rfl) (.inl rfl) (sameTs_len hs) hu.1 fun vs ws us zs r1 r2 q1 q2 j h1 h2 => eqP_Ds I sz xs _ A.in1 vs ws us zs hs hu.2.1 r1 r2 q1 q2 j h1 h2
    · have hs : sameTs xs _ = true := hs
      exact eq_list I sz hx hy rx ry (.inl rfl) (.inr rfl) (sameTs_len hs) hu.1 fun vs ws us zs r1 r2 q1 q2 j h1 h2 => eqP_Ds I sz xs _ A.in1 vs ws us zs hs hu.2.1 r1 r2 q1 q2 j h1 h2
  | .klst xs, e, A, x, y, v, u, hs, hu, hx, hy, rx, ry => by
    have hu := units_in1 (show A.units + (depTs xs + 2) < cLine from hu)
    cases e <;> first | cases hs | skip
    · have hs : sameTs xs _ = true := hs
      exact eq_list I sz hx hy rx ry (.inr rfl) (.inl rfl) (sameTs_len hs) hu.1 fun vs ws us zs r1 r2 q1 q2 j h1 h2 => eqP_Ds I sz xs _ A.in1 vs ws us zs hs hu.2.1 r1 r2 q1 q2 j h1 h2
    · have hs : sameTs xs _ = true := hs
      exact eq_list I sz hx hy rx ry (.inr rfl) (.inr rfl) (sameTs_len hs) hu.1 fun vs ws us zs r1 r2 q1 q2 j h1 h2 => eqP_Ds I sz xs _ A.in1 vs ws us zs hs hu.2.1 r1 r2 q1 q2 j h1 h2
  | .tup xs, e, A, x, y, v, u, hs, hu, hx, hy, rx, ry => by
    have hu := units_in1 (show A.units + (depTs xs + 2) < cLine from hu)
    cases e <;> first | cases hs | skip
    · have hs : sameTs xs _ = true := hs
      exact eq_tuple I sz hx hy rx ry (.inl rfl) (.inl rfl) (sameTs_len hs) hu.1 fun vs ws us zs r1 r2 q1 q2 j h1 h2 => eqP_Ds I sz xs _ A.in1 vs ws us zs hs hu.2.1 r1 r2 q1 q2 j h1 h2
    · have hs : sameTs xs _ = true := hs
      exact eq_tuple I sz hx hy rx ry (.inl rfl) (.inr rfl) (sameTs_len hs) hu.1 fun vs ws us zs r1 r2 q1 q2 j h1 h2 => eqP_Ds I sz xs _ A.in1 vs ws us zs hs hu.2.1 r1 r2 q1 q2 j h1 h2
  | .ktup xs, e, A, x, y, v, u, hs, hu, hx, hy, rx, ry => by
    have hu := units_in1 (show A.units + (depTs xs + 2) < cLine from hu)
    cases e <;> first | cases hs | skip
    · have hs : sameTs xs _ = true := hs
      exact eq_tuple I sz hx hy rx ry (.inr rfl) (.inl rfl) (sameTs_len hs) hu.1 fun vs ws us zs r1 r2 q1 q2 j h1 h2 => eqP_Ds I sz xs _ A.in1 vs ws us zs hs hu.2.1 r1 r2 q1 q2 j h1 h2
    · have hs : sameTs xs _ = true := hs
      exact eq_tuple I sz hx hy rx ry (.inr rfl) (.inr rfl) (sameTs_len hs) hu.1 fun vs ws us zs r1 r2 q1 q2 j h1 h2 => eqP_Ds I sz xs _ A.in1 vs ws us zs hs hu.2.1 r1 r2 q1 q2 j h1 h2
  | .dT ks, e, A, x, y, v, u, hs, hu, hx, hy, rx, ry => by
    have hu := units_in1 (show A.units + (depTk ks + 2) < cLine from hu)
    cases e <;> first | cases hs | skip
    rename_i ls
    have hs : (ks.length == ls.length && sameTk ks ls) = true := hs
    rw [Bool.and_eq_true] at hs
    cases hx with
    | dT h1 h2 =>
      cases hy with
      | dT h3 h4 =>
        rename_i a o vs b o2 ws
        cases (show v = Value.ref a from rx)
        cases (show u = Value.ref b from ry)
        obtain ⟨_, sa, xs, ra, da⟩ := dt_rd I.hok (.inr ⟨_, sz _ _ h1⟩)
        obtain ⟨_, sb, ys, rb, db⟩ := dt_rd I.hok (.inr ⟨_, sz _ _ h3⟩)
        refine eq_refs fun E Q q => PySem.W.dl_rc_dicts (tupleKind_room_in1 (A := A) (by omega)) sa sb da db hu.1 ?_ ?_ E Q q
        · have e1 := paired_len ra
          have e2 := paired_len rb
          rw [← e1, ← e2, (repT_len h2).1, (repT_len h4).1]
          exact eq_of_beq hs.1
        · exact eqP_Dk I sz ks ls ws ys h4 rb A.in1 vs xs hs.2 hu.2.1 h2 ra
  | .dK _, _, _, _, _, _, _, hs, _, _, _, _, _ | .fn _, _, _, _, _, _, _, hs, _, _, _, _, _ | .clo _ _, _, _, _, _, _, _, hs, _, _, _, _, _ | .scr _, _, _, _, _, _, _, hs, _, _, _, _, _
  | .ty _, _, _, _, _, _, _, hs, _, _, _, _, _ | .rng _ _, _, _, _, _, _, _, hs, _, _, _, _, _ => by cases hs
theorem eqP_Ds (I : Inv X pins σ H s) (sz : Same Z H) : ∀ (xs ys : List D) (A : Around) (vs ws : List V) (us zs : List Value), sameTs xs ys = true → A.units + depTs xs < cLine → RepA X.K Z vs xs → RepA X.K Z ws ys → Vals vs us → Vals ws zs →
    ∀ (j : Nat) (h1 : j < us.length) (h2 : j < zs.length), EQ X s A us[j] zs[j]
  | [], _, _, _, _, _, _, _, _, r1, _, q1, _, j, h1, _ => by
    cases r1; cases q1; exact absurd h1 (Nat.not_lt_zero j)
  | d :: xs, ys, A, vs, ws, us, zs, hs, hu, r1, r2, q1, q2, j, h1, h2 => by
    cases ys with
    | nil => cases hs
    | cons e ys =>
      have hs : (sameT d e && sameTs xs ys) = true := hs
      rw [Bool.and_eq_true] at hs
      have hu : A.units + max (depT d) (depTs xs) < cLine := hu
      cases r1 with
      | cons a1 a2 =>
        cases r2 with
        | cons b1 b2 =>
          cases q1 with
          | cons c1 c2 =>
            cases q2 with
            | cons e1 e2 =>
              cases j with
              | zero => exact eqP_D I sz d e A _ _ _ _ hs.1 (by omega) a1 b1 c1 e1
              | succ j => exact eqP_Ds I sz xs ys A _ _ _ _ hs.2 (by omega) a2 b2 c2 e2 j (Nat.lt_of_succ_lt_succ h1) (Nat.lt_of_succ_lt_succ h2)
theorem eqP_Dk (I : Inv X pins σ H s) (sz : Same Z H) : ∀ (ks ls : List (List Key × D)) (ws : List (List Key × V)) (ys : List (List Key × Addr × Value)), RepT X.K Z ws ls → KT H ws ys → ∀ (A : Around) (vs : List (List Key × V)) (xs : List (List Key × Addr × Value)),
    sameTk ks ls = true → A.units + depTk ks < cLine → RepT X.K Z vs ks → KT H vs xs → ∀ x ∈ xs, ∃ p, atKey ys x.1 = some p ∧ EQ X s A x.2.2 p.2
  | [], _, _, _, _, _, _, _, _, _, _, r, q => by
    cases r; cases q; intro x hx; exact nomatch hx
  | (k, d) :: ks, ls, ws, ys, rw_, qw, A, vs, xs, hs, hu, r, q => by
    have hs : ((match valO ls k with | some e => sameT d e | none => false) && sameTk ks ls) = true := hs
    rw [Bool.and_eq_true] at hs
    have hu : A.units + max (depT d) (depTk ks) < cLine := hu
    cases r with
    | cons r1 r2 =>
      rename_i v vs
      cases q with
      | cons q1 q2 =>
        rename_i q0 qs
        intro x hx
        rcases List.mem_cons.mp hx with rfl | hx
        · obtain ⟨e1, e2, e3⟩ := q1
          have e1 : k = x.1 := e1
          rw [← e1]
          have vp := valP_rep (repT_paired (I := []) rw_) k
          have hf : valO (ls.map fun p => (p.1, DV.p p.2)) k = (valO ls k).map DV.p := by
            unfold valO
            rw [List.find?_map]
            simp only [Option.map_map, Function.comp_def]
          cases hv : valO ls k with
          | none => rw [hv] at hs; exact absurd hs.1 (by simp)
          | some e =>
            rw [hv] at hs hf
            rcases vp with ⟨_, n2⟩ | ⟨v', d', n1, n2, n3⟩
            · rw [hf] at n2; cases n2
            · rw [hf] at n2
              obtain rfl : DV.p e = d' := Option.some.inj n2
              obtain ⟨w', hw, rw'⟩ := RelO.some_of (v := v') (o := (atKey ys k).map (·.2)) (by rw [← n1]; exact qw.val k)
              obtain ⟨p, hp, hp2⟩ := Option.map_eq_some_iff.mp hw
              refine ⟨p, hp, ?_⟩
              rw [hp2]
              exact eqP_D I sz d e A _ _ _ _ hs.1 (by omega) r1 n3 e3 rw'
        · exact eqP_Dk I sz ks ls ws ys rw_ qw A vs qs hs.2 (by omega) r2 q2 x hx
end
end
section
variable {K : PySem.W.Frag} {X : Cx}
end
end DL
namespace PySem
open PyProof.Rows
section
variable {P : Program} {w : World} {K : Type} [DecidableEq K] {knd : HeapKind P w K} {A : Around} {E : Value → Shared → Prop} {s : Shared}
end
end PySem
namespace DL
open PySem PySem.Spec PyProof.Rows L2
section
def hKey : Key → Int
  | .inl i => hashInt i
  | .inr _ => 0
def hTup (ks : List Key) : Int := reduceHash (Builtin.Tuple.tupleHashOf (ks.map hKey))
def intKeys (ks : List Key) : Bool := ks.all fun k => k.isLeft
def apart (l : List (List Key)) : Bool := l.all intKeys && decide ((l.map hTup).Nodup)
variable {X : Cx} {K : PySem.W.Frag} {W : WX} {e : Expr} {pos p : Pos} {x : Str}
end
end DL
namespace DL
open PySem PySem.Spec PyProof.Rows L2
section
variable {K : PySem.W.Frag} {X : Cx} {W : WX} {e a b c : Expr} {es : List Expr} {pos : Pos} {Z H : Hp} {I : List Addr} {M : List O}
/-! ### calls of built-ins that make an object of one's own -/
structure CallO (K : PySem.W.Frag) (X : Cx) (f : Value) (r : List V → Hp → VK → Prop) (g : List O → List DV → Option O) : Prop where
  op : X.K = K → CallR X f r
  ok : ∀ (vs : List V) (ds : List DV) (o : O) (Z H : Hp) (I : List Addr) (M : List O) (Q : VK), Wf K Z H I M → RepVs K Z I vs ds → g M ds = some o →
    (∀ (p : Addr) (u : HO), H p = none → RepO K Z (I ++ [p]) (upd H p u) p o → Q (.ref p) (upd H p u)) → r vs H Q
def mCBO (g : List O → List DV → Option O) (ms : AM) : EM := bnd ms fun ds s => match g s.m ds with
  | some o => some (.ok (.o s.m.length) (s.m ++ [o]))
  | none => none
/-! ### a slice of a list of one's own -/
def slO (M : List O) : DV → Option Int → Option Int → Option D
  | .p d, i, j => slE d i j
  | .o n, i, j => match M[n]? with
    | some (.lst ds) => match allP ds with
      | some xs => some (.lst (cutD xs i j))
      | none => none
    | _ => none
def mSlO (m : EM) (l u : PM) : EM := bnd m fun d => bnd l fun i => bnd u fun j s => ret (slO s.m d i j) s
theorem de_slO {te : TE} {tl th : TO} {m : EM} {ml mu : PM} {lo hi : Option Expr} {p2 : Pos} (h : DE K X W e te m) (hl : DP K X W lo tl ml) (hh : DP K X W hi th mu) : DE K X W (.Subscript e (.Slice lo hi none p2) pos) (tSl (rSl K) te tl th) (mSlO m ml mu) := by
  refine ⟨h.k, ?_, ⟨fun σ H s Z I r0 Q w rs e p => ?_⟩⟩
  · have q := pe_slice (X := X) (pos := pos) (p2 := p2) sl_any h.pe hl.po hh.po
    rw [h.k] at q
    exact q
  · refine h.so.bnd w rs e p.x fun d v M1 Z1 H1 I1 w1 rs1 x1 q1 e1 => ?_
    have p1 := p.mono x1
    refine hl.so.bnd (s := ⟨s.l, M1⟩) w1 rs1 e1 p1.x fun i i' M2 Z2 H2 I2 w2 rs2 x2 q2 e2 => ?_
    cases (show i' = i from q2)
    have p2 := p1.mono x2
    refine hh.so.bnd (s := ⟨s.l, M2⟩) w2 rs2 e2 p2.x fun j j' M3 Z3 H3 I3 w3 rs3 x3 q3 e3 => ?_
    cases (show j' = j from q3)
    obtain ⟨c, hc, rfl⟩ := ret_ok e3
    have hx : RepV K Z3 I3 v d := (q1.mono x2).mono x3
    cases d with
    | p d =>
      have hc : slE d i j = some c := hc
      unfold slE at hc
      split at hc
      · cases hc
      · rename_i hn
        exact sl_ok w3.sub hx hc (PostP.of w3 (p2.mono x3)) fun xs h => hn xs h
    | o n =>
      obtain ⟨a, ha, rfl⟩ := hx
      have hc : (match M3[n]? with | some (.lst ds) => (match allP ds with | some xs => some (D.lst (cutD xs i j)) | none => none) | _ => none) = some c := hc
      cases z : M3[n]? with
      | none => rw [z] at hc; cases hc
      | some ob =>
        rw [z] at hc
        cases ob with
        | lst ds =>
          have hc : (match allP ds with | some xs => some (D.lst (cutD xs i j)) | none => none) = some c := hc
          cases z2 : allP ds with
          | none => rw [z2] at hc; cases hc
          | some xs =>
            rw [z2] at hc; cases hc
            obtain ⟨_, ys, hy, hr⟩ := w3.ob n a _ ha z (by intro z; cases z)
            have ra := allP_rep hr z2
            refine .inr (.inl ⟨a, ys, rfl, .inl (.inl hy), fun l hl => ?_⟩)
            have xp := ExtP.new (o := .lst (cutV ys i j)) w3.sub hl
            exact (PostP.of w3 (p2.mono x3)) _ _ _ xp (.lst (.inl upd_same) ((ra.cut i j).mono xp.z))
        | _ => cases hc
/-! ### a, b, c, d = (..): the values may be one's own -/
def sUnp (ms : AM) (n : Nat) (m : List DV → S → Option S) : SM := liftS ms fun ds s => if ds.length = n ∧ n ≤ 1000 then
  match m ds s with
  | some s1 => some (.nx, s1)
  | none => none
  else none
@[simp] theorem e_cbO (g : List O → List DV → Option O) (ms : AM) (s : S) : mCBO g ms s = (bnd ms fun ds s => match g s.m ds with | some o => some (.ok (.o s.m.length) (s.m ++ [o])) | none => none) s := rfl
@[simp] theorem e_slO (m : EM) (l u : PM) (s : S) : mSlO m l u s = (bnd m fun d => bnd l fun i => bnd u fun j s => ret (slO s.m d i j) s) s := rfl
@[simp] theorem e_unp (ms : AM) (n : Nat) (m : List DV → S → Option S) (s : S) : sUnp ms n m s = (liftS ms fun ds s => if ds.length = n ∧ n ≤ 1000 then (match m ds s with | some s1 => some (.nx, s1) | none => none) else none) s := rfl
end
end DL
namespace L2
open PySem PySem.Spec PyProof.Rows
/-! ### a clause of a comprehension, whatever its turn does -/
section
variable {X : Cx} {kx vx tg iter : Expr} {ifs : List Expr} {rest : List Comprehension} {scope : Scope} {own : List (Str × Nat)} {pos pos' : Pos} {wi : TI} {g : TG} {tt : TT} {tb : Addr → St → Hp → (Hp → Prop) → Prop} {body : Addr → Addr → Env → Sem PySem.Fin}
end
end L2
namespace L2
open PySem PySem.Spec PyProof.Rows
section
variable {X : Cx} {kx vx tg iter tg1 iter1 : Expr} {ifs ifs1 : List Expr} {scope : Scope} {own : List (Str × Nat)} {pos pos' : Pos} {wi wi1 : TI} {g g1 : TG} {tt tt1 : TT} {tk tv : TE}
end
end L2
namespace DL
open PySem L2
section
variable {K : PySem.W.Frag} {X : Cx} {W : WX}
/-- what is known of the new dict at D while it is filled -/
structure FillT (K : PySem.W.Frag) (Z1 H1 : Hp) (I1 : List Addr) (D : Addr) (Z H : Hp) (I : List Addr) (M : List O) (acc : List (List Key × V)) (ad : List (List Key × DL.D)) : Prop where
  w : Wf K Z H I M
  x : Ext Z1 H1 I1 Z H I
  at_ : H D = some (.dT acc)
  nz : Z D = none
  ni : D ∉ I
  r : Paired (FRel K Z I) acc (ad.map fun p => (p.1, DV.p p.2))
theorem frel_mono {Z H Z' H' : Hp} {I I' : List Addr} (e : Ext Z H I Z' H' I') {κ : Type} {a : List (κ × V)} {b : List (κ × DV)} (r : Paired (FRel K Z I) a b) : Paired (FRel K Z' I') a b := paired_imp (fun _ _ h => ⟨h.1, h.2.mono e⟩) r
theorem FillT.step {Z1 H1 Z H Z' H' : Hp} {I1 I I' : List Addr} {D : Addr} {M M' : List O} {acc : List (List Key × V)} {ad : List (List Key × DL.D)} (f : FillT K Z1 H1 I1 D Z H I M acc ad) (w : Wf K Z' H' I' M') (x : Ext Z H I Z' H' I') : FillT K Z1 H1 I1 D Z' H' I' M' acc ad where
  w := w
  x := f.x.trans x
  at_ := x.fr D _ f.at_ f.ni
  nz := by
    cases q : Z' D with
    | none => rfl
    | some o =>
      rcases x.zn D (by rw [q]; simp) with k | k | k
      · exact absurd f.nz k
      · exact (Fr.no f.at_ (fun _ e => nomatch e) k).elim
      · exact absurd k f.ni
  ni := fun m => by
    rcases x.nw D m with k | k
    · exact f.ni k
    · rw [f.at_] at k; cases k
  r := frel_mono x f.r
theorem FillT.put {Z1 H1 Z H : Hp} {I1 I : List Addr} {D : Addr} {M : List O} {acc : List (List Key × V)} {ad : List (List Key × DL.D)} (f : FillT K Z1 H1 I1 D Z H I M acc ad) (h0 : H1 D = none) {v : V} {d : DL.D} (r : Rep K Z v d) (k : List Key) :
    FillT K Z1 H1 I1 D Z (upd H D (.dT (putK acc k v))) I M (putK acc k v) (putO ad k d) where
  w := ⟨fun a u e => by rw [upd_ne (fun q => by rw [q, f.nz] at e; cases e)]; exact f.w.sub a u e, f.w.len, f.w.nd, fun a m => by rw [upd_ne (fun q => f.ni (by rw [← q]; exact m))]; exact f.w.tr a m, fun n a o h1 h2 h3 => by
    obtain ⟨q1, q2⟩ := f.w.ob n a o h1 h2 h3
    exact ⟨q1, q2.mono (Same.refl _) (upd_ne fun q => f.ni (by rw [← q]; exact List.mem_of_getElem? h1))⟩⟩
  x := ⟨f.x.z, f.x.i, fun a o e n => by rw [upd_ne (ne_of_none e h0)]; exact f.x.fr a o e n, f.x.nw, f.x.zn, fun a e => by
    by_cases q : a = D
    · rw [q, upd_same]; simp
    · rw [upd_ne q]; exact f.x.tr a e⟩
  at_ := upd_same
  nz := f.nz
  ni := f.ni
  r := by
    have e : (putO ad k d).map (fun p => (p.1, DV.p p.2)) = putO (ad.map fun p => (p.1, DV.p p.2)) k (.p d) := by
      unfold putO
      rw [List.any_map]
      have ea : (ad.any ((fun kv : List Key × DV => decide (kv.1 = k)) ∘ fun p => (p.1, DV.p p.2))) = ad.any fun kv => decide (kv.1 = k) := rfl
      rw [ea]
      split
      · rw [List.map_map, List.map_map]
        refine List.map_congr_left fun p _ => ?_
        show (((if p.1 = k then (p.1, d) else p) : List Key × DL.D).1, DV.p ((if p.1 = k then (p.1, d) else p) : List Key × DL.D).2) = if p.1 = k then (p.1, DV.p d) else (p.1, DV.p p.2)
        split <;> rfl
      · rw [List.map_append]; rfl
    rw [e]
    exact putP_rep f.r k r
abbrev BM := S → List (List Key × D) → Option (List (List Key × D) × List O)
def compG (l : List (Option DV)) (g : GM) (t : EM) (bm : BM) : List DV → List (List Key × D) → List O → Option (List (List Key × D) × List O)
  | [], acc, M => some (acc, M)
  | d :: ds, acc, M => match g d ⟨l, M⟩ with
    | none => none
    | some s1 => match t s1 with
      | some (.ok (.p (.bl true)) M1) => match bm ⟨s1.l, M1⟩ acc with
        | some (acc', M2) => compG l g t bm ds acc' M2
        | none => none
      | some (.ok (.p (.bl false)) M1) => compG l g t bm ds acc M1
      | _ => none
def mDc (it : IM) (vs : List Nat) (g : GM) (t : EM) (bm : BM) : EM := bnd it fun ds s => match compG (wipeL s.l vs) g t bm ds [] s.m with
  | some (acc, M) => some (.ok (.o M.length) (M ++ [.dT (acc.map fun p => (p.1, .p p.2))]))
  | none => none
theorem FillT.own {Z1 H1 Z H : Hp} {I1 I : List Addr} {D : Addr} {M : List O} {acc : List (List Key × V)} {ad : List (List Key × DL.D)} (f : FillT K Z1 H1 I1 D Z H I M acc ad) (h0 : H1 D = none) :
    Wf K Z H (I ++ [D]) (M ++ [.dT (ad.map fun p => (p.1, .p p.2))]) ∧ Ext Z1 H1 I1 Z H (I ++ [D]) := by
  have x0 : Ext Z H I Z H (I ++ [D]) ∨ True := .inr trivial
  have mono : ∀ {v : V} {d : DV}, RepV K Z I v d → RepV K Z (I ++ [D]) v d := fun {v d} h => h.mono2 (Same.refl _) ⟨[D], rfl⟩
  refine ⟨⟨f.w.sub, by rw [List.length_append, List.length_append, f.w.len]; rfl, ?_, fun a m => ?_, fun n a o h1 h2 h3 => ?_⟩, ⟨f.x.z, ?_, f.x.fr, fun a m => ?_, f.x.zn, f.x.tr⟩⟩
  · refine List.nodup_append.mpr ⟨f.w.nd, by simp, fun a ha b hb => ?_⟩
    rw [List.mem_singleton.mp hb]
    intro e
    exact f.ni (by rw [← e]; exact ha)
  · rcases List.mem_append.mp m with k | k
    · exact f.w.tr a k
    · rw [List.mem_singleton.mp k, f.at_]; simp
  · by_cases hn : n < I.length
    · rw [List.getElem?_append_left hn] at h1
      rw [List.getElem?_append_left (by rw [← f.w.len]; exact hn)] at h2
      obtain ⟨q1, q2⟩ := f.w.ob n a o h1 h2 h3
      refine ⟨q1, ?_⟩
      cases o with
      | lst ds => obtain ⟨xs, g1, g2⟩ := q2; exact ⟨xs, g1, paired_imp (fun _ _ h => mono h) g2⟩
      | dK ds => obtain ⟨xs, g1, g2⟩ := q2; exact ⟨xs, g1, paired_imp (fun _ _ h => ⟨h.1, mono h.2⟩) g2⟩
      | dT ds => obtain ⟨xs, g1, g2⟩ := q2; exact ⟨xs, g1, paired_imp (fun _ _ h => ⟨h.1, mono h.2⟩) g2⟩
      | ins C fs => obtain ⟨dx, xs, g1, g2⟩ := q2; exact ⟨dx, xs, g1, paired_imp (fun _ _ h => ⟨h.1, mono h.2⟩) g2⟩
      | tbl P q => exact q2
      | clo _ _ =>
        obtain ⟨c, cl, cvs, g1, n, g2⟩ := q2
        refine ⟨c, cl, cvs, g1, fun y b q m => ?_, paired_imp (fun _ _ h => mono h) g2⟩
        rcases List.mem_append.mp m with k | k
        · exact n y b q k
        · obtain ⟨o, v, g3, _⟩ := g1.all y b q
          have g4 := f.w.sub b _ g3
          rw [List.mem_singleton.mp k, f.at_] at g4; cases g4
      | gone => trivial
    · have e1 : n = I.length := by
        have := (List.getElem?_eq_some_iff.mp h1).1
        rw [List.length_append, List.length_singleton] at this
        omega
      subst e1
      rw [List.getElem?_append_right (Nat.le_refl _), Nat.sub_self] at h1
      rw [List.getElem?_append_right (by rw [f.w.len]; exact Nat.le_refl _), f.w.len, Nat.sub_self] at h2
      cases h1
      cases h2
      exact ⟨f.nz, acc, f.at_, paired_imp (fun _ _ h => ⟨h.1, mono h.2⟩) f.r⟩
  · obtain ⟨t, e⟩ := f.x.i
    exact ⟨t ++ [D], by rw [e, List.append_assoc]⟩
  · rcases List.mem_append.mp m with k | k
    · exact f.x.nw a k
    · rw [List.mem_singleton.mp k]; exact .inr h0
section
variable {kx vx tg iter tg1 iter1 : Expr} {ifs ifs1 : List Expr} {scope : Scope} {own : List (Str × Nat)} {pos : Pos} {wi wi1 : TI} {g g1 : TG} {tt tt1 : TT} {tk tv : TE} {it it1 : IM} {gm gm1 : GM} {ix ix1 : List Nat} {t t1 ek ev : EM}
end
@[simp] theorem e_dc (it : IM) (vs : List Nat) (g : GM) (t : EM) (bm : BM) (s : S) : mDc it vs g t bm s = (bnd it fun ds s => match compG (wipeL s.l vs) g t bm ds [] s.m with | some (acc, M) => some (.ok (.o M.length) (M ++ [.dT (acc.map fun p => (p.1, .p p.2))])) | none => none) s := rfl
end
end DL
namespace DL
open PySem L2
section
variable {K : PySem.W.Frag} {X : Cx} {W : WX} {a b c : Expr} {pos : Pos}
/-! ### a, b, c = x, y, z -/
def sPar3 (i j l : Nat) (ms : AM) : SM := liftS ms fun ds s => match ds with
  | [d, e, f] => some (.nx, ⟨((s.l.set i (some d)).set j (some e)).set l (some f), s.m⟩)
  | _ => none
@[simp] theorem e_par3 (i j l : Nat) (ms : AM) (s : S) : sPar3 i j l ms s = (liftS ms fun ds s => match ds with | [d, e, f] => some (.nx, ⟨((s.l.set i (some d)).set j (some e)).set l (some f), s.m⟩) | _ => none) s := rfl
end
section
variable {K : PySem.W.Frag} {X : Cx} {W : WX}
variable {kx vx tg iter tg1 iter1 : Expr} {ifs ifs1 : List Expr} {scope : Scope} {own : List (Str × Nat)} {pos : Pos} {wi wi1 : TI} {g g1 : TG} {tt tt1 : TT} {tk tv : TE} {it it1 : IM} {gm gm1 : GM} {ix ix1 : List Nat} {t t1 ek ev : EM}
/-! ### x = {..} -/
end
end DL
namespace DL
open PySem L2
section
variable {K : PySem.W.Frag} {X : Cx} {W : WX}
/-! ### l.pop(i), any i -/
def gPopI : MtG := fun d ds s => match d, ds with
  | .o n, [.p (.int i)] => match s.m[n]? with
    | some (.lst xs) => match ixN xs.length i with
      | some k => match xs[k]? with
        | some x => if xs.length ≤ 1000000 then some (.ok x (s.m.set n (.lst (xs.eraseIdx k)))) else none
        | none => none
      | none => none
    | _ => none
  | _, _ => none
@[simp] theorem e_popI (n : Nat) (i : Int) (s : S) : gPopI (.o n) [.p (.int i)] s = (match s.m[n]? with
    | some (.lst xs) => match ixN xs.length i with
      | some k => match xs[k]? with
        | some x => if xs.length ≤ 1000000 then some (.ok x (s.m.set n (.lst (xs.eraseIdx k)))) else none
        | none => none
      | none => none
    | _ => none) := rfl
end
end DL
namespace DL
open PySem L2
/-! ### try: .. except X: return c (the exception has no name) -/
section
variable {K : PySem.W.Frag} {X : Cx} {W : WX} {x n : Str} {cc : Value} {body : List Stmt} {e : Expr} {te : TE} {m : EM} {y : D} {np rp pos pos' : Pos} {tb : WX → TS} {mb : SM} {cs : List (Addr × Bool)}
end
end DL
namespace DL
open PySem PySem.Spec PyProof.Rows L2
/-! ### del xs[i] of a list of one's own -/
section
variable {K : PySem.W.Frag} {X : Cx} {W : WX}
def sDelLK (d : DV) (i : D) : SM := fun s => match d, i with
  | .o n, .int i => match s.m[n]? with
    | some (.lst xs) => match ixN xs.length i with
      | some k => if xs.length ≤ 1000000 then some (.nx, ⟨s.l, s.m.set n (.lst (xs.eraseIdx k))⟩) else none
      | none => none
    | _ => none
  | _, _ => none
def sDelL (mo mi : EM) : SM := liftS mo fun d => liftS mi (purS fun i => sDelLK d i)
@[simp] theorem e_delL (mo mi : EM) (s : S) : sDelL mo mi s = (liftS mo fun d => liftS mi (purS fun i => sDelLK d i)) s := rfl
end
end DL
namespace DL
open PySem PySem.Spec PyProof.Rows L2
/-! ### xs[a:c] = ys at a list of one's own, ys data; c may lie behind the end -/
section
variable {prog : Program} {w : World} {A : Around} {E : Value → Shared → Prop} {s : Shared}
end
section
variable {K : PySem.W.Frag} {X : Cx} {W : WX}
end
end DL
namespace DL
open PySem PySem.Spec PyProof.Rows L2
section
variable {K : PySem.W.Frag} {X : Cx}
end
end DL
namespace DL
open PySem PySem.Spec PyProof.Rows L2
section
variable {K : PySem.W.Frag} {X : Cx} {W : WX}
/-! ### list(range(n)) -/
def rgD (a b : Int) : List D := (List.range (b - a).toNat).map fun i => D.int (a + (i : Nat))
end
end DL
namespace DL
open PySem L2 PySem.W
open PyProof.Rows (seqObj)
section
variable {X : Cx} {K : PySem.W.Frag} {W : WX} {e a b tg : Expr} {pos p : Pos} {x : Str}
/-! ### list(d), d a dict whose keys are tuples: a list of its keys -/
/-! ### reversed(range(a, b)) -/
def downTo (a : Int) (n : Nat) : List DV := (List.range n).map fun (i : Nat) => .p (.int (a + (n : Int) - 1 - (i : Int)))
def revG2 : D → D → Option (List DV)
  | .int a, .int b => if rngOk a = true then if rngOk b = true then some (downTo a (b - a).toNat) else none else none
  | _, _ => none
def mRev2 (m n : EM) : IM := bnd m (pur fun d => bnd n (pur fun e s => match revG2 d e with
  | some ds => some (.ok ds s.m)
  | none => none))
end
@[simp] theorem e_rev2 (m n : EM) (s : S) : mRev2 m n s = (bnd m (pur fun d => bnd n (pur fun e s => match revG2 d e with | some ds => some (.ok ds s.m) | none => none))) s := rfl
end DL
namespace DL
open PySem L2 PySem.W
/-! ### enumerate(xs, start=k), xs any list -/
end DL
namespace DL
open PySem L2
/-! ### loops over lists of one's own, which stay so: the items are read turn by turn -/
structure OIt where
  n : Nat
  it : Nat → D → D
abbrev IMO := Mi OIt
def ItOkO (K : PySem.W.Frag) (Z0 : Hp) (I0 : List Addr) (J : It) (x : OIt) : Prop :=
  ∀ Z H I M xs, Same Z0 Z → (∃ t, I = I0 ++ t) → Wf K Z H I M → M[x.n]? = some (.lst xs) → ∀ i : Nat, (∀ d, xs[i]? = some (.p d) → J.go i H ∧ ∀ v H', J.yld i H v H' → ∃ Z', ExtP Z H Z' H' ∧ Rep K Z' v (x.it i d)) ∧ (xs.length = i → J.stop i H)
section
variable {K : PySem.W.Frag} {X : Cx} {W : WX} {tg iter : Expr} {pos : Pos}
structure DIO (K : PySem.W.Frag) (X : Cx) (W : WX) (tg iter : Expr) (wi : TI) (m : IMO) : Prop where
  k : X.K = K
  pi : PI X tg iter wi
  so : Sound K W (ItOkO K) wi m
/-! ### a slice that is a new list of one's own -/
end
end DL
namespace DL
open PySem L2
/-! ### try: .. except X as e: .. where the suite returns a value or falls through -/
def PostB (Z H : Hp) (Q : Bool → Hp → Prop) (b : Bool) : Prop := ∀ Z' H', ExtP Z H Z' H' → Q b H'
def PostN (Z H : Hp) (Q : Hp → Prop) : Prop := ∀ Z' H', ExtP Z H Z' H' → Q H'
structure TXf (K : PySem.W.Frag) (i : Nat) (t : Addr → Value → Option Addr → TT) (m : Addr → List (Str × D) → Option Bool) : Prop where
  ok : ∀ (a c : Addr) (d : Option Addr) (fs : List (Str × D)) (σ : St) (H Z : Hp) (b : Bool) (Q : Bool → Hp → Prop), fs.isEmpty = false → Same Z H → σ[i]? = some (some (.ref a)) → ExcAt K Z H d fs → m c fs = some b → PostB Z H Q b → t a (.ref c) d σ H Q
structure DTXf (K : PySem.W.Frag) (X : Cx) (i : Nat) (e : Expr) (m : Addr → List (Str × D) → Option Bool) : Prop where
  ex : ∃ t, SX X K e t ∧ TXf K i t m
/-- what a suite comes to: none: it falls through; some y: it returns y -/
structure HXf (K : PySem.W.Frag) (X : Cx) (i : Nat) (body : List Stmt) (hm : Addr → List (Str × D) → Option (Option D)) : Prop where
  ex : ∃ ts : Addr → Value → Option Addr → TS, (∀ (a : Addr) (oe : Obj) (cls : Value) (d : Option Addr) (pn : List (Addr × Obj)), Zc cls d oe → (∃ vs, oe.data = .fields vs) → PSs (X.suite a ((a, oe) :: pn)) body (ts a cls d)) ∧
    ∀ (a c : Addr) (d : Option Addr) (fs : List (Str × D)) (σ : St) (H Z : Hp) (o : Option D) (E : Ends), fs.isEmpty = false → Same Z H → σ[i]? = some (some (.ref a)) → ExcAt K Z H d fs → hm c fs = some o → (match o with | some y => PostP K Z H y E.rt | none => PostN Z H (E.nx σ)) → ts a (.ref c) d E σ H
section
variable {K : PySem.W.Frag} {X : Cx} {W : WX} {x n : Str} {cc : Value} {i : Nat} {body suite : List Stmt} {b₀ : Stmt} {np pos pos' : Pos} {tb : WX → TS} {mb : SM} {hm : Addr → List (Str × D) → Option (Option D)} {cs : List (Addr × Bool)}
end
section
variable {K : PySem.W.Frag} {X : Cx} {e e1 e2 : Expr} {i : Nat} {pos p p1 p2 : Pos} {m : Addr → List (Str × D) → Option Bool} {h1 h2 : Addr → List (Str × D) → Option D} {g1 g2 : Addr → List (Str × D) → Option (Option D)}
end
end DL
namespace L2
open PySem PySem.Spec PyProof.Rows
section
variable {X : Cx} {kx vx tg iter : Expr} {ifs : List Expr} {rest : List Comprehension} {scope : Scope} {own : List (Str × Nat)} {pos pos' : Pos} {wi : TI} {g : TG} {tt : TT} {tb : Addr → St → Hp → (Hp → Prop) → Prop} {body : Addr → Addr → Env → Sem PySem.Fin}
end
section
variable {X : Cx} {kx vx tg iter tg1 iter1 : Expr} {ifs ifs1 : List Expr} {scope : Scope} {own : List (Str × Nat)} {pos pos' : Pos} {wi wi1 : TI} {g g1 : TG} {tt tt1 : TT} {tk tv : TE}
end
end L2
namespace DL
open PySem L2
section
variable {K : PySem.W.Frag} {X : Cx} {W : WX}
/-- what is known of the new dict at D while it is filled -/
structure FillTI (K : PySem.W.Frag) (Z1 H1 : Hp) (I1 : List Addr) (D : Addr) (Z H : Hp) (I : List Addr) (M : List O) (acc : List (Key × V)) (ad : List (Key × DL.D)) : Prop where
  w : Wf K Z H I M
  x : Ext Z1 H1 I1 Z H I
  at_ : H D = some (.dK acc)
  nz : Z D = none
  ni : D ∉ I
  r : Paired (FRel K Z I) acc (ad.map fun p => (p.1, DV.p p.2))
theorem FillTI.step {Z1 H1 Z H Z' H' : Hp} {I1 I I' : List Addr} {D : Addr} {M M' : List O} {acc : List (Key × V)} {ad : List (Key × DL.D)} (f : FillTI K Z1 H1 I1 D Z H I M acc ad) (w : Wf K Z' H' I' M') (x : Ext Z H I Z' H' I') : FillTI K Z1 H1 I1 D Z' H' I' M' acc ad where
  w := w
  x := f.x.trans x
  at_ := x.fr D _ f.at_ f.ni
  nz := by
    cases q : Z' D with
    | none => rfl
    | some o =>
      rcases x.zn D (by rw [q]; simp) with k | k | k
      · exact absurd f.nz k
      · exact (Fr.no f.at_ (fun _ e => nomatch e) k).elim
      · exact absurd k f.ni
  ni := fun m => by
    rcases x.nw D m with k | k
    · exact f.ni k
    · rw [f.at_] at k; cases k
  r := frel_mono x f.r
theorem FillTI.put {Z1 H1 Z H : Hp} {I1 I : List Addr} {D : Addr} {M : List O} {acc : List (Key × V)} {ad : List (Key × DL.D)} (f : FillTI K Z1 H1 I1 D Z H I M acc ad) (h0 : H1 D = none) {v : V} {d : DL.D} (r : Rep K Z v d) (k : Key) :
    FillTI K Z1 H1 I1 D Z (upd H D (.dK (putK acc k v))) I M (putK acc k v) (putO ad k d) where
  w := ⟨fun a u e => by rw [upd_ne (fun q => by rw [q, f.nz] at e; cases e)]; exact f.w.sub a u e, f.w.len, f.w.nd, fun a m => by rw [upd_ne (fun q => f.ni (by rw [← q]; exact m))]; exact f.w.tr a m, fun n a o h1 h2 h3 => by
    obtain ⟨q1, q2⟩ := f.w.ob n a o h1 h2 h3
    exact ⟨q1, q2.mono (Same.refl _) (upd_ne fun q => f.ni (by rw [← q]; exact List.mem_of_getElem? h1))⟩⟩
  x := ⟨f.x.z, f.x.i, fun a o e n => by rw [upd_ne (ne_of_none e h0)]; exact f.x.fr a o e n, f.x.nw, f.x.zn, fun a e => by
    by_cases q : a = D
    · rw [q, upd_same]; simp
    · rw [upd_ne q]; exact f.x.tr a e⟩
  at_ := upd_same
  nz := f.nz
  ni := f.ni
  r := by
    have e : (putO ad k d).map (fun p => (p.1, DV.p p.2)) = putO (ad.map fun p => (p.1, DV.p p.2)) k (.p d) := by
      unfold putO
      rw [List.any_map]
      have ea : (ad.any ((fun kv : Key × DV => decide (kv.1 = k)) ∘ fun p => (p.1, DV.p p.2))) = ad.any fun kv => decide (kv.1 = k) := rfl
      rw [ea]
      split
      · rw [List.map_map, List.map_map]
        refine List.map_congr_left fun p _ => ?_
        show (((if p.1 = k then (p.1, d) else p) : Key × DL.D).1, DV.p ((if p.1 = k then (p.1, d) else p) : Key × DL.D).2) = if p.1 = k then (p.1, DV.p d) else (p.1, DV.p p.2)
        split <;> rfl
      · rw [List.map_append]; rfl
    rw [e]
    exact putP_rep f.r k r
abbrev BMI := S → List (Key × D) → Option (List (Key × D) × List O)
def compGI (l : List (Option DV)) (g : GM) (t : EM) (bm : BMI) : List DV → List (Key × D) → List O → Option (List (Key × D) × List O)
  | [], acc, M => some (acc, M)
  | d :: ds, acc, M => match g d ⟨l, M⟩ with
    | none => none
    | some s1 => match t s1 with
      | some (.ok (.p (.bl true)) M1) => match bm ⟨s1.l, M1⟩ acc with
        | some (acc', M2) => compGI l g t bm ds acc' M2
        | none => none
      | some (.ok (.p (.bl false)) M1) => compGI l g t bm ds acc M1
      | _ => none
def mDcI (it : IM) (vs : List Nat) (g : GM) (t : EM) (bm : BMI) : EM := bnd it fun ds s => match compGI (wipeL s.l vs) g t bm ds [] s.m with
  | some (acc, M) => some (.ok (.o M.length) (M ++ [.dK (acc.map fun p => (p.1, .p p.2))]))
  | none => none
theorem FillTI.own {Z1 H1 Z H : Hp} {I1 I : List Addr} {D : Addr} {M : List O} {acc : List (Key × V)} {ad : List (Key × DL.D)} (f : FillTI K Z1 H1 I1 D Z H I M acc ad) (h0 : H1 D = none) :
    Wf K Z H (I ++ [D]) (M ++ [.dK (ad.map fun p => (p.1, .p p.2))]) ∧ Ext Z1 H1 I1 Z H (I ++ [D]) := by
  have x0 : Ext Z H I Z H (I ++ [D]) ∨ True := .inr trivial
  have mono : ∀ {v : V} {d : DV}, RepV K Z I v d → RepV K Z (I ++ [D]) v d := fun {v d} h => h.mono2 (Same.refl _) ⟨[D], rfl⟩
  refine ⟨⟨f.w.sub, by rw [List.length_append, List.length_append, f.w.len]; rfl, ?_, fun a m => ?_, fun n a o h1 h2 h3 => ?_⟩, ⟨f.x.z, ?_, f.x.fr, fun a m => ?_, f.x.zn, f.x.tr⟩⟩
  · refine List.nodup_append.mpr ⟨f.w.nd, by simp, fun a ha b hb => ?_⟩
    rw [List.mem_singleton.mp hb]
    intro e
    exact f.ni (by rw [← e]; exact ha)
  · rcases List.mem_append.mp m with k | k
    · exact f.w.tr a k
    · rw [List.mem_singleton.mp k, f.at_]; simp
  · by_cases hn : n < I.length
    · rw [List.getElem?_append_left hn] at h1
      rw [List.getElem?_append_left (by rw [← f.w.len]; exact hn)] at h2
      obtain ⟨q1, q2⟩ := f.w.ob n a o h1 h2 h3
      refine ⟨q1, ?_⟩
      cases o with
      | lst ds => obtain ⟨xs, g1, g2⟩ := q2; exact ⟨xs, g1, paired_imp (fun _ _ h => mono h) g2⟩
      | dK ds => obtain ⟨xs, g1, g2⟩ := q2; exact ⟨xs, g1, paired_imp (fun _ _ h => ⟨h.1, mono h.2⟩) g2⟩
      | dT ds => obtain ⟨xs, g1, g2⟩ := q2; exact ⟨xs, g1, paired_imp (fun _ _ h => ⟨h.1, mono h.2⟩) g2⟩
      | ins C fs => obtain ⟨dx, xs, g1, g2⟩ := q2; exact ⟨dx, xs, g1, paired_imp (fun _ _ h => ⟨h.1, mono h.2⟩) g2⟩
      | tbl P q => exact q2
      | clo _ _ =>
        obtain ⟨c, cl, cvs, g1, n, g2⟩ := q2
        refine ⟨c, cl, cvs, g1, fun y b q m => ?_, paired_imp (fun _ _ h => mono h) g2⟩
        rcases List.mem_append.mp m with k | k
        · exact n y b q k
        · obtain ⟨o, v, g3, _⟩ := g1.all y b q
          have g4 := f.w.sub b _ g3
          rw [List.mem_singleton.mp k, f.at_] at g4; cases g4
      | gone => trivial
    · have e1 : n = I.length := by
        have := (List.getElem?_eq_some_iff.mp h1).1
        rw [List.length_append, List.length_singleton] at this
        omega
      subst e1
      rw [List.getElem?_append_right (Nat.le_refl _), Nat.sub_self] at h1
      rw [List.getElem?_append_right (by rw [f.w.len]; exact Nat.le_refl _), f.w.len, Nat.sub_self] at h2
      cases h1
      cases h2
      exact ⟨f.nz, acc, f.at_, paired_imp (fun _ _ h => ⟨h.1, mono h.2⟩) f.r⟩
  · obtain ⟨t, e⟩ := f.x.i
    exact ⟨t ++ [D], by rw [e, List.append_assoc]⟩
  · rcases List.mem_append.mp m with k | k
    · exact f.x.nw a k
    · rw [List.mem_singleton.mp k]; exact .inr h0
section
variable {kx vx tg iter tg1 iter1 : Expr} {ifs ifs1 : List Expr} {scope : Scope} {own : List (Str × Nat)} {pos : Pos} {wi wi1 : TI} {g g1 : TG} {tt tt1 : TT} {tk tv : TE} {it it1 : IM} {gm gm1 : GM} {ix ix1 : List Nat} {t t1 ek ev : EM}
end
@[simp] theorem e_dcI (it : IM) (vs : List Nat) (g : GM) (t : EM) (bm : BMI) (s : S) : mDcI it vs g t bm s = (bnd it fun ds s => match compGI (wipeL s.l vs) g t bm ds [] s.m with | some (acc, M) => some (.ok (.o M.length) (M ++ [.dK (acc.map fun p => (p.1, .p p.2))])) | none => none) s := rfl
end
section
variable {K : PySem.W.Frag} {X : Cx} {W : WX}
variable {kx vx tg iter tg1 iter1 : Expr} {ifs ifs1 : List Expr} {scope : Scope} {own : List (Str × Nat)} {pos : Pos} {wi wi1 : TI} {g g1 : TG} {tt tt1 : TT} {tk tv : TE} {it it1 : IM} {gm gm1 : GM} {ix ix1 : List Nat} {t t1 ek ev : EM}
/-! ### x = {..} -/
end
end DL
namespace DL
open PySem L2 PySem.W
section
variable {X : Cx} {K : PySem.W.Frag}
/-! ### sorted(d), d a dict of fewer than 64 ints -/
end
end DL
namespace DL
open PySem L2
section
variable {K : PySem.W.Frag} {X : Cx} {W : WX} {o : Expr}
/-! ### x.bit_length() -/
def bitsG : D → Option D
  | .int i => some (.int (Builtin.Int.intBits i : Nat))
  | _ => none
def mBits (m : EM) : EM := bnd m (pur fun d => ret (bitsG d))
theorem de_bits {apos pos : Pos} {to : TE} {m : EM} (ho : DE K X W o to m) (hbase : attributeBase o "bit_length" X.env (eval o X.env) = eval o X.env := by rfl) (hline : (apos.endLine == pos.line) = true := by rfl) :
    DE K X W (.Call (.Attribute o "bit_length" apos) [] [] pos) (tBits to) (mBits m) := ⟨ho.k, pe_bits ho.pe hbase hline, ⟨fun σ H s Z I r Q w rs e p => by
  refine ho.so.bnd w rs e p.x fun d v M1 Z1 H1 I1 w1 rs1 x1 q1 e1 => ?_
  obtain ⟨d, rfl, e1⟩ := pur_ok e1
  have e1 : (match bitsG d with | some d => some (Rs.ok (DV.p d) M1) | none => none) = some r := e1
  cases z : bitsG d with
  | none => rw [z] at e1; cases e1
  | some b =>
    rw [z] at e1
    cases e1
    cases d with
    | int i =>
      cases z
      have q1 : Rep K Z1 v (.int i) := q1
      cases q1
      exact ⟨i, rfl, p _ Z1 H1 I1 w1 x1 (.int _)⟩
    | _ => cases z⟩⟩
@[simp] theorem e_bits (m : EM) (s : S) : mBits m s = (bnd m (pur fun d => ret (bitsG d))) s := rfl
end
end DL
namespace DL
open PySem PySem.Spec PyProof.Rows L2 LamX NdefX
/-! ### closures that stand as objects: what they capture may be one's own -/
def ncV : DV → Bool
  | .p d => noClo d
  | .o _ => true
def ncO : O → Bool
  | .lst xs => xs.all ncV
  | .dK xs => xs.all fun p => ncV p.2
  | .dT xs => xs.all fun p => ncV p.2
  | .ins _ xs => xs.all fun p => ncV p.2
  | .tbl _ _ => true
  | .clo _ _ => false
  | .gone => true
def ncM (M : List O) : Bool := M.all ncO
def ncF (fs : List (Str × D)) : Bool := fs.all fun p => noClo p.2
section
variable {K : PySem.W.Frag} {Z Z' H H' : Hp} {I I' : List Addr} {M : List O} {cs : Addr → Option Obj}
theorem RepV.keep (e : ∀ b x, Z b = some x → (∀ o, x ≠ cellO o) → Z' b = some x) {v : V} : ∀ {d : DV}, ncV d = true → RepV K Z I v d → RepV K Z' I v d
  | .p _, n, h => Rep.keep e n h
  | .o _, _, h => h
theorem RepO.keep (e : ∀ b x, Z b = some x → (∀ o, x ≠ cellO o) → Z' b = some x) {a : Addr} (ha : H' a = H a) : ∀ {o : O}, ncO o = true → RepO K Z I H a o → RepO K Z' I H' a o
  | .lst _, n, ⟨xs, h, r⟩ => ⟨xs, ha.trans h, paired_all (p := ncV) (fun _ _ q l => RepV.keep e l q) r n⟩
  | .dK _, n, ⟨xs, h, r⟩ => ⟨xs, ha.trans h, paired_all (G := FRel K Z' I) (p := fun p => ncV p.2) (fun a b q l => (⟨q.1, RepV.keep e l q.2⟩ : FRel K Z' I a b)) r n⟩
  | .dT _, n, ⟨xs, h, r⟩ => ⟨xs, ha.trans h, paired_all (G := FRel K Z' I) (p := fun p => ncV p.2) (fun a b q l => (⟨q.1, RepV.keep e l q.2⟩ : FRel K Z' I a b)) r n⟩
  | .ins _ _, n, ⟨dx, xs, h, r⟩ => ⟨dx, xs, ha.trans h, paired_all (G := FRel K Z' I) (p := fun p => ncV p.2) (fun a b q l => (⟨q.1, RepV.keep e l q.2⟩ : FRel K Z' I a b)) r n⟩
  | .tbl _ _, _, ⟨e1, ps, h, t, r⟩ => ⟨e1, ps, ha.trans h, t, fun pos cv hc => by
      obtain ⟨c, h1, h2⟩ := r pos cv hc
      exact ⟨c, h1, e _ _ h2 fun o z => by cases z⟩⟩
  | .gone, _, _ => trivial
theorem keep_without (hz : ∀ b o, cs b = some o → Z b = some (cellO o)) : ∀ b x, Z b = some x → (∀ o, x ≠ cellO o) → without Z cs b = some x := fun b x q n => by
  rw [without_out ?_]
  · exact q
  · cases z : cs b with
    | none => rfl
    | some o =>
      have := hz b o z
      rw [q] at this
      exact absurd (Option.some.inj this) (n o)
theorem wf_without (w : Wf K Z H I M) (nc : ncM M = true) (hz : ∀ b o, cs b = some o → Z b = some (cellO o)) (ni : ∀ a ∈ I, cs a = none) : Wf K (without Z cs) (without H cs) I M where
  sub := fun b x q => by
    cases z : cs b with
    | some o => rw [without_in z] at q; cases q
    | none => rw [without_out z] at q ⊢; exact w.sub b x q
  len := w.len
  nd := w.nd
  tr := fun a m => by rw [without_out (ni a m)]; exact w.tr a m
  ob := fun n a o h1 h2 h3 => by
    obtain ⟨q1, q2⟩ := w.ob n a o h1 h2 h3
    have c := ni a (List.mem_of_getElem? h1)
    exact ⟨q1.imp fun q => by rw [without_out c]; exact q, q2.keep (keep_without hz) (without_out c) (List.all_eq_true.mp nc o (List.mem_of_getElem? h2))⟩
theorem same_withC (s : Same Z H) (hc : ∀ b o, cs b = some o → H b = none) : Same Z (withC Z cs) := fun b x q => by
  cases z : cs b with
  | some o => rw [none_of s (hc b o z)] at q; cases q
  | none => rw [withC_out z]; exact q
theorem no_cell (hc : ∀ b o, cs b = some o → H b = none) {a : Addr} (h : H a ≠ none) : cs a = none := by
  cases z : cs a with
  | none => rfl
  | some o => exact absurd (hc a o z) h
theorem wf_withC (w : Wf K Z H I M) (hc : ∀ b o, cs b = some o → H b = none) : Wf K (withC Z cs) (withC H cs) I M where
  sub := fun b x q => by
    cases z : cs b with
    | some o => rw [withC_in z] at q ⊢; exact q
    | none => rw [withC_out z] at q ⊢; exact w.sub b x q
  len := w.len
  nd := w.nd
  tr := fun a m => by rw [withC_out (no_cell hc (w.tr a m))]; exact w.tr a m
  ob := fun n a o h1 h2 h3 => by
    obtain ⟨q1, q2⟩ := w.ob n a o h1 h2 h3
    have c := no_cell hc (w.tr a (List.mem_of_getElem? h1))
    exact ⟨q1.imp fun q => by rw [withC_out c]; exact q, q2.mono (same_withC w.sub hc) (withC_out c)⟩
theorem ext_with (s : Same Z H) (hc : ∀ b o, cs b = some o → H b = none) (x : Ext (withC Z cs) (withC H cs) I Z' H' I') : Ext Z H I (without Z' cs) (without H' cs) I' where
  z := fun b u q => by
    have c := no_cell hc (a := b) (by rw [s b u q]; simp)
    rw [without_out c]
    exact x.z b u (by rw [withC_out c]; exact q)
  i := x.i
  fr := fun a o h n => by
    have c := no_cell hc (a := a) (by rw [h]; simp)
    rw [without_out c]
    exact x.fr a o (by rw [withC_out c]; exact h) n
  nw := fun a m => (x.nw a m).imp_right fun q => by
    cases z : cs a with
    | some o => exact hc a o z
    | none => rw [withC_out z] at q; exact q
  zn := fun a q => by
    cases z : cs a with
    | some o => exact absurd (without_in z) q
    | none =>
      rw [without_out z] at q
      have := x.zn a q
      unfold Fr at this ⊢
      rw [withC_out z, withC_out z] at this
      exact this
  tr := fun a h => by
    have c := no_cell hc h
    rw [without_out c]
    exact x.tr a (by rw [withC_out c]; exact h)
theorem ext_without (hz : ∀ b o, cs b = some o → Z b = some (cellO o)) (hh : ∀ b o, cs b = some o → H b = some (cellO o)) (hn : ∀ b o, cs b = some o → H' b = none) (tr' : ∀ a ∈ I', H' a ≠ none) (x : Ext (without Z cs) (without H cs) I Z' H' I') : Ext Z H I (withC Z' cs) (withC H' cs) I' where
  z := fun b u q => by
    cases z : cs b with
    | some o => rw [withC_in z, ← hz b o z]; exact q
    | none => rw [withC_out z]; exact x.z b u (by rw [without_out z]; exact q)
  i := x.i
  fr := fun a o h n => by
    cases z : cs a with
    | some o' => rw [withC_in z, ← hh a o' z]; exact h
    | none => rw [withC_out z]; exact x.fr a o (by rw [without_out z]; exact h) n
  nw := fun a m => (x.nw a m).imp_right fun q => by
    rw [without_out (no_cell hn (tr' a m))] at q; exact q
  zn := fun a q => by
    cases z : cs a with
    | some o => exact .inl (by rw [hz a o z]; simp)
    | none =>
      rw [withC_out z] at q
      have := x.zn a q
      unfold Fr at this ⊢
      rw [without_out z, without_out z] at this
      exact this
  tr := fun a h => by
    cases z : cs a with
    | some o => rw [withC_in z]; simp
    | none => rw [withC_out z]; exact x.tr a (by rw [without_out z]; exact h)
theorem Wf.gone (w : Wf K Z H I M) (k : Nat) : Wf K Z H I (M.set k .gone) where
  sub := w.sub
  len := by rw [List.length_set]; exact w.len
  nd := w.nd
  tr := w.tr
  ob := fun n a o h1 h2 h3 => by
    by_cases q : k = n
    · subst q
      have hl : k < M.length := by rw [← w.len]; exact (List.getElem?_eq_some_iff.mp h1).1
      rw [List.getElem?_set_self hl] at h2
      cases h2
      exact absurd rfl h3
    · rw [List.getElem?_set_ne q] at h2
      exact w.ob n a o h1 h2 h3
/-- a closure takes its place -/
theorem Wf.clo (w : Wf K Z H I M) {k : Nat} {a : Addr} {L : LamS} {xs : List DV} (ha : I[k]? = some a) (r : RepO K Z I H a (.clo L xs)) : Wf K Z H I (M.set k (.clo L xs)) where
  sub := w.sub
  len := by rw [List.length_set]; exact w.len
  nd := w.nd
  tr := w.tr
  ob := fun n b o h1 h2 h3 => by
    by_cases q : k = n
    · subst q
      rw [ha] at h1
      cases h1
      have hl : k < M.length := by rw [← w.len]; exact (List.getElem?_eq_some_iff.mp ha).1
      rw [List.getElem?_set_self hl] at h2
      cases h2
      exact ⟨trivial, r⟩
    · rw [List.getElem?_set_ne q] at h2
      exact w.ob n b o h1 h2 h3
theorem ExcAt.with (hz : ∀ b o, cs b = some o → Z b = some (cellO o)) (hh : ∀ b o, cs b = some o → H b = some (cellO o)) {d : Option Addr} {fs : List (Str × D)} (nf : ncF fs = true) (h : ExcAt K Z H d fs) : ExcAt K (without Z cs) (without H cs) d fs := by
  rcases h with h | ⟨a, vs, e, h1, h2⟩
  · exact .inl h
  · refine .inr ⟨a, vs, e, ?_, paired_all (p := fun (p : Str × D) => noClo p.2) (fun a b q l => ⟨q.1, Rep.keep (keep_without hz) l q.2⟩) h2 nf⟩
    rw [without_out ?_]
    · exact h1
    · cases z : cs a with
      | none => rfl
      | some o => have := hh a o z; rw [h1] at this; cases this
theorem ExcAt.without (s : Same Z H) (hn : ∀ b o, cs b = some o → H b = none) {d : Option Addr} {fs : List (Str × D)} (h : ExcAt K Z H d fs) : ExcAt K (withC Z cs) (withC H cs) d fs := by
  rcases h with h | ⟨a, vs, e, h1, h2⟩
  · exact .inl h
  · refine .inr ⟨a, vs, e, ?_, paired_imp (fun a b q => ⟨q.1, Rep.mono (same_withC s hn) q.2⟩) h2⟩
    rw [withC_out (no_cell hn (by rw [h1]; simp))]
    exact h1
end
/-! ### exceptions that come out of a call with cells held still, or let go -/
section
variable {P : Program} {w : World} {H : Hp} {cs : Addr → Option Obj} {outer : List Env} {s s' : Shared} {E : XK} {u : Value}
theorem cx_with (hc : ∀ b o, cs b = some o → H b = none ∧ s.heap.get? b = some o) (c : L2.CX P w outer (withC H cs) s (fun cls d H' => (∀ b o, cs b = some o → H' b = some (cellO o)) → E cls d (without H' cs)) u s') : L2.CX P w outer H s E u s' := by
  obtain ⟨a, B, H', cls, d, rfl, fl, hk, ub, na, os, ag, q⟩ := c
  have st : ∀ b o, cs b = some o → H' b = some (cellO o) := fun b o e => ub.frzs b o _ (withC_in e)
  have sh : ∀ b o, cs b = some o → B.get? b = some o := fun b o e => (hk b _ (st b o e)).1
  refine ⟨a, B, without H' cs, cls, d, rfl, fl, hok_without hk st, ⟨fun b o e n f => ?_, fun b o e f => ub.slot b o e f, fun b o e n => ?_, fun b o e f => ub.there b o e f, fun b xs e => ?_, fun b o x e => ?_, fun b ps e => ?_⟩, ?_, os, ag, q st⟩
  · cases q : cs b with
    | some o' =>
      have := (hc b o' q).2
      rw [e] at this; cases this
      exact sh b o q
    | none => exact ub.keep b o e (by rw [withC_out q]; exact n) f
  · cases q : cs b with
    | some o' => exact without_in q
    | none => rw [without_out q]; exact ub.free b o e (by rw [withC_out q]; exact n)
  · cases q : cs b with
    | some o' => rw [(hc b o' q).1] at e; cases e
    | none => rw [without_out q]; exact ub.tups b xs (by rw [withC_out q]; exact e)
  · cases q : cs b with
    | some o' => rw [(hc b o' q).1] at e; cases e
    | none => rw [without_out q]; exact ub.frzs b o x (by rw [withC_out q]; exact e)
  · cases q : cs b with
    | some o' => rw [(hc b o' q).1] at e; cases e
    | none => rw [without_out q]; exact ub.tbls b ps (by rw [withC_out q]; exact e)
  · cases q : cs a with
    | some o => exact without_in q
    | none => rw [without_out q]; exact na
theorem cx_without (hk0 : HOk P w H s.heap) (hf : ∀ b ∈ frs outer, H b = none) (hc : ∀ b o, cs b = some o → H b = some (cellO o)) (c : L2.CX P w outer (without H cs) s (fun cls d H' => (∀ b o, cs b = some o → H' b = none) → E cls d (withC H' cs)) u s') : L2.CX P w outer H s E u s' := by
  obtain ⟨a, B, H', cls, d, rfl, fl, hk, ub, na, os, ag, q⟩ := c
  have s0 : ∀ b o, cs b = some o → s.heap.get? b = some o := fun b o e => (hk0 b _ (hc b o e)).1
  have nf : ∀ b o, cs b = some o → ¬ b ∈ frs outer := fun b o e z => by have := hc b o e; rw [hf b z] at this; cases this
  have sh : ∀ b o, cs b = some o → H' b = none ∧ B.get? b = some o := fun b o e => ⟨ub.free b o (s0 b o e) (without_in e), ub.keep b o (s0 b o e) (without_in e) (nf b o e)⟩
  refine ⟨a, B, withC H' cs, cls, d, rfl, fl, hok_withC hk sh, ⟨fun b o e n f => ?_, fun b o e f => ub.slot b o e f, fun b o e n => ?_, fun b o e f => ub.there b o e f, fun b xs e => ?_, fun b o x e => ?_, fun b ps e => ?_⟩, ?_, os, ag, q fun b o e => (sh b o e).1⟩
  · cases q : cs b with
    | some o' => rw [hc b o' q] at n; cases n
    | none => exact ub.keep b o e (by rw [without_out q]; exact n) f
  · cases q : cs b with
    | some o' => rw [hc b o' q] at n; cases n
    | none => rw [withC_out q]; exact ub.free b o e (by rw [without_out q]; exact n)
  · cases q : cs b with
    | some o' => rw [hc b o' q] at e; cases e
    | none => rw [withC_out q]; exact ub.tups b xs (by rw [without_out q]; exact e)
  · cases q : cs b with
    | some o' =>
      rw [hc b o' q] at e
      cases e
      exact withC_in q
    | none => rw [withC_out q]; exact ub.frzs b o x (by rw [without_out q]; exact e)
  · cases q : cs b with
    | some o' => rw [hc b o' q] at e; cases e
    | none => rw [withC_out q]; exact ub.tbls b ps (by rw [without_out q]; exact e)
  · cases q : cs a with
    | some o =>
      have := fl.2.1
      rw [(sh a o q).2] at this
      cases this
    | none => rw [withC_out q]; exact na
end
end DL
namespace DL
open PySem PySem.Spec PyProof.Rows L2 LamX NdefX
/-! ### the promise of a lambda whose captures may be one's own, and that may raise -/
abbrev MBc := List DV → List O → Option (Rs DV)
def PostCB (K : PySem.W.Frag) (Z H : Hp) (I : List Addr) (g : List O → List O) (Q : VK) (E : XK) : Rs DV → Prop
  | .ok dv M' => ∀ v Z' H' I', Wf K Z' H' I' (g M') → Ext Z H I Z' H' I' → RepV K Z' I' v dv → Q v H'
  | .ex c fs M' => ∀ d Z' H' I', Wf K Z' H' I' (g M') → Ext Z H I Z' H' I' → ExcAt K Z' H' d fs → (∀ a, d = some a → H a = none ∧ a ∉ I') → E (.ref c) d H'
def spWB (K : PySem.W.Frag) (n : Nat) (m : MBc) (ws : List (Option V)) : Sp := fun vs H Q E => vs.length = n ∧ ∃ Z I M ds cvs cs r, Wf K Z H I M ∧ RepVs K Z I vs ds ∧ ws = cvs.map some ∧ RepVs K Z I cvs cs ∧ m (ds ++ cs) M = some r ∧ PostCB K Z H I (fun M => M) Q E r
def lamKB (n : Nat) (em : EM) : MBc := fun ds M => em ⟨slotsOf n ds, M⟩
section
variable {P : Program} {w : World} {K : PySem.W.Frag} {mg : Str → Option Value} {base : Heap} {N ps fr : List Str} {F : NF} {f : Addr} {k : Nat} {body : Expr} {em : EM}
theorem lamCB (S : NScope N ps fr F.scope) (hb : ∀ (pm ctv : Value) (us : List Value), us.length = ps.length → bindArgs (PySem.W.kla_fn F.name F.qual F.params body F.scope F.cl pm (.ref F.c) ctv) ⟨us, []⟩ = pure (ps.zip us))
    (hbody : ∀ (A : Around) (outer : List Env) (s : Shared) (H : Hp) (E : XK), Room k (A.deeper (envF F f s.heap.objs.size)) → ∃ t, DE K (ncx (L2.CX P w) P w K mg base N F f A outer s H E) (WE0 E) body t em) :
    LOk P w K mg base (L2.CX P w) (k + 1) f F body ps fr (fun ws => spWB K ps.length (lamKB N.length em) ws) := by
  refine lok_of S hb (fun ws vs H Q E h => h.1) fun A outer s H vs ws Q E hr hl hsp => ?_
  obtain ⟨hl2, Z, I, M, ds, cvs, cs, r, w0, rp, rfl, rc, e, q⟩ := hsp
  obtain ⟨t, b⟩ := hbody A outer s H E hr
  refine ⟨t, b.pe, ?_⟩
  have es : startF N vs (cvs.map some) = L2.start N (vs ++ cvs) := by
    unfold startF L2.start
    simp [List.append_assoc, Nat.sub_sub]
  rw [es]
  refine b.so.ok (L2.start N (vs ++ cvs)) H ⟨slotsOf N.length (ds ++ cs), M⟩ Z I _ _ w0 (start_rep (paired_app rp rc)) e ?_
  cases r with
  | ok d M' => exact q
  | ex c fs M' => exact q
end
def CloOkB (P : Program) (w : World) (K : PySem.W.Frag) (mg : Str → Option Value) (base : Heap) (k n : Nat) (L : LamS) (m : MBc) : Prop :=
  ∃ ps : List Str, ps.length = n ∧ ∀ a c cl, LOk P w K mg base (L2.CX P w) k a (L.nf cl c) L.body ps L.fr (fun ws => spWB K n m ws)
theorem CloOkB.mono {P : Program} {w : World} {K : PySem.W.Frag} {mg : Str → Option Value} {base : Heap} {k k' n : Nat} {L : LamS} {m : MBc} (h : CloOkB P w K mg base k n L m) (e : k ≤ k') : CloOkB P w K mg base k' n L m := by
  obtain ⟨ps, hp, F⟩ := h
  exact ⟨ps, hp, fun a c cl => ⟨(F a c cl).len, fun A outer s H us vs ws Q E hr => (F a c cl).run A outer s H us vs ws Q E (hr.mono e)⟩⟩
/-- what comes out holds no closure -/
def ncR (g : List O → List O) : Rs DV → Bool
  | .ok d M => ncV d && ncM (g M)
  | .ex _ fs M => ncF fs && ncM (g M)
open Classical in
/-- the cells of a closure, as Z knows them -/
noncomputable def cellsZ (Z : Hp) (cl : List (Str × Addr)) : Addr → Option Obj := fun b => if ∃ y, cl.lookup y = some b then (match Z b with
  | some (.frz o (.own 0)) => some o
  | _ => none) else none
theorem cellsZ_z {Z : Hp} {cl : List (Str × Addr)} {b : Addr} {o : Obj} (h : cellsZ Z cl b = some o) : Z b = some (cellO o) := by
  unfold cellsZ at h
  split at h
  · split at h
    · rename_i e
      cases h
      exact e
    · cases h
  · cases h
theorem cellsZ_in {Z : Hp} {cl : List (Str × Addr)} {b : Addr} {o : Obj} (h : cellsZ Z cl b = some o) : ∃ y, cl.lookup y = some b := by
  unfold cellsZ at h
  split at h
  · rename_i e; exact e
  · cases h
theorem cellsZ_of {Z : Hp} {cl : List (Str × Addr)} {y : Str} {b : Addr} {o : Obj} (h : cl.lookup y = some b) (e : Z b = some (cellO o)) : cellsZ Z cl b = some o := by
  unfold cellsZ
  rw [if_pos ⟨y, h⟩, e]
  rfl
section
variable {X : Cx} {pins : List (Addr × Obj)} {σ : L2.St} {H : Hp} {s : Shared} {W : WX}
/-- a closure is called: its cells are let go meanwhile -/
theorem run_cloB {k n j : Nat} {L : LamS} {m : MBc} {a c : Addr} {cl : List (Str × Addr)} {cvs vs : List V} {us : List Value} {ds cs : List DV} {r : Rs DV} {Z : Hp} {I0 : List Addr} {M : List O} {Q : VK} (F : CloOkB X.prog X.w X.K X.mg X.base k n L m) (hr : Room k X.A) (tk : Takes X W) (I : L2.Inv X pins σ H s)
    (C : CloAt Z L a c cl cvs) (w : Wf X.K Z H I0 M) (nc : ncM M = true) (hj : I0[j]? = some a) (rv : Vals vs us) (hn : vs.length = n) (rd : RepVs X.K Z I0 vs ds) (nd : ds.all ncV = true) (rc : RepVs X.K Z I0 cvs cs) (ncs : cs.all ncV = true) (nl : ∀ (y : Str) (b : Addr), cl.lookup y = some b → b ∉ I0) (e : m (ds ++ cs) M = some r) (nr : ncR (fun M => M) r = true)
    (p : PostCB X.K Z H I0 (fun M => M.set j (.clo L cs)) Q (WE W σ) r) :
    wpAny (model X.prog X.w) X.A (call (.ref a) us) (EP X pins σ Q) X.xe s := by
  obtain ⟨ps, hps, F⟩ := F
  have E0 := I.env0
  have ni : ∀ a ∈ I0, cellsZ Z cl a = none := fun b hb => by
    cases z : cellsZ Z cl b with
    | none => rfl
    | some o =>
      obtain ⟨y, hy⟩ := cellsZ_in z
      exact absurd hb (nl y b hy)
  have hZ : ∀ b o, cellsZ Z cl b = some o → Z b = some (cellO o) := fun b o q => cellsZ_z q
  have hz : ∀ b o, cellsZ Z cl b = some o → H b = some (cellO o) := fun b o q => w.sub b _ (cellsZ_z q)
  have hkh : ∀ b x, H b = some x → (∀ o, x ≠ cellO o) → without H (cellsZ Z cl) b = some x := keep_without hz
  have e0 : Env0 X.prog X.w X.K X.mg X.base X.A X.stack s (without H (cellsZ Z cl)) := ⟨E0.frames, E0.mod, fun b o q => ⟨(E0.bs b o q).1, by
      cases z : cellsZ Z cl b with
      | some o' => exact without_in z
      | none => rw [without_out z]; exact (E0.bs b o q).2⟩, E0.bsz, E0.funs, fun b q => by
      cases z : cellsZ Z cl b with
      | some o' => exact without_in z
      | none => rw [without_out z]; exact E0.frf b q, hok_without E0.hok hz, E0.bare⟩
  have hf : without H (cellsZ Z cl) a = some (LamO a (L.nf cl c) L.body) := hkh a _ (w.sub _ _ C.fn) fun o z => by cases z
  have hc : without H (cellsZ Z cl) c = some (CodeO c L.nm) := hkh c _ (w.sub _ _ C.code) fun o z => by cases z
  have CA : CellsAt cl L.fr (cvs.map some) s.heap (without H (cellsZ Z cl)) := ⟨by rw [List.length_map]; exact C.len, fun y b q => by
      obtain ⟨o, v, h1, h2⟩ := C.all y b q
      have z := cellsZ_of q h1
      exact ⟨without_in z, v, o, (E0.hok b _ (w.sub _ _ h1)).1, h2⟩, C.inj, fun i y q => by
      obtain ⟨b, o, v, u, h1, h2, h3, h4, h5⟩ := C.has i y q
      refine ⟨b, h1, fun v' hv => ?_⟩
      rw [List.getElem?_map, h4] at hv
      cases hv
      exact ⟨u, h5, o, (E0.hok b _ (w.sub _ _ h2)).1, h3⟩⟩
  have wi := wf_without w nc hZ ni
  have rdi : RepVs X.K (without Z (cellsZ Z cl)) I0 vs ds := paired_all (p := ncV) (fun _ _ q l => RepV.keep (keep_without hZ) l q) rd nd
  have rci : RepVs X.K (without Z (cellsZ Z cl)) I0 cvs cs := paired_all (p := ncV) (fun _ _ q l => RepV.keep (keep_without hZ) l q) rc ncs
  have back : ∀ {Z' H' I' M'}, Wf X.K Z' H' I' M' → Ext (without Z (cellsZ Z cl)) (without H (cellsZ Z cl)) I0 Z' H' I' → (∀ b o, cellsZ Z cl b = some o → H' b = none) → Wf X.K (withC Z' (cellsZ Z cl)) (withC H' (cellsZ Z cl)) I' (M'.set j (.clo L cs)) ∧ Ext Z H I0 (withC Z' (cellsZ Z cl)) (withC H' (cellsZ Z cl)) I' := by
    intro Z' H' I' M' w' x' hH
    have x2 := ext_without hZ hz hH w'.tr x'
    refine ⟨(wf_withC w' hH).clo ?_ ⟨c, cl, cvs, C.mono x2.z, fun y b q m => ?_, paired_imp (fun _ _ q => q.mono x2) rc⟩, x2⟩
    · obtain ⟨t, rfl⟩ := x'.i
      rw [List.getElem?_append_left (List.getElem?_eq_some_iff.mp hj).1]; exact hj
    · obtain ⟨o, v, h1, _⟩ := C.all y b q
      exact w'.tr b m (hH b o (cellsZ_of q h1))
  refine wpAny_call (codeAny_mono ((F a c cl).run X.A X.stack s (without H (cellsZ Z cl)) us vs (cvs.map some) (fun v H' => (∀ b o, cellsZ Z cl b = some o → H' b = none) → Q v (withC H' (cellsZ Z cl))) (fun cls d H' => (∀ b o, cellsZ Z cl b = some o → H' b = none) → WE W σ cls d (withC H' (cellsZ Z cl))) hr e0 hf hc CA rv ?_) fun rr s' hq => ?_)
  · refine ⟨hn, without Z (cellsZ Z cl), I0, M, ds, cvs, cs, r, wi, rdi, rfl, rci, e, ?_⟩
    cases r with
    | ok d M' =>
      intro v Z' H' I' w' x' r' hH
      obtain ⟨w2, x2⟩ := back w' x' hH
      exact p v _ _ I' w2 x2 (RepV.mono' (same_withC w'.sub hH) r')
    | ex cc fs M' =>
      intro d Z' H' I' w' x' ea na hH
      obtain ⟨w2, x2⟩ := back w' x' hH
      refine p d _ _ I' w2 x2 (ea.without w'.sub hH) fun b hb => ⟨?_, (na b hb).2⟩
      cases z : cellsZ Z cl b with
      | none => have := (na b hb).1; rw [without_out z] at this; exact this
      | some o =>
        rcases ea with ⟨h, _⟩ | ⟨b', vs', h, h1, _⟩
        · rw [hb] at h; cases h
        · rw [hb] at h; cases h
          rw [hH b o z] at h1; cases h1
  · cases rr with
    | error e' => exact tk e' s' (XE.of_call I (fun _ _ _ h => h) (cx_without (E := WE W σ) E0.hok E0.frf hz hq))
    | ok fl =>
      cases fl with
      | ret u => exact I.after (ce_without E0.hok E0.frf hz hq)
      | _ => exact hq.elim
/-- a def is called with a closure that was made for the call -/
theorem run_fnLB {k n : Nat} {f : Addr} {fd : FuncData} {ps : List Str} {m : MBc} {L : LamS} {a c : Addr} {cl : List (Str × Addr)} {cvs : List V} {vs : List V} {us : List Value} {ds cs : List DV} {r : Rs DV} {Z : Hp} {I0 : List Addr} {M : List O} {Q : VK} (F : FnOk X.prog X.w X.K X.mg X.base (L2.CX X.prog X.w) k f fd ps (spB X.K n m)) (hr : Room k X.A) (tk : Takes X W) (hb : Binds X.K fd ps [])
    (hfn : ∀ x, X.fn x = true) (hcl : ∀ y b, cl.lookup y = some b → X.env.cells.lookup y = some b) (I : L2.Inv X pins σ H s) (CA : CellsAt cl L.fr (cvs.map some) s.heap H) (w : Wf X.K Z H (I0 ++ [a]) (M ++ [.gone])) (hf : Z a = some (LamO a (L.nf cl c) L.body)) (hc : Z c = some (CodeO c L.nm))
    (rv : Vals vs us) (hn : vs.length + 1 = n) (rd : RepVs X.K Z (I0 ++ [a]) vs ds) (rc : RepVs X.K Z (I0 ++ [a]) cvs cs) (e : m (ds ++ [.o M.length]) (M ++ [.clo L cs]) = some r) (nr : ncR (fun M' => M'.set M.length .gone) r = true) (p : PostCB X.K Z H (I0 ++ [a]) (fun M' => M'.set M.length .gone) Q (WE W σ) r) :
    wpAny (model X.prog X.w) X.A (call (.ref f) (us ++ [.ref a])) (EP X pins σ Q) X.xe s := by
  have E0 := I.env0
  have hl0 : I0.length = M.length := by have := w.len; simpa using this
  have hz : ∀ b o, cellsH s.heap cl b = some o → H b = none ∧ s.heap.get? b = some o := fun b o q => by
    obtain ⟨⟨y, h1⟩, h2⟩ := cellsH_in q
    exact ⟨(CA.all y b h1).1, h2⟩
  have hz1 : ∀ b o, cellsH s.heap cl b = some o → H b = none := fun b o q => (hz b o q).1
  have hcell : ∀ b o, cellsH s.heap cl b = some o → ∃ v, o.data = .cell v := fun b o q => by
    obtain ⟨⟨y, h1⟩, h2⟩ := cellsH_in q
    obtain ⟨_, v, o', h3, h4⟩ := CA.all y b h1
    rw [h2] at h3
    cases h3
    exact ⟨v, h4⟩
  have hge : ∀ b o, cellsH s.heap cl b = some o → X.s_0.heap.objs.size ≤ b := fun b o q => by
    obtain ⟨⟨y, h1⟩, h2⟩ := cellsH_in q
    exact I.ok.cab y b (hfn y) (hcl y b h1)
  have hfr : ∀ b ∈ frs X.stack, cellsH s.heap cl b = none := fun b q => by
    cases z : cellsH s.heap cl b with
    | none => rfl
    | some o =>
      exfalso
      have out : ∀ b' ∈ frs X.outer, b' = b → False := fun b' q' e' => by
        obtain ⟨o', ho⟩ := funs_at I.ok.funs b' q'
        have h1 := Heap.lt_size ho
        have h2 := hge b o z
        rw [e'] at h1
        exact absurd h1 (Nat.not_lt.mpr h2)
      rcases I.ok.stk with q1 | ⟨q1, q2⟩
      · rw [q1] at q; exact out b q rfl
      · rw [q1] at q
        simp only [frs, List.filterMap_cons, q2] at q
        rcases List.mem_cons.mp q with q | q
        · obtain ⟨mm, ⟨o1, es, ep, g1, g2, _⟩, _⟩ := I.loc
          rw [← q, (hz b o z).2] at g1
          cases g1
          obtain ⟨v, g3⟩ := hcell b o z
          rw [g3] at g2
          cases g2
        · exact out b q rfl
  have e0 : Env0 X.prog X.w X.K X.mg X.base X.A X.stack s (withC H (cellsH s.heap cl)) := ⟨E0.frames, E0.mod, fun b o q => ⟨(E0.bs b o q).1, by
      cases z : cellsH s.heap cl b with
      | some o' =>
        have h1 := Heap.lt_size q
        have h2 := hge b o' z
        have h3 := I.ok.bsz
        exact absurd h1 (Nat.not_lt.mpr (Nat.le_trans h3 h2))
      | none => rw [withC_out z]; exact (E0.bs b o q).2⟩, E0.bsz, E0.funs, fun b q => by
      rw [withC_out (hfr b q)]; exact E0.frf b q, hok_withC E0.hok hz, E0.bare⟩
  have sZ : Same Z (withC Z (cellsH s.heap cl)) := same_withC w.sub hz1
  have C : CloAt (withC Z (cellsH s.heap cl)) L a c cl cvs := ⟨sZ _ _ hf, sZ _ _ hc, fun y b q => by
      obtain ⟨_, v, o, h3, h4⟩ := CA.all y b q
      exact ⟨o, v, withC_in (by rw [cellsH_of q]; exact h3), h4⟩, CA.inj, by have := CA.len; rw [List.length_map] at this; exact this, fun i y q => by
      obtain ⟨b, h1, h2⟩ := CA.has i y q
      have hi : i < cvs.length := by
        have := CA.len
        rw [List.length_map] at this
        rw [this]
        exact (List.getElem?_eq_some_iff.mp q).1
      have hv : cvs[i]? = some cvs[i] := List.getElem?_eq_getElem hi
      obtain ⟨u, h3, o, h4, h5⟩ := h2 cvs[i] (by rw [List.getElem?_map, hv]; rfl)
      exact ⟨b, o, cvs[i], u, h1, withC_in (by rw [cellsH_of h1]; exact h4), h5, hv, h3⟩⟩
  have ha : (I0 ++ [a])[M.length]? = some a := by rw [← hl0, List.getElem?_append_right (Nat.le_refl _), Nat.sub_self]; rfl
  have hset : (M ++ [O.gone]).set M.length (.clo L cs) = M ++ [.clo L cs] := by simp
  have wi : Wf X.K (withC Z (cellsH s.heap cl)) (withC H (cellsH s.heap cl)) (I0 ++ [a]) (M ++ [.clo L cs]) := by
    have := (wf_withC w hz1).clo (k := M.length) (L := L) (xs := cs) ha ⟨c, cl, cvs, C, fun y b q m => w.tr b m (CA.all y b q).1, paired_imp (fun _ _ q => RepV.mono' sZ q) rc⟩
    rw [hset] at this
    exact this
  have rdi : RepVs X.K (withC Z (cellsH s.heap cl)) (I0 ++ [a]) (vs ++ [.ref a]) (ds ++ [.o M.length]) := paired_app (paired_imp (fun _ _ q => RepV.mono' sZ q) rd) (.cons ⟨a, ha, rfl⟩ .nil)
  have r2 : Vals (vs ++ [.ref a]) (us ++ [.ref a]) := vals_app rv (.cons rfl .nil)
  have hvl : (vs ++ [V.ref a]).length = n := by rw [List.length_append]; exact hn
  have back : ∀ {Z' H' I' M'}, Wf X.K Z' H' I' M' → Ext (withC Z (cellsH s.heap cl)) (withC H (cellsH s.heap cl)) (I0 ++ [a]) Z' H' I' → ncM (M'.set M.length .gone) = true → (∀ b o, cellsH s.heap cl b = some o → H' b = some (cellO o)) →
      (∀ b o, cellsH s.heap cl b = some o → Z' b = some (cellO o)) ∧ Wf X.K (without Z' (cellsH s.heap cl)) (without H' (cellsH s.heap cl)) I' (M'.set M.length .gone) ∧ Ext Z H (I0 ++ [a]) (without Z' (cellsH s.heap cl)) (without H' (cellsH s.heap cl)) I' := by
    intro Z' H' I' M' w' x' nn hH
    have hZ' : ∀ b o, cellsH s.heap cl b = some o → Z' b = some (cellO o) := fun b o q => x'.z b _ (withC_in q)
    refine ⟨hZ', wf_without (w'.gone _) nn hZ' fun b hb => ?_, ext_with w.sub hz1 x'⟩
    cases z : cellsH s.heap cl b with
    | none => rfl
    | some o =>
      rcases x'.nw b hb with q | q
      · exact absurd (hz1 b o z) (w.tr b q)
      · rw [withC_in z] at q; cases q
  have hpl : (vs ++ [V.ref a]).length = ps.length := F.len _ (withC H (cellsH s.heap cl)) (fun _ _ => True) (fun _ _ _ => True) ⟨hvl, _, _, _, _, r, wi, rdi, e, by cases r with
    | ok _ _ => exact fun _ _ _ _ _ _ _ => trivial
    | ex _ _ _ => exact fun _ _ _ _ _ _ _ _ => trivial⟩
  have b := hb s (us ++ [.ref a]) I.kIn (by rw [List.append_nil, ← r2.length]; exact hpl)
  rw [List.append_nil] at b
  refine wpAny_call (codeAny_mono (F.run X.A X.stack s (withC H (cellsH s.heap cl)) ⟨us ++ [.ref a], []⟩ (us ++ [.ref a]) (vs ++ [.ref a]) (fun v H' => (∀ b o, cellsH s.heap cl b = some o → H' b = some (cellO o)) → Q v (without H' (cellsH s.heap cl))) (fun cls d H' => (∀ b o, cellsH s.heap cl b = some o → H' b = some (cellO o)) → WE W σ cls d (without H' (cellsH s.heap cl))) hr e0 b r2 ?_) fun rr s' hq => ?_)
  · refine ⟨hvl, _, _, _, _, r, wi, rdi, e, ?_⟩
    cases r with
    | ok d M' =>
      have nr : (ncV d && ncM (M'.set M.length .gone)) = true := nr
      rw [Bool.and_eq_true] at nr
      intro v Z' H' I' w' x' r' hH
      obtain ⟨hZ', w2, x2⟩ := back w' x' nr.2 hH
      exact p v _ _ I' w2 x2 (RepV.keep (keep_without hZ') nr.1 r')
    | ex cc fs M' =>
      have nr : (ncF fs && ncM (M'.set M.length .gone)) = true := nr
      rw [Bool.and_eq_true] at nr
      intro d Z' H' I' w' x' ea na hH
      obtain ⟨hZ', w2, x2⟩ := back w' x' nr.2 hH
      refine p d _ _ I' w2 x2 (ea.with hZ' hH nr.1) fun b hb => ⟨?_, (na b hb).2⟩
      cases z : cellsH s.heap cl b with
      | none => have := (na b hb).1; rw [withC_out z] at this; exact this
      | some o => exact hz1 b o z
  · cases rr with
    | error e' => exact tk e' s' (XE.of_call I (fun _ _ _ h => h) (cx_with (E := WE W σ) hz hq))
    | ok fl =>
      cases fl with
      | ret u => exact I.after (ce_with hz hq)
      | _ => exact hq.elim
end
end DL
namespace DL
open PySem PySem.Spec PyProof.Rows L2 LamX NdefX
/-! ### the call of a local that holds a closure -/
open Classical in
noncomputable def tbo : List (LamS × MBc) → LamS → Option MBc
  | [], _ => none
  | (L0, m) :: r, L => if L0.ix = L.ix then (if L0 = L then some m else none) else tbo r L
theorem tbo_cases {L0 L : LamS} {m0 m : MBc} {r : List (LamS × MBc)} (h : tbo ((L0, m0) :: r) L = some m) : (L = L0 ∧ m = m0) ∨ tbo r L = some m := by
  unfold tbo at h
  split at h
  · split at h
    · rename_i e
      cases h
      exact .inl ⟨e.symm, rfl⟩
    · cases h
  · exact .inr h
theorem tbo_nil {L : LamS} {m : MBc} (h : tbo [] L = some m) : False := by cases h
@[simp] theorem tbo_hit (L : LamS) (m : MBc) (r : List (LamS × MBc)) : tbo ((L, m) :: r) L = some m := by
  unfold tbo
  rw [if_pos rfl, if_pos rfl]
def setRs (g : List O → List O) : Rs DV → Rs DV
  | .ok d M => .ok d (g M)
  | .ex c fs M => .ex c fs (g M)
def cloB (m : MBc) (L : LamS) (cs : List DV) (k n : Nat) : List DV → Mi DV := fun ds s => if ds.length = n then (if (ds.all ncV && cs.all ncV && ncM (s.m.set k .gone)) = true then match m (ds ++ cs) (s.m.set k .gone) with
    | some r => if ncR (fun M => M) r = true then some (setRs (fun M => M.set k (.clo L cs)) r) else none
    | none => none
  else none) else none
def cloAtM : Option O → Option (LamS × List DV)
  | some (.clo L cs) => some (L, cs)
  | _ => none
noncomputable def callO (k n : Nat) (tb : List (LamS × MBc)) : List DV → Mi DV := fun ds s => match cloAtM s.m[k]? with
  | some (L, cs) => match tbo tb L with
    | some m => cloB m L cs k n ds s
    | none => none
  | none => none
noncomputable def mCallO (i n : Nat) (tb : List (LamS × MBc)) (ms : AM) : EM := fun s => match gv s.l i with
  | some (.o k) => if (cloAtM s.m[k]?).isSome = true then bnd ms (callO k n tb) s else none
  | _ => none
def spCO (K : PySem.W.Frag) (n : Nat) (tb : List (LamS × MBc)) (a : Addr) : List V → Hp → VK → XK → Prop := fun vs H Q E => ∃ L m c cl cvs ds cs r Z I0 M j, tbo tb L = some m ∧ CloAt Z L a c cl cvs ∧ Wf K Z H I0 M ∧ ncM M = true ∧ I0[j]? = some a ∧ vs.length = n ∧ RepVs K Z I0 vs ds ∧ ds.all ncV = true ∧ RepVs K Z I0 cvs cs ∧ cs.all ncV = true ∧
  (∀ (y : Str) (b : Addr), cl.lookup y = some b → b ∉ I0) ∧ m (ds ++ cs) M = some r ∧ ncR (fun M => M) r = true ∧ PostCB K Z H I0 (fun M => M.set j (.clo L cs)) Q E r
def tCallO (K : PySem.W.Frag) (W : WX) (i n : Nat) (tb : List (LamS × MBc)) (t : TA) : TE := fun σ H Q => ∃ a, σ[i]? = some (some (.ref a)) ∧ (∃ F b, H a = some (LamO a F b)) ∧ t σ H fun vs H2 => (∃ F b, H2 a = some (LamO a F b)) ∧ spCO K n tb a vs H2 Q (WE W σ)
theorem cloAtM_some {o : Option O} {L : LamS} {cs : List DV} (h : cloAtM o = some (L, cs)) : o = some (.clo L cs) := by
  unfold cloAtM at h
  split at h
  · cases h; rfl
  · cases h
section
variable {K : PySem.W.Frag} {X : Cx} {W : WX} {e : Expr} {es : List Expr} {pos p : Pos} {x : Str} {i n k : Nat} {tb : List (LamS × MBc)} {t : TA} {ms : AM}
theorem pe_callO (A : ∀ L m, tbo tb L = some m → CloOkB X.prog X.w X.K X.mg X.base k n L m) (hr : Room k X.A) (tk : Takes X W) (hN : X.N[i]? = some x) (hv : Vis X.env.scope x) (ha : PA X (e :: es) t)
    (hdb : (x == ("__debug__" : Str)) = false := by decide) (hcd : (x == ("__classdict__" : Str)) = false := by decide)
    (he : starEach (e :: es) X.env = (false, eval e X.env) :: starEach es X.env := by rfl) (hpl : (backTo pos (starEach es X.env)).any (·.1) = false := by rfl) : PE X (.Call (.Name x p) (e :: es) [] pos) (tCallO X.K W i n tb t) := by
  refine ⟨fun pins s σ H Q I h => ?_⟩
  obtain ⟨f, hs, hf, ht⟩ := h
  refine wpAny_Call_Name_kw (thn ((pe_var (pos := p) hN hv hdb hcd).run pins s σ H (fun v H1 => v = .ref f ∧ H1 = H) I ⟨.ref f, hs, rfl, rfl⟩) fun u s1 ⟨v, H1, I1, r1, q1⟩ => ?_)
  obtain ⟨rfl, rfl⟩ := q1
  cases r1
  refine PySem.W.callWith_F (lam_fnAt I1.hok hf) (thn (ha.run pos pins s1 σ _ _ I1 ht) fun us s2 ⟨vs, H2, I2, r, q⟩ => ?_) he hpl
  obtain ⟨q1, L, m, c, cl, cvs, ds, cs, rr, Z, I0, M, j, h1, h2, h3, h4, h5, h6, h7, h8, h9, h10, h11, h12, h13, h14⟩ := q
  exact ⟨lam_fnAt I2.hok q1, run_cloB (A L m h1) hr tk I2 h2 h3 h4 h5 r h6 h7 h8 h9 h10 h11 h12 h13 h14⟩
theorem clo_at {Z H : Hp} {I : List Addr} {M : List O} {k : Nat} {a : Addr} {L : LamS} {cs : List DV} (w : Wf K Z H I M) (hi : I[k]? = some a) (hm : cloAtM M[k]? = some (L, cs)) : ∃ c cl cvs, CloAt Z L a c cl cvs ∧ (∀ (y : Str) (b : Addr), cl.lookup y = some b → b ∉ I) ∧ RepVs K Z I cvs cs :=
  (w.ob k a _ hi (cloAtM_some hm) (by intro z; cases z)).2
theorem so_callO (ha : Sound K W (RepVs K) t ms) : Sound K W (RepV K) (tCallO K W i n tb t) (mCallO i n tb ms) := ⟨fun σ H s Z I r0 Q w rs e p => by
  unfold mCallO at e
  cases hg : gv s.l i with
  | none => rw [hg] at e; cases e
  | some dv =>
    rw [hg] at e
    cases dv with
    | p d => cases e
    | o k =>
      dsimp only at e
      obtain ⟨v, hv, rv⟩ := rs.at_ i _ (gv_some hg)
      obtain ⟨a, hi, rfl⟩ := rv
      split at e
      · rename_i hsome
        obtain ⟨⟨L0, cs0⟩, hc0⟩ := Option.isSome_iff_exists.mp hsome
        obtain ⟨c0, cl0, cvs0, C0, _, _⟩ := clo_at w hi hc0
        refine ⟨a, hv, ⟨_, _, w.sub _ _ C0.fn⟩, ha.bnd w rs e (p.x) fun ds vs M1 Z1 H1 I1 w1 rs1 x1 q1 e1 => ?_⟩
        have p1 := p.mono x1
        refine ⟨⟨_, _, w1.sub _ _ (C0.mono x1.z).fn⟩, ?_⟩
        have hi1 : I1[k]? = some a := by
          obtain ⟨t', rfl⟩ := x1.i
          rw [List.getElem?_append_left (List.getElem?_eq_some_iff.mp hi).1]; exact hi
        unfold callO at e1
        dsimp only at e1
        cases hc : cloAtM M1[k]? with
        | none => rw [hc] at e1; cases e1
        | some Lc =>
          obtain ⟨L, cs⟩ := Lc
          rw [hc] at e1
          dsimp only at e1
          cases hl : tbo tb L with
          | none => rw [hl] at e1; cases e1
          | some m =>
            rw [hl] at e1
            dsimp only at e1
            unfold cloB at e1
            split at e1
            · rename_i hlen
              split at e1
              · rename_i hnc
                simp only [Bool.and_eq_true] at hnc
                dsimp only at e1
                cases hm : m (ds ++ cs) (M1.set k .gone) with
                | none => rw [hm] at e1; cases e1
                | some r =>
                  rw [hm] at e1
                  dsimp only at e1
                  split at e1
                  · rename_i hnr
                    cases e1
                    obtain ⟨c, cl, cvs, C, nl, rc⟩ := clo_at w1 hi1 hc
                    refine ⟨L, m, c, cl, cvs, ds, cs, r, Z1, I1, M1.set k .gone, k, hl, C, w1.gone k, hnc.2, hi1, by rw [paired_len q1]; exact hlen, q1, hnc.1.1, rc, hnc.1.2, nl, hm, hnr, ?_⟩
                    cases r with
                    | ok d M' => exact p1
                    | ex cc fs M' => exact p1
                  · cases e1
              · cases e1
            · cases e1
      · cases e⟩
theorem de_callO (A : ∀ L m, tbo tb L = some m → CloOkB X.prog X.w K X.mg X.base k n L m) (hr : Room k X.A) (tk : Takes X W) (ha : DA K X W (e :: es) t ms) (hN : X.N[i]? = some x := by rfl) (hv : Vis X.env.scope x := by first | exact Or.inl rfl | exact Or.inr (Or.inl rfl) | exact Or.inr (Or.inr rfl))
    (hdb : (x == ("__debug__" : Str)) = false := by decide) (hcd : (x == ("__classdict__" : Str)) = false := by decide)
    (he : starEach (e :: es) X.env = (false, eval e X.env) :: starEach es X.env := by rfl) (hpl : (backTo pos (starEach es X.env)).any (·.1) = false := by rfl) :
    DE K X W (.Call (.Name x p) (e :: es) [] pos) (tCallO K W i n tb t) (mCallO i n tb ms) := by
  have k := ha.k
  subst k
  exact ⟨rfl, pe_callO A hr tk hN hv ha.pa hdb hcd he hpl, so_callO ha.so⟩
end
/-! ### blocks within blocks: the scope of a comprehension as its block has it -/
def relSc (scope sc : Scope) : Scope := { scope with names := scope.names.map fun (n, k) => if (k == NameKind.free && sc.kind == .function && sc.names.lookup n == some .cell) then (n, NameKind.cell) else (n, k) }
/-! ### f(.., lambda ..) -/
def freeC (scope sc : Scope) : Bool := scope.names.all fun y => !(decide (y.2 = .free)) || (decide (sc.names.lookup y.1 = some .cell) || decide (sc.names.lookup y.1 = some .free))
theorem free_by {scope sc : Scope} (h : freeC scope sc = true) : ∀ y ∈ scope.names, y.2 = .free → sc.names.lookup y.1 = some .cell ∨ sc.names.lookup y.1 = some .free := fun y hy e => by
  have := List.all_eq_true.mp h y hy
  rw [e] at this
  simpa using this
def capsV (l : List (Option DV)) : List Nat → Option (List DV)
  | [] => some []
  | j :: js => match gv l j with
    | some d => match capsV l js with
      | some ds => some (d :: ds)
      | none => none
    | none => none
theorem capsV_rep {K : PySem.W.Frag} {Z : Hp} {I : List Addr} {σ : L2.St} {l : List (Option DV)} (rs : RepS K Z I σ l) : ∀ {js : List Nat} {cs : List DV}, capsV l js = some cs → ∃ cvs : List V, js.map (NdefX.slotAt σ) = cvs.map some ∧ RepVs K Z I cvs cs
  | [], cs, e => by cases e; exact ⟨[], rfl, .nil⟩
  | j :: js, cs, e => by
    unfold capsV at e
    cases hg : gv l j with
    | none => rw [hg] at e; cases e
    | some d =>
      rw [hg] at e
      dsimp only at e
      cases hc : capsV l js with
      | none => rw [hc] at e; cases e
      | some ds =>
        rw [hc] at e
        cases e
        obtain ⟨v, hv, rv⟩ := rs.at_ j _ (gv_some hg)
        obtain ⟨cvs, e1, r1⟩ := capsV_rep rs hc
        exact ⟨v :: cvs, by rw [List.map_cons, List.map_cons, e1]; unfold NdefX.slotAt; rw [hv], .cons rv r1⟩
section
variable {K : PySem.W.Frag} {X : Cx} {W : WX} {e : Expr} {es : List Expr} {pos p lpos : Pos} {x : Str} {k : Nat}
def PostL (K : PySem.W.Frag) (W : WX) (i : Nat) (P : Addr) (nm : Str) (mk : Addr → NF) (body : Expr) (Z H : Hp) (I : List Addr) (σ : L2.St) (Q : List V → Hp → Prop) : Rs (List DV) → Prop
  | .ok ds M' => tblAt M' i P nm = true ∧ ∀ vs a c Z' H' I', Wf K Z' H' (I' ++ [a]) (M' ++ [.gone]) → Ext Z H I Z' H' (I' ++ [a]) → RepVs K Z' (I' ++ [a]) vs ds → Z' a = some (LamO a (mk c) body) → Z' c = some (CodeO c nm) → Q (vs ++ [.ref a]) H'
  | .ex c fs M' => PostX K W Z H I σ M' c fs
theorem PostL.mono {i : Nat} {P : Addr} {nm : Str} {mk : Addr → NF} {body : Expr} {Z H Z1 H1 : Hp} {I I1 : List Addr} {σ : L2.St} {Q : List V → Hp → Prop} (e : Ext Z H I Z1 H1 I1) : ∀ {r : Rs (List DV)}, PostL K W i P nm mk body Z H I σ Q r → PostL K W i P nm mk body Z1 H1 I1 σ Q r
  | .ok _ _, h => ⟨h.1, fun vs a c Z' H' I' w x q1 q2 q3 => h.2 vs a c Z' H' I' w (e.trans x) q1 q2 q3⟩
  | .ex _ _ _, h => PostX.mono e h
/-- arguments whose last is a lambda -/
structure DAL (K : PySem.W.Frag) (X : Cx) (W : WX) (i : Nat) (P : Addr) (nm : Str) (mk : Addr → NF) (body : Expr) (es : List Expr) (t : TA) (ms : AM) : Prop where
  k : X.K = K
  pa : PA X es t
  ok : ∀ (σ : L2.St) (H : Hp) (s : S) (Z : Hp) (I : List Addr) (r : Rs (List DV)) (Q : List V → Hp → Prop), Wf K Z H I s.m → RepS K Z I σ s.l → ms s = some r → PostL K W i P nm mk body Z H I σ Q r → t σ H Q
theorem dal_one {i : Nat} {c P : Addr} {nm : Str} {params : Arguments} {body : Expr} {scope : Scope} (TB : TabB X.base X.mg c P) (hcode : X.env.code = .ref c) (hfree : ∀ y ∈ scope.names, y.2 = .free → X.env.scope.names.lookup y.1 = some .cell ∨ X.env.scope.names.lookup y.1 = some .free)
    (k : X.K = K := by rfl) (hn : nm = X.env.qual ++ "<lambda>" := by rfl) (hdef : defaultsOf params X.env = ([], []) := by rfl)
    (hs2 : starEach [.Lambda params body scope lpos] X.env = (false, eval (.Lambda params body scope lpos) X.env) :: starEach [] X.env := by rfl) :
    DAL K X W i P nm (lamF X nm params scope) body [.Lambda params body scope lpos] (tCons (tLam P nm (lamF X nm params scope) body) tNil) aNil := ⟨k, pa_cons (pe_lam TB hcode hn hdef hfree) pa_nil hs2, fun σ H s Z I r Q w rs e p => by
  cases e
  obtain ⟨htb, p⟩ := p
  obtain ⟨hi, hmm⟩ := tbl_at w htb
  obtain ⟨_, _, ps, hP, ht, hz⟩ := w.ob i P _ hi hmm (by intro z; cases z)
  refine ⟨ps, hP, ht, fun pos cv hcv => ?_, fun f c' H2 ps' k1 k2 k3 k4 k5 k6 k6' k7 k8 k9 => ?_⟩
  · obtain ⟨c1, e3, e4⟩ := hz pos cv hcv
    exact ⟨c1, e3, w.sub _ _ e4⟩
  · obtain ⟨Z2, w2, x2, f2, c2⟩ := lam_wf w hi hmm hP hz k1 k2 k3 k4 k5 k6 k6' k7 k8 k9
    have nf : f ∉ I := fun m => w.tr f m k6
    have nn : H2 f ≠ none := by rw [k8]; simp
    refine p [] f c' Z2 H2 I ⟨w2.sub, by rw [List.length_append, List.length_append, w2.len]; rfl, ?_, fun b m => ?_, fun n b o h1 h2 h3 => ?_⟩ ⟨x2.z, ⟨[f], rfl⟩, x2.fr, fun b m => ?_, x2.zn, x2.tr⟩ .nil f2 c2
    · exact List.nodup_append.mpr ⟨w2.nd, by simp, fun b hb b' hb' q => nf (by rw [← List.mem_singleton.mp hb', ← q]; exact hb)⟩
    · rcases List.mem_append.mp m with m | m
      · exact w2.tr b m
      · rw [List.mem_singleton.mp m]; exact nn
    · by_cases hn : n < I.length
      · rw [List.getElem?_append_left hn] at h1
        rw [List.getElem?_append_left (by rw [← w2.len]; exact hn)] at h2
        obtain ⟨q1, q2⟩ := w2.ob n b o h1 h2 h3
        have y : Ext Z2 H2 I Z2 H2 (I ++ [f]) ∨ True := .inr trivial
        refine ⟨q1, ?_⟩
        have up : ∀ {v : V} {d : DV}, RepV K Z2 I v d → RepV K Z2 (I ++ [f]) v d := fun {v d} h => by
          cases d with
          | p d => exact h
          | o j =>
            obtain ⟨b, hb, q⟩ := h
            exact ⟨b, by rw [List.getElem?_append_left (List.getElem?_eq_some_iff.mp hb).1]; exact hb, q⟩
        cases o with
        | lst _ => obtain ⟨xs, h, r⟩ := q2; exact ⟨xs, h, paired_imp (fun _ _ q => up q) r⟩
        | dK _ => obtain ⟨xs, h, r⟩ := q2; exact ⟨xs, h, paired_imp (fun _ _ q => ⟨q.1, up q.2⟩) r⟩
        | dT _ => obtain ⟨xs, h, r⟩ := q2; exact ⟨xs, h, paired_imp (fun _ _ q => ⟨q.1, up q.2⟩) r⟩
        | ins _ _ => obtain ⟨dx, xs, h, r⟩ := q2; exact ⟨dx, xs, h, paired_imp (fun _ _ q => ⟨q.1, up q.2⟩) r⟩
        | tbl _ _ => exact q2
        | clo _ _ =>
          obtain ⟨c, cl, cvs, h, n, r⟩ := q2
          refine ⟨c, cl, cvs, h, fun y b q m => ?_, paired_imp (fun _ _ q => up q) r⟩
          rcases List.mem_append.mp m with k | k
          · exact n y b q k
          · obtain ⟨o, v, g1, _⟩ := h.all y b q
            have g2 := w2.sub b _ g1
            rw [List.mem_singleton.mp k, k8] at g2; cases g2
        | gone => trivial
      · have e1 : n = I.length := by
          have := (List.getElem?_eq_some_iff.mp h1).1
          rw [List.length_append, List.length_singleton] at this
          omega
        subst e1
        rw [List.getElem?_append_right (by rw [w2.len]; exact Nat.le_refl _), w2.len, Nat.sub_self] at h2
        cases h2
        exact absurd rfl h3
    · rcases List.mem_append.mp m with m | m
      · exact .inl m
      · rw [List.mem_singleton.mp m]; exact .inr k6⟩
theorem dal_cons {i : Nat} {P : Addr} {nm : Str} {mk : Addr → NF} {body : Expr} {te : TE} {t : TA} {m : EM} {ms : AM} (ha : DE K X W e te m) (hr : DAL K X W i P nm mk body es t ms) (hs : starEach (e :: es) X.env = (false, eval e X.env) :: starEach es X.env := by rfl) : DAL K X W i P nm mk body (e :: es) (tCons te t) (aCons m ms) :=
  ⟨ha.k, pa_cons ha.pe hr.pa hs, fun σ H s Z I r Q w rs e p => by
    refine ha.so.bnd w rs e (fun c fs M h => by subst h; exact p) fun d v M1 Z1 H1 I1 w1 rs1 x1 q1 e1 => ?_
    have p1 := p.mono x1
    unfold bnd at e1
    cases z : ms ⟨s.l, M1⟩ with
    | none => rw [z] at e1; cases e1
    | some r1 =>
      rw [z] at e1
      refine hr.ok σ H1 ⟨s.l, M1⟩ Z1 I1 r1 _ w1 rs1 z ?_
      cases r1 with
      | ex c fs M => cases e1; exact p1
      | ok ds M =>
        cases e1
        exact ⟨p1.1, fun vs a c Z' H' I' w' x' q' ha' hc' => p1.2 (v :: vs) a c Z' H' I' w' x' (.cons (q1.mono x') q') ha' hc'⟩⟩
def callLB (i : Nat) (P : Addr) (nm : Str) (L : LamS) (js : List Nat) (n : Nat) (m : MBc) : List DV → Mi DV := fun ds s => if tblAt s.m i P nm = true then match capsV s.l js with
  | some cs => if ds.length + 1 = n then match m (ds ++ [.o s.m.length]) (s.m ++ [.clo L cs]) with
    | some r => if ncR (fun M' => M'.set s.m.length .gone) r = true then some (setRs (fun M' => M'.set s.m.length .gone) r) else none
    | none => none
    else none
  | none => none else none
def mCallLB (i : Nat) (P : Addr) (nm : Str) (L : LamS) (js : List Nat) (n : Nat) (m : MBc) (ms : AM) : EM := bnd ms (callLB i P nm L js n m)
def spLB (K : PySem.W.Frag) (L : LamS) (cl : List (Str × Addr)) (js : List Nat) (n : Nat) (m : MBc) (σ : L2.St) : List V → Hp → VK → XK → Prop := fun ws H Q E => ∃ vs a c ds cvs cs r Z I0 M, ws = vs ++ [.ref a] ∧ Wf K Z H (I0 ++ [a]) (M ++ [.gone]) ∧ Z a = some (LamO a (L.nf cl c) L.body) ∧ Z c = some (CodeO c L.nm) ∧ js.map (NdefX.slotAt σ) = cvs.map some ∧
  vs.length + 1 = n ∧ RepVs K Z (I0 ++ [a]) vs ds ∧ RepVs K Z (I0 ++ [a]) cvs cs ∧ m (ds ++ [.o M.length]) (M ++ [.clo L cs]) = some r ∧ ncR (fun M' => M'.set M.length .gone) r = true ∧ PostCB K Z H (I0 ++ [a]) (fun M' => M'.set M.length .gone) Q E r
def tCallLB (K : PySem.W.Frag) (W : WX) (L : LamS) (cl : List (Str × Addr)) (js : List Nat) (n : Nat) (m : MBc) (t : TA) : TE := fun σ H Q => t σ H fun vs H2 => spLB K L cl js n m σ vs H2 Q (WE W σ)
theorem vals_snoc {vs : List V} {a : Addr} : ∀ {us : List Value}, Vals (vs ++ [.ref a]) us → ∃ us', us = us' ++ [.ref a] ∧ Vals vs us' := by
  induction vs with
  | nil =>
    intro us h
    cases h with
    | cons h1 h2 => cases h2; cases h1; exact ⟨[], rfl, .nil⟩
  | cons v vs ih =>
    intro us h
    cases h with
    | cons h1 h2 =>
      obtain ⟨us', rfl, h3⟩ := ih h2
      exact ⟨_ :: us', rfl, .cons h1 h3⟩
theorem pe_callLB {f : Addr} {fd : FuncData} {ps fr : List Str} {js : List Nat} {m : MBc} {n ix : Nat} {nm : Str} {params : Arguments} {body : Expr} {scope : Scope} {t : TA} (F : FnOk X.prog X.w X.K X.mg X.base (L2.CX X.prog X.w) k f fd ps (spB X.K n m)) (hr : Room k X.A) (tk : Takes X W) (hg : Gl X x) (hm : X.mg x = some (.ref f)) (hk : PySem.W.keepIn X.K (.ref f) = true) (hb : Binds X.K fd ps [])
    (hfree : ∀ y ∈ scope.names, y.2 = .free → X.env.scope.names.lookup y.1 = some .cell ∨ X.env.scope.names.lookup y.1 = some .free)
    (hfn : ∀ x, X.fn x = true) (hfm : ∀ y ∈ fr, (y, NameKind.free) ∈ scope.names) (hjs : js.map (fun j => X.N[j]?) = fr.map some) (ha : PA X (e :: es) t)
    (hdb : (x == ("__debug__" : Str)) = false := by decide) (hs : starEach (e :: es) X.env = (false, eval e X.env) :: starEach es X.env := by rfl) (hpl : (backTo pos (starEach es X.env)).any (·.1) = false := by rfl) :
    PE X (.Call (.Name x p) (e :: es) [] pos) (tCallLB X.K W ⟨ix, nm, params, body, scope, fr⟩ (cloFrom X.env.cells scope.names []) js n m t) := by
  refine ⟨fun pins s σ H Q I h => wpAny_Call_Name_kw (ld_glob I hg hm (PySem.W.callWith_K I.ok.mod.kin hk (thn (ha.run pos pins s σ H _ I h) fun us s1 ⟨vs, H1, I1, r, q⟩ => ⟨I1.kIn, ?_⟩) hs hpl) hdb)⟩
  obtain ⟨vs, a, c', ds, cvs, cs, rr, Z, I0, M, rfl, h2, h3, h4, h5, h6, h7, h8, h9, h10, h11⟩ := q
  have hfr : ∀ y ∈ scope.names, y.2 = .free → ∃ c, X.env.cells.lookup y.1 = some c := fun y hy e => (hfree y hy e).elim (fun z => I.ok.has _ (.inl z)) fun z => I.ok.has _ (.inr z)
  have cp : Caps X (cloFrom X.env.cells scope.names []) fr js := ⟨fun y c q => clo_cm hfr q, fun y hy => hfree _ (hfm y hy) rfl, fun y hy c q => clo_has hfr (hfm y hy) q, hjs⟩
  have CA := cells_of I1 cp
  rw [h5] at CA
  obtain ⟨us', rfl, rv⟩ := vals_snoc r
  exact run_fnLB (L := ⟨ix, nm, params, body, scope, fr⟩) F hr tk hb hfn (fun y b q => clo_cm hfr q) I1 CA h2 h3 h4 rv h6 h7 h8 h9 h10 h11
theorem so_callLB {i : Nat} {P : Addr} {nm : Str} {ix n : Nat} {fr : List Str} {js : List Nat} {m : MBc} {params : Arguments} {body : Expr} {scope : Scope} {t : TA} {ms : AM} (h : DAL K X W i P nm (lamF X nm params scope) body (e :: es) t ms) :
    Sound K W (RepV K) (tCallLB K W ⟨ix, nm, params, body, scope, fr⟩ (cloFrom X.env.cells scope.names []) js n m t) (mCallLB i P nm ⟨ix, nm, params, body, scope, fr⟩ js n m ms) := ⟨fun σ H s Z I r0 Q w rs e1 p1 => by
  unfold mCallLB bnd at e1
  cases z : ms s with
  | none => rw [z] at e1; cases e1
  | some r1 =>
    rw [z] at e1
    refine h.ok σ H s Z I r1 _ w rs z ?_
    cases r1 with
    | ex c fs M => cases e1; exact p1
    | ok ds M =>
      dsimp only at e1
      unfold callLB at e1
      split at e1
      · rename_i htb
        refine ⟨htb, fun vs a c Z' H' I' w' x' q' ha' hc' => ?_⟩
        cases hcs : capsV s.l js with
        | none => simp only [hcs] at e1; cases e1
        | some cs =>
          simp only [hcs] at e1
          split at e1
          · rename_i hlen
            cases hm : m (ds ++ [.o M.length]) (M ++ [.clo ⟨ix, nm, params, body, scope, fr⟩ cs]) with
            | none => rw [hm] at e1; cases e1
            | some r =>
              rw [hm] at e1
              dsimp only at e1
              split at e1
              · rename_i hnr
                cases e1
                obtain ⟨cvs, e3, rc⟩ := capsV_rep rs hcs
                refine ⟨vs, a, c, ds, cvs, cs, r, Z', I', M, rfl, w', ha', hc', e3, by rw [paired_len q']; exact hlen, q', paired_imp (fun _ _ q => RepV.mono x' q) rc, hm, hnr, ?_⟩
                have p2 := p1.mono x'
                cases r with
                | ok d M' => exact p2
                | ex cc fs M' => exact p2
              · cases e1
          · cases e1
      · cases e1⟩
theorem de_callLB {f : Addr} {fd : FuncData} {ps fr : List Str} {js : List Nat} {m : MBc} {n : Nat} {P : Addr} {nm : Str} {params : Arguments} {body : Expr} {scope : Scope} {t : TA} {ms : AM} (i ix : Nat) (F : FnOk X.prog X.w K X.mg X.base (L2.CX X.prog X.w) k f fd ps (spB K n m)) (hr : Room k X.A) (tk : Takes X W) (hm : X.mg x = some (.ref f)) (hk : PySem.W.keepIn K (.ref f) = true) (hb : Binds K fd ps [])
    (ha : DAL K X W i P nm (lamF X nm params scope) body (e :: es) t ms) (hfree : ∀ y ∈ scope.names, y.2 = .free → X.env.scope.names.lookup y.1 = some .cell ∨ X.env.scope.names.lookup y.1 = some .free) (hfm : ∀ y ∈ fr, (y, NameKind.free) ∈ scope.names := by decide +kernel) (hjs : js.map (fun j => X.N[j]?) = fr.map some := by rfl)
    (hfn : ∀ x, X.fn x = true := by exact fun _ => rfl) (hg : Gl X x := by rfl)
    (hdb : (x == ("__debug__" : Str)) = false := by decide) (hs : starEach (e :: es) X.env = (false, eval e X.env) :: starEach es X.env := by rfl) (hpl : (backTo pos (starEach es X.env)).any (·.1) = false := by rfl) :
    DE K X W (.Call (.Name x p) (e :: es) [] pos) (tCallLB K W ⟨ix, nm, params, body, scope, fr⟩ (cloFrom X.env.cells scope.names []) js n m t) (mCallLB i P nm ⟨ix, nm, params, body, scope, fr⟩ js n m ms) := by
  have k0 := ha.k
  subst k0
  exact ⟨rfl, pe_callLB F hr tk hg hm hk hb hfree hfn hfm hjs ha.pa hdb hs hpl, so_callLB ha⟩
end
/-- the first lambda among an expression's arguments, a statement's, a def's -/
def lamE : Expr → Option Expr
  | .Call _ es _ _ => match es.getLast? with
    | some (.Lambda p b s q) => some (.Lambda p b s q)
    | _ => none
  | _ => none
def lamSt : Stmt → Option Expr
  | .Return (some e) _ => lamE e
  | .Assign _ e _ => lamE e
  | .Expr e _ => lamE e
  | _ => none
/-- the k-th lambda that a def's own statements give a call as its last argument -/
def lamNth (st : Stmt) (k : Nat) : Expr := ((defBody st).filterMap lamSt).getD k (.Name "" ⟨0, 0, 0, 0⟩)
end DL
namespace DL
open PySem L2 PyProof.Rows
section
variable {K : PySem.W.Frag} {X : Cx} {W : WX} {e a b c tg iter : Expr} {es : List Expr} {pos : Pos} {td te : TE} {m n : EM}
/-! ### [x, ..] * n: a new list of one's own -/
def mRepO (m n : EM) : EM := bnd m fun d => bnd n (pur fun e s => match d with
  | .p d => match dRepL d e with
    | some (.lst xs) => some (.ok (.o s.m.length) (s.m ++ [.lst (xs.map .p)]))
    | _ => none
  | .o _ => none)
theorem so_repO {ta tb : TE} (ha : Sound K W (RepV K) ta m) (hb : Sound K W (RepV K) tb n) : Sound K W (RepV K) (tOp (rRepL K) ta tb) (mRepO m n) := ⟨fun σ H s Z I r0 Q w rs e p => by
  refine ha.bnd w rs e (p.x) fun d v M1 Z1 H1 I1 w1 rs1 x1 q1 e1 => ?_
  have p1 := p.mono x1
  refine hb.bnd (s := ⟨s.l, M1⟩) w1 rs1 e1 (p1.x) fun d2 v2 M2 Z2 H2 I2 w2 rs2 x2 q2 e2 => ?_
  obtain ⟨d2, rfl, e2⟩ := pur_ok e2
  have p2 := p1.mono x2
  cases d with
  | o n => cases e2
  | p d =>
    have q1 : Rep K Z1 v d := q1
    have q2 : Rep K Z2 v2 d2 := q2
    have e2 : (match dRepL d d2 with | some (D.lst xs) => some (Rs.ok (DV.o M2.length) (M2 ++ [O.lst (xs.map .p)])) | _ => none) = some r0 := e2
    have key : ∃ xs nn, d = .lst xs ∧ d2 = .int nn ∧ 0 ≤ nn ∧ nn ≤ 1000 ∧ xs.length ≤ 1000 ∧ r0 = Rs.ok (DV.o M2.length) (M2 ++ [O.lst ((List.replicate nn.toNat xs).flatten.map .p)]) := by
      cases z : dRepL d d2 with
      | none => rw [z] at e2; cases e2
      | some c =>
        rw [z] at e2
        unfold dRepL at z
        split at z
        · split at z
          · rename_i hl
            cases z
            cases e2
            exact ⟨_, _, rfl, rfl, hl.1, hl.2.1, hl.2.2, rfl⟩
          · cases z
        · cases z
    obtain ⟨xs, nn, rfl, rfl, l1, l2, l3, rfl⟩ := key
    cases q2
    have q3 : ∃ (a : Addr) (vs : List V), v = .ref a ∧ Rd Z2 a (.lst vs) ∧ RepA K Z2 vs xs := by
      cases q1.mono x2.z with
      | lst h1 h2 => exact ⟨_, _, rfl, h1, h2⟩
    obtain ⟨a, vs, rfl, h1, h2⟩ := q3
    refine ⟨_, _, _, rfl, rfl, .inl (same_rd w2.sub h1), l1, l2, by rw [h2.length]; exact l3, fun l hp => ?_⟩
    have y := ext_new (I := I2) (o := .lst (List.replicate nn.toNat vs).flatten) w2.sub hp
    refine p2 _ Z2 _ (I2 ++ [l]) (w2.newO hp ⟨_, upd_same, allP_map (repA_rep h2 _)⟩) y ⟨l, ?_, rfl⟩
    rw [← w2.len, List.getElem?_append_right (Nat.le_refl _), Nat.sub_self]
    rfl⟩
theorem de_repO {ta tb : TE} (ha : DE K X W a ta m) (hb : DE K X W b tb n) : DE K X W (.BinOp a .Mult b pos) (tOp (rRepL K) ta tb) (mRepO m n) :=
  ⟨ha.k, by rw [← ha.k]; exact pe_op op_repL ha.pe hb.pe, so_repO ha.so hb.so⟩
@[simp] theorem e_repO (m n : EM) (s : S) : mRepO m n s = (bnd m fun d => bnd n (pur fun e s => match d with
  | .p d => match dRepL d e with
    | some (.lst xs) => some (.ok (.o s.m.length) (s.m ++ [.lst (xs.map .p)]))
    | _ => none
  | .o _ => none)) s := rfl
/-! ### for x in d, d a list or a dict, data -/
def iAny (K : PySem.W.Frag) (te : TE) : TI := fun σ H R => te σ H fun x H1 => (∃ a, x = .ref a ∧ (∃ xs, SqL K H1 a xs) ∧ R (Itl K a) H1) ∨ ∃ d o, x = .ref d ∧ ((∃ kvs, H1 d = some (.frz o (.dK kvs)) ∧ R (Itk d o kvs) H1) ∨ ∃ kvs, H1 d = some (.frz o (.dT kvs)) ∧ R (Itkt d o kvs) H1)
theorem pi_any (he : PE X e te) : PI X tg e (iAny X.K te) := by
  refine ⟨fun pins s σ H R I h => ?_⟩
  refine thn (he.run pins s σ H _ I h) fun u s1 ⟨x, H1, I1, rx, q1⟩ => ?_
  rcases q1 with ⟨a, ex, ⟨xs, hq⟩, q⟩ | ⟨d, o, ex, q⟩
  · subst ex
    cases rx
    obtain ⟨its, rv, p, hz⟩ := I1.list hq
    refine wpAny_pyIter_list p.isList ?_
    refine ⟨s1.heap.objs.size, [s1.heap.objs.size], _, _, H1, rfl, I1.kept (t' := s1.toks) fun b o e => Heap.get?_push_of_some _ e, turn_list a _, ⟨_, Heap.get?_push_size _ rfl, rfl, rfl⟩, fun b hb => ?_, q⟩
    have e : b = s1.heap.objs.size := by simpa using hb
    subst e
    exact I1.fpOk (Nat.le_refl _) (I1.hok.fresh (Nat.le_refl _))
  · subst ex
    obtain rfl : u = Value.ref d := rx
    rcases q with ⟨kvs, hd, q⟩ | ⟨kvs, hd, q⟩
    · obtain ⟨hs, hgd, hx, es, ep, vs, hdt, hsz, kv, hm⟩ := I1.frzK hd
      refine iter_keys hs hgd hx hdt (pi_one (tk := s1.toks) I1 _ (turn_keys _ hdt) ⟨_, Heap.get?_push_size _ rfl, rfl, ?_⟩ q)
      rw [hsz] <;> rfl
    · obtain ⟨hs, hgd, hx, es, ep, hdt, hsz, ent⟩ := I1.frzT hd
      refine iter_keys hs hgd hx hdt (pi_one (tk := s1.toks) I1 _ (turn_keysT _ hdt) ⟨_, Heap.get?_push_size _ rfl, rfl, ?_⟩ q)
      rw [hsz] <;> rfl
def itA : D → Option (List DV)
  | .lst xs => some (xs.map .p)
  | .dT kvs => some (kvs.map fun p => .p (.tup (p.1.map kD)))
  | _ => none
theorem di_any (h : DE K X W iter te m) : DI K X W tg iter (iAny K te) (mItD itA m) := by
  refine ⟨h.k, by rw [← h.k]; exact pi_any h.pe, ?_⟩
  refine so_itD (r := fun x H1 R => (∃ a, x = .ref a ∧ (∃ xs, SqL K H1 a xs) ∧ R (Itl K a) H1) ∨ ∃ d o, x = .ref d ∧ ((∃ kvs, H1 d = some (.frz o (.dK kvs)) ∧ R (Itk d o kvs) H1) ∨ ∃ kvs, H1 d = some (.frz o (.dT kvs)) ∧ R (Itkt d o kvs) H1)) h.so fun v d ds Z H I R s hd hg q => ?_
  cases hd with
  | lst h1 h2 =>
    rename_i a vs xs
    cases hg
    refine .inl ⟨a, rfl, ⟨vs, .inl (same_rd s h1)⟩, q _ fun Z' H' I' z _ s' i => ⟨fun d hd => ?_, fun hl => ⟨vs, .inl (same_rd s' (same_rd z h1)), by rw [h2.length]; simpa using hl⟩⟩⟩
    obtain ⟨y, hy, rfl⟩ := getP (α := Unit) hd
    obtain ⟨v, hv, rv⟩ := h2.get hy
    refine ⟨⟨vs, v, .inl (same_rd s' (same_rd z h1)), hv⟩, fun x H2 hx => ?_⟩
    obtain ⟨rfl, hx⟩ := hx
    have := hx vs (.inl (same_rd s' (same_rd z h1)))
    rw [hv] at this
    cases this
    exact ⟨Z', ExtP.refl s', rv.mono z⟩
  | dT h1 h2 =>
    rename_i a o ks xs
    cases hg
    refine .inr ⟨a, o, rfl, .inr ⟨ks, s _ _ h1, q _ fun Z' H' I' z _ s' i => ⟨fun d hd => ?_, fun hl => ?_⟩⟩⟩
    · have hk := (repT_len h2).2 i
      rw [List.getElem?_map] at hd
      cases e : xs[i]? with
      | none => rw [e] at hd; cases hd
      | some p =>
        rw [e] at hd hk; cases hd
        have hlt : i < ks.length := by
          have := (List.getElem?_eq_some_iff.mp e).1
          rw [(repT_len h2).1]; exact this
        refine ⟨⟨s' _ _ (z _ _ h1), hlt⟩, fun x H2 hx => ?_⟩
        obtain ⟨rfl, k, v, b, hk2, rfl, hb⟩ := hx
        rw [hk2] at hk
        have hk : k = p.1 := Option.some.inj hk
        obtain ⟨Z2, x2, e2⟩ := ext_tup s' hb
        refine ⟨Z2, x2, ?_⟩
        rw [hk] at e2
        exact .tup e2 (kDs_rep p.1)
    · rw [List.length_map, ← (repT_len h2).1] at hl
      exact ⟨s' _ _ (z _ _ h1), hl⟩
  | _ => cases hg
end
/-! ### an own dict in a field is given up: from now on it is data -/
section
variable {K : PySem.W.Frag} {Z H : Hp} {I : List Addr} {M : List O} {W : WX}
theorem Wf.reo (w : Wf K Z H I M) {k : Nat} {a : Addr} {o : O} (ha : I[k]? = some a) (zn : ZN Z a o) (r : RepO K Z I H a o) : Wf K Z H I (M.set k o) where
  sub := w.sub
  len := by rw [List.length_set]; exact w.len
  nd := w.nd
  tr := w.tr
  ob := fun n b o h1 h2 h3 => by
    by_cases q : k = n
    · subst q
      rw [ha] at h1
      cases h1
      have hl : k < M.length := by rw [← w.len]; exact (List.getElem?_eq_some_iff.mp ha).1
      rw [List.getElem?_set_self hl] at h2
      cases h2
      exact ⟨zn, r⟩
    · rw [List.getElem?_set_ne q] at h2
      exact w.ob n b o h1 h2 h3
def sFrzFD (i : Nat) (C : Addr) (f : Str) : SM := fun s => match gv s.l i with
  | some x => match insM s.m C x with
    | some (n, fs) => match fs.lookup f with
      | some (.o j) => match s.m[j]? with
        | some o => match frzOD o with
          | some d => some (.nx, ⟨s.l, (s.m.set j .gone).set n (.ins C (putD f (.p d) fs))⟩)
          | none => none
        | none => none
      | _ => none
    | none => none
  | none => none
def tLckF (t : TS) : TS := fun D σ H => ∃ a u, H a = some u ∧ Mut (some u) ∧ ∀ od, t D σ (upd H a (.frz od u))
theorem putd_same {Z : Hp} {I : List Addr} {f : Str} {j : Nat} {a : Addr} {d : D} (hj : I[j]? = some a) (r : Rep K Z (.ref a) d) : ∀ {vs : List (Str × V)} {fs : List (Str × DV)}, Paired (FRel K Z I) vs fs → fs.lookup f = some (.o j) → Paired (FRel K Z I) vs (putD f (.p d) fs)
  | _, _, .nil, e => by cases e
  | (k, x) :: vs, (b, y) :: fs, .cons ⟨e, q⟩ t, h => by
    have e : k = b := e
    subst e
    unfold putD
    dsimp only
    split
    · rename_i hk
      subst hk
      rw [List.lookup_cons, beq_self_eq_true] at h
      cases h
      obtain ⟨a', ha', e'⟩ := q
      rw [hj] at ha'
      cases ha'
      have e' : x = .ref a := e'
      subst e'
      exact .cons ⟨rfl, r⟩ t
    · rename_i hk
      rw [List.lookup_cons, show (f == k) = false from by simpa using fun z => hk z.symm] at h
      exact .cons ⟨rfl, q⟩ (putd_same hj r t h)
theorem so_sfrzFD (i : Nat) (C : Addr) (f : Str) {t : TS} {m : SM} (h : SoundS K W t m) : SoundS K W (tLckF t) (sSeq (sFrzFD i C f) m) := ⟨fun σ H s Z I r D w rs e p => by
  unfold sSeq sFrzFD at e
  cases q : gv s.l i with
  | none => simp only [q] at e; cases e
  | some x =>
    simp only [q] at e
    cases q1 : insM s.m C x with
    | none => simp only [q1] at e; cases e
    | some nf =>
      obtain ⟨n, fs⟩ := nf
      simp only [q1] at e
      cases q2 : fs.lookup f with
      | none => simp only [q2] at e; cases e
      | some y =>
        cases y with
        | p d => simp only [q2] at e; cases e
        | o j =>
          simp only [q2] at e
          cases q3 : s.m[j]? with
          | none => simp only [q3] at e; cases e
          | some o =>
            simp only [q3] at e
            cases q4 : frzOD o with
            | none => simp only [q4] at e; cases e
            | some d =>
              simp only [q4] at e
              obtain ⟨v, h1, rv⟩ := rs.at_ i _ (gv_some q)
              obtain ⟨b, dx, vs, rfl, hb, hm, hh, pr⟩ := ins_rep w rv q1
              have hjl : j < I.length := by rw [w.len]; exact (List.getElem?_eq_some_iff.mp q3).1
              have ha : I[j]? = some I[j] := List.getElem?_eq_getElem hjl
              obtain ⟨u, hu, mu, k⟩ := lck_rep w ha q3 q4
              refine ⟨I[j], u, hu, mu, fun od => ?_⟩
              obtain ⟨Z', w', x', rp⟩ := k od
              have hnj : j ≠ n := fun z => by
                rw [z, hm] at q3
                cases q3
                cases q4
              have hm' : (s.m.set j .gone)[n]? = some (.ins C fs) := by rw [List.getElem?_set_ne hnj]; exact hm
              obtain ⟨z1, dx', vs', hh', pr'⟩ := w'.ob n b _ hb hm' (by intro z; cases z)
              exact h.ok σ _ ⟨s.l, (s.m.set j .gone).set n (.ins C (putD f (.p d) fs))⟩ Z' I r D (w'.reo hb z1 ⟨dx', vs', hh', putd_same ha rp pr' q2⟩) (rs.mono x') e (p.mono x')⟩
theorem pss_lckF {X : Cx} {sts : List Stmt} {t : TS} (h : PSs X sts t) : PSs X sts (tLckF t) := ⟨fun pins s σ H D J q => by
  obtain ⟨a, u, e2, mu, k⟩ := q
  obtain ⟨od, J2⟩ := J.lock e2 mu
  exact h.run pins s σ _ D J2 (k od)⟩
theorem dss_frzFD {X : Cx} (i : Nat) (C : Addr) (f : Str) {sts : List Stmt} {t : TS} {m : SM} (h : DSs K X W sts t m) : DSs K X W sts (tLckF t) (sSeq (sFrzFD i C f) m) := ⟨h.k, pss_lckF h.ps, so_sfrzFD i C f h.so⟩
end
end DL
namespace PySem.W
open PySem PySem.Spec PyProof.Rows
variable {K : Type} [DecidableEq K] {P : Program} {w : World} {knd : HeapKind P w K}
theorem dl_rc_dictsN {a b : Addr} {xs ys : List (K × Addr × Value)} {A : Around} {s : Shared} (hr : knd.room A.in1) (sa : (a == sysModules) = false) (sb : (b == sysModules) = false) (da : s.heap.DictOfH knd a xs) (db : s.heap.DictOfH knd b ys)
    (hu : A.units < cLine) (hl : xs.length = ys.length) (hit : ∀ x ∈ xs, ∃ p, atKey ys x.1 = some p ∧ SeqAt.EqP P w A.in1 s x.2.2 p.2 true) (E Q : Value → Shared → Prop) (q : Q (.bool false) s) :
    wpAny (model P w) A (richCompare .NotEq (.ref a) (.ref b)) Q E s := by
  refine wpAny_richCompare_same_room (op := .NotEq) da.typeIs db.typeIs PySem.F.slot_dict_ne ?_ hu
  refine wpAny_call_entry PySem.F.slot_dict_ne da.typeIs PySem.F.entry_dict_ne ?_ (PySem.F.args_dict_ne_2 _ _)
  show wpAny _ _ (Builtin.Dict.dictSlotArgs "__ne__" ⟨[.ref a, .ref b], []⟩ >>= _) _ _ s
  refine wpAny_bind ?_
  unfold Builtin.Dict.dictSlotArgs
  refine wpAny_bind (wpAny_notOrdered_dict da.typeIs (wpAny_pure ?_))
  refine wpAny_bind (wpAny_isInstance (T := "dict") db.typeIs PySem.F.sub_dict_dict ?_)
  simp only [Bool.not_true, Bool.false_eq_true, if_false]
  refine wpAny_bind (wpAny_pure (wpAny_bind (wpAny_pure ?_)))
  refine wpAny_bind (dl_samePairs hr sa sb da db hl hit ?_)
  exact wpAny_pure ⟨_, rfl, (fun z => nomatch z), q⟩
end PySem.W
namespace DL
open PySem PySem.Spec PyProof.Rows L2
section
variable {X : Cx} {pins : List (Addr × Obj)} {σ : L2.St} {H Z : Hp} {s : Shared} {K : PySem.W.Frag}
def sameDt : D → D → Bool
  | .dT ks, .dT ls => ks.length == ls.length && sameTk ks ls && decide (depTk ks ≤ 60)
  | _, _ => false
theorem rc_sameDt (I : Inv X pins σ H s) (sz : Same Z H) {x y : V} {d e : D} {v u : Value} (hs : sameDt d e = true) (hu : X.A.units + 66 < cLine) (hx : Rep X.K Z x d) (hy : Rep X.K Z y e) (rx : RelV x v) (ry : RelV y u) :
    ∃ a b, v = .ref a ∧ u = .ref b ∧ RQ X s X.A .Eq true (.ref a) (.ref b) ∧ RQ X s X.A .NotEq false (.ref a) (.ref b) := by
  cases d <;> cases e <;> first | cases hs | skip
  rename_i ks ls
  simp only [sameDt, Bool.and_eq_true, decide_eq_true_eq] at hs
  obtain ⟨⟨hs1, hs2⟩, hs3⟩ := hs
  cases hx with
  | dT h1 h2 =>
    cases hy with
    | dT h3 h4 =>
      rename_i a o vs b o2 ws
      cases (show v = Value.ref a from rx)
      cases (show u = Value.ref b from ry)
      obtain ⟨_, sa, xs, ra, da⟩ := dt_rd I.hok (.inr ⟨_, sz _ _ h1⟩)
      obtain ⟨_, sb, ys, rb, db⟩ := dt_rd I.hok (.inr ⟨_, sz _ _ h3⟩)
      have hl : xs.length = ys.length := by
        have e1 := paired_len ra
        have e2 := paired_len rb
        rw [← e1, ← e2, (repT_len h2).1, (repT_len h4).1]
        exact eq_of_beq hs1
      have hk := eqP_Dk I sz ks ls ws ys h4 rb X.A.in1 vs xs hs2 (by show X.A.units + 1 + depTk ks < cLine; omega) h2 ra
      exact ⟨a, b, rfl, rfl, fun E Q q => PySem.W.dl_rc_dicts (tupleKind_room_in1 (A := X.A) (by omega)) sa sb da db (by omega) hl hk E Q q, fun E Q q => PySem.W.dl_rc_dictsN (tupleKind_room_in1 (A := X.A) (by omega)) sa sb da db (by omega) hl hk E Q q⟩
/-! dicts with tuples as keys, where they are equal -/
def dNeDt (d e : D) : Option D := if sameDt d e = true then some (.bl false) else none
theorem bool_dNeDt : boolD dNeDt := fun d e c h => by
  unfold dNeDt at h; split at h
  · cases h; exact ⟨_, rfl⟩
  · cases h
def rDt (b : Bool) (K : PySem.W.Frag) : R2 := fun x y H Q => ∃ Z d e, Same Z H ∧ Rep K Z x d ∧ Rep K Z y e ∧ sameDt d e = true ∧ Q (.bl b) H
theorem od_neDt (hu : X.A.units + 66 < cLine) : OpD K X (compareOp .NotEq) (rDt false K) dNeDt where
  op := fun k pins s σ H x y v u Q I rx ry h => by
    obtain ⟨Z, d, e, sz, hx, hy, hs, q⟩ := h
    subst k
    obtain ⟨a, b, rfl, rfl, _, r⟩ := rc_sameDt I sz hs hu hx hy rx ry
    exact r _ _ ⟨.bl _, H, I, rfl, q⟩
  ok := by
    intro x y d e c Z H Q s hx hy hg p
    unfold dNeDt at hg
    split at hg
    · rename_i hs
      cases hg
      exact ⟨Z, d, e, s, hx, hy, hs, p _ Z H (ExtP.refl s) (.bl _)⟩
    · cases hg
end
end DL
namespace DL
open PySem L2
/-! ### steps over objects, as equations -/
theorem insM_at {M : List O} {C : Addr} {i : Nat} {fs : List (Str × DV)} (h : M[i]? = some (.ins C fs)) : insM M C (.o i) = some (i, fs) := by
  unfold insM
  simp only [h, if_true]
theorem fld_run (C : Addr) (f : Str) (m : EM) (s : S) (M : List O) (i : Nat) (fs : List (Str × DV)) (v : DV) (h0 : m s = some (.ok (.o i) M)) (h1 : M[i]? = some (.ins C fs)) (h2 : fs.lookup f = some v) : mFld C f m s = some (.ok v M) := by
  unfold mFld bnd
  rw [h0]
  dsimp only
  rw [insM_at h1]
  dsimp only
  rw [h2]
theorem fldM_run (C : Addr) (f : Str) (mv m : EM) (s : S) (M1 M : List O) (i : Nat) (fs : List (Str × DV)) (y : DV) (hv : mv s = some (.ok y M1)) (h0 : m ⟨s.l, M1⟩ = some (.ok (.o i) M)) (h1 : M[i]? = some (.ins C fs)) (h2 : fs.length < 1000) :
    sFldM C f mv m s = some (.nx, ⟨s.l, M.set i (.ins C (putD f y fs))⟩) := by
  unfold sFldM liftS
  rw [hv]
  dsimp only
  rw [h0]
  show (match insM M C (.o i) with | some (n, fs) => if fs.length < 1000 then some (Fl.nx, (⟨s.l, M.set n (.ins C (putD f y fs))⟩ : S)) else none | none => none) = _
  rw [insM_at h1]
  dsimp only
  rw [if_pos h2]
theorem meth_run (C : Addr) (mn : Str) (n : Nat) (g : List DV → List O → Option (Rs DV)) (mo : EM) (ms : AM) (s : S) (M M1 : List O) (i : Nat) (fs : List (Str × DV)) (ds : List DV) (h0 : mo s = some (.ok (.o i) M)) (h1 : M[i]? = some (.ins C fs)) (h2 : fs.lookup mn = none) (h3 : ms ⟨s.l, M⟩ = some (.ok ds M1)) (hl : ds.length = n) :
    mMeth C mn n g mo ms s = g (.o i :: ds) M1 := by
  unfold mMeth bnd
  rw [h0]
  dsimp only
  rw [insM_at h1]
  dsimp only
  rw [h2]
  dsimp only
  rw [h3]
  dsimp only
  rw [if_pos hl]
theorem put_run (mv md mk : EM) (s : S) (M1 M2 M3 M : List O) (n : Nat) (v : DV) (k : D) (h1 : mv s = some (.ok v M1)) (h2 : md ⟨s.l, M1⟩ = some (.ok (.o n) M2)) (h3 : mk ⟨s.l, M2⟩ = some (.ok (.p k) M3)) (h4 : putM M3 n k v = some M) : sPut mv md mk s = some (.nx, ⟨s.l, M⟩) := by
  rw [e_put]
  unfold liftS
  rw [h1]
  dsimp only
  rw [h2]
  dsimp only
  rw [h3]
  dsimp only [purS]
  rw [e_putK, h4]
theorem del_run (md mk : EM) (s : S) (M2 M3 M : List O) (n : Nat) (v : DV) (k : D) (h2 : md s = some (.ok (.o n) M2)) (h3 : mk ⟨s.l, M2⟩ = some (.ok (.p k) M3)) (h4 : popM M3 n k = some (v, M)) : sDel md mk s = some (.nx, ⟨s.l, M⟩) := by
  rw [e_del]
  unfold liftS
  rw [h2]
  dsimp only
  rw [h3]
  dsimp only [purS]
  unfold sDelK
  dsimp only
  rw [h4]
theorem din_run (neg : Bool) (mk md : EM) (s : S) (M1 M : List O) (d : DV) (k : D) (o : Option DV) (h1 : mk s = some (.ok (.p k) M1)) (h2 : md ⟨s.l, M1⟩ = some (.ok d M)) (h3 : getM M d k = some o) : mDin neg mk md s = some (.ok (.p (.bl (if neg then !o.isSome else o.isSome))) M) := by
  rw [e_din]
  unfold bnd
  rw [h1]
  dsimp only [pur]
  rw [h2]
  dsimp only
  rw [e_dinK, h3]
theorem dget_run (md mk : EM) (s : S) (M1 M : List O) (d v : DV) (k : D) (h1 : md s = some (.ok d M1)) (h2 : mk ⟨s.l, M1⟩ = some (.ok (.p k) M)) (h3 : getM M d k = some (some v)) : mDget md mk s = some (.ok v M) := by
  rw [e_dget]
  unfold bnd
  rw [h1]
  dsimp only
  rw [h2]
  dsimp only [pur]
  rw [e_dgK, h3]
theorem dg2_runO (m n k : EM) (s : S) (M : List O) (d : DV) (kk : D) (y : DV) (o : Option DV) (h1 : m s = some (.ok d M)) (hd : isDc M d = true) (h2 : n ⟨s.l, M⟩ = some (.ok (.p kk) M)) (h3 : k ⟨s.l, M⟩ = some (.ok y M)) (h4 : getM M d kk = some o) :
    mDg2 m n k s = some (.ok (o.getD y) M) := by
  unfold mDg2 bnd
  rw [h1]
  dsimp only
  rw [hd, if_pos rfl, h2]
  dsimp only [pur]
  rw [h3]
  dsimp only
  unfold dg2K
  dsimp only
  rw [h4]
  cases o <;> rfl
theorem gset_run (o i : EM) (d : DV) (s : S) (M1 M2 M : List O) (n : Nat) (j : Int) (h1 : o s = some (.ok (.o n) M1)) (h2 : i ⟨s.l, M1⟩ = some (.ok (.p (.int j)) M2)) (h3 : setL M2 n j d = some M) : gSet o i d s = some ⟨s.l, M⟩ := by
  unfold gSet bnd
  rw [h1]
  dsimp only
  rw [h2]
  dsimp only [pur]
  unfold gSetK
  dsimp only
  rw [h3]
theorem setL_at {M : List O} {n : Nat} {ds : List DV} {j : Nat} {d : DV} (h : M[n]? = some (.lst ds)) (hj : j < ds.length) : setL M n (j : Int) d = some (M.set n (.lst (ds.set j d))) := by
  unfold setL
  simp only [h]
  have : ixN ds.length (j : Int) = some j := by
    unfold ixN
    simp
    omega
  rw [this]
theorem ixO_run (m n : EM) (s : S) (M1 M : List O) (k : Nat) (i : Nat) (xs : List DV) (x : DV) (h1 : m s = some (.ok (.o k) M1)) (h2 : n ⟨s.l, M1⟩ = some (.ok (.p (.int (i : Int))) M)) (h3 : M[k]? = some (.lst xs)) (h4 : xs[i]? = some x) : mIx m n s = some (.ok x M) := by
  unfold mIx bnd
  rw [h1]
  dsimp only
  rw [h2]
  dsimp only [pur]
  have : ixM M (.o k) (i : Int) = some x := by
    unfold ixM ixO
    simp only [h3]
    exact atI_nat' (by omega) (by rw [Int.toNat_natCast]; exact h4)
  rw [this]
theorem slO_run (m : EM) (l u : PM) (s : S) (M1 M2 M : List O) (n : Nat) (xs : List D) (i j : Option Int) (h1 : m s = some (.ok (.o n) M1)) (h2 : l ⟨s.l, M1⟩ = some (.ok i M2)) (h3 : u ⟨s.l, M2⟩ = some (.ok j M)) (h4 : M[n]? = some (.lst (xs.map .p))) : mSlO m l u s = some (.ok (.p (.lst (cutD xs i j))) M) := by
  rw [e_slO]
  unfold bnd
  rw [h1]
  dsimp only
  rw [h2]
  dsimp only
  rw [h3]
  dsimp only
  have : slO M (.o n) i j = some (.lst (cutD xs i j)) := by
    unfold slO
    simp only [h4, e_allPm]
  unfold ret
  rw [this]
theorem aCons_run (m : EM) (ms : AM) (s : S) (M1 M : List O) (d : DV) (ds : List DV) (h1 : m s = some (.ok d M1)) (h2 : ms ⟨s.l, M1⟩ = some (.ok ds M)) : aCons m ms s = some (.ok (d :: ds) M) := by
  unfold aCons bnd
  rw [h1]
  dsimp only
  rw [h2]
theorem frz_runM (m : EM) (s : S) (M : List O) (n : Nat) (ds : List D) (h1 : m s = some (.ok (.o n) M)) (h2 : M[n]? = some (.lst (ds.map .p))) : mFrz m s = some (.ok (.p (.lst ds)) (M.set n .gone)) := by
  unfold mFrz bnd
  rw [h1]
  dsimp only
  simp only [h2, e_allPm]
theorem callA1r (f : MA) (m : EM) (s : S) (M : List O) (x d : D) (h1 : m s = some (.ok (.p x) M)) (e : f [x] = some (.ok d)) : mCallA 1 f (aCons m aNil) s = some (.ok (.p d) M) := by
  unfold mCallA
  have h2 := aCons_run m aNil s M M (.p x) [] h1 rfl
  unfold bnd
  rw [h2]
  dsimp only
  rw [if_pos (show [DV.p x].length = 1 from rfl)]
  simp only [allP, Option.map_some, e]
theorem bin_run (g : D → D → Option D) (m n : EM) (s : S) (M1 M : List O) (x y d : D) (h1 : m s = some (.ok (.p x) M1)) (h2 : n ⟨s.l, M1⟩ = some (.ok (.p y) M)) (e : g x y = some d) : mBin g m n s = some (.ok (.p d) M) := by
  rw [e_bin]
  unfold bnd
  rw [h1]
  dsimp only [pur]
  rw [h2]
  dsimp only
  unfold ret
  rw [e]
theorem asg_run (m : EM) (g : GM) (s s1 : S) (M : List O) (d : DV) (h1 : m s = some (.ok d M)) (h2 : g d ⟨s.l, M⟩ = some s1) : sAsg m g s = some (.nx, s1) := by
  rw [e_asg, e_lift, h1]
  dsimp only
  rw [h2]
end DL
namespace DL
open PySem L2
/-! ### drawn state behind tables, that holds no closure -/
theorem ncM_app {M R : List O} : ncM (M ++ R) = (ncM M && ncM R) := by unfold ncM; rw [List.all_append]
theorem ncM_set {M : List O} {i : Nat} {o : O} (h : ncM M = true) (ho : ncO o = true) : ncM (M.set i o) = true := by
  unfold ncM at *
  rw [List.all_eq_true] at *
  intro x hx
  rcases List.mem_or_eq_of_mem_set hx with q | q
  · exact h x q
  · rw [q]; exact ho
theorem nc_ints (cells : List Int) : ncO (intL cells) = true := by
  show (cells.map fun z => DV.p (.int z)).all ncV = true
  rw [List.all_map]
  exact List.all_eq_true.mpr fun _ _ => rfl
theorem nc_data {xs : List D} (h : noClos xs = true) : ncO (.lst (xs.map .p)) = true := by
  show (xs.map DV.p).all ncV = true
  rw [List.all_map]
  induction xs with
  | nil => rfl
  | cons x xs ih =>
    have h : (noClo x && noClos xs) = true := h
    rw [Bool.and_eq_true] at h
    rw [List.all_cons, ih h.2]
    show (noClo x && true) = true
    rw [h.1]; rfl
structure Dn (Ts : List O) (n : Nat) (sv : DV) (B : List O) : Prop where
  b : Db Ts n sv B
  nc : ncM B = true
theorem wp_takeN {Ts : List O} {n : Nat} {sv : DV} {R B : List O} {most : Int} {P : DV → List O → Prop} (h : Dn Ts n sv B) (hm : most < 18446744073709551616) (k : ∀ r B', Dn Ts n sv B' → (most < 1 → r = 0) → (1 ≤ most → 0 ≤ r ∧ r < most) → P (.p (.int r)) (B' ++ R)) : wpB (takeM [sv, .p (.int most)] (B ++ R)) P := by
  obtain ⟨h, nc⟩ := h
  obtain ⟨kk, c, i, cells, rfl, k0, c0, hk, hc, kc, hi, ne, nn⟩ := h.ex
  have lk := (List.getElem?_eq_some_iff.mp hk).1
  have lc := (List.getElem?_eq_some_iff.mp hc).1
  obtain ⟨r, M', e, d, b0, b⟩ := take_raw (M := B ++ R) (by rw [List.getElem?_append_left lk]; exact hk) (by rw [List.getElem?_append_left lc]; exact hc) kc hi ne nn most hm
  refine ⟨_, _, e, ?_⟩
  rcases d with rfl | ⟨cells', rfl, ne', nn'⟩ | rfl
  · exact k r _ ⟨h, nc⟩ b0 b
  · rw [List.set_append_left _ _ lc]
    exact k r _ ⟨⟨by rw [List.length_set]; exact h.len, fun j hj => by rw [List.getElem?_set_ne (by omega)]; exact h.tb j hj, all_set h.cl (closed_ints n _) c, kk, c, i, cells', rfl, k0, c0, by rw [List.getElem?_set_ne kc.symm]; exact hk, by rw [List.getElem?_set_self lc], kc, hi, ne', nn'⟩, ncM_set nc (nc_ints _)⟩ b0 b
  · rw [List.set_append_left _ _ lk]
    exact k r _ ⟨⟨by rw [List.length_set]; exact h.len, fun j hj => by rw [List.getElem?_set_ne (by omega)]; exact h.tb j hj, all_set h.cl (show closed n (.lst [.p (.int (i + 1)), .o c]) = true from (List.all_eq_true.mp h.cl _ (List.mem_of_getElem? hk) : closed n (.lst [.p (.int i), .o c]) = true)) kk, kk, c, i + 1, cells, rfl, k0, c0, by rw [List.getElem?_set_self lk], by rw [List.getElem?_set_ne kc]; exact hc, kc, by omega, ne, nn⟩, ncM_set nc rfl⟩ b0 b
theorem state_TsN (Ts : List O) (hT : ∀ o ∈ Ts, ∃ P q, o = O.tbl P q) (ns : List Int) (hl : ns.length ≤ 63) : ∃ n sv B, stateM [.p (.scr (ns.map .int))] Ts = some (.ok sv B) ∧ Dn Ts n sv B := by
  have hcl : ∀ m, Ts.all (closed m) = true := fun m => List.all_eq_true.mpr fun o ho => by
    obtain ⟨P, q, rfl⟩ := hT o ho; rfl
  have hnc : ncM Ts = true := List.all_eq_true.mpr fun o ho => by
    obtain ⟨P, q, rfl⟩ := hT o ho; rfl
  have hc : slE (.scr (ns.map D.int)) none (some 63) = some (.lst (ns.map D.int)) := by
    show some (D.lst (cutD (ns.map D.int) none (some 63))) = _
    rw [cut63 _ (by simpa using hl)]
  have hm : compL [some (.p (.scr (ns.map .int))), none, none] (gN 2) tYesM (mCB (g1 dAbs) (aCons (mVar 2) aNil)) ((ns.map D.int).map DV.p) [] Ts = some ((ns.map iabs).map D.int, Ts) := by
    rw [compL_map (f := fun d => match d with | .p (.int i) => .int (iabs i) | _ => .non) ((ns.map D.int).map DV.p) (fun d hd => by
      rw [List.map_map] at hd
      obtain ⟨i, _, rfl⟩ := List.mem_map.mp hd
      exact ⟨_, rfl, rfl, by simp [e_bnd, iabs]⟩) (by simp; omega)]
    simp
  have dr : ∀ (j : Nat) (M : List O), Ts.length ≤ j → dropM Ts.length (.o j) M = M := fun j M hj => by
    unfold dropM
    have : ltO Ts.length (.o j) = false := by simp [ltO]; omega
    rw [this]; rfl
  by_cases he : ns = []
  · refine ⟨Ts.length + 3, .o (Ts.length + 2), Ts ++ [.lst [], .lst [.p (.int 0)], .lst [.p (.int 0), .o (Ts.length + 1)]], ?_, ⟨by simp, fun i hi => by rw [List.getElem?_append_left hi], ?_, Ts.length + 2, Ts.length + 1, 0, [0], rfl, by omega, by omega, ?_, ?_, by omega, by decide, by simp, by simp⟩, by rw [ncM_app, hnc]; rfl⟩
    · subst he
      simp only [List.map_nil] at hc hm
      simp [e_bnd, e_seq, e_lift, e_runA, e_runB, stateM, stateB, hc, hm, dr]
    · rw [List.all_append, hcl, Bool.true_and]
      simp [closed, ltO]
    · rw [List.getElem?_append_right (by omega)]; simp
    · rw [List.getElem?_append_right (by omega)]; simp [intL]
  · refine ⟨Ts.length + 2, .o (Ts.length + 1), Ts ++ [.lst ((ns.map iabs).map fun z => .p (.int z)), .lst [.p (.int 0), .o Ts.length]], ?_, ⟨by simp, fun i hi => by rw [List.getElem?_append_left hi], ?_, Ts.length + 1, Ts.length, 0, ns.map iabs, rfl, by omega, by omega, ?_, ?_, by omega, by decide, by simpa using he, ?_⟩, by
      rw [ncM_app, hnc, Bool.true_and]
      show (ncO (intL (ns.map iabs)) && true) = true
      rw [nc_ints]; rfl⟩
    · generalize hA : (ns.map iabs) = A at hm
      have hA' : A ≠ [] := by rw [← hA]; simpa using he
      have hA2 : ¬ A.length = 0 := by
        intro h; exact hA' (List.length_eq_zero_iff.mp h)
      generalize hB : ns.map D.int = B at hm hc
      simp [e_bnd, e_seq, e_lift, e_runA, e_runB, stateM, stateB, hc, hm, dr, hA', hA2]
    · have := closed_ints (Ts.length + 2) (ns.map iabs)
      rw [List.all_append, hcl, Bool.true_and]
      simp only [List.all_cons, List.all_nil, this]
      simp [closed, ltO]
    · rw [List.getElem?_append_right (by omega)]; simp
    · rw [List.getElem?_append_right (by omega)]; simp [intL]
    · intro z hz
      obtain ⟨y, _, rfl⟩ := List.mem_map.mp hz
      unfold iabs
      split <;> omega
end DL
namespace Law
open PySem L2 DL
def topS (i : Nat) : Stmt := PySem.Challenge.pw_labelgrid_k26_graphs.main.body.getD i (.Pass ⟨0, 0, 0, 0⟩)
def k_SHEET : D := (.ktup [(.ktup [(.int 0), (.int 0)]), (.ktup [(.int 25), (.int 98)])])
def k_COLUMNS : D := (.int 26)
def lamNms : List Str := [lamq (PySem.Str.ofString "Graph.reached")]
def CFa (Fa : List Addr) : Prop := Fa.length = 1 ∧ Fa.Nodup
noncomputable def b_Graph___init__ (Ps : List Addr) : SM := (sSeq (sFldM (Ps.getD 0 0) (PySem.Str.ofString "ranges") (mDnew (.dT [])) (mVar 0))
  (sSeq (sFldM (Ps.getD 0 0) (PySem.Str.ofString "_uses") (mDnew (.dT [])) (mVar 0))
  (sSeq (sFldM (Ps.getD 0 0) (PySem.Str.ofString "_cells") (mC (.int 0)) (mVar 0))
  (sSeq (sFldM (Ps.getD 0 0) (PySem.Str.ofString "_by_column") (mRepO (disp .lst (aCons (mC (.int 0)) aNil)) (mBin dAdd (mIx (mIx (mC k_SHEET) (mC (.int 1))) (mC (.int 0))) (mC (.int 1)))) (mVar 0))
  (sFldM (Ps.getD 0 0) (PySem.Str.ofString "_by_row") (mRepO (disp .lst (aCons (mC (.int 0)) aNil)) (mBin dAdd (mIx (mIx (mC k_SHEET) (mC (.int 1))) (mC (.int 1))) (mC (.int 1)))) (mVar 0))))))
noncomputable def m_Graph___init__ (Ps : List Addr) : List DV → List O → Option (Rs DV) := runB 1 (b_Graph___init__ Ps)
noncomputable def b_address_at : SM := (sRet (disp .tup (aCons (mBin dMod (mVar 0) (mC k_COLUMNS)) (aCons (mBin dDiv (mVar 0) (mC k_COLUMNS)) aNil))))
noncomputable def m_address_at : MA := runA 1 b_address_at
noncomputable def b_cells_in : SM := (sSeq (sAsg (dispO aNil) (gN 1))
  (sSeq (sWhile 3000 (mBin dNe (mVar 0) (mC (.int 0))) (sSeq (sAsg (mBin dBand (mVar 0) (mUn dNeg (mVar 0))) (gN 2))
  (sSeq (sExpr (mMth "list" gApp (mVar 1) (aCons (mCallA 1 m_address_at (aCons (mBin dSub (mBits (mVar 2)) (mC (.int 1))) aNil)) aNil)))
  (sAsg (mBin dBxor (mVar 0) (mVar 2)) (gN 0)))))
  (sRet (mFrz (mVar 1)))))
noncomputable def m_cells_in : MA := runA 3 b_cells_in
noncomputable def b_Graph_formulas (Ps : List Addr) : SM := (sRet (mCallA 1 m_cells_in (aCons (mFld (Ps.getD 0 0) (PySem.Str.ofString "_cells") (mVar 0)) aNil)))
noncomputable def m_Graph_formulas (Ps : List Addr) : List DV → List O → Option (Rs DV) := runB 1 (b_Graph_formulas Ps)
noncomputable def b_index_of : SM := (sRet (mBin dAdd (mBin dMul (mIx (mVar 0) (mC (.int 1))) (mC k_COLUMNS)) (mIx (mVar 0) (mC (.int 0)))))
noncomputable def m_index_of : MA := runA 1 b_index_of
noncomputable def b_bit_of : SM := (sRet (mBin dShl (mC (.int 1)) (mCallA 1 m_index_of (aCons (mVar 0) aNil))))
noncomputable def m_bit_of : MA := runA 1 b_bit_of
noncomputable def b_Graph_remove (Ps : List Addr) : SM := (sSeq (sIf (mDin true (mVar 1) (mFld (Ps.getD 0 0) (PySem.Str.ofString "ranges") (mVar 0))) sRetN sNil)
  (sSeq (sAsg (mUn dInv (mCallA 1 m_bit_of (aCons (mVar 1) aNil))) (gN 2))
  (sSeq (sDel (mFld (Ps.getD 0 0) (PySem.Str.ofString "ranges") (mVar 0)) (mVar 1))
  (sSeq (sDel (mFld (Ps.getD 0 0) (PySem.Str.ofString "_uses") (mVar 0)) (mVar 1))
  (sSeq (sFldM (Ps.getD 0 0) (PySem.Str.ofString "_cells") (mBin dBand (mFld (Ps.getD 0 0) (PySem.Str.ofString "_cells") (mVar 0)) (mVar 2)) (mVar 0))
  (sSeq (sFldM (Ps.getD 0 0) (PySem.Str.ofString "_by_column") (mLcO (mItD itL (mFrz (mFld (Ps.getD 0 0) (PySem.Str.ofString "_by_column") (mVar 0)))) [3] (gN 3) tYesM (mBin dBand (mVar 3) (mVar 2))) (mVar 0))
  (sFldM (Ps.getD 0 0) (PySem.Str.ofString "_by_row") (mLcO (mItD itL (mFrz (mFld (Ps.getD 0 0) (PySem.Str.ofString "_by_row") (mVar 0)))) [3] (gN 3) tYesM (mBin dBand (mVar 3) (mVar 2))) (mVar 0))))))))
noncomputable def m_Graph_remove (Ps : List Addr) : List DV → List O → Option (Rs DV) := runB 4 (b_Graph_remove Ps)
noncomputable def b_mask_of : SM := (sSeq (sAsg (mVar 0) (gT 2 (gsCons (gT 2 (gsCons (gN 1) (gsCons (gN 2) gsNil))) (gsCons (gT 2 (gsCons (gN 3) (gsCons (gN 4) gsNil))) gsNil))))
  (sSeq (sAsg (mBin dSub (mBin dShl (mC (.int 1)) (mBin dAdd (mBin dSub (mVar 3) (mVar 1)) (mC (.int 1)))) (mC (.int 1))) (gN 5))
  (sSeq (sAsg (mBin dDiv (mBin dSub (mBin dShl (mC (.int 1)) (mBin dMul (mC k_COLUMNS) (mBin dAdd (mBin dSub (mVar 4) (mVar 2)) (mC (.int 1))))) (mC (.int 1))) (mBin dSub (mBin dShl (mC (.int 1)) (mC k_COLUMNS)) (mC (.int 1)))) (gN 6))
  (sRet (mBin dShl (mBin dMul (mVar 6) (mVar 5)) (mCallA 1 m_index_of (aCons (disp .tup (aCons (mVar 1) (aCons (mVar 2) aNil))) aNil)))))))
noncomputable def m_mask_of : MA := runA 7 b_mask_of
noncomputable def b_mask_of_all : SM := (sSeq (sAsg (mC (.int 0)) (gN 1))
  (sSeq (sFor (mItD itL (mVar 0)) (gN 2) (sAsg (mBin dBor (mVar 1) (mCallA 1 m_mask_of (aCons (mVar 2) aNil))) (gN 1)))
  (sRet (mVar 1))))
noncomputable def m_mask_of_all : MA := runA 3 b_mask_of_all
noncomputable def b_Graph_put (Ps : List Addr) : SM := (sSeq (sExpr (mMeth (Ps.getD 0 0) (PySem.Str.ofString "remove") 1 (m_Graph_remove Ps) (mVar 0) (aCons (mVar 1) aNil)))
  (sSeq (sAsg (mCallA 1 m_bit_of (aCons (mVar 1) aNil)) (gN 3))
  (sSeq (sPut (mCB (g1 dList) (aCons (mVar 2) aNil)) (mFld (Ps.getD 0 0) (PySem.Str.ofString "ranges") (mVar 0)) (mVar 1))
  (sSeq (sPut (mCallA 1 m_mask_of_all (aCons (mVar 2) aNil)) (mFld (Ps.getD 0 0) (PySem.Str.ofString "_uses") (mVar 0)) (mVar 1))
  (sSeq (sFldM (Ps.getD 0 0) (PySem.Str.ofString "_cells") (mBin dBor (mFld (Ps.getD 0 0) (PySem.Str.ofString "_cells") (mVar 0)) (mVar 3)) (mVar 0))
  (sFor (mItD itL (mVar 2)) (gT 2 (gsCons (gT 2 (gsCons (gN 4) (gsCons (gN 5) gsNil))) (gsCons (gT 2 (gsCons (gN 6) (gsCons (gN 7) gsNil))) gsNil))) (sSeq (sFor (mRng rng2D (aCons (mVar 4) (aCons (mBin dAdd (mVar 6) (mC (.int 1))) aNil))) (gN 8) (sAsg (mBin dBor (mIx (mFld (Ps.getD 0 0) (PySem.Str.ofString "_by_column") (mVar 0)) (mVar 8)) (mVar 3)) (gSet (mFld (Ps.getD 0 0) (PySem.Str.ofString "_by_column") (mVar 0)) (mVar 8))))
  (sFor (mRng rng2D (aCons (mVar 5) (aCons (mBin dAdd (mVar 7) (mC (.int 1))) aNil))) (gN 9) (sAsg (mBin dBor (mIx (mFld (Ps.getD 0 0) (PySem.Str.ofString "_by_row") (mVar 0)) (mVar 9)) (mVar 3)) (gSet (mFld (Ps.getD 0 0) (PySem.Str.ofString "_by_row") (mVar 0)) (mVar 9)))))))))))
noncomputable def m_Graph_put (Ps : List Addr) : List DV → List O → Option (Rs DV) := runB 10 (b_Graph_put Ps)
noncomputable def b_Graph_used_cells (Ps : List Addr) : SM := (sRet (mDg2 (mFld (Ps.getD 0 0) (PySem.Str.ofString "_uses") (mVar 0)) (mVar 1) (mC (.int 0))))
noncomputable def m_Graph_used_cells (Ps : List Addr) : List DV → List O → Option (Rs DV) := runB 2 (b_Graph_used_cells Ps)
noncomputable def b_first_in : SM := (sRet (mCallA 1 m_address_at (aCons (mBin dSub (mBits (mBin dBand (mVar 0) (mUn dNeg (mVar 0)))) (mC (.int 1))) aNil)))
noncomputable def m_first_in : MA := runA 1 b_first_in
def lam_0 : LamS := lamS 0 (lamq (PySem.Str.ofString "Graph.reached")) ["self"] (lamNth (inClass (topS 16) 8) 0)
noncomputable def ml_0 (Ps : List Addr) : MBc := lamKB 2 (mMeth (Ps.getD 0 0) (PySem.Str.ofString "used_cells") 1 (m_Graph_used_cells Ps) (mVar 1) (aCons (mVar 0) aNil))
noncomputable def cloT1 (Ps : List Addr) : List (LamS × MBc) := [(lam_0, ml_0 Ps)]
noncomputable def b_spread (Ps : List Addr) : SM := (sSeq (sAsg (mVar 0) (gN 3))
  (sSeq (sAsg (mBin dBand (mVar 0) (mVar 1)) (gN 4))
  (sSeq (sWhile 3000 (mBin dNe (mVar 4) (mC (.int 0))) (sSeq (sAsg (mCallA 1 m_first_in (aCons (mVar 4) aNil)) (gN 5))
  (sSeq (sAsg (mBin dBand (mCallO 2 1 (cloT1 Ps) (aCons (mVar 5) aNil)) (mUn dInv (mVar 3))) (gN 6))
  (sSeq (sAsg (mBin dBor (mVar 3) (mVar 6)) (gN 3))
  (sAsg (mBin dBor (mBin dBxor (mVar 4) (mCallA 1 m_bit_of (aCons (mVar 5) aNil))) (mBin dBand (mVar 6) (mVar 1))) (gN 4))))))
  (sRet (mVar 3)))))
noncomputable def m_spread (Ps : List Addr) : List DV → List O → Option (Rs DV) := runB 7 (b_spread Ps)
noncomputable def b_Graph_reached (Ps : List Addr) : SM := (sSeq (sAsg (mCallLB 0 (Ps.getD 1 0) (lamq (PySem.Str.ofString "Graph.reached")) lam_0 [0] 3 (m_spread Ps) (aCons (mMeth (Ps.getD 0 0) (PySem.Str.ofString "used_cells") 1 (m_Graph_used_cells Ps) (mVar 0) (aCons (mVar 1) aNil)) (aCons (mFld (Ps.getD 0 0) (PySem.Str.ofString "_cells") (mVar 0)) aNil))) (gN 2))
  (sRet (mCallA 1 m_cells_in (aCons (mBin dBand (mVar 2) (mFld (Ps.getD 0 0) (PySem.Str.ofString "_cells") (mVar 0))) aNil))))
noncomputable def m_Graph_reached (Ps : List Addr) : List DV → List O → Option (Rs DV) := runB 3 (b_Graph_reached Ps)
noncomputable def b_Graph__users_of (Ps : List Addr) : SM := (sSeq (sAsg (mVar 1) (gT 2 (gsCons (gT 2 (gsCons (gN 3) (gsCons (gN 4) gsNil))) (gsCons (gT 2 (gsCons (gN 5) (gsCons (gN 6) gsNil))) gsNil))))
  (sSeq (sAsg (mC (.int 0)) (gN 7))
  (sSeq (sFor (mItD itL (mSlO (mFld (Ps.getD 0 0) (PySem.Str.ofString "_by_column") (mVar 0)) (pSome (mVar 3)) (pSome (mBin dAdd (mVar 5) (mC (.int 1)))))) (gN 8) (sAsg (mBin dBor (mVar 7) (mVar 8)) (gN 7)))
  (sSeq (sAsg (mC (.int 0)) (gN 9))
  (sSeq (sFor (mItD itL (mSlO (mFld (Ps.getD 0 0) (PySem.Str.ofString "_by_row") (mVar 0)) (pSome (mVar 4)) (pSome (mBin dAdd (mVar 6) (mC (.int 1)))))) (gN 8) (sAsg (mBin dBor (mVar 9) (mVar 8)) (gN 9)))
  (sSeq (sAsg (mCallA 1 m_mask_of (aCons (mVar 1) aNil)) (gN 10))
  (sSeq (sAsg (mC (.int 0)) (gN 11))
  (sSeq (sFor (mItD itL (mCallA 1 m_cells_in (aCons (mBin dBand (mBin dBand (mVar 7) (mVar 9)) (mVar 2)) aNil))) (gN 12) (sIf (mBin dNe (mBin dBand (mDget (mFld (Ps.getD 0 0) (PySem.Str.ofString "_uses") (mVar 0)) (mVar 12)) (mVar 10)) (mC (.int 0))) (sAsg (mBin dBor (mVar 11) (mCallA 1 m_bit_of (aCons (mVar 12) aNil))) (gN 11)) sNil))
  (sRet (mVar 11))))))))))
noncomputable def m_Graph__users_of (Ps : List Addr) : List DV → List O → Option (Rs DV) := runB 13 (b_Graph__users_of Ps)
noncomputable def b_Graph_with_reaching (Ps : List Addr) : SM := (sSeq (sAsg (mVar 1) (gN 3))
  (sSeq (sWhile 3000 (mBin dNe (mVar 3) (mC (.int 0))) (sSeq (sAsg (mCallA 1 m_first_in (aCons (mVar 3) aNil)) (gN 4))
  (sSeq (sAsg (mMeth (Ps.getD 0 0) (PySem.Str.ofString "_users_of") 2 (m_Graph__users_of Ps) (mVar 0) (aCons (disp .tup (aCons (mVar 4) (aCons (mVar 4) aNil))) (aCons (mBin dBand (mVar 2) (mUn dInv (mVar 1))) aNil))) (gN 5))
  (sSeq (sAsg (mBin dBor (mVar 1) (mVar 5)) (gN 1))
  (sAsg (mBin dBor (mBin dBxor (mVar 3) (mCallA 1 m_bit_of (aCons (mVar 4) aNil))) (mVar 5)) (gN 3))))))
  (sRet (mVar 1))))
noncomputable def m_Graph_with_reaching (Ps : List Addr) : List DV → List O → Option (Rs DV) := runB 6 (b_Graph_with_reaching Ps)
noncomputable def b_Graph_reaching (Ps : List Addr) : SM := (sSeq (sAsg (mC (.int 0)) (gN 2))
  (sSeq (sFor (mItD itL (mVar 1)) (gN 3) (sAsg (mBin dBor (mVar 2) (mMeth (Ps.getD 0 0) (PySem.Str.ofString "_users_of") 2 (m_Graph__users_of Ps) (mVar 0) (aCons (mVar 3) (aCons (mBin dBand (mFld (Ps.getD 0 0) (PySem.Str.ofString "_cells") (mVar 0)) (mUn dInv (mVar 2))) aNil)))) (gN 2)))
  (sRet (mCallA 1 m_cells_in (aCons (mMeth (Ps.getD 0 0) (PySem.Str.ofString "with_reaching") 2 (m_Graph_with_reaching Ps) (mVar 0) (aCons (mVar 2) (aCons (mFld (Ps.getD 0 0) (PySem.Str.ofString "_cells") (mVar 0)) aNil))) aNil)))))
noncomputable def m_Graph_reaching (Ps : List Addr) : List DV → List O → Option (Rs DV) := runB 4 (b_Graph_reaching Ps)
noncomputable def b_Graph_used_formulas (Ps : List Addr) : SM := (sRet (mCallA 1 m_cells_in (aCons (mBin dBand (mMeth (Ps.getD 0 0) (PySem.Str.ofString "used_cells") 1 (m_Graph_used_cells Ps) (mVar 0) (aCons (mVar 1) aNil)) (mFld (Ps.getD 0 0) (PySem.Str.ofString "_cells") (mVar 0))) aNil)))
noncomputable def m_Graph_used_formulas (Ps : List Addr) : List DV → List O → Option (Rs DV) := runB 2 (b_Graph_used_formulas Ps)
noncomputable def b_Graph_users_of (Ps : List Addr) : SM := (sRet (mCallA 1 m_cells_in (aCons (mMeth (Ps.getD 0 0) (PySem.Str.ofString "_users_of") 2 (m_Graph__users_of Ps) (mVar 0) (aCons (mVar 1) (aCons (mFld (Ps.getD 0 0) (PySem.Str.ofString "_cells") (mVar 0)) aNil))) aNil)))
noncomputable def m_Graph_users_of (Ps : List Addr) : List DV → List O → Option (Rs DV) := runB 2 (b_Graph_users_of Ps)
noncomputable def b_inside : SM := (sSeq (sAsg (mVar 1) (gT 2 (gsCons (gN 2) (gsCons (gN 3) gsNil))))
  (sRet (mAnd (mChain dLe dLe (mIx (mVar 2) (mC (.int 0))) (mIx (mVar 0) (mC (.int 0))) (mIx (mVar 3) (mC (.int 0)))) (mChain dLe dLe (mIx (mVar 2) (mC (.int 1))) (mIx (mVar 0) (mC (.int 1))) (mIx (mVar 3) (mC (.int 1)))))))
noncomputable def m_inside : MA := runA 4 b_inside
noncomputable def b_Graph_uses (Ps : List Addr) : SM := (sRet (mCB (g1 dAny) (aCons (mLc (mItD itL (mDg2 (mFld (Ps.getD 0 0) (PySem.Str.ofString "ranges") (mVar 0)) (mVar 1) (disp .lst aNil))) [3] (gN 3) tYesM (mCallA 2 m_inside (aCons (mVar 2) (aCons (mVar 3) aNil)))) aNil)))
noncomputable def m_Graph_uses (Ps : List Addr) : List DV → List O → Option (Rs DV) := runB 4 (b_Graph_uses Ps)
noncomputable def b_l_take : SM := (sSeq (sIf (mBin dLt (mVar 1) (mC (.int 1))) (sRet (mC (.int 0))) sNil)
  (sSeq (sAsg (mIx (mVar 0) (mC (.int 1))) (gN 2))
  (sSeq (sAsg (mBin dMod (mIx (mVar 0) (mC (.int 0))) (mCB dLen (aCons (mVar 2) aNil))) (gN 3))
  (sSeq (sAsg (mIx (mVar 2) (mVar 3)) (gN 4))
  (sSeq (sIf (mBin dGe (mVar 4) (mC (.int 1000000000000000000))) (sSeq (sAsg (mBin dDiv (mVar 4) (mVar 1)) (gSet (mVar 2) (mVar 3)))
  (sRet (mBin dMod (mVar 4) (mVar 1)))) sNil)
  (sSeq (sAsg (mBin dAdd (mIx (mVar 0) (mC (.int 0))) (mC (.int 1))) (gSet (mVar 0) (mC (.int 0))))
  (sSeq (sAsg (mBin dMod (mCB (g1 dInt) (aCons (mBin dAdd (mBin dMul (mVar 4) (mC (.int 48271))) (mBin dMul (mIx (mVar 0) (mC (.int 0))) (mC (.int 69621)))) aNil)) (mC (.int 2147483647))) (gN 5))
  (sSeq (sAsg (mBin dMod (mCB (g1 dInt) (aCons (mBin dAdd (mBin dMul (mVar 5) (mC (.int 16807))) (mBin dMul (mIx (mVar 0) (mC (.int 0))) (mC (.int 7919)))) aNil)) (mC (.int 1000000007))) (gN 5))
  (sRet (mBin dMod (mBin dDiv (mVar 5) (mC (.int 7))) (mVar 1)))))))))))
noncomputable def m_l_take : List DV → List O → Option (Rs DV) := runB 6 b_l_take
noncomputable def b_l_address : SM := (sRet (disp .tup (aCons (mIx (disp .lst (aCons (mC (.int 0)) (aCons (mC (.int 1)) (aCons (mC (.int 2)) (aCons (mC (.int 3)) (aCons (mC (.int 25)) aNil)))))) (mIx (disp .lst (aCons (mC (.int 0)) (aCons (mC (.int 0)) (aCons (mC (.int 1)) (aCons (mC (.int 1)) (aCons (mC (.int 2)) (aCons (mC (.int 2)) (aCons (mC (.int 3)) (aCons (mC (.int 4)) aNil))))))))) (mCallB 2 m_l_take (aCons (mVar 0) (aCons (mC (.int 8)) aNil))))) (aCons (mIx (disp .lst (aCons (mC (.int 0)) (aCons (mC (.int 1)) (aCons (mC (.int 2)) (aCons (mC (.int 3)) (aCons (mC (.int 98)) aNil)))))) (mIx (disp .lst (aCons (mC (.int 0)) (aCons (mC (.int 0)) (aCons (mC (.int 1)) (aCons (mC (.int 1)) (aCons (mC (.int 2)) (aCons (mC (.int 2)) (aCons (mC (.int 3)) (aCons (mC (.int 4)) aNil))))))))) (mCallB 2 m_l_take (aCons (mVar 0) (aCons (mC (.int 8)) aNil))))) aNil))))
noncomputable def m_l_address : List DV → List O → Option (Rs DV) := runB 1 b_l_address
noncomputable def b_l_near : SM := (sRet (disp .tup (aCons (mCallB 2 m_l_take (aCons (mVar 0) (aCons (mC (.int 3)) aNil))) (aCons (mCallB 2 m_l_take (aCons (mVar 0) (aCons (mC (.int 4)) aNil))) aNil))))
noncomputable def m_l_near : List DV → List O → Option (Rs DV) := runB 1 b_l_near
noncomputable def b_l_area : SM := (sSeq (sPar 1 2 (aCons (mCallB 1 m_l_near (aCons (mVar 0) aNil)) (aCons (mCallB 1 m_l_near (aCons (mVar 0) aNil)) aNil)))
  (sRet (disp .tup (aCons (disp .tup (aCons (mCB dMin2 (aCons (mIx (mVar 1) (mC (.int 0))) (aCons (mIx (mVar 2) (mC (.int 0))) aNil))) (aCons (mCB dMin2 (aCons (mIx (mVar 1) (mC (.int 1))) (aCons (mIx (mVar 2) (mC (.int 1))) aNil))) aNil))) (aCons (disp .tup (aCons (mCB dMax2 (aCons (mIx (mVar 1) (mC (.int 0))) (aCons (mIx (mVar 2) (mC (.int 0))) aNil))) (aCons (mCB dMax2 (aCons (mIx (mVar 1) (mC (.int 1))) (aCons (mIx (mVar 2) (mC (.int 1))) aNil))) aNil))) aNil)))))
noncomputable def m_l_area : List DV → List O → Option (Rs DV) := runB 3 b_l_area
noncomputable def b_l_cells : SM := (sSeq (sAsg (disp .lst aNil) (gN 1))
  (sSeq (sFor (mRng rng2D (aCons (mIx (mIx (mVar 0) (mC (.int 0))) (mC (.int 0))) (aCons (mBin dAdd2 (mIx (mIx (mVar 0) (mC (.int 1))) (mC (.int 0))) (mC (.int 1))) aNil))) (gN 2) (sAsg (mBin dAdd2 (mVar 1) (mLc (mRng rng2D (aCons (mIx (mIx (mVar 0) (mC (.int 0))) (mC (.int 1))) (aCons (mBin dAdd2 (mIx (mIx (mVar 0) (mC (.int 1))) (mC (.int 1))) (mC (.int 1))) aNil))) [3] (gN 3) tYesM (disp .tup (aCons (mVar 2) (aCons (mVar 3) aNil))))) (gN 1)))
  (sRet (mVar 1))))
noncomputable def m_l_cells : MA := runA 4 b_l_cells
noncomputable def b_l_order : SM := (sSeq (sAsg (mCB (g1 dSort) (aCons (mLc (mItD itA (mVar 0)) [2] (gN 2) tYesM (disp .tup (aCons (mIx (mVar 2) (mC (.int 1))) (aCons (mIx (mVar 2) (mC (.int 0))) aNil)))) aNil)) (gN 1))
  (sRet (mLc (mItD itL (mVar 1)) [3, 4] (gT 2 (gsCons (gN 3) (gsCons (gN 4) gsNil))) tYesM (disp .tup (aCons (mVar 4) (aCons (mVar 3) aNil))))))
noncomputable def m_l_order : MA := runA 5 b_l_order
noncomputable def b_l_has : SM := (sSeq (sAsg (mVar 0) (gT 2 (gsCons (gN 2) (gsCons (gN 3) gsNil))))
  (sRet (mAnd (mBin dLe (mIx (mVar 2) (mC (.int 0))) (mIx (mVar 1) (mC (.int 0)))) (mAnd (mBin dLe (mIx (mVar 1) (mC (.int 0))) (mIx (mVar 3) (mC (.int 0)))) (mAnd (mBin dLe (mIx (mVar 2) (mC (.int 1))) (mIx (mVar 1) (mC (.int 1)))) (mBin dLe (mIx (mVar 1) (mC (.int 1))) (mIx (mVar 3) (mC (.int 1)))))))))
noncomputable def m_l_has : MA := runA 4 b_l_has
noncomputable def b_l_uses_it : SM := (sRet (mBin dGt (mCB dLen (aCons (mLc (mItD itL (mDg2 (mVar 0) (mVar 1) (disp .lst aNil))) [3] (gN 3) (mTru (mCallA 2 m_l_has (aCons (mVar 3) (aCons (mVar 2) aNil)))) (mVar 3)) aNil)) (mC (.int 0))))
noncomputable def m_l_uses_it : MA := runA 4 b_l_uses_it
noncomputable def b_l_reached : SM := (sSeq (sAsg (disp .lst aNil) (gN 2))
  (sSeq (sAsg (disp .lst (aCons (mVar 1) aNil)) (gN 3))
  (sSeq (sWhile 3000 (mBin dGt (mCB dLen (aCons (mVar 3) aNil)) (mC (.int 0))) (sSeq (sAsg (dispO aNil) (gN 4))
  (sSeq (sFor (mItD itKD (mVar 0)) (gN 5) (sIf (mAnd (mBin dNin (mVar 5) (mVar 2)) (mBin dGt (mCB dLen (aCons (mLc (mItD itL (mVar 3)) [6] (gN 6) (mTru (mCallA 3 m_l_uses_it (aCons (mVar 0) (aCons (mVar 6) (aCons (mVar 5) aNil))))) (mVar 6)) aNil)) (mC (.int 0)))) (sExpr (mMth "list" gApp (mVar 4) (aCons (mVar 5) aNil))) sNil))
  (sSeq (sFrz 4) (sSeq (sAsg (mBin dAdd2 (mVar 2) (mFrz (mVar 4))) (gN 2))
  (sAsg (mFrz (mVar 4)) (gN 3)))))))
  (sRet (mCallA 1 m_l_order (aCons (mVar 2) aNil))))))
noncomputable def m_l_reached : MA := runA 7 b_l_reached
noncomputable def b_l_users : SM := (sSeq (sAsg (mLc (mItD itKD (mVar 0)) [3] (gN 3) (mBin dGt (mCB dLen (aCons (mLc (mItD itL (mVar 1)) [4] (gN 4) (mTru (mCallA 3 m_l_uses_it (aCons (mVar 0) (aCons (mVar 3) (aCons (mVar 4) aNil))))) (mVar 4)) aNil)) (mC (.int 0))) (mVar 3)) (gN 2))
  (sRet (mCallA 1 m_l_order (aCons (mVar 2) aNil))))
noncomputable def m_l_users : MA := runA 5 b_l_users
noncomputable def b_l_reaching : SM := (sSeq (sAsg (disp .lst aNil) (gN 2))
  (sSeq (sAsg (mCallA 2 m_l_users (aCons (mVar 0) (aCons (mVar 1) aNil))) (gN 3))
  (sSeq (sWhile 3000 (mBin dGt (mCB dLen (aCons (mVar 3) aNil)) (mC (.int 0))) (sSeq (sAsg (mBin dAdd2 (mVar 2) (mVar 3)) (gN 2))
  (sAsg (mLc (mItD itL (mCallA 2 m_l_users (aCons (mVar 0) (aCons (mVar 2) aNil)))) [4] (gN 4) (mBin dNin (mVar 4) (mVar 2)) (mVar 4)) (gN 3))))
  (sRet (mCallA 1 m_l_order (aCons (mVar 2) aNil))))))
noncomputable def m_l_reaching : MA := runA 5 b_l_reaching
noncomputable def b_l_state : SM := (sSeq (sAsg (mLcO (mItD itL (mSlE (mVar 0) pNone (pSome (mC (.int 63))))) [2] (gN 2) tYesM (mCB (g1 dAbs) (aCons (mVar 2) aNil))) (gN 1))
  (sSeq (sIf (mBin dEq (mCB dLen (aCons (mVar 1) aNil)) (mC (.int 0))) (sAsg (dispO (aCons (mC (.int 0)) aNil)) (gN 1)) sNil)
  (sRet (dispO (aCons (mC (.int 0)) (aCons (mVar 1) aNil))))))
noncomputable def m_l_state : List DV → List O → Option (Rs DV) := runB 3 b_l_state
noncomputable def b_law_10 (Ps : List Addr) : SM := (sRet (mC (.bl true)))
noncomputable def b_law_9 (Ps : List Addr) : SM := (sSeq (sFor (mItD itL (mBin dAdd2 (mCallA 1 m_l_order (aCons (mFrz (mVar 3)) aNil)) (disp .lst (aCons (disp .tup (aCons (mC (.int 24)) (aCons (mC (.int 97)) aNil))) aNil)))) (gN 5) (sSeq (sIf (mBin dNe (mMeth (Ps.getD 0 0) (PySem.Str.ofString "reached") 1 (m_Graph_reached Ps) (mVar 2) (aCons (mVar 5) aNil)) (mCallA 2 m_l_reached (aCons (mFrz (mVar 3)) (aCons (mVar 5) aNil)))) (sRet (mC (.bl false))) sNil)
  (sSeq (sAsg (mLc (mItD itKD (mFrz (mVar 3))) [10] (gN 10) (mTru (mCallA 3 m_l_uses_it (aCons (mFrz (mVar 3)) (aCons (mVar 5) (aCons (mVar 10) aNil))))) (mVar 10)) (gN 9))
  (sSeq (sIf (mBin dNe (mMeth (Ps.getD 0 0) (PySem.Str.ofString "used_formulas") 1 (m_Graph_used_formulas Ps) (mVar 2) (aCons (mVar 5) aNil)) (mCallA 1 m_l_order (aCons (mVar 9) aNil))) (sRet (mC (.bl false))) sNil)
  (sSeq (sAsg (mCallB 1 m_l_near (aCons (mVar 1) aNil)) (gN 10))
  (sIf (mBin dNe (mCB (g1 dRepr) (aCons (mMeth (Ps.getD 0 0) (PySem.Str.ofString "uses") 2 (m_Graph_uses Ps) (mVar 2) (aCons (mVar 5) (aCons (mVar 10) aNil))) aNil)) (mCB (g1 dRepr) (aCons (mCallA 3 m_l_uses_it (aCons (mFrz (mVar 3)) (aCons (mVar 5) (aCons (mVar 10) aNil)))) aNil))) (sRet (mC (.bl false))) sNil)))))) (b_law_10 Ps))
noncomputable def b_law_8 (Ps : List Addr) : SM := (sSeq (sIf (mBin dNe (mMeth (Ps.getD 0 0) (PySem.Str.ofString "reaching") 1 (m_Graph_reaching Ps) (mVar 2) (aCons (mVar 6) aNil)) (mCallA 2 m_l_reaching (aCons (mFrz (mVar 3)) (aCons (mVar 7) aNil)))) (sRet (mC (.bl false))) sNil) (b_law_9 Ps))
noncomputable def b_law_7 (Ps : List Addr) : SM := (sSeq (sFor (mItD itL (mVar 6)) (gN 8) (sSeq (sAsg (mBin dAdd2 (mVar 7) (mCallA 1 m_l_cells (aCons (mVar 8) aNil))) (gN 7))
  (sIf (mBin dNe (mMeth (Ps.getD 0 0) (PySem.Str.ofString "users_of") 1 (m_Graph_users_of Ps) (mVar 2) (aCons (mVar 8) aNil)) (mCallA 2 m_l_users (aCons (mFrz (mVar 3)) (aCons (mCallA 1 m_l_cells (aCons (mVar 8) aNil)) aNil)))) (sRet (mC (.bl false))) sNil))) (b_law_8 Ps))
noncomputable def b_law_6 (Ps : List Addr) : SM := (sSeq (sAsg (disp .lst aNil) (gN 7)) (b_law_7 Ps))
noncomputable def b_law_5 (Ps : List Addr) : SM := (sSeq (sAsg (mLc (mRng rng1D (aCons (mCallB 2 m_l_take (aCons (mVar 1) (aCons (mC (.int 3)) aNil))) aNil)) [11] (gN 11) tYesM (mCallB 1 m_l_area (aCons (mVar 1) aNil))) (gN 6)) (b_law_6 Ps))
noncomputable def b_law_4 (Ps : List Addr) : SM := (sSeq (sFrzD 3) (sSeq (sFrzFD 2 (Ps.getD 0 0) (PySem.Str.ofString "ranges")) (sSeq (sIf (mOr (mBin dNe (mMeth (Ps.getD 0 0) (PySem.Str.ofString "formulas") 0 (m_Graph_formulas Ps) (mVar 2) aNil) (mCallA 1 m_l_order (aCons (mFrz (mVar 3)) aNil))) (mBin dNeDt (mFld (Ps.getD 0 0) (PySem.Str.ofString "ranges") (mVar 2)) (mFrz (mVar 3)))) (sRet (mC (.bl false))) sNil) (b_law_5 Ps))))
noncomputable def b_law_3 (Ps : List Addr) : SM := (sSeq (sFor (mRng rng1D (aCons (mCallB 2 m_l_take (aCons (mVar 1) (aCons (mC (.int 12)) aNil))) aNil)) (gN 4) (sSeq (sAsg (mIx (disp .lst (aCons (mCallB 1 m_l_near (aCons (mVar 1) aNil)) (aCons (mCallB 1 m_l_address (aCons (mVar 1) aNil)) aNil))) (mCB (g1 dInt) (aCons (mBin dEq (mCallB 2 m_l_take (aCons (mVar 1) (aCons (mC (.int 4)) aNil))) (mC (.int 0))) aNil))) (gN 5))
  (sIf (mBin dEq (mCallB 2 m_l_take (aCons (mVar 1) (aCons (mC (.int 5)) aNil))) (mC (.int 0))) (sSeq (sExpr (mMeth (Ps.getD 0 0) (PySem.Str.ofString "remove") 1 (m_Graph_remove Ps) (mVar 2) (aCons (mVar 5) aNil)))
  (sIf (mDin false (mVar 5) (mVar 3)) (sExpr (mDpop (mVar 3) (mVar 5))) sNil)) (sSeq (sAsg (mLc (mRng rng1D (aCons (mCallB 2 m_l_take (aCons (mVar 1) (aCons (mC (.int 4)) aNil))) aNil)) [11] (gN 11) tYesM (mCallB 1 m_l_area (aCons (mVar 1) aNil))) (gN 6))
  (sSeq (sExpr (mMeth (Ps.getD 0 0) (PySem.Str.ofString "put") 2 (m_Graph_put Ps) (mVar 2) (aCons (mVar 5) (aCons (mCB (g1 dList) (aCons (mVar 6) aNil)) aNil))))
  (sPut (mVar 6) (mVar 3) (mVar 5))))))) (b_law_4 Ps))
noncomputable def b_law_2 (Ps : List Addr) : SM := (sSeq (sAsg (mDnew (.dT [])) (gN 3)) (b_law_3 Ps))
noncomputable def b_law_1 (Ps : List Addr) : SM := (sSeq (sAsg (mMake (Ps.getD 0 0) 0 (m_Graph___init__ Ps) aNil) (gN 2)) (b_law_2 Ps))
noncomputable def b_law (Ps : List Addr) : SM := (sSeq (sAsg (mCallB 1 m_l_state (aCons (mVar 0) aNil)) (gN 1)) (b_law_1 Ps))
end Law
namespace Law
open PySem L2 DL
abbrev s_Graph___init__ : Stmt := inClass (topS 16) 0
abbrev n_Graph___init__ : List Str := ["self"]
theorem sc_Graph___init__ : FnScope n_Graph___init__ ["self"] (defScope s_Graph___init__) := ⟨rfl, rfl, rfl, by decide +kernel, rfl, by decide +kernel, by decide +kernel⟩
abbrev s_address_at : Stmt := topS 7
abbrev n_address_at : List Str := ["index"]
theorem sc_address_at : FnScope n_address_at ["index"] (defScope s_address_at) := ⟨rfl, rfl, rfl, by decide +kernel, rfl, by decide +kernel, by decide +kernel⟩
abbrev s_cells_in : Stmt := topS 12
abbrev n_cells_in : List Str := ["cells", "found", "lowest"]
theorem sc_cells_in : FnScope n_cells_in ["cells"] (defScope s_cells_in) := ⟨rfl, rfl, rfl, by decide +kernel, rfl, by decide +kernel, by decide +kernel⟩
abbrev s_Graph_formulas : Stmt := inClass (topS 16) 3
abbrev n_Graph_formulas : List Str := ["self"]
theorem sc_Graph_formulas : FnScope n_Graph_formulas ["self"] (defScope s_Graph_formulas) := ⟨rfl, rfl, rfl, by decide +kernel, rfl, by decide +kernel, by decide +kernel⟩
abbrev s_index_of : Stmt := topS 6
abbrev n_index_of : List Str := ["address"]
theorem sc_index_of : FnScope n_index_of ["address"] (defScope s_index_of) := ⟨rfl, rfl, rfl, by decide +kernel, rfl, by decide +kernel, by decide +kernel⟩
abbrev s_bit_of : Stmt := topS 8
abbrev n_bit_of : List Str := ["address"]
theorem sc_bit_of : FnScope n_bit_of ["address"] (defScope s_bit_of) := ⟨rfl, rfl, rfl, by decide +kernel, rfl, by decide +kernel, by decide +kernel⟩
abbrev s_Graph_remove : Stmt := inClass (topS 16) 2
abbrev n_Graph_remove : List Str := ["self", "address", "others", "users"]
theorem sc_Graph_remove : FnScope n_Graph_remove ["self", "address"] (defScope s_Graph_remove) := ⟨rfl, rfl, rfl, by decide +kernel, rfl, by decide +kernel, by decide +kernel⟩
abbrev s_mask_of : Stmt := topS 9
abbrev n_mask_of : List Str := ["area", "left", "top", "right", "bottom", "in_row", "starts"]
theorem sc_mask_of : FnScope n_mask_of ["area"] (defScope s_mask_of) := ⟨rfl, rfl, rfl, by decide +kernel, rfl, by decide +kernel, by decide +kernel⟩
abbrev s_mask_of_all : Stmt := topS 10
abbrev n_mask_of_all : List Str := ["areas", "cells", "area"]
theorem sc_mask_of_all : FnScope n_mask_of_all ["areas"] (defScope s_mask_of_all) := ⟨rfl, rfl, rfl, by decide +kernel, rfl, by decide +kernel, by decide +kernel⟩
abbrev s_Graph_put : Stmt := inClass (topS 16) 1
abbrev n_Graph_put : List Str := ["self", "address", "ranges", "bit", "left", "top", "right", "bottom", "column", "row"]
theorem sc_Graph_put : FnScope n_Graph_put ["self", "address", "ranges"] (defScope s_Graph_put) := ⟨rfl, rfl, rfl, by decide +kernel, rfl, by decide +kernel, by decide +kernel⟩
abbrev s_Graph_used_cells : Stmt := inClass (topS 16) 9
abbrev n_Graph_used_cells : List Str := ["self", "address"]
theorem sc_Graph_used_cells : FnScope n_Graph_used_cells ["self", "address"] (defScope s_Graph_used_cells) := ⟨rfl, rfl, rfl, by decide +kernel, rfl, by decide +kernel, by decide +kernel⟩
abbrev s_first_in : Stmt := topS 11
abbrev n_first_in : List Str := ["cells"]
theorem sc_first_in : FnScope n_first_in ["cells"] (defScope s_first_in) := ⟨rfl, rfl, rfl, by decide +kernel, rfl, by decide +kernel, by decide +kernel⟩
abbrev s_spread : Stmt := topS 14
abbrev n_spread : List Str := ["first", "formulas", "uses_at", "found", "waiting", "cell", "further"]
theorem sc_spread : FnScope n_spread ["first", "formulas", "uses_at"] (defScope s_spread) := ⟨rfl, rfl, rfl, by decide +kernel, rfl, by decide +kernel, by decide +kernel⟩
abbrev s_Graph_reached : Stmt := inClass (topS 16) 8
abbrev n_Graph_reached : List Str := ["self", "address", "found"]
theorem sc_Graph_reached : FnScope n_Graph_reached ["self", "address"] (defScope s_Graph_reached) := ⟨rfl, rfl, rfl, by decide +kernel, rfl, by decide +kernel, by decide +kernel⟩
abbrev s_Graph__users_of : Stmt := inClass (topS 16) 13
abbrev n_Graph__users_of : List Str := ["self", "area", "among", "left", "top", "right", "bottom", "in_columns", "users", "in_rows", "wanted", "found", "address"]
theorem sc_Graph__users_of : FnScope n_Graph__users_of ["self", "area", "among"] (defScope s_Graph__users_of) := ⟨rfl, rfl, rfl, by decide +kernel, rfl, by decide +kernel, by decide +kernel⟩
abbrev s_Graph_with_reaching : Stmt := inClass (topS 16) 12
abbrev n_Graph_with_reaching : List Str := ["self", "found", "within", "waiting", "cell", "further"]
theorem sc_Graph_with_reaching : FnScope n_Graph_with_reaching ["self", "found", "within"] (defScope s_Graph_with_reaching) := ⟨rfl, rfl, rfl, by decide +kernel, rfl, by decide +kernel, by decide +kernel⟩
abbrev s_Graph_reaching : Stmt := inClass (topS 16) 7
abbrev n_Graph_reaching : List Str := ["self", "areas", "found", "area"]
theorem sc_Graph_reaching : FnScope n_Graph_reaching ["self", "areas"] (defScope s_Graph_reaching) := ⟨rfl, rfl, rfl, by decide +kernel, rfl, by decide +kernel, by decide +kernel⟩
abbrev s_Graph_used_formulas : Stmt := inClass (topS 16) 6
abbrev n_Graph_used_formulas : List Str := ["self", "address"]
theorem sc_Graph_used_formulas : FnScope n_Graph_used_formulas ["self", "address"] (defScope s_Graph_used_formulas) := ⟨rfl, rfl, rfl, by decide +kernel, rfl, by decide +kernel, by decide +kernel⟩
abbrev s_Graph_users_of : Stmt := inClass (topS 16) 5
abbrev n_Graph_users_of : List Str := ["self", "area"]
theorem sc_Graph_users_of : FnScope n_Graph_users_of ["self", "area"] (defScope s_Graph_users_of) := ⟨rfl, rfl, rfl, by decide +kernel, rfl, by decide +kernel, by decide +kernel⟩
abbrev s_inside : Stmt := topS 3
abbrev n_inside : List Str := ["address", "area", "first", "last"]
theorem sc_inside : FnScope n_inside ["address", "area"] (defScope s_inside) := ⟨rfl, rfl, rfl, by decide +kernel, rfl, by decide +kernel, by decide +kernel⟩
abbrev s_Graph_uses : Stmt := inClass (topS 16) 4
abbrev n_Graph_uses : List Str := ["self", "address", "other", "area"]
theorem sc_Graph_uses : FnScope n_Graph_uses ["self", "address", "other"] (defScope s_Graph_uses) := ⟨rfl, rfl, rfl, by decide +kernel, rfl, by decide +kernel, by decide +kernel⟩
abbrev s_l_take : Stmt := topS 19
abbrev n_l_take : List Str := ["state", "most", "cells", "at", "cell", "mixed"]
theorem sc_l_take : FnScope n_l_take ["state", "most"] (defScope s_l_take) := ⟨rfl, rfl, rfl, by decide +kernel, rfl, by decide +kernel, by decide +kernel⟩
abbrev s_l_address : Stmt := topS 21
abbrev n_l_address : List Str := ["state"]
theorem sc_l_address : FnScope n_l_address ["state"] (defScope s_l_address) := ⟨rfl, rfl, rfl, by decide +kernel, rfl, by decide +kernel, by decide +kernel⟩
abbrev s_l_near : Stmt := topS 22
abbrev n_l_near : List Str := ["state"]
theorem sc_l_near : FnScope n_l_near ["state"] (defScope s_l_near) := ⟨rfl, rfl, rfl, by decide +kernel, rfl, by decide +kernel, by decide +kernel⟩
abbrev s_l_area : Stmt := topS 23
abbrev n_l_area : List Str := ["state", "one", "other"]
theorem sc_l_area : FnScope n_l_area ["state"] (defScope s_l_area) := ⟨rfl, rfl, rfl, by decide +kernel, rfl, by decide +kernel, by decide +kernel⟩
abbrev s_l_cells : Stmt := topS 30
abbrev n_l_cells : List Str := ["area", "found", "column", "row"]
theorem sc_l_cells : FnScope n_l_cells ["area"] (defScope s_l_cells) := ⟨rfl, rfl, rfl, by decide +kernel, rfl, by decide +kernel, by decide +kernel⟩
abbrev s_l_order : Stmt := topS 25
abbrev n_l_order : List Str := ["addresses", "pairs", "address", "row", "column"]
theorem sc_l_order : FnScope n_l_order ["addresses"] (defScope s_l_order) := ⟨rfl, rfl, rfl, by decide +kernel, rfl, by decide +kernel, by decide +kernel⟩
abbrev s_l_has : Stmt := topS 24
abbrev n_l_has : List Str := ["area", "address", "first", "last"]
theorem sc_l_has : FnScope n_l_has ["area", "address"] (defScope s_l_has) := ⟨rfl, rfl, rfl, by decide +kernel, rfl, by decide +kernel, by decide +kernel⟩
abbrev s_l_uses_it : Stmt := topS 28
abbrev n_l_uses_it : List Str := ["ranges", "address", "other", "area"]
theorem sc_l_uses_it : FnScope n_l_uses_it ["ranges", "address", "other"] (defScope s_l_uses_it) := ⟨rfl, rfl, rfl, by decide +kernel, rfl, by decide +kernel, by decide +kernel⟩
abbrev s_l_reached : Stmt := topS 32
abbrev n_l_reached : List Str := ["ranges", "address", "found", "last", "fresh", "other", "one"]
theorem sc_l_reached : FnScope n_l_reached ["ranges", "address"] (defScope s_l_reached) := ⟨rfl, rfl, rfl, by decide +kernel, rfl, by decide +kernel, by decide +kernel⟩
abbrev s_l_users : Stmt := topS 29
abbrev n_l_users : List Str := ["ranges", "cells", "found", "address", "other"]
theorem sc_l_users : FnScope n_l_users ["ranges", "cells"] (defScope s_l_users) := ⟨rfl, rfl, rfl, by decide +kernel, rfl, by decide +kernel, by decide +kernel⟩
abbrev s_l_reaching : Stmt := topS 31
abbrev n_l_reaching : List Str := ["ranges", "cells", "found", "fresh", "address"]
theorem sc_l_reaching : FnScope n_l_reaching ["ranges", "cells"] (defScope s_l_reaching) := ⟨rfl, rfl, rfl, by decide +kernel, rfl, by decide +kernel, by decide +kernel⟩
abbrev s_l_state : Stmt := topS 18
abbrev n_l_state : List Str := ["script", "cells", "cell"]
theorem sc_l_state : FnScope n_l_state ["script"] (defScope s_l_state) := ⟨rfl, rfl, rfl, by decide +kernel, rfl, by decide +kernel, by decide +kernel⟩
abbrev s_law : Stmt := topS 33
abbrev n_law : List Str := ["script", "state", "graph", "ranges", "turn", "address", "areas", "cells", "area", "used", "other", "k"]
theorem sc_law : FnScope n_law ["script"] (defScope s_law) := ⟨rfl, rfl, rfl, by decide +kernel, rfl, by decide +kernel, by decide +kernel⟩
structure Tx (K : PySem.W.Frag) (w : World) (mg : Str → Option Value) where
  k_Graph : Kl K mg "Graph" [(PySem.Str.ofString "ranges"), (PySem.Str.ofString "_uses"), (PySem.Str.ofString "_cells"), (PySem.Str.ofString "_by_column"), (PySem.Str.ofString "_by_row")]
  f_Graph___init__ : Dm K k_Graph.a "__init__" "Graph.__init__" s_Graph___init__ ["self"]
  f__address_at : Df K mg "_address_at" s_address_at ["index"]
  f_cells_in : Df K mg "cells_in" s_cells_in ["cells"]
  f_Graph_formulas : Dm K k_Graph.a "formulas" "Graph.formulas" s_Graph_formulas ["self"]
  f_index_of : Df K mg "index_of" s_index_of ["address"]
  f_bit_of : Df K mg "bit_of" s_bit_of ["address"]
  f_Graph_remove : Dm K k_Graph.a "remove" "Graph.remove" s_Graph_remove ["self", "address"]
  f_mask_of : Df K mg "mask_of" s_mask_of ["area"]
  f_mask_of_all : Df K mg "mask_of_all" s_mask_of_all ["areas"]
  f_Graph_put : Dm K k_Graph.a "put" "Graph.put" s_Graph_put ["self", "address", "ranges"]
  f_Graph_used_cells : Dm K k_Graph.a "used_cells" "Graph.used_cells" s_Graph_used_cells ["self", "address"]
  f_first_in : Df K mg "first_in" s_first_in ["cells"]
  f_spread : Df K mg "spread" s_spread ["first", "formulas", "uses_at"]
  f_Graph_reached : Dm K k_Graph.a "reached" "Graph.reached" s_Graph_reached ["self", "address"]
  f_Graph__users_of : Dm K k_Graph.a "_users_of" "Graph._users_of" s_Graph__users_of ["self", "area", "among"]
  f_Graph_with_reaching : Dm K k_Graph.a "with_reaching" "Graph.with_reaching" s_Graph_with_reaching ["self", "found", "within"]
  f_Graph_reaching : Dm K k_Graph.a "reaching" "Graph.reaching" s_Graph_reaching ["self", "areas"]
  f_Graph_used_formulas : Dm K k_Graph.a "used_formulas" "Graph.used_formulas" s_Graph_used_formulas ["self", "address"]
  f_Graph_users_of : Dm K k_Graph.a "users_of" "Graph.users_of" s_Graph_users_of ["self", "area"]
  f_inside : Df K mg "inside" s_inside ["address", "area"]
  f_Graph_uses : Dm K k_Graph.a "uses" "Graph.uses" s_Graph_uses ["self", "address", "other"]
  f__law_take : Df K mg "_law_take" s_l_take ["state", "most"]
  f__law_address : Df K mg "_law_address" s_l_address ["state"]
  f__law_near : Df K mg "_law_near" s_l_near ["state"]
  f__law_area : Df K mg "_law_area" s_l_area ["state"]
  f__law_cells : Df K mg "_law_cells" s_l_cells ["area"]
  f__law_order : Df K mg "_law_order" s_l_order ["addresses"]
  f__law_has : Df K mg "_law_has" s_l_has ["area", "address"]
  f__law_uses_it : Df K mg "_law_uses_it" s_l_uses_it ["ranges", "address", "other"]
  f__law_reached : Df K mg "_law_reached" s_l_reached ["ranges", "address"]
  f__law_users : Df K mg "_law_users" s_l_users ["ranges", "cells"]
  f__law_reaching : Df K mg "_law_reaching" s_l_reaching ["ranges", "cells"]
  f__law_state : Df K mg "_law_state" s_l_state ["script"]
  f_law : Df K mg "law" s_law ["script"]
  mk_Graph : Mk K k_Graph.a f_Graph___init__.a
  c_SHEET : GC K mg "SHEET" k_SHEET
  c_COLUMNS : GC K mg "COLUMNS" k_COLUMNS
  n_abs : mg "abs" = none
  n_any : mg "any" = none
  n_int : mg "int" = none
  n_len : mg "len" = none
  n_list : mg "list" = none
  n_max : mg "max" = none
  n_min : mg "min" = none
  n_range : mg "range" = none
  n_repr : mg "repr" = none
  n_sorted : mg "sorted" = none
  cs : List (Addr × Addr)
  lam_Graph_reached : ∃ c, f_Graph_reached.fd.code = .ref c ∧ ∃ P, cs[0]? = some (c, P)
abbrev Tx.Fa {K : PySem.W.Frag} {w : World} {mg : Str → Option Value} (T : Tx K w mg) : List Addr := [T.k_Graph.a]
section
variable {P : Program} {w : World} {K : PySem.W.Frag} {mg : Str → Option Value} {base : Heap}
theorem ok_Graph___init__ (T : Tx K w mg) (hB : ∀ p ∈ T.cs, LamX.TabB base mg p.1 p.2) : FnOk P w K mg base (L2.CX P w) 1 T.f_Graph___init__.a T.f_Graph___init__.fd ["self"] (spB K 1 (m_Graph___init__ (T.Fa ++ T.cs.map (·.2)))) := by
  refine fnB (N := n_Graph___init__) T.f_Graph___init__.F sc_Graph___init__ fun cdv A outer s H E hr => ?_
  have nd := sc_Graph___init__.nd
  have tk := takes_of (X := cxOf (L2.CX P w) P w K mg base n_Graph___init__ "Graph.__init__" (defScope s_Graph___init__) T.f_Graph___init__.a cdv A outer s H E) (E := E) rfl rfl rfl rfl
  exact ⟨_, (dss_cons (ds_setfld T.k_Graph.k (by decide +kernel) de_dnewT (de_var 0))
  (dss_cons (ds_setfld T.k_Graph.k (by decide +kernel) de_dnewT (de_var 0))
  (dss_cons (ds_setfld T.k_Graph.k (by decide +kernel) de_int (de_var 0))
  (dss_cons (ds_setfld T.k_Graph.k (by decide +kernel) (de_repO (de_lst (da_cons de_int da_nil)) (de_bin od_add (de_ix (de_ix (de_gc T.c_SHEET) de_int) de_int) de_int)) (de_var 0))
  (dss_one (ds_setfld T.k_Graph.k (by decide +kernel) (de_repO (de_lst (da_cons de_int da_nil)) (de_bin od_add (de_ix (de_ix (de_gc T.c_SHEET) de_int) de_int) de_int)) (de_var 0)))))))⟩
theorem ok_address_at (T : Tx K w mg) : FnOk P w K mg base (L2.CX P w) 1 T.f__address_at.a T.f__address_at.fd ["index"] (spA K 1 m_address_at) := by
  refine fnA (N := n_address_at) T.f__address_at.F sc_address_at fun cdv A outer s H E hr => ?_
  have nd := sc_address_at.nd
  have tk := takes_of (X := cxOf (L2.CX P w) P w K mg base n_address_at "_address_at" (defScope s_address_at) T.f__address_at.a cdv A outer s H E) (E := E) rfl rfl rfl rfl
  exact ⟨_, (dss_one (ds_ret (de_tup (da_cons (de_bin od_mod (de_var 0) (de_gc T.c_COLUMNS)) (da_cons (de_bin od_fdiv (de_var 0) (de_gc T.c_COLUMNS)) da_nil)))))⟩
theorem ok_cells_in (T : Tx K w mg) : FnOk P w K mg base (L2.CX P w) 2 T.f_cells_in.a T.f_cells_in.fd ["cells"] (spA K 1 m_cells_in) := by
  refine fnA (N := n_cells_in) T.f_cells_in.F sc_cells_in fun cdv A outer s H E hr => ?_
  have nd := sc_cells_in.nd
  have tk := takes_of (X := cxOf (L2.CX P w) P w K mg base n_cells_in "cells_in" (defScope s_cells_in) T.f_cells_in.a cdv A outer s H E) (E := E) rfl rfl rfl rfl
  exact ⟨_, (dss_cons (ds_set (i := 1) nd (de_lstO da_nil))
  (dss_cons (ds_while 3000 (passes_of rfl) (dt_cmp (od_ne hr.units) bool_dNe (de_var 0) de_int) (dss_cons (ds_set (i := 2) nd (de_bin od_band (de_var 0) (de_usub (de_var 0))))
  (dss_cons (ds_expr (de_mth md_app (de_var 1) (da_cons (de_callA ((ok_address_at T).mono (by decide)) hr tk T.f__address_at.m T.f__address_at.F.kp T.f__address_at.b (da_cons (de_bin od_sub (de_bits (de_var 2)) de_int) da_nil)) da_nil) PySem.F.plainAttrs_list PySem.F.slot_list_append PySem.F.type_list_append))
  (dss_one (ds_set (i := 0) nd (de_bin od_bxor (de_var 0) (de_var 2)))))))
  (dss_one (ds_ret (de_frz (de_var 1))))))⟩
theorem ok_Graph_formulas (T : Tx K w mg) (hB : ∀ p ∈ T.cs, LamX.TabB base mg p.1 p.2) : FnOk P w K mg base (L2.CX P w) 3 T.f_Graph_formulas.a T.f_Graph_formulas.fd ["self"] (spB K 1 (m_Graph_formulas (T.Fa ++ T.cs.map (·.2)))) := by
  refine fnB (N := n_Graph_formulas) T.f_Graph_formulas.F sc_Graph_formulas fun cdv A outer s H E hr => ?_
  have nd := sc_Graph_formulas.nd
  have tk := takes_of (X := cxOf (L2.CX P w) P w K mg base n_Graph_formulas "Graph.formulas" (defScope s_Graph_formulas) T.f_Graph_formulas.a cdv A outer s H E) (E := E) rfl rfl rfl rfl
  exact ⟨_, (dss_one (ds_ret (de_callA ((ok_cells_in T).mono (by decide)) hr tk T.f_cells_in.m T.f_cells_in.F.kp T.f_cells_in.b (da_cons (de_fld T.k_Graph.k (by decide +kernel) (de_var 0)) da_nil))))⟩
theorem ok_index_of (T : Tx K w mg) : FnOk P w K mg base (L2.CX P w) 1 T.f_index_of.a T.f_index_of.fd ["address"] (spA K 1 m_index_of) := by
  refine fnA (N := n_index_of) T.f_index_of.F sc_index_of fun cdv A outer s H E hr => ?_
  have nd := sc_index_of.nd
  have tk := takes_of (X := cxOf (L2.CX P w) P w K mg base n_index_of "index_of" (defScope s_index_of) T.f_index_of.a cdv A outer s H E) (E := E) rfl rfl rfl rfl
  exact ⟨_, (dss_one (ds_ret (de_bin od_add (de_bin od_mul (de_ix (de_var 0) de_int) (de_gc T.c_COLUMNS)) (de_ix (de_var 0) de_int))))⟩
theorem ok_bit_of (T : Tx K w mg) : FnOk P w K mg base (L2.CX P w) 2 T.f_bit_of.a T.f_bit_of.fd ["address"] (spA K 1 m_bit_of) := by
  refine fnA (N := n_bit_of) T.f_bit_of.F sc_bit_of fun cdv A outer s H E hr => ?_
  have nd := sc_bit_of.nd
  have tk := takes_of (X := cxOf (L2.CX P w) P w K mg base n_bit_of "bit_of" (defScope s_bit_of) T.f_bit_of.a cdv A outer s H E) (E := E) rfl rfl rfl rfl
  exact ⟨_, (dss_one (ds_ret (de_bin od_shl de_int (de_callA ((ok_index_of T).mono (by decide)) hr tk T.f_index_of.m T.f_index_of.F.kp T.f_index_of.b (da_cons (de_var 0) da_nil)))))⟩
theorem ok_Graph_remove (T : Tx K w mg) (hB : ∀ p ∈ T.cs, LamX.TabB base mg p.1 p.2) : FnOk P w K mg base (L2.CX P w) 3 T.f_Graph_remove.a T.f_Graph_remove.fd ["self", "address"] (spB K 2 (m_Graph_remove (T.Fa ++ T.cs.map (·.2)))) := by
  refine fnB (N := n_Graph_remove) T.f_Graph_remove.F sc_Graph_remove fun cdv A outer s H E hr => ?_
  have nd := sc_Graph_remove.nd
  have tk := takes_of (X := cxOf (L2.CX P w) P w K mg base n_Graph_remove "Graph.remove" (defScope s_Graph_remove) T.f_Graph_remove.a cdv A outer s H E) (E := E) rfl rfl rfl rfl
  exact ⟨_, (dss_cons (ds_if (dt_dnin (units1 hr) (de_var 1) (de_fld T.k_Graph.k (by decide +kernel) (de_var 0))) (dss_one ds_retN) dss_nil)
  (dss_cons (ds_set (i := 2) nd (de_inv (de_callA ((ok_bit_of T).mono (by decide)) hr tk T.f_bit_of.m T.f_bit_of.F.kp T.f_bit_of.b (da_cons (de_var 1) da_nil))))
  (dss_cons (ds_ddelT (units1 hr) (de_fld T.k_Graph.k (by decide +kernel) (de_var 0)) (de_var 1))
  (dss_cons (ds_ddelT (units1 hr) (de_fld T.k_Graph.k (by decide +kernel) (de_var 0)) (de_var 1))
  (dss_cons (ds_setfld T.k_Graph.k (by decide +kernel) (de_bin od_band (de_fld T.k_Graph.k (by decide +kernel) (de_var 0)) (de_var 2)) (de_var 0))
  (dss_cons (ds_setfld T.k_Graph.k (by decide +kernel) (de_lcO nd rfl (di_list (de_frz (de_fld T.k_Graph.k (by decide +kernel) (de_var 0)))) (blkOk_by (own := [((PySem.Str.ofString "users"), 3)]) (N := n_Graph_remove) (sc := defScope s_Graph_remove) (by decide +kernel)) (fun _ _ _ _ _ => (dg_name (i := 3) nd)) (fun _ _ _ _ _ => dpt_nil) (fun _ _ _ _ _ => (de_bin od_band (de_var 3) (de_var 2)))) (de_var 0))
  (dss_one (ds_setfld T.k_Graph.k (by decide +kernel) (de_lcO nd rfl (di_list (de_frz (de_fld T.k_Graph.k (by decide +kernel) (de_var 0)))) (blkOk_by (own := [((PySem.Str.ofString "users"), 3)]) (N := n_Graph_remove) (sc := defScope s_Graph_remove) (by decide +kernel)) (fun _ _ _ _ _ => (dg_name (i := 3) nd)) (fun _ _ _ _ _ => dpt_nil) (fun _ _ _ _ _ => (de_bin od_band (de_var 3) (de_var 2)))) (de_var 0)))))))))⟩
theorem ok_mask_of (T : Tx K w mg) : FnOk P w K mg base (L2.CX P w) 2 T.f_mask_of.a T.f_mask_of.fd ["area"] (spA K 1 m_mask_of) := by
  refine fnA (N := n_mask_of) T.f_mask_of.F sc_mask_of fun cdv A outer s H E hr => ?_
  have nd := sc_mask_of.nd
  have tk := takes_of (X := cxOf (L2.CX P w) P w K mg base n_mask_of "mask_of" (defScope s_mask_of) T.f_mask_of.a cdv A outer s H E) (E := E) rfl rfl rfl rfl
  exact ⟨_, (dss_cons (ds_asg (de_var 0) (dg_tup rfl (dgs_cons (dg_tup rfl (dgs_cons (dg_name (i := 1) nd) (dgs_cons (dg_name (i := 2) nd) dgs_nil))) (dgs_cons (dg_tup rfl (dgs_cons (dg_name (i := 3) nd) (dgs_cons (dg_name (i := 4) nd) dgs_nil))) dgs_nil))))
  (dss_cons (ds_set (i := 5) nd (de_bin od_sub (de_bin od_shl de_int (de_bin od_add (de_bin od_sub (de_var 3) (de_var 1)) de_int)) de_int))
  (dss_cons (ds_set (i := 6) nd (de_bin od_fdiv (de_bin od_sub (de_bin od_shl de_int (de_bin od_mul (de_gc T.c_COLUMNS) (de_bin od_add (de_bin od_sub (de_var 4) (de_var 2)) de_int))) de_int) (de_bin od_sub (de_bin od_shl de_int (de_gc T.c_COLUMNS)) de_int)))
  (dss_one (ds_ret (de_bin od_shl (de_bin od_mul (de_var 6) (de_var 5)) (de_callA ((ok_index_of T).mono (by decide)) hr tk T.f_index_of.m T.f_index_of.F.kp T.f_index_of.b (da_cons (de_tup (da_cons (de_var 1) (da_cons (de_var 2) da_nil))) da_nil))))))))⟩
theorem ok_mask_of_all (T : Tx K w mg) : FnOk P w K mg base (L2.CX P w) 3 T.f_mask_of_all.a T.f_mask_of_all.fd ["areas"] (spA K 1 m_mask_of_all) := by
  refine fnA (N := n_mask_of_all) T.f_mask_of_all.F sc_mask_of_all fun cdv A outer s H E hr => ?_
  have nd := sc_mask_of_all.nd
  have tk := takes_of (X := cxOf (L2.CX P w) P w K mg base n_mask_of_all "mask_of_all" (defScope s_mask_of_all) T.f_mask_of_all.a cdv A outer s H E) (E := E) rfl rfl rfl rfl
  exact ⟨_, (dss_cons (ds_set (i := 1) nd de_int)
  (dss_cons (ds_for (passes_of rfl) rfl (di_list (de_var 0)) (dg_name (i := 2) nd) (dss_one (ds_set (i := 1) nd (de_bin od_bor (de_var 1) (de_callA ((ok_mask_of T).mono (by decide)) hr tk T.f_mask_of.m T.f_mask_of.F.kp T.f_mask_of.b (da_cons (de_var 2) da_nil))))))
  (dss_one (ds_ret (de_var 1)))))⟩
theorem ok_Graph_put (T : Tx K w mg) (hB : ∀ p ∈ T.cs, LamX.TabB base mg p.1 p.2) : FnOk P w K mg base (L2.CX P w) 4 T.f_Graph_put.a T.f_Graph_put.fd ["self", "address", "ranges"] (spB K 3 (m_Graph_put (T.Fa ++ T.cs.map (·.2)))) := by
  refine fnB (N := n_Graph_put) T.f_Graph_put.F sc_Graph_put fun cdv A outer s H E hr => ?_
  have nd := sc_Graph_put.nd
  have tk := takes_of (X := cxOf (L2.CX P w) P w K mg base n_Graph_put "Graph.put" (defScope s_Graph_put) T.f_Graph_put.a cdv A outer s H E) (E := E) rfl rfl rfl rfl
  exact ⟨_, (dss_cons (ds_expr (de_meth T.k_Graph.k T.f_Graph_remove.m ((ok_Graph_remove T hB).mono (by decide)) hr tk T.f_Graph_remove.b (de_var 0) (da_cons (de_var 1) da_nil)))
  (dss_cons (ds_set (i := 3) nd (de_callA ((ok_bit_of T).mono (by decide)) hr tk T.f_bit_of.m T.f_bit_of.F.kp T.f_bit_of.b (da_cons (de_var 1) da_nil)))
  (dss_cons (ds_put (units1 hr) (de_callTy cd_list T.n_list (da_cons (de_var 2) da_nil)) (de_fld T.k_Graph.k (by decide +kernel) (de_var 0)) (de_var 1))
  (dss_cons (ds_put (units1 hr) (de_callA ((ok_mask_of_all T).mono (by decide)) hr tk T.f_mask_of_all.m T.f_mask_of_all.F.kp T.f_mask_of_all.b (da_cons (de_var 2) da_nil)) (de_fld T.k_Graph.k (by decide +kernel) (de_var 0)) (de_var 1))
  (dss_cons (ds_setfld T.k_Graph.k (by decide +kernel) (de_bin od_bor (de_fld T.k_Graph.k (by decide +kernel) (de_var 0)) (de_var 3)) (de_var 0))
  (dss_one (ds_for (passes_of rfl) rfl (di_list (de_var 2)) (dg_tup rfl (dgs_cons (dg_tup rfl (dgs_cons (dg_name (i := 4) nd) (dgs_cons (dg_name (i := 5) nd) dgs_nil))) (dgs_cons (dg_tup rfl (dgs_cons (dg_name (i := 6) nd) (dgs_cons (dg_name (i := 7) nd) dgs_nil))) dgs_nil))) (dss_cons (ds_for (passes_of rfl) rfl (di_range2 T.n_range (da_cons (de_var 4) (da_cons (de_bin od_add (de_var 6) de_int) da_nil))) (dg_name (i := 8) nd) (dss_one (ds_asg (de_bin od_bor (de_ix (de_fld T.k_Graph.k (by decide +kernel) (de_var 0)) (de_var 8)) (de_var 3)) (dg_set (de_fld T.k_Graph.k (by decide +kernel) (de_var 0)) (de_var 8)))))
  (dss_one (ds_for (passes_of rfl) rfl (di_range2 T.n_range (da_cons (de_var 5) (da_cons (de_bin od_add (de_var 7) de_int) da_nil))) (dg_name (i := 9) nd) (dss_one (ds_asg (de_bin od_bor (de_ix (de_fld T.k_Graph.k (by decide +kernel) (de_var 0)) (de_var 9)) (de_var 3)) (dg_set (de_fld T.k_Graph.k (by decide +kernel) (de_var 0)) (de_var 9))))))))))))))⟩
theorem ok_Graph_used_cells (T : Tx K w mg) (hB : ∀ p ∈ T.cs, LamX.TabB base mg p.1 p.2) : FnOk P w K mg base (L2.CX P w) 1 T.f_Graph_used_cells.a T.f_Graph_used_cells.fd ["self", "address"] (spB K 2 (m_Graph_used_cells (T.Fa ++ T.cs.map (·.2)))) := by
  refine fnB (N := n_Graph_used_cells) T.f_Graph_used_cells.F sc_Graph_used_cells fun cdv A outer s H E hr => ?_
  have nd := sc_Graph_used_cells.nd
  have tk := takes_of (X := cxOf (L2.CX P w) P w K mg base n_Graph_used_cells "Graph.used_cells" (defScope s_Graph_used_cells) T.f_Graph_used_cells.a cdv A outer s H E) (E := E) rfl rfl rfl rfl
  exact ⟨_, (dss_one (ds_ret (de_dgm2 (units1 hr) (de_fld T.k_Graph.k (by decide +kernel) (de_var 0)) (de_var 1) de_int)))⟩
theorem ok_first_in (T : Tx K w mg) : FnOk P w K mg base (L2.CX P w) 2 T.f_first_in.a T.f_first_in.fd ["cells"] (spA K 1 m_first_in) := by
  refine fnA (N := n_first_in) T.f_first_in.F sc_first_in fun cdv A outer s H E hr => ?_
  have nd := sc_first_in.nd
  have tk := takes_of (X := cxOf (L2.CX P w) P w K mg base n_first_in "first_in" (defScope s_first_in) T.f_first_in.a cdv A outer s H E) (E := E) rfl rfl rfl rfl
  exact ⟨_, (dss_one (ds_ret (de_callA ((ok_address_at T).mono (by decide)) hr tk T.f__address_at.m T.f__address_at.F.kp T.f__address_at.b (da_cons (de_bin od_sub (de_bits (de_bin od_band (de_var 0) (de_usub (de_var 0)))) de_int) da_nil))))⟩
theorem okl_0 (T : Tx K w mg) (hB : ∀ p ∈ T.cs, LamX.TabB base mg p.1 p.2) : CloOkB P w K mg base 2 1 lam_0 (ml_0 (T.Fa ++ T.cs.map (·.2))) := ⟨["cell"], rfl, fun a c cl =>
  lamCB (N := ["cell", "self"]) (show NdefX.NScope ["cell", "self"] ["cell"] ["self"] lam_0.scope from NdefX.nscope_by (by decide +kernel)) (fun _ _ us hl => match us, hl with | [_], _ => rfl) (fun A outer s H E hr => by
    have tk := takes_of (X := NdefX.ncx (L2.CX P w) P w K mg base ["cell", "self"] (lam_0.nf cl c) a A outer s H E) (E := E) rfl rfl rfl rfl
    exact ⟨_, (de_meth T.k_Graph.k T.f_Graph_used_cells.m ((ok_Graph_used_cells T hB).mono (by decide)) hr tk T.f_Graph_used_cells.b (de_var 1) (da_cons (de_var 0) da_nil))⟩)⟩
theorem ok_clo1 (T : Tx K w mg) (hB : ∀ p ∈ T.cs, LamX.TabB base mg p.1 p.2) : ∀ L m, tbo (cloT1 (T.Fa ++ T.cs.map (·.2))) L = some m → CloOkB P w K mg base 2 1 L m := fun L m h => by
  rcases tbo_cases h with ⟨rfl, rfl⟩ | h
  · exact (okl_0 T hB).mono (by decide)
  exact (tbo_nil h).elim
theorem ok_spread (T : Tx K w mg) (hB : ∀ p ∈ T.cs, LamX.TabB base mg p.1 p.2) : FnOk P w K mg base (L2.CX P w) 3 T.f_spread.a T.f_spread.fd ["first", "formulas", "uses_at"] (spB K 3 (m_spread (T.Fa ++ T.cs.map (·.2)))) := by
  refine fnB (N := n_spread) T.f_spread.F sc_spread fun cdv A outer s H E hr => ?_
  have nd := sc_spread.nd
  have tk := takes_of (X := cxOf (L2.CX P w) P w K mg base n_spread "spread" (defScope s_spread) T.f_spread.a cdv A outer s H E) (E := E) rfl rfl rfl rfl
  exact ⟨_, (dss_cons (ds_set (i := 3) nd (de_var 0))
  (dss_cons (ds_set (i := 4) nd (de_bin od_band (de_var 0) (de_var 1)))
  (dss_cons (ds_while 3000 (passes_of rfl) (dt_cmp (od_ne hr.units) bool_dNe (de_var 4) de_int) (dss_cons (ds_set (i := 5) nd (de_callA ((ok_first_in T).mono (by decide)) hr tk T.f_first_in.m T.f_first_in.F.kp T.f_first_in.b (da_cons (de_var 4) da_nil)))
  (dss_cons (ds_set (i := 6) nd (de_bin od_band (de_callO (i := 2) (fun L m q => (ok_clo1 T hB L m q).mono (by decide)) hr tk (da_cons (de_var 5) da_nil)) (de_inv (de_var 3))))
  (dss_cons (ds_set (i := 3) nd (de_bin od_bor (de_var 3) (de_var 6)))
  (dss_one (ds_set (i := 4) nd (de_bin od_bor (de_bin od_bxor (de_var 4) (de_callA ((ok_bit_of T).mono (by decide)) hr tk T.f_bit_of.m T.f_bit_of.F.kp T.f_bit_of.b (da_cons (de_var 5) da_nil))) (de_bin od_band (de_var 6) (de_var 1)))))))))
  (dss_one (ds_ret (de_var 3))))))⟩
theorem ok_Graph_reached (T : Tx K w mg) (hB : ∀ p ∈ T.cs, LamX.TabB base mg p.1 p.2) : FnOk P w K mg base (L2.CX P w) 5 T.f_Graph_reached.a T.f_Graph_reached.fd ["self", "address"] (spB K 2 (m_Graph_reached (T.Fa ++ T.cs.map (·.2)))) := by
  obtain ⟨c0, hcd, P0, hcs⟩ := T.lam_Graph_reached
  refine fnBC (N := n_Graph_reached) T.f_Graph_reached.F sc_Graph_reached fun A outer s H E hr => ?_
  have nd := sc_Graph_reached.nd
  have tk := takes_of (X := cxOf (L2.CX P w) P w K mg base n_Graph_reached "Graph.reached" (defScope s_Graph_reached) T.f_Graph_reached.a T.f_Graph_reached.fd.code A outer s H E) (E := E) rfl rfl rfl rfl
  exact ⟨_, (dss_cons (ds_set (i := 2) nd (de_callLB (fr := ["self"]) (js := [0]) 0 0 ((ok_spread T hB).mono (by decide)) hr tk T.f_spread.m T.f_spread.F.kp T.f_spread.b (dal_cons (de_meth T.k_Graph.k T.f_Graph_used_cells.m ((ok_Graph_used_cells T hB).mono (by decide)) hr tk T.f_Graph_used_cells.b (de_var 0) (da_cons (de_var 1) da_nil)) (dal_cons (de_fld T.k_Graph.k (by decide +kernel) (de_var 0)) (dal_one (tb_of hB hcs) hcd (free_by (sc := defScope s_Graph_reached) (by decide +kernel))))) (free_by (sc := defScope s_Graph_reached) (by decide +kernel))))
  (dss_one (ds_ret (de_callA ((ok_cells_in T).mono (by decide)) hr tk T.f_cells_in.m T.f_cells_in.F.kp T.f_cells_in.b (da_cons (de_bin od_band (de_var 2) (de_fld T.k_Graph.k (by decide +kernel) (de_var 0))) da_nil)))))⟩
theorem ok_Graph__users_of (T : Tx K w mg) (hB : ∀ p ∈ T.cs, LamX.TabB base mg p.1 p.2) : FnOk P w K mg base (L2.CX P w) 3 T.f_Graph__users_of.a T.f_Graph__users_of.fd ["self", "area", "among"] (spB K 3 (m_Graph__users_of (T.Fa ++ T.cs.map (·.2)))) := by
  refine fnB (N := n_Graph__users_of) T.f_Graph__users_of.F sc_Graph__users_of fun cdv A outer s H E hr => ?_
  have nd := sc_Graph__users_of.nd
  have tk := takes_of (X := cxOf (L2.CX P w) P w K mg base n_Graph__users_of "Graph._users_of" (defScope s_Graph__users_of) T.f_Graph__users_of.a cdv A outer s H E) (E := E) rfl rfl rfl rfl
  exact ⟨_, (dss_cons (ds_asg (de_var 1) (dg_tup rfl (dgs_cons (dg_tup rfl (dgs_cons (dg_name (i := 3) nd) (dgs_cons (dg_name (i := 4) nd) dgs_nil))) (dgs_cons (dg_tup rfl (dgs_cons (dg_name (i := 5) nd) (dgs_cons (dg_name (i := 6) nd) dgs_nil))) dgs_nil))))
  (dss_cons (ds_set (i := 7) nd de_int)
  (dss_cons (ds_for (passes_of rfl) rfl (di_list (de_slO (de_fld T.k_Graph.k (by decide +kernel) (de_var 0)) (dp_some (de_var 3)) (dp_some (de_bin od_add (de_var 5) de_int)))) (dg_name (i := 8) nd) (dss_one (ds_set (i := 7) nd (de_bin od_bor (de_var 7) (de_var 8)))))
  (dss_cons (ds_set (i := 9) nd de_int)
  (dss_cons (ds_for (passes_of rfl) rfl (di_list (de_slO (de_fld T.k_Graph.k (by decide +kernel) (de_var 0)) (dp_some (de_var 4)) (dp_some (de_bin od_add (de_var 6) de_int)))) (dg_name (i := 8) nd) (dss_one (ds_set (i := 9) nd (de_bin od_bor (de_var 9) (de_var 8)))))
  (dss_cons (ds_set (i := 10) nd (de_callA ((ok_mask_of T).mono (by decide)) hr tk T.f_mask_of.m T.f_mask_of.F.kp T.f_mask_of.b (da_cons (de_var 1) da_nil)))
  (dss_cons (ds_set (i := 11) nd de_int)
  (dss_cons (ds_for (passes_of rfl) rfl (di_list (de_callA ((ok_cells_in T).mono (by decide)) hr tk T.f_cells_in.m T.f_cells_in.F.kp T.f_cells_in.b (da_cons (de_bin od_band (de_bin od_band (de_var 7) (de_var 9)) (de_var 2)) da_nil))) (dg_name (i := 12) nd) (dss_one (ds_if (dt_cmp (od_ne hr.units) bool_dNe (de_bin od_band (de_dgetG (units1 hr) (de_fld T.k_Graph.k (by decide +kernel) (de_var 0)) (de_var 12)) (de_var 10)) de_int) (dss_one (ds_set (i := 11) nd (de_bin od_bor (de_var 11) (de_callA ((ok_bit_of T).mono (by decide)) hr tk T.f_bit_of.m T.f_bit_of.F.kp T.f_bit_of.b (da_cons (de_var 12) da_nil))))) dss_nil)))
  (dss_one (ds_ret (de_var 11)))))))))))⟩
theorem ok_Graph_with_reaching (T : Tx K w mg) (hB : ∀ p ∈ T.cs, LamX.TabB base mg p.1 p.2) : FnOk P w K mg base (L2.CX P w) 4 T.f_Graph_with_reaching.a T.f_Graph_with_reaching.fd ["self", "found", "within"] (spB K 3 (m_Graph_with_reaching (T.Fa ++ T.cs.map (·.2)))) := by
  refine fnB (N := n_Graph_with_reaching) T.f_Graph_with_reaching.F sc_Graph_with_reaching fun cdv A outer s H E hr => ?_
  have nd := sc_Graph_with_reaching.nd
  have tk := takes_of (X := cxOf (L2.CX P w) P w K mg base n_Graph_with_reaching "Graph.with_reaching" (defScope s_Graph_with_reaching) T.f_Graph_with_reaching.a cdv A outer s H E) (E := E) rfl rfl rfl rfl
  exact ⟨_, (dss_cons (ds_set (i := 3) nd (de_var 1))
  (dss_cons (ds_while 3000 (passes_of rfl) (dt_cmp (od_ne hr.units) bool_dNe (de_var 3) de_int) (dss_cons (ds_set (i := 4) nd (de_callA ((ok_first_in T).mono (by decide)) hr tk T.f_first_in.m T.f_first_in.F.kp T.f_first_in.b (da_cons (de_var 3) da_nil)))
  (dss_cons (ds_set (i := 5) nd (de_meth T.k_Graph.k T.f_Graph__users_of.m ((ok_Graph__users_of T hB).mono (by decide)) hr tk T.f_Graph__users_of.b (de_var 0) (da_cons (de_tup (da_cons (de_var 4) (da_cons (de_var 4) da_nil))) (da_cons (de_bin od_band (de_var 2) (de_inv (de_var 1))) da_nil))))
  (dss_cons (ds_set (i := 1) nd (de_bin od_bor (de_var 1) (de_var 5)))
  (dss_one (ds_set (i := 3) nd (de_bin od_bor (de_bin od_bxor (de_var 3) (de_callA ((ok_bit_of T).mono (by decide)) hr tk T.f_bit_of.m T.f_bit_of.F.kp T.f_bit_of.b (da_cons (de_var 4) da_nil))) (de_var 5))))))))
  (dss_one (ds_ret (de_var 1)))))⟩
theorem ok_Graph_reaching (T : Tx K w mg) (hB : ∀ p ∈ T.cs, LamX.TabB base mg p.1 p.2) : FnOk P w K mg base (L2.CX P w) 5 T.f_Graph_reaching.a T.f_Graph_reaching.fd ["self", "areas"] (spB K 2 (m_Graph_reaching (T.Fa ++ T.cs.map (·.2)))) := by
  refine fnB (N := n_Graph_reaching) T.f_Graph_reaching.F sc_Graph_reaching fun cdv A outer s H E hr => ?_
  have nd := sc_Graph_reaching.nd
  have tk := takes_of (X := cxOf (L2.CX P w) P w K mg base n_Graph_reaching "Graph.reaching" (defScope s_Graph_reaching) T.f_Graph_reaching.a cdv A outer s H E) (E := E) rfl rfl rfl rfl
  exact ⟨_, (dss_cons (ds_set (i := 2) nd de_int)
  (dss_cons (ds_for (passes_of rfl) rfl (di_list (de_var 1)) (dg_name (i := 3) nd) (dss_one (ds_set (i := 2) nd (de_bin od_bor (de_var 2) (de_meth T.k_Graph.k T.f_Graph__users_of.m ((ok_Graph__users_of T hB).mono (by decide)) hr tk T.f_Graph__users_of.b (de_var 0) (da_cons (de_var 3) (da_cons (de_bin od_band (de_fld T.k_Graph.k (by decide +kernel) (de_var 0)) (de_inv (de_var 2))) da_nil)))))))
  (dss_one (ds_ret (de_callA ((ok_cells_in T).mono (by decide)) hr tk T.f_cells_in.m T.f_cells_in.F.kp T.f_cells_in.b (da_cons (de_meth T.k_Graph.k T.f_Graph_with_reaching.m ((ok_Graph_with_reaching T hB).mono (by decide)) hr tk T.f_Graph_with_reaching.b (de_var 0) (da_cons (de_var 2) (da_cons (de_fld T.k_Graph.k (by decide +kernel) (de_var 0)) da_nil))) da_nil))))))⟩
theorem ok_Graph_used_formulas (T : Tx K w mg) (hB : ∀ p ∈ T.cs, LamX.TabB base mg p.1 p.2) : FnOk P w K mg base (L2.CX P w) 3 T.f_Graph_used_formulas.a T.f_Graph_used_formulas.fd ["self", "address"] (spB K 2 (m_Graph_used_formulas (T.Fa ++ T.cs.map (·.2)))) := by
  refine fnB (N := n_Graph_used_formulas) T.f_Graph_used_formulas.F sc_Graph_used_formulas fun cdv A outer s H E hr => ?_
  have nd := sc_Graph_used_formulas.nd
  have tk := takes_of (X := cxOf (L2.CX P w) P w K mg base n_Graph_used_formulas "Graph.used_formulas" (defScope s_Graph_used_formulas) T.f_Graph_used_formulas.a cdv A outer s H E) (E := E) rfl rfl rfl rfl
  exact ⟨_, (dss_one (ds_ret (de_callA ((ok_cells_in T).mono (by decide)) hr tk T.f_cells_in.m T.f_cells_in.F.kp T.f_cells_in.b (da_cons (de_bin od_band (de_meth T.k_Graph.k T.f_Graph_used_cells.m ((ok_Graph_used_cells T hB).mono (by decide)) hr tk T.f_Graph_used_cells.b (de_var 0) (da_cons (de_var 1) da_nil)) (de_fld T.k_Graph.k (by decide +kernel) (de_var 0))) da_nil))))⟩
theorem ok_Graph_users_of (T : Tx K w mg) (hB : ∀ p ∈ T.cs, LamX.TabB base mg p.1 p.2) : FnOk P w K mg base (L2.CX P w) 4 T.f_Graph_users_of.a T.f_Graph_users_of.fd ["self", "area"] (spB K 2 (m_Graph_users_of (T.Fa ++ T.cs.map (·.2)))) := by
  refine fnB (N := n_Graph_users_of) T.f_Graph_users_of.F sc_Graph_users_of fun cdv A outer s H E hr => ?_
  have nd := sc_Graph_users_of.nd
  have tk := takes_of (X := cxOf (L2.CX P w) P w K mg base n_Graph_users_of "Graph.users_of" (defScope s_Graph_users_of) T.f_Graph_users_of.a cdv A outer s H E) (E := E) rfl rfl rfl rfl
  exact ⟨_, (dss_one (ds_ret (de_callA ((ok_cells_in T).mono (by decide)) hr tk T.f_cells_in.m T.f_cells_in.F.kp T.f_cells_in.b (da_cons (de_meth T.k_Graph.k T.f_Graph__users_of.m ((ok_Graph__users_of T hB).mono (by decide)) hr tk T.f_Graph__users_of.b (de_var 0) (da_cons (de_var 1) (da_cons (de_fld T.k_Graph.k (by decide +kernel) (de_var 0)) da_nil))) da_nil))))⟩
theorem ok_inside (T : Tx K w mg) : FnOk P w K mg base (L2.CX P w) 1 T.f_inside.a T.f_inside.fd ["address", "area"] (spA K 2 m_inside) := by
  refine fnA (N := n_inside) T.f_inside.F sc_inside fun cdv A outer s H E hr => ?_
  have nd := sc_inside.nd
  have tk := takes_of (X := cxOf (L2.CX P w) P w K mg base n_inside "inside" (defScope s_inside) T.f_inside.a cdv A outer s H E) (E := E) rfl rfl rfl rfl
  exact ⟨_, (dss_cons (ds_asg (de_var 1) (dg_tup rfl (dgs_cons (dg_name (i := 2) nd) (dgs_cons (dg_name (i := 3) nd) dgs_nil))))
  (dss_one (ds_ret (de_and (de_chain od_le od_le (de_ix (de_var 2) de_int) (de_ix (de_var 0) de_int) (de_ix (de_var 3) de_int)) (de_one (de_chain od_le od_le (de_ix (de_var 2) de_int) (de_ix (de_var 0) de_int) (de_ix (de_var 3) de_int)))))))⟩
theorem ok_Graph_uses (T : Tx K w mg) (hB : ∀ p ∈ T.cs, LamX.TabB base mg p.1 p.2) : FnOk P w K mg base (L2.CX P w) 2 T.f_Graph_uses.a T.f_Graph_uses.fd ["self", "address", "other"] (spB K 3 (m_Graph_uses (T.Fa ++ T.cs.map (·.2)))) := by
  refine fnB (N := n_Graph_uses) T.f_Graph_uses.F sc_Graph_uses fun cdv A outer s H E hr => ?_
  have nd := sc_Graph_uses.nd
  have tk := takes_of (X := cxOf (L2.CX P w) P w K mg base n_Graph_uses "Graph.uses" (defScope s_Graph_uses) T.f_Graph_uses.a cdv A outer s H E) (E := E) rfl rfl rfl rfl
  exact ⟨_, (dss_one (ds_ret (de_callB (cd_any rfl) T.n_any (da_cons (de_lc nd rfl (di_list (de_dgm2 (units1 hr) (de_fld T.k_Graph.k (by decide +kernel) (de_var 0)) (de_var 1) (de_lst da_nil))) (blkOk_by (own := [((PySem.Str.ofString "area"), 3)]) (N := n_Graph_uses) (sc := defScope s_Graph_uses) (by decide +kernel)) (fun _ _ _ _ _ => (dg_name (i := 3) nd)) (fun _ _ _ _ _ => dpt_nil) (fun _ _ _ _ _ => (de_callA ((ok_inside T).mono (by decide)) hr takes0 T.f_inside.m T.f_inside.F.kp T.f_inside.b (da_cons (de_var 2) (da_cons (de_var 3) da_nil))))) da_nil))))⟩
theorem ok_l_take (T : Tx K w mg) : FnOk P w K mg base (L2.CX P w) 1 T.f__law_take.a T.f__law_take.fd ["state", "most"] (spB K 2 m_l_take) := by
  refine fnB (N := n_l_take) T.f__law_take.F sc_l_take fun cdv A outer s H E hr => ?_
  have nd := sc_l_take.nd
  have tk := takes_of (X := cxOf (L2.CX P w) P w K mg base n_l_take "_law_take" (defScope s_l_take) T.f__law_take.a cdv A outer s H E) (E := E) rfl rfl rfl rfl
  exact ⟨_, (dss_cons (ds_if (dt_cmp od_lt bool_dIb (de_var 1) de_int) (dss_one (ds_ret de_int)) dss_nil)
  (dss_cons (ds_set (i := 2) nd (de_ix (de_var 0) de_int))
  (dss_cons (ds_set (i := 3) nd (de_bin od_mod (de_ix (de_var 0) de_int) (de_callB cd_len T.n_len (da_cons (de_var 2) da_nil))))
  (dss_cons (ds_set (i := 4) nd (de_ix (de_var 2) (de_var 3)))
  (dss_cons (ds_if (dt_cmp od_ge bool_dIb (de_var 4) de_int) (dss_cons (ds_asg (de_bin od_fdiv (de_var 4) (de_var 1)) (dg_set (de_var 2) (de_var 3)))
  (dss_one (ds_ret (de_bin od_mod (de_var 4) (de_var 1))))) dss_nil)
  (dss_cons (ds_asg (de_bin od_add (de_ix (de_var 0) de_int) de_int) (dg_set (de_var 0) de_int))
  (dss_cons (ds_set (i := 5) nd (de_bin od_mod (de_callTy cd_int T.n_int (da_cons (de_bin od_add (de_bin od_mul (de_var 4) de_int) (de_bin od_mul (de_ix (de_var 0) de_int) de_int)) da_nil)) de_int))
  (dss_cons (ds_set (i := 5) nd (de_bin od_mod (de_callTy cd_int T.n_int (da_cons (de_bin od_add (de_bin od_mul (de_var 5) de_int) (de_bin od_mul (de_ix (de_var 0) de_int) de_int)) da_nil)) de_int))
  (dss_one (ds_ret (de_bin od_mod (de_bin od_fdiv (de_var 5) de_int) (de_var 1))))))))))))⟩
theorem ok_l_address (T : Tx K w mg) : FnOk P w K mg base (L2.CX P w) 2 T.f__law_address.a T.f__law_address.fd ["state"] (spB K 1 m_l_address) := by
  refine fnB (N := n_l_address) T.f__law_address.F sc_l_address fun cdv A outer s H E hr => ?_
  have nd := sc_l_address.nd
  have tk := takes_of (X := cxOf (L2.CX P w) P w K mg base n_l_address "_law_address" (defScope s_l_address) T.f__law_address.a cdv A outer s H E) (E := E) rfl rfl rfl rfl
  exact ⟨_, (dss_one (ds_ret (de_tup (da_cons (de_ix (de_lst (da_cons de_int (da_cons de_int (da_cons de_int (da_cons de_int (da_cons de_int da_nil)))))) (de_ix (de_lst (da_cons de_int (da_cons de_int (da_cons de_int (da_cons de_int (da_cons de_int (da_cons de_int (da_cons de_int (da_cons de_int da_nil))))))))) (de_callB' ((ok_l_take T).mono (by decide)) hr tk T.f__law_take.m T.f__law_take.F.kp T.f__law_take.b (da_cons (de_var 0) (da_cons de_int da_nil))))) (da_cons (de_ix (de_lst (da_cons de_int (da_cons de_int (da_cons de_int (da_cons de_int (da_cons de_int da_nil)))))) (de_ix (de_lst (da_cons de_int (da_cons de_int (da_cons de_int (da_cons de_int (da_cons de_int (da_cons de_int (da_cons de_int (da_cons de_int da_nil))))))))) (de_callB' ((ok_l_take T).mono (by decide)) hr tk T.f__law_take.m T.f__law_take.F.kp T.f__law_take.b (da_cons (de_var 0) (da_cons de_int da_nil))))) da_nil)))))⟩
theorem ok_l_near (T : Tx K w mg) : FnOk P w K mg base (L2.CX P w) 2 T.f__law_near.a T.f__law_near.fd ["state"] (spB K 1 m_l_near) := by
  refine fnB (N := n_l_near) T.f__law_near.F sc_l_near fun cdv A outer s H E hr => ?_
  have nd := sc_l_near.nd
  have tk := takes_of (X := cxOf (L2.CX P w) P w K mg base n_l_near "_law_near" (defScope s_l_near) T.f__law_near.a cdv A outer s H E) (E := E) rfl rfl rfl rfl
  exact ⟨_, (dss_one (ds_ret (de_tup (da_cons (de_callB' ((ok_l_take T).mono (by decide)) hr tk T.f__law_take.m T.f__law_take.F.kp T.f__law_take.b (da_cons (de_var 0) (da_cons de_int da_nil))) (da_cons (de_callB' ((ok_l_take T).mono (by decide)) hr tk T.f__law_take.m T.f__law_take.F.kp T.f__law_take.b (da_cons (de_var 0) (da_cons de_int da_nil))) da_nil)))))⟩
theorem ok_l_area (T : Tx K w mg) : FnOk P w K mg base (L2.CX P w) 3 T.f__law_area.a T.f__law_area.fd ["state"] (spB K 1 m_l_area) := by
  refine fnB (N := n_l_area) T.f__law_area.F sc_l_area fun cdv A outer s H E hr => ?_
  have nd := sc_l_area.nd
  have tk := takes_of (X := cxOf (L2.CX P w) P w K mg base n_l_area "_law_area" (defScope s_l_area) T.f__law_area.a cdv A outer s H E) (E := E) rfl rfl rfl rfl
  exact ⟨_, (dss_cons (ds_par (i := 1) (j := 2) rfl nd (da_cons (de_callB' ((ok_l_near T).mono (by decide)) hr tk T.f__law_near.m T.f__law_near.F.kp T.f__law_near.b (da_cons (de_var 0) da_nil)) (da_cons (de_callB' ((ok_l_near T).mono (by decide)) hr tk T.f__law_near.m T.f__law_near.F.kp T.f__law_near.b (da_cons (de_var 0) da_nil)) da_nil)))
  (dss_one (ds_ret (de_tup (da_cons (de_tup (da_cons (de_callB (cd_min2 rfl) T.n_min (da_cons (de_ix (de_var 1) de_int) (da_cons (de_ix (de_var 2) de_int) da_nil))) (da_cons (de_callB (cd_min2 rfl) T.n_min (da_cons (de_ix (de_var 1) de_int) (da_cons (de_ix (de_var 2) de_int) da_nil))) da_nil))) (da_cons (de_tup (da_cons (de_callB (cd_max2 rfl) T.n_max (da_cons (de_ix (de_var 1) de_int) (da_cons (de_ix (de_var 2) de_int) da_nil))) (da_cons (de_callB (cd_max2 rfl) T.n_max (da_cons (de_ix (de_var 1) de_int) (da_cons (de_ix (de_var 2) de_int) da_nil))) da_nil))) da_nil))))))⟩
theorem ok_l_cells (T : Tx K w mg) : FnOk P w K mg base (L2.CX P w) 1 T.f__law_cells.a T.f__law_cells.fd ["area"] (spA K 1 m_l_cells) := by
  refine fnA (N := n_l_cells) T.f__law_cells.F sc_l_cells fun cdv A outer s H E hr => ?_
  have nd := sc_l_cells.nd
  have tk := takes_of (X := cxOf (L2.CX P w) P w K mg base n_l_cells "_law_cells" (defScope s_l_cells) T.f__law_cells.a cdv A outer s H E) (E := E) rfl rfl rfl rfl
  exact ⟨_, (dss_cons (ds_set (i := 1) nd (de_lst da_nil))
  (dss_cons (ds_for (passes_of rfl) rfl (di_range2 T.n_range (da_cons (de_ix (de_ix (de_var 0) de_int) de_int) (da_cons (de_bin od_add2 (de_ix (de_ix (de_var 0) de_int) de_int) de_int) da_nil))) (dg_name (i := 2) nd) (dss_one (ds_set (i := 1) nd (de_bin od_add2 (de_var 1) (de_lc nd rfl (di_range2 T.n_range (da_cons (de_ix (de_ix (de_var 0) de_int) de_int) (da_cons (de_bin od_add2 (de_ix (de_ix (de_var 0) de_int) de_int) de_int) da_nil))) (blkOk_by (own := [((PySem.Str.ofString "row"), 3)]) (N := n_l_cells) (sc := defScope s_l_cells) (by decide +kernel)) (fun _ _ _ _ _ => (dg_name (i := 3) nd)) (fun _ _ _ _ _ => dpt_nil) (fun _ _ _ _ _ => (de_tup (da_cons (de_var 2) (da_cons (de_var 3) da_nil)))))))))
  (dss_one (ds_ret (de_var 1)))))⟩
theorem ok_l_order (T : Tx K w mg) : FnOk P w K mg base (L2.CX P w) 1 T.f__law_order.a T.f__law_order.fd ["addresses"] (spA K 1 m_l_order) := by
  refine fnA (N := n_l_order) T.f__law_order.F sc_l_order fun cdv A outer s H E hr => ?_
  have nd := sc_l_order.nd
  have tk := takes_of (X := cxOf (L2.CX P w) P w K mg base n_l_order "_law_order" (defScope s_l_order) T.f__law_order.a cdv A outer s H E) (E := E) rfl rfl rfl rfl
  exact ⟨_, (dss_cons (ds_set (i := 1) nd (de_callB (cd_sort (units67 hr)) T.n_sorted (da_cons (de_lc nd rfl (di_any (de_var 0)) (blkOk_by (own := [((PySem.Str.ofString "address"), 2)]) (N := n_l_order) (sc := defScope s_l_order) (by decide +kernel)) (fun _ _ _ _ _ => (dg_name (i := 2) nd)) (fun _ _ _ _ _ => dpt_nil) (fun _ _ _ _ _ => (de_tup (da_cons (de_ix (de_var 2) de_int) (da_cons (de_ix (de_var 2) de_int) da_nil))))) da_nil)))
  (dss_one (ds_ret (de_lc nd rfl (di_list (de_var 1)) (blkOk_by (own := [((PySem.Str.ofString "row"), 3), ((PySem.Str.ofString "column"), 4)]) (N := n_l_order) (sc := defScope s_l_order) (by decide +kernel)) (fun _ _ _ _ _ => (dg_tup rfl (dgs_cons (dg_name (i := 3) nd) (dgs_cons (dg_name (i := 4) nd) dgs_nil)))) (fun _ _ _ _ _ => dpt_nil) (fun _ _ _ _ _ => (de_tup (da_cons (de_var 4) (da_cons (de_var 3) da_nil))))))))⟩
theorem ok_l_has (T : Tx K w mg) : FnOk P w K mg base (L2.CX P w) 1 T.f__law_has.a T.f__law_has.fd ["area", "address"] (spA K 2 m_l_has) := by
  refine fnA (N := n_l_has) T.f__law_has.F sc_l_has fun cdv A outer s H E hr => ?_
  have nd := sc_l_has.nd
  have tk := takes_of (X := cxOf (L2.CX P w) P w K mg base n_l_has "_law_has" (defScope s_l_has) T.f__law_has.a cdv A outer s H E) (E := E) rfl rfl rfl rfl
  exact ⟨_, (dss_cons (ds_asg (de_var 0) (dg_tup rfl (dgs_cons (dg_name (i := 2) nd) (dgs_cons (dg_name (i := 3) nd) dgs_nil))))
  (dss_one (ds_ret (de_and (de_cmp od_le (de_ix (de_var 2) de_int) (de_ix (de_var 1) de_int)) (de_and (de_cmp od_le (de_ix (de_var 1) de_int) (de_ix (de_var 3) de_int)) (de_and (de_cmp od_le (de_ix (de_var 2) de_int) (de_ix (de_var 1) de_int)) (de_one (de_cmp od_le (de_ix (de_var 1) de_int) (de_ix (de_var 3) de_int)))))))))⟩
theorem ok_l_uses_it (T : Tx K w mg) : FnOk P w K mg base (L2.CX P w) 2 T.f__law_uses_it.a T.f__law_uses_it.fd ["ranges", "address", "other"] (spA K 3 m_l_uses_it) := by
  refine fnA (N := n_l_uses_it) T.f__law_uses_it.F sc_l_uses_it fun cdv A outer s H E hr => ?_
  have nd := sc_l_uses_it.nd
  have tk := takes_of (X := cxOf (L2.CX P w) P w K mg base n_l_uses_it "_law_uses_it" (defScope s_l_uses_it) T.f__law_uses_it.a cdv A outer s H E) (E := E) rfl rfl rfl rfl
  exact ⟨_, (dss_one (ds_ret (de_cmp od_gt (de_callB cd_len T.n_len (da_cons (de_lc nd rfl (di_list (de_dgm2 (units1 hr) (de_var 0) (de_var 1) (de_lst da_nil))) (blkOk_by (own := [((PySem.Str.ofString "area"), 3)]) (N := n_l_uses_it) (sc := defScope s_l_uses_it) (by decide +kernel)) (fun _ _ _ _ _ => (dg_name (i := 3) nd)) (fun _ _ _ _ _ => (dpt_one (dt_tru (de_callA ((ok_l_has T).mono (by decide)) hr takes0 T.f__law_has.m T.f__law_has.F.kp T.f__law_has.b (da_cons (de_var 3) (da_cons (de_var 2) da_nil)))))) (fun _ _ _ _ _ => (de_var 3))) da_nil)) de_int)))⟩
theorem ok_l_reached (T : Tx K w mg) : FnOk P w K mg base (L2.CX P w) 3 T.f__law_reached.a T.f__law_reached.fd ["ranges", "address"] (spA K 2 m_l_reached) := by
  refine fnA (N := n_l_reached) T.f__law_reached.F sc_l_reached fun cdv A outer s H E hr => ?_
  have nd := sc_l_reached.nd
  have tk := takes_of (X := cxOf (L2.CX P w) P w K mg base n_l_reached "_law_reached" (defScope s_l_reached) T.f__law_reached.a cdv A outer s H E) (E := E) rfl rfl rfl rfl
  exact ⟨_, (dss_cons (ds_set (i := 2) nd (de_lst da_nil))
  (dss_cons (ds_set (i := 3) nd (de_lst (da_cons (de_var 1) da_nil)))
  (dss_cons (ds_while 3000 (passes_of rfl) (dt_cmp od_gt bool_dIb (de_callB cd_len T.n_len (da_cons (de_var 3) da_nil)) de_int) (dss_cons (ds_set (i := 4) nd (de_lstO da_nil))
  (dss_cons (ds_for (passes_of rfl) rfl (di_keys (de_var 0)) (dg_name (i := 5) nd) (dss_one (ds_if (dt_w (dw_and (dt_cmp (od_nin (units65 hr)) bool_dNin (de_var 5) (de_var 2)) (dw_and1 (dt_cmp od_gt bool_dIb (de_callB cd_len T.n_len (da_cons (de_lc nd rfl (di_list (de_var 3)) (blkOk_by (own := [((PySem.Str.ofString "one"), 6)]) (N := n_l_reached) (sc := defScope s_l_reached) (by decide +kernel)) (fun _ _ _ _ _ => (dg_name (i := 6) nd)) (fun _ _ _ _ _ => (dpt_one (dt_tru (de_callA ((ok_l_uses_it T).mono (by decide)) hr takes0 T.f__law_uses_it.m T.f__law_uses_it.F.kp T.f__law_uses_it.b (da_cons (de_var 0) (da_cons (de_var 6) (da_cons (de_var 5) da_nil))))))) (fun _ _ _ _ _ => (de_var 6))) da_nil)) de_int)))) (dss_one (ds_expr (de_mth md_app (de_var 4) (da_cons (de_var 5) da_nil) PySem.F.plainAttrs_list PySem.F.slot_list_append PySem.F.type_list_append))) dss_nil)))
  (dss_frz 4 (dss_cons (ds_set (i := 2) nd (de_bin od_add2 (de_var 2) (de_frz (de_var 4))))
  (dss_one (ds_set (i := 3) nd (de_frz (de_var 4)))))))))
  (dss_one (ds_ret (de_callA ((ok_l_order T).mono (by decide)) hr tk T.f__law_order.m T.f__law_order.F.kp T.f__law_order.b (da_cons (de_var 2) da_nil)))))))⟩
theorem ok_l_users (T : Tx K w mg) : FnOk P w K mg base (L2.CX P w) 3 T.f__law_users.a T.f__law_users.fd ["ranges", "cells"] (spA K 2 m_l_users) := by
  refine fnA (N := n_l_users) T.f__law_users.F sc_l_users fun cdv A outer s H E hr => ?_
  have nd := sc_l_users.nd
  have tk := takes_of (X := cxOf (L2.CX P w) P w K mg base n_l_users "_law_users" (defScope s_l_users) T.f__law_users.a cdv A outer s H E) (E := E) rfl rfl rfl rfl
  exact ⟨_, (dss_cons (ds_setLc (i := 2) nd rfl (di_keys (de_var 0)) (blkOk_by (own := [((PySem.Str.ofString "address"), 3)]) (N := n_l_users) (sc := defScope s_l_users) (by decide +kernel)) (fun _ _ _ _ _ => (dg_name (i := 3) nd)) (fun _ _ _ _ _ => (dpt_one (dt_cmp od_gt bool_dIb (de_callB cd_len T.n_len (da_cons (de_lc (own := [((PySem.Str.ofString "other"), 4)]) nd rfl (di_list (de_var 1)) (by refine blkOk_by (N := n_l_users) (sc := (relSc _ (defScope s_l_users))) ?_; decide +kernel) (fun _ _ _ _ _ => (dg_name (i := 4) nd)) (fun _ _ _ _ _ => (dpt_one (dt_tru (de_callA ((ok_l_uses_it T).mono (by decide)) hr takes0 T.f__law_uses_it.m T.f__law_uses_it.F.kp T.f__law_uses_it.b (da_cons (de_var 0) (da_cons (de_var 3) (da_cons (de_var 4) da_nil))))))) (fun _ _ _ _ _ => (de_var 4))) da_nil)) de_int))) (fun _ _ _ _ _ => (de_var 3)))
  (dss_one (ds_ret (de_callA ((ok_l_order T).mono (by decide)) hr tk T.f__law_order.m T.f__law_order.F.kp T.f__law_order.b (da_cons (de_var 2) da_nil)))))⟩
theorem ok_l_reaching (T : Tx K w mg) : FnOk P w K mg base (L2.CX P w) 4 T.f__law_reaching.a T.f__law_reaching.fd ["ranges", "cells"] (spA K 2 m_l_reaching) := by
  refine fnA (N := n_l_reaching) T.f__law_reaching.F sc_l_reaching fun cdv A outer s H E hr => ?_
  have nd := sc_l_reaching.nd
  have tk := takes_of (X := cxOf (L2.CX P w) P w K mg base n_l_reaching "_law_reaching" (defScope s_l_reaching) T.f__law_reaching.a cdv A outer s H E) (E := E) rfl rfl rfl rfl
  exact ⟨_, (dss_cons (ds_set (i := 2) nd (de_lst da_nil))
  (dss_cons (ds_set (i := 3) nd (de_callA ((ok_l_users T).mono (by decide)) hr tk T.f__law_users.m T.f__law_users.F.kp T.f__law_users.b (da_cons (de_var 0) (da_cons (de_var 1) da_nil))))
  (dss_cons (ds_while 3000 (passes_of rfl) (dt_cmp od_gt bool_dIb (de_callB cd_len T.n_len (da_cons (de_var 3) da_nil)) de_int) (dss_cons (ds_set (i := 2) nd (de_bin od_add2 (de_var 2) (de_var 3)))
  (dss_one (ds_setLc (i := 3) nd rfl (di_list (de_callA ((ok_l_users T).mono (by decide)) hr tk T.f__law_users.m T.f__law_users.F.kp T.f__law_users.b (da_cons (de_var 0) (da_cons (de_var 2) da_nil)))) (blkOk_by (own := [((PySem.Str.ofString "address"), 4)]) (N := n_l_reaching) (sc := defScope s_l_reaching) (by decide +kernel)) (fun _ _ _ _ _ => (dg_name (i := 4) nd)) (fun _ _ _ _ _ => (dpt_one (dt_cmp (od_nin (units65 hr)) bool_dNin (de_var 4) (de_var 2)))) (fun _ _ _ _ _ => (de_var 4))))))
  (dss_one (ds_ret (de_callA ((ok_l_order T).mono (by decide)) hr tk T.f__law_order.m T.f__law_order.F.kp T.f__law_order.b (da_cons (de_var 2) da_nil)))))))⟩
theorem ok_l_state (T : Tx K w mg) : FnOk P w K mg base (L2.CX P w) 1 T.f__law_state.a T.f__law_state.fd ["script"] (spB K 1 m_l_state) := by
  refine fnB (N := n_l_state) T.f__law_state.F sc_l_state fun cdv A outer s H E hr => ?_
  have nd := sc_l_state.nd
  have tk := takes_of (X := cxOf (L2.CX P w) P w K mg base n_l_state "_law_state" (defScope s_l_state) T.f__law_state.a cdv A outer s H E) (E := E) rfl rfl rfl rfl
  exact ⟨_, (dss_cons (ds_setLcO (i := 1) nd rfl (di_list (de_sl (de_var 0) dp_none (dp_some de_int))) (blkOk_by (own := [((PySem.Str.ofString "cell"), 2)]) (N := n_l_state) (sc := defScope s_l_state) (by decide +kernel)) (fun _ _ _ _ _ => (dg_name (i := 2) nd)) (fun _ _ _ _ _ => dpt_nil) (fun _ _ _ _ _ => (de_callB cd_abs T.n_abs (da_cons (de_var 2) da_nil))))
  (dss_cons (ds_if (dt_cmp (od_eq hr.units) bool_dEq (de_callB cd_len T.n_len (da_cons (de_var 1) da_nil)) de_int) (dss_one (ds_set (i := 1) nd (de_lstO (da_cons de_int da_nil)))) dss_nil)
  (dss_one (ds_ret (de_lstO (da_cons de_int (da_cons (de_var 1) da_nil)))))))⟩
theorem top_law (T : Tx K w mg) (hB : ∀ p ∈ T.cs, LamX.TabB base mg p.1 p.2) (hS : SysIn base) : TopB P w K mg base n_law "law" s_law T.f_law.a 5 (b_law (T.Fa ++ T.cs.map (·.2))) := by
  intro cdv s H E hr
  have nd := sc_law.nd
  have tk := takes_of (X := cxOf (L2.CX P w) P w K mg base n_law "law" (defScope s_law) T.f_law.a cdv callerA [] s H E) (E := E) rfl rfl rfl rfl
  exact ⟨_, (dss_cons (ds_set (i := 1) nd (de_callB' ((ok_l_state T).mono (by decide)) hr tk T.f__law_state.m T.f__law_state.F.kp T.f__law_state.b (da_cons (de_var 0) da_nil)))
  (dss_cons (ds_set (i := 2) nd (de_make0 T.mk_Graph ((ok_Graph___init__ T hB).mono (by decide)) hr tk T.k_Graph.m T.f_Graph___init__.b da_nil))
  (dss_cons (ds_set (i := 3) nd de_dnewT)
  (dss_cons (ds_for (passes_of rfl) rfl (di_range1 T.n_range (da_cons (de_callB' ((ok_l_take T).mono (by decide)) hr tk T.f__law_take.m T.f__law_take.F.kp T.f__law_take.b (da_cons (de_var 1) (da_cons de_int da_nil))) da_nil)) (dg_name (i := 4) nd) (dss_cons (ds_set (i := 5) nd (de_ix (de_lst (da_cons (de_callB' ((ok_l_near T).mono (by decide)) hr tk T.f__law_near.m T.f__law_near.F.kp T.f__law_near.b (da_cons (de_var 1) da_nil)) (da_cons (de_callB' ((ok_l_address T).mono (by decide)) hr tk T.f__law_address.m T.f__law_address.F.kp T.f__law_address.b (da_cons (de_var 1) da_nil)) da_nil))) (de_callTy cd_int T.n_int (da_cons (de_cmp (od_eq hr.units) (de_callB' ((ok_l_take T).mono (by decide)) hr tk T.f__law_take.m T.f__law_take.F.kp T.f__law_take.b (da_cons (de_var 1) (da_cons de_int da_nil))) de_int) da_nil))))
  (dss_one (ds_if (dt_cmp (od_eq hr.units) bool_dEq (de_callB' ((ok_l_take T).mono (by decide)) hr tk T.f__law_take.m T.f__law_take.F.kp T.f__law_take.b (da_cons (de_var 1) (da_cons de_int da_nil))) de_int) (dss_cons (ds_expr (de_meth T.k_Graph.k T.f_Graph_remove.m ((ok_Graph_remove T hB).mono (by decide)) hr tk T.f_Graph_remove.b (de_var 2) (da_cons (de_var 5) da_nil)))
  (dss_one (ds_if (dt_din (units1 hr) (de_var 5) (de_var 3)) (dss_one (ds_expr (de_dpopT (units1 hr) (de_var 3) (de_var 5)))) dss_nil))) (dss_cons (ds_setLc (i := 6) nd rfl (di_range1 T.n_range (da_cons (de_callB' ((ok_l_take T).mono (by decide)) hr tk T.f__law_take.m T.f__law_take.F.kp T.f__law_take.b (da_cons (de_var 1) (da_cons de_int da_nil))) da_nil)) (blkOk_by (own := [((PySem.Str.ofString "k"), 11)]) (N := n_law) (sc := defScope s_law) (by decide +kernel)) (fun _ _ _ _ _ => (dg_name (i := 11) nd)) (fun _ _ _ _ _ => dpt_nil) (fun _ _ _ _ _ => (de_callB' ((ok_l_area T).mono (by decide)) hr takes0 T.f__law_area.m T.f__law_area.F.kp T.f__law_area.b (da_cons (de_var 1) da_nil))))
  (dss_cons (ds_expr (de_meth T.k_Graph.k T.f_Graph_put.m ((ok_Graph_put T hB).mono (by decide)) hr tk T.f_Graph_put.b (de_var 2) (da_cons (de_var 5) (da_cons (de_callTy cd_list T.n_list (da_cons (de_var 6) da_nil)) da_nil))))
  (dss_one (ds_put (units1 hr) (de_var 6) (de_var 3) (de_var 5)))))))))
  (dss_frzD 3 (dss_frzFD 2 _ (PySem.Str.ofString "ranges") (dss_cons (ds_if (dt_w (dw_or (dt_cmp (od_ne hr.units) bool_dNe (de_meth0 T.k_Graph.k T.f_Graph_formulas.m ((ok_Graph_formulas T hB).mono (by decide)) hr tk T.f_Graph_formulas.b (de_var 2) da_nil) (de_callA ((ok_l_order T).mono (by decide)) hr tk T.f__law_order.m T.f__law_order.F.kp T.f__law_order.b (da_cons (de_frz (de_var 3)) da_nil))) (dw_or1 (dt_cmp (od_neDt (units66 hr)) bool_dNeDt (de_fld T.k_Graph.k (by decide +kernel) (de_var 2)) (de_frz (de_var 3)))))) (dss_one (ds_ret de_bl)) dss_nil)
  (dss_cons (ds_setLc (i := 6) nd rfl (di_range1 T.n_range (da_cons (de_callB' ((ok_l_take T).mono (by decide)) hr tk T.f__law_take.m T.f__law_take.F.kp T.f__law_take.b (da_cons (de_var 1) (da_cons de_int da_nil))) da_nil)) (blkOk_by (own := [((PySem.Str.ofString "k"), 11)]) (N := n_law) (sc := defScope s_law) (by decide +kernel)) (fun _ _ _ _ _ => (dg_name (i := 11) nd)) (fun _ _ _ _ _ => dpt_nil) (fun _ _ _ _ _ => (de_callB' ((ok_l_area T).mono (by decide)) hr takes0 T.f__law_area.m T.f__law_area.F.kp T.f__law_area.b (da_cons (de_var 1) da_nil))))
  (dss_cons (ds_set (i := 7) nd (de_lst da_nil))
  (dss_cons (ds_for (passes_of rfl) rfl (di_list (de_var 6)) (dg_name (i := 8) nd) (dss_cons (ds_set (i := 7) nd (de_bin od_add2 (de_var 7) (de_callA ((ok_l_cells T).mono (by decide)) hr tk T.f__law_cells.m T.f__law_cells.F.kp T.f__law_cells.b (da_cons (de_var 8) da_nil))))
  (dss_one (ds_if (dt_cmp (od_ne hr.units) bool_dNe (de_meth T.k_Graph.k T.f_Graph_users_of.m ((ok_Graph_users_of T hB).mono (by decide)) hr tk T.f_Graph_users_of.b (de_var 2) (da_cons (de_var 8) da_nil)) (de_callA ((ok_l_users T).mono (by decide)) hr tk T.f__law_users.m T.f__law_users.F.kp T.f__law_users.b (da_cons (de_frz (de_var 3)) (da_cons (de_callA ((ok_l_cells T).mono (by decide)) hr tk T.f__law_cells.m T.f__law_cells.F.kp T.f__law_cells.b (da_cons (de_var 8) da_nil)) da_nil)))) (dss_one (ds_ret de_bl)) dss_nil))))
  (dss_cons (ds_if (dt_cmp (od_ne hr.units) bool_dNe (de_meth T.k_Graph.k T.f_Graph_reaching.m ((ok_Graph_reaching T hB).mono (by decide)) hr tk T.f_Graph_reaching.b (de_var 2) (da_cons (de_var 6) da_nil)) (de_callA ((ok_l_reaching T).mono (by decide)) hr tk T.f__law_reaching.m T.f__law_reaching.F.kp T.f__law_reaching.b (da_cons (de_frz (de_var 3)) (da_cons (de_var 7) da_nil)))) (dss_one (ds_ret de_bl)) dss_nil)
  (dss_cons (ds_for (passes_of rfl) rfl (di_list (de_bin od_add2 (de_callA ((ok_l_order T).mono (by decide)) hr tk T.f__law_order.m T.f__law_order.F.kp T.f__law_order.b (da_cons (de_frz (de_var 3)) da_nil)) (de_lst (da_cons (de_tup (da_cons de_int (da_cons de_int da_nil))) da_nil)))) (dg_name (i := 5) nd) (dss_cons (ds_if (dt_cmp (od_ne hr.units) bool_dNe (de_meth T.k_Graph.k T.f_Graph_reached.m ((ok_Graph_reached T hB).mono (by decide)) hr tk T.f_Graph_reached.b (de_var 2) (da_cons (de_var 5) da_nil)) (de_callA ((ok_l_reached T).mono (by decide)) hr tk T.f__law_reached.m T.f__law_reached.F.kp T.f__law_reached.b (da_cons (de_frz (de_var 3)) (da_cons (de_var 5) da_nil)))) (dss_one (ds_ret de_bl)) dss_nil)
  (dss_cons (ds_setLc (i := 9) nd rfl (di_keys (de_frz (de_var 3))) (blkOk_by (own := [((PySem.Str.ofString "other"), 10)]) (N := n_law) (sc := defScope s_law) (by decide +kernel)) (fun _ _ _ _ _ => (dg_name (i := 10) nd)) (fun _ _ _ _ _ => (dpt_one (dt_tru (de_callA ((ok_l_uses_it T).mono (by decide)) hr takes0 T.f__law_uses_it.m T.f__law_uses_it.F.kp T.f__law_uses_it.b (da_cons (de_frz (de_var 3)) (da_cons (de_var 5) (da_cons (de_var 10) da_nil))))))) (fun _ _ _ _ _ => (de_var 10)))
  (dss_cons (ds_if (dt_cmp (od_ne hr.units) bool_dNe (de_meth T.k_Graph.k T.f_Graph_used_formulas.m ((ok_Graph_used_formulas T hB).mono (by decide)) hr tk T.f_Graph_used_formulas.b (de_var 2) (da_cons (de_var 5) da_nil)) (de_callA ((ok_l_order T).mono (by decide)) hr tk T.f__law_order.m T.f__law_order.F.kp T.f__law_order.b (da_cons (de_var 9) da_nil))) (dss_one (ds_ret de_bl)) dss_nil)
  (dss_cons (ds_set (i := 10) nd (de_callB' ((ok_l_near T).mono (by decide)) hr tk T.f__law_near.m T.f__law_near.F.kp T.f__law_near.b (da_cons (de_var 1) da_nil)))
  (dss_one (ds_if (dt_cmp (od_ne hr.units) bool_dNe (de_callB (cd_repr rfl (units66 hr)) T.n_repr (da_cons (de_meth T.k_Graph.k T.f_Graph_uses.m ((ok_Graph_uses T hB).mono (by decide)) hr tk T.f_Graph_uses.b (de_var 2) (da_cons (de_var 5) (da_cons (de_var 10) da_nil))) da_nil)) (de_callB (cd_repr rfl (units66 hr)) T.n_repr (da_cons (de_callA ((ok_l_uses_it T).mono (by decide)) hr tk T.f__law_uses_it.m T.f__law_uses_it.F.kp T.f__law_uses_it.b (da_cons (de_frz (de_var 3)) (da_cons (de_var 5) (da_cons (de_var 10) da_nil)))) da_nil))) (dss_one (ds_ret de_bl)) dss_nil)))))))
  (dss_one (ds_ret de_bl))))))))))))))⟩
end
theorem all_mk {l : PySem.W.OpenLaw} {w : World} {K : PySem.W.Frag} {h : Heap} {mg : Str → Option Value} {fa f0 f1 f2 f3 f4 f5 f6 f7 f8 f9 f10 f11 f12 f13 f14 f15 f16 f17 f18 f19 f20 f21 f22 f23 f24 f25 f26 f27 f28 f29 f30 f31 f32 f33 C_Graph cc13 : Addr} (X : K.In h) (G : h.Ns mainGlobals mg) (hfa : mg "law" = some (.ref fa))
    {od0 an0 od1 an1 od2 an2 od3 an3 od4 an4 od5 an5 od6 an6 od7 an7 od8 an8 od9 an9 od10 an10 od11 an11 od12 an12 od13 an13 od14 an14 od15 an15 od16 an16 od17 an17 od18 an18 od19 an19 od20 an20 od21 an21 od22 an22 od23 an23 od24 an24 od25 an25 od26 an26 od27 an27 od28 an28 od29 an29 od30 an30 od31 an31 od32 an32 od33 an33 : Option Addr} {sl0 sl1 sl2 sl3 sl4 sl5 sl6 sl7 sl8 sl9 sl10 sl11 sl12 sl13 sl14 sl15 sl16 sl17 sl18 sl19 sl20 sl21 sl22 sl23 sl24 sl25 sl26 sl27 sl28 sl29 sl30 sl31 sl32 sl33 : Array (Option Value)} {oc0 kV0 dc0 pm0 cd0 ct0 oc1 kV1 dc1 pm1 cd1 ct1 oc2 kV2 dc2 pm2 cd2 ct2 oc3 kV3 dc3 pm3 cd3 ct3 oc4 kV4 dc4 pm4 cd4 ct4 oc5 kV5 dc5 pm5 cd5 ct5 oc6 kV6 dc6 pm6 cd6 ct6 oc7 kV7 dc7 pm7 cd7 ct7 oc8 kV8 dc8 pm8 cd8 ct8 oc9 kV9 dc9 pm9 cd9 ct9 oc10 kV10 dc10 pm10 cd10 ct10 oc11 kV11 dc11 pm11 cd11 ct11 oc12 kV12 dc12 pm12 cd12 ct12 oc13 kV13 dc13 pm13 ct13 oc14 kV14 dc14 pm14 cd14 ct14 oc15 kV15 dc15 pm15 cd15 ct15 oc16 kV16 dc16 pm16 cd16 ct16 oc17 kV17 dc17 pm17 cd17 ct17 oc18 kV18 dc18 pm18 cd18 ct18 oc19 kV19 dc19 pm19 cd19 ct19 oc20 kV20 dc20 pm20 cd20 ct20 oc21 kV21 dc21 pm21 cd21 ct21 oc22 kV22 dc22 pm22 cd22 ct22 oc23 kV23 dc23 pm23 cd23 ct23 oc24 kV24 dc24 pm24 cd24 ct24 oc25 kV25 dc25 pm25 cd25 ct25 oc26 kV26 dc26 pm26 cd26 ct26 oc27 kV27 dc27 pm27 cd27 ct27 oc28 kV28 dc28 pm28 cd28 ct28 oc29 kV29 dc29 pm29 cd29 ct29 oc30 kV30 dc30 pm30 cd30 ct30 oc31 kV31 dc31 pm31 cd31 ct31 oc32 kV32 dc32 pm32 cd32 ct32 oc33 kV33 dc33 pm33 cd33 ct33 : Value} {t_SHEET_0_0 : Tok} {t_SHEET_0_1 : Tok} {a_SHEET_0 : Addr} {d_SHEET_0 : Option Addr} {z_SHEET_0 : Nat} {w_SHEET_0 : Array (Option Value)} {t_SHEET_1_0 : Tok} {t_SHEET_1_1 : Tok} {a_SHEET_1 : Addr} {d_SHEET_1 : Option Addr} {z_SHEET_1 : Nat} {w_SHEET_1 : Array (Option Value)} {a_SHEET : Addr} {d_SHEET : Option Addr} {z_SHEET : Nat} {w_SHEET : Array (Option Value)} {t_COLUMNS : Tok}
        (aC_Graph : PySem.W.nsIn K mainGlobals "Graph" = some (some (.ref C_Graph))) (pg_Graph : PySem.W.plainGet K C_Graph Str.empty = true) (hd_Graph : PySem.W.hasDictIn K C_Graph = true) (po_Graph : PySem.W.plainOver K C_Graph = true) (sa_Graph : PySem.W.findIn K (.ref C_Graph) "__setattr__" = some (some (.builtin "object.__setattr__"))) (mk_Graph : PySem.W.makesIn K C_Graph = true) (kc_Graph : PySem.W.keepIn K (.ref C_Graph) = true) (na_Graph_0 : PySem.W.findIn K (.ref C_Graph) "ranges" = some none) (na_Graph_1 : PySem.W.findIn K (.ref C_Graph) "_uses" = some none) (na_Graph_2 : PySem.W.findIn K (.ref C_Graph) "_cells" = some none) (na_Graph_3 : PySem.W.findIn K (.ref C_Graph) "_by_column" = some none) (na_Graph_4 : PySem.W.findIn K (.ref C_Graph) "_by_row" = some none)
    (a0 : PySem.W.findIn K (.ref C_Graph) "__init__" = some (some (.ref f0))) (i0 : PySem.W.isFn K (.ref f0) = true) (l0 : K.lookup f0 = some ⟨oc0, od0, .func (PySem.W.fnOf "__init__" "Graph.__init__" (defArgs s_Graph___init__) (defBody s_Graph___init__) (defScope s_Graph___init__) .none kV0 dc0 pm0 an0 cd0 ct0), sl0⟩) (c0 : PySem.W.codeIn K cd0 "Graph.__init__" = true) (k0 : PySem.W.keepIn K (.ref f0) = true)
    (a1 : PySem.W.nsIn K mainGlobals "_address_at" = some (some (.ref f1))) (l1 : K.lookup f1 = some ⟨oc1, od1, .func (PySem.W.fnOf "_address_at" "_address_at" (defArgs s_address_at) (defBody s_address_at) (defScope s_address_at) .none kV1 dc1 pm1 an1 cd1 ct1), sl1⟩) (c1 : PySem.W.codeIn K cd1 "_address_at" = true) (k1 : PySem.W.keepIn K (.ref f1) = true)
    (a2 : PySem.W.nsIn K mainGlobals "cells_in" = some (some (.ref f2))) (l2 : K.lookup f2 = some ⟨oc2, od2, .func (PySem.W.fnOf "cells_in" "cells_in" (defArgs s_cells_in) (defBody s_cells_in) (defScope s_cells_in) .none kV2 dc2 pm2 an2 cd2 ct2), sl2⟩) (c2 : PySem.W.codeIn K cd2 "cells_in" = true) (k2 : PySem.W.keepIn K (.ref f2) = true)
    (a3 : PySem.W.findIn K (.ref C_Graph) "formulas" = some (some (.ref f3))) (i3 : PySem.W.isFn K (.ref f3) = true) (l3 : K.lookup f3 = some ⟨oc3, od3, .func (PySem.W.fnOf "formulas" "Graph.formulas" (defArgs s_Graph_formulas) (defBody s_Graph_formulas) (defScope s_Graph_formulas) .none kV3 dc3 pm3 an3 cd3 ct3), sl3⟩) (c3 : PySem.W.codeIn K cd3 "Graph.formulas" = true) (k3 : PySem.W.keepIn K (.ref f3) = true)
    (a4 : PySem.W.nsIn K mainGlobals "index_of" = some (some (.ref f4))) (l4 : K.lookup f4 = some ⟨oc4, od4, .func (PySem.W.fnOf "index_of" "index_of" (defArgs s_index_of) (defBody s_index_of) (defScope s_index_of) .none kV4 dc4 pm4 an4 cd4 ct4), sl4⟩) (c4 : PySem.W.codeIn K cd4 "index_of" = true) (k4 : PySem.W.keepIn K (.ref f4) = true)
    (a5 : PySem.W.nsIn K mainGlobals "bit_of" = some (some (.ref f5))) (l5 : K.lookup f5 = some ⟨oc5, od5, .func (PySem.W.fnOf "bit_of" "bit_of" (defArgs s_bit_of) (defBody s_bit_of) (defScope s_bit_of) .none kV5 dc5 pm5 an5 cd5 ct5), sl5⟩) (c5 : PySem.W.codeIn K cd5 "bit_of" = true) (k5 : PySem.W.keepIn K (.ref f5) = true)
    (a6 : PySem.W.findIn K (.ref C_Graph) "remove" = some (some (.ref f6))) (i6 : PySem.W.isFn K (.ref f6) = true) (l6 : K.lookup f6 = some ⟨oc6, od6, .func (PySem.W.fnOf "remove" "Graph.remove" (defArgs s_Graph_remove) (defBody s_Graph_remove) (defScope s_Graph_remove) .none kV6 dc6 pm6 an6 cd6 ct6), sl6⟩) (c6 : PySem.W.codeIn K cd6 "Graph.remove" = true) (k6 : PySem.W.keepIn K (.ref f6) = true)
    (a7 : PySem.W.nsIn K mainGlobals "mask_of" = some (some (.ref f7))) (l7 : K.lookup f7 = some ⟨oc7, od7, .func (PySem.W.fnOf "mask_of" "mask_of" (defArgs s_mask_of) (defBody s_mask_of) (defScope s_mask_of) .none kV7 dc7 pm7 an7 cd7 ct7), sl7⟩) (c7 : PySem.W.codeIn K cd7 "mask_of" = true) (k7 : PySem.W.keepIn K (.ref f7) = true)
    (a8 : PySem.W.nsIn K mainGlobals "mask_of_all" = some (some (.ref f8))) (l8 : K.lookup f8 = some ⟨oc8, od8, .func (PySem.W.fnOf "mask_of_all" "mask_of_all" (defArgs s_mask_of_all) (defBody s_mask_of_all) (defScope s_mask_of_all) .none kV8 dc8 pm8 an8 cd8 ct8), sl8⟩) (c8 : PySem.W.codeIn K cd8 "mask_of_all" = true) (k8 : PySem.W.keepIn K (.ref f8) = true)
    (a9 : PySem.W.findIn K (.ref C_Graph) "put" = some (some (.ref f9))) (i9 : PySem.W.isFn K (.ref f9) = true) (l9 : K.lookup f9 = some ⟨oc9, od9, .func (PySem.W.fnOf "put" "Graph.put" (defArgs s_Graph_put) (defBody s_Graph_put) (defScope s_Graph_put) .none kV9 dc9 pm9 an9 cd9 ct9), sl9⟩) (c9 : PySem.W.codeIn K cd9 "Graph.put" = true) (k9 : PySem.W.keepIn K (.ref f9) = true)
    (a10 : PySem.W.findIn K (.ref C_Graph) "used_cells" = some (some (.ref f10))) (i10 : PySem.W.isFn K (.ref f10) = true) (l10 : K.lookup f10 = some ⟨oc10, od10, .func (PySem.W.fnOf "used_cells" "Graph.used_cells" (defArgs s_Graph_used_cells) (defBody s_Graph_used_cells) (defScope s_Graph_used_cells) .none kV10 dc10 pm10 an10 cd10 ct10), sl10⟩) (c10 : PySem.W.codeIn K cd10 "Graph.used_cells" = true) (k10 : PySem.W.keepIn K (.ref f10) = true)
    (a11 : PySem.W.nsIn K mainGlobals "first_in" = some (some (.ref f11))) (l11 : K.lookup f11 = some ⟨oc11, od11, .func (PySem.W.fnOf "first_in" "first_in" (defArgs s_first_in) (defBody s_first_in) (defScope s_first_in) .none kV11 dc11 pm11 an11 cd11 ct11), sl11⟩) (c11 : PySem.W.codeIn K cd11 "first_in" = true) (k11 : PySem.W.keepIn K (.ref f11) = true)
    (a12 : PySem.W.nsIn K mainGlobals "spread" = some (some (.ref f12))) (l12 : K.lookup f12 = some ⟨oc12, od12, .func (PySem.W.fnOf "spread" "spread" (defArgs s_spread) (defBody s_spread) (defScope s_spread) .none kV12 dc12 pm12 an12 cd12 ct12), sl12⟩) (c12 : PySem.W.codeIn K cd12 "spread" = true) (k12 : PySem.W.keepIn K (.ref f12) = true)
    (a13 : PySem.W.findIn K (.ref C_Graph) "reached" = some (some (.ref f13))) (i13 : PySem.W.isFn K (.ref f13) = true) (l13 : K.lookup f13 = some ⟨oc13, od13, .func (PySem.W.fnOf "reached" "Graph.reached" (defArgs s_Graph_reached) (defBody s_Graph_reached) (defScope s_Graph_reached) .none kV13 dc13 pm13 an13 (.ref cc13) ct13), sl13⟩) (c13 : PySem.W.codeIn K (.ref cc13) "Graph.reached" = true) (k13 : PySem.W.keepIn K (.ref f13) = true)
    (a14 : PySem.W.findIn K (.ref C_Graph) "_users_of" = some (some (.ref f14))) (i14 : PySem.W.isFn K (.ref f14) = true) (l14 : K.lookup f14 = some ⟨oc14, od14, .func (PySem.W.fnOf "_users_of" "Graph._users_of" (defArgs s_Graph__users_of) (defBody s_Graph__users_of) (defScope s_Graph__users_of) .none kV14 dc14 pm14 an14 cd14 ct14), sl14⟩) (c14 : PySem.W.codeIn K cd14 "Graph._users_of" = true) (k14 : PySem.W.keepIn K (.ref f14) = true)
    (a15 : PySem.W.findIn K (.ref C_Graph) "with_reaching" = some (some (.ref f15))) (i15 : PySem.W.isFn K (.ref f15) = true) (l15 : K.lookup f15 = some ⟨oc15, od15, .func (PySem.W.fnOf "with_reaching" "Graph.with_reaching" (defArgs s_Graph_with_reaching) (defBody s_Graph_with_reaching) (defScope s_Graph_with_reaching) .none kV15 dc15 pm15 an15 cd15 ct15), sl15⟩) (c15 : PySem.W.codeIn K cd15 "Graph.with_reaching" = true) (k15 : PySem.W.keepIn K (.ref f15) = true)
    (a16 : PySem.W.findIn K (.ref C_Graph) "reaching" = some (some (.ref f16))) (i16 : PySem.W.isFn K (.ref f16) = true) (l16 : K.lookup f16 = some ⟨oc16, od16, .func (PySem.W.fnOf "reaching" "Graph.reaching" (defArgs s_Graph_reaching) (defBody s_Graph_reaching) (defScope s_Graph_reaching) .none kV16 dc16 pm16 an16 cd16 ct16), sl16⟩) (c16 : PySem.W.codeIn K cd16 "Graph.reaching" = true) (k16 : PySem.W.keepIn K (.ref f16) = true)
    (a17 : PySem.W.findIn K (.ref C_Graph) "used_formulas" = some (some (.ref f17))) (i17 : PySem.W.isFn K (.ref f17) = true) (l17 : K.lookup f17 = some ⟨oc17, od17, .func (PySem.W.fnOf "used_formulas" "Graph.used_formulas" (defArgs s_Graph_used_formulas) (defBody s_Graph_used_formulas) (defScope s_Graph_used_formulas) .none kV17 dc17 pm17 an17 cd17 ct17), sl17⟩) (c17 : PySem.W.codeIn K cd17 "Graph.used_formulas" = true) (k17 : PySem.W.keepIn K (.ref f17) = true)
    (a18 : PySem.W.findIn K (.ref C_Graph) "users_of" = some (some (.ref f18))) (i18 : PySem.W.isFn K (.ref f18) = true) (l18 : K.lookup f18 = some ⟨oc18, od18, .func (PySem.W.fnOf "users_of" "Graph.users_of" (defArgs s_Graph_users_of) (defBody s_Graph_users_of) (defScope s_Graph_users_of) .none kV18 dc18 pm18 an18 cd18 ct18), sl18⟩) (c18 : PySem.W.codeIn K cd18 "Graph.users_of" = true) (k18 : PySem.W.keepIn K (.ref f18) = true)
    (a19 : PySem.W.nsIn K mainGlobals "inside" = some (some (.ref f19))) (l19 : K.lookup f19 = some ⟨oc19, od19, .func (PySem.W.fnOf "inside" "inside" (defArgs s_inside) (defBody s_inside) (defScope s_inside) .none kV19 dc19 pm19 an19 cd19 ct19), sl19⟩) (c19 : PySem.W.codeIn K cd19 "inside" = true) (k19 : PySem.W.keepIn K (.ref f19) = true)
    (a20 : PySem.W.findIn K (.ref C_Graph) "uses" = some (some (.ref f20))) (i20 : PySem.W.isFn K (.ref f20) = true) (l20 : K.lookup f20 = some ⟨oc20, od20, .func (PySem.W.fnOf "uses" "Graph.uses" (defArgs s_Graph_uses) (defBody s_Graph_uses) (defScope s_Graph_uses) .none kV20 dc20 pm20 an20 cd20 ct20), sl20⟩) (c20 : PySem.W.codeIn K cd20 "Graph.uses" = true) (k20 : PySem.W.keepIn K (.ref f20) = true)
    (a21 : PySem.W.nsIn K mainGlobals "_law_take" = some (some (.ref f21))) (l21 : K.lookup f21 = some ⟨oc21, od21, .func (PySem.W.fnOf "_law_take" "_law_take" (defArgs s_l_take) (defBody s_l_take) (defScope s_l_take) .none kV21 dc21 pm21 an21 cd21 ct21), sl21⟩) (c21 : PySem.W.codeIn K cd21 "_law_take" = true) (k21 : PySem.W.keepIn K (.ref f21) = true)
    (a22 : PySem.W.nsIn K mainGlobals "_law_address" = some (some (.ref f22))) (l22 : K.lookup f22 = some ⟨oc22, od22, .func (PySem.W.fnOf "_law_address" "_law_address" (defArgs s_l_address) (defBody s_l_address) (defScope s_l_address) .none kV22 dc22 pm22 an22 cd22 ct22), sl22⟩) (c22 : PySem.W.codeIn K cd22 "_law_address" = true) (k22 : PySem.W.keepIn K (.ref f22) = true)
    (a23 : PySem.W.nsIn K mainGlobals "_law_near" = some (some (.ref f23))) (l23 : K.lookup f23 = some ⟨oc23, od23, .func (PySem.W.fnOf "_law_near" "_law_near" (defArgs s_l_near) (defBody s_l_near) (defScope s_l_near) .none kV23 dc23 pm23 an23 cd23 ct23), sl23⟩) (c23 : PySem.W.codeIn K cd23 "_law_near" = true) (k23 : PySem.W.keepIn K (.ref f23) = true)
    (a24 : PySem.W.nsIn K mainGlobals "_law_area" = some (some (.ref f24))) (l24 : K.lookup f24 = some ⟨oc24, od24, .func (PySem.W.fnOf "_law_area" "_law_area" (defArgs s_l_area) (defBody s_l_area) (defScope s_l_area) .none kV24 dc24 pm24 an24 cd24 ct24), sl24⟩) (c24 : PySem.W.codeIn K cd24 "_law_area" = true) (k24 : PySem.W.keepIn K (.ref f24) = true)
    (a25 : PySem.W.nsIn K mainGlobals "_law_cells" = some (some (.ref f25))) (l25 : K.lookup f25 = some ⟨oc25, od25, .func (PySem.W.fnOf "_law_cells" "_law_cells" (defArgs s_l_cells) (defBody s_l_cells) (defScope s_l_cells) .none kV25 dc25 pm25 an25 cd25 ct25), sl25⟩) (c25 : PySem.W.codeIn K cd25 "_law_cells" = true) (k25 : PySem.W.keepIn K (.ref f25) = true)
    (a26 : PySem.W.nsIn K mainGlobals "_law_order" = some (some (.ref f26))) (l26 : K.lookup f26 = some ⟨oc26, od26, .func (PySem.W.fnOf "_law_order" "_law_order" (defArgs s_l_order) (defBody s_l_order) (defScope s_l_order) .none kV26 dc26 pm26 an26 cd26 ct26), sl26⟩) (c26 : PySem.W.codeIn K cd26 "_law_order" = true) (k26 : PySem.W.keepIn K (.ref f26) = true)
    (a27 : PySem.W.nsIn K mainGlobals "_law_has" = some (some (.ref f27))) (l27 : K.lookup f27 = some ⟨oc27, od27, .func (PySem.W.fnOf "_law_has" "_law_has" (defArgs s_l_has) (defBody s_l_has) (defScope s_l_has) .none kV27 dc27 pm27 an27 cd27 ct27), sl27⟩) (c27 : PySem.W.codeIn K cd27 "_law_has" = true) (k27 : PySem.W.keepIn K (.ref f27) = true)
    (a28 : PySem.W.nsIn K mainGlobals "_law_uses_it" = some (some (.ref f28))) (l28 : K.lookup f28 = some ⟨oc28, od28, .func (PySem.W.fnOf "_law_uses_it" "_law_uses_it" (defArgs s_l_uses_it) (defBody s_l_uses_it) (defScope s_l_uses_it) .none kV28 dc28 pm28 an28 cd28 ct28), sl28⟩) (c28 : PySem.W.codeIn K cd28 "_law_uses_it" = true) (k28 : PySem.W.keepIn K (.ref f28) = true)
    (a29 : PySem.W.nsIn K mainGlobals "_law_reached" = some (some (.ref f29))) (l29 : K.lookup f29 = some ⟨oc29, od29, .func (PySem.W.fnOf "_law_reached" "_law_reached" (defArgs s_l_reached) (defBody s_l_reached) (defScope s_l_reached) .none kV29 dc29 pm29 an29 cd29 ct29), sl29⟩) (c29 : PySem.W.codeIn K cd29 "_law_reached" = true) (k29 : PySem.W.keepIn K (.ref f29) = true)
    (a30 : PySem.W.nsIn K mainGlobals "_law_users" = some (some (.ref f30))) (l30 : K.lookup f30 = some ⟨oc30, od30, .func (PySem.W.fnOf "_law_users" "_law_users" (defArgs s_l_users) (defBody s_l_users) (defScope s_l_users) .none kV30 dc30 pm30 an30 cd30 ct30), sl30⟩) (c30 : PySem.W.codeIn K cd30 "_law_users" = true) (k30 : PySem.W.keepIn K (.ref f30) = true)
    (a31 : PySem.W.nsIn K mainGlobals "_law_reaching" = some (some (.ref f31))) (l31 : K.lookup f31 = some ⟨oc31, od31, .func (PySem.W.fnOf "_law_reaching" "_law_reaching" (defArgs s_l_reaching) (defBody s_l_reaching) (defScope s_l_reaching) .none kV31 dc31 pm31 an31 cd31 ct31), sl31⟩) (c31 : PySem.W.codeIn K cd31 "_law_reaching" = true) (k31 : PySem.W.keepIn K (.ref f31) = true)
    (a32 : PySem.W.nsIn K mainGlobals "_law_state" = some (some (.ref f32))) (l32 : K.lookup f32 = some ⟨oc32, od32, .func (PySem.W.fnOf "_law_state" "_law_state" (defArgs s_l_state) (defBody s_l_state) (defScope s_l_state) .none kV32 dc32 pm32 an32 cd32 ct32), sl32⟩) (c32 : PySem.W.codeIn K cd32 "_law_state" = true) (k32 : PySem.W.keepIn K (.ref f32) = true)
    (a33 : PySem.W.nsIn K mainGlobals "law" = some (some (.ref f33))) (l33 : K.lookup f33 = some ⟨oc33, od33, .func (PySem.W.fnOf "law" "law" (defArgs s_law) (defBody s_law) (defScope s_law) .none kV33 dc33 pm33 an33 cd33 ct33), sl33⟩) (c33 : PySem.W.codeIn K cd33 "law" = true) (k33 : PySem.W.keepIn K (.ref f33) = true)
    (g_SHEET : PySem.W.nsIn K mainGlobals "SHEET" = some (some (.ref a_SHEET))) (l_SHEET : K.lookup a_SHEET = some ⟨.type "tuple", d_SHEET, .seq #[(.ref a_SHEET_0), (.ref a_SHEET_1)] z_SHEET, w_SHEET⟩) (l_SHEET_0 : K.lookup a_SHEET_0 = some ⟨.type "tuple", d_SHEET_0, .seq #[(.int 0 t_SHEET_0_0), (.int 0 t_SHEET_0_1)] z_SHEET_0, w_SHEET_0⟩) (l_SHEET_1 : K.lookup a_SHEET_1 = some ⟨.type "tuple", d_SHEET_1, .seq #[(.int 25 t_SHEET_1_0), (.int 98 t_SHEET_1_1)] z_SHEET_1, w_SHEET_1⟩)
    (g_COLUMNS : PySem.W.nsIn K mainGlobals "COLUMNS" = some (some (.int 26 t_COLUMNS)))
    (z_abs : PySem.W.nsIn K mainGlobals "abs" = some none)
    (z_any : PySem.W.nsIn K mainGlobals "any" = some none)
    (z_int : PySem.W.nsIn K mainGlobals "int" = some none)
    (z_len : PySem.W.nsIn K mainGlobals "len" = some none)
    (z_list : PySem.W.nsIn K mainGlobals "list" = some none)
    (z_max : PySem.W.nsIn K mainGlobals "max" = some none)
    (z_min : PySem.W.nsIn K mainGlobals "min" = some none)
    (z_range : PySem.W.nsIn K mainGlobals "range" = some none)
    (z_repr : PySem.W.nsIn K mainGlobals "repr" = some none)
    (z_sorted : PySem.W.nsIn K mainGlobals "sorted" = some none)
    (h13 : PySem.W.codeHdIn K cc13 (codeTab K cc13) = true) (u13 : K.lookup (codeTab K cc13) = none) (t13 : h.get? (codeTab K cc13) = some (PySem.W.tabObj #[]))
    (ndF : ([C_Graph] : List Addr).Nodup) :
    ∃ (fd : FuncData) (cs : List (Addr × Addr)) (Fa : List Addr), CFa Fa ∧ (∀ p ∈ cs, h.get? p.2 = some { cls := .none, data := .fields #[] }) ∧ (∀ p ∈ cs, K.lookup p.2 = none) ∧ (∀ p ∈ cs, PySem.W.CodeHd h p.1 p.2) ∧ (cs.map (·.2)).Nodup ∧ cs.length = lamNms.length ∧
      Fun K "law" "law" s_law fa fd ∧ (∀ (s : Shared) (v : Value), BindsTo s fd ⟨[v], []⟩ [("script", v)]) ∧ ∀ base : Heap, K.In base → base.Ns mainGlobals mg → (∀ p ∈ cs, LamX.TabB base mg p.1 p.2) → SysIn base → TopB l.prog w K mg base n_law "law" s_law fa 5 (b_law (Fa ++ cs.map (·.2))) := by
  have e := hfa.symm.trans (PySem.W.mg_of X G a33)
  cases e
  let T : Tx K w mg := {
    k_Graph := ⟨C_Graph, PySem.W.mg_of X G aC_Graph, ⟨⟨pg_Graph, hd_Graph, po_Graph, sa_Graph⟩, (List.forall_mem_cons.mpr ⟨na_Graph_0, (List.forall_mem_cons.mpr ⟨na_Graph_1, (List.forall_mem_cons.mpr ⟨na_Graph_2, (List.forall_mem_cons.mpr ⟨na_Graph_3, (List.forall_mem_cons.mpr ⟨na_Graph_4, (fun _ h => nomatch h)⟩)⟩)⟩)⟩)⟩)⟩⟩
    f_Graph___init__ := ⟨_, _, fun_mk (st := s_Graph___init__) l0 c0 k0, ⟨a0, i0, k0⟩, (fun_mk (st := s_Graph___init__) l0 c0 k0).binds (ps := ["self"]) fun _ _ _ _ _ _ us hl => match us, hl with | [_], _ => rfl⟩
    f__address_at := ⟨_, _, fun_mk (st := s_address_at) l1 c1 k1, PySem.W.mg_of X G a1, (fun_mk (st := s_address_at) l1 c1 k1).binds (ps := ["index"]) fun _ _ _ _ _ _ us hl => match us, hl with | [_], _ => rfl⟩
    f_cells_in := ⟨_, _, fun_mk (st := s_cells_in) l2 c2 k2, PySem.W.mg_of X G a2, (fun_mk (st := s_cells_in) l2 c2 k2).binds (ps := ["cells"]) fun _ _ _ _ _ _ us hl => match us, hl with | [_], _ => rfl⟩
    f_Graph_formulas := ⟨_, _, fun_mk (st := s_Graph_formulas) l3 c3 k3, ⟨a3, i3, k3⟩, (fun_mk (st := s_Graph_formulas) l3 c3 k3).binds (ps := ["self"]) fun _ _ _ _ _ _ us hl => match us, hl with | [_], _ => rfl⟩
    f_index_of := ⟨_, _, fun_mk (st := s_index_of) l4 c4 k4, PySem.W.mg_of X G a4, (fun_mk (st := s_index_of) l4 c4 k4).binds (ps := ["address"]) fun _ _ _ _ _ _ us hl => match us, hl with | [_], _ => rfl⟩
    f_bit_of := ⟨_, _, fun_mk (st := s_bit_of) l5 c5 k5, PySem.W.mg_of X G a5, (fun_mk (st := s_bit_of) l5 c5 k5).binds (ps := ["address"]) fun _ _ _ _ _ _ us hl => match us, hl with | [_], _ => rfl⟩
    f_Graph_remove := ⟨_, _, fun_mk (st := s_Graph_remove) l6 c6 k6, ⟨a6, i6, k6⟩, (fun_mk (st := s_Graph_remove) l6 c6 k6).binds (ps := ["self", "address"]) fun _ _ _ _ _ _ us hl => match us, hl with | [_, _], _ => rfl⟩
    f_mask_of := ⟨_, _, fun_mk (st := s_mask_of) l7 c7 k7, PySem.W.mg_of X G a7, (fun_mk (st := s_mask_of) l7 c7 k7).binds (ps := ["area"]) fun _ _ _ _ _ _ us hl => match us, hl with | [_], _ => rfl⟩
    f_mask_of_all := ⟨_, _, fun_mk (st := s_mask_of_all) l8 c8 k8, PySem.W.mg_of X G a8, (fun_mk (st := s_mask_of_all) l8 c8 k8).binds (ps := ["areas"]) fun _ _ _ _ _ _ us hl => match us, hl with | [_], _ => rfl⟩
    f_Graph_put := ⟨_, _, fun_mk (st := s_Graph_put) l9 c9 k9, ⟨a9, i9, k9⟩, (fun_mk (st := s_Graph_put) l9 c9 k9).binds (ps := ["self", "address", "ranges"]) fun _ _ _ _ _ _ us hl => match us, hl with | [_, _, _], _ => rfl⟩
    f_Graph_used_cells := ⟨_, _, fun_mk (st := s_Graph_used_cells) l10 c10 k10, ⟨a10, i10, k10⟩, (fun_mk (st := s_Graph_used_cells) l10 c10 k10).binds (ps := ["self", "address"]) fun _ _ _ _ _ _ us hl => match us, hl with | [_, _], _ => rfl⟩
    f_first_in := ⟨_, _, fun_mk (st := s_first_in) l11 c11 k11, PySem.W.mg_of X G a11, (fun_mk (st := s_first_in) l11 c11 k11).binds (ps := ["cells"]) fun _ _ _ _ _ _ us hl => match us, hl with | [_], _ => rfl⟩
    f_spread := ⟨_, _, fun_mk (st := s_spread) l12 c12 k12, PySem.W.mg_of X G a12, (fun_mk (st := s_spread) l12 c12 k12).binds (ps := ["first", "formulas", "uses_at"]) fun _ _ _ _ _ _ us hl => match us, hl with | [_, _, _], _ => rfl⟩
    f_Graph_reached := ⟨_, _, fun_mk (st := s_Graph_reached) l13 c13 k13, ⟨a13, i13, k13⟩, (fun_mk (st := s_Graph_reached) l13 c13 k13).binds (ps := ["self", "address"]) fun _ _ _ _ _ _ us hl => match us, hl with | [_, _], _ => rfl⟩
    f_Graph__users_of := ⟨_, _, fun_mk (st := s_Graph__users_of) l14 c14 k14, ⟨a14, i14, k14⟩, (fun_mk (st := s_Graph__users_of) l14 c14 k14).binds (ps := ["self", "area", "among"]) fun _ _ _ _ _ _ us hl => match us, hl with | [_, _, _], _ => rfl⟩
    f_Graph_with_reaching := ⟨_, _, fun_mk (st := s_Graph_with_reaching) l15 c15 k15, ⟨a15, i15, k15⟩, (fun_mk (st := s_Graph_with_reaching) l15 c15 k15).binds (ps := ["self", "found", "within"]) fun _ _ _ _ _ _ us hl => match us, hl with | [_, _, _], _ => rfl⟩
    f_Graph_reaching := ⟨_, _, fun_mk (st := s_Graph_reaching) l16 c16 k16, ⟨a16, i16, k16⟩, (fun_mk (st := s_Graph_reaching) l16 c16 k16).binds (ps := ["self", "areas"]) fun _ _ _ _ _ _ us hl => match us, hl with | [_, _], _ => rfl⟩
    f_Graph_used_formulas := ⟨_, _, fun_mk (st := s_Graph_used_formulas) l17 c17 k17, ⟨a17, i17, k17⟩, (fun_mk (st := s_Graph_used_formulas) l17 c17 k17).binds (ps := ["self", "address"]) fun _ _ _ _ _ _ us hl => match us, hl with | [_, _], _ => rfl⟩
    f_Graph_users_of := ⟨_, _, fun_mk (st := s_Graph_users_of) l18 c18 k18, ⟨a18, i18, k18⟩, (fun_mk (st := s_Graph_users_of) l18 c18 k18).binds (ps := ["self", "area"]) fun _ _ _ _ _ _ us hl => match us, hl with | [_, _], _ => rfl⟩
    f_inside := ⟨_, _, fun_mk (st := s_inside) l19 c19 k19, PySem.W.mg_of X G a19, (fun_mk (st := s_inside) l19 c19 k19).binds (ps := ["address", "area"]) fun _ _ _ _ _ _ us hl => match us, hl with | [_, _], _ => rfl⟩
    f_Graph_uses := ⟨_, _, fun_mk (st := s_Graph_uses) l20 c20 k20, ⟨a20, i20, k20⟩, (fun_mk (st := s_Graph_uses) l20 c20 k20).binds (ps := ["self", "address", "other"]) fun _ _ _ _ _ _ us hl => match us, hl with | [_, _, _], _ => rfl⟩
    f__law_take := ⟨_, _, fun_mk (st := s_l_take) l21 c21 k21, PySem.W.mg_of X G a21, (fun_mk (st := s_l_take) l21 c21 k21).binds (ps := ["state", "most"]) fun _ _ _ _ _ _ us hl => match us, hl with | [_, _], _ => rfl⟩
    f__law_address := ⟨_, _, fun_mk (st := s_l_address) l22 c22 k22, PySem.W.mg_of X G a22, (fun_mk (st := s_l_address) l22 c22 k22).binds (ps := ["state"]) fun _ _ _ _ _ _ us hl => match us, hl with | [_], _ => rfl⟩
    f__law_near := ⟨_, _, fun_mk (st := s_l_near) l23 c23 k23, PySem.W.mg_of X G a23, (fun_mk (st := s_l_near) l23 c23 k23).binds (ps := ["state"]) fun _ _ _ _ _ _ us hl => match us, hl with | [_], _ => rfl⟩
    f__law_area := ⟨_, _, fun_mk (st := s_l_area) l24 c24 k24, PySem.W.mg_of X G a24, (fun_mk (st := s_l_area) l24 c24 k24).binds (ps := ["state"]) fun _ _ _ _ _ _ us hl => match us, hl with | [_], _ => rfl⟩
    f__law_cells := ⟨_, _, fun_mk (st := s_l_cells) l25 c25 k25, PySem.W.mg_of X G a25, (fun_mk (st := s_l_cells) l25 c25 k25).binds (ps := ["area"]) fun _ _ _ _ _ _ us hl => match us, hl with | [_], _ => rfl⟩
    f__law_order := ⟨_, _, fun_mk (st := s_l_order) l26 c26 k26, PySem.W.mg_of X G a26, (fun_mk (st := s_l_order) l26 c26 k26).binds (ps := ["addresses"]) fun _ _ _ _ _ _ us hl => match us, hl with | [_], _ => rfl⟩
    f__law_has := ⟨_, _, fun_mk (st := s_l_has) l27 c27 k27, PySem.W.mg_of X G a27, (fun_mk (st := s_l_has) l27 c27 k27).binds (ps := ["area", "address"]) fun _ _ _ _ _ _ us hl => match us, hl with | [_, _], _ => rfl⟩
    f__law_uses_it := ⟨_, _, fun_mk (st := s_l_uses_it) l28 c28 k28, PySem.W.mg_of X G a28, (fun_mk (st := s_l_uses_it) l28 c28 k28).binds (ps := ["ranges", "address", "other"]) fun _ _ _ _ _ _ us hl => match us, hl with | [_, _, _], _ => rfl⟩
    f__law_reached := ⟨_, _, fun_mk (st := s_l_reached) l29 c29 k29, PySem.W.mg_of X G a29, (fun_mk (st := s_l_reached) l29 c29 k29).binds (ps := ["ranges", "address"]) fun _ _ _ _ _ _ us hl => match us, hl with | [_, _], _ => rfl⟩
    f__law_users := ⟨_, _, fun_mk (st := s_l_users) l30 c30 k30, PySem.W.mg_of X G a30, (fun_mk (st := s_l_users) l30 c30 k30).binds (ps := ["ranges", "cells"]) fun _ _ _ _ _ _ us hl => match us, hl with | [_, _], _ => rfl⟩
    f__law_reaching := ⟨_, _, fun_mk (st := s_l_reaching) l31 c31 k31, PySem.W.mg_of X G a31, (fun_mk (st := s_l_reaching) l31 c31 k31).binds (ps := ["ranges", "cells"]) fun _ _ _ _ _ _ us hl => match us, hl with | [_, _], _ => rfl⟩
    f__law_state := ⟨_, _, fun_mk (st := s_l_state) l32 c32 k32, PySem.W.mg_of X G a32, (fun_mk (st := s_l_state) l32 c32 k32).binds (ps := ["script"]) fun _ _ _ _ _ _ us hl => match us, hl with | [_], _ => rfl⟩
    f_law := ⟨_, _, fun_mk (st := s_law) l33 c33 k33, PySem.W.mg_of X G a33, (fun_mk (st := s_law) l33 c33 k33).binds (ps := ["script"]) fun _ _ _ _ _ _ us hl => match us, hl with | [_], _ => rfl⟩
    mk_Graph := ⟨mk_Graph, a0, i0, kc_Graph⟩
    c_SHEET := gc_mk (v := (.ref a_SHEET)) (PySem.W.mg_of X G g_SHEET) rfl fun _ => (rep_ktup (xs := [(.ref a_SHEET_0), (.ref a_SHEET_1)]) l_SHEET (by exact (by decide : 2 ≤ sizeLine)) (.cons rfl (.cons rfl .nil)) (.cons (rep_ktup (xs := [(.int 0), (.int 0)]) l_SHEET_0 (by exact (by decide : 2 ≤ sizeLine)) (.cons ⟨_, rfl⟩ (.cons ⟨_, rfl⟩ .nil)) (.cons (.int _) (.cons (.int _) .nil))) (.cons (rep_ktup (xs := [(.int 25), (.int 98)]) l_SHEET_1 (by exact (by decide : 2 ≤ sizeLine)) (.cons ⟨_, rfl⟩ (.cons ⟨_, rfl⟩ .nil)) (.cons (.int _) (.cons (.int _) .nil))) .nil)))
    c_COLUMNS := gc_mk (v := (.int 26)) (PySem.W.mg_of X G g_COLUMNS) ⟨_, rfl⟩ fun _ => (.int _)
    n_abs := PySem.W.mg_none_of X G z_abs
    n_any := PySem.W.mg_none_of X G z_any
    n_int := PySem.W.mg_none_of X G z_int
    n_len := PySem.W.mg_none_of X G z_len
    n_list := PySem.W.mg_none_of X G z_list
    n_max := PySem.W.mg_none_of X G z_max
    n_min := PySem.W.mg_none_of X G z_min
    n_range := PySem.W.mg_none_of X G z_range
    n_repr := PySem.W.mg_none_of X G z_repr
    n_sorted := PySem.W.mg_none_of X G z_sorted
    cs := [(cc13, codeTab K cc13)]
    lam_Graph_reached := ⟨cc13, rfl, _, rfl⟩ }
  exact ⟨PySem.W.fnOf "law" "law" (defArgs s_law) (defBody s_law) (defScope s_law) .none kV33 dc33 pm33 an33 cd33 ct33, [(cc13, codeTab K cc13)], T.Fa, ⟨rfl, ndF⟩, (List.forall_mem_cons.mpr ⟨t13, (fun _ h => nomatch h)⟩), (List.forall_mem_cons.mpr ⟨u13, (fun _ h => nomatch h)⟩), (List.forall_mem_cons.mpr ⟨PySem.W.codeHd_of_K X h13, (fun _ h => nomatch h)⟩), (by simp), rfl, T.f_law.F, fun s v => .of_eq rfl, fun base _ _ hB hS => top_law T hB hS⟩
end Law
namespace Law.R
open Law
open PySem L2 DL
abbrev Ad := Int × Int
abbrev Ar := Ad × Ad
structure Rl where
  a : Ar
  r : List Int
  w : List Int
  o : List Int
deriving DecidableEq
instance enRl : En Rl := ⟨fun p => .tup [En.en p.a, En.en p.r, En.en p.w, En.en p.o], fun x y => by
    obtain ⟨a1, a2, a3, a4⟩ := x; obtain ⟨b1, b2, b3, b4⟩ := y
    by_cases h1 : a1 = b1 <;> by_cases h2 : a2 = b2 <;> by_cases h3 : a3 = b3 <;> by_cases h4 : a4 = b4 <;> simp [En.dq, h1, h2, h3, h4], fun a => by simp [En.ok], 4, fun a => by
    have h1 := En.dpl a.a; have h2 := En.dpl a.r; have h3 := En.dpl a.w; have h4 := En.dpl a.o
    have e1 : En.dp Ar = 2 := rfl
    have e2 : En.dp (List Int) = 1 := rfl
    simp; omega⟩
theorem en_ls {α : Type} [DecidableEq α] [En α] (l : List α) : (En.en l : D) = .lst (l.map En.en) := rfl
theorem en_ad (x : Ad) : (En.en x : D) = .tup [.int x.1, .int x.2] := rfl
theorem en_ar (x : Ar) : (En.en x : D) = .tup [.tup [.int x.1.1, .int x.1.2], .tup [.int x.2.1, .int x.2.2]] := rfl
def has (a : Ar) (x : Ad) : Bool := decide (a.1.1 ≤ x.1 ∧ x.1 ≤ a.2.1 ∧ a.1.2 ≤ x.2 ∧ x.2 ≤ a.2.2)
theorem has_spec (a : Ar) (x : Ad) : m_l_has [En.en a, En.en x] = some (.ok (.bl (has a x))) := by
  obtain ⟨⟨p, q⟩, r, s⟩ := a; obtain ⟨u, v⟩ := x
  apply wpA.eq
  unfold has
  by_cases h1 : p ≤ u <;> by_cases h2 : u ≤ r <;> by_cases h3 : q ≤ v <;> by_cases h4 : v ≤ s <;>
  simp [m_l_has, b_l_has, en_ar, en_ad, h1, h2, h3, h4]
/-! cells -/
def rowL : Int → Nat → Int → List Ad
  | _, 0, _ => []
  | c, n + 1, r => (c, r) :: rowL (c + 1) n r
def rowsL (c : Int) (nc : Nat) : Int → Nat → List Ad
  | _, 0 => []
  | r, n + 1 => rowL c nc r ++ rowsL c nc (r + 1) n
def cells (a : Ar) : List Ad := rowsL a.1.1 (a.2.1 + 1 - a.1.1).toNat a.1.2 (a.2.2 + 1 - a.1.2).toNat
/-- no corner beyond the sheet -/
def okA (a : Ar) : Prop := 0 ≤ a.1.1 ∧ 0 ≤ a.1.2 ∧ a.2.1 < 26 ∧ a.2.2 < 99 ∧ a.1.1 ≤ 26 ∧ a.1.2 ≤ 99 ∧ -1 ≤ a.2.1 ∧ -1 ≤ a.2.2
theorem rng_ok {i : Int} (h : -1000000 ≤ i) (h2 : i ≤ 1000000) : rngOk i = true := by unfold rngOk; simp; omega
/-! two areas -/
def enO {α : Type} [DecidableEq α] [En α] : Option α → D
  | some a => En.en a
  | none => .non
end Law.R
namespace Law.R
open Law
open PySem L2 DL
/-! whom a rule lets -/
def us (r : Rl) : Nat → List Int
  | 0 => r.r
  | 1 => r.w
  | _ => r.o
def ord (a : Ar) : Prop := a.1.1 ≤ a.2.1 ∧ a.1.2 ≤ a.2.2
theorem has_iff (a : Ar) (x : Ad) : has a x = true ↔ a.1.1 ≤ x.1 ∧ x.1 ≤ a.2.1 ∧ a.1.2 ≤ x.2 ∧ x.2 ≤ a.2.2 := by unfold has; exact decide_eq_true_iff
end Law.R
namespace Law.R
open Law
open PySem L2 DL
/-! bits -/
theorem bit_sub (N m : Nat) : ∀ k, (N - (N &&& m)).testBit k = (N.testBit k && !m.testBit k)
  | 0 => by
    rw [Nat.testBit_zero, Nat.testBit_zero, Nat.testBit_zero]
    have h1 : (N &&& m) % 2 = 1 ↔ N % 2 = 1 ∧ m % 2 = 1 := Nat.and_mod_two_eq_one
    have h2 : N &&& m ≤ N := Nat.and_le_left
    rw [Bool.eq_iff_iff, Bool.and_eq_true, decide_eq_true_eq, decide_eq_true_eq, Bool.not_eq_true', decide_eq_false_iff_not]
    omega
  | k + 1 => by
    rw [Nat.testBit_succ, Nat.testBit_succ, Nat.testBit_succ, ← bit_sub (N / 2) (m / 2) k]
    have h1 : (N &&& m) % 2 = 1 ↔ N % 2 = 1 ∧ m % 2 = 1 := Nat.and_mod_two_eq_one
    have h2 : N &&& m ≤ N := Nat.and_le_left
    have h3 : (N &&& m) / 2 = N / 2 &&& m / 2 := Nat.and_div_two
    rw [← h3]
    congr 1
    omega
theorem bor_nat (N m : Nat) : Builtin.bitOr (N : Int) (m : Int) = ((N ||| m : Nat) : Int) := by
  unfold Builtin.bitOr Builtin.bitAnd Builtin.bitNot
  have h1 : decide (0 ≤ -(N : Int) - 1) = false := by simp; omega
  have h2 : decide (0 ≤ -(m : Int) - 1) = false := by simp; omega
  rw [h1, h2]
  dsimp only
  have e1 : (-(-(N : Int) - 1) - 1).toNat = N := by omega
  have e2 : (-(-(m : Int) - 1) - 1).toNat = m := by omega
  rw [e1, e2]
  omega
theorem bandn_nat (N m : Nat) : Builtin.bitAnd (N : Int) (Builtin.bitNot (m : Int)) = ((N - (N &&& m) : Nat) : Int) := by
  unfold Builtin.bitAnd Builtin.bitNot
  have h1 : decide (0 ≤ (N : Int)) = true := by simp
  have h2 : decide (0 ≤ -(m : Int) - 1) = false := by simp; omega
  rw [h1, h2]
  dsimp only
  have e2 : (-(-(m : Int) - 1) - 1).toNat = m := by omega
  rw [e2, Int.toNat_natCast]
  have h2 : N &&& m ≤ N := Nat.and_le_left
  omega
theorem band_nat (N m : Nat) : Builtin.bitAnd (N : Int) (m : Int) = ((N &&& m : Nat) : Int) := by
  unfold Builtin.bitAnd
  have h1 : decide (0 ≤ (N : Int)) = true := by simp
  have h2 : decide (0 ≤ (m : Int)) = true := by simp
  rw [h1, h2]
  rfl
def rowsN (w : Nat) : Nat → Nat
  | 0 => 0
  | h + 1 => 2 ^ 26 * rowsN w h + (2 ^ w - 1)
theorem pw_lt {w : Nat} (h : w ≤ 26) : 2 ^ w - 1 < 2 ^ 26 := by
  have h1 : 2 ^ w ≤ 2 ^ 26 := Nat.pow_le_pow_right (by decide) h
  have h2 : 0 < 2 ^ w := Nat.pow_pos (by decide)
  omega
theorem rowsN_bit {w : Nat} (hw : w ≤ 26) : ∀ (h k : Nat), (rowsN w h).testBit k = decide (k / 26 < h ∧ k % 26 < w)
  | 0, k => by
    show Nat.testBit 0 k = _
    rw [Nat.zero_testBit]
    symm; rw [decide_eq_false_iff_not]; omega
  | h + 1, k => by
    show (2 ^ 26 * rowsN w h + (2 ^ w - 1)).testBit k = _
    rw [Nat.testBit_two_pow_mul_add _ (pw_lt hw), Nat.testBit_two_pow_sub_one, rowsN_bit hw h]
    split
    · rw [Bool.eq_iff_iff, decide_eq_true_eq, decide_eq_true_eq]; omega
    · rw [Bool.eq_iff_iff, decide_eq_true_eq, decide_eq_true_eq]; omega
def onesN : Nat → Nat
  | 0 => 0
  | h + 1 => 2 ^ 26 * onesN h + 1
theorem onesN_mul (w : Nat) : ∀ h, onesN h * (2 ^ w - 1) = rowsN w h
  | 0 => Nat.zero_mul _
  | h + 1 => by
    show (2 ^ 26 * onesN h + 1) * (2 ^ w - 1) = 2 ^ 26 * rowsN w h + (2 ^ w - 1)
    rw [← onesN_mul w h, Nat.add_mul, Nat.one_mul, Nat.mul_assoc]
theorem ones_ar (o a b : Nat) (h : a = b + 1) : (a * o + 1) * b + 1 = (o * b + 1) * a := by
  rw [Nat.add_mul, Nat.add_mul, Nat.one_mul, Nat.one_mul, Nat.mul_comm a o, Nat.mul_assoc, Nat.mul_assoc, Nat.mul_comm a b, h, Nat.add_assoc]
theorem onesN_eq : ∀ h, onesN h * 67108863 + 1 = 2 ^ (26 * h)
  | 0 => rfl
  | h + 1 => by
    have ih := onesN_eq h
    rw [show 26 * (h + 1) = 26 * h + 26 from Nat.mul_succ 26 h, Nat.pow_add, ← ih]
    have e0 : onesN (h + 1) = 2 ^ 26 * onesN h + 1 := rfl
    have e : (2 : Nat) ^ 26 = 67108864 := rfl
    rw [e0, e]
    exact ones_ar (onesN h) 67108864 67108863 rfl
def wA (a : Ar) : Nat := (a.2.1 + 1 - a.1.1).toNat
def hA (a : Ar) : Nat := (a.2.2 + 1 - a.1.2).toNat
def fA (a : Ar) : Nat := (26 * a.1.2 + a.1.1).toNat
def maskN (a : Ar) : Nat := rowsN (wA a) (hA a) * 2 ^ fA a
def cellK (k : Nat) : Ad := (((k % 26 : Nat) : Int), ((k / 26 : Nat) : Int))
theorem mask_bit {a : Ar} (ha : okA a) (ho : ord a) (k : Nat) : (maskN a).testBit k = has a (cellK k) := by
  unfold okA at ha
  unfold ord at ho
  unfold maskN
  rw [Nat.testBit_mul_two_pow, rowsN_bit (by unfold wA; omega)]
  rw [Bool.eq_iff_iff, Bool.and_eq_true, decide_eq_true_eq, decide_eq_true_eq, has_iff]
  unfold cellK wA hA fA
  dsimp only
  omega
/-! the program's mask -/
theorem shl_eq {i j : Int} (h0 : 0 ≤ j) (h1 : j ≤ 100000) (h2 : i.natAbs < 2 ^ 100000) : dShl (.int i) (.int j) = some (.int (i * 2 ^ j.toNat)) := by
  unfold dShl dI
  exact if_pos ⟨h0, h1, intBits_le_iff.mpr h2⟩
theorem shl_one {j : Int} (h0 : 0 ≤ j) (h1 : j ≤ 100000) : dShl (.int 1) (.int j) = some (.int ((2 ^ j.toNat : Nat) : Int)) := by
  rw [shl_eq h0 h1 (Nat.one_lt_two_pow (by decide)), Int.one_mul]
  congr 2
theorem mask_fin (ix : MA) (l t r b P Q ST MS of : Int) (e1 : dShl (.int 1) (.int (r - l + 1)) = some (.int P)) (e2 : dShl (.int 1) (.int (26 * (b - t + 1))) = some (.int Q)) (e3 : dShl (.int 1) (.int 26) = some (.int 67108864)) (e4 : dDiv (.int (Q - 1)) (.int 67108863) = some (.int ST)) (e5 : dMul (.int ST) (.int (P - 1)) = some (.int MS)) (e6 : ix [.tup [.int l, .int t]] = some (.ok (.int of))) (RES : Int) (e7 : dShl (.int MS) (.int of) = some (.int RES)) (e8 : dMul (.int 26) (.int (b - t + 1)) = some (.int (26 * (b - t + 1)))) :
    runA 7 (sSeq (sAsg (mVar 0) (gT 2 (gsCons (gT 2 (gsCons (gN 1) (gsCons (gN 2) gsNil))) (gsCons (gT 2 (gsCons (gN 3) (gsCons (gN 4) gsNil))) gsNil))))
  (sSeq (sAsg (mBin dSub (mBin dShl (mC (.int 1)) (mBin dAdd (mBin dSub (mVar 3) (mVar 1)) (mC (.int 1)))) (mC (.int 1))) (gN 5))
  (sSeq (sAsg (mBin dDiv (mBin dSub (mBin dShl (mC (.int 1)) (mBin dMul (mC (.int 26)) (mBin dAdd (mBin dSub (mVar 4) (mVar 2)) (mC (.int 1))))) (mC (.int 1))) (mBin dSub (mBin dShl (mC (.int 1)) (mC (.int 26))) (mC (.int 1)))) (gN 6))
  (sRet (mBin dShl (mBin dMul (mVar 6) (mVar 5)) (mCallA 1 ix (aCons (disp .tup (aCons (mVar 1) (aCons (mVar 2) aNil))) aNil))))))) [.tup [.tup [.int l, .int t], .tup [.int r, .int b]]] = some (.ok (.int RES)) := by
  have e9 : dSub (.int 67108864) (.int 1) = some (.int 67108863) := rfl
  have g1 : dSub (.int r) (.int l) = some (.int (r - l)) := rfl
  have g2 : dAdd (.int (r - l)) (.int 1) = some (.int (r - l + 1)) := rfl
  have g3 : dSub (.int P) (.int 1) = some (.int (P - 1)) := rfl
  have g4 : dSub (.int b) (.int t) = some (.int (b - t)) := rfl
  have g5 : dAdd (.int (b - t)) (.int 1) = some (.int (b - t + 1)) := rfl
  have g6 : dSub (.int Q) (.int 1) = some (.int (Q - 1)) := rfl
  generalize r - l + 1 = x1 at *
  generalize r - l = x0 at *
  generalize 26 * (b - t + 1) = x2 at *
  generalize b - t + 1 = x3 at *
  generalize b - t = x4 at *
  generalize P - 1 = x5 at *
  generalize Q - 1 = x6 at *
  generalize dShl = sh at *
  generalize dDiv = dv at *
  generalize dMul = ml at *
  generalize dSub = sb at *
  generalize dAdd = ad at *
  generalize (67108863 : Int) = n1 at *
  generalize (67108864 : Int) = n2 at *
  simp [e_bnd, e_seq, e_lift, e_runA, e1, e2, e3, e4, e5, e6, e7, e8, e9, g1, g2, g3, g4, g5, g6]
theorem index_spec (l t : Int) (h1 : 0 ≤ t) (h2 : t ≤ 1000) : m_index_of [.tup [.int l, .int t]] = some (.ok (.int (26 * t + l))) := by
  apply wpA.eq
  have : mulOk t 26 = true := mulOkR _ _ (by decide) (by decide)
  simp [m_index_of, b_index_of, k_COLUMNS, this, Int.mul_comm]
theorem mul_eq {i j : Int} (h : mulOk i j = true) : dMul (.int i) (.int j) = some (.int (i * j)) := if_pos h
theorem div_eq {i j : Int} (h : 0 < j ∧ j < 18446744073709551616) : dDiv (.int i) (.int j) = some (.int (i / j)) := if_pos h
theorem mask_spec {a : Ar} (ha : okA a) (ho : ord a) : m_mask_of [En.en a] = some (.ok (.int ((maskN a : Nat) : Int))) := by
  obtain ⟨⟨l, t⟩, r, b⟩ := a
  have ha' : 0 ≤ l ∧ 0 ≤ t ∧ r < 26 ∧ b < 99 ∧ l ≤ 26 ∧ t ≤ 99 ∧ -1 ≤ r ∧ -1 ≤ b := ha
  have ho' : l ≤ r ∧ t ≤ b := ho
  have ew : wA ((l, t), r, b) = (r - l + 1).toNat := by unfold wA; dsimp only; omega
  have eh : 26 * hA ((l, t), r, b) = (26 * (b - t + 1)).toNat := by unfold hA; dsimp only; omega
  have ef : fA ((l, t), r, b) = (26 * t + l).toNat := rfl
  have hw : wA ((l, t), r, b) ≤ 26 := by omega
  have pw := pw_lt hw
  have pp : 0 < 2 ^ wA ((l, t), r, b) := Nat.pow_pos (by decide)
  have p26 : (2 : Nat) ^ 26 = 67108864 := by decide
  have o1 := onesN_eq (hA ((l, t), r, b))
  have o2 := onesN_mul (wA ((l, t), r, b)) (hA ((l, t), r, b))
  have e1 := shl_one (j := r - l + 1) (by omega) (by omega)
  have e2 := shl_one (j := 26 * (b - t + 1)) (by omega) (by omega)
  rw [← ew] at e1
  rw [← eh] at e2
  have e3 : dShl (.int 1) (.int 26) = some (.int 67108864) := by
    rw [shl_one (by decide) (by decide)]
    rfl
  have hlt : rowsN (wA ((l, t), r, b)) (hA ((l, t), r, b)) < 2 ^ 100000 := by
    refine Nat.lt_pow_two_of_testBit _ fun i hi => ?_
    rw [rowsN_bit hw, decide_eq_false_iff_not]
    have : hA ((l, t), r, b) ≤ 99 := by unfold hA; dsimp only; omega
    omega
  have e7 := shl_eq (i := ((rowsN (wA ((l, t), r, b)) (hA ((l, t), r, b)) : Nat) : Int)) (j := 26 * t + l) (by omega) (by omega) (by rw [Int.natAbs_natCast]; exact hlt)
  have e4 : dDiv (.int (((2 ^ (26 * hA ((l, t), r, b)) : Nat) : Int) - 1)) (.int 67108863) = some (.int ((onesN (hA ((l, t), r, b)) : Nat) : Int)) := by
    rw [← o1]
    generalize onesN (hA ((l, t), r, b)) = o
    have z : (((o * 67108863 + 1 : Nat) : Int) - 1) = (o : Int) * 67108863 := by omega
    rw [z]
    have h1 : (o : Int) * 67108863 / 67108863 = o := Int.mul_ediv_cancel (o : Int) (b := 67108863) (by decide)
    rw [div_eq ⟨by decide, by decide⟩, h1]
  have e5 : dMul (.int ((onesN (hA ((l, t), r, b)) : Nat) : Int)) (.int (((2 ^ wA ((l, t), r, b) : Nat) : Int) - 1)) = some (.int ((rowsN (wA ((l, t), r, b)) (hA ((l, t), r, b)) : Nat) : Int)) := by
    rw [← o2]
    generalize onesN (hA ((l, t), r, b)) = o
    generalize 2 ^ wA ((l, t), r, b) = p at *
    have z : ((p : Int) - 1) = ((p - 1 : Nat) : Int) := by omega
    rw [z]
    have : mulOk (o : Int) ((p - 1 : Nat) : Int) = true := mulOkR _ _ (by omega) (by omega)
    generalize p - 1 = q at *
    rw [mul_eq this, Int.natCast_mul]
  have e8 : dMul (.int 26) (.int (b - t + 1)) = some (.int (26 * (b - t + 1))) := by
    have : mulOk 26 (b - t + 1) = true := mulOkR _ _ (by omega) (by omega)
    exact mul_eq this
  have := mask_fin m_index_of l t r b _ _ _ _ _ e1 e2 e3 e4 e5 (index_spec l t ha'.2.1 (by omega)) _ e7 e8
  refine (show m_mask_of [En.en (((l, t), r, b) : Ar)] = _ from this).trans ?_
  unfold maskN
  rw [ef, Int.natCast_mul, Int.natCast_pow]
  rfl
end Law.R
namespace Law.R
open Law
open PySem L2 DL
theorem take_eq : m_l_take = takeM := rfl
/-- what draws keep, with own objects behind -/
class DA (n : outParam Nat) (sv : outParam DV) (I : List O → Prop) : Prop where
  len : ∀ {B : List O}, I B → B.length = n
  cl : ∀ {B : List O}, I B → B.all (closed n) = true
  tk : ∀ {B Rr : List O} {most : Int} {P : DV → List O → Prop}, I B → most < 18446744073709551616 → (∀ r B', I B' → (most < 1 → r = 0) → (1 ≤ most → 0 ≤ r ∧ r < most) → P (.p (.int r)) (B' ++ Rr)) → wpB (takeM [sv, .p (.int most)] (B ++ Rr)) P
theorem wp_t {n : Nat} {sv : DV} {I : List O → Prop} [DA n sv I] {B Rr : List O} {most : Int} {P : DV → List O → Prop} (h : I B) (hm : most < 18446744073709551616) (k : ∀ r B', I B' → (most < 1 → r = 0) → (1 ≤ most → 0 ≤ r ∧ r < most) → P (.p (.int r)) (B' ++ Rr)) : wpB (m_l_take [sv, .p (.int most)] (B ++ Rr)) P := by
  rw [take_eq]
  exact DA.tk h hm k
theorem DA.of (n : Nat) (sv : DV) (o : O) (ho : closed (n + 1) o = true) : DA (n + 1) sv (Dbx [] n sv [o]) where
  len h := h.len
  cl h := by
    obtain ⟨B, rfl, h⟩ := h
    rw [List.all_append]
    rw [show (B.all (closed (n + 1))) = true from List.all_eq_true.mpr fun o ho => closed_mono (Nat.le_succ _) o (List.all_eq_true.mp h.cl o ho)]
    simp [ho]
  tk h hm k := by
    rename_i B Rr most P
    obtain ⟨B, rfl, h⟩ := h
    rw [List.append_assoc]
    exact wp_takeB (Ts := []) (R := [o] ++ Rr) ⟨B, rfl, h⟩ hm fun r M' d b0 b => by
      obtain ⟨B', rfl, d⟩ := d
      rw [← List.append_assoc]
      exact k r (B' ++ [o]) ⟨B', rfl, d⟩ b0 b
end Law.R
namespace Law.R
open Law
open PySem L2 DL
theorem dropM_same {n : Nat} {d : DV} {B B' Rr : List O} (h : B.length = B'.length) : dropM (B.length + Rr.length) d (B' ++ Rr) = B' ++ Rr := dropM_len (by rw [List.length_append, h])
variable {sv : DV} {I : List O → Prop}
theorem wp_near {n : Nat} [DA n sv I] {B Rr : List O} {P : DV → List O → Prop} (h : I B) (k : ∀ (x : Ad) B', I B' → 0 ≤ x.1 → x.1 < 3 → 0 ≤ x.2 → x.2 < 4 → P (.p (En.en x)) (B' ++ Rr)) : wpB (m_l_near [sv] (B ++ Rr)) P := by
  simp [m_l_near, b_l_near]
  refine wp_t h (by decide) fun r B1 d1 _ b1 => ?_
  refine wp_t d1 (by decide) fun r2 B2 d2 _ b2 => ?_
  have b1 := b1 (by decide)
  have b2 := b2 (by decide)
  simp
  rw [dropM_same (n := n) ((DA.len (I := I) h).trans (DA.len (I := I) d2).symm)]
  exact k (r, r2) B2 d2 b1.1 b1.2 b2.1 b2.2
theorem atI_t (l : List Int) (j : Int) (h0 : 0 ≤ j) (h : j < l.length) : ∃ z ∈ l, atI (l.map D.int) j = some (.int z) := by
  have hj : j.toNat < l.length := by omega
  exact ⟨l[j.toNat], List.getElem_mem hj, atI_nat' h0 (by rw [List.getElem?_map, List.getElem?_eq_getElem hj]; rfl)⟩
theorem wp_area {n : Nat} [DA n sv I] {B Rr : List O} {P : DV → List O → Prop} (h : I B) (k : ∀ (a : Ar) B', I B' → okA a → ord a → P (.p (En.en a)) (B' ++ Rr)) : wpB (m_l_area [sv] (B ++ Rr)) P := by
  simp [m_l_area, b_l_area]
  refine wp_near h fun x B1 d1 x1 x2 x3 x4 => ?_
  refine wp_near d1 fun y B2 d2 y1 y2 y3 y4 => ?_
  obtain ⟨p, q⟩ := x
  obtain ⟨r, s⟩ := y
  dsimp only at *
  simp [en_ad, dMin2, dMax2]
  rw [dropM_same (n := n) ((DA.len (I := I) h).trans (DA.len (I := I) d2).symm)]
  exact k ((if r < p then r else p, if s < q then s else q), (if p < r then r else p, if q < s then s else q)) B2 d2 (by unfold okA; dsimp only; refine ⟨?_, ?_, ?_, ?_, ?_, ?_, ?_, ?_⟩ <;> split <;> omega) (by unfold ord; dsimp only; constructor <;> split <;> split <;> omega)
end Law.R
namespace Law.R
open Law
open PySem L2 DL
/-! ## dicts by addresses -/
def spK (p : Ad) : List Key := [.inl p.1, .inl p.2]
theorem spK_inj {p q : Ad} (h : spK p = spK q) : p = q := by
  unfold spK at h
  simp only [List.cons.injEq, Sum.inl.injEq, and_true] at h
  exact Prod.ext h.1 h.2
theorem spK_iff {p q : Ad} : spK p = spK q ↔ p = q := ⟨spK_inj, fun h => by rw [h]⟩
theorem keyT_sp (p : Ad) : keyT (En.en p) = some (spK p) := rfl
section
variable {α : Type} (enc : α → D)
def kvD (l : List (Ad × α)) : List (List Key × D) := l.map fun q => (spK q.1, enc q.2)
def kvO (l : List (Ad × α)) : O := .dT ((kvD enc l).map fun q => (q.1, DV.p q.2))
def keysA (l : List (Ad × α)) : List Ad := l.map (·.1)
def putA (l : List (Ad × α)) (p : Ad) (v : α) : List (Ad × α) := if p ∈ keysA l then l.map (fun q => if q.1 = p then (p, v) else q) else l ++ [(p, v)]
def look (l : List (Ad × α)) (p : Ad) : Option α := (l.find? fun q => decide (q.1 = p)).map (·.2)
theorem put_kv (l : List (Ad × α)) (p : Ad) (v : α) : putO ((kvD enc l).map fun q => (q.1, DV.p q.2)) (spK p) (.p (enc v)) = (kvD enc (putA l p v)).map fun q => (q.1, DV.p q.2) := by
  unfold putO putA kvD
  have e : (((l.map fun q => ((spK q.1, enc q.2) : List Key × D)).map fun q => (q.1, DV.p q.2)).any fun q => decide (q.1 = spK p)) = decide (p ∈ keysA l) := by
    rw [List.any_map, List.any_map, Bool.eq_iff_iff, List.any_eq_true, decide_eq_true_eq]
    unfold keysA
    rw [List.mem_map]
    constructor
    · rintro ⟨q, hq, e⟩
      have e : decide (spK q.1 = spK p) = true := e
      rw [decide_eq_true_eq, spK_iff] at e
      exact ⟨q, hq, e⟩
    · rintro ⟨q, hq, e⟩
      exact ⟨q, hq, by show decide (spK q.1 = spK p) = true; rw [e]; simp⟩
  rw [e]
  by_cases h : p ∈ keysA l
  · rw [decide_eq_true h, if_pos rfl, if_pos h]
    simp only [List.map_map]
    refine List.map_congr_left fun q _ => ?_
    show (if spK q.1 = spK p then (spK q.1, DV.p (enc v)) else (spK q.1, DV.p (enc q.2))) = (spK (if q.1 = p then (p, v) else q).1, DV.p (enc (if q.1 = p then (p, v) else q).2))
    by_cases hq : q.1 = p
    · rw [if_pos (by rw [hq]), if_pos hq, hq]
    · rw [if_neg (fun h => hq (spK_inj h)), if_neg hq]
  · rw [decide_eq_false h, if_neg Bool.false_ne_true, if_neg h, List.map_append, List.map_append]
    rfl
theorem find_kv (l : List (Ad × α)) (p : Ad) : valO ((kvD enc l).map fun q => (q.1, DV.p q.2)) (spK p) = (look l p).map fun x => DV.p (enc x) := by
  unfold valO look kvD
  rw [List.map_map, List.find?_map]
  have e : ((fun kv : List Key × DV => decide (kv.1 = spK p)) ∘ ((fun q : List Key × D => (q.1, DV.p q.2)) ∘ fun q : Ad × α => (spK q.1, enc q.2))) = fun q => decide (q.1 = p) := by
    funext q
    have h : spK q.1 = spK p ↔ q.1 = p := spK_iff
    show decide (spK q.1 = spK p) = decide (q.1 = p)
    simp only [h]
  rw [e]
  simp only [Option.map_map, Function.comp_def]
theorem getM_kv (M : List O) (l : List (Ad × α)) (p : Ad) : getM M (.p (.dT (kvD enc l))) (En.en p) = some ((look l p).map fun x => DV.p (enc x)) := by
  rw [← find_kv]; rfl
theorem dg2_run (m n k : EM) (s : List (Option DV)) (M : List O) (l : List (Ad × α)) (p : Ad) (y : D) (h1 : m ⟨s, M⟩ = some (.ok (.p (.dT (kvD enc l))) M)) (h2 : n ⟨s, M⟩ = some (.ok (.p (En.en p)) M)) (h3 : k ⟨s, M⟩ = some (.ok (.p y) M)) :
    mDg2 m n k ⟨s, M⟩ = some (.ok (match look l p with | some x => .p (enc x) | none => .p y) M) := by
  unfold mDg2
  rw [e_bnd, h1]
  have hd : isDc M (.p (.dT (kvD enc l))) = true := rfl
  dsimp only
  rw [hd, if_pos rfl, e_bnd, h2]
  dsimp only [pur]
  rw [e_bnd, h3]
  dsimp only
  unfold dg2K
  rw [getM_kv]
  cases look l p <;> rfl
theorem keys_it (l : List (Ad × α)) : itKD (.dT (kvD enc l)) = some ((keysA l).map fun p => .p (En.en p)) := by
  unfold itKD kvD keysA
  simp only [List.map_map]
  rfl
theorem putA_keys (l : List (Ad × α)) (p : Ad) (v : α) (h : (keysA l).Nodup) : (keysA (putA l p v)).Nodup := by
  unfold putA
  split
  · have e : keysA (l.map fun q => if q.1 = p then (p, v) else q) = keysA l := by
      unfold keysA
      rw [List.map_map]
      refine List.map_congr_left fun q _ => ?_
      show (if q.1 = p then (p, v) else q).1 = q.1
      split
      · rename_i h; exact h.symm
      · rfl
    rw [e]; exact h
  · rename_i hp
    unfold keysA at *
    rw [List.map_append]
    refine List.nodup_append.mpr ⟨h, by simp, fun a ha b hb => ?_⟩
    have hb : b = p := by simpa using hb
    rw [hb]; intro e; exact hp (e ▸ ha)
theorem putA_len (l : List (Ad × α)) (p : Ad) (v : α) : (putA l p v).length ≤ l.length + 1 := by
  unfold putA
  split <;> simp
theorem look_some {l : List (Ad × α)} {p : Ad} {x : α} (h : look l p = some x) : (p, x) ∈ l := by
  unfold look at h
  obtain ⟨q, hq, rfl⟩ := Option.map_eq_some_iff.mp h
  have h1 := List.find?_some hq
  rw [decide_eq_true_eq] at h1
  rw [← h1]
  exact List.mem_of_find?_eq_some hq
theorem look_none {l : List (Ad × α)} {p : Ad} (h : look l p = none) : p ∉ keysA l := by
  unfold look at h
  rw [Option.map_eq_none_iff, List.find?_eq_none] at h
  intro hp
  obtain ⟨q, hq, rfl⟩ := List.mem_map.mp hp
  exact h q hq (by simp)
theorem look_mem {l : List (Ad × α)} {p : Ad} (h : p ∈ keysA l) : ∃ x, look l p = some x := by
  cases e : look l p with
  | none => exact absurd h (look_none e)
  | some x => exact ⟨x, rfl⟩
end
end Law.R
namespace Law.R
open Law
open PySem L2 DL
/-! ## drawing the entries -/
section
variable {α : Type} (enc : α → D)
theorem frz_kv (l : List (Ad × α)) : frzOD (kvO enc l) = some (.dT (kvD enc l)) := by
  have : ∀ l : List (List Key × D), allKP (l.map fun q => (q.1, DV.p q.2)) = some l := by
    intro l
    induction l with
    | nil => rfl
    | cons a l ih =>
      show (allKP (l.map fun q => (q.1, DV.p q.2))).map ((a.1, a.2) :: ·) = _
      rw [ih]; rfl
  show (allKP ((kvD enc l).map fun q => (q.1, DV.p q.2))).map D.dT = _
  rw [this]; rfl
theorem putM_kv (M : List O) (n : Nat) (l : List (Ad × α)) (p : Ad) (v : α) (h : M[n]? = some (kvO enc l)) (hl : l.length < 1000000) : putM M n (En.en p) (.p (enc v)) = some (M.set n (kvO enc (putA l p v))) := by
  unfold putM
  rw [h]
  unfold kvO
  dsimp only
  rw [keyT_sp]
  dsimp only
  rw [put_kv, if_pos (by unfold kvD; simpa using hl)]
end
variable {n : Nat} {sv : DV}
end Law.R
namespace Law.R
open Law
open PySem L2 DL
/-! ## the order of addresses -/
def swp (x : Ad) : Ad := (x.2, x.1)
abbrev lxA : Ad → Ad → Bool := lx (fun x => x.1) (fun x => x.2)
abbrev lxS : Ad → Ad → Bool := lx (fun x => x.2) (fun x => x.1)
def ords (K : List Ad) : List Ad := K.mergeSort lxS
theorem swp_swp (K : List Ad) : (K.map swp).map swp = K := by rw [List.map_map]; exact List.map_id' _
theorem lord (K : List Ad) : (((K.map swp).mergeSort lxA)).map swp = ords K := by
  have e := List.map_mergeSort (r := lxS) (s := lxA) (f := swp) (l := K) fun p _ q _ => rfl
  rw [← e, swp_swp]; rfl
theorem dSort_ad (l : List Ad) : dSort (.lst (l.map En.en)) = some (.lst ((l.mergeSort lxA).map En.en)) := by
  unfold dSort
  have h1 := DL.all_shp (α := Ad) (by decide) l
  have h2 : sortOk (toPs (l.map En.en)) = true := sortOk_ii l (fun x => x.1) (fun x => x.2)
  show (if ((l.map En.en).all shp && sortOk (toPs (l.map En.en))) = true then some (D.lst (sortL (l.map En.en))) else none) = _
  rw [h1, h2]
  show some (D.lst (sortL _)) = _
  unfold sortL
  have e := List.map_mergeSort (r := lxA) (s := PySem.W.dataLe false toP) (f := (En.en : Ad → D)) (l := l) fun p _ q _ => by
    have := congrFun (congrFun (PySem.W.dataLe_ii (fun x : Ad => x.1) (fun x => x.2)) p) q
    exact this.symm
  rw [e]
end Law.R
namespace Law.R
open Law
open PySem L2 DL
/-! ## sets of addresses as bits -/
def okX (x : Ad) : Prop := 0 ≤ x.1 ∧ x.1 < 26 ∧ 0 ≤ x.2 ∧ x.2 < 99
def ixK (x : Ad) : Nat := (26 * x.2 + x.1).toNat
theorem cell_ix {x : Ad} (h : okX x) : cellK (ixK x) = x := by
  obtain ⟨a, b⟩ := x
  unfold okX at h
  unfold cellK ixK
  dsimp only at *
  exact Prod.ext (by dsimp only; omega) (by dsimp only; omega)
theorem ix_cell (k : Nat) : ixK (cellK k) = k := by unfold cellK ixK; dsimp only; omega
theorem ix_lt {x : Ad} (h : okX x) : ixK x < 2574 := by unfold okX at h; unfold ixK; omega
theorem okX_cell {k : Nat} (h : k < 2574) : okX (cellK k) := by unfold okX cellK; dsimp only; omega
theorem ix_inj {x y : Ad} (hx : okX x) (hy : okX y) (h : ixK x = ixK y) : x = y := by rw [← cell_ix hx, ← cell_ix hy, h]
/-- the addresses of a set, row by row -/
def bitL (S : Nat) : List Ad := ((List.range 2574).filter fun k => S.testBit k).map cellK
theorem mem_bitL {S : Nat} {x : Ad} : x ∈ bitL S ↔ okX x ∧ S.testBit (ixK x) = true := by
  unfold bitL
  rw [List.mem_map]
  constructor
  · rintro ⟨k, hk, rfl⟩
    rw [List.mem_filter, List.mem_range] at hk
    rw [ix_cell]
    exact ⟨okX_cell hk.1, hk.2⟩
  · rintro ⟨h1, h2⟩
    exact ⟨ixK x, by rw [List.mem_filter, List.mem_range]; exact ⟨ix_lt h1, h2⟩, cell_ix h1⟩
theorem lxS_lt {j k : Nat} (h : j < k) : lxS (cellK j) (cellK k) = true := by
  unfold lxS lx cellK
  simp only [Bool.or_eq_true, Bool.and_eq_true, decide_eq_true_eq, beq_iff_eq]
  omega
theorem bitL_sorted (S : Nat) : (bitL S).Pairwise (fun a b => lxS a b = true) := by
  unfold bitL
  rw [List.pairwise_map]
  have h : ((List.range 2574).filter fun k => S.testBit k).Pairwise (fun a b => a < b) := List.Pairwise.filter _ List.pairwise_lt_range
  exact h.imp fun h => lxS_lt h
theorem bitL_nodup (S : Nat) : (bitL S).Nodup := by
  unfold bitL
  have h : ((List.range 2574).filter fun k => S.testBit k).Pairwise (fun a b => a ≠ b) := List.Pairwise.filter _ List.nodup_range
  refine List.pairwise_map.mpr (h.imp fun {a b} h e => h ?_)
  rw [← ix_cell a, e, ix_cell]
theorem lxS_anti {x y : Ad} (h1 : lxS x y = true) (h2 : lxS y x = true) : x = y := by
  obtain ⟨a, b⟩ := x; obtain ⟨c, d⟩ := y
  unfold lxS lx at *
  simp only [Bool.or_eq_true, Bool.and_eq_true, decide_eq_true_eq, beq_iff_eq] at h1 h2
  exact Prod.ext (by dsimp only at *; omega) (by dsimp only at *; omega)
theorem lxS_trans (x y z : Ad) (h1 : lxS x y = true) (h2 : lxS y z = true) : lxS x z = true := by
  unfold lxS lx at *
  simp only [Bool.or_eq_true, Bool.and_eq_true, decide_eq_true_eq, beq_iff_eq] at *
  omega
theorem lxS_total (x y : Ad) : (lxS x y || lxS y x) = true := by
  unfold lxS lx
  simp only [Bool.or_eq_true, Bool.and_eq_true, decide_eq_true_eq, beq_iff_eq]
  omega
/-- a list of different addresses, ordered, is the list of its bits -/
theorem ords_bits {K : List Ad} {S : Nat} (nd : K.Nodup) (h : ∀ x, x ∈ K ↔ okX x ∧ S.testBit (ixK x) = true) : ords K = bitL S := by
  have p : (ords K).Perm (bitL S) := (List.mergeSort_perm K lxS).trans ((List.perm_ext_iff_of_nodup nd (bitL_nodup S)).mpr fun x => by rw [h, mem_bitL])
  refine List.Perm.eq_of_pairwise (le := fun a b => lxS a b = true) (fun a b _ _ h1 h2 => lxS_anti h1 h2) ?_ (bitL_sorted S) p
  exact List.pairwise_mergeSort (fun a b c => lxS_trans a b c) (fun a b => lxS_total a b) K
/-! the program's bits -/
theorem addr_spec (k : Nat) : m_address_at [.int (k : Int)] = some (.ok (En.en (cellK k))) := by
  unfold m_address_at b_address_at
  have e1 : dMod (.int (k : Int)) k_COLUMNS = some (.int ((k % 26 : Nat) : Int)) := by
    show (if (0 : Int) < 26 then some (D.int ((k : Int) % 26)) else none) = _
    rw [if_pos (by decide)]; rfl
  have e2 : dDiv (.int (k : Int)) k_COLUMNS = some (.int ((k / 26 : Nat) : Int)) := by
    unfold k_COLUMNS
    rw [div_eq ⟨by decide, by decide⟩]; rfl
  generalize k_COLUMNS = C at *
  have : (En.en (cellK k) : D) = .tup [.int ((k % 26 : Nat) : Int), .int ((k / 26 : Nat) : Int)] := rfl
  rw [this]
  generalize ((k % 26 : Nat) : Int) = a at *
  generalize ((k / 26 : Nat) : Int) = b at *
  generalize (k : Int) = c at *
  generalize dMod = f at *
  generalize dDiv = g at *
  simp [e_runA, e_lift, e_bnd, e1, e2]
theorem ixI {x : Ad} (h : okX x) : 26 * x.2 + x.1 = ((ixK x : Nat) : Int) := by unfold okX at h; unfold ixK; omega
theorem ix_spec {x : Ad} (h : okX x) : m_index_of [En.en x] = some (.ok (.int ((ixK x : Nat) : Int))) := by
  obtain ⟨a, b⟩ := x
  have h' := h
  unfold okX at h'
  dsimp only at h'
  have := index_spec a b h'.2.2.1 (by omega)
  rw [ixI h] at this
  exact this
theorem bit_spec {x : Ad} (h : okX x) : m_bit_of [En.en x] = some (.ok (.int ((2 ^ ixK x : Nat) : Int))) := by
  have e1 := ix_spec h
  have e2 := shl_one (j := ((ixK x : Nat) : Int)) (by omega) (by have := ix_lt h; omega)
  rw [Int.toNat_natCast] at e2
  unfold m_bit_of b_bit_of
  generalize (En.en x : D) = d at *
  generalize ((2 ^ ixK x : Nat) : Int) = r at *
  generalize ((ixK x : Nat) : Int) = i at *
  generalize m_index_of = f at *
  generalize dShl = g at *
  simp [e_runA, e_lift, e_bnd, e1, e2]
theorem low_bit {S i : Nat} (h1 : S.testBit i = true) (h2 : ∀ k, k < i → S.testBit k = false) : S - (S &&& (S - 1)) = 2 ^ i := by
  obtain ⟨m, rfl⟩ : ∃ m, S = 2 ^ i * (2 * m + 1) := by
    have e0 : S % 2 ^ i = 0 := by
      refine Nat.eq_of_testBit_eq fun k => ?_
      rw [Nat.testBit_mod_two_pow, Nat.zero_testBit]
      by_cases hk : k < i
      · rw [h2 k hk, Bool.and_false]
      · rw [decide_eq_false hk, Bool.false_and]
    have e1 : (S / 2 ^ i) % 2 = 1 := by
      have := Nat.testBit_div_two_pow S 0 (n := i)
      rw [Nat.zero_add] at this
      rw [h1, Nat.testBit_zero, decide_eq_true_eq] at this
      exact this
    refine ⟨S / 2 ^ i / 2, ?_⟩
    have e2 := Nat.div_add_mod S (2 ^ i)
    rw [e0, Nat.add_zero] at e2
    have e3 := Nat.div_add_mod (S / 2 ^ i) 2
    rw [e1] at e3
    rw [e3, e2]
  have pp : 0 < 2 ^ i := Nat.pow_pos (by decide)
  have e : 2 ^ i * (2 * m + 1) - 1 = 2 ^ i * (2 * m) + (2 ^ i - 1) := by
    rw [Nat.mul_succ]; omega
  rw [e]
  refine Nat.eq_of_testBit_eq fun k => ?_
  have b1 : (2 ^ i * (2 * m + 1)).testBit k = if k < i then false else (2 * m + 1).testBit (k - i) := by
    have := Nat.testBit_two_pow_mul_add (2 * m + 1) (b := 0) (i := i) pp k
    rw [Nat.add_zero, Nat.zero_testBit] at this
    exact this
  rw [bit_sub, b1, Nat.testBit_two_pow_mul_add _ (by omega), Nat.testBit_two_pow_sub_one, Nat.testBit_two_pow]
  by_cases hk : k < i
  · rw [if_pos hk, Bool.false_and, decide_eq_false (by omega)]
  · rw [if_neg hk, if_neg hk]
    by_cases hk2 : i = k
    · subst hk2
      rw [Nat.sub_self, decide_eq_true rfl, Nat.testBit_zero, Nat.testBit_zero]
      simp
    · rw [decide_eq_false hk2]
      obtain ⟨j, hj⟩ : ∃ j, k - i = j + 1 := ⟨k - i - 1, by omega⟩
      rw [hj, Nat.testBit_succ, Nat.testBit_succ]
      have a1 : (2 * m + 1) / 2 = m := by omega
      have a2 : 2 * m / 2 = m := by omega
      rw [a1, a2]; simp
theorem neg_not (S : Nat) (h : 0 < S) : (-(S : Int)) = Builtin.bitNot ((S - 1 : Nat) : Int) := by
  unfold Builtin.bitNot; omega
theorem pos_of_bit {S i : Nat} (h : S.testBit i = true) : 0 < S := by
  cases S with
  | zero => rw [Nat.zero_testBit] at h; cases h
  | succ n => exact Nat.succ_pos n
theorem and_neg {S i : Nat} (h1 : S.testBit i = true) (h2 : ∀ k, k < i → S.testBit k = false) : dBand (.int (S : Int)) (.int (-(S : Int))) = some (.int ((2 ^ i : Nat) : Int)) := by
  unfold dBand dIi dI
  dsimp only
  rw [neg_not S (pos_of_bit h1), bandn_nat, low_bit h1 h2]
theorem bits_pow (i : Nat) : bitsG (.int ((2 ^ i : Nat) : Int)) = some (.int ((i + 1 : Nat) : Int)) := by
  unfold bitsG Builtin.Int.intBits
  have pp : 0 < 2 ^ i := Nat.pow_pos (by decide)
  dsimp only
  rw [show (((2 ^ i : Nat) : Int) == 0) = false from by rw [beq_eq_false_iff_ne]; omega, Int.natAbs_natCast, Nat.log2_two_pow]
  rfl
theorem xor_bit {S i : Nat} (h : S.testBit i = true) : dBxor (.int (S : Int)) (.int ((2 ^ i : Nat) : Int)) = some (.int ((S - (S &&& 2 ^ i) : Nat) : Int)) := by
  unfold dBxor dIi dI Builtin.bitXor
  dsimp only
  rw [bor_nat, band_nat]
  have e : S ||| 2 ^ i = S := by
    refine Nat.eq_of_testBit_eq fun k => ?_
    rw [Nat.testBit_or, Nat.testBit_two_pow]
    by_cases hk : i = k
    · subst hk; rw [h]; rfl
    · rw [decide_eq_false hk, Bool.or_false]
  rw [e]
  have := Nat.and_le_left (n := S) (m := 2 ^ i)
  congr 2
  omega
theorem clr_bit (S i k : Nat) : (S - (S &&& 2 ^ i)).testBit k = (S.testBit k && !decide (i = k)) := by rw [bit_sub, Nat.testBit_two_pow]
end Law.R
namespace Law.R
open Law
open PySem L2 DL
/-! ## loops with a measure -/
theorem while_ex {c : EM} {b : SM} {J : Nat → S → Prop} {E : S → Prop} (h : ∀ n s, J n s → (c s = some (.ok (.p (.bl false)) s.m) ∧ E s) ∨ (c s = some (.ok (.p (.bl true)) s.m) ∧ ∃ m s', m < n ∧ b s = some (.nx, s') ∧ J m s')) :
    ∀ (fuel n : Nat) (s : S), n < fuel → J n s → ∃ s', sWhile fuel c b s = some (.nx, s') ∧ E s'
  | 0, _, _, hn, _ => absurd hn (Nat.not_lt_zero _)
  | fuel + 1, n, s, hn, hj => by
    rcases h n s hj with ⟨h1, h2⟩ | ⟨h1, m, s', h2, h3, h4⟩
    · refine ⟨s, ?_, h2⟩
      rw [sWhile, e_lift, h1]
    · obtain ⟨s2, e, q⟩ := while_ex h fuel m s' (by omega) h4
      refine ⟨s2, ?_, q⟩
      rw [sWhile, e_lift, h1]
      show (match b ⟨s.l, s.m⟩ with
        | none => none
        | some (.nx, s2) => sWhile fuel c b s2
        | some (.ct, s2) => sWhile fuel c b s2
        | some (.bk, s2) => some (.nx, s2)
        | some (.rt v, s2) => some (.rt v, s2)
        | some (.ex c f, s2) => some (.ex c f, s2)) = _
      rw [show (⟨s.l, s.m⟩ : S) = s from rfl, h3]
      exact e
theorem ex_low {T : Nat} (h : T ≠ 0) : ∃ i, T.testBit i = true ∧ ∀ k, k < i → T.testBit k = false := by
  obtain ⟨j, hj⟩ : ∃ j, T.testBit j = true := by
    refine Classical.byContradiction fun hn => h (Nat.eq_of_testBit_eq fun i => ?_)
    rw [Nat.zero_testBit]
    cases e : T.testBit i with
    | false => rfl
    | true => exact absurd ⟨i, e⟩ hn
  induction j using Nat.strongRecOn with
  | _ j ih =>
    by_cases hk : ∃ k, k < j ∧ T.testBit k = true
    · obtain ⟨k, h1, h2⟩ := hk
      exact ih k h1 h2
    · refine ⟨j, hj, fun k hkj => ?_⟩
      cases e : T.testBit k with
      | false => rfl
      | true => exact absurd ⟨k, hkj, e⟩ hk
theorem filt_ext {p : Nat → Bool} {k : Nat} : ∀ (n : Nat), (∀ j, k ≤ j → j < k + n → p j = false) → (List.range (k + n)).filter p = (List.range k).filter p
  | 0, _ => rfl
  | n + 1, h => by
    rw [show k + (n + 1) = (k + n) + 1 from rfl, List.range_succ, List.filter_append, filt_ext n fun j h1 h2 => h j h1 (by omega), List.filter_cons, h (k + n) (by omega) (by omega)]
    simp
/-! ## the lowest of a set, all of a set -/
theorem first_body (f : MA) (T P I1 I0 : Int) (d : D) (e1 : dBand (.int T) (.int (-T)) = some (.int P)) (e2 : bitsG (.int P) = some (.int I1)) (e3 : dSub (.int I1) (.int 1) = some (.int I0)) (e4 : f [.int I0] = some (.ok d)) :
    runA 1 (sRet (mCallA 1 f (aCons (mBin dSub (mBits (mBin dBand (mVar 0) (mUn dNeg (mVar 0)))) (mC (.int 1))) aNil))) [.int T] = some (.ok d) := by
  have e0 : dNeg (.int T) = some (.int (-T)) := rfl
  generalize -T = N at *
  generalize dBand = g at *
  generalize dSub = h at *
  generalize dNeg = ng at *
  simp [e_runA, e_lift, e_bnd, e0, e1, e2, e3, e4]
theorem first_spec {S i : Nat} (h1 : S.testBit i = true) (h2 : ∀ k, k < i → S.testBit k = false) : m_first_in [.int (S : Int)] = some (.ok (En.en (cellK i))) := by
  refine first_body m_address_at S _ _ (i : Nat) _ (and_neg h1 h2) (bits_pow i) ?_ (addr_spec i)
  show some (D.int (((i + 1 : Nat) : Int) - 1)) = _
  congr 2
  omega
noncomputable abbrev ciB (f : MA) : SM := (sSeq (sAsg (mBin dBand (mVar 0) (mUn dNeg (mVar 0))) (gN 2))
  (sSeq (sExpr (mMth "list" gApp (mVar 1) (aCons (mCallA 1 f (aCons (mBin dSub (mBits (mVar 2)) (mC (.int 1))) aNil)) aNil)))
  (sAsg (mBin dBxor (mVar 0) (mVar 2)) (gN 0))))
theorem ci_body (f : MA) (T P I1 I0 T' : Int) (d : D) (acc : List DV) (v2 : Option DV) (e1 : dBand (.int T) (.int (-T)) = some (.int P)) (e2 : bitsG (.int P) = some (.int I1)) (e3 : dSub (.int I1) (.int 1) = some (.int I0)) (e4 : f [.int I0] = some (.ok d)) (e5 : dBxor (.int T) (.int P) = some (.int T')) (hl : acc.length < 1000000) :
    ciB f ⟨[some (.p (.int T)), some (.o 0), v2], [.lst acc]⟩ = some (.nx, ⟨[some (.p (.int T')), some (.o 0), some (.p (.int P))], [.lst (acc ++ [.p d])]⟩) := by
  unfold ciB
  have e0 : dNeg (.int T) = some (.int (-T)) := rfl
  generalize -T = N at *
  generalize dBand = g at *
  generalize dSub = h at *
  generalize dNeg = ng at *
  generalize dBxor = x at *
  simp [e_seq, e_lift, e_bnd, e0, e1, e2, e3, e4, e5, gApp, tyOk, hl]
/-- a set within the sheet -/
def okS (S : Nat) : Prop := ∀ j, 2574 ≤ j → S.testBit j = false
def eA (x : Ad) : D := En.en x
theorem cells_in_spec {S : Nat} (hS : okS S) : m_cells_in [.int (S : Int)] = some (.ok (.lst ((bitL S).map En.en))) := by
  have lp := while_ex (c := mBin dNe (mVar 0) (mC (.int 0))) (b := ciB m_address_at)
    (J := fun n s => ∃ (k T : Nat) (v2 : Option DV), n + k = 2574 ∧ s = ⟨[some (.p (.int (T : Int))), some (.o 0), v2], [.lst ((((List.range k).filter fun k => S.testBit k).map fun k => eA (cellK k)).map .p)]⟩ ∧ (∀ j, j < k → T.testBit j = false) ∧ (∀ j, k ≤ j → T.testBit j = S.testBit j))
    (E := fun s => ∃ v2, s = ⟨[some (.p (.int 0)), some (.o 0), v2], [.lst (((bitL S).map eA).map .p)]⟩) (fun n s hj => by
      obtain ⟨k, T, v2, hk, rfl, h1, h2⟩ := hj
      by_cases h0 : T = 0
      · subst h0
        refine .inl ⟨by simp [e_bnd], v2, ?_⟩
        have e := filt_ext (p := fun k => S.testBit k) (k := k) n fun j a _ => by rw [← h2 j a, Nat.zero_testBit]
        rw [show k + n = 2574 by omega] at e
        rw [← e]
        unfold bitL
        rw [List.map_map (f := cellK)]
        rfl
      · obtain ⟨i, i1, i2⟩ := ex_low h0
        have hki : k ≤ i := by
          refine Nat.le_of_not_lt fun hlt => ?_
          rw [h1 i hlt] at i1; cases i1
        have hi : i < 2574 := by
          refine Nat.lt_of_not_le fun hge => ?_
          rw [h2 i hki, hS i hge] at i1; cases i1
        refine .inr ⟨?_, 2574 - (i + 1), _, by omega, ci_body m_address_at T _ _ (i : Nat) _ _ _ v2 (and_neg i1 i2) (bits_pow i) (by show some (D.int (((i + 1 : Nat) : Int) - 1)) = _; congr 2; omega) (addr_spec i) (xor_bit i1) ?_, ?_⟩
        · simp [e_bnd]; exact h0
        · rw [List.length_map, List.length_map]
          have := List.length_filter_le (fun k => S.testBit k) (List.range k)
          rw [List.length_range] at this
          omega
        · refine ⟨i + 1, T - (T &&& 2 ^ i), some (.p (.int ((2 ^ i : Nat) : Int))), by omega, ?_, fun j hj => ?_, fun j hj => ?_⟩
          · have e := filt_ext (p := fun k => S.testBit k) (k := k) (i - k) fun j a b => by rw [← h2 j a, i2 j (by omega)]
            rw [show k + (i - k) = i by omega] at e
            rw [List.range_succ, List.filter_append, e, List.filter_cons, ← h2 i hki, i1]
            simp [eA]
          · rw [clr_bit]
            by_cases hji : i = j
            · rw [decide_eq_true hji]; simp
            · rw [i2 j (by omega)]; rfl
          · rw [clr_bit, decide_eq_false (by omega), h2 j (by omega)]; simp)
    3000 2574 ⟨[some (.p (.int (S : Int))), some (.o 0), none], [.lst []]⟩ (by omega) ⟨0, S, none, rfl, rfl, fun j hj => absurd hj (Nat.not_lt_zero _), fun _ _ => rfl⟩
  obtain ⟨s', e, v2, rfl⟩ := lp
  unfold m_cells_in b_cells_in
  refine runA_of (s := (⟨[some (.p (.int 0)), some (.o 0), v2], [.gone]⟩ : DL.S)) ?_
  have e0 : (sAsg (dispO aNil) (gN 1)) ⟨slotsOf 3 ([D.int (S : Int)].map .p), []⟩ = some (.nx, ⟨[some (.p (.int (S : Int))), some (.o 0), none], [.lst []]⟩) := by simp [e_lift, e_bnd]
  rw [seq_nx _ _ _ _ e0, seq_nx _ _ _ _ e]
  exact ret_run _ _ _ _ (frz_run 1 0 _ _ ((bitL S).map eA) rfl rfl)
end Law.R
namespace Law.R
open Law
open PySem L2 DL
theorem for_run (it : IM) (g : GM) (b : SM) (s : S) (ds : List DV) (M : List O) (r : Option (Fl × S)) (h : it s = some (.ok ds M)) (h2 : loopS g b ds ⟨s.l, M⟩ = r) : sFor it g b s = r := by
  rw [e_for, e_lift, h]
  exact h2
/-! ## what areas cover -/
def gdA (l : List Ar) : Prop := ∀ a ∈ l, okA a ∧ ord a
def hit (l : List Ar) (x : Ad) : Bool := l.any fun a => has a x
def maskL (l : List Ar) : Nat := l.foldl (fun N a => N ||| maskN a) 0
theorem maskF_bit {k : Nat} : ∀ (l : List Ar) (N : Nat), gdA l → (l.foldl (fun N a => N ||| maskN a) N).testBit k = (N.testBit k || hit l (cellK k))
  | [], N, _ => by simp [hit]
  | a :: l, N, h => by
    have ha := h a List.mem_cons_self
    rw [List.foldl_cons, maskF_bit l _ fun b hb => h b (List.mem_cons_of_mem _ hb), Nat.testBit_or, mask_bit ha.1 ha.2]
    unfold hit
    rw [List.any_cons, Bool.or_assoc]
theorem maskL_bit {l : List Ar} (h : gdA l) (k : Nat) : (maskL l).testBit k = hit l (cellK k) := by
  unfold maskL
  rw [maskF_bit l 0 h, Nat.zero_testBit, Bool.false_or]
theorem has_okX {a : Ar} (h : okA a) {x : Ad} (hx : has a x = true) : okX x := by
  rw [has_iff] at hx
  unfold okA at h
  unfold okX
  omega
theorem hit_okX {l : List Ar} (h : gdA l) {x : Ad} (hx : hit l x = true) : okX x := by
  unfold hit at hx
  rw [List.any_eq_true] at hx
  obtain ⟨a, ha, h2⟩ := hx
  exact has_okX (h a ha).1 h2
theorem maskL_ok {l : List Ar} (h : gdA l) : okS (maskL l) := fun k hk => by
  rw [maskL_bit h]
  cases e : hit l (cellK k) with
  | false => rfl
  | true =>
    have := hit_okX h e
    unfold okX cellK at this
    dsimp only at this
    omega
theorem bor_step (f : MA) (s0 : Option DV) (v N m r : Int) (d : D) (e1 : f [d] = some (.ok (.int m))) (e2 : dBor (.int N) (.int m) = some (.int r)) :
    (sAsg (mBin dBor (mVar 1) (mCallA 1 f (aCons (mVar 2) aNil))) (gN 1)) ⟨[s0, some (.p (.int N)), some (.p d)], []⟩ = some (.nx, ⟨[s0, some (.p (.int r)), some (.p d)], []⟩) := by
  generalize dBor = g at *
  simp [e_lift, e_bnd, e1, e2]
theorem mall_loop (s0 : Option DV) : ∀ (l : List Ar) (N : Nat) (v2 : Option DV), gdA l → ∃ v2', loopS (gN 2) (sAsg (mBin dBor (mVar 1) (mCallA 1 m_mask_of (aCons (mVar 2) aNil))) (gN 1)) ((l.map En.en).map .p) ⟨[s0, some (.p (.int (N : Int))), v2], []⟩
    = some (.nx, ⟨[s0, some (.p (.int ((l.foldl (fun N a => N ||| maskN a) N : Nat) : Int))), v2'], []⟩)
  | [], N, v2, _ => ⟨v2, rfl⟩
  | a :: l, N, v2, h => by
    have ha := h a List.mem_cons_self
    obtain ⟨v2', ih⟩ := mall_loop s0 l (N ||| maskN a) (some (.p (En.en a))) fun b hb => h b (List.mem_cons_of_mem _ hb)
    refine ⟨v2', ?_⟩
    rw [List.map_cons, List.map_cons]
    rw [DL.loop_step _ _ _ _ _ ⟨[s0, some (.p (.int (N : Int))), some (.p (En.en a))], []⟩ _ rfl (bor_step m_mask_of s0 0 N _ _ (En.en a) (mask_spec ha.1 ha.2) (by show some (D.int _) = _; rw [bor_nat]))]
    exact ih
theorem mall_spec {l : List Ar} (h : gdA l) : m_mask_of_all [.lst (l.map En.en)] = some (.ok (.int ((maskL l : Nat) : Int))) := by
  obtain ⟨v2', lp⟩ := mall_loop (some (.p (.lst (l.map En.en)))) l 0 none h
  rw [show ((0 : Nat) : Int) = 0 from rfl] at lp
  unfold m_mask_of_all b_mask_of_all
  refine runA_of (s := (⟨[some (.p (.lst (l.map En.en))), some (.p (.int ((maskL l : Nat) : Int))), v2'], []⟩ : DL.S)) ?_
  have e0 : (sAsg (mC (.int 0)) (gN 1)) ⟨slotsOf 3 ([D.lst (l.map En.en)].map .p), []⟩ = some (.nx, ⟨[some (.p (.lst (l.map En.en))), some (.p (.int 0)), none], []⟩) := by simp [e_lift, e_bnd]
  rw [seq_nx _ _ _ _ e0]
  rw [seq_nx _ _ _ _ (for_run _ _ _ _ _ _ _ (it_var 0 _ [] (l.map En.en) rfl) lp)]
  rfl
/-! ## the law's order -/
theorem order_any (dd : D) (K : List Ad) (hk : K.length ≤ 5000) (it : itA dd = some ((K.map En.en).map .p)) : m_l_order [dd] = some (.ok (.lst ((ords K).map En.en))) := by
  rw [← lord]
  have e1 := DL.map_comp (l := [some (.p dd), none, none, none, none]) (g := gN 2) (e := disp .tup (aCons (mIx (mVar 2) (mC (.int 1))) (aCons (mIx (mVar 2) (mC (.int 0))) aNil))) (M := []) swp K (fun a => ⟨_, rfl, rfl, by simp [e_bnd, R.en_ad, swp]⟩) (by omega)
  have e2 := dSort_ad (K.map swp)
  generalize hS : (K.map swp).mergeSort lxA = S at *
  have hS2 : S.length ≤ 5000 := by rw [← hS, (List.mergeSort_perm _ _).length_eq, List.length_map]; exact hk
  have e3 := DL.map_comp (l := [some (.p dd), some (.p (.lst (S.map En.en))), none, none, none]) (g := gT 2 (gsCons (gN 3) (gsCons (gN 4) gsNil))) (e := disp .tup (aCons (mVar 4) (aCons (mVar 3) aNil))) (M := []) swp S (fun a => ⟨⟨[some (.p dd), some (.p (.lst (S.map En.en))), none, some (.p (.int a.1)), some (.p (.int a.2))], []⟩, rfl, rfl, by simp [e_bnd, R.en_ad, swp]⟩) (by omega)
  have it1 : mItD itA (mVar 0) ⟨[some (.p dd), none, none, none, none], []⟩ = some (.ok ((K.map En.en).map .p) []) := by
    simp [e_bnd, it]
  have f1 := DL.lcs (mItD itA (mVar 0)) [2] (gN 2) tYesM _ ⟨[some (.p dd), none, none, none, none], []⟩ _ _ it1 e1
  have f3 := DL.lcsD 1 [3, 4] _ _ [some (.p dd), some (.p (.lst (S.map En.en))), none, none, none] [] (S.map En.en) _ rfl e3
  have f2 : mCB (g1 dSort) (aCons (mLc (mItD itA (mVar 0)) [2] (gN 2) tYesM (disp .tup (aCons (mIx (mVar 2) (mC (.int 1))) (aCons (mIx (mVar 2) (mC (.int 0))) aNil)))) aNil) ⟨[some (.p dd), none, none, none, none], []⟩ = some (.ok (.p (.lst (S.map En.en))) []) := by
    rw [e_cb, e_bnd, e_aCons, e_bnd, f1]
    generalize (K.map swp).map (En.en : Ad → D) = z at *
    generalize S.map (En.en : Ad → D) = y at *
    simp [e_bnd, e2]
  unfold m_l_order b_l_order
  rw [e_runA]
  have f4 := DL.seq_asg _ (gN 1) (sRet (mLc (mItD itL (mVar 1)) [3, 4] (gT 2 (gsCons (gN 3) (gsCons (gN 4) gsNil))) tYesM (disp .tup (aCons (mVar 4) (aCons (mVar 3) aNil))))) ⟨slotsOf 5 ([dd].map .p), []⟩ ⟨[some (.p dd), some (.p (.lst (S.map En.en))), none, none, none], []⟩ _ _ f2 rfl
  rw [f4, e_sret, e_lift, f3]
theorem order_l (K : List Ad) (hk : K.length ≤ 5000) : m_l_order [.lst (K.map En.en)] = some (.ok (.lst ((ords K).map En.en))) := order_any _ K hk rfl
/-! ## ranges by addresses -/
abbrev Rg := List (Ad × List Ar)
def eR (l : List Ar) : D := En.en l
def rgD (l : Rg) : D := .dT (kvD eR l)
def rg (l : Rg) (x : Ad) : List Ar := (look l x).getD []
theorem order_d (l : Rg) (hk : l.length ≤ 5000) : m_l_order [rgD l] = some (.ok (.lst ((ords (keysA l)).map En.en))) := by
  refine order_any _ _ (by unfold keysA; simpa using hk) ?_
  unfold rgD itA kvD keysA
  simp only [List.map_map]
  rfl
theorem uses_it_spec (l : Rg) (x y : Ad) (hl : (rg l x).length ≤ 1000) : m_l_uses_it [rgD l, En.en x, En.en y] = some (.ok (.bl (hit (rg l x) y))) := by
  have e1 : mDg2 (mVar 0) (mVar 1) (disp .lst aNil) ⟨[some (.p (rgD l)), some (.p (En.en x)), some (.p (En.en y)), none], []⟩ = some (.ok (.p (.lst ((rg l x).map En.en))) []) := by
    have := dg2_run eR (mVar 0) (mVar 1) (disp .lst aNil) [some (.p (rgD l)), some (.p (En.en x)), some (.p (En.en y)), none] [] l x (.lst []) rfl rfl rfl
    rw [this]
    unfold rg
    cases look l x <;> rfl
  have e2 := filter_compE (α := Ar) En.en (l := [some (.p (rgD l)), some (.p (En.en x)), some (.p (En.en y)), none]) (g := gN 3) (t := mTru (mCallA 2 m_l_has (aCons (mVar 3) (aCons (mVar 2) aNil)))) (e := mVar 3) (M := []) En.en (fun a => has a y) (rg l x) (fun a _ => ⟨⟨[some (.p (rgD l)), some (.p (En.en x)), some (.p (En.en y)), some (.p (En.en a))], []⟩, rfl, rfl, by
      have h := has_spec a y
      generalize (En.en a : D) = ea at *
      generalize (En.en y : D) = ey at *
      simp [e_bnd, h], fun _ => rfl⟩) (by omega)
  have e3 := DL.lcs (mItD itL (mDg2 (mVar 0) (mVar 1) (disp .lst aNil))) [3] (gN 3) _ _ ⟨[some (.p (rgD l)), some (.p (En.en x)), some (.p (En.en y)), none], []⟩ (((rg l x).map En.en).map .p) _ (by
    rw [mItD, e_bnd, e1]; rfl) e2
  unfold m_l_uses_it b_l_uses_it
  refine runA_ret _ _ _ _ ?_
  have hn : ((rg l x).filter fun a => has a y).length ≤ 1000 := Nat.le_trans (List.length_filter_le _ _) hl
  have hit_eq : hit (rg l x) y = decide (0 < (((rg l x).filter fun a => has a y).length : Int)) := by
    unfold hit
    rw [Bool.eq_iff_iff, List.any_eq_true, decide_eq_true_eq]
    constructor
    · rintro ⟨a, h1, h2⟩
      have : a ∈ (rg l x).filter fun a => has a y := List.mem_filter.mpr ⟨h1, h2⟩
      have := List.length_pos_of_mem this
      omega
    · intro h
      obtain ⟨a, ha⟩ := List.exists_mem_of_length_pos (l := (rg l x).filter fun a => has a y) (by omega)
      rw [List.mem_filter] at ha
      exact ⟨a, ha.1, ha.2⟩
  rw [hit_eq]
  have e4 : lenD (.lst (((rg l x).filter fun a => has a y).map En.en)) = some ((rg l x).filter fun a => has a y).length := by
    show some _ = _
    rw [List.length_map]
  generalize ((rg l x).filter fun a => has a y).length = n at *
  generalize ((rg l x).filter fun a => has a y).map (En.en : Ar → D) = z at *
  generalize mLc (mItD itL (mDg2 (mVar 0) (mVar 1) (disp .lst aNil))) [3] (gN 3) (mTru (mCallA 2 m_l_has (aCons (mVar 3) (aCons (mVar 2) aNil)))) (mVar 3) = C at *
  generalize rgD l = rd at *
  have hle : z.length ≤ 1000000 := by
    have : some z.length = some n := e4
    have := Option.some.inj this
    omega
  have hz : z.length = n := Option.some.inj e4
  simp [e_bnd, e3, hle, hz]
end Law.R
namespace Law.R
open Law
open PySem L2 DL
/-! ## the law's cells, column by column -/
def colL (c : Int) : Nat → Int → List Ad
  | 0, _ => []
  | n + 1, r => (c, r) :: colL c n (r + 1)
def colsL (r : Int) (nr : Nat) : Int → Nat → List Ad
  | _, 0 => []
  | c, n + 1 => colL c nr r ++ colsL r nr (c + 1) n
def cellsC (a : Ar) : List Ad := colsL a.1.2 (a.2.2 + 1 - a.1.2).toNat a.1.1 (a.2.1 + 1 - a.1.1).toNat
theorem colL_len (c : Int) : ∀ (n : Nat) (r : Int), (colL c n r).length = n
  | 0, _ => rfl
  | n + 1, r => by show (colL c n (r + 1)).length + 1 = _; rw [colL_len c n]
theorem colsL_len (r : Int) (nr : Nat) : ∀ (n : Nat) (c : Int), (colsL r nr c n).length = n * nr
  | 0, _ => by simp [colsL]
  | n + 1, c => by show (colL c nr r ++ colsL r nr (c + 1) n).length = _; rw [List.length_append, colL_len, colsL_len r nr n, Nat.succ_mul]; omega
theorem colL_mem (x : Ad) (c : Int) : ∀ (n : Nat) (r : Int), x ∈ colL c n r ↔ x.1 = c ∧ r ≤ x.2 ∧ x.2 < r + n
  | 0, r => by
    show x ∈ [] ↔ _
    simp only [List.not_mem_nil, false_iff]
    omega
  | n + 1, r => by
    show x ∈ (c, r) :: colL c n (r + 1) ↔ _
    obtain ⟨u, v⟩ := x
    rw [List.mem_cons, colL_mem _ c n, Prod.mk.injEq]
    dsimp only
    omega
theorem colsL_mem (x : Ad) (r : Int) (nr : Nat) : ∀ (n : Nat) (c : Int), x ∈ colsL r nr c n ↔ c ≤ x.1 ∧ x.1 < c + n ∧ r ≤ x.2 ∧ x.2 < r + nr
  | 0, c => by
    show x ∈ [] ↔ _
    simp only [List.not_mem_nil, false_iff]
    omega
  | n + 1, c => by
    show x ∈ colL c nr r ++ colsL r nr (c + 1) n ↔ _
    rw [List.mem_append, colL_mem, colsL_mem x r nr n]
    omega
theorem cellsC_mem (a : Ar) (x : Ad) : x ∈ cellsC a ↔ has a x = true := by
  unfold cellsC
  rw [colsL_mem, has_iff]
  omega
theorem cellsC_len {a : Ar} (h : okA a) : (cellsC a).length ≤ 2574 := by
  unfold cellsC
  rw [colsL_len]
  unfold okA at h
  have h1 : (a.2.2 + 1 - a.1.2).toNat ≤ 99 := by omega
  have h2 : (a.2.1 + 1 - a.1.1).toNat ≤ 26 := by omega
  exact Nat.mul_le_mul h2 h1
theorem compCol {l : List (Option DV)} {g : GM} {e : EM} {M : List O} (c : Int) (h : ∀ x, ∃ s1, g (.p (.int x)) ⟨l, M⟩ = some s1 ∧ s1.m = M ∧ e s1 = some (.ok (.p (En.en ((c, x) : Ad))) M)) : ∀ (n : Nat) (r : Int) (acc : List D), acc.length + n ≤ 1000000 → compL l g tYesM e (DL.intsFrom r n) acc M = some (acc ++ (colL c n r).map En.en, M)
  | 0, r, acc, _ => by rw [ints0]; simp [compL, colL]
  | n + 1, r, acc, hl => by
    rw [intsS]
    unfold compL
    obtain ⟨s1, h1, h2, h3⟩ := h r
    rw [h1]
    dsimp only
    have q : tYesM s1 = some (.ok (.p (.bl true)) s1.m) := rfl
    rw [q]
    dsimp only
    have q2 : e ⟨s1.l, s1.m⟩ = some (.ok (.p (En.en ((c, r) : Ad))) M) := h3
    rw [q2]
    dsimp only
    rw [if_pos (by omega), compCol c h n (r + 1) _ (by simp; omega)]
    simp [colL]
theorem cellsC_loop (A : D) (a b c d : Int) (hA : A = .tup [.tup [.int a, .int b], .tup [.int c, .int d]]) (nr : Nat) (h1 : (d + 1 - b).toNat = nr) (ha : -1000 ≤ b) (ha2 : b ≤ 1000) (hc : -1000 ≤ d) (hc2 : d ≤ 1000) : ∀ (n : Nat) (r : Int) (acc : List Ad) (v2 : Option DV), acc.length + n * nr ≤ 1000000 → ∃ v2',
    loopS (gN 2) (sAsg (mBin dAdd2 (mVar 1) (mLc (mRng rng2D (aCons (mIx (mIx (mVar 0) (mC (.int 0))) (mC (.int 1))) (aCons (mBin dAdd2 (mIx (mIx (mVar 0) (mC (.int 1))) (mC (.int 1))) (mC (.int 1))) aNil))) [3] (gN 3) tYesM (disp .tup (aCons (mVar 2) (aCons (mVar 3) aNil))))) (gN 1)) (DL.intsFrom r n)
      ⟨[some (.p A), some (.p (.lst (acc.map En.en))), v2, none], []⟩ = some (.nx, ⟨[some (.p A), some (.p (.lst ((acc ++ colsL b nr r n).map En.en))), v2', none], []⟩)
  | 0, r, acc, v4, _ => ⟨v4, by rw [ints0]; simp [colsL]⟩
  | n + 1, r, acc, v4, hl => by
    have hl2 : acc.length + (n * nr + nr) ≤ 1000000 := by rw [Nat.succ_mul] at hl; exact hl
    obtain ⟨v4', ih⟩ := cellsC_loop A a b c d hA nr h1 ha ha2 hc hc2 n (r + 1) (acc ++ colL r nr b) (some (.p (.int r))) (by rw [List.length_append, colL_len]; omega)
    refine ⟨v4', ?_⟩
    rw [intsS, loopS_cons]
    have g1 := rng_ok (i := b) (by omega) (by omega)
    have g2 := rng_ok (i := d + 1) (by omega) (by omega)
    have e := compCol (l := [some (.p A), some (.p (.lst (acc.map En.en))), some (.p (.int r)), none]) (g := gN 3) (e := disp .tup (aCons (mVar 2) (aCons (mVar 3) aNil))) (M := []) r (fun x => ⟨_, rfl, rfl, by simp [e_bnd, en_ad]⟩) nr b [] (by simp; omega)
    have hr := colL_len r nr b
    have hl3 : acc.length + (colL r nr b).length ≤ 1000000 := by omega
    subst hA
    simp [e_bnd, e_lift, g1, g2, h1] at e ih ⊢
    rw [e]
    simp [hl3]
    rw [ih]
    simp [colsL]
theorem cellsC_spec (a : Ar) (h : okA a) : m_l_cells [En.en a] = some (.ok (.lst ((cellsC a).map En.en))) := by
  obtain ⟨⟨p, q⟩, r, s⟩ := a
  have hh : 0 ≤ p ∧ 0 ≤ q ∧ r < 26 ∧ s < 99 ∧ p ≤ 26 ∧ q ≤ 99 ∧ -1 ≤ r ∧ -1 ≤ s := h
  have g1 := rng_ok (i := p) (by omega) (by omega)
  have g2 := rng_ok (i := r + 1) (by omega) (by omega)
  have hn : (r + 1 - p).toNat ≤ 1000 := by omega
  have hm : (s + 1 - q).toNat ≤ 1000 := by omega
  have hk := Nat.mul_le_mul hn hm
  obtain ⟨v4, e⟩ := cellsC_loop _ p q r s rfl _ rfl (by omega) (by omega) (by omega) (by omega) (r + 1 - p).toNat p [] none (by simp; omega)
  simp at e
  simp [e_bnd, e_seq, e_lift, e_runA, m_l_cells, b_l_cells, g1, g2, e, en_ar, cellsC]
/-! ## the law's users -/
def usr (l : Rg) (C : List Ad) (x : Ad) : Bool := C.any fun c => hit (rg l x) c
theorem any_len {α : Type} (q : α → Bool) (l : List α) : l.any q = decide (0 < ((l.filter q).length : Int)) := by
  rw [Bool.eq_iff_iff, List.any_eq_true, decide_eq_true_eq]
  constructor
  · rintro ⟨a, h1, h2⟩
    have : a ∈ l.filter q := List.mem_filter.mpr ⟨h1, h2⟩
    have := List.length_pos_of_mem this
    omega
  · intro h
    obtain ⟨a, ha⟩ := List.exists_mem_of_length_pos (l := l.filter q) (by omega)
    rw [List.mem_filter] at ha
    exact ⟨a, ha.1, ha.2⟩
/-- len([..]) > 0 -/
theorem len_pos {α : Type} (C : EM) (s : S) (q : α → Bool) (f : α → D) (l : List α) (h : C s = some (.ok (.p (.lst ((l.filter q).map f))) s.m)) (hl : l.length ≤ 1000000) : mBin dGt (mCB dLen (aCons C aNil)) (mC (.int 0)) s = some (.ok (.p (.bl (l.any q))) s.m) := by
  rw [any_len]
  have hn : (l.filter q).length ≤ 1000000 := Nat.le_trans (List.length_filter_le _ _) hl
  have hz : ((l.filter q).map f).length = (l.filter q).length := List.length_map ..
  generalize (l.filter q).length = n at *
  generalize (l.filter q).map f = z at *
  have hle : z.length ≤ 1000000 := by omega
  simp [e_bnd, h, hle, hz]
theorem users_in (l : Rg) (hl : ∀ x, (rg l x).length ≤ 1000) (C : List Ad) (hC : C.length ≤ 100000) (x : Ad) (CD : D) (hCD : CD = .lst (C.map En.en)) : mBin dGt (mCB dLen (aCons (mLc (mItD itL (mVar 1)) [4] (gN 4) (mTru (mCallA 3 m_l_uses_it (aCons (mVar 0) (aCons (mVar 3) (aCons (mVar 4) aNil))))) (mVar 4)) aNil)) (mC (.int 0)) ⟨[some (.p (rgD l)), some (.p CD), none, some (.p (En.en x)), none], []⟩ = some (.ok (.p (.bl (usr l C x))) []) := by
  subst hCD
  have e2 := filter_compE (α := Ad) En.en (l := [some (.p (rgD l)), some (.p (.lst (C.map En.en))), none, some (.p (En.en x)), none]) (g := gN 4) (t := mTru (mCallA 3 m_l_uses_it (aCons (mVar 0) (aCons (mVar 3) (aCons (mVar 4) aNil))))) (e := mVar 4) (M := []) En.en (fun c => hit (rg l x) c) C (fun c _ => ⟨_, rfl, rfl, by
      have h := uses_it_spec l x c (hl x)
      generalize (En.en c : D) = ec at *
      generalize (En.en x : D) = ex at *
      generalize rgD l = rd at *
      simp [e_bnd, h], fun _ => rfl⟩) (by omega)
  exact len_pos _ ⟨[some (.p (rgD l)), some (.p (.lst (C.map En.en))), none, some (.p (En.en x)), none], []⟩ _ _ C (DL.lcs (mItD itL (mVar 1)) [4] (gN 4) _ _ _ _ _ (by simp [e_bnd]) e2) (by omega)
theorem keys_itA (l : Rg) : itKD (rgD l) = some (((keysA l).map En.en).map .p) := by
  have := keys_it eR l
  rw [List.map_map]
  exact this
theorem users_spec (l : Rg) (hk : l.length ≤ 1000) (hl : ∀ x, (rg l x).length ≤ 1000) (C : List Ad) (hC : C.length ≤ 100000) : m_l_users [rgD l, .lst (C.map En.en)] = some (.ok (.lst ((ords ((keysA l).filter (usr l C))).map En.en))) := by
  have hkl : (keysA l).length ≤ 1000 := by unfold keysA; simpa using hk
  have e1 := filter_compE (α := Ad) En.en (l := [some (.p (rgD l)), some (.p (.lst (C.map En.en))), none, none, none]) (g := gN 3) (t := mBin dGt (mCB dLen (aCons (mLc (mItD itL (mVar 1)) [4] (gN 4) (mTru (mCallA 3 m_l_uses_it (aCons (mVar 0) (aCons (mVar 3) (aCons (mVar 4) aNil))))) (mVar 4)) aNil)) (mC (.int 0))) (e := mVar 3) (M := []) En.en (usr l C) (keysA l) (fun x _ => ⟨_, rfl, rfl, users_in l hl C hC x _ rfl, fun _ => rfl⟩) (by omega)
  have it1 : mItD itKD (mVar 0) ⟨[some (.p (rgD l)), some (.p (.lst (C.map En.en))), none, none, none], []⟩ = some (.ok (((keysA l).map En.en).map .p) []) := by
    simp [e_bnd, keys_itA]
  have e2 := DL.lcs (mItD itKD (mVar 0)) [3] (gN 3) _ _ ⟨[some (.p (rgD l)), some (.p (.lst (C.map En.en))), none, none, none], []⟩ _ _ it1 e1
  have e3 := order_l ((keysA l).filter (usr l C)) (Nat.le_trans (List.length_filter_le _ _) (by omega))
  unfold m_l_users b_l_users
  refine runA_of (s := (⟨[some (.p (rgD l)), some (.p (.lst (C.map En.en))), some (.p (.lst (((keysA l).filter (usr l C)).map En.en))), none, none], []⟩ : DL.S)) ?_
  rw [DL.seq_asg _ (gN 2) _ ⟨slotsOf 5 ([rgD l, D.lst (C.map En.en)].map .p), []⟩ ⟨[some (.p (rgD l)), some (.p (.lst (C.map En.en))), some (.p (.lst (((keysA l).filter (usr l C)).map En.en))), none, none], []⟩ _ _ e2 rfl]
  refine ret_run _ _ _ _ ?_
  generalize ((keysA l).filter (usr l C)).map (En.en : Ad → D) = z at *
  generalize rgD l = rd at *
  simp [e_bnd, e3]
end Law.R
namespace Law.R
open Law
open PySem L2 DL
/-! ## what reaches cells, what is reached -/
inductive RG (l : Rg) (C : List Ad) : Ad → Prop
  | base {x : Ad} : x ∈ keysA l → usr l C x = true → RG l C x
  | step {x y : Ad} : x ∈ keysA l → RG l C y → hit (rg l x) y = true → RG l C x
inductive RC (l : Rg) (a : Ad) : Ad → Prop
  | base {y : Ad} : y ∈ keysA l → hit (rg l a) y = true → RC l a y
  | step {x y : Ad} : y ∈ keysA l → RC l a x → hit (rg l x) y = true → RC l a y
theorem RG.key {l : Rg} {C : List Ad} {x : Ad} (h : RG l C x) : x ∈ keysA l := by cases h <;> assumption
theorem RC.key {l : Rg} {a : Ad} {x : Ad} (h : RC l a x) : x ∈ keysA l := by cases h <;> assumption
theorem sub_len {F K : List Ad} (nd : F.Nodup) (h : ∀ x ∈ F, x ∈ K) : F.length ≤ K.length := by
  induction F generalizing K with
  | nil => exact Nat.zero_le _
  | cons a F ih =>
    have ha := h a List.mem_cons_self
    have nd' := List.nodup_cons.mp nd
    have := ih (K := K.erase a) nd'.2 fun x hx => by
      rw [List.mem_erase_of_ne (fun e => nd'.1 (by rw [← e]; exact hx))]
      exact h x (List.mem_cons_of_mem _ hx)
    rw [List.length_erase_of_mem ha] at this
    have hp := List.length_pos_of_mem ha
    rw [List.length_cons]; omega
theorem ords_mem {K : List Ad} {x : Ad} : x ∈ ords K ↔ x ∈ K := (List.mergeSort_perm K lxS).mem_iff
theorem ords_len (K : List Ad) : (ords K).length = K.length := (List.mergeSort_perm K lxS).length_eq
theorem ords_nodup {K : List Ad} (h : K.Nodup) : (ords K).Nodup := (List.mergeSort_perm K lxS).symm.nodup h
theorem usr_iff {l : Rg} {C : List Ad} {x : Ad} : usr l C x = true ↔ ∃ c ∈ C, hit (rg l x) c = true := by unfold usr; rw [List.any_eq_true]
theorem nin_comp (l : Rg) (F G : List Ad) (hF : F.length ≤ 100000) (hG : G.length ≤ 100000) (s0 s1 s3 : Option DV) (u : EM) (hu : u ⟨[s0, s1, some (.p (.lst (F.map En.en))), s3, none], []⟩ = some (.ok (.p (.lst (G.map En.en))) [])) :
    mLc (mItD itL u) [4] (gN 4) (mBin dNin (mVar 4) (mVar 2)) (mVar 4) ⟨[s0, s1, some (.p (.lst (F.map En.en))), s3, none], []⟩ = some (.ok (.p (.lst ((G.filter fun x => decide (x ∉ F)).map En.en))) []) := by
  have e1 := filter_compE (α := Ad) En.en (l := [s0, s1, some (.p (.lst (F.map En.en))), s3, none]) (g := gN 4) (t := mBin dNin (mVar 4) (mVar 2)) (e := mVar 4) (M := []) En.en (fun x => decide (x ∉ F)) G (fun x _ => ⟨_, rfl, rfl, by
    have h := inD_en x F (by decide)
    generalize (En.en x : D) = ex at *
    generalize F.map (En.en : Ad → D) = fd at *
    simp [e_bnd, h, DL.ret], fun _ => rfl⟩) (by omega)
  exact DL.lcs _ [4] (gN 4) _ _ ⟨[s0, s1, some (.p (.lst (F.map En.en))), s3, none], []⟩ _ _ (by rw [mItD, e_bnd, hu]; rfl) e1
/-- all that is known of a book of ranges -/
structure okG (l : Rg) : Prop where
  nd : (keysA l).Nodup
  ln : l.length ≤ 1000
  xk : ∀ x ∈ keysA l, okX x
  gd : ∀ x, gdA (rg l x)
  rl : ∀ x, (rg l x).length ≤ 1000
theorem okG.kl {l : Rg} (h : okG l) : (keysA l).length ≤ 1000 := by unfold keysA; have := h.ln; simpa using this
noncomputable abbrev rgB : SM := (sSeq (sAsg (mBin dAdd2 (mVar 2) (mVar 3)) (gN 2))
  (sAsg (mLc (mItD itL (mCallA 2 m_l_users (aCons (mVar 0) (aCons (mVar 2) aNil)))) [4] (gN 4) (mBin dNin (mVar 4) (mVar 2)) (mVar 4)) (gN 3)))
theorem cat_run {F G : List Ad} (s0 s1 s4 : Option DV) (h : (F ++ G).length ≤ 100000) : (sAsg (mBin dAdd2 (mVar 2) (mVar 3)) (gN 2)) ⟨[s0, s1, some (.p (.lst (F.map En.en))), some (.p (.lst (G.map En.en))), s4], []⟩ = some (.nx, ⟨[s0, s1, some (.p (.lst ((F ++ G).map En.en))), some (.p (.lst (G.map En.en))), s4], []⟩) := by
  rw [List.length_append] at h
  have h2 : (F.map (En.en : Ad → D)).length + (G.map (En.en : Ad → D)).length ≤ 1000000 := by rw [List.length_map, List.length_map]; omega
  rw [List.map_append]
  generalize F.map (En.en : Ad → D) = fd at *
  generalize G.map (En.en : Ad → D) = gd at *
  simp [e_lift, e_bnd, h2]
theorem reaching_spec {l : Rg} (h : okG l) (C : List Ad) (hC : C.length ≤ 100000) : ∃ F : List Ad, m_l_reaching [rgD l, .lst (C.map En.en)] = some (.ok (.lst ((ords F).map En.en))) ∧ F.Nodup ∧ ∀ x, x ∈ F ↔ RG l C x := by
  have hK := h.kl
  have wl := while_ex (c := mBin dGt (mCB dLen (aCons (mVar 3) aNil)) (mC (.int 0))) (b := rgB)
    (J := fun n s => ∃ F G : List Ad, n + F.length = (keysA l).length ∧ s = ⟨[some (.p (rgD l)), some (.p (.lst (C.map En.en))), some (.p (.lst (F.map En.en))), some (.p (.lst (G.map En.en))), none], []⟩ ∧
      (F ++ G).Nodup ∧ (∀ x ∈ F ++ G, RG l C x) ∧ (∀ x, x ∈ keysA l → usr l C x = true → x ∈ F ++ G) ∧ (∀ x y, x ∈ keysA l → y ∈ F → hit (rg l x) y = true → x ∈ F ++ G))
    (E := fun s => ∃ F : List Ad, s = ⟨[some (.p (rgD l)), some (.p (.lst (C.map En.en))), some (.p (.lst (F.map En.en))), some (.p (.lst [])), none], []⟩ ∧ F.Nodup ∧ F.length ≤ 1000 ∧ ∀ x, x ∈ F ↔ RG l C x) (fun n s hj => by
      obtain ⟨F, G, hn, rfl, nd, so, cb, cs⟩ := hj
      have hl := sub_len nd fun x hx => (so x hx).key
      rw [List.length_append] at hl
      have lg : lenD (.lst (G.map (En.en : Ad → D))) = some G.length := by show some _ = _; rw [List.length_map]
      cases hG : G with
      | nil =>
        subst hG
        refine .inl ⟨by simp [e_bnd], F, rfl, by simpa using nd, by omega, fun x => ⟨fun hx => so x (by simpa using hx), fun hx => ?_⟩⟩
        simp only [List.append_nil] at cb cs
        induction hx with
        | base h1 h2 => exact cb _ h1 h2
        | step h1 _ h3 ih => exact cs _ _ h1 ih h3
      | cons g0 G0 =>
        rw [← hG]
        have gp : 0 < G.length := by rw [hG]; exact Nat.succ_pos _
        refine .inr ⟨?_, (keysA l).length - (F ++ G).length, ⟨[some (.p (rgD l)), some (.p (.lst (C.map En.en))), some (.p (.lst ((F ++ G).map En.en))), some (.p (.lst (((ords ((keysA l).filter (usr l (F ++ G)))).filter fun x => decide (x ∉ F ++ G)).map En.en))), none], []⟩, by rw [List.length_append]; omega, ?_, F ++ G, (ords ((keysA l).filter (usr l (F ++ G)))).filter fun x => decide (x ∉ F ++ G), by rw [List.length_append]; omega, rfl, ?_, ?_, ?_, ?_⟩
        · have hz : (G.map (En.en : Ad → D)).length = G.length := List.length_map ..
          generalize G.map (En.en : Ad → D) = gd at *
          have a1 : gd.length ≤ 1000000 := by omega
          have a2 : 0 < gd.length := by omega
          simp [e_bnd, a1]
          exact a2
        · unfold rgB
          rw [seq_nx _ _ _ _ (cat_run _ _ _ (by rw [List.length_append]; omega))]
          have hu := users_spec l h.ln h.rl (F ++ G) (by rw [List.length_append]; omega)
          have hlu : (ords ((keysA l).filter (usr l (F ++ G)))).length ≤ 100000 := by
            rw [ords_len]
            exact Nat.le_trans (List.length_filter_le _ _) (by omega)
          have e := nin_comp l (F ++ G) (ords ((keysA l).filter (usr l (F ++ G)))) (by rw [List.length_append]; omega) hlu (some (.p (rgD l))) (some (.p (.lst (C.map En.en)))) (some (.p (.lst (G.map En.en)))) (mCallA 2 m_l_users (aCons (mVar 0) (aCons (mVar 2) aNil))) (DL.callA2 m_l_users 0 2 _ _ _ _ _ rfl rfl hu)
          rw [e_asg, e_lift, e]
          rfl
        · refine List.nodup_append.mpr ⟨nd, List.Pairwise.filter _ (ords_nodup (List.Pairwise.filter _ h.nd)), fun a ha b hb e => ?_⟩
          rw [List.mem_filter, decide_eq_true_eq] at hb
          exact hb.2 (e ▸ ha)
        · intro x hx
          rcases List.mem_append.mp hx with hx | hx
          · exact so x hx
          · rw [List.mem_filter, ords_mem, List.mem_filter, usr_iff] at hx
            obtain ⟨⟨k1, c, hc, k2⟩, _⟩ := hx
            exact .step k1 (so c hc) k2
        · intro x h1 h2
          exact List.mem_append_left _ (cb x h1 h2)
        · intro x y h1 h2 h3
          by_cases hx : x ∈ F ++ G
          · exact List.mem_append_left _ hx
          · refine List.mem_append_right _ ?_
            rw [List.mem_filter, ords_mem, List.mem_filter, usr_iff]
            exact ⟨⟨h1, y, h2, h3⟩, decide_eq_true hx⟩)
    3000 (keysA l).length ⟨[some (.p (rgD l)), some (.p (.lst (C.map En.en))), some (.p (.lst [])), some (.p (.lst ((ords ((keysA l).filter (usr l C))).map En.en))), none], []⟩ (by omega) ⟨[], ords ((keysA l).filter (usr l C)), rfl, rfl, by simpa using ords_nodup (List.Pairwise.filter _ h.nd), fun x hx => by
      rw [List.nil_append, ords_mem, List.mem_filter] at hx
      exact .base hx.1 hx.2, fun x h1 h2 => by rw [List.nil_append, ords_mem, List.mem_filter]; exact ⟨h1, h2⟩, fun x y _ hy => by cases hy⟩
  obtain ⟨s', e, F, rfl, nd, hF, hm⟩ := wl
  refine ⟨F, ?_, nd, hm⟩
  have hu := users_spec l h.ln h.rl C hC
  have ho := order_l F (by omega)
  unfold m_l_reaching b_l_reaching
  refine runA_of (s := (⟨[some (.p (rgD l)), some (.p (.lst (C.map En.en))), some (.p (.lst (F.map En.en))), some (.p (.lst [])), none], []⟩ : DL.S)) ?_
  have e0 : (sAsg (disp .lst aNil) (gN 2)) ⟨slotsOf 5 ([rgD l, D.lst (C.map En.en)].map .p), []⟩ = some (.nx, ⟨[some (.p (rgD l)), some (.p (.lst (C.map En.en))), some (.p (.lst [])), none, none], []⟩) := by simp [e_lift, e_bnd]
  rw [seq_nx _ _ _ _ e0]
  rw [DL.seq_asg _ (gN 3) _ _ ⟨[some (.p (rgD l)), some (.p (.lst (C.map En.en))), some (.p (.lst [])), some (.p (.lst ((ords ((keysA l).filter (usr l C))).map En.en))), none], []⟩ _ _ (DL.callA2 m_l_users 0 1 _ _ _ _ _ rfl rfl hu) rfl]
  rw [seq_nx _ _ _ _ e]
  refine ret_run _ _ _ _ ?_
  generalize F.map (En.en : Ad → D) = fd at *
  generalize rgD l = rd at *
  simp [e_bnd, ho]
end Law.R
namespace Law.R
open Law
open PySem L2 DL
noncomputable abbrev rcT : EM := (mAnd (mBin dNin (mVar 5) (mVar 2)) (mBin dGt (mCB dLen (aCons (mLc (mItD itL (mVar 3)) [6] (gN 6) (mTru (mCallA 3 m_l_uses_it (aCons (mVar 0) (aCons (mVar 6) (aCons (mVar 5) aNil))))) (mVar 6)) aNil)) (mC (.int 0))))
noncomputable abbrev rcI : SM := (sIf rcT (sExpr (mMth "list" gApp (mVar 4) (aCons (mVar 5) aNil))) sNil)
def frQ (l : Rg) (F L : List Ad) (y : Ad) : Bool := decide (y ∉ F) && L.any fun x => hit (rg l x) y
abbrev rcS (l : Rg) (a : Ad) (F L : List Ad) (v4 v5 : Option DV) (M : List O) : S := ⟨[some (.p (rgD l)), some (.p (En.en a)), some (.p (.lst (F.map En.en))), some (.p (.lst (L.map En.en))), v4, v5, none], M⟩
theorem rcT_run {l : Rg} (h : okG l) (a : Ad) (F L : List Ad) (hF : F.length ≤ 100000) (hL : L.length ≤ 100000) (v4 : Option DV) (y : Ad) (M : List O) : rcT (rcS l a F L v4 (some (.p (En.en y))) M) = some (.ok (.p (.bl (frQ l F L y))) M) := by
  have e2 := filter_compE (α := Ad) En.en (l := [some (.p (rgD l)), some (.p (En.en a)), some (.p (.lst (F.map En.en))), some (.p (.lst (L.map En.en))), v4, some (.p (En.en y)), none]) (g := gN 6) (t := mTru (mCallA 3 m_l_uses_it (aCons (mVar 0) (aCons (mVar 6) (aCons (mVar 5) aNil))))) (e := mVar 6) (M := M) En.en (fun x => hit (rg l x) y) L (fun c _ => ⟨_, rfl, rfl, by
      have h := uses_it_spec l c y (h.rl c)
      generalize (En.en c : D) = ec at *
      generalize (En.en y : D) = ex at *
      generalize rgD l = rd at *
      simp [e_bnd, h], fun _ => rfl⟩) (by omega)
  have e3 := len_pos _ (rcS l a F L v4 (some (.p (En.en y))) M) _ _ L (DL.lcs (mItD itL (mVar 3)) [6] (gN 6) _ _ _ _ _ (by simp [e_bnd]) e2) (by omega)
  have h1 := inD_en y F (by decide)
  unfold rcT
  generalize (mBin dGt (mCB dLen (aCons (mLc (mItD itL (mVar 3)) [6] (gN 6) (mTru (mCallA 3 m_l_uses_it (aCons (mVar 0) (aCons (mVar 6) (aCons (mVar 5) aNil))))) (mVar 6)) aNil)) (mC (.int 0))) = C at *
  unfold frQ
  unfold rcS at *
  generalize (L.any fun x => hit (rg l x) y) = b at *
  generalize (En.en y : D) = ey at *
  generalize (En.en a : D) = ea at *
  generalize F.map (En.en : Ad → D) = fd at *
  generalize L.map (En.en : Ad → D) = ld at *
  generalize rgD l = rd at *
  by_cases hy : y ∈ F <;> simp [e_bnd, h1, DL.ret, e3, hy]
theorem rc_loop {l : Rg} (h : okG l) (a : Ad) (F L : List Ad) (hF : F.length ≤ 100000) (hL : L.length ≤ 100000) (k : Nat) : ∀ (K acc : List Ad) (v5 : Option DV) (M : List O), M[k]? = some (.lst ((acc.map En.en).map .p)) → acc.length + K.length ≤ 100000 →
    ∃ v5' M', loopS (gN 5) rcI ((K.map En.en).map .p) (rcS l a F L (some (.o k)) v5 M) = some (.nx, rcS l a F L (some (.o k)) v5' M') ∧ M'[k]? = some (.lst (((acc ++ K.filter (frQ l F L)).map En.en).map .p))
  | [], acc, v5, M, hm, _ => ⟨v5, M, rfl, by simpa using hm⟩
  | y :: K, acc, v5, M, hm, hl => by
    simp only [List.length_cons] at hl
    have hk : k < M.length := (List.getElem?_eq_some_iff.mp hm).1
    have ht := rcT_run h a F L hF hL (some (.o k)) y M
    rw [List.map_cons, List.map_cons]
    cases hq : frQ l F L y with
    | false =>
      rw [hq] at ht
      obtain ⟨v5', M', e1, e2⟩ := rc_loop h a F L hF hL k K acc (some (.p (En.en y))) M hm (by omega)
      refine ⟨v5', M', ?_, by rw [List.filter_cons, hq]; exact e2⟩
      rw [DL.loop_step _ _ _ _ _ (rcS l a F L (some (.o k)) (some (.p (En.en y))) M) (rcS l a F L (some (.o k)) (some (.p (En.en y))) M) rfl (by unfold rcI; rw [sif_f _ _ _ _ _ ht]; rfl)]
      exact e1
    | true =>
      rw [hq] at ht
      obtain ⟨v5', M', e1, e2⟩ := rc_loop h a F L hF hL k K (acc ++ [y]) (some (.p (En.en y))) (M.set k (.lst (((acc ++ [y]).map En.en).map .p))) (by rw [List.getElem?_set_self hk]) (by simp; omega)
      refine ⟨v5', M', ?_, by rw [List.filter_cons, hq]; simpa using e2⟩
      refine (DL.loop_step _ _ _ _ _ (rcS l a F L (some (.o k)) (some (.p (En.en y))) M) (rcS l a F L (some (.o k)) (some (.p (En.en y))) (M.set k (.lst (((acc ++ [y]).map En.en).map .p)))) rfl ?_).trans e1
      unfold rcI
      rw [sif_t _ _ _ _ _ ht]
      have := app_run 4 k (mVar 5) (rcS l a F L (some (.o k)) (some (.p (En.en y))) M).l M ((acc.map En.en).map .p) (.p (En.en y)) rfl hm (by rw [List.length_map, List.length_map]; omega) rfl
      rw [this]
      simp
noncomputable abbrev rcB : SM := (sSeq (sAsg (dispO aNil) (gN 4))
  (sSeq (sFor (mItD itKD (mVar 0)) (gN 5) rcI)
  (sSeq (sFrz 4) (sSeq (sAsg (mBin dAdd2 (mVar 2) (mFrz (mVar 4))) (gN 2))
  (sAsg (mFrz (mVar 4)) (gN 3))))))
theorem rc_turn {l : Rg} (h : okG l) (a : Ad) (F L : List Ad) (hF : F.length ≤ 1000) (hL : L.length ≤ 1000) (v4 v5 : Option DV) (M : List O) :
    ∃ v4' v5' M', rcB (rcS l a F L v4 v5 M) = some (.nx, rcS l a (F ++ (keysA l).filter (frQ l F L)) ((keysA l).filter (frQ l F L)) v4' v5' M') := by
  have hK := h.kl
  obtain ⟨v5', M', e1, e2⟩ := rc_loop h a F L (by omega) (by omega) M.length (keysA l) [] v5 (M ++ [.lst []]) (by simp) (by simp; omega)
  rw [List.nil_append] at e2
  have hn : ((keysA l).filter (frQ l F L)).length ≤ 1000 := Nat.le_trans (List.length_filter_le _ _) hK
  generalize (keysA l).filter (frQ l F L) = G at *
  refine ⟨some (.p (.lst (G.map En.en))), v5', M'.set M.length .gone, ?_⟩
  unfold rcB
  have s1 : (sAsg (dispO aNil) (gN 4)) (rcS l a F L v4 v5 M) = some (.nx, rcS l a F L (some (.o M.length)) v5 (M ++ [.lst []])) := by simp [rcS, e_lift, e_bnd]
  rw [seq_nx _ _ _ _ s1]
  have it : mItD itKD (mVar 0) (rcS l a F L (some (.o M.length)) v5 (M ++ [.lst []])) = some (.ok (((keysA l).map En.en).map .p) (M ++ [.lst []])) := by
    simp [rcS, e_bnd, keys_itA]
  rw [seq_nx _ _ _ _ (for_run _ _ _ _ _ _ _ it e1)]
  have s3 : sFrz 4 (rcS l a F L (some (.o M.length)) v5' M') = some (.nx, rcS l a F L (some (.p (.lst (G.map En.en)))) v5' (M'.set M.length .gone)) := by
    have hp : ∀ z : List D, allP (z.map DV.p) = some z := fun z => e_allPm _
    generalize G.map (En.en : Ad → D) = gd at *
    unfold rcS
    generalize F.map (En.en : Ad → D) = fd at *
    generalize L.map (En.en : Ad → D) = ld at *
    simp [e2, hp]
  rw [seq_nx _ _ _ _ s3]
  have hl2 : (F.map (En.en : Ad → D)).length + (G.map (En.en : Ad → D)).length ≤ 1000000 := by rw [List.length_map, List.length_map]; omega
  unfold rcS
  rw [List.map_append]
  generalize F.map (En.en : Ad → D) = fd at *
  generalize G.map (En.en : Ad → D) = gd at *
  generalize M'.set M.length .gone = M2 at *
  simp [e_seq, e_lift, e_bnd, hl2, mFrz]
theorem reached_spec {l : Rg} (h : okG l) (a : Ad) : ∃ F : List Ad, m_l_reached [rgD l, En.en a] = some (.ok (.lst ((ords F).map En.en))) ∧ F.Nodup ∧ ∀ x, x ∈ F ↔ RC l a x := by
  have hK := h.kl
  have wl := while_ex (c := mBin dGt (mCB dLen (aCons (mVar 3) aNil)) (mC (.int 0))) (b := rcB)
    (J := fun n s => ∃ (F L : List Ad) (v4 v5 : Option DV) (M : List O), n = (keysA l).length - F.length + (if L = [] then 0 else 1) ∧ s = rcS l a F L v4 v5 M ∧ F.Nodup ∧ L.length ≤ 1000 ∧ (∀ x ∈ F, RC l a x) ∧ (∀ x ∈ L, x = a ∨ x ∈ F) ∧ (∀ x y, (x = a ∨ x ∈ F) → x ∉ L → y ∈ keysA l → hit (rg l x) y = true → y ∈ F))
    (E := fun s => ∃ (F : List Ad) (v4 v5 : Option DV) (M : List O), s = rcS l a F [] v4 v5 M ∧ F.Nodup ∧ F.length ≤ 1000 ∧ ∀ x, x ∈ F ↔ RC l a x) (fun n s hj => by
      obtain ⟨F, L, v4, v5, M, hn, rfl, nd, lL, so, lm, cl⟩ := hj
      have hl := sub_len nd fun x hx => (so x hx).key
      by_cases hL : L = []
      · subst hL
        refine .inl ⟨by simp [rcS, e_bnd], F, v4, v5, M, rfl, nd, by omega, fun x => ⟨so x, fun hx => ?_⟩⟩
        induction hx with
        | base h1 h2 => exact cl _ _ (.inl rfl) (by simp) h1 h2
        | step h1 _ h3 ih => exact cl _ _ (.inr ih) (by simp) h1 h3
      · obtain ⟨v4', v5', M', e⟩ := rc_turn h a F L (by omega) lL v4 v5 M
        rw [if_neg hL] at hn
        have hn2 : ((keysA l).filter (frQ l F L)).length ≤ 1000 := Nat.le_trans (List.length_filter_le _ _) hK
        have gm : ∀ y, y ∈ (keysA l).filter (frQ l F L) ↔ y ∈ keysA l ∧ y ∉ F ∧ ∃ x ∈ L, hit (rg l x) y = true := fun y => by
          rw [List.mem_filter]
          unfold frQ
          rw [Bool.and_eq_true, decide_eq_true_eq, List.any_eq_true]
        have nd2 : (F ++ (keysA l).filter (frQ l F L)).Nodup := List.nodup_append.mpr ⟨nd, List.Pairwise.filter _ h.nd, fun x hx y hy e => ((gm y).mp hy).2.1 (e ▸ hx)⟩
        have so2 : ∀ x ∈ F ++ (keysA l).filter (frQ l F L), RC l a x := fun x hx => by
          rcases List.mem_append.mp hx with hx | hx
          · exact so x hx
          · obtain ⟨h1, _, z, h2, h3⟩ := (gm x).mp hx
            rcases lm z h2 with rfl | hz
            · exact .base h1 h3
            · exact .step h1 (so z hz) h3
        have hl2 := sub_len nd2 fun x hx => (so2 x hx).key
        refine .inr ⟨?_, _, _, ?_, e, F ++ (keysA l).filter (frQ l F L), (keysA l).filter (frQ l F L), v4', v5', M', rfl, rfl, nd2, hn2, so2, fun x hx => .inr (List.mem_append_right _ hx), fun x y hx hxl hy hh => ?_⟩
        · have hz : (L.map (En.en : Ad → D)).length = L.length := List.length_map ..
          have a0 := List.length_pos_iff.mpr hL
          unfold rcS
          generalize L.map (En.en : Ad → D) = gd at *
          have a1 : gd.length ≤ 1000000 := by omega
          have a2 : 0 < gd.length := by omega
          simp [e_bnd, a1]
          exact a2
        · generalize (keysA l).filter (frQ l F L) = G at *
          rw [List.length_append] at hl2 ⊢
          by_cases hG : G = []
          · rw [if_pos hG]; omega
          · rw [if_neg hG]
            have := List.length_pos_iff.mpr hG
            omega
        · by_cases hyF : y ∈ F
          · exact List.mem_append_left _ hyF
          · by_cases hxL : x ∈ L
            · exact List.mem_append_right _ ((gm y).mpr ⟨hy, hyF, x, hxL, hh⟩)
            · rcases hx with rfl | hx
              · exact absurd (cl x y (.inl rfl) hxL hy hh) hyF
              · rcases List.mem_append.mp hx with hx | hx
                · exact absurd (cl x y (.inr hx) hxL hy hh) hyF
                · exact absurd hx hxl)
    3000 _ (rcS l a [] [a] none none []) (by
      show (keysA l).length - 0 + (if [a] = [] then 0 else 1) < 3000
      rw [if_neg (by simp)]; omega) ⟨[], [a], none, none, [], rfl, rfl, List.nodup_nil, by simp, by simp, by simp, fun x y hx hxl => by
      rcases hx with rfl | hx
      · exact absurd (by simp) hxl
      · cases hx⟩
  obtain ⟨s', e, F, v4, v5, M, rfl, nd, hF, hm⟩ := wl
  refine ⟨F, ?_, nd, hm⟩
  have ho := order_l F (by omega)
  unfold m_l_reached b_l_reached
  refine runA_of (s := rcS l a F [] v4 v5 M) ?_
  have e0 : (sAsg (disp .lst aNil) (gN 2)) ⟨slotsOf 7 ([rgD l, En.en a].map .p), []⟩ = some (.nx, ⟨[some (.p (rgD l)), some (.p (En.en a)), some (.p (.lst [])), none, none, none, none], []⟩) := by simp [e_lift, e_bnd]
  rw [seq_nx _ _ _ _ e0]
  have e1 : (sAsg (disp .lst (aCons (mVar 1) aNil)) (gN 3)) ⟨[some (.p (rgD l)), some (.p (En.en a)), some (.p (.lst [])), none, none, none, none], []⟩ = some (.nx, rcS l a [] [a] none none []) := by simp [rcS, e_lift, e_bnd]
  rw [seq_nx _ _ _ _ e1, seq_nx _ _ _ _ e]
  refine ret_run _ _ _ _ ?_
  unfold rcS
  generalize F.map (En.en : Ad → D) = fd at *
  generalize rgD l = rd at *
  simp [e_bnd, ho]
end Law.R
namespace Law.R
open Law
open PySem L2 DL
/-! ## the graph as an object -/
def eM (k : Nat) : D := .int (k : Int)
abbrev Us := List (Ad × Nat)
def gfs (iu ic ir : Nat) (rf : DV) (N : Nat) : List (Str × DV) := [(PySem.Str.ofString "ranges", rf), (PySem.Str.ofString "_uses", .o iu), (PySem.Str.ofString "_cells", .p (.int (N : Int))), (PySem.Str.ofString "_by_column", .o ic), (PySem.Str.ofString "_by_row", .o ir)]
def lsO (l : List Nat) : O := .lst ((l.map eM).map .p)
structure GV (C : Addr) (n iu ic ir : Nat) (rf : DV) (N : Nat) (us : Us) (cs rs : List Nat) (M : List O) : Prop where
  i0 : M[n]? = some (.ins C (gfs iu ic ir rf N))
  gu : M[iu]? = some (kvO eM us)
  gc : M[ic]? = some (lsO cs)
  gr : M[ir]? = some (lsO rs)
/-- what the parts say -/
structure GS (g : Rg) (N : Nat) (us : Us) (cs rs : List Nat) : Prop where
  ok : okG g
  nk : okS N
  hN : ∀ x, okX x → (N.testBit (ixK x) = true ↔ x ∈ keysA g)
  uk : keysA us = keysA g
  hu : ∀ x, look us x = (look g x).map maskL
  cl : cs.length = 26
  rl : rs.length = 99
  hc : ∀ (i : Nat) v, cs[i]? = some v → ∀ x, okX x → (v.testBit (ixK x) = true ↔ x ∈ keysA g ∧ ∃ a ∈ rg g x, a.1.1 ≤ i ∧ i ≤ a.2.1)
  hr : ∀ (i : Nat) v, rs[i]? = some v → ∀ x, okX x → (v.testBit (ixK x) = true ↔ x ∈ keysA g ∧ ∃ a ∈ rg g x, a.1.2 ≤ i ∧ i ≤ a.2.2)
theorem str_ne1 : ∀ f ∈ [PySem.Str.ofString "ranges", PySem.Str.ofString "_uses", PySem.Str.ofString "_cells", PySem.Str.ofString "_by_column", PySem.Str.ofString "_by_row"], ∀ m ∈ [PySem.Str.ofString "put", PySem.Str.ofString "remove", PySem.Str.ofString "formulas", PySem.Str.ofString "uses", PySem.Str.ofString "users_of", PySem.Str.ofString "used_formulas", PySem.Str.ofString "reaching", PySem.Str.ofString "reached", PySem.Str.ofString "used_cells", PySem.Str.ofString "formula_set", PySem.Str.ofString "reaching_set", PySem.Str.ofString "with_reaching", PySem.Str.ofString "_users_of"], f ≠ m := by decide +kernel
theorem lk_meth {iu ic ir : Nat} {rf : DV} {N : Nat} {m : Str} (hm : m ∈ [PySem.Str.ofString "put", PySem.Str.ofString "remove", PySem.Str.ofString "formulas", PySem.Str.ofString "uses", PySem.Str.ofString "users_of", PySem.Str.ofString "used_formulas", PySem.Str.ofString "reaching", PySem.Str.ofString "reached", PySem.Str.ofString "used_cells", PySem.Str.ofString "formula_set", PySem.Str.ofString "reaching_set", PySem.Str.ofString "with_reaching", PySem.Str.ofString "_users_of"]) : (gfs iu ic ir rf N).lookup m = none := by
  have h : ∀ f ∈ [PySem.Str.ofString "ranges", PySem.Str.ofString "_uses", PySem.Str.ofString "_cells", PySem.Str.ofString "_by_column", PySem.Str.ofString "_by_row"], (m == f) = false := fun f hf => by
    rw [beq_eq_false_iff_ne]
    exact fun e => str_ne1 f hf m hm e.symm
  unfold gfs
  simp only [List.lookup_cons, h _ (by simp : PySem.Str.ofString "ranges" ∈ _), h _ (by simp : PySem.Str.ofString "_uses" ∈ _), h _ (by simp : PySem.Str.ofString "_cells" ∈ _), h _ (by simp : PySem.Str.ofString "_by_column" ∈ _), h _ (by simp : PySem.Str.ofString "_by_row" ∈ _)]
  rfl
theorem str_b : ((PySem.Str.ofString "_uses" == PySem.Str.ofString "ranges") = false ∧ (PySem.Str.ofString "_cells" == PySem.Str.ofString "ranges") = false ∧ (PySem.Str.ofString "_cells" == PySem.Str.ofString "_uses") = false) ∧ ((PySem.Str.ofString "_by_column" == PySem.Str.ofString "ranges") = false ∧ (PySem.Str.ofString "_by_column" == PySem.Str.ofString "_uses") = false ∧ (PySem.Str.ofString "_by_column" == PySem.Str.ofString "_cells") = false) ∧
   ((PySem.Str.ofString "_by_row" == PySem.Str.ofString "ranges") = false ∧ (PySem.Str.ofString "_by_row" == PySem.Str.ofString "_uses") = false ∧ (PySem.Str.ofString "_by_row" == PySem.Str.ofString "_cells") = false ∧ (PySem.Str.ofString "_by_row" == PySem.Str.ofString "_by_column") = false) := by decide +kernel
section
variable {iu ic ir N : Nat} {rf : DV}
theorem lk_r : (gfs iu ic ir rf N).lookup (PySem.Str.ofString "ranges") = some rf := by unfold gfs; rw [List.lookup_cons, beq_self_eq_true]
theorem lk_u : (gfs iu ic ir rf N).lookup (PySem.Str.ofString "_uses") = some (.o iu) := by
  unfold gfs; rw [List.lookup_cons, str_b.1.1]; dsimp only; rw [List.lookup_cons, beq_self_eq_true]
theorem lk_n : (gfs iu ic ir rf N).lookup (PySem.Str.ofString "_cells") = some (.p (.int (N : Int))) := by
  unfold gfs; rw [List.lookup_cons, str_b.1.2.1]; dsimp only; rw [List.lookup_cons, str_b.1.2.2]; dsimp only; rw [List.lookup_cons, beq_self_eq_true]
theorem lk_c : (gfs iu ic ir rf N).lookup (PySem.Str.ofString "_by_column") = some (.o ic) := by
  unfold gfs; rw [List.lookup_cons, str_b.2.1.1]; dsimp only; rw [List.lookup_cons, str_b.2.1.2.1]; dsimp only; rw [List.lookup_cons, str_b.2.1.2.2]; dsimp only; rw [List.lookup_cons, beq_self_eq_true]
theorem lk_w : (gfs iu ic ir rf N).lookup (PySem.Str.ofString "_by_row") = some (.o ir) := by
  unfold gfs; rw [List.lookup_cons, str_b.2.2.1]; dsimp only; rw [List.lookup_cons, str_b.2.2.2.1]; dsimp only; rw [List.lookup_cons, str_b.2.2.2.2.1]; dsimp only; rw [List.lookup_cons, str_b.2.2.2.2.2]; dsimp only; rw [List.lookup_cons, beq_self_eq_true]
end
/-- a def of kind B that leaves the memory as it is -/
theorem runB_same {k : Nat} {m : SM} {ds : List DV} {M : List O} {d : DV} {l : List (Option DV)} (h : m ⟨slotsOf k ds, M⟩ = some (.rt d, ⟨l, M⟩)) : runB k m ds M = some (.ok d M) := by
  unfold runB
  rw [h]
  dsimp only
  rw [dropM_len rfl]
section
variable {C : Addr} {n iu ic ir N : Nat} {rf : DV} {us : Us} {cs rs : List Nat} {M : List O} {g : Rg}
theorem GV.fr (v : GV C n iu ic ir rf N us cs rs M) {M' : List O} (h0 : M'[n]? = M[n]?) (h1 : M'[iu]? = M[iu]?) (h2 : M'[ic]? = M[ic]?) (h3 : M'[ir]? = M[ir]?) : GV C n iu ic ir rf N us cs rs M' := ⟨h0.trans v.i0, h1.trans v.gu, h2.trans v.gc, h3.trans v.gr⟩
def um (us : Us) (x : Ad) : Nat := (look us x).getD 0
theorem GS.um (h : GS g N us cs rs) (x : Ad) : um us x = maskL (rg g x) := by
  unfold Law.R.um rg
  rw [h.hu]
  cases look g x <;> rfl
theorem look_key {α : Type} {l : List (Ad × α)} {x : Ad} : (look l x).isSome = true ↔ x ∈ keysA l := by
  constructor
  · intro h
    obtain ⟨v, e⟩ := Option.isSome_iff_exists.mp h
    exact List.mem_map.mpr ⟨_, look_some e, rfl⟩
  · intro h
    obtain ⟨v, e⟩ := look_mem h
    rw [e]; rfl
theorem getM_kvO {α : Type} (enc : α → D) {M : List O} {i : Nat} {l : List (Ad × α)} (h : M[i]? = some (kvO enc l)) (x : Ad) : getM M (.o i) (En.en x) = some ((look l x).map fun v => DV.p (enc v)) := by
  rw [getM_T h, keyT_sp, Option.map_some, find_kv]
theorem isDc_kvO {α : Type} (enc : α → D) {M : List O} {i : Nat} {l : List (Ad × α)} (h : M[i]? = some (kvO enc l)) : isDc M (.o i) = true := by
  unfold isDc dcM
  simp only [h, kvO]
  rfl
theorem used_spec (Ps : List Addr) (hC : Ps.getD 0 0 = C) (v : GV C n iu ic ir rf N us cs rs M) (x : Ad) : m_Graph_used_cells Ps [.o n, .p (En.en x)] M = some (.ok (.p (eM (um us x))) M) := by
  unfold m_Graph_used_cells b_Graph_used_cells
  rw [hC]
  refine runB_same (l := slotsOf 2 [.o n, .p (En.en x)]) (ret_run _ _ _ _ ?_)
  have h1 := fld_run C (PySem.Str.ofString "_uses") (mVar 0) ⟨slotsOf 2 [.o n, .p (En.en x)], M⟩ M n _ (.o iu) rfl v.i0 lk_u
  rw [dg2_runO _ _ _ _ M (.o iu) (En.en x) (.p (.int 0)) _ h1 (isDc_kvO eM v.gu) rfl rfl (getM_kvO eM v.gu x)]
  unfold um
  cases look us x <;> rfl
theorem inc_eq (l r : Nat) (xs : List D) : cutD xs (some ((l : Nat) : Int)) (some ((r + 1 : Nat) : Int)) = (xs.drop (min l xs.length)).take (min (r + 1) xs.length - min l xs.length) := by
  unfold cutD
  rw [HT.sIx_nat, HT.sIx_nat]
end
end Law.R
namespace Law.R
open Law
open PySem L2 DL
/-! ## who uses an area -/
def orL (l : List Nat) (N : Nat) : Nat := l.foldl (fun N v => N ||| v) N
theorem orL_bit {k : Nat} : ∀ (l : List Nat) (N : Nat), (orL l N).testBit k = (N.testBit k || l.any fun v => v.testBit k)
  | [], N => by simp [orL]
  | a :: l, N => by
    show (orL l (N ||| a)).testBit k = _
    rw [orL_bit l, Nat.testBit_or, List.any_cons, Bool.or_assoc]
abbrev uS (s0 s1 s2 s3 s4 s5 s6 s7 s8 s9 s10 s11 s12 : Option DV) (M : List O) : S := ⟨[s0, s1, s2, s3, s4, s5, s6, s7, s8, s9, s10, s11, s12], M⟩
theorem uc_loop (s0 s1 s2 s3 s4 s5 s6 s9 s10 s11 s12 : Option DV) (M : List O) : ∀ (l : List Nat) (N : Nat) (s8 : Option DV), ∃ s8', loopS (gN 8) (sAsg (mBin dBor (mVar 7) (mVar 8)) (gN 7)) ((l.map eM).map .p) (uS s0 s1 s2 s3 s4 s5 s6 (some (.p (eM N))) s8 s9 s10 s11 s12 M)
    = some (.nx, uS s0 s1 s2 s3 s4 s5 s6 (some (.p (eM (orL l N)))) s8' s9 s10 s11 s12 M)
  | [], N, s8 => ⟨s8, rfl⟩
  | a :: l, N, s8 => by
    obtain ⟨s8', ih⟩ := uc_loop s0 s1 s2 s3 s4 s5 s6 s9 s10 s11 s12 M l (N ||| a) (some (.p (eM a)))
    refine ⟨s8', ?_⟩
    rw [List.map_cons, List.map_cons]
    refine (DL.loop_step _ _ _ _ _ (uS s0 s1 s2 s3 s4 s5 s6 (some (.p (eM N))) (some (.p (eM a))) s9 s10 s11 s12 M) _ rfl (asg_run _ _ _ _ M _ (bin_run dBor _ _ _ M M (eM N) (eM a) (eM (N ||| a)) rfl rfl (by show some (D.int _) = _; rw [bor_nat]; rfl)) rfl)).trans ih
theorem ur_loop (s0 s1 s2 s3 s4 s5 s6 s7 s10 s11 s12 : Option DV) (M : List O) : ∀ (l : List Nat) (N : Nat) (s8 : Option DV), ∃ s8', loopS (gN 8) (sAsg (mBin dBor (mVar 9) (mVar 8)) (gN 9)) ((l.map eM).map .p) (uS s0 s1 s2 s3 s4 s5 s6 s7 s8 (some (.p (eM N))) s10 s11 s12 M)
    = some (.nx, uS s0 s1 s2 s3 s4 s5 s6 s7 s8' (some (.p (eM (orL l N)))) s10 s11 s12 M)
  | [], N, s8 => ⟨s8, rfl⟩
  | a :: l, N, s8 => by
    obtain ⟨s8', ih⟩ := ur_loop s0 s1 s2 s3 s4 s5 s6 s7 s10 s11 s12 M l (N ||| a) (some (.p (eM a)))
    refine ⟨s8', ?_⟩
    rw [List.map_cons, List.map_cons]
    refine (DL.loop_step _ _ _ _ _ (uS s0 s1 s2 s3 s4 s5 s6 s7 (some (.p (eM a))) (some (.p (eM N))) s10 s11 s12 M) _ rfl (asg_run _ _ _ _ M _ (bin_run dBor _ _ _ M M (eM N) (eM a) (eM (N ||| a)) rfl rfl (by show some (D.int _) = _; rw [bor_nat]; rfl)) rfl)).trans ih
theorem and_ne {A B : Nat} : A &&& B ≠ 0 ↔ ∃ k, A.testBit k = true ∧ B.testBit k = true := by
  constructor
  · intro h
    obtain ⟨i, hi, _⟩ := ex_low h
    rw [Nat.testBit_and, Bool.and_eq_true] at hi
    exact ⟨i, hi⟩
  · rintro ⟨k, h1, h2⟩ h
    have := Nat.testBit_and A B k
    rw [h, h1, h2, Nat.zero_testBit] at this
    cases this
theorem touch_iff {l : List Ar} (hl : gdA l) {a : Ar} (ha : okA a) (ho : ord a) : maskL l &&& maskN a ≠ 0 ↔ ∃ c, has a c = true ∧ hit l c = true := by
  rw [and_ne]
  constructor
  · rintro ⟨k, h1, h2⟩
    rw [maskL_bit hl] at h1
    rw [mask_bit ha ho] at h2
    exact ⟨_, h2, h1⟩
  · rintro ⟨c, h1, h2⟩
    have hc := has_okX ha h1
    exact ⟨ixK c, by rw [maskL_bit hl, cell_ix hc]; exact h2, by rw [mask_bit ha ho, cell_ix hc]; exact h1⟩
noncomputable abbrev ufB (C : Addr) : SM := (sIf (mBin dNe (mBin dBand (mDget (mFld C (PySem.Str.ofString "_uses") (mVar 0)) (mVar 12)) (mVar 10)) (mC (.int 0))) (sAsg (mBin dBor (mVar 11) (mCallA 1 m_bit_of (aCons (mVar 12) aNil))) (gN 11)) sNil)
def ufF (us : Us) (W : Nat) (F : Nat) (x : Ad) : Nat := if um us x &&& W ≠ 0 then F ||| 2 ^ ixK x else F
section
variable {C : Addr} {n iu ic ir N : Nat} {rf : DV} {us : Us} {cs rs : List Nat} {M : List O} {g : Rg}
theorem uf_body (v : GV C n iu ic ir rf N us cs rs M) (s1 s2 s3 s4 s5 s6 s7 s8 s9 : Option DV) (W F : Nat) {x : Ad} (hx : okX x) (hk : x ∈ keysA us) :
    ufB C (uS (some (.o n)) s1 s2 s3 s4 s5 s6 s7 s8 s9 (some (.p (eM W))) (some (.p (eM F))) (some (.p (En.en x))) M) = some (.nx, uS (some (.o n)) s1 s2 s3 s4 s5 s6 s7 s8 s9 (some (.p (eM W))) (some (.p (eM (ufF us W F x)))) (some (.p (En.en x))) M) := by
  obtain ⟨u, hu⟩ := look_mem hk
  have e0 : um us x = u := by unfold um; rw [hu]; rfl
  have h1 := fld_run C (PySem.Str.ofString "_uses") (mVar 0) (uS (some (.o n)) s1 s2 s3 s4 s5 s6 s7 s8 s9 (some (.p (eM W))) (some (.p (eM F))) (some (.p (En.en x))) M) M n _ (.o iu) rfl v.i0 lk_u
  have h2 := dget_run (mFld C (PySem.Str.ofString "_uses") (mVar 0)) (mVar 12) _ M M (.o iu) (.p (eM u)) (En.en x) h1 rfl (by rw [getM_kvO eM v.gu, hu]; rfl)
  have h3 := bin_run dBand _ (mVar 10) _ M M (eM u) (eM W) (eM (u &&& W)) h2 rfl (by show some (D.int _) = _; rw [band_nat]; rfl)
  unfold ufF ufB
  rw [e0]
  by_cases hz : u &&& W = 0
  · rw [if_neg (by omega)]
    have h4 := bin_run dNe _ (mC (.int 0)) _ M M _ (.int 0) (.bl false) h3 rfl (by rw [hz]; rfl)
    rw [sif_f _ _ _ _ _ h4]; rfl
  · rw [if_pos hz]
    have h4 := bin_run dNe _ (mC (.int 0)) _ M M _ (.int 0) (.bl true) h3 rfl (by
      show (eqD (.int ((u &&& W : Nat) : Int)) (.int 0)).map (fun b => D.bl !b) = _
      have : eqD (.int ((u &&& W : Nat) : Int)) (.int 0) = some false := by
        have := eqD_en (((u &&& W : Nat) : Int)) (0 : Int) (by decide)
        rw [show (decide (((u &&& W : Nat) : Int) = 0)) = false from decide_eq_false (by omega)] at this
        exact this
      rw [this]; rfl)
    rw [sif_t _ _ _ _ _ h4]
    exact asg_run _ _ _ _ M _ (bin_run dBor _ _ _ M M (eM F) (eM (2 ^ ixK x)) (eM (F ||| 2 ^ ixK x)) rfl (callA1r m_bit_of (mVar 12) _ M (En.en x) _ rfl (bit_spec hx)) (by show some (D.int _) = _; rw [bor_nat]; rfl)) rfl
theorem uf_loop (v : GV C n iu ic ir rf N us cs rs M) (s1 s2 s3 s4 s5 s6 s7 s8 s9 : Option DV) (W : Nat) : ∀ (L : List Ad) (F : Nat) (s12 : Option DV), (∀ x ∈ L, okX x ∧ x ∈ keysA us) → ∃ s12',
    loopS (gN 12) (ufB C) ((L.map En.en).map .p) (uS (some (.o n)) s1 s2 s3 s4 s5 s6 s7 s8 s9 (some (.p (eM W))) (some (.p (eM F))) s12 M) = some (.nx, uS (some (.o n)) s1 s2 s3 s4 s5 s6 s7 s8 s9 (some (.p (eM W))) (some (.p (eM (L.foldl (ufF us W) F)))) s12' M)
  | [], F, s12, _ => ⟨s12, rfl⟩
  | x :: L, F, s12, h => by
    have hx := h x List.mem_cons_self
    obtain ⟨s12', ih⟩ := uf_loop v s1 s2 s3 s4 s5 s6 s7 s8 s9 W L (ufF us W F x) (some (.p (En.en x))) fun y hy => h y (List.mem_cons_of_mem _ hy)
    refine ⟨s12', ?_⟩
    rw [List.map_cons, List.map_cons]
    exact (DL.loop_step _ _ _ _ _ (uS (some (.o n)) s1 s2 s3 s4 s5 s6 s7 s8 s9 (some (.p (eM W))) (some (.p (eM F))) (some (.p (En.en x))) M) _ rfl (uf_body v s1 s2 s3 s4 s5 s6 s7 s8 s9 W F hx.1 hx.2)).trans ih
theorem uf_bit (us : Us) (W k : Nat) : ∀ (L : List Ad) (F : Nat), (L.foldl (ufF us W) F).testBit k = (F.testBit k || L.any fun x => decide (um us x &&& W ≠ 0) && decide (ixK x = k))
  | [], F => by simp
  | x :: L, F => by
    rw [List.foldl_cons, uf_bit us W k L, List.any_cons, ← Bool.or_assoc]
    congr 1
    unfold ufF
    split
    · rename_i h; rw [Nat.testBit_or, Nat.testBit_two_pow, decide_eq_true h, Bool.true_and]
    · rename_i h; rw [decide_eq_false h, Bool.false_and, Bool.or_false]
theorem cut_mem {l r : Nat} {cs : List Nat} (hr : r < cs.length) (hl : l ≤ r) (v : Nat) : v ∈ (cs.drop (min l cs.length)).take (min (r + 1) cs.length - min l cs.length) ↔ ∃ i, l ≤ i ∧ i ≤ r ∧ cs[i]? = some v := by
  rw [show min l cs.length = l by omega, show min (r + 1) cs.length = r + 1 by omega, List.mem_iff_getElem?]
  constructor
  · rintro ⟨j, hj⟩
    have hjl : j < r + 1 - l := by
      have := (List.getElem?_eq_some_iff.mp hj).1
      rw [List.length_take] at this
      omega
    rw [List.getElem?_take_of_lt hjl, List.getElem?_drop] at hj
    exact ⟨l + j, by omega, by omega, hj⟩
  · rintro ⟨i, h1, h2, h3⟩
    exact ⟨i - l, by rw [List.getElem?_take_of_lt (by omega), List.getElem?_drop, show l + (i - l) = i by omega]; exact h3⟩
end
end Law.R
namespace Law.R
open Law
open PySem L2 DL
section
variable {C : Addr} {n iu ic ir N : Nat} {rf : DV} {us : Us} {cs rs : List Nat} {M : List O} {g : Rg}
/-- who uses an area: the columns and rows leave out nobody -/
theorem near_ok (h : GS g N us cs rs) {a : Ar} (ha : okA a) (ho : ord a) {x : Ad} (hx : okX x) (hk : x ∈ keysA g) (ht : ∃ c, has a c = true ∧ hit (rg g x) c = true) :
    (orL ((cs.drop (min a.1.1.toNat cs.length)).take (min (a.2.1.toNat + 1) cs.length - min a.1.1.toNat cs.length)) 0).testBit (ixK x) = true ∧ (orL ((rs.drop (min a.1.2.toNat rs.length)).take (min (a.2.2.toNat + 1) rs.length - min a.1.2.toNat rs.length)) 0).testBit (ixK x) = true := by
  obtain ⟨c, h1, h2⟩ := ht
  have hc := has_okX ha h1
  rw [has_iff] at h1
  unfold hit at h2
  rw [List.any_eq_true] at h2
  obtain ⟨b, hb, h2⟩ := h2
  rw [has_iff] at h2
  unfold okA at ha
  unfold ord at ho
  unfold okX at hc
  rw [orL_bit, orL_bit, Nat.zero_testBit, Bool.false_or, Bool.false_or, List.any_eq_true, List.any_eq_true]
  have lc := h.cl
  have lr := h.rl
  constructor
  · have hi : c.1.toNat < cs.length := by omega
    refine ⟨cs[c.1.toNat], (cut_mem (by omega) (by omega) _).mpr ⟨c.1.toNat, by omega, by omega, List.getElem?_eq_getElem hi⟩, ?_⟩
    exact (h.hc _ _ (List.getElem?_eq_getElem hi) x hx).mpr ⟨hk, b, hb, by omega, by omega⟩
  · have hi : c.2.toNat < rs.length := by omega
    refine ⟨rs[c.2.toNat], (cut_mem (by omega) (by omega) _).mpr ⟨c.2.toNat, by omega, by omega, List.getElem?_eq_getElem hi⟩, ?_⟩
    exact (h.hr _ _ (List.getElem?_eq_getElem hi) x hx).mpr ⟨hk, b, hb, by omega, by omega⟩
theorem okS_and {A B : Nat} (h : okS B) : okS (A &&& B) := fun j hj => by rw [Nat.testBit_and, h j hj, Bool.and_false]
theorem uo_spec (Ps : List Addr) (hC : Ps.getD 0 0 = C) (v : GV C n iu ic ir rf N us cs rs M) (h : GS g N us cs rs) {a : Ar} (ha : okA a) (ho : ord a) (A : Nat) (hA : okS A) (hs : ∀ x, okX x → A.testBit (ixK x) = true → x ∈ keysA g) :
    ∃ S, m_Graph__users_of Ps [.o n, .p (En.en a), .p (eM A)] M = some (.ok (.p (eM S)) M) ∧ okS S ∧ ∀ x, okX x → (S.testBit (ixK x) = true ↔ A.testBit (ixK x) = true ∧ ∃ c, has a c = true ∧ hit (rg g x) c = true) := by
  obtain ⟨⟨l, t⟩, r, b⟩ := a
  have ha' : 0 ≤ l ∧ 0 ≤ t ∧ r < 26 ∧ b < 99 ∧ l ≤ 26 ∧ t ≤ 99 ∧ -1 ≤ r ∧ -1 ≤ b := ha
  have ho' : l ≤ r ∧ t ≤ b := ho
  have near := fun {x} => near_ok h ha ho (x := x)
  dsimp only at near
  generalize hcc : (cs.drop (min l.toNat cs.length)).take (min (r.toNat + 1) cs.length - min l.toNat cs.length) = cc at near
  generalize hrr : (rs.drop (min t.toNat rs.length)).take (min (b.toNat + 1) rs.length - min t.toNat rs.length) = rr at near
  have el : (l : Int) = ((l.toNat : Nat) : Int) := by omega
  have et : (t : Int) = ((t.toNat : Nat) : Int) := by omega
  have er : (r : Int) + 1 = ((r.toNat + 1 : Nat) : Int) := by omega
  have eb : (b : Int) + 1 = ((b.toNat + 1 : Nat) : Int) := by omega
  have hX : okS (orL cc 0 &&& orL rr 0 &&& A) := okS_and hA
  have hL : ∀ x ∈ bitL (orL cc 0 &&& orL rr 0 &&& A), okX x ∧ x ∈ keysA us := fun x hx => by
    rw [mem_bitL, Nat.testBit_and, Bool.and_eq_true] at hx
    rw [h.uk]
    exact ⟨hx.1, hs x hx.1 hx.2.2⟩
  obtain ⟨s8, lp1⟩ := uc_loop (some (.o n)) (some (.p (En.en (((l, t), r, b) : Ar)))) (some (.p (eM A))) (some (.p (.int l))) (some (.p (.int t))) (some (.p (.int r))) (some (.p (.int b))) none none none none M cc 0 none
  obtain ⟨s8', lp2⟩ := ur_loop (some (.o n)) (some (.p (En.en (((l, t), r, b) : Ar)))) (some (.p (eM A))) (some (.p (.int l))) (some (.p (.int t))) (some (.p (.int r))) (some (.p (.int b))) (some (.p (eM (orL cc 0)))) none none none M rr 0 s8
  obtain ⟨s12, lp3⟩ := uf_loop v (some (.p (En.en (((l, t), r, b) : Ar)))) (some (.p (eM A))) (some (.p (.int l))) (some (.p (.int t))) (some (.p (.int r))) (some (.p (.int b))) (some (.p (eM (orL cc 0)))) s8' (some (.p (eM (orL rr 0)))) (maskN ((l, t), r, b)) (bitL (orL cc 0 &&& orL rr 0 &&& A)) 0 none hL
  refine ⟨(bitL (orL cc 0 &&& orL rr 0 &&& A)).foldl (ufF us (maskN ((l, t), r, b))) 0, ?_, fun j hj => ?_, fun x hx => ?_⟩
  · unfold m_Graph__users_of b_Graph__users_of
    rw [hC]
    refine runB_same (l := (uS (some (.o n)) (some (.p (En.en (((l, t), r, b) : Ar)))) (some (.p (eM A))) (some (.p (.int l))) (some (.p (.int t))) (some (.p (.int r))) (some (.p (.int b))) (some (.p (eM (orL cc 0)))) s8' (some (.p (eM (orL rr 0)))) (some (.p (eM (maskN ((l, t), r, b))))) (some (.p (eM ((bitL (orL cc 0 &&& orL rr 0 &&& A)).foldl (ufF us (maskN ((l, t), r, b))) 0)))) s12 M).l) ?_
    have e1 : (sAsg (mVar 1) (gT 2 (gsCons (gT 2 (gsCons (gN 3) (gsCons (gN 4) gsNil))) (gsCons (gT 2 (gsCons (gN 5) (gsCons (gN 6) gsNil))) gsNil)))) ⟨slotsOf 13 [.o n, .p (En.en (((l, t), r, b) : Ar)), .p (eM A)], M⟩ = some (.nx, uS (some (.o n)) (some (.p (En.en (((l, t), r, b) : Ar)))) (some (.p (eM A))) (some (.p (.int l))) (some (.p (.int t))) (some (.p (.int r))) (some (.p (.int b))) none none none none none none M) := by
      simp [e_lift, e_bnd, en_ar]
    rw [seq_nx _ _ _ _ e1]
    rw [seq_nx _ _ _ (uS (some (.o n)) (some (.p (En.en (((l, t), r, b) : Ar)))) (some (.p (eM A))) (some (.p (.int l))) (some (.p (.int t))) (some (.p (.int r))) (some (.p (.int b))) (some (.p (eM 0))) none none none none none M) rfl]
    have f1 := slO_run (mFld C (PySem.Str.ofString "_by_column") (mVar 0)) (pSome (mVar 3)) (pSome (mBin dAdd (mVar 5) (mC (.int 1)))) (uS (some (.o n)) (some (.p (En.en (((l, t), r, b) : Ar)))) (some (.p (eM A))) (some (.p (.int l))) (some (.p (.int t))) (some (.p (.int r))) (some (.p (.int b))) (some (.p (eM 0))) none none none none none M) M M M ic (cs.map eM) (some l) (some (r + 1)) (fld_run C _ (mVar 0) _ M n _ (.o ic) rfl v.i0 lk_c) rfl rfl v.gc
    have ec : cutD (cs.map eM) (some l) (some (r + 1)) = cc.map eM := by
      rw [el, er, inc_eq, ← hcc, List.length_map, List.map_take, List.map_drop]
    rw [ec] at f1
    have i1 : mItD itL (mSlO (mFld C (PySem.Str.ofString "_by_column") (mVar 0)) (pSome (mVar 3)) (pSome (mBin dAdd (mVar 5) (mC (.int 1))))) (uS (some (.o n)) (some (.p (En.en (((l, t), r, b) : Ar)))) (some (.p (eM A))) (some (.p (.int l))) (some (.p (.int t))) (some (.p (.int r))) (some (.p (.int b))) (some (.p (eM 0))) none none none none none M) = some (.ok ((cc.map eM).map .p) M) := by
      rw [mItD, e_bnd, f1]; rfl
    rw [seq_nx _ _ _ _ (for_run _ _ _ _ _ _ _ i1 lp1)]
    rw [seq_nx _ _ _ (uS (some (.o n)) (some (.p (En.en (((l, t), r, b) : Ar)))) (some (.p (eM A))) (some (.p (.int l))) (some (.p (.int t))) (some (.p (.int r))) (some (.p (.int b))) (some (.p (eM (orL cc 0)))) s8 (some (.p (eM 0))) none none none M) rfl]
    have f2 := slO_run (mFld C (PySem.Str.ofString "_by_row") (mVar 0)) (pSome (mVar 4)) (pSome (mBin dAdd (mVar 6) (mC (.int 1)))) (uS (some (.o n)) (some (.p (En.en (((l, t), r, b) : Ar)))) (some (.p (eM A))) (some (.p (.int l))) (some (.p (.int t))) (some (.p (.int r))) (some (.p (.int b))) (some (.p (eM (orL cc 0)))) s8 (some (.p (eM 0))) none none none M) M M M ir (rs.map eM) (some t) (some (b + 1)) (fld_run C _ (mVar 0) _ M n _ (.o ir) rfl v.i0 lk_w) rfl rfl v.gr
    have er2 : cutD (rs.map eM) (some t) (some (b + 1)) = rr.map eM := by
      rw [et, eb, inc_eq, ← hrr, List.length_map, List.map_take, List.map_drop]
    rw [er2] at f2
    have i2 : mItD itL (mSlO (mFld C (PySem.Str.ofString "_by_row") (mVar 0)) (pSome (mVar 4)) (pSome (mBin dAdd (mVar 6) (mC (.int 1))))) (uS (some (.o n)) (some (.p (En.en (((l, t), r, b) : Ar)))) (some (.p (eM A))) (some (.p (.int l))) (some (.p (.int t))) (some (.p (.int r))) (some (.p (.int b))) (some (.p (eM (orL cc 0)))) s8 (some (.p (eM 0))) none none none M) = some (.ok ((rr.map eM).map .p) M) := by
      rw [mItD, e_bnd, f2]; rfl
    rw [seq_nx _ _ _ _ (for_run _ _ _ _ _ _ _ i2 lp2)]
    rw [seq_nx _ _ _ (uS (some (.o n)) (some (.p (En.en (((l, t), r, b) : Ar)))) (some (.p (eM A))) (some (.p (.int l))) (some (.p (.int t))) (some (.p (.int r))) (some (.p (.int b))) (some (.p (eM (orL cc 0)))) s8' (some (.p (eM (orL rr 0)))) (some (.p (eM (maskN ((l, t), r, b))))) none none M) (asg_run _ _ _ _ M _ (callA1r m_mask_of (mVar 1) _ M _ _ rfl (mask_spec ha ho)) rfl)]
    rw [seq_nx _ _ _ (uS (some (.o n)) (some (.p (En.en (((l, t), r, b) : Ar)))) (some (.p (eM A))) (some (.p (.int l))) (some (.p (.int t))) (some (.p (.int r))) (some (.p (.int b))) (some (.p (eM (orL cc 0)))) s8' (some (.p (eM (orL rr 0)))) (some (.p (eM (maskN ((l, t), r, b))))) (some (.p (eM 0))) none M) rfl]
    have f3 := callA1r m_cells_in (mBin dBand (mBin dBand (mVar 7) (mVar 9)) (mVar 2)) (uS (some (.o n)) (some (.p (En.en (((l, t), r, b) : Ar)))) (some (.p (eM A))) (some (.p (.int l))) (some (.p (.int t))) (some (.p (.int r))) (some (.p (.int b))) (some (.p (eM (orL cc 0)))) s8' (some (.p (eM (orL rr 0)))) (some (.p (eM (maskN ((l, t), r, b))))) (some (.p (eM 0))) none M) M _ _
      (bin_run dBand _ _ _ M M (eM (orL cc 0 &&& orL rr 0)) (eM A) (eM (orL cc 0 &&& orL rr 0 &&& A)) (bin_run dBand _ _ _ M M (eM (orL cc 0)) (eM (orL rr 0)) (eM (orL cc 0 &&& orL rr 0)) rfl rfl (by show some (D.int _) = _; rw [band_nat]; rfl)) rfl (by show some (D.int _) = _; rw [band_nat]; rfl)) (cells_in_spec hX)
    have i3 : mItD itL (mCallA 1 m_cells_in (aCons (mBin dBand (mBin dBand (mVar 7) (mVar 9)) (mVar 2)) aNil)) (uS (some (.o n)) (some (.p (En.en (((l, t), r, b) : Ar)))) (some (.p (eM A))) (some (.p (.int l))) (some (.p (.int t))) (some (.p (.int r))) (some (.p (.int b))) (some (.p (eM (orL cc 0)))) s8' (some (.p (eM (orL rr 0)))) (some (.p (eM (maskN ((l, t), r, b))))) (some (.p (eM 0))) none M) = some (.ok (((bitL (orL cc 0 &&& orL rr 0 &&& A)).map En.en).map .p) M) := by
      rw [mItD, e_bnd, f3]; rfl
    rw [seq_nx _ _ _ _ (for_run _ _ _ _ _ _ _ i3 lp3)]
    rfl
  · rw [uf_bit, Nat.zero_testBit, Bool.false_or]
    cases e : (bitL (orL cc 0 &&& orL rr 0 &&& A)).any fun x => decide (um us x &&& maskN ((l, t), r, b) ≠ 0) && decide (ixK x = j) with
    | false => rfl
    | true =>
      rw [List.any_eq_true] at e
      obtain ⟨x, hx, e⟩ := e
      rw [Bool.and_eq_true, decide_eq_true_eq, decide_eq_true_eq] at e
      have := ix_lt (hL x hx).1
      omega
  · rw [uf_bit, Nat.zero_testBit, Bool.false_or, List.any_eq_true]
    constructor
    · rintro ⟨y, hy, e⟩
      rw [Bool.and_eq_true, decide_eq_true_eq, decide_eq_true_eq] at e
      have hy' := hL y hy
      obtain rfl := ix_inj hy'.1 hx e.2
      rw [mem_bitL, Nat.testBit_and, Bool.and_eq_true] at hy
      rw [h.um y, touch_iff (h.ok.gd y) ha ho] at e
      exact ⟨hy.2.2, e.1⟩
    · rintro ⟨h1, h2⟩
      have hk := hs x hx h1
      refine ⟨x, ?_, ?_⟩
      · rw [mem_bitL, Nat.testBit_and, Nat.testBit_and, Bool.and_eq_true, Bool.and_eq_true]
        have := near hx hk h2
        exact ⟨hx, ⟨this.1, this.2⟩, h1⟩
      · rw [Bool.and_eq_true, decide_eq_true_eq, decide_eq_true_eq, h.um x, touch_iff (h.ok.gd x) ha ho]
        exact ⟨h2, rfl⟩
end
end Law.R
namespace Law.R
open Law
open PySem L2 DL
theorem countP_lt {p q : Nat → Bool} : ∀ {l : List Nat}, (∀ k ∈ l, p k = true → q k = true) → ∀ {j : Nat}, j ∈ l → q j = true → p j = false → l.countP p < l.countP q
  | [], _, j, hj, _, _ => by cases hj
  | a :: l, h, j, hj, h1, h2 => by
    have hl : l.countP p ≤ l.countP q := List.countP_mono_left fun k hk => h k (List.mem_cons_of_mem _ hk)
    rw [List.countP_cons, List.countP_cons]
    rcases List.mem_cons.mp hj with rfl | hj
    · rw [h1, h2]; simp; omega
    · have := countP_lt (fun k hk => h k (List.mem_cons_of_mem _ hk)) hj h1 h2
      have h3 := h a List.mem_cons_self
      cases ep : p a with
      | false => simp; omega
      | true => rw [h3 ep]; simp; omega
/-- the addresses that come to P over uses -/
inductive CLo (g : Rg) (P : Ad → Prop) : Ad → Prop
  | base {x : Ad} : P x → CLo g P x
  | step {x y : Ad} : x ∈ keysA g → CLo g P y → hit (rg g x) y = true → CLo g P x
theorem has_one {x c : Ad} : has (x, x) c = true ↔ c = x := by
  rw [has_iff]
  obtain ⟨a, b⟩ := x; obtain ⟨d, e⟩ := c
  dsimp only
  rw [Prod.mk.injEq]
  omega
theorem one_ok {x : Ad} (h : okX x) : okA (x, x) ∧ ord (x, x) := by
  unfold okX at h
  unfold okA ord
  dsimp only
  omega
theorem okS_or {A B : Nat} (h : okS A) (h2 : okS B) : okS (A ||| B) := fun j hj => by rw [Nat.testBit_or, h j hj, h2 j hj]; rfl
theorem okS_sub {A B : Nat} (h : okS A) : okS (A - (A &&& B)) := fun j hj => by rw [bit_sub, h j hj]; rfl
/-- what is not yet done with -/
def todo (F W : Nat) : Nat := (List.range 2574).countP fun k => !(F.testBit k && !W.testBit k)
theorem todo_le (F W : Nat) : todo F W ≤ 2574 := by
  unfold todo
  have := List.countP_le_length (p := fun k => !(F.testBit k && !W.testBit k)) (l := List.range 2574)
  rwa [List.length_range] at this
theorem todo_lt {F W S i : Nat} (hi : i < 2574) (hW : W.testBit i = true) (hF : F.testBit i = true) (hS : ∀ k, S.testBit k = true → F.testBit k = false) : todo (F ||| S) (W - (W &&& 2 ^ i) ||| S) < todo F W := by
  refine countP_lt (j := i) (fun k _ h => ?_) (List.mem_range.mpr hi) ?_ ?_
  · rw [Nat.testBit_or, Nat.testBit_or, clr_bit] at h
    cases hf : F.testBit k with
    | false => rfl
    | true =>
      have hs : S.testBit k = false := by
        cases e : S.testBit k with
        | false => rfl
        | true => rw [hS k e] at hf; cases hf
      rw [hf, hs] at h
      cases hw : W.testBit k with
      | true => rfl
      | false => rw [hw] at h; simp at h
  · rw [hF, hW]; rfl
  · rw [Nat.testBit_or, Nat.testBit_or, clr_bit, hF, hW]
    have hs : S.testBit i = false := by
      cases e : S.testBit i with
      | false => rfl
      | true => rw [hS i e] at hF; cases hF
    rw [hs]; simp
noncomputable abbrev wrB (C : Addr) (f : List DV → List O → Option (Rs DV)) : SM := (sSeq (sAsg (mCallA 1 m_first_in (aCons (mVar 3) aNil)) (gN 4))
  (sSeq (sAsg (mMeth C (PySem.Str.ofString "_users_of") 2 f (mVar 0) (aCons (disp .tup (aCons (mVar 4) (aCons (mVar 4) aNil))) (aCons (mBin dBand (mVar 2) (mUn dInv (mVar 1))) aNil))) (gN 5))
  (sSeq (sAsg (mBin dBor (mVar 1) (mVar 5)) (gN 1))
  (sAsg (mBin dBor (mBin dBxor (mVar 3) (mCallA 1 m_bit_of (aCons (mVar 4) aNil))) (mVar 5)) (gN 3)))))
section
variable {C : Addr} {n iu ic ir N : Nat} {rf : DV} {us : Us} {cs rs : List Nat} {M : List O} {g : Rg}
abbrev wS (n : Nat) (F N W : Nat) (v4 v5 : Option DV) (M : List O) : S := ⟨[some (.o n), some (.p (eM F)), some (.p (eM N)), some (.p (eM W)), v4, v5], M⟩
theorem wr_turn (v : GV C n iu ic ir rf N us cs rs M) (f : List DV → List O → Option (Rs DV)) (F W S i : Nat) (hi : i < 2574) (i1 : W.testBit i = true) (i2 : ∀ k, k < i → W.testBit k = false)
    (hf : f [.o n, .p (En.en ((cellK i, cellK i) : Ar)), .p (eM (N - (N &&& F)))] M = some (.ok (.p (eM S)) M)) (v4 v5 : Option DV) :
    wrB C f (wS n F N W v4 v5 M) = some (.nx, wS n (F ||| S) N (W - (W &&& 2 ^ i) ||| S) (some (.p (En.en (cellK i)))) (some (.p (eM S))) M) := by
  unfold wrB
  rw [seq_nx _ _ _ (wS n F N W (some (.p (En.en (cellK i)))) v5 M) (asg_run _ _ _ _ M _ (callA1r m_first_in (mVar 3) _ M (eM W) _ rfl (first_spec i1 i2)) rfl)]
  have e2 : (disp .tup (aCons (mVar 4) (aCons (mVar 4) aNil))) (wS n F N W (some (.p (En.en (cellK i)))) v5 M) = some (.ok (.p (En.en ((cellK i, cellK i) : Ar))) M) := by
    simp [wS, e_bnd]
    rfl
  have e3 : (mBin dBand (mVar 2) (mUn dInv (mVar 1))) (wS n F N W (some (.p (En.en (cellK i)))) v5 M) = some (.ok (.p (eM (N - (N &&& F)))) M) := by
    have z : dBand (eM N) (.int (Builtin.bitNot (F : Int))) = some (eM (N - (N &&& F))) := by
      show some (D.int _) = _
      rw [bandn_nat]; rfl
    exact bin_run dBand _ _ _ M M (eM N) (.int (Builtin.bitNot (F : Int))) _ rfl rfl z
  have e4 := meth_run C (PySem.Str.ofString "_users_of") 2 f (mVar 0) _ (wS n F N W (some (.p (En.en (cellK i)))) v5 M) M M n _ _ rfl v.i0 (lk_meth (by simp)) (aCons_run _ _ _ M M _ _ e2 (aCons_run _ aNil _ M M _ [] e3 rfl)) rfl
  rw [hf] at e4
  rw [seq_nx _ _ _ (wS n F N W (some (.p (En.en (cellK i)))) (some (.p (eM S))) M) (asg_run _ _ _ _ M _ e4 rfl)]
  rw [seq_nx _ _ _ (wS n (F ||| S) N W (some (.p (En.en (cellK i)))) (some (.p (eM S))) M) (asg_run _ _ _ _ M _ (bin_run dBor _ _ _ M M (eM F) (eM S) (eM (F ||| S)) rfl rfl (by show some (D.int _) = _; rw [bor_nat]; rfl)) rfl)]
  have b1 := bit_spec (okX_cell hi)
  rw [ix_cell] at b1
  exact asg_run _ _ _ _ M _ (bin_run dBor _ _ _ M M (eM (W - (W &&& 2 ^ i))) (eM S) _ (bin_run dBxor _ _ _ M M (eM W) (eM (2 ^ i)) _ rfl (callA1r m_bit_of (mVar 4) _ M _ _ rfl b1) (xor_bit i1)) rfl (by show some (D.int _) = _; rw [bor_nat]; rfl)) rfl
theorem wr_spec (Ps : List Addr) (hC : Ps.getD 0 0 = C) (v : GV C n iu ic ir rf N us cs rs M) (h : GS g N us cs rs) (F0 : Nat) (h0 : okS F0) (hk : ∀ x, okX x → F0.testBit (ixK x) = true → x ∈ keysA g) :
    ∃ S, m_Graph_with_reaching Ps [.o n, .p (eM F0), .p (eM N)] M = some (.ok (.p (eM S)) M) ∧ okS S ∧ ∀ x, okX x → (S.testBit (ixK x) = true ↔ CLo g (fun y => okX y ∧ F0.testBit (ixK y) = true) x) := by
  have wl := while_ex (c := mBin dNe (mVar 3) (mC (.int 0))) (b := wrB C (m_Graph__users_of Ps))
    (J := fun k s => ∃ (F W : Nat) (v4 v5 : Option DV), k = todo F W ∧ s = wS n F N W v4 v5 M ∧ okS F ∧ (∀ j, W.testBit j = true → F.testBit j = true) ∧ (∀ x, okX x → F.testBit (ixK x) = true → x ∈ keysA g ∧ CLo g (fun y => okX y ∧ F0.testBit (ixK y) = true) x) ∧ (∀ x, okX x → F0.testBit (ixK x) = true → F.testBit (ixK x) = true) ∧
      (∀ y, okX y → F.testBit (ixK y) = true → W.testBit (ixK y) = false → ∀ x, x ∈ keysA g → hit (rg g x) y = true → F.testBit (ixK x) = true))
    (E := fun s => ∃ (F : Nat) (v4 v5 : Option DV), s = wS n F N 0 v4 v5 M ∧ okS F ∧ ∀ x, okX x → (F.testBit (ixK x) = true ↔ CLo g (fun y => okX y ∧ F0.testBit (ixK y) = true) x)) (fun k s hj => by
      obtain ⟨F, W, v4, v5, rfl, rfl, oF, sub, so, ba, cl⟩ := hj
      by_cases hz : W = 0
      · subst hz
        refine .inl ⟨by simp [wS, eM, e_bnd], F, v4, v5, rfl, oF, fun x hx => ⟨fun hb => (so x hx hb).2, fun hb => ?_⟩⟩
        have : ∀ z, CLo g (fun y => okX y ∧ F0.testBit (ixK y) = true) z → okX z → F.testBit (ixK z) = true := fun z hz => by
          induction hz with
          | base hp => exact fun hx => ba _ hx hp.2
          | step h1 h2 h3 ih =>
            intro hx
            have oy := hit_okX (h.ok.gd _) h3
            exact cl _ oy (ih oy) (Nat.zero_testBit _) _ h1 h3
        exact this x hb hx
      · obtain ⟨i, i1, i2⟩ := ex_low hz
        have hi : i < 2574 := by
          refine Nat.lt_of_not_le fun hge => ?_
          have := sub i i1
          rw [oF i hge] at this; cases this
        have ox := okX_cell hi
        obtain ⟨S, e, oS, hS⟩ := uo_spec Ps hC v h (one_ok ox).1 (one_ok ox).2 (N - (N &&& F)) (okS_sub h.nk) fun x hx hb => by
          rw [bit_sub, Bool.and_eq_true] at hb
          exact (h.hN x hx).mp hb.1
        have hS2 : ∀ x, okX x → (S.testBit (ixK x) = true ↔ x ∈ keysA g ∧ F.testBit (ixK x) = false ∧ hit (rg g x) (cellK i) = true) := fun x hx => by
          rw [hS x hx, bit_sub, Bool.and_eq_true, h.hN x hx, Bool.not_eq_true']
          constructor
          · rintro ⟨⟨a1, a2⟩, c, a3, a4⟩
            rw [has_one] at a3
            subst a3
            exact ⟨a1, a2, a4⟩
          · rintro ⟨a1, a2, a3⟩
            exact ⟨⟨a1, a2⟩, cellK i, has_one.mpr rfl, a3⟩
        have hS3 : ∀ k, S.testBit k = true → F.testBit k = false := fun k hk => by
          have hlt : k < 2574 := by
            refine Nat.lt_of_not_le fun hge => ?_
            rw [oS k hge] at hk; cases hk
          have := (hS2 (cellK k) (okX_cell hlt)).mp (by rw [ix_cell]; exact hk)
          rw [ix_cell] at this
          exact this.2.1
        refine .inr ⟨?_, _, _, todo_lt hi i1 (sub i i1) hS3, wr_turn v _ F W S i hi i1 i2 e v4 v5, F ||| S, W - (W &&& 2 ^ i) ||| S, _, _, rfl, rfl, okS_or oF oS, fun j hj => ?_, fun x hx hb => ?_, fun x hx hb => ?_, fun y hy hb hw x hx hh => ?_⟩
        · simp [wS, eM, e_bnd]; exact hz
        · rw [Nat.testBit_or, Bool.or_eq_true, clr_bit, Bool.and_eq_true] at hj
          rw [Nat.testBit_or, Bool.or_eq_true]
          exact hj.imp (fun q => sub j q.1) id
        · rw [Nat.testBit_or, Bool.or_eq_true] at hb
          rcases hb with hb | hb
          · exact so x hx hb
          · have q := (hS2 x hx).mp hb
            refine ⟨q.1, .step q.1 (so (cellK i) ox (by rw [ix_cell]; exact sub i i1)).2 q.2.2⟩
        · rw [Nat.testBit_or, ba x hx hb]; rfl
        · rw [Nat.testBit_or, Bool.or_eq_false_iff, clr_bit] at hw
          rw [Nat.testBit_or, Bool.or_eq_true, hw.2] at hb
          have hb : F.testBit (ixK y) = true := by rcases hb with q | q; exact q; cases q
          have ox2 := h.ok.xk x hx
          rw [Nat.testBit_or, Bool.or_eq_true]
          by_cases hyi : i = ixK y
          · have ey : cellK i = y := by rw [hyi, cell_ix hy]
            cases hf : F.testBit (ixK x) with
            | true => exact .inl rfl
            | false => exact .inr ((hS2 x ox2).mpr ⟨hx, hf, by rw [ey]; exact hh⟩)
          · rw [decide_eq_false hyi] at hw
            exact .inl (cl y hy hb (by simpa using hw.1) x hx hh))
    3000 _ (wS n F0 N F0 none none M) (by have := todo_le F0 F0; omega) ⟨F0, F0, none, none, rfl, rfl, h0, fun _ q => q, fun x hx hb => ⟨hk x hx hb, .base ⟨hx, hb⟩⟩, fun _ _ q => q, fun y _ h1 h2 => by rw [h1] at h2; cases h2⟩
  obtain ⟨s', e, F, v4, v5, rfl, oF, hF⟩ := wl
  refine ⟨F, ?_, oF, hF⟩
  unfold m_Graph_with_reaching b_Graph_with_reaching
  rw [hC]
  refine runB_same (l := (wS n F N 0 v4 v5 M).l) ?_
  rw [seq_nx _ _ _ (wS n F0 N F0 none none M) rfl, seq_nx _ _ _ _ e]
  rfl
end
end Law.R
namespace Law.R
open Law
open PySem L2 DL
theorem inside_spec (a : Ar) (x : Ad) : m_inside [En.en x, En.en a] = some (.ok (.bl (has a x))) := by
  obtain ⟨⟨p, q⟩, r, s⟩ := a; obtain ⟨u, v⟩ := x
  apply wpA.eq
  unfold has
  by_cases h1 : p ≤ u <;> by_cases h2 : u ≤ r <;> by_cases h3 : q ≤ v <;> by_cases h4 : v ≤ s <;>
  simp [m_inside, b_inside, en_ar, en_ad, h1, h2, h3, h4]
theorem any_bl {α : Type} (q : α → Bool) : ∀ l : List α, dAny (.lst (l.map fun a => .bl (q a))) = some (.bl (l.any q)) := by
  have : ∀ l : List α, allBl (l.map fun a => D.bl (q a)) = some (l.map q) := fun l => by
    induction l with
    | nil => rfl
    | cons a l ih =>
      show (allBl (l.map fun a => D.bl (q a))).map (q a :: ·) = _
      rw [ih]; rfl
  intro l
  show (allBl _).map _ = _
  rw [this, Option.map_some, List.any_map]
  rfl
def touch (g : Rg) (areas : List Ar) (x : Ad) : Prop := x ∈ keysA g ∧ ∃ a ∈ areas, ∃ c, has a c = true ∧ hit (rg g x) c = true
noncomputable abbrev rhB (C : Addr) (f : List DV → List O → Option (Rs DV)) : SM := (sAsg (mBin dBor (mVar 2) (mMeth C (PySem.Str.ofString "_users_of") 2 f (mVar 0) (aCons (mVar 3) (aCons (mBin dBand (mFld C (PySem.Str.ofString "_cells") (mVar 0)) (mUn dInv (mVar 2))) aNil)))) (gN 2))
section
variable {C : Addr} {n iu ic ir N : Nat} {rf : DV} {us : Us} {cs rs : List Nat} {M : List O} {g : Rg}
abbrev hS (n : Nat) (AD : D) (F : Nat) (v3 : Option DV) (M : List O) : S := ⟨[some (.o n), some (.p AD), some (.p (eM F)), v3], M⟩
theorem rh_loop (Ps : List Addr) (hC : Ps.getD 0 0 = C) (v : GV C n iu ic ir rf N us cs rs M) (h : GS g N us cs rs) (AD : D) : ∀ (areas : List Ar) (F : Nat) (v3 : Option DV), gdA areas → okS F → (∀ x, okX x → F.testBit (ixK x) = true → x ∈ keysA g) →
    ∃ F' v3', loopS (gN 3) (rhB C (m_Graph__users_of Ps)) ((areas.map En.en).map .p) (hS n AD F v3 M) = some (.nx, hS n AD F' v3' M) ∧ okS F' ∧ ∀ x, okX x → (F'.testBit (ixK x) = true ↔ F.testBit (ixK x) = true ∨ touch g areas x)
  | [], F, v3, _, oF, _ => ⟨F, v3, rfl, oF, fun x _ => ⟨.inl, fun q => q.elim id fun ⟨_, a, ha, _⟩ => by cases ha⟩⟩
  | a :: areas, F, v3, hg, oF, hk => by
    have ha := hg a List.mem_cons_self
    obtain ⟨S, e, oS, hS⟩ := uo_spec Ps hC v h ha.1 ha.2 (N - (N &&& F)) (okS_sub h.nk) fun x hx hb => by
      rw [bit_sub, Bool.and_eq_true] at hb
      exact (h.hN x hx).mp hb.1
    have hS2 : ∀ x, okX x → (S.testBit (ixK x) = true ↔ x ∈ keysA g ∧ F.testBit (ixK x) = false ∧ ∃ c, has a c = true ∧ hit (rg g x) c = true) := fun x hx => by
      rw [hS x hx, bit_sub, Bool.and_eq_true, h.hN x hx, Bool.not_eq_true', and_assoc]
    obtain ⟨F', v3', ih, oF', hF'⟩ := rh_loop Ps hC v h AD areas (F ||| S) (some (.p (En.en a))) (fun b hb => hg b (List.mem_cons_of_mem _ hb)) (okS_or oF oS) fun x hx hb => by
      rw [Nat.testBit_or, Bool.or_eq_true] at hb
      exact hb.elim (hk x hx) fun q => ((hS2 x hx).mp q).1
    refine ⟨F', v3', ?_, oF', fun x hx => ?_⟩
    · rw [List.map_cons, List.map_cons]
      refine (DL.loop_step _ _ _ _ _ (Law.R.hS n AD F (some (.p (En.en a))) M) (Law.R.hS n AD (F ||| S) (some (.p (En.en a))) M) rfl ?_).trans ih
      have e3 : (mBin dBand (mFld C (PySem.Str.ofString "_cells") (mVar 0)) (mUn dInv (mVar 2))) (Law.R.hS n AD F (some (.p (En.en a))) M) = some (.ok (.p (eM (N - (N &&& F)))) M) := by
        have z : dBand (eM N) (.int (Builtin.bitNot (F : Int))) = some (eM (N - (N &&& F))) := by
          show some (D.int _) = _
          rw [bandn_nat]; rfl
        exact bin_run dBand _ _ _ M M (eM N) (.int (Builtin.bitNot (F : Int))) _ (fld_run C _ (mVar 0) _ M n _ _ rfl v.i0 lk_n) rfl z
      have e4 := meth_run C (PySem.Str.ofString "_users_of") 2 (m_Graph__users_of Ps) (mVar 0) _ (Law.R.hS n AD F (some (.p (En.en a))) M) M M n _ _ rfl v.i0 (lk_meth (by simp)) (aCons_run (mVar 3) _ _ M M _ _ rfl (aCons_run _ aNil _ M M _ [] e3 rfl)) rfl
      rw [e] at e4
      exact asg_run _ _ _ _ M _ (bin_run dBor _ _ _ M M (eM F) (eM S) (eM (F ||| S)) rfl e4 (by show some (D.int _) = _; rw [bor_nat]; rfl)) rfl
    · rw [hF' x hx, Nat.testBit_or, Bool.or_eq_true, hS2 x hx]
      constructor
      · rintro ((q | ⟨q1, _, c, q2⟩) | ⟨q1, b, hb, q2⟩)
        · exact .inl q
        · exact .inr ⟨q1, a, List.mem_cons_self, c, q2⟩
        · exact .inr ⟨q1, b, List.mem_cons_of_mem _ hb, q2⟩
      · rintro (q | ⟨q1, b, hb, c, q2⟩)
        · exact .inl (.inl q)
        · rcases List.mem_cons.mp hb with rfl | hb
          · cases hf : F.testBit (ixK x) with
            | true => exact .inl (.inl rfl)
            | false => exact .inl (.inr ⟨q1, rfl, c, q2⟩)
          · exact .inr ⟨q1, b, hb, c, q2⟩
theorem reach_spec (Ps : List Addr) (hC : Ps.getD 0 0 = C) (v : GV C n iu ic ir rf N us cs rs M) (h : GS g N us cs rs) {areas : List Ar} (hg : gdA areas) :
    ∃ S, m_Graph_reaching Ps [.o n, .p (.lst (areas.map En.en))] M = some (.ok (.p (.lst ((bitL S).map En.en))) M) ∧ ∀ x, okX x → (S.testBit (ixK x) = true ↔ CLo g (touch g areas) x) := by
  obtain ⟨F, v3, lp, oF, hF⟩ := rh_loop Ps hC v h (.lst (areas.map En.en)) areas 0 none hg (fun j _ => Nat.zero_testBit _) fun x _ hb => by rw [Nat.zero_testBit] at hb; cases hb
  have hF2 : ∀ x, okX x → (F.testBit (ixK x) = true ↔ touch g areas x) := fun x hx => by
    rw [hF x hx, Nat.zero_testBit]; simp
  obtain ⟨S, e, oS, hS⟩ := wr_spec Ps hC v h F oF fun x hx hb => ((hF2 x hx).mp hb).1
  refine ⟨S, ?_, fun x hx => ?_⟩
  · unfold m_Graph_reaching b_Graph_reaching
    rw [hC]
    refine runB_same (l := (Law.R.hS n (.lst (areas.map En.en)) F v3 M).l) ?_
    rw [seq_nx _ _ _ (Law.R.hS n (.lst (areas.map En.en)) 0 none M) rfl]
    have it : mItD itL (mVar 1) (Law.R.hS n (.lst (areas.map En.en)) 0 none M) = some (.ok ((areas.map En.en).map .p) M) := rfl
    rw [seq_nx _ _ _ _ (for_run _ _ _ _ _ _ _ it lp)]
    refine ret_run _ _ _ _ ?_
    have e4 := meth_run C (PySem.Str.ofString "with_reaching") 2 (m_Graph_with_reaching Ps) (mVar 0) (aCons (mVar 2) (aCons (mFld C (PySem.Str.ofString "_cells") (mVar 0)) aNil)) (Law.R.hS n (.lst (areas.map En.en)) F v3 M) M M n _ _ rfl v.i0 (lk_meth (by simp)) (aCons_run (mVar 2) _ _ M M _ _ rfl (aCons_run _ aNil _ M M _ [] (fld_run C _ (mVar 0) _ M n _ _ rfl v.i0 lk_n) rfl)) rfl
    rw [show (DV.p (D.int (N : Int))) = .p (eM N) from rfl, e] at e4
    exact callA1r m_cells_in _ _ M _ _ e4 (cells_in_spec oS)
  · rw [hS x hx]
    constructor
    · intro q
      have : ∀ z, CLo g (fun y => okX y ∧ F.testBit (ixK y) = true) z → CLo g (touch g areas) z := fun z hz => by
        induction hz with
        | base hp => exact .base ((hF2 _ hp.1).mp hp.2)
        | step h1 _ h3 ih => exact .step h1 ih h3
      exact this x q
    · intro q
      have : ∀ z, CLo g (touch g areas) z → CLo g (fun y => okX y ∧ F.testBit (ixK y) = true) z := fun z hz => by
        induction hz with
        | base hp => exact .base ⟨h.ok.xk _ hp.1, (hF2 _ (h.ok.xk _ hp.1)).mpr hp⟩
        | step h1 _ h3 ih => exact .step h1 ih h3
      exact this x q
theorem usersOf_spec (Ps : List Addr) (hC : Ps.getD 0 0 = C) (v : GV C n iu ic ir rf N us cs rs M) (h : GS g N us cs rs) {a : Ar} (ha : okA a) (ho : ord a) :
    ∃ S, m_Graph_users_of Ps [.o n, .p (En.en a)] M = some (.ok (.p (.lst ((bitL S).map En.en))) M) ∧ ∀ x, okX x → (S.testBit (ixK x) = true ↔ x ∈ keysA g ∧ ∃ c, has a c = true ∧ hit (rg g x) c = true) := by
  obtain ⟨S, e, oS, hS⟩ := uo_spec Ps hC v h ha ho N h.nk fun x hx hb => (h.hN x hx).mp hb
  refine ⟨S, ?_, fun x hx => by rw [hS x hx, h.hN x hx]⟩
  unfold m_Graph_users_of b_Graph_users_of
  rw [hC]
  refine runB_same (l := slotsOf 2 [.o n, .p (En.en a)]) (ret_run _ _ _ _ ?_)
  have e4 := meth_run C (PySem.Str.ofString "_users_of") 2 (m_Graph__users_of Ps) (mVar 0) (aCons (mVar 1) (aCons (mFld C (PySem.Str.ofString "_cells") (mVar 0)) aNil)) ⟨slotsOf 2 [.o n, .p (En.en a)], M⟩ M M n _ _ rfl v.i0 (lk_meth (by simp)) (aCons_run (mVar 1) _ _ M M _ _ rfl (aCons_run _ aNil _ M M _ [] (fld_run C _ (mVar 0) _ M n _ _ rfl v.i0 lk_n) rfl)) rfl
  rw [show (DV.p (D.int (N : Int))) = .p (eM N) from rfl, e] at e4
  exact callA1r m_cells_in _ _ M _ _ e4 (cells_in_spec oS)
theorem formulas_spec (Ps : List Addr) (hC : Ps.getD 0 0 = C) (v : GV C n iu ic ir rf N us cs rs M) (h : GS g N us cs rs) : m_Graph_formulas Ps [.o n] M = some (.ok (.p (.lst ((bitL N).map En.en))) M) := by
  unfold m_Graph_formulas b_Graph_formulas
  rw [hC]
  exact runB_same (l := slotsOf 1 [.o n]) (ret_run _ _ _ _ (callA1r m_cells_in _ _ M _ _ (fld_run C _ (mVar 0) _ M n _ _ rfl v.i0 lk_n) (cells_in_spec h.nk)))
theorem used_call (Ps : List Addr) (hC : Ps.getD 0 0 = C) (v : GV C n iu ic ir rf N us cs rs M) (s : DL.S) (i j : Nat) (x : Ad) (hs : s.m = M) (h1 : gv s.l i = some (.o n)) (h2 : gv s.l j = some (.p (En.en x))) :
    mMeth C (PySem.Str.ofString "used_cells") 1 (m_Graph_used_cells Ps) (mVar i) (aCons (mVar j) aNil) s = some (.ok (.p (eM (um us x))) M) := by
  subst hs
  have a1 : mVar i s = some (.ok (.o n) s.m) := by unfold mVar; rw [h1]
  have a2 : mVar j s = some (.ok (.p (En.en x)) s.m) := by unfold mVar; rw [h2]
  rw [meth_run C (PySem.Str.ofString "used_cells") 1 (m_Graph_used_cells Ps) (mVar i) (aCons (mVar j) aNil) s s.m s.m n _ _ a1 v.i0 (lk_meth (by simp)) (aCons_run (mVar j) aNil _ s.m s.m _ [] a2 rfl) rfl]
  exact used_spec Ps hC v x
theorem usedF_spec (Ps : List Addr) (hC : Ps.getD 0 0 = C) (v : GV C n iu ic ir rf N us cs rs M) (h : GS g N us cs rs) (x : Ad) : ∃ S, m_Graph_used_formulas Ps [.o n, .p (En.en x)] M = some (.ok (.p (.lst ((bitL S).map En.en))) M) ∧ ∀ y, okX y → (S.testBit (ixK y) = true ↔ y ∈ keysA g ∧ hit (rg g x) y = true) := by
  refine ⟨um us x &&& N, ?_, fun y hy => ?_⟩
  · unfold m_Graph_used_formulas b_Graph_used_formulas
    rw [hC]
    refine runB_same (l := slotsOf 2 [.o n, .p (En.en x)]) (ret_run _ _ _ _ (callA1r m_cells_in _ _ M _ _ (bin_run dBand _ _ _ M M (eM (um us x)) (eM N) (eM (um us x &&& N)) (used_call Ps hC v _ 0 1 x rfl rfl rfl) (fld_run C _ (mVar 0) _ M n _ _ rfl v.i0 lk_n) (by show some (D.int _) = _; rw [band_nat]; rfl)) (cells_in_spec (okS_and h.nk))))
  · rw [Nat.testBit_and, Bool.and_eq_true, h.hN y hy, h.um x, maskL_bit (h.ok.gd x), cell_ix hy, and_comm]
theorem uses_spec (Ps : List Addr) (hC : Ps.getD 0 0 = C) (v : GV C n iu ic ir (.p (rgD g)) N us cs rs M) (hl : ∀ x, (rg g x).length ≤ 1000) (x y : Ad) : m_Graph_uses Ps [.o n, .p (En.en x), .p (En.en y)] M = some (.ok (.p (.bl (hit (rg g x) y))) M) := by
  unfold m_Graph_uses b_Graph_uses
  rw [hC]
  refine runB_same (l := slotsOf 4 [.o n, .p (En.en x), .p (En.en y)]) (ret_run _ _ _ _ ?_)
  have h1 := dg2_runO (mFld C (PySem.Str.ofString "ranges") (mVar 0)) (mVar 1) (disp .lst aNil) ⟨slotsOf 4 [.o n, .p (En.en x), .p (En.en y)], M⟩ M (.p (rgD g)) (En.en x) (.p (.lst [])) _ (fld_run C _ (mVar 0) _ M n _ _ rfl v.i0 lk_r) rfl rfl rfl (getM_kv eR M g x)
  have h2 : ((look g x).map fun l => DV.p (eR l)).getD (.p (.lst [])) = .p (.lst ((rg g x).map En.en)) := by
    unfold rg
    cases look g x <;> rfl
  rw [h2] at h1
  have e1 := map_compE (α := Ar) En.en (l := [some (.o n), some (.p (En.en x)), some (.p (En.en y)), none]) (g := gN 3) (e := mCallA 2 m_inside (aCons (mVar 2) (aCons (mVar 3) aNil))) (M := M) (fun a => D.bl (has a y)) (rg g x) (fun a _ => ⟨⟨[some (.o n), some (.p (En.en x)), some (.p (En.en y)), some (.p (En.en a))], M⟩, rfl, rfl, DL.callA2 m_inside 2 3 _ _ _ _ _ rfl rfl (inside_spec a y)⟩) (by have := hl x; omega)
  have e2 := DL.lcs (mItD itL (mDg2 (mFld C (PySem.Str.ofString "ranges") (mVar 0)) (mVar 1) (disp .lst aNil))) [3] (gN 3) _ _ ⟨slotsOf 4 [.o n, .p (En.en x), .p (En.en y)], M⟩ (((rg g x).map En.en).map .p) _ (by
    rw [mItD, e_bnd, h1]; rfl) e1
  have e3 := any_bl (fun a => has a y) (rg g x)
  rw [e_cb, e_bnd, aCons_run _ aNil _ M M _ [] e2 rfl]
  dsimp only
  unfold DL.ret g1
  dsimp only
  rw [e3]
  rfl
end
end Law.R
namespace Law.R
open Law
open PySem L2 DL
/-! ## spread -/
inductive SP (A Fm : Nat) (u : Ad → Nat) : Ad → Prop
  | base {x : Ad} : A.testBit (ixK x) = true → SP A Fm u x
  | step {x y : Ad} : okX y → SP A Fm u y → Fm.testBit (ixK y) = true → (u y).testBit (ixK x) = true → SP A Fm u x
theorem todo_lt2 {F W S T i : Nat} (hi : i < 2574) (hW : W.testBit i = true) (hF : F.testBit i = true) (hT : ∀ k, T.testBit k = true → F.testBit k = false) : todo (F ||| S) (W - (W &&& 2 ^ i) ||| T) < todo F W := by
  have tf : ∀ k, F.testBit k = true → T.testBit k = false := fun k hf => by
    cases e : T.testBit k with
    | false => rfl
    | true => rw [hT k e] at hf; cases hf
  refine countP_lt (j := i) (fun k _ h => ?_) (List.mem_range.mpr hi) ?_ ?_
  · rw [Nat.testBit_or, Nat.testBit_or, clr_bit] at h
    cases hf : F.testBit k with
    | false => rfl
    | true =>
      rw [hf, tf k hf] at h
      cases hw : W.testBit k with
      | true => rfl
      | false => rw [hw] at h; simp at h
  · rw [hF, hW]; rfl
  · rw [Nat.testBit_or, Nat.testBit_or, clr_bit, hF, hW, tf i hF]; simp
abbrev sS (A Fm k F W : Nat) (v5 v6 : Option DV) (M : List O) : S := ⟨[some (.p (eM A)), some (.p (eM Fm)), some (.o k), some (.p (eM F)), some (.p (eM W)), v5, v6], M⟩
noncomputable abbrev spB (Q : EM) : SM := (sSeq (sAsg (mCallA 1 m_first_in (aCons (mVar 4) aNil)) (gN 5))
  (sSeq (sAsg (mBin dBand Q (mUn dInv (mVar 3))) (gN 6))
  (sSeq (sAsg (mBin dBor (mVar 3) (mVar 6)) (gN 3))
  (sAsg (mBin dBor (mBin dBxor (mVar 4) (mCallA 1 m_bit_of (aCons (mVar 5) aNil))) (mBin dBand (mVar 6) (mVar 1))) (gN 4)))))
theorem sp_turn (Q : EM) (A Fm k F W i : Nat) (u : Ad → Nat) (M : List O) (hi : i < 2574) (i1 : W.testBit i = true) (i2 : ∀ k, k < i → W.testBit k = false)
    (hQ : ∀ F W v6, Q (sS A Fm k F W (some (.p (En.en (cellK i)))) v6 M) = some (.ok (.p (eM (u (cellK i)))) M)) (v5 v6 : Option DV) :
    spB Q (sS A Fm k F W v5 v6 M) = some (.nx, sS A Fm k (F ||| (u (cellK i) - (u (cellK i) &&& F))) (W - (W &&& 2 ^ i) ||| ((u (cellK i) - (u (cellK i) &&& F)) &&& Fm)) (some (.p (En.en (cellK i)))) (some (.p (eM (u (cellK i) - (u (cellK i) &&& F))))) M) := by
  unfold spB
  rw [seq_nx _ _ _ (sS A Fm k F W (some (.p (En.en (cellK i)))) v6 M) (asg_run _ _ _ _ M _ (callA1r m_first_in (mVar 4) _ M (eM W) _ rfl (first_spec i1 i2)) rfl)]
  generalize hS : u (cellK i) - (u (cellK i) &&& F) = S1
  have e3 : (mBin dBand Q (mUn dInv (mVar 3))) (sS A Fm k F W (some (.p (En.en (cellK i)))) v6 M) = some (.ok (.p (eM S1)) M) := by
    have z : dBand (eM (u (cellK i))) (.int (Builtin.bitNot (F : Int))) = some (eM S1) := by
      show some (D.int _) = _
      rw [bandn_nat, hS]; rfl
    exact bin_run dBand _ _ _ M M (eM (u (cellK i))) (.int (Builtin.bitNot (F : Int))) _ (hQ F W v6) rfl z
  rw [seq_nx _ _ _ (sS A Fm k F W (some (.p (En.en (cellK i)))) (some (.p (eM S1))) M) (asg_run _ _ _ _ M _ e3 rfl)]
  rw [seq_nx _ _ _ (sS A Fm k (F ||| S1) W (some (.p (En.en (cellK i)))) (some (.p (eM S1))) M) (asg_run _ _ _ _ M _ (bin_run dBor _ _ _ M M (eM F) (eM S1) (eM (F ||| S1)) rfl rfl (by show some (D.int _) = _; rw [bor_nat]; rfl)) rfl)]
  have b1 := bit_spec (okX_cell hi)
  rw [ix_cell] at b1
  exact asg_run _ _ _ _ M _ (bin_run dBor _ _ _ M M (eM (W - (W &&& 2 ^ i))) (eM (S1 &&& Fm)) _ (bin_run dBxor _ _ _ M M (eM W) (eM (2 ^ i)) _ rfl (callA1r m_bit_of (mVar 5) _ M _ _ rfl b1) (xor_bit i1)) (bin_run dBand _ _ _ M M (eM S1) (eM Fm) (eM (S1 &&& Fm)) rfl rfl (by show some (D.int _) = _; rw [band_nat]; rfl)) (by show some (D.int _) = _; rw [bor_nat]; rfl)) rfl
theorem spread_spec (Ps : List Addr) (A Fm k : Nat) (u : Ad → Nat) (M : List O) (hA : okS A) (hu : ∀ x, okX x → okS (u x))
    (hQ : ∀ x, okX x → ∀ F W v6, mCallO 2 1 (cloT1 Ps) (aCons (mVar 5) aNil) (sS A Fm k F W (some (.p (En.en x))) v6 M) = some (.ok (.p (eM (u x))) M)) :
    ∃ S, m_spread Ps [.p (eM A), .p (eM Fm), .o k] M = some (.ok (.p (eM S)) M) ∧ okS S ∧ ∀ x, okX x → (S.testBit (ixK x) = true ↔ SP A Fm u x) := by
  have wl := while_ex (c := mBin dNe (mVar 4) (mC (.int 0))) (b := spB (mCallO 2 1 (cloT1 Ps) (aCons (mVar 5) aNil)))
    (J := fun m s => ∃ (F W : Nat) (v5 v6 : Option DV), m = todo F W ∧ s = sS A Fm k F W v5 v6 M ∧ okS F ∧ (∀ j, W.testBit j = true → F.testBit j = true ∧ Fm.testBit j = true) ∧ (∀ x, okX x → F.testBit (ixK x) = true → SP A Fm u x) ∧ (∀ x, okX x → A.testBit (ixK x) = true → F.testBit (ixK x) = true) ∧
      (∀ y, okX y → F.testBit (ixK y) = true → Fm.testBit (ixK y) = true → W.testBit (ixK y) = false → ∀ x, okX x → (u y).testBit (ixK x) = true → F.testBit (ixK x) = true))
    (E := fun s => ∃ (F : Nat) (v5 v6 : Option DV), s = sS A Fm k F 0 v5 v6 M ∧ okS F ∧ ∀ x, okX x → (F.testBit (ixK x) = true ↔ SP A Fm u x)) (fun m s hj => by
      obtain ⟨F, W, v5, v6, rfl, rfl, oF, sub, so, ba, cl⟩ := hj
      by_cases hz : W = 0
      · subst hz
        refine .inl ⟨by simp [sS, eM, e_bnd], F, v5, v6, rfl, oF, fun x hx => ⟨so x hx, fun hb => ?_⟩⟩
        have : ∀ z, SP A Fm u z → okX z → F.testBit (ixK z) = true := fun z hz => by
          induction hz with
          | base hp => exact fun hx => ba _ hx hp
          | step h1 h2 h3 h4 ih => exact fun hx => cl _ h1 (ih h1) h3 (Nat.zero_testBit _) _ hx h4
        exact this x hb hx
      · obtain ⟨i, i1, i2⟩ := ex_low hz
        have hi : i < 2574 := by
          refine Nat.lt_of_not_le fun hge => ?_
          have := (sub i i1).1
          rw [oF i hge] at this; cases this
        have ox := okX_cell hi
        have e := sp_turn (mCallO 2 1 (cloT1 Ps) (aCons (mVar 5) aNil)) A Fm k F W i u M hi i1 i2 (hQ _ ox) v5 v6
        have oS : okS (u (cellK i) - (u (cellK i) &&& F)) := okS_sub (hu _ ox)
        have hS : ∀ j, (u (cellK i) - (u (cellK i) &&& F)).testBit j = ((u (cellK i)).testBit j && !F.testBit j) := fun j => bit_sub _ _ j
        generalize u (cellK i) - (u (cellK i) &&& F) = S1 at *
        refine .inr ⟨?_, _, _, todo_lt2 hi i1 (sub i i1).1 (fun k hk => ?_), e, F ||| S1, W - (W &&& 2 ^ i) ||| (S1 &&& Fm), _, _, rfl, rfl, okS_or oF oS, fun j hj => ?_, fun x hx hb => ?_, fun x hx hb => ?_, fun y hy hb hfm hw x hx hh => ?_⟩
        · simp [sS, eM, e_bnd]; exact hz
        · rw [Nat.testBit_and, Bool.and_eq_true, hS, Bool.and_eq_true, Bool.not_eq_true'] at hk
          exact hk.1.2
        · rw [Nat.testBit_or, Bool.or_eq_true, clr_bit, Bool.and_eq_true, Nat.testBit_and, Bool.and_eq_true] at hj
          rw [Nat.testBit_or, Bool.or_eq_true]
          rcases hj with q | q
          · exact ⟨.inl (sub j q.1).1, (sub j q.1).2⟩
          · exact ⟨.inr q.1, q.2⟩
        · rw [Nat.testBit_or, Bool.or_eq_true, hS, Bool.and_eq_true] at hb
          rcases hb with hb | hb
          · exact so x hx hb
          · have q := sub i i1
            rw [← ix_cell i] at q
            exact .step ox (so _ ox q.1) q.2 hb.1
        · rw [Nat.testBit_or, ba x hx hb]; rfl
        · rw [Nat.testBit_or, Bool.or_eq_false_iff, clr_bit, Nat.testBit_and, hfm, Bool.and_true] at hw
          rw [Nat.testBit_or, Bool.or_eq_true, hw.2] at hb
          have hb : F.testBit (ixK y) = true := by rcases hb with q | q; exact q; cases q
          rw [Nat.testBit_or, Bool.or_eq_true]
          by_cases hyi : i = ixK y
          · have ey : cellK i = y := by rw [hyi, cell_ix hy]
            cases hf : F.testBit (ixK x) with
            | true => exact .inl rfl
            | false => exact .inr (by rw [hS, ey, hh, hf]; rfl)
          · rw [decide_eq_false hyi] at hw
            exact .inl (cl y hy hb hfm (by simpa using hw.1) x hx hh))
    3000 _ (sS A Fm k A (A &&& Fm) none none M) (by have := todo_le A (A &&& Fm); omega) ⟨A, A &&& Fm, none, none, rfl, rfl, hA, fun j hj => by rw [Nat.testBit_and, Bool.and_eq_true] at hj; exact hj, fun x hx hb => .base hb, fun _ _ q => q, fun y _ h1 h2 h3 => by rw [Nat.testBit_and, h1, h2] at h3; cases h3⟩
  obtain ⟨s', e, F, v5, v6, rfl, oF, hF⟩ := wl
  refine ⟨F, ?_, oF, hF⟩
  unfold m_spread b_spread
  refine runB_same (l := (sS A Fm k F 0 v5 v6 M).l) ?_
  have e1 : (sAsg (mVar 0) (gN 3)) ⟨slotsOf 7 [.p (eM A), .p (eM Fm), .o k], M⟩ = some (.nx, ⟨[some (.p (eM A)), some (.p (eM Fm)), some (.o k), some (.p (eM A)), none, none, none], M⟩) := rfl
  rw [seq_nx _ _ _ _ e1]
  rw [seq_nx _ _ _ (sS A Fm k A (A &&& Fm) none none M) (asg_run _ _ _ _ M _ (bin_run dBand _ _ _ M M (eM A) (eM Fm) (eM (A &&& Fm)) rfl rfl (by show some (D.int _) = _; rw [band_nat]; rfl)) rfl)]
  rw [seq_nx _ _ _ _ e]
  rfl
end Law.R
namespace Law.R
open Law
open PySem L2 DL
section
variable {C : Addr} {n iu ic ir N : Nat} {rf : DV} {us : Us} {cs rs : List Nat} {M : List O} {g : Rg}
theorem lt_of_at {α : Type} {M : List α} {i : Nat} {o : α} (h : M[i]? = some o) : i < M.length := (List.getElem?_eq_some_iff.mp h).1
theorem GV.app (v : GV C n iu ic ir rf N us cs rs M) (R : List O) : GV C n iu ic ir rf N us cs rs (M ++ R) :=
  v.fr (List.getElem?_append_left (lt_of_at v.i0)) (List.getElem?_append_left (lt_of_at v.gu)) (List.getElem?_append_left (lt_of_at v.gc)) (List.getElem?_append_left (lt_of_at v.gr))
/-- the closure is called: its mirror runs with its own place given up -/
theorem clo_run (m : MBc) (L : LamS) (tb : List (LamS × MBc)) (i : Nat) (ms : AM) (s : DL.S) (M0 : List O) (xs : List DV) (d : D) (x : D) (hi : gv s.l i = some (.o M0.length)) (hs : s.m = M0 ++ [.clo L xs]) (htb : tbo tb L = some m)
    (hms : ms s = some (.ok [.p x] (M0 ++ [.clo L xs]))) (hx : noClo x = true) (hxs : xs.all ncV = true) (hn : ncM M0 = true) (hd : noClo d = true) (hm : m (.p x :: xs) (M0 ++ [.gone]) = some (.ok (.p d) (M0 ++ [.gone]))) :
    mCallO i 1 tb ms s = some (.ok (.p d) (M0 ++ [.clo L xs])) := by
  have hk : (M0 ++ [O.clo L xs])[M0.length]? = some (.clo L xs) := by simp
  have hset : (M0 ++ [O.clo L xs]).set M0.length .gone = M0 ++ [.gone] := by simp
  have hset2 : (M0 ++ [O.gone]).set M0.length (.clo L xs) = M0 ++ [.clo L xs] := by simp
  have hn2 : ncM (M0 ++ [.gone]) = true := by rw [ncM_app, hn]; rfl
  unfold mCallO
  simp only [hi, hs, hk, cloAtM, Option.isSome_some, if_true]
  unfold bnd
  rw [hms]
  dsimp only
  unfold callO
  dsimp only
  rw [hk]
  simp only [cloAtM, htb]
  unfold cloB
  dsimp only
  rw [if_pos (show [DV.p x].length = 1 from rfl), hset]
  have hc : ([DV.p x].all ncV && xs.all ncV && ncM (M0 ++ [.gone])) = true := by
    rw [hxs, hn2]
    show ((noClo x && true) && true && true) = true
    rw [hx]; rfl
  rw [if_pos hc]
  rw [show [DV.p x] ++ xs = .p x :: xs from rfl, hm]
  dsimp only
  have hr : ncR (fun M => M) (.ok (.p d) (M0 ++ [.gone])) = true := by
    show (noClo d && ncM (M0 ++ [.gone])) = true
    rw [hd, hn2]; rfl
  rw [if_pos hr]
  unfold setRs
  dsimp only
  rw [hset2]
theorem en_nc (x : Ad) : noClo (En.en x) = true := rfl
theorem uc_run (Ps : List Addr) (hC : Ps.getD 0 0 = C) (v : GV C n iu ic ir rf N us cs rs M) (hn : ncM M = true) (A Fm F W : Nat) (v6 : Option DV) (x : Ad) :
    mCallO 2 1 (cloT1 Ps) (aCons (mVar 5) aNil) (sS A Fm M.length F W (some (.p (En.en x))) v6 (M ++ [.clo lam_0 [.o n]])) = some (.ok (.p (eM (um us x))) (M ++ [.clo lam_0 [.o n]])) := by
  refine clo_run (ml_0 Ps) lam_0 (cloT1 Ps) 2 _ _ M [.o n] (eM (um us x)) (En.en x) rfl rfl (tbo_hit _ _ _) rfl (en_nc x) rfl hn rfl ?_
  unfold ml_0 lamKB
  rw [hC]
  exact used_call Ps hC (v.app [.gone]) ⟨slotsOf 2 [.p (En.en x), .o n], M ++ [.gone]⟩ 1 0 x rfl rfl rfl
theorem sp_rc (h : GS g N us cs rs) (a x : Ad) (hx : okX x) : (SP (um us a) N (um us) x ∧ N.testBit (ixK x) = true) ↔ RC g a x := by
  have ub : ∀ y z, okX z → ((um us y).testBit (ixK z) = true ↔ hit (rg g y) z = true) := fun y z hz => by rw [h.um y, maskL_bit (h.ok.gd y), cell_ix hz]
  constructor
  · rintro ⟨h1, h2⟩
    have : ∀ z, SP (um us a) N (um us) z → okX z → z ∈ keysA g → RC g a z := fun z hz => by
      induction hz with
      | base hp => exact fun hz hk => .base hk ((ub _ _ hz).mp hp)
      | step k1 k2 k3 k4 ih => exact fun hz hk => .step hk (ih k1 ((h.hN _ k1).mp k3)) ((ub _ _ hz).mp k4)
    exact this x h1 hx ((h.hN x hx).mp h2)
  · intro q
    refine ⟨?_, (h.hN x hx).mpr q.key⟩
    have : ∀ z, RC g a z → SP (um us a) N (um us) z := fun z hz => by
      induction hz with
      | base k1 k2 => exact .base ((ub _ _ (h.ok.xk _ k1)).mpr k2)
      | step k1 k2 k3 ih => exact .step (h.ok.xk _ k2.key) ih ((h.hN _ (h.ok.xk _ k2.key)).mpr k2.key) ((ub _ _ (h.ok.xk _ k1)).mpr k3)
    exact this x q
theorem um_ok (h : GS g N us cs rs) (x : Ad) : okS (um us x) := by rw [h.um x]; exact maskL_ok (h.ok.gd x)
theorem reachedP_spec (Ps : List Addr) (hC : Ps.getD 0 0 = C) (v : GV C n iu ic ir rf N us cs rs M) (h : GS g N us cs rs) (hn : ncM M = true) (hcl : M.all (closed M.length) = true) (ht : M[0]? = some (.tbl (Ps.getD 1 0) (lamq (PySem.Str.ofString "Graph.reached")))) (x : Ad) :
    ∃ S, m_Graph_reached Ps [.o n, .p (En.en x)] M = some (.ok (.p (.lst ((bitL S).map En.en))) M) ∧ ∀ y, okX y → (S.testBit (ixK y) = true ↔ RC g x y) := by
  obtain ⟨S, e, oS, hS⟩ := spread_spec Ps (um us x) N M.length (um us) (M ++ [.clo lam_0 [.o n]]) (um_ok h x) (fun y _ => um_ok h y) fun y _ F W v6 => uc_run Ps hC v hn (um us x) N F W v6 y
  refine ⟨S &&& N, ?_, fun y hy => by rw [Nat.testBit_and, Bool.and_eq_true, hS y hy]; exact sp_rc h x y hy⟩
  unfold m_Graph_reached b_Graph_reached
  rw [hC]
  have hset : (M ++ [O.clo lam_0 [.o n]]).set M.length .gone = M ++ [.gone] := by simp
  have hn2 : ncM (M ++ [.gone]) = true := by rw [ncM_app, hn]; rfl
  have e0 : mCallLB 0 (Ps.getD 1 0) (lamq (PySem.Str.ofString "Graph.reached")) lam_0 [0] 3 (m_spread Ps) (aCons (mMeth C (PySem.Str.ofString "used_cells") 1 (m_Graph_used_cells Ps) (mVar 0) (aCons (mVar 1) aNil)) (aCons (mFld C (PySem.Str.ofString "_cells") (mVar 0)) aNil)) ⟨slotsOf 3 [.o n, .p (En.en x)], M⟩ = some (.ok (.p (eM S)) (M ++ [.gone])) := by
    unfold mCallLB bnd
    rw [aCons_run _ _ _ M M _ _ (used_call Ps hC v ⟨slotsOf 3 [.o n, .p (En.en x)], M⟩ 0 1 x rfl rfl rfl) (aCons_run _ aNil _ M M _ [] (fld_run C _ (mVar 0) _ M n _ _ rfl v.i0 lk_n) rfl)]
    dsimp only
    unfold callLB
    dsimp only
    have htb : tblAt M 0 (Ps.getD 1 0) (lamq (PySem.Str.ofString "Graph.reached")) = true := by
      unfold tblAt
      simp only [ht, decide_true, Bool.and_self]
    rw [if_pos htb]
    have hcap : capsV (slotsOf 3 [.o n, .p (En.en x)]) [0] = some [.o n] := rfl
    rw [hcap]
    dsimp only
    rw [if_pos (show [DV.p (eM (um us x)), .p (.int (N : Int))].length + 1 = 3 from rfl)]
    rw [show [DV.p (eM (um us x)), .p (.int (N : Int))] ++ [.o M.length] = [.p (eM (um us x)), .p (eM N), .o M.length] from rfl, e]
    dsimp only
    have hr : ncR (fun M' => M'.set M.length .gone) (.ok (.p (eM S)) (M ++ [.clo lam_0 [.o n]])) = true := by
      show (noClo (eM S) && ncM ((M ++ [O.clo lam_0 [.o n]]).set M.length .gone)) = true
      rw [hset, hn2]; rfl
    rw [if_pos hr]
    unfold setRs
    dsimp only
    rw [hset]
  unfold runB
  rw [DL.seq_asg _ (gN 2) _ ⟨slotsOf 3 [.o n, .p (En.en x)], M⟩ ⟨[some (.o n), some (.p (En.en x)), some (.p (eM S))], M ++ [.gone]⟩ _ _ e0 rfl]
  have e1 := callA1r m_cells_in (mBin dBand (mVar 2) (mFld C (PySem.Str.ofString "_cells") (mVar 0))) ⟨[some (.o n), some (.p (En.en x)), some (.p (eM S))], M ++ [.gone]⟩ (M ++ [.gone]) _ _ (bin_run dBand _ _ _ (M ++ [.gone]) (M ++ [.gone]) (eM S) (eM N) (eM (S &&& N)) rfl (fld_run C _ (mVar 0) _ (M ++ [.gone]) n _ _ rfl (v.app [.gone]).i0 lk_n) (by show some (D.int _) = _; rw [band_nat]; rfl)) (cells_in_spec (okS_and h.nk))
  rw [ret_run _ _ _ _ e1]
  dsimp only
  rw [dropM_app rfl hcl]
end
end Law.R
namespace Law.R
open Law
open PySem L2 DL
/-! ## the graph is changed -/
structure Nice (M : List O) : Prop where
  cl : M.all (closed M.length) = true
  nc : ncM M = true
theorem closed_le {n m : Nat} (h : n ≤ m) {M : List O} (c : M.all (closed n) = true) : M.all (closed m) = true := List.all_eq_true.mpr fun o ho => closed_mono h o (List.all_eq_true.mp c o ho)
theorem Nice.set {M : List O} (h : Nice M) (i : Nat) {o : O} (h1 : closed M.length o = true) (h2 : ncO o = true) : Nice (M.set i o) := ⟨by
  rw [List.length_set]
  exact all_set h.cl h1 i, ncM_set h.nc h2⟩
theorem Nice.app {M : List O} (h : Nice M) {o : O} (h1 : closed (M.length + 1) o = true) (h2 : ncO o = true) : Nice (M ++ [o]) := ⟨by
  rw [List.length_append, List.length_singleton, List.all_append, closed_le (Nat.le_succ _) h.cl]
  simp [h1], by
  rw [ncM_app, h.nc]
  show (ncO o && true) = true
  rw [h2]; rfl⟩
theorem nice_kv {α : Type} (enc : α → D) (he : ∀ a, noClo (enc a) = true) (l : List (Ad × α)) (n : Nat) : closed n (kvO enc l) = true ∧ ncO (kvO enc l) = true := by
  constructor
  · show ((kvD enc l).map fun q => (q.1, DV.p q.2)).all (fun p => ltO n p.2) = true
    rw [List.all_map]
    exact List.all_eq_true.mpr fun _ _ => rfl
  · show ((kvD enc l).map fun q => (q.1, DV.p q.2)).all (fun p => ncV p.2) = true
    rw [List.all_map]
    unfold kvD
    rw [List.all_map]
    exact List.all_eq_true.mpr fun a _ => he a.2
theorem nc_ars : ∀ l : List Ar, noClos (l.map En.en) = true
  | [] => rfl
  | a :: l => by
    rw [List.map_cons]
    show (noClo (En.en a) && noClos (l.map En.en)) = true
    rw [nc_ars l]; rfl
theorem nc_eR (l : List Ar) : noClo (eR l) = true := nc_ars l
theorem nice_ls (l : List Nat) (n : Nat) : closed n (lsO l) = true ∧ ncO (lsO l) = true := by
  constructor
  · exact closed_data n _
  · refine nc_data ?_
    induction l with
    | nil => rfl
    | cons a l ih => rw [List.map_cons]; show (noClo (eM a) && noClos (l.map eM)) = true; rw [ih]; rfl
theorem nice_ins {C : Addr} {iu ic ir N n : Nat} {rf : DV} (h : ltO n rf = true) (h2 : ncV rf = true) (h3 : iu < n) (h4 : ic < n) (h5 : ir < n) : closed n (.ins C (gfs iu ic ir rf N)) = true ∧ ncO (.ins C (gfs iu ic ir rf N)) = true := by
  constructor
  · show (gfs iu ic ir rf N).all (fun p => ltO n p.2) = true
    unfold gfs
    simp only [List.all_cons, List.all_nil, h, Bool.true_and, Bool.and_true]
    simp [ltO, h3, h4, h5]
  · show (gfs iu ic ir rf N).all (fun p => ncV p.2) = true
    unfold gfs
    simp only [List.all_cons, List.all_nil, h2, Bool.true_and, Bool.and_true]
    rfl
theorem put_n (iu ic ir N N' : Nat) (rf : DV) : putD (PySem.Str.ofString "_cells") (.p (.int (N' : Int))) (gfs iu ic ir rf N) = gfs iu ic ir rf N' := by
  have h1 : PySem.Str.ofString "ranges" ≠ PySem.Str.ofString "_cells" := fun e => by have := str_b.1.2.1; rw [e, beq_self_eq_true] at this; cases this
  have h2 : PySem.Str.ofString "_uses" ≠ PySem.Str.ofString "_cells" := fun e => by have := str_b.1.2.2; rw [e, beq_self_eq_true] at this; cases this
  unfold gfs
  rw [putD, if_neg h1, putD, if_neg h2, putD, if_pos rfl]
theorem put_c (iu ic ir N ic' : Nat) (rf : DV) : putD (PySem.Str.ofString "_by_column") (.o ic') (gfs iu ic ir rf N) = gfs iu ic' ir rf N := by
  have h1 : PySem.Str.ofString "ranges" ≠ PySem.Str.ofString "_by_column" := fun e => by have := str_b.2.1.1; rw [e, beq_self_eq_true] at this; cases this
  have h2 : PySem.Str.ofString "_uses" ≠ PySem.Str.ofString "_by_column" := fun e => by have := str_b.2.1.2.1; rw [e, beq_self_eq_true] at this; cases this
  have h3 : PySem.Str.ofString "_cells" ≠ PySem.Str.ofString "_by_column" := fun e => by have := str_b.2.1.2.2; rw [e, beq_self_eq_true] at this; cases this
  unfold gfs
  rw [putD, if_neg h1, putD, if_neg h2, putD, if_neg h3, putD, if_pos rfl]
theorem put_w (iu ic ir N ir' : Nat) (rf : DV) : putD (PySem.Str.ofString "_by_row") (.o ir') (gfs iu ic ir rf N) = gfs iu ic ir' rf N := by
  have h1 : PySem.Str.ofString "ranges" ≠ PySem.Str.ofString "_by_row" := fun e => by have := str_b.2.2.1; rw [e, beq_self_eq_true] at this; cases this
  have h2 : PySem.Str.ofString "_uses" ≠ PySem.Str.ofString "_by_row" := fun e => by have := str_b.2.2.2.1; rw [e, beq_self_eq_true] at this; cases this
  have h3 : PySem.Str.ofString "_cells" ≠ PySem.Str.ofString "_by_row" := fun e => by have := str_b.2.2.2.2.1; rw [e, beq_self_eq_true] at this; cases this
  have h4 : PySem.Str.ofString "_by_column" ≠ PySem.Str.ofString "_by_row" := fun e => by have := str_b.2.2.2.2.2; rw [e, beq_self_eq_true] at this; cases this
  unfold gfs
  rw [putD, if_neg h1, putD, if_neg h2, putD, if_neg h3, putD, if_neg h4, putD, if_pos rfl]
/-- the whole graph, its ranges one's own -/
structure GW (C : Addr) (n ig iu ic ir : Nat) (g : Rg) (N : Nat) (us : Us) (cs rs : List Nat) (M : List O) : Prop where
  v : GV C n iu ic ir (.o ig) N us cs rs M
  gg : M[ig]? = some (kvO eR g)
  ds : [n, ig, iu, ic, ir].Nodup
  ni : Nice M
/-- what is not its own stays -/
structure Fr (own : List Nat) (M : List O) (own' : List Nat) (M' : List O) : Prop where
  len : M.length ≤ M'.length
  same : ∀ i, i < M.length → i ∉ own → M'[i]? = M[i]?
  new : ∀ x ∈ own', x ∈ own ∨ M.length ≤ x
theorem Fr.refl (own : List Nat) (M : List O) : Fr own M own M := ⟨Nat.le_refl _, fun _ _ _ => rfl, fun _ h => .inl h⟩
theorem Fr.trans {o1 o2 o3 : List Nat} {M1 M2 M3 : List O} (a : Fr o1 M1 o2 M2) (b : Fr o2 M2 o3 M3) : Fr o1 M1 o3 M3 := ⟨Nat.le_trans a.len b.len, fun i h1 h2 => by
  rw [b.same i (Nat.lt_of_lt_of_le h1 a.len) fun m => (a.new i m).elim h2 fun q => by omega]
  exact a.same i h1 h2, fun x hx => by
  rcases b.new x hx with q | q
  · exact a.new x q
  · exact .inr (Nat.le_trans a.len q)⟩
theorem Fr.set {own : List Nat} {M : List O} {i : Nat} {o : O} (h : i ∈ own) : Fr own M own (M.set i o) := ⟨by rw [List.length_set]; exact Nat.le_refl _, fun j _ h2 => List.getElem?_set_ne (fun e => h2 (by rw [← e]; exact h)), fun _ h => .inl h⟩
theorem dropM_keep {k n : Nat} {d : DV} {M : List O} {o : O} (h : M[n]? = some o) (hn : n < k) (hc : closed k o = false) : dropM k d M = M := by
  unfold dropM
  have : (M.take k).all (closed k) = false := by
    cases e : (M.take k).all (closed k) with
    | false => rfl
    | true =>
      have hm : o ∈ M.take k := List.mem_of_getElem? (by rw [List.getElem?_take_of_lt hn]; exact h)
      rw [List.all_eq_true.mp e o hm] at hc; cases hc
  rw [this, Bool.and_false]; rfl
theorem open_ins {C : Addr} {iu ic ir N k : Nat} {rf : DV} (h : k ≤ ic) : closed k (.ins C (gfs iu ic ir rf N)) = false := by
  show (gfs iu ic ir rf N).all (fun p => ltO k p.2) = false
  cases e : (gfs iu ic ir rf N).all (fun p => ltO k p.2) with
  | false => rfl
  | true =>
    have := List.all_eq_true.mp e (PySem.Str.ofString "_by_column", .o ic) (by unfold gfs; simp)
    have this : decide (ic < k) = true := this
    rw [decide_eq_true_eq] at this
    omega
/-! ### a new graph -/
theorem repO_run (m n : EM) (s : DL.S) (M1 M : List O) (d e : D) (xs : List D) (h1 : m s = some (.ok (.p d) M1)) (h2 : n ⟨s.l, M1⟩ = some (.ok (.p e) M)) (h3 : dRepL d e = some (.lst xs)) : mRepO m n s = some (.ok (.o M.length) (M ++ [.lst (xs.map .p)])) := by
  rw [e_repO]
  unfold bnd
  rw [h1]
  dsimp only
  rw [h2]
  dsimp only [pur]
  rw [h3]
theorem rep_ls (k : Nat) : (List.replicate k [D.int 0]).flatten = (List.replicate k 0).map eM := by
  induction k with
  | zero => rfl
  | succ k ih => rw [List.replicate_succ, List.replicate_succ, List.flatten_cons, ih, List.map_cons]; rfl
theorem gs_nil : GS [] 0 [] (List.replicate 26 0) (List.replicate 99 0) where
  ok := ⟨List.nodup_nil, (by simp), (fun x hx => nomatch hx), (fun x a ha => nomatch ha), (fun x => Nat.zero_le _)⟩
  nk := fun j _ => Nat.zero_testBit _
  hN := fun x _ => by rw [Nat.zero_testBit]; constructor <;> intro h <;> cases h
  uk := rfl
  hu := fun _ => rfl
  cl := rfl
  rl := rfl
  hc := fun i v hv x _ => by
    have := List.mem_of_getElem? hv
    rw [List.mem_replicate] at this
    rw [this.2, Nat.zero_testBit]
    constructor
    · intro h; cases h
    · rintro ⟨h, _⟩; cases h
  hr := fun i v hv x _ => by
    have := List.mem_of_getElem? hv
    rw [List.mem_replicate] at this
    rw [this.2, Nat.zero_testBit]
    constructor
    · intro h; cases h
    · rintro ⟨h, _⟩; cases h
theorem init_spec (Ps : List Addr) {C : Addr} (hC : Ps.getD 0 0 = C) (s : DL.S) :
    mMake C 0 (m_Graph___init__ Ps) aNil s = some (.ok (.o s.m.length) (s.m ++ [.ins C (gfs (s.m.length + 2) (s.m.length + 3) (s.m.length + 4) (.o (s.m.length + 1)) 0), kvO eR [], kvO eM [], lsO (List.replicate 26 0), lsO (List.replicate 99 0)])) := by
  obtain ⟨l, M⟩ := s
  have key : m_Graph___init__ Ps [.o M.length] (M ++ [.ins C []]) = some (.ok (.p .non) (M ++ [.ins C (gfs (M.length + 2) (M.length + 3) (M.length + 4) (.o (M.length + 1)) 0), kvO eR [], kvO eM [], lsO (List.replicate 26 0), lsO (List.replicate 99 0)])) := by
    unfold m_Graph___init__ b_Graph___init__ runB
    rw [hC]
    have at0 : ∀ (o : O) (R : List O), (M ++ o :: R)[M.length]? = some o := fun o R => by rw [List.getElem?_append_right (Nat.le_refl _), Nat.sub_self]; rfl
    have st0 : ∀ (o o' : O) (R : List O), (M ++ o :: R).set M.length o' = M ++ o' :: R := fun o o' R => by rw [List.set_append_right _ _ (Nat.le_refl _), Nat.sub_self]; rfl
    let fs1 : List (Str × DV) := [(PySem.Str.ofString "ranges", .o (M.length + 1))]
    let fs2 : List (Str × DV) := fs1 ++ [(PySem.Str.ofString "_uses", .o (M.length + 2))]
    let fs3 : List (Str × DV) := fs2 ++ [(PySem.Str.ofString "_cells", .p (.int 0))]
    let fs4 : List (Str × DV) := fs3 ++ [(PySem.Str.ofString "_by_column", .o (M.length + 3))]
    have b1 : PySem.Str.ofString "ranges" ≠ PySem.Str.ofString "_uses" := fun e => by have := str_b.1.1; rw [e, beq_self_eq_true] at this; cases this
    have b2 : PySem.Str.ofString "ranges" ≠ PySem.Str.ofString "_cells" := fun e => by have := str_b.1.2.1; rw [e, beq_self_eq_true] at this; cases this
    have b3 : PySem.Str.ofString "_uses" ≠ PySem.Str.ofString "_cells" := fun e => by have := str_b.1.2.2; rw [e, beq_self_eq_true] at this; cases this
    have b4 : PySem.Str.ofString "ranges" ≠ PySem.Str.ofString "_by_column" := fun e => by have := str_b.2.1.1; rw [e, beq_self_eq_true] at this; cases this
    have b5 : PySem.Str.ofString "_uses" ≠ PySem.Str.ofString "_by_column" := fun e => by have := str_b.2.1.2.1; rw [e, beq_self_eq_true] at this; cases this
    have b6 : PySem.Str.ofString "_cells" ≠ PySem.Str.ofString "_by_column" := fun e => by have := str_b.2.1.2.2; rw [e, beq_self_eq_true] at this; cases this
    have b7 : PySem.Str.ofString "ranges" ≠ PySem.Str.ofString "_by_row" := fun e => by have := str_b.2.2.1; rw [e, beq_self_eq_true] at this; cases this
    have b8 : PySem.Str.ofString "_uses" ≠ PySem.Str.ofString "_by_row" := fun e => by have := str_b.2.2.2.1; rw [e, beq_self_eq_true] at this; cases this
    have b9 : PySem.Str.ofString "_cells" ≠ PySem.Str.ofString "_by_row" := fun e => by have := str_b.2.2.2.2.1; rw [e, beq_self_eq_true] at this; cases this
    have b10 : PySem.Str.ofString "_by_column" ≠ PySem.Str.ofString "_by_row" := fun e => by have := str_b.2.2.2.2.2; rw [e, beq_self_eq_true] at this; cases this
    have r1 := fldM_run C (PySem.Str.ofString "ranges") (mDnew (.dT [])) (mVar 0) ⟨slotsOf 1 [.o M.length], M ++ [.ins C []]⟩ (M ++ [.ins C [], .dT []]) (M ++ [.ins C [], .dT []]) M.length [] (.o (M.length + 1)) (by simp) rfl (at0 _ _) (by decide)
    rw [st0] at r1
    rw [seq_nx _ _ _ _ r1]
    have r2 := fldM_run C (PySem.Str.ofString "_uses") (mDnew (.dT [])) (mVar 0) ⟨slotsOf 1 [.o M.length], M ++ [.ins C fs1, .dT []]⟩ (M ++ [.ins C fs1, .dT [], .dT []]) (M ++ [.ins C fs1, .dT [], .dT []]) M.length fs1 (.o (M.length + 2)) (by simp) rfl (at0 _ _) (by show 1 < 1000; decide)
    rw [st0, show putD (PySem.Str.ofString "_uses") (.o (M.length + 2)) fs1 = fs2 from by show putD _ _ [(_, _)] = _; rw [putD, if_neg b1]; rfl] at r2
    rw [show putD (PySem.Str.ofString "ranges") (.o (M.length + 1)) [] = fs1 from rfl]
    rw [seq_nx _ _ _ _ r2]
    have r3 := fldM_run C (PySem.Str.ofString "_cells") (mC (.int 0)) (mVar 0) ⟨slotsOf 1 [.o M.length], M ++ [.ins C fs2, .dT [], .dT []]⟩ (M ++ [.ins C fs2, .dT [], .dT []]) (M ++ [.ins C fs2, .dT [], .dT []]) M.length fs2 (.p (.int 0)) rfl rfl (at0 _ _) (by show 2 < 1000; decide)
    rw [st0, show putD (PySem.Str.ofString "_cells") (.p (.int 0)) fs2 = fs3 from by show putD _ _ [(_, _), (_, _)] = _; rw [putD, if_neg b2, putD, if_neg b3]; rfl] at r3
    rw [seq_nx _ _ _ _ r3]
    have q4 : mRepO (disp .lst (aCons (mC (.int 0)) aNil)) (mBin dAdd (mIx (mIx (mC k_SHEET) (mC (.int 1))) (mC (.int 0))) (mC (.int 1))) ⟨slotsOf 1 [.o M.length], M ++ [.ins C fs3, .dT [], .dT []]⟩ = some (.ok (.o (M.length + 3)) (M ++ [.ins C fs3, .dT [], .dT [], lsO (List.replicate 26 0)])) := by
      have e : dRepL (.lst [.int 0]) (.int 26) = some (.lst ((List.replicate 26 0).map eM)) := by
        show (if (0 : Int) ≤ 26 ∧ (26 : Int) ≤ 1000 ∧ [D.int 0].length ≤ 1000 then some (D.lst (List.replicate (26 : Int).toNat [D.int 0]).flatten) else none) = _
        rw [if_pos (by decide)]
        rw [show ((26 : Int).toNat) = 26 from rfl, rep_ls]
      have := repO_run (disp .lst (aCons (mC (.int 0)) aNil)) (mBin dAdd (mIx (mIx (mC k_SHEET) (mC (.int 1))) (mC (.int 0))) (mC (.int 1))) ⟨slotsOf 1 [.o M.length], M ++ [.ins C fs3, .dT [], .dT []]⟩ _ _ _ _ _ rfl rfl e
      rw [this]
      simp [lsO]
    have r4 := fldM_run C (PySem.Str.ofString "_by_column") _ (mVar 0) ⟨slotsOf 1 [.o M.length], M ++ [.ins C fs3, .dT [], .dT []]⟩ _ (M ++ [.ins C fs3, .dT [], .dT [], lsO (List.replicate 26 0)]) M.length fs3 _ q4 rfl (at0 _ _) (by show 3 < 1000; decide)
    rw [st0, show putD (PySem.Str.ofString "_by_column") (.o (M.length + 3)) fs3 = fs4 from by show putD _ _ [(_, _), (_, _), (_, _)] = _; rw [putD, if_neg b4, putD, if_neg b5, putD, if_neg b6]; rfl] at r4
    rw [seq_nx _ _ _ _ r4]
    have q5 : mRepO (disp .lst (aCons (mC (.int 0)) aNil)) (mBin dAdd (mIx (mIx (mC k_SHEET) (mC (.int 1))) (mC (.int 1))) (mC (.int 1))) ⟨slotsOf 1 [.o M.length], M ++ [.ins C fs4, .dT [], .dT [], lsO (List.replicate 26 0)]⟩ = some (.ok (.o (M.length + 4)) (M ++ [.ins C fs4, .dT [], .dT [], lsO (List.replicate 26 0), lsO (List.replicate 99 0)])) := by
      have e : dRepL (.lst [.int 0]) (.int 99) = some (.lst ((List.replicate 99 0).map eM)) := by
        show (if (0 : Int) ≤ 99 ∧ (99 : Int) ≤ 1000 ∧ [D.int 0].length ≤ 1000 then some (D.lst (List.replicate (99 : Int).toNat [D.int 0]).flatten) else none) = _
        rw [if_pos (by decide)]
        rw [show ((99 : Int).toNat) = 99 from rfl, rep_ls]
      have := repO_run (disp .lst (aCons (mC (.int 0)) aNil)) (mBin dAdd (mIx (mIx (mC k_SHEET) (mC (.int 1))) (mC (.int 1))) (mC (.int 1))) ⟨slotsOf 1 [.o M.length], M ++ [.ins C fs4, .dT [], .dT [], lsO (List.replicate 26 0)]⟩ _ _ _ _ _ rfl rfl e
      rw [this]
      simp [lsO]
    have r5 := fldM_run C (PySem.Str.ofString "_by_row") _ (mVar 0) ⟨slotsOf 1 [.o M.length], M ++ [.ins C fs4, .dT [], .dT [], lsO (List.replicate 26 0)]⟩ _ (M ++ [.ins C fs4, .dT [], .dT [], lsO (List.replicate 26 0), lsO (List.replicate 99 0)]) M.length fs4 _ q5 rfl (at0 _ _) (by show 4 < 1000; decide)
    rw [st0, show putD (PySem.Str.ofString "_by_row") (.o (M.length + 4)) fs4 = gfs (M.length + 2) (M.length + 3) (M.length + 4) (.o (M.length + 1)) 0 from by show putD _ _ [(_, _), (_, _), (_, _), (_, _)] = _; rw [putD, if_neg b7, putD, if_neg b8, putD, if_neg b9, putD, if_neg b10]; rfl] at r5
    rw [r5]
    dsimp only
    rw [dropM_keep (n := M.length) (at0 _ _) (by simp) (open_ins (by simp))]
    rfl
  unfold mMake bnd aNil
  dsimp only
  rw [if_pos (show ([] : List DV).length = 0 from rfl), key]
end Law.R
namespace Law.R
open Law
open PySem L2 DL
/-! ### an address is taken out -/
section
variable {α : Type}
def dropA (l : List (Ad × α)) (x : Ad) : List (Ad × α) := l.filter fun q => decide (q.1 ≠ x)
theorem drop_kv (enc : α → D) (l : List (Ad × α)) (x : Ad) : dropO ((kvD enc l).map fun q => (q.1, DV.p q.2)) (spK x) = (kvD enc (dropA l x)).map fun q => (q.1, DV.p q.2) := by
  unfold dropO dropA kvD
  rw [List.map_map, List.map_map, List.filter_map]
  congr 1
  refine List.filter_congr fun q _ => ?_
  show decide (spK q.1 ≠ spK x) = decide (q.1 ≠ x)
  by_cases h : q.1 = x
  · rw [h]; simp
  · have : spK q.1 ≠ spK x := fun e => h (spK_inj e)
    simp [h, this]
theorem pop_kvO (enc : α → D) {M : List O} {i : Nat} {l : List (Ad × α)} (h : M[i]? = some (kvO enc l)) {x : Ad} {v : α} (hx : look l x = some v) : popM M i (En.en x) = some (.p (enc v), M.set i (kvO enc (dropA l x))) := by
  unfold popM
  rw [h]
  have e1 : valO ((kvD enc l).map fun q => (q.1, DV.p q.2)) (spK x) = some (.p (enc v)) := by rw [find_kv, hx]; rfl
  unfold kvO
  dsimp only
  rw [keyT_sp]
  dsimp only
  rw [e1, drop_kv]
theorem dropA_keys (l : List (Ad × α)) (x : Ad) : keysA (dropA l x) = (keysA l).filter fun y => decide (y ≠ x) := by
  unfold keysA dropA
  rw [List.filter_map]
  rfl
theorem look_cons (q : Ad × α) (l : List (Ad × α)) (y : Ad) : look (q :: l) y = if q.1 = y then some q.2 else look l y := by
  unfold look
  rw [List.find?_cons]
  by_cases h : q.1 = y
  · rw [decide_eq_true h, if_pos h]; rfl
  · rw [decide_eq_false h, if_neg h]
theorem dropA_look (x y : Ad) : ∀ l : List (Ad × α), look (dropA l x) y = if y = x then none else look l y
  | [] => by unfold dropA look; split <;> rfl
  | q :: l => by
    have ih := dropA_look x y l
    unfold dropA at ih ⊢
    rw [List.filter_cons]
    by_cases h : q.1 = x
    · rw [if_neg (by simp [h]), ih, look_cons]
      by_cases hy : y = x
      · rw [if_pos hy, if_pos hy]
      · rw [if_neg hy, if_neg hy, if_neg (by rw [h]; exact fun e => hy e.symm)]
    · rw [if_pos (by simp [h]), look_cons, ih, look_cons]
      by_cases hy : q.1 = y
      · rw [if_pos hy, if_pos hy, if_neg (by rw [← hy]; exact h)]
      · rw [if_neg hy, if_neg hy]
theorem dropA_len (l : List (Ad × α)) (x : Ad) : (dropA l x).length ≤ l.length := List.length_filter_le _ _
end
theorem rg_drop (g : Rg) (x y : Ad) : rg (dropA g x) y = if y = x then [] else rg g y := by
  unfold rg
  rw [dropA_look]
  split <;> rfl
theorem mem_drop {g : Rg} {x y : Ad} : y ∈ keysA (dropA g x) ↔ y ∈ keysA g ∧ y ≠ x := by rw [dropA_keys, List.mem_filter, decide_eq_true_eq]
def clr (x : Ad) (v : Nat) : Nat := v - (v &&& 2 ^ ixK x)
theorem clr_bit2 {x y : Ad} (hx : okX x) (hy : okX y) (v : Nat) : (clr x v).testBit (ixK y) = true ↔ v.testBit (ixK y) = true ∧ y ≠ x := by
  unfold clr
  rw [clr_bit, Bool.and_eq_true, Bool.not_eq_true', decide_eq_false_iff_not]
  constructor
  · rintro ⟨a, b⟩; exact ⟨a, fun e => b (by rw [e])⟩
  · rintro ⟨a, b⟩; exact ⟨a, fun e => b (ix_inj hy hx e.symm)⟩
theorem okG.drop {g : Rg} (h : okG g) (x : Ad) : okG (dropA g x) := ⟨by rw [dropA_keys]; exact List.Pairwise.filter _ h.nd, Nat.le_trans (dropA_len g x) h.ln, fun y hy => h.xk y (mem_drop.mp hy).1, fun y => by
  rw [rg_drop]
  split
  · intro a ha; cases ha
  · exact h.gd y, fun y => by
  rw [rg_drop]
  split
  · exact Nat.zero_le _
  · exact h.rl y⟩
theorem gs_drop {g : Rg} {N : Nat} {us : Us} {cs rs : List Nat} (h : GS g N us cs rs) {x : Ad} (hx : okX x) : GS (dropA g x) (clr x N) (dropA us x) (cs.map (clr x)) (rs.map (clr x)) where
  ok := h.ok.drop x
  nk := okS_sub h.nk
  hN := fun y hy => by rw [clr_bit2 hx hy, h.hN y hy, mem_drop]
  uk := by rw [dropA_keys, dropA_keys, h.uk]
  hu := fun y => by
    rw [dropA_look, dropA_look, h.hu]
    split <;> rfl
  cl := by rw [List.length_map]; exact h.cl
  rl := by rw [List.length_map]; exact h.rl
  hc := fun i v hv y hy => by
    rw [List.getElem?_map] at hv
    obtain ⟨w, hw, rfl⟩ := Option.map_eq_some_iff.mp hv
    rw [clr_bit2 hx hy, h.hc i w hw y hy, mem_drop, rg_drop]
    constructor
    · rintro ⟨⟨a, b⟩, c⟩; rw [if_neg c]; exact ⟨⟨a, c⟩, b⟩
    · rintro ⟨⟨a, c⟩, b⟩; rw [if_neg c] at b; exact ⟨⟨a, b⟩, c⟩
  hr := fun i v hv y hy => by
    rw [List.getElem?_map] at hv
    obtain ⟨w, hw, rfl⟩ := Option.map_eq_some_iff.mp hv
    rw [clr_bit2 hx hy, h.hr i w hw y hy, mem_drop, rg_drop]
    constructor
    · rintro ⟨⟨a, b⟩, c⟩; rw [if_neg c]; exact ⟨⟨a, c⟩, b⟩
    · rintro ⟨⟨a, c⟩, b⟩; rw [if_neg c] at b; exact ⟨⟨a, b⟩, c⟩
section
variable {C : Addr} {n ig iu ic ir N : Nat} {us : Us} {cs rs : List Nat} {M : List O} {g : Rg}
theorem clr_comp (s0 s1 : Option DV) (x : Ad) (M : List O) (l : List Nat) (hl : l.length ≤ 1000) : compL [s0, s1, some (.p (.int (Builtin.bitNot ((2 ^ ixK x : Nat) : Int)))), none] (gN 3) tYesM (mBin dBand (mVar 3) (mVar 2)) ((l.map eM).map .p) [] M = some ((l.map (clr x)).map eM, M) := by
  have := map_compE (α := Nat) eM (l := [s0, s1, some (.p (.int (Builtin.bitNot ((2 ^ ixK x : Nat) : Int)))), none]) (g := gN 3) (e := mBin dBand (mVar 3) (mVar 2)) (M := M) (fun v => eM (clr x v)) l (fun v _ => ⟨⟨[s0, s1, some (.p (.int (Builtin.bitNot ((2 ^ ixK x : Nat) : Int)))), some (.p (eM v))], M⟩, rfl, rfl, by
    have z : dBand (eM v) (.int (Builtin.bitNot ((2 ^ ixK x : Nat) : Int))) = some (eM (clr x v)) := by
      show some (D.int _) = _
      rw [bandn_nat]; rfl
    exact bin_run dBand _ _ _ M M _ _ _ rfl rfl z⟩) (by omega)
  rw [this, List.map_map]
  rfl
theorem nodup5 {a b c d e : Nat} (h : [a, b, c, d, e].Nodup) : a ≠ b ∧ a ≠ c ∧ a ≠ d ∧ a ≠ e ∧ b ≠ c ∧ b ≠ d ∧ b ≠ e ∧ c ≠ d ∧ c ≠ e ∧ d ≠ e := by
  simp only [List.nodup_cons, List.mem_cons, List.not_mem_nil, or_false, not_or, List.nodup_nil, not_false_eq_true, and_true] at h
  omega
/-- the memory behind a removal -/
def remM (C : Addr) (n ig iu ic ir : Nat) (g : Rg) (N : Nat) (us : Us) (cs rs : List Nat) (x : Ad) (M : List O) : List O :=
  ((((((M.set ig (kvO eR (dropA g x))).set iu (kvO eM (dropA us x))).set ic .gone).set ir .gone) ++ [lsO (cs.map (clr x)), lsO (rs.map (clr x))]).set n (.ins C (gfs iu M.length (M.length + 1) (.o ig) (clr x N))))
theorem remove_no (Ps : List Addr) (hC : Ps.getD 0 0 = C) (v : GW C n ig iu ic ir g N us cs rs M) {x : Ad} (hk : x ∉ keysA g) : m_Graph_remove Ps [.o n, .p (En.en x)] M = some (.ok (.p .non) M) := by
  unfold m_Graph_remove b_Graph_remove
  rw [hC]
  refine runB_same (l := slotsOf 4 [.o n, .p (En.en x)]) ?_
  have h1 := din_run true (mVar 1) (mFld C (PySem.Str.ofString "ranges") (mVar 0)) ⟨slotsOf 4 [.o n, .p (En.en x)], M⟩ M M (.o ig) (En.en x) _ rfl (fld_run C _ (mVar 0) _ M n _ _ rfl v.v.i0 lk_r) (getM_kvO eR v.gg x)
  have h2 : look g x = none := by
    cases e : look g x with
    | none => rfl
    | some z => exact absurd (look_key.mp (by rw [e]; rfl)) hk
  rw [h2] at h1
  rw [e_seq, sif_t _ _ _ _ _ h1]
  rfl
theorem remove_yes (Ps : List Addr) (hC : Ps.getD 0 0 = C) (v : GW C n ig iu ic ir g N us cs rs M) (h : GS g N us cs rs) {x : Ad} (hk : x ∈ keysA g) : m_Graph_remove Ps [.o n, .p (En.en x)] M = some (.ok (.p .non) (remM C n ig iu ic ir g N us cs rs x M)) := by
  have hx := h.ok.xk x hk
  obtain ⟨d1, d2, d3, d4, d5, d6, d7, d8, d9, d10⟩ := nodup5 v.ds
  have ln := lt_of_at v.v.i0
  have lg := lt_of_at v.gg
  have lu := lt_of_at v.v.gu
  have lc := lt_of_at v.v.gc
  have lr := lt_of_at v.v.gr
  obtain ⟨w, hw⟩ := look_mem hk
  obtain ⟨w2, hw2⟩ := look_mem (show x ∈ keysA us by rw [h.uk]; exact hk)
  have lcs : cs.length ≤ 1000 := by rw [h.cl]; decide
  have lrs : rs.length ≤ 1000 := by rw [h.rl]; decide
  unfold m_Graph_remove b_Graph_remove runB
  rw [hC]
  have h1 := din_run true (mVar 1) (mFld C (PySem.Str.ofString "ranges") (mVar 0)) ⟨slotsOf 4 [.o n, .p (En.en x)], M⟩ M M (.o ig) (En.en x) _ rfl (fld_run C _ (mVar 0) _ M n _ _ rfl v.v.i0 lk_r) (getM_kvO eR v.gg x)
  rw [hw] at h1
  have s1 : sIf (mDin true (mVar 1) (mFld C (PySem.Str.ofString "ranges") (mVar 0))) sRetN sNil ⟨slotsOf 4 [.o n, .p (En.en x)], M⟩ = some (.nx, ⟨slotsOf 4 [.o n, .p (En.en x)], M⟩) := by
    rw [sif_f _ _ _ _ _ h1]; rfl
  rw [seq_nx _ _ _ _ s1]
  let nb : D := .int (Builtin.bitNot ((2 ^ ixK x : Nat) : Int))
  let L : List (Option DV) := [some (.o n), some (.p (En.en x)), some (.p nb), none]
  have s2 : sAsg (mUn dInv (mCallA 1 m_bit_of (aCons (mVar 1) aNil))) (gN 2) ⟨slotsOf 4 [.o n, .p (En.en x)], M⟩ = some (.nx, ⟨L, M⟩) := by
    have c := callA1r m_bit_of (mVar 1) ⟨slotsOf 4 [.o n, .p (En.en x)], M⟩ M _ _ rfl (bit_spec hx)
    refine asg_run _ _ _ _ M (.p nb) ?_ rfl
    show bnd _ _ _ = _
    unfold bnd
    rw [c]
    rfl
  rw [seq_nx _ _ _ _ s2]
  have s3 := del_run (mFld C (PySem.Str.ofString "ranges") (mVar 0)) (mVar 1) ⟨L, M⟩ M M _ ig _ (En.en x) (fld_run C _ (mVar 0) _ M n _ _ rfl v.v.i0 lk_r) rfl (pop_kvO eR v.gg hw)
  rw [seq_nx _ _ _ _ s3]
  have i3 : (M.set ig (kvO eR (dropA g x)))[n]? = some (.ins C (gfs iu ic ir (.o ig) N)) := by rw [List.getElem?_set_ne d1.symm]; exact v.v.i0
  have u3 : (M.set ig (kvO eR (dropA g x)))[iu]? = some (kvO eM us) := by rw [List.getElem?_set_ne d5]; exact v.v.gu
  have c3 : (M.set ig (kvO eR (dropA g x)))[ic]? = some (lsO cs) := by rw [List.getElem?_set_ne d6]; exact v.v.gc
  have r3 : (M.set ig (kvO eR (dropA g x)))[ir]? = some (lsO rs) := by rw [List.getElem?_set_ne d7]; exact v.v.gr
  have l3 : (M.set ig (kvO eR (dropA g x))).length = M.length := List.length_set ..
  unfold remM
  generalize M.set ig (kvO eR (dropA g x)) = M3 at *
  have s4 := del_run (mFld C (PySem.Str.ofString "_uses") (mVar 0)) (mVar 1) ⟨L, M3⟩ M3 M3 _ iu _ (En.en x) (fld_run C _ (mVar 0) _ M3 n _ _ rfl i3 lk_u) rfl (pop_kvO eM u3 hw2)
  rw [seq_nx _ _ _ _ s4]
  have i4 : (M3.set iu (kvO eM (dropA us x)))[n]? = some (.ins C (gfs iu ic ir (.o ig) N)) := by rw [List.getElem?_set_ne d2.symm]; exact i3
  have c4 : (M3.set iu (kvO eM (dropA us x)))[ic]? = some (lsO cs) := by rw [List.getElem?_set_ne d8]; exact c3
  have r4 : (M3.set iu (kvO eM (dropA us x)))[ir]? = some (lsO rs) := by rw [List.getElem?_set_ne d9]; exact r3
  have l4 : (M3.set iu (kvO eM (dropA us x))).length = M.length := (List.length_set ..).trans l3
  generalize M3.set iu (kvO eM (dropA us x)) = M4 at *
  have z5 : dBand (eM N) nb = some (eM (clr x N)) := by
    show some (D.int _) = _
    rw [bandn_nat]; rfl
  have s5 := fldM_run C (PySem.Str.ofString "_cells") (mBin dBand (mFld C (PySem.Str.ofString "_cells") (mVar 0)) (mVar 2)) (mVar 0) ⟨L, M4⟩ M4 M4 n _ _ (bin_run dBand _ _ _ M4 M4 (eM N) nb _ (fld_run C _ (mVar 0) _ M4 n _ _ rfl i4 lk_n) rfl z5) rfl i4 (by unfold gfs; simp)
  rw [show (DV.p (eM (clr x N))) = .p (.int ((clr x N : Nat) : Int)) from rfl, put_n] at s5
  rw [seq_nx _ _ _ _ s5]
  have i5 : (M4.set n (.ins C (gfs iu ic ir (.o ig) (clr x N))))[n]? = some (.ins C (gfs iu ic ir (.o ig) (clr x N))) := List.getElem?_set_self (by omega)
  have c5 : (M4.set n (.ins C (gfs iu ic ir (.o ig) (clr x N))))[ic]? = some (lsO cs) := by rw [List.getElem?_set_ne d3]; exact c4
  have r5 : (M4.set n (.ins C (gfs iu ic ir (.o ig) (clr x N))))[ir]? = some (lsO rs) := by rw [List.getElem?_set_ne d4]; exact r4
  have l5 : (M4.set n (.ins C (gfs iu ic ir (.o ig) (clr x N)))).length = M.length := (List.length_set ..).trans l4
  -- by column
  have f6 := frz_runM (mFld C (PySem.Str.ofString "_by_column") (mVar 0)) ⟨L, M4.set n (.ins C (gfs iu ic ir (.o ig) (clr x N)))⟩ _ ic (cs.map eM) (fld_run C _ (mVar 0) _ _ n _ _ rfl i5 lk_c) c5
  have e6 : mLcO (mItD itL (mFrz (mFld C (PySem.Str.ofString "_by_column") (mVar 0)))) [3] (gN 3) tYesM (mBin dBand (mVar 3) (mVar 2)) ⟨L, M4.set n (.ins C (gfs iu ic ir (.o ig) (clr x N)))⟩ = some (.ok (.o M.length) (((M4.set n (.ins C (gfs iu ic ir (.o ig) (clr x N)))).set ic .gone) ++ [lsO (cs.map (clr x))])) := by
    have i : mItD itL (mFrz (mFld C (PySem.Str.ofString "_by_column") (mVar 0))) ⟨L, M4.set n (.ins C (gfs iu ic ir (.o ig) (clr x N)))⟩ = some (.ok ((cs.map eM).map .p) ((M4.set n (.ins C (gfs iu ic ir (.o ig) (clr x N)))).set ic .gone)) := by
      rw [mItD, e_bnd, f6]; rfl
    rw [e_lcO, e_bnd, i]
    show (match compL L (gN 3) tYesM (mBin dBand (mVar 3) (mVar 2)) ((cs.map eM).map .p) [] ((M4.set n (.ins C (gfs iu ic ir (.o ig) (clr x N)))).set ic .gone) with | some (acc, M) => some (Rs.ok (DV.o M.length) (M ++ [O.lst (acc.map DV.p)])) | none => none) = _
    rw [clr_comp _ _ x _ cs lcs]
    dsimp only
    rw [List.length_set, l5]
    rfl
  have s6 := fldM_run C (PySem.Str.ofString "_by_column") _ (mVar 0) ⟨L, M4.set n (.ins C (gfs iu ic ir (.o ig) (clr x N)))⟩ _ (((M4.set n (.ins C (gfs iu ic ir (.o ig) (clr x N)))).set ic .gone) ++ [lsO (cs.map (clr x))]) n (gfs iu ic ir (.o ig) (clr x N)) _ e6 rfl (by rw [List.getElem?_append_left (by rw [List.length_set]; omega), List.getElem?_set_ne d3.symm]; exact i5) (by unfold gfs; simp)
  rw [put_c] at s6
  rw [seq_nx _ _ _ _ s6]
  have q6 : ((((M4.set n (.ins C (gfs iu ic ir (.o ig) (clr x N)))).set ic .gone) ++ [lsO (cs.map (clr x))]).set n (.ins C (gfs iu M.length ir (.o ig) (clr x N)))) = ((M4.set ic .gone) ++ [lsO (cs.map (clr x))]).set n (.ins C (gfs iu M.length ir (.o ig) (clr x N))) := by
    rw [List.set_append_left _ _ (by rw [List.length_set]; omega), List.set_append_left _ _ (by rw [List.length_set]; omega)]
    rw [List.set_comm _ _ d3, List.set_set]
  rw [q6]
  have i6 : (((M4.set ic .gone) ++ [lsO (cs.map (clr x))]).set n (.ins C (gfs iu M.length ir (.o ig) (clr x N))))[n]? = some (.ins C (gfs iu M.length ir (.o ig) (clr x N))) := List.getElem?_set_self (by rw [List.length_append, List.length_set]; omega)
  have r6 : (((M4.set ic .gone) ++ [lsO (cs.map (clr x))]).set n (.ins C (gfs iu M.length ir (.o ig) (clr x N))))[ir]? = some (lsO rs) := by
    rw [List.getElem?_set_ne d4, List.getElem?_append_left (by rw [List.length_set]; omega), List.getElem?_set_ne d10]; exact r4
  have l6 : (((M4.set ic .gone) ++ [lsO (cs.map (clr x))]).set n (.ins C (gfs iu M.length ir (.o ig) (clr x N)))).length = M.length + 1 := by
    rw [List.length_set, List.length_append, List.length_set, l4]; rfl
  -- by row
  have f7 := frz_runM (mFld C (PySem.Str.ofString "_by_row") (mVar 0)) ⟨L, ((M4.set ic .gone) ++ [lsO (cs.map (clr x))]).set n (.ins C (gfs iu M.length ir (.o ig) (clr x N)))⟩ _ ir (rs.map eM) (fld_run C _ (mVar 0) _ _ n _ _ rfl i6 lk_w) r6
  have e7 : mLcO (mItD itL (mFrz (mFld C (PySem.Str.ofString "_by_row") (mVar 0)))) [3] (gN 3) tYesM (mBin dBand (mVar 3) (mVar 2)) ⟨L, ((M4.set ic .gone) ++ [lsO (cs.map (clr x))]).set n (.ins C (gfs iu M.length ir (.o ig) (clr x N)))⟩ = some (.ok (.o (M.length + 1)) (((((M4.set ic .gone) ++ [lsO (cs.map (clr x))]).set n (.ins C (gfs iu M.length ir (.o ig) (clr x N)))).set ir .gone) ++ [lsO (rs.map (clr x))])) := by
    have i : mItD itL (mFrz (mFld C (PySem.Str.ofString "_by_row") (mVar 0))) ⟨L, ((M4.set ic .gone) ++ [lsO (cs.map (clr x))]).set n (.ins C (gfs iu M.length ir (.o ig) (clr x N)))⟩ = some (.ok ((rs.map eM).map .p) ((((M4.set ic .gone) ++ [lsO (cs.map (clr x))]).set n (.ins C (gfs iu M.length ir (.o ig) (clr x N)))).set ir .gone)) := by
      rw [mItD, e_bnd, f7]; rfl
    rw [e_lcO, e_bnd, i]
    show (match compL L (gN 3) tYesM (mBin dBand (mVar 3) (mVar 2)) ((rs.map eM).map .p) [] ((((M4.set ic .gone) ++ [lsO (cs.map (clr x))]).set n (.ins C (gfs iu M.length ir (.o ig) (clr x N)))).set ir .gone) with | some (acc, M) => some (Rs.ok (DV.o M.length) (M ++ [O.lst (acc.map DV.p)])) | none => none) = _
    rw [clr_comp _ _ x _ rs lrs]
    dsimp only
    rw [List.length_set, l6]
    rfl
  have s7 := fldM_run C (PySem.Str.ofString "_by_row") _ (mVar 0) ⟨L, ((M4.set ic .gone) ++ [lsO (cs.map (clr x))]).set n (.ins C (gfs iu M.length ir (.o ig) (clr x N)))⟩ _ _ n (gfs iu M.length ir (.o ig) (clr x N)) _ e7 rfl (by rw [List.getElem?_append_left (by rw [List.length_set]; omega), List.getElem?_set_ne d4.symm]; exact i6) (by unfold gfs; simp)
  rw [put_w] at s7
  rw [s7]
  dsimp only
  have q7 : ((((((M4.set ic .gone) ++ [lsO (cs.map (clr x))]).set n (.ins C (gfs iu M.length ir (.o ig) (clr x N)))).set ir .gone) ++ [lsO (rs.map (clr x))]).set n (.ins C (gfs iu M.length (M.length + 1) (.o ig) (clr x N)))) = ((((M4.set ic .gone).set ir .gone) ++ [lsO (cs.map (clr x)), lsO (rs.map (clr x))]).set n (.ins C (gfs iu M.length (M.length + 1) (.o ig) (clr x N)))) := by
    have a0 : n < ((M4.set ic O.gone)).length := by rw [List.length_set]; omega
    have a1 : ir < ((M4.set ic O.gone).set n (.ins C (gfs iu M.length ir (.o ig) (clr x N)))).length := by rw [List.length_set, List.length_set]; omega
    rw [List.set_append_left _ _ a0, List.set_append_left _ _ a1, List.append_assoc]
    rw [List.set_append_left _ _ (by rw [List.length_set, List.length_set, List.length_set]; omega), List.set_append_left _ _ (by rw [List.length_set, List.length_set]; omega)]
    rw [List.set_comm _ _ d4, List.set_set]
    rfl
  rw [q7]
  rw [dropM_keep (n := n) (o := .ins C (gfs iu M.length (M.length + 1) (.o ig) (clr x N))) (List.getElem?_set_self (by rw [List.length_append, List.length_set, List.length_set]; omega)) ln (open_ins (Nat.le_refl _))]
end
end Law.R
namespace Law.R
open Law
open PySem L2 DL
/-! ### bits are put into lists -/
def orA (p : Nat → Bool) (b : Nat) (cs : List Nat) : List Nat := cs.mapIdx fun i v => if p i = true then v ||| b else v
theorem orA_get (p : Nat → Bool) (b : Nat) (cs : List Nat) (i : Nat) : (orA p b cs)[i]? = (cs[i]?).map fun v => if p i = true then v ||| b else v := by unfold orA; rw [List.getElem?_mapIdx]
theorem orA_len (p : Nat → Bool) (b : Nat) (cs : List Nat) : (orA p b cs).length = cs.length := by unfold orA; rw [List.length_mapIdx]
theorem orA_no {p : Nat → Bool} {b : Nat} {cs : List Nat} (h : ∀ i, p i = false) : orA p b cs = cs := List.ext_getElem? fun i => by
  rw [orA_get, h i]; simp
theorem orA_or (p q : Nat → Bool) (b : Nat) (cs : List Nat) : orA q b (orA p b cs) = orA (fun i => p i || q i) b cs := List.ext_getElem? fun i => by
  rw [orA_get, orA_get, orA_get, Option.map_map]
  congr 1
  funext v
  show (if q i = true then (if p i = true then v ||| b else v) ||| b else if p i = true then v ||| b else v) = if (p i || q i) = true then v ||| b else v
  cases p i <;> cases q i <;> simp [Nat.or_assoc]
theorem orA_set {p : Nat → Bool} {b c v : Nat} {cs : List Nat} (hc : cs[c]? = some v) (hp : p c = false) : (orA p b cs).set c (v ||| b) = orA (fun i => p i || decide (i = c)) b cs := List.ext_getElem? fun i => by
  by_cases hi : c = i
  · subst hi
    have hl : c < (orA p b cs).length := by rw [orA_len]; exact lt_of_at hc
    rw [List.getElem?_set_self hl, orA_get, hc]
    simp
  · rw [List.getElem?_set_ne hi, orA_get, orA_get, decide_eq_false (fun e => hi e.symm), Bool.or_false]
theorem ls_get {cs : List Nat} {c v : Nat} (h : cs[c]? = some v) : ((cs.map eM).map DV.p)[c]? = some (.p (eM v)) := by rw [List.getElem?_map, List.getElem?_map, h]; rfl
theorem ls_set (cs : List Nat) (c v : Nat) : O.lst (((cs.map eM).map DV.p).set c (.p (eM v))) = lsO (cs.set c v) := by
  unfold lsO
  rw [List.map_set, List.map_set]
abbrev pS (n : Nat) (x : Ad) (AD : D) (b : Nat) (s4 s5 s6 s7 s8 s9 : Option DV) (M : List O) : S := ⟨[some (.o n), some (.p (En.en x)), some (.p AD), some (.p (eM b)), s4, s5, s6, s7, s8, s9], M⟩
noncomputable abbrev pcB (C : Addr) : SM := (sAsg (mBin dBor (mIx (mFld C (PySem.Str.ofString "_by_column") (mVar 0)) (mVar 8)) (mVar 3)) (gSet (mFld C (PySem.Str.ofString "_by_column") (mVar 0)) (mVar 8)))
noncomputable abbrev prB (C : Addr) : SM := (sAsg (mBin dBor (mIx (mFld C (PySem.Str.ofString "_by_row") (mVar 0)) (mVar 9)) (mVar 3)) (gSet (mFld C (PySem.Str.ofString "_by_row") (mVar 0)) (mVar 9)))
section
variable {C : Addr} {n ig iu ic ir N : Nat}
theorem pc_step {fs : List (Str × DV)} (hf : fs.lookup (PySem.Str.ofString "_by_column") = some (.o ic)) (x : Ad) (AD : D) (b : Nat) (s4 s5 s6 s7 s9 : Option DV) (M : List O) (cs : List Nat) (c v : Nat) (h0 : M[n]? = some (.ins C fs)) (h1 : M[ic]? = some (lsO cs)) (hc : cs[c]? = some v) :
    pcB C (pS n x AD b s4 s5 s6 s7 (some (.p (.int (c : Int)))) s9 M) = some (.nx, pS n x AD b s4 s5 s6 s7 (some (.p (.int (c : Int)))) s9 (M.set ic (lsO (cs.set c (v ||| b))))) := by
  have f := fld_run C (PySem.Str.ofString "_by_column") (mVar 0) (pS n x AD b s4 s5 s6 s7 (some (.p (.int (c : Int)))) s9 M) M n fs (.o ic) rfl h0 hf
  have e := ixO_run (mFld C (PySem.Str.ofString "_by_column") (mVar 0)) (mVar 8) (pS n x AD b s4 s5 s6 s7 (some (.p (.int (c : Int)))) s9 M) M M ic c _ (.p (eM v)) f rfl h1 (ls_get hc)
  refine asg_run _ _ _ _ M (.p (eM (v ||| b))) (bin_run dBor _ _ _ M M (eM v) (eM b) _ e rfl (by show some (D.int _) = _; rw [bor_nat]; rfl)) ?_
  rw [← ls_set]
  exact gset_run _ _ _ _ M M _ ic (c : Int) f rfl (setL_at h1 (by rw [List.length_map, List.length_map]; exact lt_of_at hc))
theorem pr_step {fs : List (Str × DV)} (hf : fs.lookup (PySem.Str.ofString "_by_row") = some (.o ir)) (x : Ad) (AD : D) (b : Nat) (s4 s5 s6 s7 s8 : Option DV) (M : List O) (cs : List Nat) (c v : Nat) (h0 : M[n]? = some (.ins C fs)) (h1 : M[ir]? = some (lsO cs)) (hc : cs[c]? = some v) :
    prB C (pS n x AD b s4 s5 s6 s7 s8 (some (.p (.int (c : Int)))) M) = some (.nx, pS n x AD b s4 s5 s6 s7 s8 (some (.p (.int (c : Int)))) (M.set ir (lsO (cs.set c (v ||| b))))) := by
  have f := fld_run C (PySem.Str.ofString "_by_row") (mVar 0) (pS n x AD b s4 s5 s6 s7 s8 (some (.p (.int (c : Int)))) M) M n fs (.o ir) rfl h0 hf
  have e := ixO_run (mFld C (PySem.Str.ofString "_by_row") (mVar 0)) (mVar 9) (pS n x AD b s4 s5 s6 s7 s8 (some (.p (.int (c : Int)))) M) M M ir c _ (.p (eM v)) f rfl h1 (ls_get hc)
  refine asg_run _ _ _ _ M (.p (eM (v ||| b))) (bin_run dBor _ _ _ M M (eM v) (eM b) _ e rfl (by show some (D.int _) = _; rw [bor_nat]; rfl)) ?_
  rw [← ls_set]
  exact gset_run _ _ _ _ M M _ ir (c : Int) f rfl (setL_at h1 (by rw [List.length_map, List.length_map]; exact lt_of_at hc))
theorem rng_ext (p : Nat → Bool) (l k : Nat) : (fun i => (p i || decide (i = l)) || decide (l + 1 ≤ i ∧ i < l + 1 + k)) = fun i => p i || decide (l ≤ i ∧ i < l + (k + 1)) := by
  funext i
  cases p i with
  | true => simp
  | false =>
    simp only [Bool.false_or]
    rw [Bool.eq_iff_iff, Bool.or_eq_true, decide_eq_true_eq, decide_eq_true_eq, decide_eq_true_eq]
    omega
theorem intsN (l k : Nat) : DL.intsFrom (l : Int) (k + 1) = .p (.int (l : Int)) :: DL.intsFrom ((l + 1 : Nat) : Int) k := by rw [intsS]; rfl
theorem pc_loop {fs : List (Str × DV)} (hf : fs.lookup (PySem.Str.ofString "_by_column") = some (.o ic)) (hni : n ≠ ic) (x : Ad) (AD : D) (b : Nat) (s4 s5 s6 s7 s9 : Option DV) (M : List O) (h0 : M[n]? = some (.ins C fs)) (cs : List Nat) : ∀ (k l : Nat) (p : Nat → Bool) (s8 : Option DV), l + k ≤ cs.length → (∀ i, l ≤ i → p i = false) → ic < M.length → ∃ s8',
    loopS (gN 8) (pcB C) (DL.intsFrom (l : Int) k) (pS n x AD b s4 s5 s6 s7 s8 s9 (M.set ic (lsO (orA p b cs)))) = some (.nx, pS n x AD b s4 s5 s6 s7 s8' s9 (M.set ic (lsO (orA (fun i => p i || decide (l ≤ i ∧ i < l + k)) b cs))))
  | 0, l, p, s8, _, _, _ => ⟨s8, by
    rw [ints0]
    have : (fun i => p i || decide (l ≤ i ∧ i < l + 0)) = p := by
      funext i
      rw [decide_eq_false (by omega), Bool.or_false]
    rw [this]; rfl⟩
  | k + 1, l, p, s8, hl, hp, hic => by
    have hlc : l < cs.length := by omega
    have hcv : cs[l]? = some cs[l] := List.getElem?_eq_getElem hlc
    obtain ⟨s8', ih⟩ := pc_loop hf hni x AD b s4 s5 s6 s7 s9 M h0 cs k (l + 1) (fun i => p i || decide (i = l)) (some (.p (.int (l : Int)))) (by omega) (fun i hi => by rw [hp i (by omega), decide_eq_false (by omega)]; rfl) hic
    refine ⟨s8', ?_⟩
    rw [intsN]
    have hg : (orA p b cs)[l]? = some cs[l] := by rw [orA_get, hcv, hp l (Nat.le_refl _)]; rfl
    have st := pc_step hf x AD b s4 s5 s6 s7 s9 (M.set ic (lsO (orA p b cs))) (orA p b cs) l cs[l] (by rw [List.getElem?_set_ne hni.symm]; exact h0) (List.getElem?_set_self hic) hg
    rw [List.set_set, orA_set hcv (hp l (Nat.le_refl _))] at st
    refine (DL.loop_step _ _ _ _ _ (pS n x AD b s4 s5 s6 s7 (some (.p (.int (l : Int)))) s9 (M.set ic (lsO (orA p b cs)))) _ rfl st).trans ?_
    rw [rng_ext p l k] at ih
    exact ih
theorem pr_loop {fs : List (Str × DV)} (hf : fs.lookup (PySem.Str.ofString "_by_row") = some (.o ir)) (hni : n ≠ ir) (x : Ad) (AD : D) (b : Nat) (s4 s5 s6 s7 s8 : Option DV) (M : List O) (h0 : M[n]? = some (.ins C fs)) (cs : List Nat) : ∀ (k l : Nat) (p : Nat → Bool) (s9 : Option DV), l + k ≤ cs.length → (∀ i, l ≤ i → p i = false) → ir < M.length → ∃ s9',
    loopS (gN 9) (prB C) (DL.intsFrom (l : Int) k) (pS n x AD b s4 s5 s6 s7 s8 s9 (M.set ir (lsO (orA p b cs)))) = some (.nx, pS n x AD b s4 s5 s6 s7 s8 s9' (M.set ir (lsO (orA (fun i => p i || decide (l ≤ i ∧ i < l + k)) b cs))))
  | 0, l, p, s8, _, _, _ => ⟨s8, by
    rw [ints0]
    have : (fun i => p i || decide (l ≤ i ∧ i < l + 0)) = p := by
      funext i
      rw [decide_eq_false (by omega), Bool.or_false]
    rw [this]; rfl⟩
  | k + 1, l, p, s9, hl, hp, hic => by
    have hlc : l < cs.length := by omega
    have hcv : cs[l]? = some cs[l] := List.getElem?_eq_getElem hlc
    obtain ⟨s9', ih⟩ := pr_loop hf hni x AD b s4 s5 s6 s7 s8 M h0 cs k (l + 1) (fun i => p i || decide (i = l)) (some (.p (.int (l : Int)))) (by omega) (fun i hi => by rw [hp i (by omega), decide_eq_false (by omega)]; rfl) hic
    refine ⟨s9', ?_⟩
    rw [intsN]
    have hg : (orA p b cs)[l]? = some cs[l] := by rw [orA_get, hcv, hp l (Nat.le_refl _)]; rfl
    have st := pr_step hf x AD b s4 s5 s6 s7 s8 (M.set ir (lsO (orA p b cs))) (orA p b cs) l cs[l] (by rw [List.getElem?_set_ne hni.symm]; exact h0) (List.getElem?_set_self hic) hg
    rw [List.set_set, orA_set hcv (hp l (Nat.le_refl _))] at st
    refine (DL.loop_step _ _ _ _ _ (pS n x AD b s4 s5 s6 s7 s8 (some (.p (.int (l : Int)))) (M.set ir (lsO (orA p b cs)))) _ rfl st).trans ?_
    rw [rng_ext p l k] at ih
    exact ih
def inC (l : List Ar) (i : Nat) : Bool := l.any fun a => decide (a.1.1 ≤ (i : Int) ∧ (i : Int) ≤ a.2.1)
def inR (l : List Ar) (i : Nat) : Bool := l.any fun a => decide (a.1.2 ≤ (i : Int) ∧ (i : Int) ≤ a.2.2)
noncomputable abbrev paB (C : Addr) : SM := (sSeq (sFor (mRng rng2D (aCons (mVar 4) (aCons (mBin dAdd (mVar 6) (mC (.int 1))) aNil))) (gN 8) (pcB C))
  (sFor (mRng rng2D (aCons (mVar 5) (aCons (mBin dAdd (mVar 7) (mC (.int 1))) aNil))) (gN 9) (prB C)))
abbrev paG : GM := (gT 2 (gsCons (gT 2 (gsCons (gN 4) (gsCons (gN 5) gsNil))) (gsCons (gT 2 (gsCons (gN 6) (gsCons (gN 7) gsNil))) gsNil)))
theorem rng2I (a b : Int) (s : DL.S) (M : List O) (i j : Nat) (h1 : gv s.l i = some (.p (.int a))) (h2 : gv s.l j = some (.p (.int b))) (hs : s.m = M) (g1 : rngOk a = true) (g2 : rngOk (b + 1) = true) : mRng rng2D (aCons (mVar i) (aCons (mBin dAdd (mVar j) (mC (.int 1))) aNil)) s = some (.ok (DL.intsFrom a (b + 1 - a).toNat) M) := by
  subst hs
  simp [e_bnd, h1, h2, g1, g2]
theorem rng2 (l r : Nat) (s : DL.S) (M : List O) (i j : Nat) (h1 : gv s.l i = some (.p (.int (l : Int)))) (h2 : gv s.l j = some (.p (.int (r : Int)))) (hs : s.m = M) (hlr : l ≤ r) (hr : r < 1000) : mRng rng2D (aCons (mVar i) (aCons (mBin dAdd (mVar j) (mC (.int 1))) aNil)) s = some (.ok (DL.intsFrom (l : Int) (r + 1 - l)) M) := by
  have e : ((r : Int) + 1 - (l : Int)).toNat = r + 1 - l := by omega
  rw [← e]
  exact rng2I _ _ s M i j h1 h2 hs (rng_ok (by omega) (by omega)) (rng_ok (by omega) (by omega))
theorem pa_loop (hnc : n ≠ ic) (hnr : n ≠ ir) (hcr : ic ≠ ir) (x : Ad) (AD : D) (b : Nat) {rf : DV} (M : List O) (h0 : M[n]? = some (.ins C (gfs iu ic ir rf N))) (cs rs : List Nat) (lc : cs.length = 26) (lr : rs.length = 99) (hic : ic < M.length) (hir : ir < M.length) :
    ∀ (l : List Ar) (p q : Nat → Bool) (s4 s5 s6 s7 s8 s9 : Option DV), gdA l → ∃ s4' s5' s6' s7' s8' s9',
    loopS paG (paB C) ((l.map En.en).map .p) (pS n x AD b s4 s5 s6 s7 s8 s9 ((M.set ic (lsO (orA p b cs))).set ir (lsO (orA q b rs)))) = some (.nx, pS n x AD b s4' s5' s6' s7' s8' s9' ((M.set ic (lsO (orA (fun i => p i || inC l i) b cs))).set ir (lsO (orA (fun i => q i || inR l i) b rs))))
  | [], p, q, s4, s5, s6, s7, s8, s9, _ => ⟨s4, s5, s6, s7, s8, s9, by
    have e1 : (fun i => p i || inC [] i) = p := by funext i; simp [inC]
    have e2 : (fun i => q i || inR [] i) = q := by funext i; simp [inR]
    rw [e1, e2]; rfl⟩
  | a :: l, p, q, s4, s5, s6, s7, s8, s9, hg => by
    have ha := hg a List.mem_cons_self
    obtain ⟨⟨al, at'⟩, ar, ab⟩ := a
    have ha1 : 0 ≤ al ∧ 0 ≤ at' ∧ ar < 26 ∧ ab < 99 ∧ al ≤ 26 ∧ at' ≤ 99 ∧ -1 ≤ ar ∧ -1 ≤ ab := ha.1
    have ha2 : al ≤ ar ∧ at' ≤ ab := ha.2
    obtain ⟨L, rfl⟩ : ∃ L : Nat, al = (L : Int) := ⟨al.toNat, by omega⟩
    obtain ⟨T, rfl⟩ : ∃ T : Nat, at' = (T : Int) := ⟨at'.toNat, by omega⟩
    obtain ⟨Rr, rfl⟩ : ∃ R : Nat, ar = (R : Int) := ⟨ar.toNat, by omega⟩
    obtain ⟨Bb, rfl⟩ : ∃ B : Nat, ab = (B : Int) := ⟨ab.toNat, by omega⟩
    -- columns
    have hcomm : ∀ X Y, (M.set ic X).set ir Y = (M.set ir Y).set ic X := fun X Y => List.set_comm _ _ hcr
    obtain ⟨s8a, l1⟩ := pc_loop (n := n) (ic := ic) (fs := gfs iu ic ir rf N) lk_c hnc x AD b (some (.p (.int (L : Int)))) (some (.p (.int (T : Int)))) (some (.p (.int (Rr : Int)))) (some (.p (.int (Bb : Int)))) s9 (M.set ir (lsO (orA q b rs))) (by rw [List.getElem?_set_ne hnr.symm]; exact h0) (orA p b cs) (Rr + 1 - L) L (fun _ => false) s8 (by rw [orA_len]; omega) (fun _ _ => rfl) (by rw [List.length_set]; exact hic)
    rw [orA_no (fun _ => rfl), orA_or, ← hcomm, ← hcomm] at l1
    obtain ⟨s9a, l2⟩ := pr_loop (n := n) (ir := ir) (fs := gfs iu ic ir rf N) lk_w hnr x AD b (some (.p (.int (L : Int)))) (some (.p (.int (T : Int)))) (some (.p (.int (Rr : Int)))) (some (.p (.int (Bb : Int)))) s8a (M.set ic (lsO (orA (fun i => p i || (false || decide (L ≤ i ∧ i < L + (Rr + 1 - L)))) b cs))) (by rw [List.getElem?_set_ne hnc.symm]; exact h0) (orA q b rs) (Bb + 1 - T) T (fun _ => false) s9 (by rw [orA_len]; omega) (fun _ _ => rfl) (by rw [List.length_set]; exact hir)
    rw [orA_no (fun _ => rfl), orA_or] at l2
    obtain ⟨s4', s5', s6', s7', s8', s9', ih⟩ := pa_loop hnc hnr hcr x AD b M h0 cs rs lc lr hic hir l (fun i => p i || (false || decide (L ≤ i ∧ i < L + (Rr + 1 - L)))) (fun i => q i || (false || decide (T ≤ i ∧ i < T + (Bb + 1 - T)))) (some (.p (.int (L : Int)))) (some (.p (.int (T : Int)))) (some (.p (.int (Rr : Int)))) (some (.p (.int (Bb : Int)))) s8a s9a fun c hc => hg c (List.mem_cons_of_mem _ hc)
    refine ⟨s4', s5', s6', s7', s8', s9', ?_⟩
    have eC : (fun i => p i || inC ((((L : Int), (T : Int)), (Rr : Int), (Bb : Int)) :: l) i) = fun i => (p i || (false || decide (L ≤ i ∧ i < L + (Rr + 1 - L)))) || inC l i := by
      funext i
      unfold inC
      rw [List.any_cons, Bool.false_or, Bool.or_assoc]
      congr 2
      rw [Bool.eq_iff_iff, decide_eq_true_eq, decide_eq_true_eq]
      dsimp only
      omega
    have eR : (fun i => q i || inR ((((L : Int), (T : Int)), (Rr : Int), (Bb : Int)) :: l) i) = fun i => (q i || (false || decide (T ≤ i ∧ i < T + (Bb + 1 - T)))) || inR l i := by
      funext i
      unfold inR
      rw [List.any_cons, Bool.false_or, Bool.or_assoc]
      congr 2
      rw [Bool.eq_iff_iff, decide_eq_true_eq, decide_eq_true_eq]
      dsimp only
      omega
    rw [eC, eR, List.map_cons, List.map_cons]
    refine (DL.loop_step _ _ _ _ _ (pS n x AD b (some (.p (.int (L : Int)))) (some (.p (.int (T : Int)))) (some (.p (.int (Rr : Int)))) (some (.p (.int (Bb : Int)))) s8 s9 ((M.set ic (lsO (orA p b cs))).set ir (lsO (orA q b rs)))) (pS n x AD b (some (.p (.int (L : Int)))) (some (.p (.int (T : Int)))) (some (.p (.int (Rr : Int)))) (some (.p (.int (Bb : Int)))) s8a s9a ((M.set ic (lsO (orA (fun i => p i || (false || decide (L ≤ i ∧ i < L + (Rr + 1 - L)))) b cs))).set ir (lsO (orA (fun i => q i || (false || decide (T ≤ i ∧ i < T + (Bb + 1 - T)))) b rs)))) ?_ ?_).trans ih
    · simp [paG, pS, en_ar]
    · unfold paB
      rw [seq_nx _ _ _ _ (for_run _ _ _ _ _ _ _ (rng2 L Rr _ _ 4 6 rfl rfl rfl (by omega) (by omega)) l1)]
      exact for_run _ _ _ _ _ _ _ (rng2 T Bb _ _ 5 7 rfl rfl rfl (by omega) (by omega)) l2
end
end Law.R
namespace Law.R
open Law
open PySem L2 DL
section
variable {C : Addr} {n ig iu ic ir N : Nat} {us : Us} {cs rs : List Nat} {M : List O} {g : Rg}
theorem GW.lts (v : GW C n ig iu ic ir g N us cs rs M) : n < M.length ∧ ig < M.length ∧ iu < M.length ∧ ic < M.length ∧ ir < M.length := ⟨lt_of_at v.v.i0, lt_of_at v.gg, lt_of_at v.v.gu, lt_of_at v.v.gc, lt_of_at v.v.gr⟩
theorem rem_gw (v : GW C n ig iu ic ir g N us cs rs M) (x : Ad) : GW C n ig iu M.length (M.length + 1) (dropA g x) (clr x N) (dropA us x) (cs.map (clr x)) (rs.map (clr x)) (remM C n ig iu ic ir g N us cs rs x M) ∧ Fr [n, ig, iu, ic, ir] M [n, ig, iu, M.length, M.length + 1] (remM C n ig iu ic ir g N us cs rs x M) := by
  obtain ⟨d1, d2, d3, d4, d5, d6, d7, d8, d9, d10⟩ := nodup5 v.ds
  obtain ⟨ln, lg, lu, lc, lr⟩ := v.lts
  have kn := nice_kv eR nc_eR (dropA g x) M.length
  have ku := nice_kv eM (fun _ => rfl) (dropA us x) M.length
  have n1 := v.ni.set ig kn.1 kn.2
  have l1 : (M.set ig (kvO eR (dropA g x))).length = M.length := List.length_set ..
  have n2 := n1.set iu (by rw [l1]; exact ku.1) ku.2
  have l2 : ((M.set ig (kvO eR (dropA g x))).set iu (kvO eM (dropA us x))).length = M.length := (List.length_set ..).trans l1
  have n3 := n2.set ic (o := .gone) rfl rfl
  have n4 := n3.set ir (o := .gone) rfl rfl
  have l4 : ((((M.set ig (kvO eR (dropA g x))).set iu (kvO eM (dropA us x))).set ic .gone).set ir .gone).length = M.length := by rw [List.length_set, List.length_set, l2]
  have n5 := n4.app (o := lsO (cs.map (clr x))) (nice_ls _ _).1 (nice_ls _ 0).2
  have n6 := n5.app (o := lsO (rs.map (clr x))) (nice_ls _ _).1 (nice_ls _ 0).2
  rw [List.append_assoc] at n6
  have n6 : Nice (((((M.set ig (kvO eR (dropA g x))).set iu (kvO eM (dropA us x))).set ic .gone).set ir .gone) ++ [lsO (cs.map (clr x)), lsO (rs.map (clr x))]) := n6
  have gA : ∀ i, i < M.length → i ≠ ic → i ≠ ir → i ≠ n → (remM C n ig iu ic ir g N us cs rs x M)[i]? = ((M.set ig (kvO eR (dropA g x))).set iu (kvO eM (dropA us x)))[i]? := fun i h1 h2 h3 h4 => by
    unfold remM
    rw [List.getElem?_set_ne h4.symm, List.getElem?_append_left (by rw [l4]; exact h1), List.getElem?_set_ne h3.symm, List.getElem?_set_ne h2.symm]
  have gB : ∀ j, (remM C n ig iu ic ir g N us cs rs x M)[M.length + j]? = [lsO (cs.map (clr x)), lsO (rs.map (clr x))][j]? := fun j => by
    unfold remM
    rw [List.getElem?_set_ne (by omega), List.getElem?_append_right (by rw [l4]; omega), l4]
    congr 1
    omega
  have l6 : (((((M.set ig (kvO eR (dropA g x))).set iu (kvO eM (dropA us x))).set ic .gone).set ir .gone) ++ [lsO (cs.map (clr x)), lsO (rs.map (clr x))]).length = M.length + 2 := by rw [List.length_append, l4]; rfl
  have lR : (remM C n ig iu ic ir g N us cs rs x M).length = M.length + 2 := by unfold remM; rw [List.length_set, l6]
  have ki := nice_ins (C := C) (iu := iu) (ic := M.length) (ir := M.length + 1) (N := clr x N) (n := M.length + 2) (rf := .o ig) (by simp [ltO]; omega) rfl (by omega) (by omega) (by omega)
  refine ⟨⟨⟨?_, ?_, gB 0, gB 1⟩, ?_, ?_, ?_⟩, ⟨by rw [lR]; omega, fun i h1 h2 => ?_, fun y hy => ?_⟩⟩
  · unfold remM
    exact List.getElem?_set_self (by rw [l6]; omega)
  · rw [gA iu lu d8 d9 d2.symm]
    exact List.getElem?_set_self (by rw [l1]; exact lu)
  · rw [gA ig lg d6 d7 d1.symm, List.getElem?_set_ne d5.symm]
    exact List.getElem?_set_self lg
  · simp only [List.nodup_cons, List.mem_cons, List.not_mem_nil, or_false, not_or, List.nodup_nil, not_false_eq_true, and_true]
    omega
  · unfold remM
    exact n6.set n (by rw [l6]; exact ki.1) ki.2
  · simp only [List.mem_cons, List.not_mem_nil, or_false, not_or] at h2
    rw [gA i h1 h2.2.2.2.1 h2.2.2.2.2 h2.1, List.getElem?_set_ne (Ne.symm h2.2.2.1), List.getElem?_set_ne (Ne.symm h2.2.1)]
  · simp only [List.mem_cons, List.not_mem_nil, or_false] at hy ⊢
    omega
/-- what a change gives -/
structure Chg (n ig iu ic ir ic' ir' : Nat) (M M' : List O) : Prop where
  fr : Fr [n, ig, iu, ic, ir] M [n, ig, iu, ic', ir'] M'
  up : (M'.length = M.length) ∨ M.length ≤ ic'
theorem remove_spec (Ps : List Addr) (hC : Ps.getD 0 0 = C) (v : GW C n ig iu ic ir g N us cs rs M) (h : GS g N us cs rs) (x : Ad) :
    ∃ ic' ir' N' us' cs' rs' M', m_Graph_remove Ps [.o n, .p (En.en x)] M = some (.ok (.p .non) M') ∧ GW C n ig iu ic' ir' (dropA g x) N' us' cs' rs' M' ∧ GS (dropA g x) N' us' cs' rs' ∧ Chg n ig iu ic ir ic' ir' M M' := by
  by_cases hk : x ∈ keysA g
  · obtain ⟨w, f⟩ := rem_gw v x
    exact ⟨_, _, _, _, _, _, _, remove_yes Ps hC v h hk, w, gs_drop h (h.ok.xk x hk), f, .inr (Nat.le_refl _)⟩
  · have e : dropA g x = g := by
      unfold dropA
      rw [List.filter_eq_self]
      intro q hq
      rw [decide_eq_true_eq]
      exact fun e => hk (List.mem_map.mpr ⟨q, hq, e⟩)
    rw [e]
    exact ⟨ic, ir, N, us, cs, rs, M, remove_no Ps hC v hk, v, h, .refl _ _, .inl rfl⟩
/-! ### an address is put -/
theorem putA_new {α : Type} {l : List (Ad × α)} {x : Ad} {v : α} (h : x ∉ keysA l) : putA l x v = l ++ [(x, v)] := by unfold putA; rw [if_neg h]
theorem look_app {α : Type} {l : List (Ad × α)} {x y : Ad} {v : α} (h : x ∉ keysA l) : look (l ++ [(x, v)]) y = if y = x then some v else look l y := by
  induction l with
  | nil => rw [List.nil_append, look_cons]; by_cases e : x = y <;> simp [e, look, eq_comm]
  | cons q l ih =>
    have h' : q.1 ≠ x ∧ x ∉ keysA l := by
      unfold keysA at h ⊢
      rw [List.map_cons, List.mem_cons, not_or] at h
      exact ⟨fun e => h.1 e.symm, h.2⟩
    rw [List.cons_append, look_cons, ih h'.2, look_cons]
    by_cases hy : q.1 = y
    · rw [if_pos hy, if_pos hy, if_neg (by rw [← hy]; exact h'.1)]
    · rw [if_neg hy, if_neg hy]
theorem rg_app {g : Rg} {x y : Ad} {l : List Ar} (h : x ∉ keysA g) : rg (g ++ [(x, l)]) y = if y = x then l else rg g y := by
  unfold rg
  rw [look_app h]
  split <;> rfl
theorem key_app {α : Type} {g : List (Ad × α)} {x y : Ad} {l : α} : y ∈ keysA (g ++ [(x, l)]) ↔ y ∈ keysA g ∨ y = x := by
  unfold keysA
  rw [List.map_append, List.mem_append]
  simp
theorem pow_bit {x y : Ad} (hx : okX x) (hy : okX y) (v : Nat) : (v ||| 2 ^ ixK x).testBit (ixK y) = true ↔ v.testBit (ixK y) = true ∨ y = x := by
  rw [Nat.testBit_or, Bool.or_eq_true, Nat.testBit_two_pow, decide_eq_true_eq]
  constructor
  · rintro (a | a)
    · exact .inl a
    · exact .inr (ix_inj hy hx a.symm)
  · rintro (a | a)
    · exact .inl a
    · exact .inr (by rw [a])
theorem orA_some {p : Nat → Bool} {b i v : Nat} {cs : List Nat} (h : (orA p b cs)[i]? = some v) : ∃ w, cs[i]? = some w ∧ v = if p i = true then w ||| b else w := by
  rw [orA_get] at h
  obtain ⟨w, hw, e⟩ := Option.map_eq_some_iff.mp h
  exact ⟨w, hw, e.symm⟩
theorem okG.app (h : okG g) {x : Ad} (hx : okX x) (hk : x ∉ keysA g) {l : List Ar} (hl : gdA l) (hn : l.length ≤ 1000) (hg : g.length < 1000) : okG (g ++ [(x, l)]) where
  nd := by
    unfold keysA
    rw [List.map_append]
    refine List.nodup_append.mpr ⟨h.nd, by simp, fun a ha b hb e => ?_⟩
    have hb : b = x := by simpa using hb
    rw [hb] at e
    exact hk (e ▸ ha)
  ln := by rw [List.length_append, List.length_singleton]; omega
  xk := fun y hy => by
    rcases key_app.mp hy with q | q
    · exact h.xk y q
    · rw [q]; exact hx
  gd := fun y => by
    rw [rg_app hk]; split
    · exact hl
    · exact h.gd y
  rl := fun y => by
    rw [rg_app hk]; split
    · exact hn
    · exact h.rl y
theorem gs_put (h : GS g N us cs rs) {x : Ad} (hx : okX x) (hk : x ∉ keysA g) {l : List Ar} (hl : gdA l) (hn : l.length ≤ 1000) (hg : g.length < 1000) :
    GS (g ++ [(x, l)]) (N ||| 2 ^ ixK x) (us ++ [(x, maskL l)]) (orA (inC l) (2 ^ ixK x) cs) (orA (inR l) (2 ^ ixK x) rs) where
  ok := h.ok.app hx hk hl hn hg
  nk := okS_or h.nk fun j hj => by
    rw [Nat.testBit_two_pow, decide_eq_false_iff_not]
    have := ix_lt hx
    omega
  hN := fun y hy => by rw [pow_bit hx hy, h.hN y hy, key_app]
  uk := by
    unfold keysA
    rw [List.map_append, List.map_append]
    have := h.uk
    unfold keysA at this
    rw [this]; rfl
  hu := fun y => by
    rw [look_app (by rw [h.uk]; exact hk), look_app hk]
    split
    · rfl
    · exact h.hu y
  cl := by rw [orA_len]; exact h.cl
  rl := by rw [orA_len]; exact h.rl
  hc := fun i v hv y hy => by
    obtain ⟨w, hw, rfl⟩ := orA_some hv
    have q := h.hc i w hw y hy
    rw [key_app, rg_app hk]
    by_cases hyx : y = x
    · subst hyx
      rw [if_pos rfl]
      have nb : w.testBit (ixK y) = false := by
        cases e : w.testBit (ixK y) with
        | false => rfl
        | true => exact absurd (q.mp e).1 hk
      unfold inC
      cases e : l.any fun a => decide (a.1.1 ≤ (i : Int) ∧ (i : Int) ≤ a.2.1) with
      | true =>
        rw [if_pos rfl, pow_bit hx hy]
        rw [List.any_eq_true] at e
        obtain ⟨a, h1, h2⟩ := e
        rw [decide_eq_true_eq] at h2
        exact ⟨fun _ => ⟨.inr rfl, a, h1, h2⟩, fun _ => .inr rfl⟩
      | false =>
        rw [if_neg Bool.false_ne_true, nb]
        refine ⟨(fun z => nomatch z), fun ⟨_, a, h1, h2⟩ => ?_⟩
        have := List.any_eq_false.mp e a h1
        rw [decide_eq_true_eq] at this
        exact absurd h2 this
    · rw [if_neg hyx]
      have e : (if inC l i = true then w ||| 2 ^ ixK x else w).testBit (ixK y) = true ↔ w.testBit (ixK y) = true := by
        split
        · rw [pow_bit hx hy]; exact ⟨fun z => z.resolve_right hyx, .inl⟩
        · exact Iff.rfl
      rw [e, q]
      exact ⟨fun ⟨a, b⟩ => ⟨.inl a, b⟩, fun ⟨a, b⟩ => ⟨a.resolve_right hyx, b⟩⟩
  hr := fun i v hv y hy => by
    obtain ⟨w, hw, rfl⟩ := orA_some hv
    have q := h.hr i w hw y hy
    rw [key_app, rg_app hk]
    by_cases hyx : y = x
    · subst hyx
      rw [if_pos rfl]
      have nb : w.testBit (ixK y) = false := by
        cases e : w.testBit (ixK y) with
        | false => rfl
        | true => exact absurd (q.mp e).1 hk
      unfold inR
      cases e : l.any fun a => decide (a.1.2 ≤ (i : Int) ∧ (i : Int) ≤ a.2.2) with
      | true =>
        rw [if_pos rfl, pow_bit hx hy]
        rw [List.any_eq_true] at e
        obtain ⟨a, h1, h2⟩ := e
        rw [decide_eq_true_eq] at h2
        exact ⟨fun _ => ⟨.inr rfl, a, h1, h2⟩, fun _ => .inr rfl⟩
      | false =>
        rw [if_neg Bool.false_ne_true, nb]
        refine ⟨(fun z => nomatch z), fun ⟨_, a, h1, h2⟩ => ?_⟩
        have := List.any_eq_false.mp e a h1
        rw [decide_eq_true_eq] at this
        exact absurd h2 this
    · rw [if_neg hyx]
      have e : (if inR l i = true then w ||| 2 ^ ixK x else w).testBit (ixK y) = true ↔ w.testBit (ixK y) = true := by
        split
        · rw [pow_bit hx hy]; exact ⟨fun z => z.resolve_right hyx, .inl⟩
        · exact Iff.rfl
      rw [e, q]
      exact ⟨fun ⟨a, b⟩ => ⟨.inl a, b⟩, fun ⟨a, b⟩ => ⟨a.resolve_right hyx, b⟩⟩
end
end Law.R
namespace Law.R
open Law
open PySem L2 DL
section
variable {C : Addr} {n ig iu ic ir N : Nat} {us : Us} {cs rs : List Nat} {M : List O} {g : Rg}
/-- the memory behind an address that is put (it was none before) -/
def putMm (C : Addr) (n ig iu ic ir : Nat) (g : Rg) (N : Nat) (us : Us) (cs rs : List Nat) (x : Ad) (l : List Ar) (M : List O) : List O :=
  ((((M.set ig (kvO eR (g ++ [(x, l)]))).set iu (kvO eM (us ++ [(x, maskL l)]))).set n (.ins C (gfs iu ic ir (.o ig) (N ||| 2 ^ ixK x)))).set ic (lsO (orA (inC l) (2 ^ ixK x) cs))).set ir (lsO (orA (inR l) (2 ^ ixK x) rs))
theorem put_gw (v : GW C n ig iu ic ir g N us cs rs M) (x : Ad) (l : List Ar) : GW C n ig iu ic ir (g ++ [(x, l)]) (N ||| 2 ^ ixK x) (us ++ [(x, maskL l)]) (orA (inC l) (2 ^ ixK x) cs) (orA (inR l) (2 ^ ixK x) rs) (putMm C n ig iu ic ir g N us cs rs x l M) ∧ Fr [n, ig, iu, ic, ir] M [n, ig, iu, ic, ir] (putMm C n ig iu ic ir g N us cs rs x l M) ∧ (putMm C n ig iu ic ir g N us cs rs x l M).length = M.length := by
  obtain ⟨d1, d2, d3, d4, d5, d6, d7, d8, d9, d10⟩ := nodup5 v.ds
  obtain ⟨ln, lg, lu, lc, lr⟩ := v.lts
  have kn := nice_kv eR nc_eR (g ++ [(x, l)]) M.length
  have ku := nice_kv eM (fun _ => rfl) (us ++ [(x, maskL l)]) M.length
  have ki := nice_ins (C := C) (iu := iu) (ic := ic) (ir := ir) (N := N ||| 2 ^ ixK x) (n := M.length) (rf := .o ig) (by simp [ltO]; omega) rfl lu lc lr
  have n1 := v.ni.set ig kn.1 kn.2
  have l1 : (M.set ig (kvO eR (g ++ [(x, l)]))).length = M.length := List.length_set ..
  have n2 := n1.set iu (by rw [l1]; exact ku.1) ku.2
  have l2 : ((M.set ig (kvO eR (g ++ [(x, l)]))).set iu (kvO eM (us ++ [(x, maskL l)]))).length = M.length := (List.length_set ..).trans l1
  have n3 := n2.set n (by rw [l2]; exact ki.1) ki.2
  have l3 : (((M.set ig (kvO eR (g ++ [(x, l)]))).set iu (kvO eM (us ++ [(x, maskL l)]))).set n (.ins C (gfs iu ic ir (.o ig) (N ||| 2 ^ ixK x)))).length = M.length := (List.length_set ..).trans l2
  have n4 := n3.set ic (o := lsO (orA (inC l) (2 ^ ixK x) cs)) (nice_ls _ _).1 (nice_ls _ 0).2
  have n5 := n4.set ir (o := lsO (orA (inR l) (2 ^ ixK x) rs)) (nice_ls _ _).1 (nice_ls _ 0).2
  refine ⟨⟨⟨?_, ?_, ?_, ?_⟩, ?_, v.ds, n5⟩, (((Fr.set (by simp)).trans (Fr.set (by simp))).trans (Fr.set (by simp))).trans ((Fr.set (by simp)).trans (Fr.set (by simp))), by unfold putMm; rw [List.length_set, List.length_set, l3]⟩
  all_goals unfold putMm
  · rw [List.getElem?_set_ne d4.symm, List.getElem?_set_ne d3.symm]
    exact List.getElem?_set_self (by rw [l2]; exact ln)
  · rw [List.getElem?_set_ne d9.symm, List.getElem?_set_ne d8.symm, List.getElem?_set_ne d2]
    exact List.getElem?_set_self (by rw [l1]; exact lu)
  · rw [List.getElem?_set_ne d10.symm]
    exact List.getElem?_set_self (by rw [l3]; exact lc)
  · exact List.getElem?_set_self (by rw [List.length_set, l3]; exact lr)
  · rw [List.getElem?_set_ne d7.symm, List.getElem?_set_ne d6.symm, List.getElem?_set_ne d1, List.getElem?_set_ne d5.symm]
    exact List.getElem?_set_self lg
theorem putM_kvO {α : Type} (enc : α → D) {M : List O} {i : Nat} {l : List (Ad × α)} (h : M[i]? = some (kvO enc l)) {x : Ad} (hx : x ∉ keysA l) (v : α) (hl : l.length < 1000000) : putM M i (En.en x) (.p (enc v)) = some (M.set i (kvO enc (l ++ [(x, v)]))) := by
  rw [putM_T h (keyT_sp x) (by unfold kvD; rw [List.length_map, List.length_map]; exact hl), put_kv, putA_new hx]
  rfl
theorem put_new (Ps : List Addr) (hC : Ps.getD 0 0 = C) (v : GW C n ig iu ic ir g N us cs rs M) (h : GS g N us cs rs) {x : Ad} (hx : okX x) (hk : x ∉ keysA g) {l : List Ar} (hl : gdA l) (hg : g.length < 1000) (K : DL.S → Prop) :
    ∃ L, (sSeq (sAsg (mCallA 1 m_bit_of (aCons (mVar 1) aNil)) (gN 3))
  (sSeq (sPut (mCB (g1 dList) (aCons (mVar 2) aNil)) (mFld C (PySem.Str.ofString "ranges") (mVar 0)) (mVar 1))
  (sSeq (sPut (mCallA 1 m_mask_of_all (aCons (mVar 2) aNil)) (mFld C (PySem.Str.ofString "_uses") (mVar 0)) (mVar 1))
  (sSeq (sFldM C (PySem.Str.ofString "_cells") (mBin dBor (mFld C (PySem.Str.ofString "_cells") (mVar 0)) (mVar 3)) (mVar 0))
  (sFor (mItD itL (mVar 2)) paG (paB C)))))) ⟨slotsOf 10 [.o n, .p (En.en x), .p (.lst (l.map En.en))], M⟩ = some (.nx, ⟨L, putMm C n ig iu ic ir g N us cs rs x l M⟩) := by
  obtain ⟨d1, d2, d3, d4, d5, d6, d7, d8, d9, d10⟩ := nodup5 v.ds
  obtain ⟨ln, lg, lu, lc, lr⟩ := v.lts
  have ul : us.length < 1000000 := by
    have := congrArg List.length h.uk
    unfold keysA at this
    rw [List.length_map, List.length_map] at this
    omega
  have s1 : (sAsg (mCallA 1 m_bit_of (aCons (mVar 1) aNil)) (gN 3)) ⟨slotsOf 10 [.o n, .p (En.en x), .p (.lst (l.map En.en))], M⟩ = some (.nx, pS n x (.lst (l.map En.en)) (2 ^ ixK x) none none none none none none M) :=
    asg_run _ _ _ _ M _ (callA1r m_bit_of (mVar 1) _ M _ _ rfl (bit_spec hx)) rfl
  rw [seq_nx _ _ _ _ s1]
  have eL : mCB (g1 dList) (aCons (mVar 2) aNil) (pS n x (.lst (l.map En.en)) (2 ^ ixK x) none none none none none none M) = some (.ok (.p (eR l)) M) := rfl
  have s2 := put_run _ (mFld C (PySem.Str.ofString "ranges") (mVar 0)) (mVar 1) (pS n x (.lst (l.map En.en)) (2 ^ ixK x) none none none none none none M) M M M _ ig _ (En.en x) eL (fld_run C _ (mVar 0) _ M n _ _ rfl v.v.i0 lk_r) rfl (putM_kvO eR v.gg hk l (by omega))
  rw [seq_nx _ _ _ _ s2]
  have i2 : (M.set ig (kvO eR (g ++ [(x, l)])))[n]? = some (.ins C (gfs iu ic ir (.o ig) N)) := by rw [List.getElem?_set_ne d1.symm]; exact v.v.i0
  have u2 : (M.set ig (kvO eR (g ++ [(x, l)])))[iu]? = some (kvO eM us) := by rw [List.getElem?_set_ne d5]; exact v.v.gu
  have c2 : (M.set ig (kvO eR (g ++ [(x, l)])))[ic]? = some (lsO cs) := by rw [List.getElem?_set_ne d6]; exact v.v.gc
  have r2 : (M.set ig (kvO eR (g ++ [(x, l)])))[ir]? = some (lsO rs) := by rw [List.getElem?_set_ne d7]; exact v.v.gr
  have l2 : (M.set ig (kvO eR (g ++ [(x, l)]))).length = M.length := List.length_set ..
  unfold putMm
  generalize M.set ig (kvO eR (g ++ [(x, l)])) = M2 at *
  have s3 := put_run _ (mFld C (PySem.Str.ofString "_uses") (mVar 0)) (mVar 1) (pS n x (.lst (l.map En.en)) (2 ^ ixK x) none none none none none none M2) M2 M2 M2 _ iu _ (En.en x) (callA1r m_mask_of_all (mVar 2) _ M2 _ _ rfl (mall_spec hl)) (fld_run C _ (mVar 0) _ M2 n _ _ rfl i2 lk_u) rfl (putM_kvO eM u2 (by rw [h.uk]; exact hk) (maskL l) ul)
  rw [seq_nx _ _ _ _ s3]
  have i3 : (M2.set iu (kvO eM (us ++ [(x, maskL l)])))[n]? = some (.ins C (gfs iu ic ir (.o ig) N)) := by rw [List.getElem?_set_ne d2.symm]; exact i2
  have c3 : (M2.set iu (kvO eM (us ++ [(x, maskL l)])))[ic]? = some (lsO cs) := by rw [List.getElem?_set_ne d8]; exact c2
  have r3 : (M2.set iu (kvO eM (us ++ [(x, maskL l)])))[ir]? = some (lsO rs) := by rw [List.getElem?_set_ne d9]; exact r2
  have l3 : (M2.set iu (kvO eM (us ++ [(x, maskL l)]))).length = M.length := (List.length_set ..).trans l2
  generalize M2.set iu (kvO eM (us ++ [(x, maskL l)])) = M3 at *
  have s4 := fldM_run C (PySem.Str.ofString "_cells") (mBin dBor (mFld C (PySem.Str.ofString "_cells") (mVar 0)) (mVar 3)) (mVar 0) (pS n x (.lst (l.map En.en)) (2 ^ ixK x) none none none none none none M3) M3 M3 n _ _ (bin_run dBor _ _ _ M3 M3 (eM N) (eM (2 ^ ixK x)) (eM (N ||| 2 ^ ixK x)) (fld_run C _ (mVar 0) _ M3 n _ _ rfl i3 lk_n) rfl (by show some (D.int _) = _; rw [bor_nat]; rfl)) rfl i3 (by unfold gfs; simp)
  rw [show (DV.p (eM (N ||| 2 ^ ixK x))) = .p (.int ((N ||| 2 ^ ixK x : Nat) : Int)) from rfl, put_n] at s4
  rw [seq_nx _ _ _ _ s4]
  have i4 : (M3.set n (.ins C (gfs iu ic ir (.o ig) (N ||| 2 ^ ixK x))))[n]? = some (.ins C (gfs iu ic ir (.o ig) (N ||| 2 ^ ixK x))) := List.getElem?_set_self (by omega)
  have c4 : (M3.set n (.ins C (gfs iu ic ir (.o ig) (N ||| 2 ^ ixK x))))[ic]? = some (lsO cs) := by rw [List.getElem?_set_ne d3]; exact c3
  have r4 : (M3.set n (.ins C (gfs iu ic ir (.o ig) (N ||| 2 ^ ixK x))))[ir]? = some (lsO rs) := by rw [List.getElem?_set_ne d4]; exact r3
  have l4 : (M3.set n (.ins C (gfs iu ic ir (.o ig) (N ||| 2 ^ ixK x)))).length = M.length := (List.length_set ..).trans l3
  generalize M3.set n (.ins C (gfs iu ic ir (.o ig) (N ||| 2 ^ ixK x))) = M4 at *
  obtain ⟨s4', s5', s6', s7', s8', s9', lp⟩ := pa_loop (C := C) (n := n) (iu := iu) (rf := .o ig) (N := N ||| 2 ^ ixK x) d3 d4 d10 x (.lst (l.map En.en)) (2 ^ ixK x) M4 i4 cs rs h.cl h.rl (by omega) (by omega) l (fun _ => false) (fun _ => false) none none none none none none hl
  have e0 : (M4.set ic (lsO (orA (fun _ => false) (2 ^ ixK x) cs))).set ir (lsO (orA (fun _ => false) (2 ^ ixK x) rs)) = M4 := by
    rw [orA_no (fun _ => rfl), orA_no (fun _ => rfl)]
    have a1 : M4.set ic (lsO cs) = M4 := by
      obtain ⟨hlt, he⟩ := List.getElem?_eq_some_iff.mp c4
      rw [← he, List.set_getElem_self]
    have a2 : M4.set ir (lsO rs) = M4 := by
      obtain ⟨hlt, he⟩ := List.getElem?_eq_some_iff.mp r4
      rw [← he, List.set_getElem_self]
    rw [a1, a2]
  have eC : (fun i => false || inC l i) = inC l := by funext i; rw [Bool.false_or]
  have eR : (fun i => false || inR l i) = inR l := by funext i; rw [Bool.false_or]
  rw [e0, eC, eR] at lp
  refine ⟨(pS n x (.lst (l.map En.en)) (2 ^ ixK x) s4' s5' s6' s7' s8' s9' M4).l, for_run _ _ _ _ _ _ _ (it_var 2 _ M4 (l.map En.en) rfl) lp⟩
theorem put_spec (Ps : List Addr) (hC : Ps.getD 0 0 = C) (v : GW C n ig iu ic ir g N us cs rs M) (h : GS g N us cs rs) {x : Ad} (hx : okX x) {l : List Ar} (hl : gdA l) (hn : l.length ≤ 1000) (hg : g.length < 1000) :
    ∃ ic' ir' N' us' cs' rs' M', m_Graph_put Ps [.o n, .p (En.en x), .p (.lst (l.map En.en))] M = some (.ok (.p .non) M') ∧ GW C n ig iu ic' ir' (dropA g x ++ [(x, l)]) N' us' cs' rs' M' ∧ GS (dropA g x ++ [(x, l)]) N' us' cs' rs' ∧ Chg n ig iu ic ir ic' ir' M M' := by
  obtain ⟨ic', ir', N1, us1, cs1, rs1, M1, e1, w1, h1, c1⟩ := remove_spec Ps hC v h x
  have hk : x ∉ keysA (dropA g x) := fun q => (mem_drop.mp q).2 rfl
  have hg1 : (dropA g x).length < 1000 := Nat.lt_of_le_of_lt (dropA_len g x) hg
  obtain ⟨L, e2⟩ := put_new Ps hC w1 h1 hx hk hl hg1 (fun _ => True)
  obtain ⟨w2, f2, l2⟩ := put_gw w1 x l
  refine ⟨ic', ir', _, _, _, _, _, ?_, w2, gs_put h1 hx hk hl hn hg1, ⟨c1.fr.trans f2, by rw [l2]; exact c1.up⟩⟩
  unfold m_Graph_put b_Graph_put runB
  rw [hC]
  have e3 := meth_run C (PySem.Str.ofString "remove") 1 (m_Graph_remove Ps) (mVar 0) (aCons (mVar 1) aNil) ⟨slotsOf 10 [.o n, .p (En.en x), .p (.lst (l.map En.en))], M⟩ M M n _ _ rfl v.v.i0 (lk_meth (by simp)) (aCons_run (mVar 1) aNil _ M M _ [] rfl rfl) rfl
  rw [e1] at e3
  have s1 : sExpr (mMeth C (PySem.Str.ofString "remove") 1 (m_Graph_remove Ps) (mVar 0) (aCons (mVar 1) aNil)) ⟨slotsOf 10 [.o n, .p (En.en x), .p (.lst (l.map En.en))], M⟩ = some (.nx, ⟨slotsOf 10 [.o n, .p (En.en x), .p (.lst (l.map En.en))], M1⟩) := by
    unfold sExpr liftS
    rw [e3]
  rw [seq_nx _ _ _ _ s1, e2]
  dsimp only
  rcases c1.up with q | q
  · rw [dropM_len (by rw [l2]; exact q)]
  · rw [dropM_keep w2.v.i0 v.lts.1 (open_ins q)]
end
end Law.R
namespace Law.R
open Law
open PySem L2 DL
/-! ## the law: a graph is drawn -/
instance daN (Ts : List O) (n : Nat) (sv : DV) : DA n sv (Dn Ts n sv) where
  len h := h.b.len
  cl h := h.b.cl
  tk h hm k := wp_takeN h hm k
variable {Ts : List O} {n : Nat} {sv : DV}
theorem wp_address {n : Nat} {I : List O → Prop} [DA n sv I] {B Rr : List O} {P : DV → List O → Prop} (h : I B) (k : ∀ (x : Ad) B', I B' → okX x → P (.p (En.en x)) (B' ++ Rr)) : wpB (m_l_address [sv] (B ++ Rr)) P := by
  simp [m_l_address, b_l_address]
  refine wp_t h (by decide) fun r B1 d1 _ b1 => ?_
  have b1 := b1 (by decide)
  obtain ⟨z1, h1, e1⟩ := atI_t [0, 0, 1, 1, 2, 2, 3, 4] r b1.1 b1.2
  have c1 : 0 ≤ z1 ∧ z1 < 5 := by
    simp at h1; omega
  obtain ⟨y1, h2, e2⟩ := atI_t [0, 1, 2, 3, 25] z1 c1.1 c1.2
  have c2 : 0 ≤ y1 ∧ y1 < 26 := by simp at h2; omega
  simp only [List.map_cons, List.map_nil] at e1 e2
  simp [e1, e2]
  refine wp_t d1 (by decide) fun r2 B2 d2 _ b2 => ?_
  have b2 := b2 (by decide)
  obtain ⟨z2, h3, e3⟩ := atI_t [0, 0, 1, 1, 2, 2, 3, 4] r2 b2.1 b2.2
  have c3 : 0 ≤ z2 ∧ z2 < 5 := by
    simp at h3; omega
  obtain ⟨y2, h4, e4⟩ := atI_t [0, 1, 2, 3, 98] z2 c3.1 c3.2
  have c4 : 0 ≤ y2 ∧ y2 < 99 := by simp at h4; omega
  simp only [List.map_cons, List.map_nil] at e3 e4
  simp [e3, e4]
  rw [dropM_same (n := n) ((DA.len (I := I) h).trans (DA.len (I := I) d2).symm)]
  exact k (y1, y2) B2 d2 ⟨c2.1, c2.2, c4.1, c4.2⟩
/-- what is known between the turns -/
def LI (Ts : List O) (n : Nat) (sv : DV) (C : Addr) (t : Nat) (B R : List O) : Prop := Dn Ts n sv B ∧ ∃ (ic ir : Nat) (g : Rg) (N : Nat) (us : Us) (cs rs : List Nat) (l : Rg), GW C n (n + 1) (n + 2) ic ir g N us cs rs (B ++ R) ∧ GS g N us cs rs ∧ (B ++ R)[n + 5]? = some (kvO eR l) ∧
  n ≤ ic ∧ n ≤ ir ∧ ic ≠ n + 5 ∧ ir ≠ n + 5 ∧ okG l ∧ (∀ y, look l y = look g y) ∧ l.length ≤ t ∧ g.length ≤ t
theorem Nice.front {B B' R : List O} (hl : B'.length = B.length) (h : Nice (B ++ R)) (h1 : B'.all (closed B'.length) = true) (h2 : ncM B' = true) : Nice (B' ++ R) := by
  have a := h.cl
  have b := h.nc
  rw [List.all_append, Bool.and_eq_true] at a
  rw [ncM_app, Bool.and_eq_true] at b
  refine ⟨?_, by rw [ncM_app, h2, b.2]; rfl⟩
  have e : (B' ++ R).length = (B ++ R).length := by rw [List.length_append, List.length_append, hl]
  rw [List.all_append, e, a.2, closed_le (by rw [List.length_append, ← hl]; omega) h1]
  rfl
theorem get_front {B B' R : List O} (hl : B'.length = B.length) {i : Nat} (hi : B.length ≤ i) : (B' ++ R)[i]? = (B ++ R)[i]? := by
  rw [List.getElem?_append_right hi, List.getElem?_append_right (by rw [hl]; exact hi), hl]
theorem Dn.cll {B : List O} (h : Dn Ts n sv B) : B.all (closed B.length) = true := by rw [h.b.len]; exact h.b.cl
theorem LI.draw {C : Addr} {t : Nat} {B B' R : List O} (h : LI Ts n sv C t B R) (d : Dn Ts n sv B') : LI Ts n sv C t B' R := by
  obtain ⟨d0, ic, ir, g, N, us, cs, rs, l, w, s, lr, h1, h2, h3, h4, h5, h6, h7, h8⟩ := h
  have hl : B'.length = B.length := d.b.len.trans d0.b.len.symm
  have hb := d0.b.len
  refine ⟨d, ic, ir, g, N, us, cs, rs, l, ⟨w.v.fr (get_front hl (by omega)) (get_front hl (by omega)) (get_front hl (by omega)) (get_front hl (by omega)), (get_front hl (by omega)).trans w.gg, w.ds, w.ni.front hl (Dn.cll d) d.nc⟩, s, (get_front hl (by omega)).trans lr, h1, h2, h3, h4, h5, h6, h7, h8⟩
theorem split_front {B R M' : List O} (h1 : B.length ≤ M'.length) (h2 : ∀ i, i < B.length → M'[i]? = (B ++ R)[i]?) : M' = B ++ M'.drop B.length := by
  refine List.ext_getElem? fun i => ?_
  by_cases hi : i < B.length
  · rw [h2 i hi, List.getElem?_append_left hi, List.getElem?_append_left hi]
  · rw [List.getElem?_append_right (by omega), List.getElem?_drop]
    congr 1
    omega
/-- the graph and the law's ranges after a change -/
theorem LI.chg {C : Addr} {t : Nat} {B R M' : List O} {ic ir ic' ir' : Nat} {g' : Rg} {N' : Nat} {us' : Us} {cs' rs' : List Nat} {l l' : Rg} (d : Dn Ts n sv B) (lr : (B ++ R)[n + 5]? = some (kvO eR l)) (hic : n ≤ ic) (hir : n ≤ ir) (h3 : ic ≠ n + 5) (h4 : ir ≠ n + 5)
    (w : GW C n (n + 1) (n + 2) ic' ir' g' N' us' cs' rs' M') (s : GS g' N' us' cs' rs') (c : Chg n (n + 1) (n + 2) ic ir ic' ir' (B ++ R) M') (ol : okG l') (hl : ∀ y, look l' y = look g' y) (ht : l'.length ≤ t) (hg : g'.length ≤ t) :
    ∃ R', M' = B ++ R' ∧ M'[n + 5]? = some (kvO eR l) ∧ LI Ts n sv C t B (R'.set 5 (kvO eR l')) ∧ (B ++ R').set (n + 5) (kvO eR l') = B ++ R'.set 5 (kvO eR l') := by
  have hb := d.b.len
  have l5 : n + 5 < (B ++ R).length := lt_of_at lr
  have e5 : M'[n + 5]? = some (kvO eR l) := by
    rw [c.fr.same _ l5 (by simp only [List.mem_cons, List.not_mem_nil, or_false, not_or]; omega)]; exact lr
  have e := split_front (B := B) (R := R) (M' := M') (by have := c.fr.len; rw [List.length_append] at this; omega) fun i hi => c.fr.same i (by rw [List.length_append]; omega) (by simp only [List.mem_cons, List.not_mem_nil, or_false, not_or]; omega)
  have es : (B ++ M'.drop B.length).set (n + 5) (kvO eR l') = B ++ (M'.drop B.length).set 5 (kvO eR l') := by
    rw [List.set_append_right _ _ (by omega)]
    congr 2
    omega
  have n1 := c.fr.new ic' (by simp)
  have n2 := c.fr.new ir' (by simp)
  simp only [List.mem_cons, List.not_mem_nil, or_false] at n1 n2
  obtain ⟨d1, d2, d3, d4, d5, d6, d7, d8, d9, d10⟩ := nodup5 w.ds
  have hM : B.length + R.length = (B ++ R).length := List.length_append.symm
  have a1 : ic' ≠ n + 5 ∧ n ≤ ic' := by omega
  have a2 : ir' ≠ n + 5 ∧ n ≤ ir' := by omega
  refine ⟨M'.drop B.length, e, e5, ?_, es⟩
  have w2 : GW C n (n + 1) (n + 2) ic' ir' g' N' us' cs' rs' (M'.set (n + 5) (kvO eR l')) := ⟨w.v.fr (List.getElem?_set_ne (by omega)) (List.getElem?_set_ne (by omega)) (List.getElem?_set_ne (fun q => a1.1 q.symm)) (List.getElem?_set_ne (fun q => a2.1 q.symm)), by rw [List.getElem?_set_ne (by omega)]; exact w.gg, w.ds, w.ni.set _ (nice_kv eR nc_eR l' _).1 (nice_kv eR nc_eR l' 0).2⟩
  rw [e, es] at w2
  have e6 : (B ++ (M'.drop B.length).set 5 (kvO eR l'))[n + 5]? = some (kvO eR l') := by
    rw [← es]
    exact List.getElem?_set_self (by rw [← e]; exact lt_of_at e5)
  exact ⟨d, ic', ir', g', N', us', cs', rs', l', w2, s, e6, a1.2, a2.2, a1.1, a2.1, ol, hl, ht, hg⟩
theorem okG.put {l : Rg} (h : okG l) {x : Ad} (hx : okX x) {v : List Ar} (hv : gdA v) (hn : v.length ≤ 1000) (hl : l.length < 1000) : okG (putA l x v) ∧ ∀ y, look (putA l x v) y = if y = x then some v else look l y := by
  have lk : ∀ y, look (putA l x v) y = if y = x then some v else look l y := fun y => by
    by_cases hk : x ∈ keysA l
    · unfold putA
      rw [if_pos hk]
      have : ∀ l : Rg, look (l.map fun q => if q.1 = x then (x, v) else q) y = if y = x then (look l y).map (fun _ => v) else look l y := fun l => by
        induction l with
        | nil => unfold look; split <;> rfl
        | cons q l ih =>
          rw [List.map_cons, look_cons, ih, look_cons]
          by_cases hq : q.1 = x
          · rw [if_pos hq]
            dsimp only
            by_cases hy : y = x
            · subst hy; rw [if_pos rfl, if_pos rfl, if_pos hq]; rfl
            · rw [if_neg (fun e => hy e.symm), if_neg hy, if_neg hy, if_neg (by rw [hq]; exact fun e => hy e.symm)]
          · rw [if_neg hq]
            by_cases hy : q.1 = y
            · rw [if_pos hy, if_pos hy, if_neg (by rw [← hy]; exact hq)]
            · rw [if_neg hy, if_neg hy]
      rw [this]
      by_cases hy : y = x
      · subst hy
        rw [if_pos rfl, if_pos rfl]
        obtain ⟨z, hz⟩ := look_mem hk
        rw [hz]; rfl
      · rw [if_neg hy, if_neg hy]
    · rw [putA_new hk, look_app hk]
  have rgp : ∀ y, rg (putA l x v) y = if y = x then v else rg l y := fun y => by
    unfold rg
    rw [lk]
    split <;> rfl
  refine ⟨⟨putA_keys l x v h.nd, Nat.le_trans (putA_len l x v) hl, fun y hy => ?_, fun y => ?_, fun y => ?_⟩, lk⟩
  · have := look_key.mpr hy
    rw [lk] at this
    by_cases e : y = x
    · rw [e]; exact hx
    · rw [if_neg e] at this
      exact h.xk y (look_key.mp this)
  · rw [rgp]; split
    · exact hv
    · exact h.gd y
  · rw [rgp]; split
    · exact hn
    · exact h.rl y
end Law.R
namespace Law.R
open Law
open PySem L2 DL
variable {Ts : List O} {n : Nat} {sv : DV}
abbrev LS (s0 : Option DV) (sv : DV) (n : Nat) (s3 s4 s5 s6 s7 s8 s9 s10 s11 : Option DV) (M : List O) : S := ⟨[s0, some sv, some (.o n), s3, s4, s5, s6, s7, s8, s9, s10, s11], M⟩
theorem set_same {M : List O} {i : Nat} {o : O} (h : M[i]? = some o) : M.set i o = M := by
  obtain ⟨hlt, he⟩ := List.getElem?_eq_some_iff.mp h
  rw [← he, List.set_getElem_self]
theorem expr_run (m : EM) (s : DL.S) (M : List O) (d : DV) (h : m s = some (.ok d M)) : sExpr m s = some (.nx, ⟨s.l, M⟩) := by
  unfold sExpr liftS
  rw [h]
theorem dropA_ok {l : Rg} {x : Ad} (h : x ∉ keysA l) : dropA l x = l := by
  unfold dropA
  rw [List.filter_eq_self]
  intro q hq
  rw [decide_eq_true_eq]
  exact fun e => h (List.mem_map.mpr ⟨q, hq, e⟩)
theorem rm_step (Ps : List Addr) {C : Addr} (hC : Ps.getD 0 0 = C) {t : Nat} {B R : List O} (h : LI Ts n sv C t B R) (x : Ad) (s0 s4 s6 s7 s8 s9 s10 s11 : Option DV) : ∃ R', LI Ts n sv C t B R' ∧
    (sSeq (sExpr (mMeth C (PySem.Str.ofString "remove") 1 (m_Graph_remove Ps) (mVar 2) (aCons (mVar 5) aNil)))
      (sIf (mDin false (mVar 5) (mVar 3)) (sExpr (mDpop (mVar 3) (mVar 5))) sNil)) (LS s0 sv n (some (.o (n + 5))) s4 (some (.p (En.en x))) s6 s7 s8 s9 s10 s11 (B ++ R)) = some (.nx, LS s0 sv n (some (.o (n + 5))) s4 (some (.p (En.en x))) s6 s7 s8 s9 s10 s11 (B ++ R')) := by
  obtain ⟨d, ic, ir, g, N, us, cs, rs, l, w, s, lr, h1, h2, h3, h4, h5, h6, h7, h8⟩ := h
  obtain ⟨ic', ir', N', us', cs', rs', M', e, w', s', c⟩ := remove_spec Ps hC w s x
  obtain ⟨R', eM', l5, hLI, es⟩ := LI.chg (l' := dropA l x) (t := t) d lr h1 h2 h3 h4 w' s' c (h5.drop x) (fun y => by rw [dropA_look, dropA_look, h6]) (Nat.le_trans (dropA_len l x) h7) (Nat.le_trans (dropA_len g x) h8)
  refine ⟨_, hLI, ?_⟩
  have e3 := meth_run C (PySem.Str.ofString "remove") 1 (m_Graph_remove Ps) (mVar 2) (aCons (mVar 5) aNil) (LS s0 sv n (some (.o (n + 5))) s4 (some (.p (En.en x))) s6 s7 s8 s9 s10 s11 (B ++ R)) (B ++ R) (B ++ R) n _ _ rfl w.v.i0 (lk_meth (by simp)) (aCons_run (mVar 5) aNil _ (B ++ R) (B ++ R) _ [] rfl rfl) rfl
  rw [e] at e3
  rw [seq_nx _ _ _ _ (expr_run _ _ _ _ e3), ← es, ← eM']
  have q := din_run false (mVar 5) (mVar 3) (LS s0 sv n (some (.o (n + 5))) s4 (some (.p (En.en x))) s6 s7 s8 s9 s10 s11 M') M' M' (.o (n + 5)) (En.en x) _ rfl rfl (getM_kvO eR l5 x)
  by_cases hk : x ∈ keysA l
  · obtain ⟨v, hv⟩ := look_mem hk
    rw [hv] at q
    rw [sif_t _ _ _ _ _ q]
    refine expr_run _ _ _ (.p (eR v)) ?_
    rw [e_dpop]
    unfold bnd
    show (if isDc M' (.o (n + 5)) = true then _ else none) = _
    rw [if_pos (isDc_kvO eR l5)]
    show popK (.o (n + 5)) (En.en x) (LS s0 sv n (some (.o (n + 5))) s4 (some (.p (En.en x))) s6 s7 s8 s9 s10 s11 M') = _
    unfold popK
    dsimp only
    rw [pop_kvO eR l5 hv]
  · have hv : look l x = none := by
      cases e : look l x with
      | none => rfl
      | some z => exact absurd (look_key.mp (by rw [e]; rfl)) hk
    rw [hv] at q
    rw [sif_f _ _ _ _ _ q, dropA_ok hk, set_same l5]
    rfl
theorem put_step (Ps : List Addr) {C : Addr} (hC : Ps.getD 0 0 = C) {t : Nat} {B R : List O} (h : LI Ts n sv C t B R) (ht : t < 900) {x : Ad} (hx : okX x) {v : List Ar} (hv : gdA v) (hn : v.length ≤ 1000) (s0 s4 s7 s8 s9 s10 s11 : Option DV) : ∃ R', LI Ts n sv C (t + 1) B R' ∧
    (sSeq (sExpr (mMeth C (PySem.Str.ofString "put") 2 (m_Graph_put Ps) (mVar 2) (aCons (mVar 5) (aCons (mCB (g1 dList) (aCons (mVar 6) aNil)) aNil))))
      (sPut (mVar 6) (mVar 3) (mVar 5))) (LS s0 sv n (some (.o (n + 5))) s4 (some (.p (En.en x))) (some (.p (.lst (v.map En.en)))) s7 s8 s9 s10 s11 (B ++ R)) = some (.nx, LS s0 sv n (some (.o (n + 5))) s4 (some (.p (En.en x))) (some (.p (.lst (v.map En.en)))) s7 s8 s9 s10 s11 (B ++ R')) := by
  obtain ⟨d, ic, ir, g, N, us, cs, rs, l, w, s, lr, h1, h2, h3, h4, h5, h6, h7, h8⟩ := h
  obtain ⟨ic', ir', N', us', cs', rs', M', e, w', s', c⟩ := put_spec Ps hC w s hx hv hn (by omega)
  have hk : x ∉ keysA (dropA g x) := fun q => (mem_drop.mp q).2 rfl
  obtain ⟨ol, lk⟩ := h5.put hx hv hn (by omega)
  obtain ⟨R', eM', l5, hLI, es⟩ := LI.chg (l' := putA l x v) (t := t + 1) d lr h1 h2 h3 h4 w' s' c ol (fun y => by
    rw [lk, look_app hk, dropA_look, h6]
    split <;> rfl) (Nat.le_trans (putA_len l x v) (by omega)) (by rw [List.length_append, List.length_singleton]; have := dropA_len g x; omega)
  refine ⟨_, hLI, ?_⟩
  have a2 : (aCons (mVar 5) (aCons (mCB (g1 dList) (aCons (mVar 6) aNil)) aNil)) (LS s0 sv n (some (.o (n + 5))) s4 (some (.p (En.en x))) (some (.p (.lst (v.map En.en)))) s7 s8 s9 s10 s11 (B ++ R)) = some (.ok [.p (En.en x), .p (.lst (v.map En.en))] (B ++ R)) := rfl
  have e3 := meth_run C (PySem.Str.ofString "put") 2 (m_Graph_put Ps) (mVar 2) _ (LS s0 sv n (some (.o (n + 5))) s4 (some (.p (En.en x))) (some (.p (.lst (v.map En.en)))) s7 s8 s9 s10 s11 (B ++ R)) (B ++ R) (B ++ R) n _ _ rfl w.v.i0 (lk_meth (by simp)) a2 rfl
  rw [e] at e3
  rw [seq_nx _ _ _ _ (expr_run _ _ _ _ e3), ← es, ← eM']
  refine put_run (mVar 6) (mVar 3) (mVar 5) _ M' M' M' _ (n + 5) (.p (eR v)) (En.en x) rfl rfl rfl ?_
  have := putM_kv eR M' (n + 5) l x v l5 (by omega)
  exact this
noncomputable abbrev areasE (k : Int) : EM := (mLc (mRng rng1D (aCons (mCallB 2 m_l_take (aCons (mVar 1) (aCons (mC (.int k)) aNil))) aNil)) [11] (gN 11) tYesM (mCallB 1 m_l_area (aCons (mVar 1) aNil)))
theorem areas_wp {B R : List O} (h : Dn Ts n sv B) {k : Int} (hk : 1 ≤ k ∧ k ≤ 100) (s0 s2 s3 s4 s5 s6 s7 s8 s9 s10 : Option DV) {P : DV → List O → Prop} (kk : ∀ (l : List Ar) B', Dn Ts n sv B' → gdA l → (l.length : Int) ≤ k → P (.p (.lst (l.map En.en))) (B' ++ R)) :
    wpB (areasE k ⟨[s0, some sv, s2, s3, s4, s5, s6, s7, s8, s9, s10, none], B ++ R⟩) P := by
  refine wp_lc (wp_rng1 (w_call2 m_l_take 1 _ _ _ sv (.p (.int k)) _ rfl rfl (wp_t h (by omega) fun j B1 d1 _ b1 => ?_)))
  have b1 := b1 hk.1
  refine ⟨j, rfl, rng_ok (by omega) (by omega), ?_⟩
  obtain ⟨ys, M', e, ⟨B2, rfl, d2⟩, r, hl⟩ := compL_draw (l := [s0, some sv, s2, s3, s4, s5, s6, s7, s8, s9, s10, none]) (g := gN 11) (e := mCallB 1 m_l_area (aCons (mVar 1) aNil)) (Inv := fun M => ∃ B', M = B' ++ R ∧ Dn Ts n sv B') (R := fun y => ∃ a : Ar, y = En.en a ∧ (okA a ∧ ord a)) (DL.intsFrom 0 j.toNat) [] (B1 ++ R) ⟨B1, rfl, d1⟩ (by simp) (by simp; omega) fun dd hd M hM => by
    obtain ⟨B3, rfl, d3⟩ := hM
    refine ⟨_, rfl, ?_⟩
    refine w_call1 m_l_area 1 _ _ sv _ rfl (wp_area d3 fun a B4 d4 ha ho => ?_)
    exact ⟨_, rfl, ⟨a, rfl, ha, ho⟩, B4, rfl, d4⟩
  obtain ⟨l, rfl, hp⟩ := list_of (f := (En.en : Ar → D)) r
  refine ⟨_, _, e, kk l B2 d2 hp ?_⟩
  simp at hl
  omega
end Law.R
namespace Law.R
open Law
open PySem L2 DL
variable {Ts : List O} {n : Nat} {sv : DV}
theorem w_ifB (c : EM) (a b : SM) (s : DL.S) (P : Fl → DL.S → Prop) (h : wpB (c s) fun d M => ∃ z, d = .p (.bl z) ∧ (z = true → wpS (a ⟨s.l, M⟩) P) ∧ (z = false → wpS (b ⟨s.l, M⟩) P)) : wpS (sIf c a b s) P := by
  obtain ⟨d, M, e, z, rfl, h1, h2⟩ := h
  cases z with
  | true => rw [sif_t _ _ _ _ M e]; exact h1 rfl
  | false => rw [sif_f _ _ _ _ M e]; exact h2 rfl
theorem wp_drawZ {B R : List O} (h : Dn Ts n sv B) (k : Int) (hk : 1 ≤ k ∧ k ≤ 100) (l : List (Option DV)) (hl : gv l 1 = some sv) {P : DV → List O → Prop} (kk : ∀ (b : Bool) B', Dn Ts n sv B' → P (.p (.bl b)) (B' ++ R)) :
    wpB (mBin dEq (mCallB 2 m_l_take (aCons (mVar 1) (aCons (mC (.int k)) aNil))) (mC (.int 0)) ⟨l, B ++ R⟩) P := by
  simp [hl]
  refine wp_t h (by omega) fun r B1 d1 _ _ => ?_
  simp
  exact kk _ B1 d1
noncomputable abbrev addrE : EM := (mIx (disp .lst (aCons (mCallB 1 m_l_near (aCons (mVar 1) aNil)) (aCons (mCallB 1 m_l_address (aCons (mVar 1) aNil)) aNil))) (mCB (g1 dInt) (aCons (mBin dEq (mCallB 2 m_l_take (aCons (mVar 1) (aCons (mC (.int 4)) aNil))) (mC (.int 0))) aNil)))
theorem addr_wp {B R : List O} (h : Dn Ts n sv B) (l : List (Option DV)) (hl : gv l 1 = some sv) {P : DV → List O → Prop} (kk : ∀ (x : Ad) B', Dn Ts n sv B' → okX x → P (.p (En.en x)) (B' ++ R)) : wpB (addrE ⟨l, B ++ R⟩) P := by
  simp [hl]
  refine wp_near h fun x B1 d1 x1 x2 x3 x4 => ?_
  refine wp_address d1 fun y B2 d2 hy => ?_
  simp
  refine wp_t d2 (by decide) fun r B3 d3 _ _ => ?_
  have hx : okX x := ⟨by omega, by omega, by omega, by omega⟩
  by_cases hr : r = 0
  · subst hr
    simp [dInt]
    exact kk y B3 d3 hy
  · simp [dInt, hr]
    exact kk x B3 d3 hx
end Law.R
namespace Law.R
open Law
open PySem L2 DL
variable {Ts : List O} {n : Nat} {sv : DV}
noncomputable abbrev rmE (Ps : List Addr) : SM := (sSeq (sExpr (mMeth (Ps.getD 0 0) (PySem.Str.ofString "remove") 1 (m_Graph_remove Ps) (mVar 2) (aCons (mVar 5) aNil)))
      (sIf (mDin false (mVar 5) (mVar 3)) (sExpr (mDpop (mVar 3) (mVar 5))) sNil))
noncomputable abbrev ptE (Ps : List Addr) : SM := (sSeq (sExpr (mMeth (Ps.getD 0 0) (PySem.Str.ofString "put") 2 (m_Graph_put Ps) (mVar 2) (aCons (mVar 5) (aCons (mCB (g1 dList) (aCons (mVar 6) aNil)) aNil))))
      (sPut (mVar 6) (mVar 3) (mVar 5)))
noncomputable abbrev turnE (Ps : List Addr) : SM := (sSeq (sAsg addrE (gN 5))
  (sIf (mBin dEq (mCallB 2 m_l_take (aCons (mVar 1) (aCons (mC (.int 5)) aNil))) (mC (.int 0))) (rmE Ps) (sSeq (sAsg (areasE 4) (gN 6)) (ptE Ps))))
theorem law_3 (Ps : List Addr) : b_law_3 Ps = (sSeq (sFor (mRng rng1D (aCons (mCallB 2 m_l_take (aCons (mVar 1) (aCons (mC (.int 12)) aNil))) aNil)) (gN 4) (turnE Ps)) (b_law_4 Ps)) := rfl
theorem LI.mono {C : Addr} {t u : Nat} {B R : List O} (h : LI Ts n sv C t B R) (hu : t ≤ u) : LI Ts n sv C u B R := by
  obtain ⟨d0, ic, ir, g, N, us, cs, rs, l, w, s, lr, h1, h2, h3, h4, h5, h6, h7, h8⟩ := h
  exact ⟨d0, ic, ir, g, N, us, cs, rs, l, w, s, lr, h1, h2, h3, h4, h5, h6, by omega, by omega⟩
def TI (Ts : List O) (n : Nat) (sv : DV) (C : Addr) (s0 s7 s8 s9 s10 : Option DV) (t : Nat) (s : DL.S) : Prop := ∃ B R s4 s5 s6, LI Ts n sv C t B R ∧ s = LS s0 sv n (some (.o (n + 5))) s4 s5 s6 s7 s8 s9 s10 none (B ++ R)
theorem turn_wp (Ps : List Addr) {C : Addr} (hC : Ps.getD 0 0 = C) {t : Nat} {B R : List O} (h : LI Ts n sv C t B R) (ht : t < 900) (s0 s4 s5 s6 s7 s8 s9 s10 : Option DV) :
    wpS (turnE Ps (LS s0 sv n (some (.o (n + 5))) s4 s5 s6 s7 s8 s9 s10 none (B ++ R))) fun f s => f = .nx ∧ TI Ts n sv C s0 s7 s8 s9 s10 (t + 1) s := by
  subst hC
  refine w_asgT _ 5 _ _ _ (addr_wp h.1 _ rfl fun x B1 d1 hx => ?_)
  refine w_ifB _ _ _ _ _ (wp_drawZ d1 5 (by decide) _ rfl fun z B2 d2 => ⟨z, rfl, fun _ => ?_, fun _ => ?_⟩)
  · obtain ⟨R', hL, e⟩ := rm_step Ps rfl (h.draw d2) x s0 s4 s6 s7 s8 s9 s10 none
    exact ⟨_, _, e, rfl, rfl, B2, R', _, _, _, hL.mono (Nat.le_succ t), rfl⟩
  · refine w_asgT _ 6 _ _ _ (areas_wp d2 (by decide) _ _ _ _ _ _ _ _ _ _ fun v B3 d3 hv hl => ?_)
    obtain ⟨R', hL, e⟩ := put_step Ps rfl (h.draw d3) ht hx hv (by omega) s0 s4 s7 s8 s9 s10 none
    exact ⟨_, _, e, rfl, rfl, B3, R', _, _, _, hL, rfl⟩
theorem turns_wp (Ps : List Addr) {C : Addr} (hC : Ps.getD 0 0 = C) {B R : List O} (h : LI Ts n sv C 0 B R) (s0 s4 s5 s6 s7 s8 s9 s10 : Option DV) {P : Fl → DL.S → Prop}
    (kk : ∀ t ≤ 12, ∀ s, TI Ts n sv C s0 s7 s8 s9 s10 t s → wpS (b_law_4 Ps s) P) :
    wpS (b_law_3 Ps (LS s0 sv n (some (.o (n + 5))) s4 s5 s6 s7 s8 s9 s10 none (B ++ R))) P := by
  rw [law_3]
  refine w_forT _ _ _ _ _ _ (wp_rng1 (w_call2 m_l_take 1 _ _ _ sv (.p (.int 12)) _ rfl rfl (wp_t h.1 (by decide) fun j B1 d1 _ b1 => ?_)))
  have b1 := b1 (by decide)
  refine ⟨j, rfl, rng_ok (by omega) (by omega), ?_⟩
  refine wpS_mono (w_loopN (g := gN 4) (b := turnE Ps) (Inv := fun m s => TI Ts n sv C s0 s7 s8 s9 s10 m s) (R := fun _ _ => False) (DL.intsFrom 0 j.toNat) 0 _ ⟨B1, R, s4, s5, s6, h.draw d1, rfl⟩ fun dd hd m h1 h2 s hs => ?_) ?_
  · obtain ⟨B2, R2, s4, s5, s6, hL, rfl⟩ := hs
    have hm : m < 12 := by
      have : (DL.intsFrom 0 j.toNat).length = j.toNat := by simp
      omega
    refine ⟨_, rfl, ?_⟩
    exact wpS_mono (turn_wp Ps hC hL (by omega) s0 (some dd) s5 s6 s7 s8 s9 s10) fun f s q => .inl q
  · rintro f s (⟨rfl, q⟩ | ⟨v, rfl, q⟩)
    · rw [w_andN]
      refine kk _ ?_ s q
      have : (DL.intsFrom 0 j.toNat).length = j.toNat := by simp
      omega
    · exact False.elim q
end Law.R
namespace Law.R
open Law
open PySem L2 DL
/-! ### the same ranges in two orders -/
theorem valO_kvD {α : Type} (enc : α → D) (l : List (Ad × α)) (p : Ad) : valO (kvD enc l) (spK p) = (look l p).map enc := by
  induction l with
  | nil => rfl
  | cons q l ih =>
    show valO ((spK q.1, enc q.2) :: kvD enc l) (spK p) = _
    rw [valO_cons, ih, look_cons]
    by_cases h : q.1 = p
    · rw [if_pos h, if_pos (by rw [h])]; rfl
    · rw [if_neg h, if_neg (fun e => h (spK_inj e))]
theorem same_int (i : Int) : sameT (.int i) (.int i) = true := by
  unfold sameT; simp
theorem same_ar (a : Ar) : sameT (En.en a) (En.en a) = true := by
  rw [en_ar]
  unfold sameT sameTs
  dsimp only
  unfold sameT sameTs
  dsimp only
  unfold sameTs
  dsimp only
  unfold sameT sameTs
  dsimp only
  simp [same_int, sameT, sameTs]
theorem same_ars : ∀ l : List Ar, sameTs (l.map En.en) (l.map En.en) = true
  | [] => by unfold sameTs; rfl
  | a :: l => by
    rw [List.map_cons]
    unfold sameTs
    dsimp only
    rw [same_ar, same_ars l]; rfl
theorem same_eR (l : List Ar) : sameT (eR l) (eR l) = true := by
  unfold eR
  rw [en_ls]
  unfold sameT
  exact same_ars l
theorem dep_ar (a : Ar) : depT (En.en a) ≤ 10 := by
  rw [en_ar]
  simp [depT, depTs]
theorem dep_ars : ∀ l : List Ar, depTs (l.map En.en) ≤ 10
  | [] => by rw [List.map_nil]; unfold depTs; exact Nat.zero_le _
  | a :: l => by
    rw [List.map_cons]
    unfold depTs
    have := dep_ar a
    have := dep_ars l
    omega
theorem dep_eR (l : List Ar) : depT (eR l) ≤ 12 := by
  unfold eR
  rw [en_ls]
  unfold depT
  have := dep_ars l
  omega
theorem dep_kv : ∀ l : Rg, depTk (kvD eR l) ≤ 12
  | [] => by unfold kvD; unfold depTk; decide
  | q :: l => by
    show depTk ((spK q.1, eR q.2) :: kvD eR l) ≤ 12
    unfold depTk
    have := dep_eR q.2
    have := dep_kv l
    omega
theorem same_tk (l : Rg) : ∀ g : Rg, (∀ x v, (x, v) ∈ g → look l x = some v) → sameTk (kvD eR g) (kvD eR l) = true
  | [], _ => by unfold kvD; unfold sameTk; rfl
  | q :: g, h => by
    show sameTk ((spK q.1, eR q.2) :: kvD eR g) (kvD eR l) = true
    unfold sameTk
    rw [valO_kvD, h q.1 q.2 List.mem_cons_self]
    dsimp only [Option.map_some]
    rw [same_eR, same_tk l g fun x v hx => h x v (List.mem_cons_of_mem _ hx)]; rfl
theorem look_nd {α : Type} {g : List (Ad × α)} (nd : (keysA g).Nodup) {x : Ad} {v : α} (h : (x, v) ∈ g) : look g x = some v := by
  induction g with
  | nil => cases h
  | cons q g ih =>
    have nd' : q.1 ∉ keysA g ∧ (keysA g).Nodup := by
      unfold keysA at nd ⊢
      rwa [List.map_cons, List.nodup_cons] at nd
    rw [look_cons]
    rcases List.mem_cons.mp h with e | e
    · rw [← e, if_pos rfl]
    · have : q.1 ≠ x := fun e2 => nd'.1 (by rw [e2]; exact List.mem_map.mpr ⟨_, e, rfl⟩)
      rw [if_neg this]
      exact ih nd'.2 e
theorem keys_same {l g : Rg} (h : ∀ y, look l y = look g y) (x : Ad) : x ∈ keysA l ↔ x ∈ keysA g := by
  rw [← look_key, ← look_key, h]
theorem same_rg {l g : Rg} (hl : (keysA l).Nodup) (hg : (keysA g).Nodup) (h : ∀ y, look l y = look g y) : sameDt (rgD g) (rgD l) = true := by
  unfold rgD sameDt
  dsimp only
  rw [same_tk l g fun x v hx => by rw [h]; exact look_nd hg hx]
  have e : g.length = l.length := by
    have := ((List.perm_ext_iff_of_nodup hl hg).mpr fun x => keys_same h x).length_eq
    unfold keysA at this
    rw [List.length_map, List.length_map] at this
    exact this.symm
  have e2 : (kvD eR g).length = (kvD eR l).length := by unfold kvD; rw [List.length_map, List.length_map, e]
  rw [e2, beq_self_eq_true, decide_eq_true (Nat.le_trans (dep_kv g) (by decide))]
  rfl
end Law.R
namespace Law.R
open Law
open PySem L2 DL
variable {Ts : List O} {n : Nat} {sv : DV}
theorem ne_same (l : List Ad) : dNe (.lst (l.map En.en)) (.lst (l.map En.en)) = some (.bl false) := by
  rw [e_neD, show D.lst (l.map En.en) = En.en l from rfl, eqD_en l l (by decide), decide_eq_true rfl]; rfl
/-- the graph from then on -/
structure FI (Ts : List O) (n : Nat) (sv : DV) (C : Addr) (l g : Rg) (ic ir N : Nat) (us : Us) (cs rs : List Nat) (R B : List O) : Prop where
  d : Dn Ts n sv B
  v : GV C n (n + 2) ic ir (.p (rgD g)) N us cs rs (B ++ R)
  s : GS g N us cs rs
  ni : Nice (B ++ R)
  ok : okG l
  lk : ∀ y, look l y = look g y
  h1 : n ≤ ic
  h2 : n ≤ ir
theorem FI.draw {C : Addr} {l g : Rg} {ic ir N : Nat} {us : Us} {cs rs : List Nat} {R B B' : List O} (h : FI Ts n sv C l g ic ir N us cs rs R B) (d : Dn Ts n sv B') : FI Ts n sv C l g ic ir N us cs rs R B' := by
  have hl : B'.length = B.length := d.b.len.trans h.d.b.len.symm
  have hb := h.d.b.len
  have h1 := h.h1
  have h2 := h.h2
  exact ⟨d, h.v.fr (get_front hl (by omega)) (get_front hl (by omega)) (get_front hl (by omega)) (get_front hl (by omega)), h.s, h.ni.front hl (Dn.cll d) d.nc, h.ok, h.lk, h.h1, h.h2⟩
theorem put_r (iu ic ir N : Nat) (rf rf' : DV) : putD (PySem.Str.ofString "ranges") rf' (gfs iu ic ir rf N) = gfs iu ic ir rf' N := by
  unfold gfs
  rw [putD, if_pos rfl]
theorem noc_rg (g : Rg) : noClo (rgD g) = true := by
  unfold rgD noClo
  have : ∀ g : Rg, noCloT (kvD eR g) = true := fun g => by
    induction g with
    | nil => rfl
    | cons q g ih =>
      show noCloT ((spK q.1, eR q.2) :: kvD eR g) = true
      unfold noCloT
      rw [nc_eR, ih]; rfl
  exact this g
theorem frz_step {C : Addr} {t : Nat} {B R : List O} (h : LI Ts n sv C t B R) (s0 s4 s5 s6 s7 s8 s9 s10 : Option DV) (K : SM) :
    ∃ l g ic ir N us cs rs R', FI Ts n sv C l g ic ir N us cs rs R' B ∧ sSeq (sFrzD 3) (sSeq (sFrzFD 2 C (PySem.Str.ofString "ranges")) K) (LS s0 sv n (some (.o (n + 5))) s4 s5 s6 s7 s8 s9 s10 none (B ++ R)) = K (LS s0 sv n (some (.p (rgD l))) s4 s5 s6 s7 s8 s9 s10 none (B ++ R')) := by
  obtain ⟨d, ic, ir, g, N, us, cs, rs, l, w, s, lr, h1, h2, h3, h4, h5, h6, h7, h8⟩ := h
  have hb := d.b.len
  obtain ⟨d1, d2, d3, d4, d5, d6, d7, d8, d9, d10⟩ := nodup5 w.ds
  have e1 : sFrzD 3 (LS s0 sv n (some (.o (n + 5))) s4 s5 s6 s7 s8 s9 s10 none (B ++ R)) = some (.nx, LS s0 sv n (some (.p (rgD l))) s4 s5 s6 s7 s8 s9 s10 none ((B ++ R).set (n + 5) .gone)) := by
    unfold sFrzD
    show (match (B ++ R)[n + 5]? with | some o => _ | none => _) = _
    rw [lr]
    dsimp only
    rw [frz_kv]
    rfl
  have i0 : ((B ++ R).set (n + 5) .gone)[n]? = some (.ins C (gfs (n + 2) ic ir (.o (n + 1)) N)) := by
    rw [List.getElem?_set_ne (by omega)]; exact w.v.i0
  have g1 : ((B ++ R).set (n + 5) .gone)[n + 1]? = some (kvO eR g) := by
    rw [List.getElem?_set_ne (by omega)]; exact w.gg
  have e2 : sFrzFD 2 C (PySem.Str.ofString "ranges") (LS s0 sv n (some (.p (rgD l))) s4 s5 s6 s7 s8 s9 s10 none ((B ++ R).set (n + 5) .gone)) = some (.nx, LS s0 sv n (some (.p (rgD l))) s4 s5 s6 s7 s8 s9 s10 none ((((B ++ R).set (n + 5) .gone).set (n + 1) .gone).set n (.ins C (gfs (n + 2) ic ir (.p (rgD g)) N)))) := by
    unfold sFrzFD
    show (match insM ((B ++ R).set (n + 5) .gone) C (.o n) with | some (n, fs) => _ | none => _) = _
    rw [insM_at i0]
    dsimp only
    rw [lk_r]
    dsimp only
    rw [g1]
    dsimp only
    rw [frz_kv]
    dsimp only
    rw [put_r]
    rfl
  have eq : (((B ++ R).set (n + 5) .gone).set (n + 1) .gone).set n (.ins C (gfs (n + 2) ic ir (.p (rgD g)) N)) = B ++ ((R.set 5 .gone).set 1 .gone).set 0 (.ins C (gfs (n + 2) ic ir (.p (rgD g)) N)) := by
    rw [List.set_append_right _ _ (by omega), List.set_append_right _ _ (by omega), List.set_append_right _ _ (by omega), hb, show n + 5 - n = 5 by omega, show n + 1 - n = 1 by omega, Nat.sub_self]
  obtain ⟨ln, lg, lu, lc, lr2⟩ := w.lts
  have ki := nice_ins (C := C) (iu := n + 2) (ic := ic) (ir := ir) (N := N) (n := (((B ++ R).set (n + 5) .gone).set (n + 1) .gone).length) (rf := .p (rgD g)) rfl (noc_rg g) (by rw [List.length_set, List.length_set]; exact lu) (by rw [List.length_set, List.length_set]; exact lc) (by rw [List.length_set, List.length_set]; exact lr2)
  have ni := ((w.ni.set (n + 5) (o := .gone) rfl rfl).set (n + 1) (o := .gone) rfl rfl).set n ki.1 ki.2
  refine ⟨l, g, ic, ir, N, us, cs, rs, _, ⟨d, ?_, s, ?_, h5, h6, h1, h2⟩, by rw [seq_nx _ _ _ _ e1, seq_nx _ _ _ _ e2, eq]⟩
  · rw [← eq]
    refine ⟨List.getElem?_set_self (by rw [List.length_set, List.length_set]; exact ln), ?_, ?_, ?_⟩
    · rw [List.getElem?_set_ne (by omega), List.getElem?_set_ne (by omega), List.getElem?_set_ne (by omega)]; exact w.v.gu
    · rw [List.getElem?_set_ne (by omega), List.getElem?_set_ne (by omega), List.getElem?_set_ne (by omega)]; exact w.v.gc
    · rw [List.getElem?_set_ne (by omega), List.getElem?_set_ne (by omega), List.getElem?_set_ne (by omega)]; exact w.v.gr
  · rw [← eq]; exact ni
section
variable {C : Addr} {l g : Rg} {ic ir N : Nat} {us : Us} {cs rs : List Nat} {R B : List O}
theorem FI.keys (h : FI Ts n sv C l g ic ir N us cs rs R B) (x : Ad) : x ∈ keysA l ↔ x ∈ keysA g := keys_same h.lk x
theorem FI.rg (h : FI Ts n sv C l g ic ir N us cs rs R B) (x : Ad) : rg l x = rg g x := by unfold Law.R.rg; rw [h.lk]
theorem or_ff (a b : EM) (s : DL.S) (M M2 : List O) (h1 : a s = some (.ok (.p (.bl false)) M)) (h2 : b ⟨s.l, M⟩ = some (.ok (.p (.bl false)) M2)) : mOr a b s = some (.ok (.p (.bl false)) M2) := by
  rw [e_or]
  unfold bnd
  rw [h1]
  exact h2
theorem c4_run (Ps : List Addr) (hC : Ps.getD 0 0 = C) (h : FI Ts n sv C l g ic ir N us cs rs R B) (s0 s4 s5 s6 s7 s8 s9 s10 s11 : Option DV) :
    (mOr (mBin dNe (mMeth C (PySem.Str.ofString "formulas") 0 (m_Graph_formulas Ps) (mVar 2) aNil) (mCallA 1 m_l_order (aCons (mFrz (mVar 3)) aNil))) (mBin dNeDt (mFld C (PySem.Str.ofString "ranges") (mVar 2)) (mFrz (mVar 3)))) (LS s0 sv n (some (.p (rgD l))) s4 s5 s6 s7 s8 s9 s10 s11 (B ++ R)) = some (.ok (.p (.bl false)) (B ++ R)) := by
  refine or_ff _ _ _ (B ++ R) _ ?_ ?_
  · have e := meth_run C (PySem.Str.ofString "formulas") 0 (m_Graph_formulas Ps) (mVar 2) aNil (LS s0 sv n (some (.p (rgD l))) s4 s5 s6 s7 s8 s9 s10 s11 (B ++ R)) (B ++ R) (B ++ R) n _ [] rfl h.v.i0 (lk_meth (by simp)) rfl rfl
    rw [formulas_spec Ps hC h.v h.s] at e
    have o := order_d l (by have := h.ok.ln; omega)
    rw [ords_bits h.ok.nd (S := N) fun x => by
      constructor
      · intro hx
        have ox := h.ok.xk x hx
        exact ⟨ox, (h.s.hN x ox).mpr ((h.keys x).mp hx)⟩
      · rintro ⟨ox, hb⟩
        exact (h.keys x).mpr ((h.s.hN x ox).mp hb)] at o
    exact bin_run dNe _ _ _ (B ++ R) _ _ _ _ e (callA1r m_l_order (mFrz (mVar 3)) _ _ (rgD l) _ rfl o) (ne_same _)
  · refine bin_run dNeDt _ _ _ (B ++ R) _ (rgD g) (rgD l) _ (fld_run C _ (mVar 2) _ _ n _ _ rfl h.v.i0 lk_r) rfl ?_
    unfold dNeDt
    rw [if_pos (same_rg h.ok.nd h.s.ok.nd h.lk)]
end
end Law.R
namespace Law.R
open Law
open PySem L2 DL
variable {Ts : List O} {n : Nat} {sv : DV}
theorem callA2r (f : MA) (m k : EM) (s : DL.S) (M : List O) (x y d : D) (h1 : m s = some (.ok (.p x) M)) (h2 : k ⟨s.l, M⟩ = some (.ok (.p y) M)) (e : f [x, y] = some (.ok d)) : mCallA 2 f (aCons m (aCons k aNil)) s = some (.ok (.p d) M) := by
  unfold mCallA
  have h3 := aCons_run m (aCons k aNil) s M M (.p x) [.p y] h1 (aCons_run k aNil _ M M (.p y) [] h2 rfl)
  unfold bnd
  rw [h3]
  dsimp only
  rw [if_pos (show [DV.p x, DV.p y].length = 2 from rfl)]
  simp only [allP, Option.map_some, e]
theorem callA3r (f : MA) (m k j : EM) (s : DL.S) (M : List O) (x y z d : D) (h1 : m s = some (.ok (.p x) M)) (h2 : k ⟨s.l, M⟩ = some (.ok (.p y) M)) (h3 : j ⟨s.l, M⟩ = some (.ok (.p z) M)) (e : f [x, y, z] = some (.ok d)) : mCallA 3 f (aCons m (aCons k (aCons j aNil))) s = some (.ok (.p d) M) := by
  unfold mCallA
  have h4 := aCons_run m (aCons k (aCons j aNil)) s M M (.p x) [.p y, .p z] h1 (aCons_run k (aCons j aNil) _ M M (.p y) [.p z] h2 (aCons_run j aNil _ M M (.p z) [] h3 rfl))
  unfold bnd
  rw [h4]
  dsimp only
  rw [if_pos (show [DV.p x, DV.p y, DV.p z].length = 3 from rfl)]
  simp only [allP, Option.map_some, e]
theorem cb1r (g : D → Option D) (m : EM) (s : DL.S) (M : List O) (x d : D) (h1 : m s = some (.ok (.p x) M)) (e : g x = some d) : mCB (g1 g) (aCons m aNil) s = some (.ok (.p d) M) := by
  rw [e_cb, e_bnd, aCons_run m aNil s M M _ [] h1 rfl]
  dsimp only
  unfold DL.ret g1
  dsimp only
  rw [e]
theorem cat_ad (F G : List Ad) (h : F.length + G.length ≤ 1000000) : dAdd2 (.lst (F.map En.en)) (.lst (G.map En.en)) = some (.lst ((F ++ G).map En.en)) := by
  have h2 : (F.map (En.en : Ad → D)).length + (G.map (En.en : Ad → D)).length ≤ 1000000 := by rw [List.length_map, List.length_map]; omega
  rw [List.map_append]
  generalize F.map (En.en : Ad → D) = fd at *
  generalize G.map (En.en : Ad → D) = gd at *
  simp [h2]
section
variable {C : Addr} {l g : Rg} {ic ir N : Nat} {us : Us} {cs rs : List Nat} {R B : List O}
noncomputable abbrev cbE (Ps : List Addr) (C : Addr) : SM := (sSeq (sAsg (mBin dAdd2 (mVar 7) (mCallA 1 m_l_cells (aCons (mVar 8) aNil))) (gN 7))
  (sIf (mBin dNe (mMeth C (PySem.Str.ofString "users_of") 1 (m_Graph_users_of Ps) (mVar 2) (aCons (mVar 8) aNil)) (mCallA 2 m_l_users (aCons (mFrz (mVar 3)) (aCons (mCallA 1 m_l_cells (aCons (mVar 8) aNil)) aNil)))) (sRet (mC (.bl false))) sNil))
theorem cb_turn (Ps : List Addr) (hC : Ps.getD 0 0 = C) (h : FI Ts n sv C l g ic ir N us cs rs R B) {a : Ar} (ha : okA a ∧ ord a) (acc : List Ad) (hl : acc.length ≤ 90000) (s0 s4 s5 s6 s9 s10 s11 : Option DV) :
    cbE Ps C (LS s0 sv n (some (.p (rgD l))) s4 s5 s6 (some (.p (.lst (acc.map En.en)))) (some (.p (En.en a))) s9 s10 s11 (B ++ R)) = some (.nx, LS s0 sv n (some (.p (rgD l))) s4 s5 s6 (some (.p (.lst ((acc ++ cellsC a).map En.en)))) (some (.p (En.en a))) s9 s10 s11 (B ++ R)) := by
  have hc := cellsC_len ha.1
  have e1 : sAsg (mBin dAdd2 (mVar 7) (mCallA 1 m_l_cells (aCons (mVar 8) aNil))) (gN 7) (LS s0 sv n (some (.p (rgD l))) s4 s5 s6 (some (.p (.lst (acc.map En.en)))) (some (.p (En.en a))) s9 s10 s11 (B ++ R)) = some (.nx, LS s0 sv n (some (.p (rgD l))) s4 s5 s6 (some (.p (.lst ((acc ++ cellsC a).map En.en)))) (some (.p (En.en a))) s9 s10 s11 (B ++ R)) := by
    refine asg_run _ _ _ _ (B ++ R) (.p (.lst ((acc ++ cellsC a).map En.en))) (bin_run dAdd2 _ _ _ (B ++ R) (B ++ R) _ _ _ rfl (callA1r m_l_cells (mVar 8) _ _ (En.en a) _ rfl (cellsC_spec a ha.1)) (cat_ad _ _ (by omega))) rfl
  unfold cbE
  rw [seq_nx _ _ _ _ e1]
  obtain ⟨S, eS, hS⟩ := usersOf_spec Ps hC h.v h.s ha.1 ha.2
  have e2 := meth_run C (PySem.Str.ofString "users_of") 1 (m_Graph_users_of Ps) (mVar 2) (aCons (mVar 8) aNil) (LS s0 sv n (some (.p (rgD l))) s4 s5 s6 (some (.p (.lst ((acc ++ cellsC a).map En.en)))) (some (.p (En.en a))) s9 s10 s11 (B ++ R)) (B ++ R) (B ++ R) n _ [.p (En.en a)] rfl h.v.i0 (lk_meth (by simp)) (aCons_run (mVar 8) aNil _ (B ++ R) (B ++ R) _ [] rfl rfl) rfl
  rw [eS] at e2
  have e3 := users_spec l h.ok.ln h.ok.rl (cellsC a) (by omega)
  rw [ords_bits (h.ok.nd.filter _) (S := S) fun x => by
    rw [List.mem_filter, usr_iff, h.keys x, h.rg x]
    have hx : okX x → (S.testBit (ixK x) = true ↔ x ∈ keysA g ∧ ∃ c ∈ cellsC a, hit (Law.R.rg g x) c = true) := fun hx => by
      rw [hS x hx]
      simp only [cellsC_mem]
    constructor
    · intro q
      have ox := h.s.ok.xk x q.1
      exact ⟨ox, (hx ox).mpr q⟩
    · rintro ⟨ox, q⟩
      exact (hx ox).mp q] at e3
  refine sif_f _ _ _ _ _ (bin_run dNe _ _ _ (B ++ R) _ _ _ _ e2 (callA2r m_l_users _ _ _ (B ++ R) (rgD l) _ _ rfl (callA1r m_l_cells (mVar 8) _ _ (En.en a) _ rfl (cellsC_spec a ha.1)) e3) (ne_same _))
theorem cb_loop (Ps : List Addr) (hC : Ps.getD 0 0 = C) (h : FI Ts n sv C l g ic ir N us cs rs R B) (s0 s4 s5 s6 s9 s10 s11 : Option DV) : ∀ (areas : List Ar) (acc : List Ad) (s8 : Option DV), gdA areas → acc.length + 2574 * areas.length ≤ 90000 → ∃ s8',
    loopS (gN 8) (cbE Ps C) ((areas.map En.en).map .p) (LS s0 sv n (some (.p (rgD l))) s4 s5 s6 (some (.p (.lst (acc.map En.en)))) s8 s9 s10 s11 (B ++ R)) = some (.nx, LS s0 sv n (some (.p (rgD l))) s4 s5 s6 (some (.p (.lst ((acc ++ areas.flatMap cellsC).map En.en)))) s8' s9 s10 s11 (B ++ R))
  | [], acc, s8, _, _ => ⟨s8, by rw [List.flatMap_nil, List.append_nil]; rfl⟩
  | a :: areas, acc, s8, hg, hl => by
    have ha := hg a List.mem_cons_self
    have hc := cellsC_len ha.1
    rw [List.length_cons] at hl
    obtain ⟨s8', e⟩ := cb_loop Ps hC h s0 s4 s5 s6 s9 s10 s11 areas (acc ++ cellsC a) (some (.p (En.en a))) (fun b hb => hg b (List.mem_cons_of_mem _ hb)) (by rw [List.length_append]; omega)
    refine ⟨s8', ?_⟩
    rw [List.map_cons, List.map_cons, loopS_cons]
    rw [show gN 8 (DV.p (En.en a)) (LS s0 sv n (some (.p (rgD l))) s4 s5 s6 (some (.p (.lst (acc.map En.en)))) s8 s9 s10 s11 (B ++ R)) = some (LS s0 sv n (some (.p (rgD l))) s4 s5 s6 (some (.p (.lst (acc.map En.en)))) (some (.p (En.en a))) s9 s10 s11 (B ++ R)) from rfl]
    dsimp only
    rw [cb_turn Ps hC h ha acc (by omega)]
    dsimp only
    rw [e, List.flatMap_cons, List.append_assoc]
theorem rg_clo (h : FI Ts n sv C l g ic ir N us cs rs R B) (areas : List Ar) (x : Ad) : RG l (areas.flatMap cellsC) x ↔ CLo g (touch g areas) x := by
  have tc : ∀ x, (x ∈ keysA l ∧ usr l (areas.flatMap cellsC) x = true) ↔ touch g areas x := fun x => by
    rw [usr_iff, h.keys x, h.rg x]
    unfold touch
    constructor
    · rintro ⟨a, c, h1, h2⟩
      obtain ⟨r, h3, h4⟩ := List.mem_flatMap.mp h1
      exact ⟨a, r, h3, c, (cellsC_mem r c).mp h4, h2⟩
    · rintro ⟨a, r, h3, c, h4, h2⟩
      exact ⟨a, c, List.mem_flatMap.mpr ⟨r, h3, (cellsC_mem r c).mpr h4⟩, h2⟩
  constructor
  · intro q
    induction q with
    | base h1 h2 => exact .base ((tc _).mp ⟨h1, h2⟩)
    | step h1 _ h3 ih =>
      rw [h.rg] at h3
      exact .step ((h.keys _).mp h1) ih h3
  · intro q
    induction q with
    | base h1 =>
      have := (tc _).mpr h1
      exact .base this.1 this.2
    | step h1 _ h3 ih =>
      rw [← h.rg] at h3
      exact .step ((h.keys _).mpr h1) ih h3
theorem c8_run (Ps : List Addr) (hC : Ps.getD 0 0 = C) (h : FI Ts n sv C l g ic ir N us cs rs R B) {areas : List Ar} (hg : gdA areas) (hl : 2574 * areas.length ≤ 90000) (hcl : (areas.flatMap cellsC).length ≤ 100000) (s0 s4 s5 s8 s9 s10 s11 : Option DV) :
    (mBin dNe (mMeth C (PySem.Str.ofString "reaching") 1 (m_Graph_reaching Ps) (mVar 2) (aCons (mVar 6) aNil)) (mCallA 2 m_l_reaching (aCons (mFrz (mVar 3)) (aCons (mVar 7) aNil)))) (LS s0 sv n (some (.p (rgD l))) s4 s5 (some (.p (.lst (areas.map En.en)))) (some (.p (.lst ((areas.flatMap cellsC).map En.en)))) s8 s9 s10 s11 (B ++ R)) = some (.ok (.p (.bl false)) (B ++ R)) := by
  obtain ⟨S, eS, hS⟩ := reach_spec Ps hC h.v h.s hg
  have e2 := meth_run C (PySem.Str.ofString "reaching") 1 (m_Graph_reaching Ps) (mVar 2) (aCons (mVar 6) aNil) (LS s0 sv n (some (.p (rgD l))) s4 s5 (some (.p (.lst (areas.map En.en)))) (some (.p (.lst ((areas.flatMap cellsC).map En.en)))) s8 s9 s10 s11 (B ++ R)) (B ++ R) (B ++ R) n _ [.p (.lst (areas.map En.en))] rfl h.v.i0 (lk_meth (by simp)) (aCons_run (mVar 6) aNil _ (B ++ R) (B ++ R) _ [] rfl rfl) rfl
  rw [eS] at e2
  obtain ⟨F, e3, nd, hF⟩ := reaching_spec h.ok (areas.flatMap cellsC) hcl
  rw [ords_bits nd (S := S) fun x => by
    rw [hF x]
    constructor
    · intro q
      have ox := h.ok.xk x q.key
      exact ⟨ox, (hS x ox).mpr ((rg_clo h areas x).mp q)⟩
    · rintro ⟨ox, q⟩
      exact (rg_clo h areas x).mpr ((hS x ox).mp q)] at e3
  exact bin_run dNe _ _ _ (B ++ R) _ _ _ _ e2 (callA2r m_l_reaching _ _ _ (B ++ R) (rgD l) _ _ rfl rfl e3) (ne_same _)
end
end Law.R
namespace Law.R
open Law
open PySem L2 DL
variable {Ts : List O} {n : Nat} {sv : DV}
section
variable {C : Addr} {l g : Rg} {ic ir N : Nat} {us : Us} {cs rs : List Nat} {R B : List O}
noncomputable abbrev eE (Ps : List Addr) (C : Addr) : SM := (sSeq (sIf (mBin dNe (mMeth C (PySem.Str.ofString "reached") 1 (m_Graph_reached Ps) (mVar 2) (aCons (mVar 5) aNil)) (mCallA 2 m_l_reached (aCons (mFrz (mVar 3)) (aCons (mVar 5) aNil)))) (sRet (mC (.bl false))) sNil)
  (sSeq (sAsg (mLc (mItD itKD (mFrz (mVar 3))) [10] (gN 10) (mTru (mCallA 3 m_l_uses_it (aCons (mFrz (mVar 3)) (aCons (mVar 5) (aCons (mVar 10) aNil))))) (mVar 10)) (gN 9))
  (sSeq (sIf (mBin dNe (mMeth C (PySem.Str.ofString "used_formulas") 1 (m_Graph_used_formulas Ps) (mVar 2) (aCons (mVar 5) aNil)) (mCallA 1 m_l_order (aCons (mVar 9) aNil))) (sRet (mC (.bl false))) sNil)
  (sSeq (sAsg (mCallB 1 m_l_near (aCons (mVar 1) aNil)) (gN 10))
  (sIf (mBin dNe (mCB (g1 dRepr) (aCons (mMeth C (PySem.Str.ofString "uses") 2 (m_Graph_uses Ps) (mVar 2) (aCons (mVar 5) (aCons (mVar 10) aNil))) aNil)) (mCB (g1 dRepr) (aCons (mCallA 3 m_l_uses_it (aCons (mFrz (mVar 3)) (aCons (mVar 5) (aCons (mVar 10) aNil)))) aNil))) (sRet (mC (.bl false))) sNil)))))
theorem law_9 (Ps : List Addr) : b_law_9 Ps = (sSeq (sFor (mItD itL (mBin dAdd2 (mCallA 1 m_l_order (aCons (mFrz (mVar 3)) aNil)) (disp .lst (aCons (disp .tup (aCons (mC (.int 24)) (aCons (mC (.int 97)) aNil))) aNil)))) (gN 5) (eE Ps (Ps.getD 0 0))) (b_law_10 Ps)) := rfl
theorem rc_same (h : FI Ts n sv C l g ic ir N us cs rs R B) (a x : Ad) : RC l a x ↔ RC g a x := by
  constructor
  · intro q
    induction q with
    | base h1 h2 => rw [h.rg] at h2; exact .base ((h.keys _).mp h1) h2
    | step h1 _ h3 ih => rw [h.rg] at h3; exact .step ((h.keys _).mp h1) ih h3
  · intro q
    induction q with
    | base h1 h2 => rw [← h.rg] at h2; exact .base ((h.keys _).mpr h1) h2
    | step h1 _ h3 ih => rw [← h.rg] at h3; exact .step ((h.keys _).mpr h1) ih h3
theorem c9a_run (Ps : List Addr) (hC : Ps.getD 0 0 = C) (hT : Ts[0]? = some (.tbl (Ps.getD 1 0) (lamq (PySem.Str.ofString "Graph.reached")))) (h : FI Ts n sv C l g ic ir N us cs rs R B) (x : Ad) (s0 s4 s6 s7 s8 s9 s10 s11 : Option DV) :
    (mBin dNe (mMeth C (PySem.Str.ofString "reached") 1 (m_Graph_reached Ps) (mVar 2) (aCons (mVar 5) aNil)) (mCallA 2 m_l_reached (aCons (mFrz (mVar 3)) (aCons (mVar 5) aNil)))) (LS s0 sv n (some (.p (rgD l))) s4 (some (.p (En.en x))) s6 s7 s8 s9 s10 s11 (B ++ R)) = some (.ok (.p (.bl false)) (B ++ R)) := by
  have t0 : (B ++ R)[0]? = some (.tbl (Ps.getD 1 0) (lamq (PySem.Str.ofString "Graph.reached"))) := by
    have q : B[0]? = Ts[0]? := h.d.b.tb 0 (lt_of_at hT)
    rw [hT] at q
    rw [List.getElem?_append_left (lt_of_at q), q]
  obtain ⟨S, eS, hS⟩ := reachedP_spec Ps hC h.v h.s h.ni.nc h.ni.cl t0 x
  have e2 := meth_run C (PySem.Str.ofString "reached") 1 (m_Graph_reached Ps) (mVar 2) (aCons (mVar 5) aNil) (LS s0 sv n (some (.p (rgD l))) s4 (some (.p (En.en x))) s6 s7 s8 s9 s10 s11 (B ++ R)) (B ++ R) (B ++ R) n _ [.p (En.en x)] rfl h.v.i0 (lk_meth (by simp)) (aCons_run (mVar 5) aNil _ (B ++ R) (B ++ R) _ [] rfl rfl) rfl
  rw [eS] at e2
  obtain ⟨F, e3, nd, hF⟩ := reached_spec h.ok x
  rw [ords_bits nd (S := S) fun y => by
    rw [hF y]
    constructor
    · intro q
      have oy := h.ok.xk y q.key
      exact ⟨oy, (hS y oy).mpr ((rc_same h x y).mp q)⟩
    · rintro ⟨oy, q⟩
      exact (rc_same h x y).mpr ((hS y oy).mp q)] at e3
  exact bin_run dNe _ _ _ (B ++ R) _ _ _ _ e2 (callA2r m_l_reached _ _ _ (B ++ R) (rgD l) _ _ rfl rfl e3) (ne_same _)
theorem tru_run (m : EM) (s : DL.S) (M : List O) (b : Bool) (h : m s = some (.ok (.p (.bl b)) M)) : mTru m s = some (.ok (.p (.bl b)) M) := by
  unfold mTru bnd
  rw [h]
  rfl
theorem usd_run (h : FI Ts n sv C l g ic ir N us cs rs R B) (x : Ad) (s0 s4 s6 s7 s8 s9 s10 s11 : Option DV) :
    (mLc (mItD itKD (mFrz (mVar 3))) [10] (gN 10) (mTru (mCallA 3 m_l_uses_it (aCons (mFrz (mVar 3)) (aCons (mVar 5) (aCons (mVar 10) aNil))))) (mVar 10)) (LS s0 sv n (some (.p (rgD l))) s4 (some (.p (En.en x))) s6 s7 s8 s9 s10 s11 (B ++ R)) = some (.ok (.p (.lst (((keysA l).filter fun y => hit (Law.R.rg l x) y).map En.en))) (B ++ R)) := by
  have hk := h.ok.kl
  have e1 := filter_compE (α := Ad) En.en (l := [s0, some sv, some (.o n), some (.p (rgD l)), s4, some (.p (En.en x)), s6, s7, s8, s9, none, s11]) (g := gN 10) (t := mTru (mCallA 3 m_l_uses_it (aCons (mFrz (mVar 3)) (aCons (mVar 5) (aCons (mVar 10) aNil))))) (e := mVar 10) (M := B ++ R) En.en (fun y => hit (Law.R.rg l x) y) (keysA l) (fun y _ => ⟨_, rfl, rfl, by
    have q := callA3r m_l_uses_it (mFrz (mVar 3)) (mVar 5) (mVar 10) (⟨[s0, some sv, some (.o n), some (.p (rgD l)), s4, some (.p (En.en x)), s6, s7, s8, s9, some (.p (En.en y)), s11], B ++ R⟩ : DL.S) (B ++ R) (rgD l) (En.en x) (En.en y) _ rfl rfl rfl (uses_it_spec l x y (h.ok.rl x))
    exact tru_run _ _ _ _ q, fun _ => rfl⟩) (by omega)
  refine DL.lcs _ [10] (gN 10) _ _ _ (((keysA l).map En.en).map .p) _ ?_ e1
  have q := keys_itA l
  generalize rgD l = rd at *
  show (mItD itKD (mFrz (mVar 3)) ⟨[s0, some sv, some (.o n), some (.p rd), s4, some (.p (En.en x)), s6, s7, s8, s9, s10, s11], B ++ R⟩) = _
  simp [e_bnd, q]
theorem c9b_run (Ps : List Addr) (hC : Ps.getD 0 0 = C) (h : FI Ts n sv C l g ic ir N us cs rs R B) (x : Ad) (s0 s4 s6 s7 s8 s10 s11 : Option DV) :
    (mBin dNe (mMeth C (PySem.Str.ofString "used_formulas") 1 (m_Graph_used_formulas Ps) (mVar 2) (aCons (mVar 5) aNil)) (mCallA 1 m_l_order (aCons (mVar 9) aNil))) (LS s0 sv n (some (.p (rgD l))) s4 (some (.p (En.en x))) s6 s7 s8 (some (.p (.lst (((keysA l).filter fun y => hit (Law.R.rg l x) y).map En.en)))) s10 s11 (B ++ R)) = some (.ok (.p (.bl false)) (B ++ R)) := by
  obtain ⟨S, eS, hS⟩ := usedF_spec Ps hC h.v h.s x
  have e2 := meth_run C (PySem.Str.ofString "used_formulas") 1 (m_Graph_used_formulas Ps) (mVar 2) (aCons (mVar 5) aNil) (LS s0 sv n (some (.p (rgD l))) s4 (some (.p (En.en x))) s6 s7 s8 (some (.p (.lst (((keysA l).filter fun y => hit (Law.R.rg l x) y).map En.en)))) s10 s11 (B ++ R)) (B ++ R) (B ++ R) n _ [.p (En.en x)] rfl h.v.i0 (lk_meth (by simp)) (aCons_run (mVar 5) aNil _ (B ++ R) (B ++ R) _ [] rfl rfl) rfl
  rw [eS] at e2
  have e3 := order_l ((keysA l).filter fun y => hit (Law.R.rg l x) y) (Nat.le_trans (List.length_filter_le _ _) (by have := h.ok.kl; omega))
  rw [ords_bits (h.ok.nd.filter _) (S := S) fun y => by
    rw [List.mem_filter, h.keys y, h.rg x]
    constructor
    · intro q
      have oy := h.s.ok.xk y q.1
      exact ⟨oy, (hS y oy).mpr q⟩
    · rintro ⟨oy, q⟩
      exact (hS y oy).mp q] at e3
  exact bin_run dNe _ _ _ (B ++ R) _ _ _ _ e2 (callA1r m_l_order (mVar 9) _ _ _ _ rfl e3) (ne_same _)
theorem c9c_run (Ps : List Addr) (hC : Ps.getD 0 0 = C) (h : FI Ts n sv C l g ic ir N us cs rs R B) (x y : Ad) (s0 s4 s6 s7 s8 s9 s11 : Option DV) :
    (mBin dNe (mCB (g1 dRepr) (aCons (mMeth C (PySem.Str.ofString "uses") 2 (m_Graph_uses Ps) (mVar 2) (aCons (mVar 5) (aCons (mVar 10) aNil))) aNil)) (mCB (g1 dRepr) (aCons (mCallA 3 m_l_uses_it (aCons (mFrz (mVar 3)) (aCons (mVar 5) (aCons (mVar 10) aNil)))) aNil))) (LS s0 sv n (some (.p (rgD l))) s4 (some (.p (En.en x))) s6 s7 s8 s9 (some (.p (En.en y))) s11 (B ++ R)) = some (.ok (.p (.bl false)) (B ++ R)) := by
  have e2 := meth_run C (PySem.Str.ofString "uses") 2 (m_Graph_uses Ps) (mVar 2) (aCons (mVar 5) (aCons (mVar 10) aNil)) (LS s0 sv n (some (.p (rgD l))) s4 (some (.p (En.en x))) s6 s7 s8 s9 (some (.p (En.en y))) s11 (B ++ R)) (B ++ R) (B ++ R) n _ [.p (En.en x), .p (En.en y)] rfl h.v.i0 (lk_meth (by simp)) (aCons_run (mVar 5) _ _ (B ++ R) (B ++ R) _ [_] rfl (aCons_run (mVar 10) aNil _ (B ++ R) (B ++ R) _ [] rfl rfl)) rfl
  rw [uses_spec Ps hC h.v h.s.ok.rl x y] at e2
  have e3 := uses_it_spec l x y (h.ok.rl x)
  rw [h.rg x] at e3
  obtain ⟨z, hz, hzz⟩ := reprB (hit (Law.R.rg g x) y)
  exact bin_run dNe _ _ _ (B ++ R) _ z z _ (cb1r dRepr _ _ _ _ z e2 hz) (cb1r dRepr _ _ _ _ z (callA3r m_l_uses_it (mFrz (mVar 3)) (mVar 5) (mVar 10) _ (B ++ R) (rgD l) (En.en x) (En.en y) _ rfl rfl rfl e3) hz) (by rw [e_neD, hzz]; rfl)
def EI (Ts : List O) (n : Nat) (sv : DV) (C : Addr) (l g : Rg) (ic ir N : Nat) (us : Us) (cs rs : List Nat) (R : List O) (s0 s4 s6 s7 s8 : Option DV) (s : DL.S) : Prop := ∃ B s5 s9 s10, FI Ts n sv C l g ic ir N us cs rs R B ∧ s = LS s0 sv n (some (.p (rgD l))) s4 s5 s6 s7 s8 s9 s10 none (B ++ R)
theorem e_turn (Ps : List Addr) (hC : Ps.getD 0 0 = C) (hT : Ts[0]? = some (.tbl (Ps.getD 1 0) (lamq (PySem.Str.ofString "Graph.reached")))) (h : FI Ts n sv C l g ic ir N us cs rs R B) (x : Ad) (s0 s4 s6 s7 s8 s9 s10 : Option DV) :
    wpS (eE Ps C (LS s0 sv n (some (.p (rgD l))) s4 (some (.p (En.en x))) s6 s7 s8 s9 s10 none (B ++ R))) fun f s => f = .nx ∧ EI Ts n sv C l g ic ir N us cs rs R s0 s4 s6 s7 s8 s := by
  unfold eE
  refine w_ifE _ _ _ _ _ _ (c9a_run Ps hC hT h x s0 s4 s6 s7 s8 s9 s10 none) ?_
  refine w_asgE _ 9 _ _ _ _ _ (usd_run h x s0 s4 s6 s7 s8 s9 s10 none) ?_
  refine w_ifE _ _ _ _ _ _ (c9b_run Ps hC h x s0 s4 s6 s7 s8 s10 none) ?_
  refine w_asgT _ 10 _ _ _ (w_call1 m_l_near 1 _ _ sv _ rfl (wp_near h.d fun y B1 d1 _ _ _ _ => ?_))
  have h1 := h.draw d1
  exact w_ifZ _ _ _ _ _ (c9c_run Ps hC h1 x y s0 s4 s6 s7 s8 _ none) ⟨rfl, B1, _, _, _, h1, rfl⟩
theorem it9_run (h : FI Ts n sv C l g ic ir N us cs rs R B) (s0 s4 s5 s6 s7 s8 s9 s10 s11 : Option DV) :
    (mItD itL (mBin dAdd2 (mCallA 1 m_l_order (aCons (mFrz (mVar 3)) aNil)) (disp .lst (aCons (disp .tup (aCons (mC (.int 24)) (aCons (mC (.int 97)) aNil))) aNil)))) (LS s0 sv n (some (.p (rgD l))) s4 s5 s6 s7 s8 s9 s10 s11 (B ++ R)) = some (.ok (((ords (keysA l) ++ [(24, 97)]).map En.en).map .p) (B ++ R)) := by
  have hk := h.ok.kl
  have hl := ords_len (keysA l)
  have o := order_d l (by have := h.ok.ln; omega)
  have e := bin_run dAdd2 (mCallA 1 m_l_order (aCons (mFrz (mVar 3)) aNil)) (disp .lst (aCons (disp .tup (aCons (mC (.int 24)) (aCons (mC (.int 97)) aNil))) aNil)) (LS s0 sv n (some (.p (rgD l))) s4 s5 s6 s7 s8 s9 s10 s11 (B ++ R)) (B ++ R) (B ++ R) _ (.lst ([((24, 97) : Ad)].map En.en)) _ (callA1r m_l_order (mFrz (mVar 3)) _ _ (rgD l) _ rfl o) rfl (cat_ad (ords (keysA l)) [(24, 97)] (by rw [List.length_singleton]; omega))
  rw [mItD, e_bnd, e]
  rfl
theorem last_wp (Ps : List Addr) (hC : Ps.getD 0 0 = C) (hT : Ts[0]? = some (.tbl (Ps.getD 1 0) (lamq (PySem.Str.ofString "Graph.reached")))) (h : FI Ts n sv C l g ic ir N us cs rs R B) (s0 s4 s5 s6 s7 s8 s9 s10 : Option DV) :
    wpS (b_law_9 Ps (LS s0 sv n (some (.p (rgD l))) s4 s5 s6 s7 s8 s9 s10 none (B ++ R))) fun f s => f = .rt (.p (.bl true)) := by
  rw [law_9, hC]
  refine w_forT _ _ _ _ _ _ ⟨_, _, it9_run h s0 s4 s5 s6 s7 s8 s9 s10 none, ?_⟩
  refine wpS_mono (w_loopN (g := gN 5) (b := eE Ps C) (Inv := fun _ s => EI Ts n sv C l g ic ir N us cs rs R s0 s4 s6 s7 s8 s) (R := fun _ _ => False) _ 0 _ ⟨B, s5, s9, s10, h, rfl⟩ fun dd hd m h1 h2 s hs => ?_) ?_
  · obtain ⟨B2, s5, s9, s10, hF, rfl⟩ := hs
    obtain ⟨w, hw, rfl⟩ := List.mem_map.mp hd
    obtain ⟨x, _, rfl⟩ := List.mem_map.mp hw
    refine ⟨_, rfl, ?_⟩
    exact wpS_mono (e_turn Ps hC hT hF x s0 s4 s6 s7 s8 s9 s10) fun f s q => .inl q
  · rintro f s (⟨rfl, q⟩ | ⟨v, rfl, q⟩)
    · rw [w_andN]
      exact ⟨_, _, ret_run (mC (.bl true)) _ (.p (.bl true)) _ rfl, rfl, rfl⟩
    · exact False.elim q
end
end Law.R
namespace Law.R
open Law
open PySem L2 DL
variable {Ts : List O} {n : Nat} {sv : DV}
theorem law_7 (Ps : List Addr) : b_law_7 Ps = (sSeq (sFor (mItD itL (mVar 6)) (gN 8) (cbE Ps (Ps.getD 0 0))) (b_law_8 Ps)) := rfl
theorem mid_wp {C : Addr} {l g : Rg} {ic ir N : Nat} {us : Us} {cs rs : List Nat} {R B : List O} (Ps : List Addr) (hC : Ps.getD 0 0 = C) (hT : Ts[0]? = some (.tbl (Ps.getD 1 0) (lamq (PySem.Str.ofString "Graph.reached")))) (h : FI Ts n sv C l g ic ir N us cs rs R B) (s0 s4 s5 s6 s7 s8 s9 s10 : Option DV) :
    wpS (b_law_5 Ps (LS s0 sv n (some (.p (rgD l))) s4 s5 s6 s7 s8 s9 s10 none (B ++ R))) fun f s => f = .rt (.p (.bl true)) := by
  unfold b_law_5
  refine w_asgT _ 6 _ _ _ (areas_wp h.d (by decide) _ _ _ _ _ _ _ _ _ _ fun areas B1 d1 hg hl => ?_)
  have h1 := h.draw d1
  unfold b_law_6
  refine w_asgE _ 7 _ _ (.p (.lst (([] : List Ad).map En.en))) _ _ rfl ?_
  rw [law_7, hC]
  obtain ⟨s8', e⟩ := cb_loop Ps hC h1 s0 s4 s5 (some (.p (.lst (areas.map En.en)))) s9 s10 none areas [] s8 hg (by rw [List.length_nil]; omega)
  refine w_forE _ (gN 8) (cbE Ps C) _ _ _ ((areas.map En.en).map .p) _ rfl e ?_
  have hcl : (areas.flatMap cellsC).length ≤ 2574 * areas.length := by
    have : ∀ areas : List Ar, gdA areas → (areas.flatMap cellsC).length ≤ 2574 * areas.length := fun areas => by
      induction areas with
      | nil => intro _; exact Nat.zero_le _
      | cons a areas ih =>
        intro hg
        have h2 := ih fun b hb => hg b (List.mem_cons_of_mem _ hb)
        have h3 := cellsC_len (hg a List.mem_cons_self).1
        rw [List.flatMap_cons, List.length_append, List.length_cons]
        omega
    exact this areas hg
  unfold b_law_8
  rw [hC, List.nil_append]
  refine w_ifE _ _ _ _ _ _ (c8_run Ps hC h1 hg (by omega) (by omega) s0 s4 s5 s8' s9 s10 none) ?_
  exact last_wp Ps hC hT h1 s0 s4 s5 _ _ _ s9 s10
theorem four_wp (Ps : List Addr) {C : Addr} (hC : Ps.getD 0 0 = C) (hT : Ts[0]? = some (.tbl (Ps.getD 1 0) (lamq (PySem.Str.ofString "Graph.reached")))) {t : Nat} {s0 s7 s8 s9 s10 : Option DV} {s : DL.S} (h : TI Ts n sv C s0 s7 s8 s9 s10 t s) :
    wpS (b_law_4 Ps s) fun f s => f = .rt (.p (.bl true)) := by
  obtain ⟨B, R, s4, s5, s6, hL, rfl⟩ := h
  unfold b_law_4
  rw [hC]
  obtain ⟨l, g, ic, ir, N, us, cs, rs, R', hF, e⟩ := frz_step hL s0 s4 s5 s6 s7 s8 s9 s10 (sSeq (sIf (mOr (mBin dNe (mMeth C (PySem.Str.ofString "formulas") 0 (m_Graph_formulas Ps) (mVar 2) aNil) (mCallA 1 m_l_order (aCons (mFrz (mVar 3)) aNil))) (mBin dNeDt (mFld C (PySem.Str.ofString "ranges") (mVar 2)) (mFrz (mVar 3)))) (sRet (mC (.bl false))) sNil) (b_law_5 Ps))
  rw [e]
  refine w_ifE _ _ _ _ _ _ (c4_run Ps hC hF s0 s4 s5 s6 s7 s8 s9 s10 none) ?_
  exact mid_wp Ps hC hT hF s0 s4 s5 s6 s7 s8 s9 s10
theorem okG_nil : okG [] := gs_nil.ok
theorem start_wp (Ps : List Addr) {C : Addr} (hC : Ps.getD 0 0 = C) (hT : Ts[0]? = some (.tbl (Ps.getD 1 0) (lamq (PySem.Str.ofString "Graph.reached")))) {B : List O} (d : Dn Ts n sv B) (s0 : Option DV) :
    wpS (b_law_1 Ps ⟨[s0, some sv, none, none, none, none, none, none, none, none, none, none], B⟩) fun f s => f = .rt (.p (.bl true)) := by
  have hb := d.b.len
  unfold b_law_1
  rw [hC]
  have e1 := init_spec Ps hC ⟨[s0, some sv, none, none, none, none, none, none, none, none, none, none], B⟩
  refine w_asgE _ 2 _ _ _ _ _ e1 ?_
  unfold b_law_2
  dsimp only
  rw [hb]
  generalize hR : [O.ins C (gfs (n + 2) (n + 3) (n + 4) (.o (n + 1)) 0), kvO eR [], kvO eM [], lsO (List.replicate 26 0), lsO (List.replicate 99 0)] = R
  have hRl : R.length = 5 := by rw [← hR]; rfl
  have e2 : mDnew (.dT []) ⟨[s0, some sv, some (.o n), none, none, none, none, none, none, none, none, none], B ++ R⟩ = some (.ok (.o (n + 5)) (B ++ (R ++ [kvO eR []]))) := by
    show some (Rs.ok (DV.o (B ++ R).length) ((B ++ R) ++ [O.dT []])) = _
    rw [List.length_append, hb, hRl, List.append_assoc]
    rfl
  refine w_asgE _ 3 _ _ _ _ _ e2 ?_
  have at_ : ∀ i, (B ++ (R ++ [kvO eR []]))[n + i]? = (R ++ [kvO eR []])[i]? := fun i => by
    rw [List.getElem?_append_right (by omega), hb]
    congr 1
    omega
  have hL : LI Ts n sv C 0 B (R ++ [kvO eR []]) := by
    refine ⟨d, n + 3, n + 4, [], 0, [], List.replicate 26 0, List.replicate 99 0, [], ⟨⟨?_, ?_, ?_, ?_⟩, ?_, ?_, ?_⟩, gs_nil, ?_, by omega, by omega, by omega, by omega, okG_nil, fun _ => rfl, Nat.le_refl _, Nat.le_refl _⟩
    · have := at_ 0
      rw [Nat.add_zero] at this
      rw [this, ← hR]; rfl
    · rw [at_, ← hR]; rfl
    · rw [at_, ← hR]; rfl
    · rw [at_, ← hR]; rfl
    · rw [at_, ← hR]; rfl
    · simp only [List.nodup_cons, List.mem_cons, List.not_mem_nil, or_false, not_or, List.nodup_nil, not_false_eq_true, and_true]
      omega
    · have n0 : Nice (B ++ []) := by rw [List.append_nil]; exact ⟨Dn.cll d, d.nc⟩
      refine ⟨?_, ?_⟩
      · have len : (B ++ (R ++ [kvO eR []])).length = n + 6 := by rw [List.length_append, List.length_append, hb, hRl]; rfl
        rw [len, List.all_append, closed_le (by omega) (Dn.cll d), ← hR]
        have ki := nice_ins (C := C) (iu := n + 2) (ic := n + 3) (ir := n + 4) (N := 0) (n := n + 6) (rf := .o (n + 1)) (by simp [ltO]) rfl (by omega) (by omega) (by omega)
        have k1 := nice_kv eR nc_eR [] (n + 6)
        have k2 := nice_kv eM (fun _ => rfl) [] (n + 6)
        have k3 := nice_ls (List.replicate 26 0) (n + 6)
        have k4 := nice_ls (List.replicate 99 0) (n + 6)
        simp only [List.cons_append, List.nil_append, List.all_cons, List.all_nil, ki.1, k1.1, k2.1, k3.1, k4.1]
        rfl
      · rw [ncM_app, d.nc, ← hR]
        have ki := nice_ins (C := C) (iu := n + 2) (ic := n + 3) (ir := n + 4) (N := 0) (n := n + 6) (rf := .o (n + 1)) (by simp [ltO]) rfl (by omega) (by omega) (by omega)
        have k1 := nice_kv eR nc_eR [] (n + 6)
        have k2 := nice_kv eM (fun _ => rfl) [] (n + 6)
        have k3 := nice_ls (List.replicate 26 0) (n + 6)
        have k4 := nice_ls (List.replicate 99 0) (n + 6)
        unfold ncM
        simp only [List.cons_append, List.nil_append, List.all_cons, List.all_nil, ki.2, k1.2, k2.2, k3.2, k4.2]
        rfl
    · rw [at_, List.getElem?_append_right (by omega), hRl]; rfl
  exact turns_wp Ps hC hL s0 none none none none none none none fun t _ s hs => four_wp Ps hC hT hs
end Law.R
namespace Law
open PySem L2 DL
open Law.R
theorem law_ok (Fa Tt : List Addr) (ns : List Int) (hC : CFa Fa) (hp : Tt.length = lamNms.length) (hl : ns.length ≤ 63) (hb : ∀ z ∈ ns, Builtin.Int.intBits z ≤ 1048576) : ∃ s, b_law (Fa ++ Tt) ⟨slotsOf 12 ([D.scr (ns.map .int)].map .p), tbls Tt lamNms⟩ = some (.rt (.p (.bl true)), s) := by
  obtain ⟨C0, rfl⟩ : ∃ C0, Fa = [C0] := by
    match Fa, hC.1 with
    | [C0], _ => exact ⟨C0, rfl⟩
  obtain ⟨P0, rfl⟩ : ∃ P0, Tt = [P0] := by
    match Tt, hp with
    | [P0], _ => exact ⟨P0, rfl⟩
  have ht : tbls [P0] lamNms = [.tbl P0 (lamq (PySem.Str.ofString "Graph.reached"))] := rfl
  rw [ht]
  generalize hTs : [O.tbl P0 (lamq (PySem.Str.ofString "Graph.reached"))] = Tb
  have t0 : Tb[0]? = some (.tbl P0 (lamq (PySem.Str.ofString "Graph.reached"))) := by rw [← hTs]; rfl
  obtain ⟨n, sv, B0, e0, d0⟩ := state_TsN Tb (fun o ho => by
    rw [← hTs] at ho
    simp only [List.mem_cons, List.not_mem_nil, or_false] at ho
    subst ho; exact ⟨_, _, rfl⟩) ns hl
  have hw : wpS (b_law ([C0] ++ [P0]) ⟨slotsOf 12 ([D.scr (ns.map .int)].map .p), Tb⟩) (fun f s => f = .rt (.p (.bl true))) := by
    have hs : slotsOf 12 ([D.scr (ns.map .int)].map .p) = [some (.p (.scr (ns.map .int))), none, none, none, none, none, none, none, none, none, none, none] := rfl
    rw [hs]
    unfold b_law
    refine w_asgT _ 1 _ _ _ (w_call1 m_l_state 0 _ _ (.p (.scr (ns.map .int))) _ rfl ⟨_, _, e0, ?_⟩)
    exact start_wp ([C0] ++ [P0]) (C := C0) rfl t0 d0 _
  obtain ⟨f, s, e, _, rfl⟩ := hw
  exact ⟨s, e⟩
end Law

def PySem.W.Fast.tw6198951270112285760 : Nat := 0
def PySem.W.Fast.tw11788434683712528480 : Nat := 0
def PySem.W.Fast.tw221731223613079680 : Nat := 0
def PySem.W.Fast.tw8895925809219536000 : Nat := 0
def PySem.W.Fast.tw4880498681646100672 : Nat := 0
def PySem.W.Fast.tw2828842761821202656 : Nat := 0
def PySem.W.Fast.tw16833651611361214752 : Nat := 0
def PySem.W.Fast.tw6721030995856526656 : Nat := 0
def PySem.W.Fast.tw10705820877936674304 : Nat := 0
def PySem.W.Fast.tw13629553624840491712 : Nat := 0
def PySem.W.Fast.tw15316550110346942144 : Nat := 0
def PySem.W.Fast.tw6636139007818562272 : Nat := 0
def PySem.W.Fast.tw1432191398255479520 : Nat := 0
def PySem.W.Fast.tw16016357277685366592 : Nat := 0
def PySem.W.Fast.tw16171637810960386976 : Nat := 0
def PySem.W.Fast.tw12148664226841194464 : Nat := 0
def PySem.W.Fast.tw11200568163038192673 : Nat := 0
def PySem.W.Fast.tw14487235762109680705 : Nat := 0
def PySem.W.Fast.tw3461044269615256641 : Nat := 0
def PySem.W.Fast.tw1887233494811213953 : Nat := 0
def PySem.W.Fast.tw15214425532113288353 : Nat := 0
def PySem.W.Fast.tw11089904353043359937 : Nat := 0
def PySem.W.Fast.tw16075800518941149441 : Nat := 0
def PySem.W.Fast.tw10629133073821674945 : Nat := 0
def PySem.W.Fast.tw10841335679526337025 : Nat := 0
def PySem.W.Fast.tw1349609856312958465 : Nat := 0
def PySem.W.Fast.tw12389733584127887905 : Nat := 0
def PySem.W.Fast.tw6978380750911302209 : Nat := 0
def PySem.W.Fast.tw2034697550634923649 : Nat := 0
def PySem.W.Fast.tw7999849962853395105 : Nat := 0
def PySem.W.Fast.tw9581724286025476833 : Nat := 0
def PySem.W.Fast.tw485647868774945729 : Nat := 0
def PySem.W.Fast.tw15228735150999305282 : Nat := 0
def PySem.W.Fast.tw5551002744083015746 : Nat := 0
def PySem.W.Fast.tw10090866959307622690 : Nat := 0
def PySem.W.Fast.tw13842532161489578274 : Nat := 0
def PySem.W.Fast.tw5205425841274291618 : Nat := 0
def PySem.W.Fast.tw17327338018436687362 : Nat := 0
def PySem.W.Fast.tw15960888817671259682 : Nat := 0
def PySem.W.Fast.tw6310265167003914850 : Nat := 0
def PySem.W.Fast.tw16730250137054587490 : Nat := 0
def PySem.W.Fast.tw15045089275000133218 : Nat := 0
def PySem.W.Fast.tw3717231870898867842 : Nat := 0
def PySem.W.Fast.tw3156704860443938498 : Nat := 0
def PySem.W.Fast.tw6793444585694447298 : Nat := 0
def PySem.W.Fast.tw15616520933925477218 : Nat := 0
def PySem.W.Fast.tw7456638407083766690 : Nat := 0
def PySem.W.Fast.tw9377693521360945058 : Nat := 0
def PySem.W.Fast.tw9084104068166099906 : Nat := 0
def PySem.W.Fast.tw4862476248405235650 : Nat := 0
def PySem.W.Fast.tw9589948924362860643 : Nat := 0
def PySem.W.Fast.tw15706747873059163331 : Nat := 0
def PySem.W.Fast.tw17689548800455114979 : Nat := 0
def PySem.W.Fast.tw1275777725072263619 : Nat := 0
def PySem.W.Fast.tw17780790678832908771 : Nat := 0
def PySem.W.Fast.tw2452946223695234595 : Nat := 0
def PySem.W.Fast.tw7263887040606352003 : Nat := 0
def PySem.W.Fast.tw5686712916610176707 : Nat := 0
def PySem.W.Fast.tw9116743232713431811 : Nat := 0
def PySem.W.Fast.tw11118648638365394723 : Nat := 0
def PySem.W.Fast.tw10560845622835834691 : Nat := 0
def PySem.W.Fast.tw7585708531381240771 : Nat := 0
def PySem.W.Fast.tw712702280230278244 : Nat := 0
def PySem.W.Fast.tw7674341525388688516 : Nat := 0
def PySem.W.Fast.tw6125102639131555140 : Nat := 0
def PySem.W.Fast.tw3016149412552981060 : Nat := 0
def PySem.W.Fast.tw16304920383408000772 : Nat := 0
def PySem.W.Fast.tw15723668901355700004 : Nat := 0
def PySem.W.Fast.tw15487412304469629989 : Nat := 0
def PySem.W.Fast.tw1656127759679120805 : Nat := 0
def PySem.W.Fast.tw1176816141254308293 : Nat := 0
def PySem.W.Fast.tw1862364031208808997 : Nat := 0
def PySem.W.Fast.tw6868064371412020005 : Nat := 0
def PySem.W.Fast.tw14085187703224099781 : Nat := 0
def PySem.W.Fast.tw2150014392206509254 : Nat := 0
def PySem.W.Fast.tw7692812417576365254 : Nat := 0
def PySem.W.Fast.tw8368078630058969414 : Nat := 0
def PySem.W.Fast.tw18311169076553183782 : Nat := 0
def PySem.W.Fast.tw13726355282022583046 : Nat := 0
def PySem.W.Fast.tw2723731258445280230 : Nat := 0
def PySem.W.Fast.tw9369376727123693639 : Nat := 0
def PySem.W.Fast.tw3771809581270853735 : Nat := 0
def PySem.W.Fast.tw4894003942671087879 : Nat := 0
def PySem.W.Fast.tw5150504117902855495 : Nat := 0
def PySem.W.Fast.tw10534558881781811591 : Nat := 0
def PySem.W.Fast.tw5753235469118309799 : Nat := 0
def PySem.W.Fast.tw14780199194648314343 : Nat := 0
def PySem.W.Fast.tw13104601575169623527 : Nat := 0
def PySem.W.Fast.tw16333166954430509543 : Nat := 0
def PySem.W.Fast.tw4215148089186929639 : Nat := 0
def PySem.W.Fast.tw16056471307609394184 : Nat := 0
def PySem.W.Fast.tw1046900936429705512 : Nat := 0
def PySem.W.Fast.tw8245143345568694632 : Nat := 0
def PySem.W.Fast.tw10819464144870405512 : Nat := 0
def PySem.W.Fast.tw9310735992164661768 : Nat := 0
def PySem.W.Fast.tw2561113704735975944 : Nat := 0
def PySem.W.Fast.tw17360408851178964520 : Nat := 0
def PySem.W.Fast.tw8031221830686785128 : Nat := 0
def PySem.W.Fast.tw11955747345362913256 : Nat := 0
def PySem.W.Fast.tw8799220553952846857 : Nat := 0
def PySem.W.Fast.tw7431592024158614665 : Nat := 0
def PySem.W.Fast.tw12535490606964701353 : Nat := 0
def PySem.W.Fast.tw14477087851776890154 : Nat := 0
def PySem.W.Fast.tw10818840337674984938 : Nat := 0
def PySem.W.Fast.tw1530807013107703274 : Nat := 0
def PySem.W.Fast.tw10514994038683966026 : Nat := 0
def PySem.W.Fast.tw4778022699941530282 : Nat := 0
def PySem.W.Fast.tw9633501867752855242 : Nat := 0
def PySem.W.Fast.tw18382032355896987338 : Nat := 0
def PySem.W.Fast.tw6881837448563815178 : Nat := 0
def PySem.W.Fast.tw3545816224005678890 : Nat := 0
def PySem.W.Fast.tw13811970735969210218 : Nat := 0
def PySem.W.Fast.tw12310507520400344970 : Nat := 0
def PySem.W.Fast.tw10204904541472730058 : Nat := 0
def PySem.W.Fast.tw18140997720348267498 : Nat := 0
def PySem.W.Fast.tw11217281900730229803 : Nat := 0
def PySem.W.Fast.tw16905123929365638283 : Nat := 0
def PySem.W.Fast.tw12939516983355793611 : Nat := 0
def PySem.W.Fast.tw16059794784905385355 : Nat := 0
def PySem.W.Fast.tw5729928346586670667 : Nat := 0
def PySem.W.Fast.tw14788344068664931019 : Nat := 0
def PySem.W.Fast.tw711688299186632491 : Nat := 0
def PySem.W.Fast.tw926294167616182091 : Nat := 0
def PySem.W.Fast.tw6597367450248722283 : Nat := 0
def PySem.W.Fast.tw521854556527766411 : Nat := 0
def PySem.W.Fast.tw1231211521799276459 : Nat := 0
def PySem.W.Fast.tw14005358350528026571 : Nat := 0
def PySem.W.Fast.tw10843719233912145867 : Nat := 0
def PySem.W.Fast.tw11214659561261262924 : Nat := 0
def PySem.W.Fast.tw13268630098187508940 : Nat := 0
def PySem.W.Fast.tw15800286783392767276 : Nat := 0
def PySem.W.Fast.tw1798896616195238220 : Nat := 0
def PySem.W.Fast.tw10874180032460156236 : Nat := 0
def PySem.W.Fast.tw12161021200746653164 : Nat := 0
def PySem.W.Fast.tw10927094936121701996 : Nat := 0
def PySem.W.Fast.tw9726846741637464716 : Nat := 0
def PySem.W.Fast.tw2148521705020505900 : Nat := 0
def PySem.W.Fast.tw16447334285206962028 : Nat := 0
def PySem.W.Fast.tw17901661162322202637 : Nat := 0
def PySem.W.Fast.tw4371866291674763533 : Nat := 0
def PySem.W.Fast.tw8825004233406135597 : Nat := 0
def PySem.W.Fast.tw9705559572761238861 : Nat := 0
def PySem.W.Fast.tw4023524569971998189 : Nat := 0
def PySem.W.Fast.tw4903579286869667437 : Nat := 0
def PySem.W.Fast.tw883459122629690221 : Nat := 0
def PySem.W.Fast.tw10073525322266340462 : Nat := 0
def PySem.W.Fast.tw14621894691924566318 : Nat := 0
def PySem.W.Fast.tw13742143673837898062 : Nat := 0
def PySem.W.Fast.tw17981485516814575086 : Nat := 0
def PySem.W.Fast.tw15860443690818445934 : Nat := 0
def PySem.W.Fast.tw11352955669780010926 : Nat := 0
def PySem.W.Fast.tw9109187931106929679 : Nat := 0
def PySem.W.Fast.tw3307694204499000399 : Nat := 0
def PySem.W.Fast.tw7323609038256274639 : Nat := 0
def PySem.W.Fast.tw961597276047557871 : Nat := 0
def PySem.W.Fast.tw7126216504908279215 : Nat := 0
def PySem.W.Fast.tw14182650558500001295 : Nat := 0
def PySem.W.Fast.tw14745606249354049039 : Nat := 0
def PySem.W.Fast.tw5960766387482185583 : Nat := 0
def PySem.W.Fast.tw10208839281589222255 : Nat := 0
def PySem.W.Fast.tw156727810072001808 : Nat := 0
def PySem.W.Fast.tw7000737190933860624 : Nat := 0
def PySem.W.Fast.tw18248687464167874960 : Nat := 0
def PySem.W.Fast.tw6669577264738762224 : Nat := 0
def PySem.W.Fast.tw17530968413629917776 : Nat := 0
def PySem.W.Fast.tw3159403799610759920 : Nat := 0
def PySem.W.Fast.tw15280389697661511408 : Nat := 0
def PySem.W.Fast.tw14346634733686503152 : Nat := 0
def PySem.W.Fast.tw9483427383400481520 : Nat := 0
def PySem.W.Fast.tw7722178806252034960 : Nat := 0
def PySem.W.Fast.tw2789137274176890897 : Nat := 0
def PySem.W.Fast.tw10805711636365053009 : Nat := 0
def PySem.W.Fast.tw1666134340270784881 : Nat := 0
def PySem.W.Fast.tw6958126446931129841 : Nat := 0
def PySem.W.Fast.tw1687975923649871537 : Nat := 0
def PySem.W.Fast.tw2879710172942388209 : Nat := 0
def PySem.W.Fast.tw4394590220165971058 : Nat := 0
def PySem.W.Fast.tw13568688229258941650 : Nat := 0
def PySem.W.Fast.tw13887226040598165714 : Nat := 0
def PySem.W.Fast.tw3841708209133699474 : Nat := 0
def PySem.W.Fast.tw17419153575341687346 : Nat := 0
def PySem.W.Fast.tw13041260875772701330 : Nat := 0
def PySem.W.Fast.tw3904890918669916882 : Nat := 0
def PySem.W.Fast.tw4031775267533749106 : Nat := 0
def PySem.W.Fast.tw9243499150302108691 : Nat := 0
def PySem.W.Fast.tw2978747976592606259 : Nat := 0
def PySem.W.Fast.tw18097478804289088915 : Nat := 0
def PySem.W.Fast.tw2208091261133813139 : Nat := 0
def PySem.W.Fast.tw13604191417378622099 : Nat := 0
def PySem.W.Fast.tw6255318829758381715 : Nat := 0
def PySem.W.Fast.tw11957031392644741907 : Nat := 0
def PySem.W.Fast.tw709860404942556979 : Nat := 0
def PySem.W.Fast.tw10231647142595030931 : Nat := 0
def PySem.W.Fast.tw1506652169760068499 : Nat := 0
def PySem.W.Fast.tw17290928343242228723 : Nat := 0
def PySem.W.Fast.tw4315619068141664243 : Nat := 0
def PySem.W.Fast.tw4810971526392311860 : Nat := 0
def PySem.W.Fast.tw12340647975651773492 : Nat := 0
def PySem.W.Fast.tw14594988438605995220 : Nat := 0
def PySem.W.Fast.tw5709876036596799732 : Nat := 0
def PySem.W.Fast.tw4732944257929885012 : Nat := 0
def PySem.W.Fast.tw11945293015742442868 : Nat := 0
def PySem.W.Fast.tw16253539162598456884 : Nat := 0
def PySem.W.Fast.tw9606689545671392980 : Nat := 0
def PySem.W.Fast.tw15925690485731512052 : Nat := 0
def PySem.W.Fast.tw8036034441130614516 : Nat := 0
def PySem.W.Fast.tw4600348709099142004 : Nat := 0
def PySem.W.Fast.tw4140663365980096404 : Nat := 0
def PySem.W.Fast.tw14339184682854653908 : Nat := 0
def PySem.W.Fast.tw2326934588659749013 : Nat := 0
def PySem.W.Fast.tw12969464050632298773 : Nat := 0
def PySem.W.Fast.tw4232188636967818581 : Nat := 0
def PySem.W.Fast.tw1095873130902974805 : Nat := 0
def PySem.W.Fast.tw12627369676924314997 : Nat := 0
def PySem.W.Fast.tw17053815624216106389 : Nat := 0
def PySem.W.Fast.tw9533328072397973141 : Nat := 0
def PySem.W.Fast.tw9972269672219851509 : Nat := 0
def PySem.W.Fast.tw2523544039262841685 : Nat := 0
def PySem.W.Fast.tw9421260836934071221 : Nat := 0
def PySem.W.Fast.tw9135604456163162166 : Nat := 0
def PySem.W.Fast.tw9637903905480524886 : Nat := 0
def PySem.W.Fast.tw14222539025211088982 : Nat := 0
def PySem.W.Fast.tw15321339543300044886 : Nat := 0
def PySem.W.Fast.tw17981220652920402038 : Nat := 0
def PySem.W.Fast.tw9775547887094252694 : Nat := 0
def PySem.W.Fast.tw14196940316116770070 : Nat := 0
def PySem.W.Fast.tw9339517226807776534 : Nat := 0
def PySem.W.Fast.tw14928743697989308758 : Nat := 0
def PySem.W.Fast.tw2067736071748130390 : Nat := 0
def PySem.W.Fast.tw14863408640459891382 : Nat := 0
def PySem.W.Fast.tw5887890165358540502 : Nat := 0
def PySem.W.Fast.tw4859546302815167190 : Nat := 0
def PySem.W.Fast.tw13534579871424742198 : Nat := 0
def PySem.W.Fast.tw5229514370580994071 : Nat := 0
def PySem.W.Fast.tw12038701328317839479 : Nat := 0
def PySem.W.Fast.tw392892750264557751 : Nat := 0
def PySem.W.Fast.tw13822311732334969175 : Nat := 0
def PySem.W.Fast.tw3333414239743913431 : Nat := 0
def PySem.W.Fast.tw1046011220266365431 : Nat := 0
def PySem.W.Fast.tw2785374740739986135 : Nat := 0
def PySem.W.Fast.tw3142623993814789943 : Nat := 0
def PySem.W.Fast.tw9570946364336918359 : Nat := 0
def PySem.W.Fast.tw4781280693059563447 : Nat := 0
def PySem.W.Fast.tw11069831720799215575 : Nat := 0
def PySem.W.Fast.tw7579723881385079160 : Nat := 0
def PySem.W.Fast.tw11064652406785164856 : Nat := 0
def PySem.W.Fast.tw8083174020602133048 : Nat := 0
def PySem.W.Fast.tw3457730332686289560 : Nat := 0
def PySem.W.Fast.tw13955101202868810712 : Nat := 0
def PySem.W.Fast.tw11532330204685772825 : Nat := 0
def PySem.W.Fast.tw5151428342211606553 : Nat := 0
def PySem.W.Fast.tw15710049365418527833 : Nat := 0
def PySem.W.Fast.tw12461292869768340633 : Nat := 0
def PySem.W.Fast.tw4049899435561790681 : Nat := 0
def PySem.W.Fast.tw7725900734684889369 : Nat := 0
def PySem.W.Fast.tw12355317692033878457 : Nat := 0
def PySem.W.Fast.tw12491891499910032953 : Nat := 0
def PySem.W.Fast.tw6839137149831761913 : Nat := 0
def PySem.W.Fast.tw81706712734209082 : Nat := 0
def PySem.W.Fast.tw12560055137103672474 : Nat := 0
def PySem.W.Fast.tw303051967123348666 : Nat := 0
def PySem.W.Fast.tw3817811010412085562 : Nat := 0
def PySem.W.Fast.tw10163229543583261018 : Nat := 0
def PySem.W.Fast.tw10043441380030035482 : Nat := 0
def PySem.W.Fast.tw5659198238316420954 : Nat := 0
def PySem.W.Fast.tw8751376936043157370 : Nat := 0
def PySem.W.Fast.tw17608809492901537722 : Nat := 0
def PySem.W.Fast.tw7460496476339130330 : Nat := 0
def PySem.W.Fast.tw15691376763573601307 : Nat := 0
def PySem.W.Fast.tw6222088413037626427 : Nat := 0
def PySem.W.Fast.tw13921927919260052699 : Nat := 0
def PySem.W.Fast.tw9508550087157260507 : Nat := 0
def PySem.W.Fast.tw840364822029507995 : Nat := 0
def PySem.W.Fast.tw1221481738971273691 : Nat := 0
def PySem.W.Fast.tw8553125217021536827 : Nat := 0
def PySem.W.Fast.tw11693223444855407259 : Nat := 0
def PySem.W.Fast.tw15624116840588905307 : Nat := 0
def PySem.W.Fast.tw4788117967242680187 : Nat := 0
def PySem.W.Fast.tw8011889872402705339 : Nat := 0
def PySem.W.Fast.tw16084035995860238299 : Nat := 0
def PySem.W.Fast.tw11957100597976309788 : Nat := 0
def PySem.W.Fast.tw17444002556632881212 : Nat := 0
def PySem.W.Fast.tw717323419770223708 : Nat := 0
def PySem.W.Fast.tw11236069510201973916 : Nat := 0
def PySem.W.Fast.tw11303538614746370204 : Nat := 0
def PySem.W.Fast.tw12223639682943119580 : Nat := 0
def PySem.W.Fast.tw1009699135502565660 : Nat := 0
def PySem.W.Fast.tw12356148826434713916 : Nat := 0
def PySem.W.Fast.tw6704194778730289500 : Nat := 0
def PySem.W.Fast.tw10295684216228584924 : Nat := 0
def PySem.W.Fast.tw12002879783248915996 : Nat := 0
def PySem.W.Fast.tw1430895822926450268 : Nat := 0
def PySem.W.Fast.tw8642009635438271132 : Nat := 0
def PySem.W.Fast.tw15252232221291802300 : Nat := 0
def PySem.W.Fast.tw13200083128268374748 : Nat := 0
def PySem.W.Fast.tw10121506645646922460 : Nat := 0
def PySem.W.Fast.tw2434427886742028156 : Nat := 0
def PySem.W.Fast.tw16435626176606867356 : Nat := 0
def PySem.W.Fast.tw9039993075408080828 : Nat := 0
def PySem.W.Fast.tw12940221098545622173 : Nat := 0
def PySem.W.Fast.tw11515683823958105309 : Nat := 0
def PySem.W.Fast.tw4683456094404135165 : Nat := 0
def PySem.W.Fast.tw18178237133800772125 : Nat := 0
def PySem.W.Fast.tw18178895640545906269 : Nat := 0
def PySem.W.Fast.tw12119902037889191645 : Nat := 0
def PySem.W.Fast.tw6312442881199670109 : Nat := 0
def PySem.W.Fast.tw18186789613275041789 : Nat := 0
def PySem.W.Fast.tw18338775073117468669 : Nat := 0
def PySem.W.Fast.tw13233502181950208126 : Nat := 0
def PySem.W.Fast.tw5398040286867975326 : Nat := 0
def PySem.W.Fast.tw8914578867222214910 : Nat := 0
def PySem.W.Fast.tw2763203821260866014 : Nat := 0
def PySem.W.Fast.tw17268531997195721182 : Nat := 0
def PySem.W.Fast.tw14125013973555819038 : Nat := 0
def PySem.W.Fast.tw15532405067550864990 : Nat := 0
def PySem.W.Fast.tw16646638264329343742 : Nat := 0
def PySem.W.Fast.tw4927599484985382943 : Nat := 0
def PySem.W.Fast.tw2626255284771020959 : Nat := 0
def PySem.W.Fast.tw18085378985185646815 : Nat := 0
def PySem.W.Fast.tw1068923258159603231 : Nat := 0
def PySem.W.Fast.tw7803095214604246591 : Nat := 0
def PySem.W.Fast.tw4498861087524677439 : Nat := 0
def PySem.W.Fast.tw12624857803839521759 : Nat := 0
def PySem.W.Fast.tw17958147261303515135 : Nat := 0
def PySem.W.Fast.tw4169731616785208743 : Nat := 0
open Lean in
local macro_rules
  | `(tactic| o_head $H) => do
    if (H.raw.find? fun s => s.isIdent && s.getId.eraseMacroScopes == `DL.sysHook).isSome then Macro.throwUnsupported
    `(tactic| o_head (DL.sysHook $H))
open PySem PySem.W PyProof.Rows in
set_option maxRecDepth 100000 in
set_option maxHeartbeats 0 in
theorem PySem.Challenge.cw_labelgrid_k26_graphs_holds : PySem.Challenge.rw_labelgrid_k26_graphs.Holds := by
  w_on; o_law; k_head; (case hw => w_witness2)
  k_fill
  refine DL.walk_dlTS (l := PySem.Challenge.rw_labelgrid_k26_graphs) (k := 5) (x := "law") (qual := "law") (st := Law.s_law) (N := Law.n_law) (m := Law.b_law) (nms := Law.lamNms) (C := Law.CFa) rfl rfl ⟨rfl, by decide, by decide⟩ (fun w h Y => PySem.W.km_in_of Y.1) (fun w h Y => Y.2) Law.sc_law ?F Law.law_ok
  case F =>
    intro w mg fa h Y KX G hmg
    have hT := PySem.W.km_tabs_of Y.1
    refine' Law.all_mk KX G hmg ?aC_Graph ?pg_Graph ?hd_Graph ?po_Graph ?sa_Graph ?mk_Graph ?kc_Graph ?na_Graph_0 ?na_Graph_1 ?na_Graph_2 ?na_Graph_3 ?na_Graph_4 ?a0 ?i0 ?l0 ?c0 ?k0 ?a1 ?l1 ?c1 ?k1 ?a2 ?l2 ?c2 ?k2 ?a3 ?i3 ?l3 ?c3 ?k3 ?a4 ?l4 ?c4 ?k4 ?a5 ?l5 ?c5 ?k5 ?a6 ?i6 ?l6 ?c6 ?k6 ?a7 ?l7 ?c7 ?k7 ?a8 ?l8 ?c8 ?k8 ?a9 ?i9 ?l9 ?c9 ?k9 ?a10 ?i10 ?l10 ?c10 ?k10 ?a11 ?l11 ?c11 ?k11 ?a12 ?l12 ?c12 ?k12 ?a13 ?i13 ?l13 ?c13 ?k13 ?a14 ?i14 ?l14 ?c14 ?k14 ?a15 ?i15 ?l15 ?c15 ?k15 ?a16 ?i16 ?l16 ?c16 ?k16 ?a17 ?i17 ?l17 ?c17 ?k17 ?a18 ?i18 ?l18 ?c18 ?k18 ?a19 ?l19 ?c19 ?k19 ?a20 ?i20 ?l20 ?c20 ?k20 ?a21 ?l21 ?c21 ?k21 ?a22 ?l22 ?c22 ?k22 ?a23 ?l23 ?c23 ?k23 ?a24 ?l24 ?c24 ?k24 ?a25 ?l25 ?c25 ?k25 ?a26 ?l26 ?c26 ?k26 ?a27 ?l27 ?c27 ?k27 ?a28 ?l28 ?c28 ?k28 ?a29 ?l29 ?c29 ?k29 ?a30 ?l30 ?c30 ?k30 ?a31 ?l31 ?c31 ?k31 ?a32 ?l32 ?c32 ?k32 ?a33 ?l33 ?c33 ?k33 ?g_SHEET ?l_SHEET ?l_SHEET_0 ?l_SHEET_1 ?g_COLUMNS ?z_abs ?z_any ?z_int ?z_len ?z_list ?z_max ?z_min ?z_range ?z_repr ?z_sorted ?h13 ?u13 ?t13 ?ndF
    (case aC_Graph => k_is)
    (case pg_Graph => k_is)
    (case hd_Graph => k_is)
    (case po_Graph => k_is)
    (case sa_Graph => k_is)
    (case mk_Graph => k_is)
    (case kc_Graph => k_is)
    (case na_Graph_0 => k_is)
    (case na_Graph_1 => k_is)
    (case na_Graph_2 => k_is)
    (case na_Graph_3 => k_is)
    (case na_Graph_4 => k_is)
    (case a0 => k_is)
    (case i0 => k_is)
    (case l0 => k_is)
    (case c0 => k_is)
    (case k0 => k_is)
    (case a1 => k_is)
    (case l1 => k_is)
    (case c1 => k_is)
    (case k1 => k_is)
    (case a2 => k_is)
    (case l2 => k_is)
    (case c2 => k_is)
    (case k2 => k_is)
    (case a3 => k_is)
    (case i3 => k_is)
    (case l3 => k_is)
    (case c3 => k_is)
    (case k3 => k_is)
    (case a4 => k_is)
    (case l4 => k_is)
    (case c4 => k_is)
    (case k4 => k_is)
    (case a5 => k_is)
    (case l5 => k_is)
    (case c5 => k_is)
    (case k5 => k_is)
    (case a6 => k_is)
    (case i6 => k_is)
    (case l6 => k_is)
    (case c6 => k_is)
    (case k6 => k_is)
    (case a7 => k_is)
    (case l7 => k_is)
    (case c7 => k_is)
    (case k7 => k_is)
    (case a8 => k_is)
    (case l8 => k_is)
    (case c8 => k_is)
    (case k8 => k_is)
    (case a9 => k_is)
    (case i9 => k_is)
    (case l9 => k_is)
    (case c9 => k_is)
    (case k9 => k_is)
    (case a10 => k_is)
    (case i10 => k_is)
    (case l10 => k_is)
    (case c10 => k_is)
    (case k10 => k_is)
    (case a11 => k_is)
    (case l11 => k_is)
    (case c11 => k_is)
    (case k11 => k_is)
    (case a12 => k_is)
    (case l12 => k_is)
    (case c12 => k_is)
    (case k12 => k_is)
    (case a13 => k_is)
    (case i13 => k_is)
    (case l13 => k_is)
    (case c13 => k_is)
    (case k13 => k_is)
    (case a14 => k_is)
    (case i14 => k_is)
    (case l14 => k_is)
    (case c14 => k_is)
    (case k14 => k_is)
    (case a15 => k_is)
    (case i15 => k_is)
    (case l15 => k_is)
    (case c15 => k_is)
    (case k15 => k_is)
    (case a16 => k_is)
    (case i16 => k_is)
    (case l16 => k_is)
    (case c16 => k_is)
    (case k16 => k_is)
    (case a17 => k_is)
    (case i17 => k_is)
    (case l17 => k_is)
    (case c17 => k_is)
    (case k17 => k_is)
    (case a18 => k_is)
    (case i18 => k_is)
    (case l18 => k_is)
    (case c18 => k_is)
    (case k18 => k_is)
    (case a19 => k_is)
    (case l19 => k_is)
    (case c19 => k_is)
    (case k19 => k_is)
    (case a20 => k_is)
    (case i20 => k_is)
    (case l20 => k_is)
    (case c20 => k_is)
    (case k20 => k_is)
    (case a21 => k_is)
    (case l21 => k_is)
    (case c21 => k_is)
    (case k21 => k_is)
    (case a22 => k_is)
    (case l22 => k_is)
    (case c22 => k_is)
    (case k22 => k_is)
    (case a23 => k_is)
    (case l23 => k_is)
    (case c23 => k_is)
    (case k23 => k_is)
    (case a24 => k_is)
    (case l24 => k_is)
    (case c24 => k_is)
    (case k24 => k_is)
    (case a25 => k_is)
    (case l25 => k_is)
    (case c25 => k_is)
    (case k25 => k_is)
    (case a26 => k_is)
    (case l26 => k_is)
    (case c26 => k_is)
    (case k26 => k_is)
    (case a27 => k_is)
    (case l27 => k_is)
    (case c27 => k_is)
    (case k27 => k_is)
    (case a28 => k_is)
    (case l28 => k_is)
    (case c28 => k_is)
    (case k28 => k_is)
    (case a29 => k_is)
    (case l29 => k_is)
    (case c29 => k_is)
    (case k29 => k_is)
    (case a30 => k_is)
    (case l30 => k_is)
    (case c30 => k_is)
    (case k30 => k_is)
    (case a31 => k_is)
    (case l31 => k_is)
    (case c31 => k_is)
    (case k31 => k_is)
    (case a32 => k_is)
    (case l32 => k_is)
    (case c32 => k_is)
    (case k32 => k_is)
    (case a33 => k_is)
    (case l33 => k_is)
    (case c33 => k_is)
    (case k33 => k_is)
    (case g_SHEET => k_is)
    (case l_SHEET => k_is)
    (case l_SHEET_0 => k_is)
    (case l_SHEET_1 => k_is)
    (case g_COLUMNS => k_is)
    (case z_abs => k_is)
    (case z_any => k_is)
    (case z_int => k_is)
    (case z_len => k_is)
    (case z_list => k_is)
    (case z_max => k_is)
    (case z_min => k_is)
    (case z_range => k_is)
    (case z_repr => k_is)
    (case z_sorted => k_is)
    (case h13 => kernel_rfl)
    (case u13 => kernel_rfl)
    (case t13 => exact hT _ (List.contains_iff_mem.mp (by kernel_rfl)))
    (case ndF => decide +kernel)

