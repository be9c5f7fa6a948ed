import PyProof.Rows.All
import Wide.All
import OpenK.AllK
import Wide.FinOn
import HandS.ForMost
import HandS.ForExc
import HandS.Lambda
import HandS.Nested
import HandS.EndTab
import HandS.Wide
import HandS.Comp
import HandS.IsInst
import HandS.EndBits
import HandS.Text
import HandS.StrMore
import HandS.FStr
import HandS.Replace
import HandS.Deep
import HandS.RaiseMore
import PyProof.StrOps2
import PyProof.Rows.StrPadFill
import PyProof.StrLawsTight
import PyProof.StrLawsChain
import PyProof.Rows.StrItems
import PyProof.Rows.StrCut
import PyProof.Rows.StrPadWhole
import KE.IntTextLaws
import PyProof.ReprRoads
import PyProof.ReprLen
import PyProof.Rows.StrReprFit
import HandS.Style
import PyProof.Rows.RuleB_bool
import PyProof.Rows.SeqMore
import HandS.Dict
import HandS.More
import KE.SortKeyHeap
import HandS.ExcValue
import HandS.SortKw
import KE.KDictSum
import KE.KDictCopyH
import HandS.Sort
import HandS.HeadWalk
import HandS.WideBits
import HandS.RevRange
import HandS.Iter
import HandS.Conv
import KE.SortData
import KE.IntBitsLaws
import KE.DataMinMax
import ObjForm.LawKit
import HandS.CallLocal
import HandS.CallSlots
import HandS.WrittenGet
import HandS.ReplaceLit
import HandS.Exc
import HandS.ExcInit
import HandS.ExcField
import HandS.ExcIs
import HandS.ExcBuiltin
import KE.KExcIs
import KE.KxMul
import PyProof.DictMoreH
import HandS.DictEq
import KE.KDictOf
import HandS.DictComp
import HandS.Flow
import KE.KItem
import KE.GoesEnumKw
import KE.GoesNew
import HandS.TupSets
import HandS.SetBool
import PySem.Challenge.RW_labelgrid_k04_ranges_taken_apart
set_option Elab.async false
set_option linter.all false
set_option autoImplicit false
set_option maxRecDepth 100000
set_option maxHeartbeats 4000000
namespace DL
open PySem L2
/-! data, values with objects of one's own, objects -/
/-- a lambda as it stands in the text; ix tells it apart from the others of its law -/
structure LamS where
  ix : Nat
  nm : Str
  params : Arguments
  body : Expr
  scope : Scope
  fr : List Str
def LamS.nf (L : LamS) (cl : List (Str × Addr)) (c : Addr) : NdefX.NF := ⟨"<lambda>", L.nm, L.params, [], L.scope, cl, c⟩
def LamO (f : Addr) (F : NdefX.NF) (body : Expr) : HO := .ext fun h => ∃ (od : Option Addr) (sl : Array (Option Value)) (pm ctv : Value), h.get? f = some (⟨.type "function", od, .func (PySem.W.kla_fn F.name F.qual F.params body F.scope F.cl pm (.ref F.c) ctv), sl⟩ : Obj)
def cellO (o : Obj) : HO := .frz o (.own 0)
/-- a closure stands at a: its captured cells are still, and hold vs -/
structure CloAt (Z : Hp) (L : LamS) (a c : Addr) (cl : List (Str × Addr)) (vs : List V) : Prop where
  fn : Z a = some (LamO a (L.nf cl c) L.body)
  code : Z c = some (LamX.CodeO c L.nm)
  all : ∀ (y : Str) (b : Addr), cl.lookup y = some b → ∃ o v, Z b = some (cellO o) ∧ o.data = .cell v
  inj : ∀ (x y : Str) (b : Addr), cl.lookup x = some b → cl.lookup y = some b → x = y
  len : vs.length = L.fr.length
  has : ∀ (i : Nat) (y : Str), L.fr[i]? = some y → ∃ b o v u, cl.lookup y = some b ∧ Z b = some (cellO o) ∧ o.data = .cell (some u) ∧ vs[i]? = some v ∧ RelV v u
theorem CloAt.mono {Z Z' : Hp} {L : LamS} {a c : Addr} {cl : List (Str × Addr)} {vs : List V} (h : CloAt Z L a c cl vs) (e : Same Z Z') : CloAt Z' L a c cl vs :=
  ⟨e _ _ h.fn, e _ _ h.code, fun y b q => (h.all y b q).imp fun o ⟨v, h1, h2⟩ => ⟨v, e _ _ h1, h2⟩, h.inj, h.len, fun i y q => by
    obtain ⟨b, o, v, u, h1, h2, h3, h4, h5⟩ := h.has i y q
    exact ⟨b, o, v, u, h1, e _ _ h2, h3, h4, h5⟩⟩
inductive D where
  | non | bl (b : Bool) | int (i : Int) | str (s : Str)
  | tup (xs : List D) | ktup (xs : List D) | lst (xs : List D) | klst (xs : List D) | dK (kvs : List (Key × D)) | dT (kvs : List (List Key × D)) | fn (a : Addr) | clo (L : LamS) (xs : List D) | scr (xs : List D) | ty (n : String) | rng (lo hi : Int)
inductive DV where
  | p (d : D) | o (n : Nat)
inductive O where
  | lst (xs : List DV) | dK (kvs : List (Key × DV)) | dT (kvs : List (List Key × DV)) | ins (C : Addr) (fs : List (Str × DV)) | tbl (P : Addr) (q : Str) | clo (L : LamS) (xs : List DV) | gone
inductive Rs (α : Type) where
  | ok (v : α) (M : List O) | ex (c : Addr) (fs : List (Str × D)) (M : List O)
structure S where
  l : List (Option DV)
  m : List O
mutual
inductive Rep (K : PySem.W.Frag) (Z : Hp) : V → D → Prop
  | non : Rep K Z .non .non
  | bl (b : Bool) : Rep K Z (.bl b) (.bl b)
  | int (i : Int) : Rep K Z (.int i) (.int i)
  | str (x : Str) : Rep K Z (.str x) (.str x)
  | lst {a : Addr} {xs : List V} {ds : List D} : Rd Z a (.lst xs) → RepA K Z xs ds → Rep K Z (.ref a) (.lst ds)
  | tup {a : Addr} {xs : List V} {ds : List D} : Z a = some (.tup xs) → RepA K Z xs ds → Rep K Z (.ref a) (.tup ds)
  | ktup {a : Addr} {xs : List V} {ds : List D} : SqT K Z a xs → RepA K Z xs ds → Rep K Z (.ref a) (.ktup ds)
  | klst {a : Addr} {xs : List V} {ds : List D} : SqL K Z a xs → RepA K Z xs ds → Rep K Z (.ref a) (.klst ds)
  | dK {a : Addr} {o : Obj} {ks : List (Key × V)} {ds : List (Key × D)} : Z a = some (.frz o (.dK ks)) → RepK K Z ks ds → Rep K Z (.ref a) (.dK ds)
  | dT {a : Addr} {o : Obj} {ks : List (List Key × V)} {ds : List (List Key × D)} : Z a = some (.frz o (.dT ks)) → RepT K Z ks ds → Rep K Z (.ref a) (.dT ds)
  | fn (a : Addr) : Rep K Z (.ref a) (.fn a)
  | clo {a c : Addr} {cl : List (Str × Addr)} {vs : List V} {L : LamS} {ds : List D} : CloAt Z L a c cl vs → RepA K Z vs ds → Rep K Z (.ref a) (.clo L ds)
  | ty (n : String) : Rep K Z (.ty n) (.ty n)
  | rng {a : Addr} {lo hi : Int} : Z a = some (.rng lo hi) → Rep K Z (.ref a) (.rng lo hi)
  | scr {a : Addr} {xs : List V} {ds : List D} : SqL K Z a xs → RepA K Z xs ds → Rep K Z (.ref a) (.scr ds)
inductive RepA (K : PySem.W.Frag) (Z : Hp) : List V → List D → Prop
  | nil : RepA K Z [] []
  | cons {v : V} {vs : List V} {d : D} {ds : List D} : Rep K Z v d → RepA K Z vs ds → RepA K Z (v :: vs) (d :: ds)
inductive RepK (K : PySem.W.Frag) (Z : Hp) : List (Key × V) → List (Key × D) → Prop
  | nil : RepK K Z [] []
  | cons {k : Key} {v : V} {vs : List (Key × V)} {d : D} {ds : List (Key × D)} : Rep K Z v d → RepK K Z vs ds → RepK K Z ((k, v) :: vs) ((k, d) :: ds)
inductive RepT (K : PySem.W.Frag) (Z : Hp) : List (List Key × V) → List (List Key × D) → Prop
  | nil : RepT K Z [] []
  | cons {k : List Key} {v : V} {vs : List (List Key × V)} {d : D} {ds : List (List Key × D)} : Rep K Z v d → RepT K Z vs ds → RepT K Z ((k, v) :: vs) ((k, d) :: ds)
end
theorem same_l {K : PySem.W.Frag} {H H' : Hp} {a : Addr} {xs : List V} (e : Same H H') (h : SqL K H a xs) : SqL K H' a xs := e.seq h
theorem same_rd {H H' : Hp} {a : Addr} {u : HO} (e : Same H H') (h : Rd H a u) : Rd H' a u := by
  rcases h with h | ⟨o, h⟩
  · exact .inl (e a _ h)
  · exact .inr ⟨o, e a _ h⟩
theorem sqt {K : PySem.W.Frag} {H H' : Hp} {a : Addr} {xs : List V} (e : Same H H') (h : H a = some (.tup xs)) : SqT K H' a xs := .inl (.inl (e a _ h))
theorem same_t {K : PySem.W.Frag} {H H' : Hp} {a : Addr} {xs : List V} (e : Same H H') (h : SqT K H a xs) : SqT K H' a xs := by
  rcases h with (h | ⟨o, h⟩) | h
  · exact .inl (.inl (e a _ h))
  · exact .inl (.inr ⟨o, e a _ h⟩)
  · exact .inr h
section
variable {K : PySem.W.Frag} {Z Z' H H' : Hp}
mutual
theorem Rep.mono (e : Same Z Z') : ∀ {v : V} {d : D}, Rep K Z v d → Rep K Z' v d
  | _, _, .non => .non
  | _, _, .bl b => .bl b
  | _, _, .int i => .int i
  | _, _, .str x => .str x
  | _, _, .lst h r => .lst (same_rd e h) (RepA.mono e r)
  | _, _, .tup h r => .tup (e _ _ h) (RepA.mono e r)
  | _, _, .ktup h r => .ktup (same_t e h) (RepA.mono e r)
  | _, _, .klst h r => .klst (same_l e h) (RepA.mono e r)
  | _, _, .dK h r => .dK (e _ _ h) (RepK.mono e r)
  | _, _, .dT h r => .dT (e _ _ h) (RepT.mono e r)
  | _, _, .fn a => .fn a
  | _, _, .clo h r => .clo (h.mono e) (RepA.mono e r)
  | _, _, .ty n => .ty n
  | _, _, .rng h => .rng (e _ _ h)
  | _, _, .scr h r => .scr (same_l e h) (RepA.mono e r)
theorem RepA.mono (e : Same Z Z') : ∀ {v : List V} {d : List D}, RepA K Z v d → RepA K Z' v d
  | _, _, .nil => .nil
  | _, _, .cons h r => .cons (Rep.mono e h) (RepA.mono e r)
theorem RepK.mono (e : Same Z Z') : ∀ {v : List (Key × V)} {d : List (Key × D)}, RepK K Z v d → RepK K Z' v d
  | _, _, .nil => .nil
  | _, _, .cons h r => .cons (Rep.mono e h) (RepK.mono e r)
theorem RepT.mono (e : Same Z Z') : ∀ {v : List (List Key × V)} {d : List (List Key × D)}, RepT K Z v d → RepT K Z' v d
  | _, _, .nil => .nil
  | _, _, .cons h r => .cons (Rep.mono e h) (RepT.mono e r)
end
theorem RepA.length : ∀ {v : List V} {d : List D}, RepA K Z v d → v.length = d.length
  | _, _, .nil => rfl
  | _, _, .cons _ r => by rw [List.length_cons, List.length_cons, RepA.length r]
theorem RepA.get : ∀ {v : List V} {d : List D} {i : Nat} {x : D}, RepA K Z v d → d[i]? = some x → ∃ u, v[i]? = some u ∧ Rep K Z u x
  | _, _, _, _, .nil, e => by simp at e
  | _, _, 0, _, .cons h _, e => by simp at e; subst e; exact ⟨_, rfl, h⟩
  | _, _, i + 1, x, .cons _ r, e => by
    obtain ⟨u, h1, h2⟩ := RepA.get (i := i) (x := x) r (by simpa using e)
    exact ⟨u, by simpa using h1, h2⟩
theorem RepA.append : ∀ {v w : List V} {d f : List D}, RepA K Z v d → RepA K Z w f → RepA K Z (v ++ w) (d ++ f)
  | _, _, _, _, .nil, s => s
  | _, _, _, _, .cons h r, s => .cons h (RepA.append r s)
theorem RepA.take : ∀ {v : List V} {d : List D} (n : Nat), RepA K Z v d → RepA K Z (v.take n) (d.take n)
  | _, _, 0, _ => .nil
  | _, _, _ + 1, .nil => .nil
  | _, _, n + 1, .cons h r => .cons h (RepA.take n r)
theorem RepA.drop : ∀ {v : List V} {d : List D} (n : Nat), RepA K Z v d → RepA K Z (v.drop n) (d.drop n)
  | _, _, 0, h => h
  | _, _, _ + 1, .nil => .nil
  | _, _, n + 1, .cons _ r => RepA.drop n r
/-! values with objects of one's own -/
def RepV (K : PySem.W.Frag) (Z : Hp) (I : List Addr) (v : V) : DV → Prop
  | .p d => Rep K Z v d
  | .o n => ∃ a, I[n]? = some a ∧ v = .ref a
abbrev RepVs (K : PySem.W.Frag) (Z : Hp) (I : List Addr) : List V → List DV → Prop := Paired (RepV K Z I)
theorem paired_len {α β : Type} {F : α → β → Prop} : ∀ {xs : List α} {ys : List β}, Paired F xs ys → xs.length = ys.length
  | _, _, .nil => rfl
  | _, _, .cons _ r => by rw [List.length_cons, List.length_cons, paired_len r]
theorem paired_get {α β : Type} {F : α → β → Prop} : ∀ {xs : List α} {ys : List β} {i : Nat} {y : β}, Paired F xs ys → ys[i]? = some y → ∃ x, xs[i]? = some x ∧ F x y
  | _, _, _, _, .nil, e => by simp at e
  | _, _, 0, _, .cons h _, e => by simp at e; subst e; exact ⟨_, rfl, h⟩
  | _, _, i + 1, x, .cons _ r, e => by
    obtain ⟨u, h1, h2⟩ := paired_get (i := i) (y := x) r (by simpa using e)
    exact ⟨u, by simpa using h1, h2⟩
theorem paired_set {α β : Type} {F : α → β → Prop} {x : α} {y : β} (h : F x y) : ∀ {xs : List α} {ys : List β} (i : Nat), Paired F xs ys → Paired F (xs.set i x) (ys.set i y)
  | _, _, _, .nil => .nil
  | _, _, 0, .cons _ r => .cons h r
  | _, _, i + 1, .cons q r => .cons q (paired_set h i r)
theorem paired_app {α β : Type} {F : α → β → Prop} : ∀ {xs zs : List α} {ys ws : List β}, Paired F xs ys → Paired F zs ws → Paired F (xs ++ zs) (ys ++ ws)
  | _, _, _, _, .nil, s => s
  | _, _, _, _, .cons h r, s => .cons h (paired_app r s)
theorem paired_imp {α β : Type} {F G : α → β → Prop} (k : ∀ a b, F a b → G a b) : ∀ {xs : List α} {ys : List β}, Paired F xs ys → Paired G xs ys
  | _, _, .nil => .nil
  | _, _, .cons h r => .cons (k _ _ h) (paired_imp k r)
def FRel (K : PySem.W.Frag) (Z : Hp) (I : List Addr) {κ : Type} (p : κ × V) (q : κ × DV) : Prop := p.1 = q.1 ∧ RepV K Z I p.2 q.2
def RepO (K : PySem.W.Frag) (Z : Hp) (I : List Addr) (H : Hp) (a : Addr) : O → Prop
  | .lst ds => ∃ xs, H a = some (.lst xs) ∧ RepVs K Z I xs ds
  | .dK ds => ∃ ks, H a = some (.dK ks) ∧ Paired (FRel K Z I) ks ds
  | .dT ds => ∃ ks, H a = some (.dT ks) ∧ Paired (FRel K Z I) ks ds
  | .ins C fs => ∃ dx vs, H a = some (.ins C dx vs) ∧ Paired (FRel K Z I) vs fs
  | .tbl P q => a = P ∧ ∃ ps : Array Value, H a = some (.tbl ps) ∧ TriplesOk ps.toList ∧ ∀ (pos : Pos) (cv : Value), codeAmong pos ps.toList = some cv → ∃ c, cv = .ref c ∧ Z c = some (LamX.CodeO c q)
  | .clo L xs => ∃ c cl cvs, CloAt Z L a c cl cvs ∧ (∀ (y : Str) (b : Addr), cl.lookup y = some b → b ∉ I) ∧ RepVs K Z I cvs xs
  | .gone => True
/-- what is one's own is not given up yet; a closure stands still from the start -/
def ZN (Z : Hp) (a : Addr) : O → Prop
  | .clo _ _ => True
  | _ => Z a = none
def O.opn : O → Prop
  | .clo _ _ => False
  | _ => True
theorem ZN.of {Z : Hp} {a : Addr} (h : Z a = none) : ∀ o : O, ZN Z a o
  | .clo _ _ => trivial
  | .lst _ => h | .dK _ => h | .dT _ => h | .ins _ _ => h | .tbl _ _ => h | .gone => h
theorem ZN.get {Z : Hp} {a : Addr} : ∀ {o : O}, o.opn → ZN Z a o → Z a = none
  | .clo _ _, q, _ => q.elim
  | .lst _, _, h => h | .dK _, _, h => h | .dT _, _, h => h | .ins _ _, _, h => h | .tbl _ _, _, h => h | .gone, _, h => h
theorem ZN.imp {Z Z' : Hp} {a : Addr} (f : Z a = none → Z' a = none) : ∀ {o : O}, ZN Z a o → ZN Z' a o
  | .clo _ _, _ => trivial
  | .lst _, h => f h | .dK _, h => f h | .dT _, h => f h | .ins _ _, h => f h | .tbl _ _, h => f h | .gone, h => f h
structure Wf (K : PySem.W.Frag) (Z H : Hp) (I : List Addr) (M : List O) : Prop where
  sub : Same Z H
  len : I.length = M.length
  nd : I.Nodup
  tr : ∀ a ∈ I, H a ≠ none
  ob : ∀ (n : Nat) (a : Addr) (o : O), I[n]? = some a → M[n]? = some o → o ≠ .gone → ZN Z a o ∧ RepO K Z I H a o
/-- nobody's own: free, or a tuple -/
def Fr (H : Hp) (a : Addr) : Prop := H a = none ∨ ∃ xs, H a = some (.tup xs)
theorem Fr.no {H : Hp} {a : Addr} {u : HO} (h : H a = some u) (n : ∀ xs, u ≠ .tup xs) (f : Fr H a) : False := by
  rcases f with f | ⟨xs, f⟩
  · rw [h] at f; cases f
  · rw [h] at f; cases f; exact n xs rfl
theorem repO_nt {K : PySem.W.Frag} {Z H : Hp} {I : List Addr} {a : Addr} {o : O} (sub : Same Z H) (r : RepO K Z I H a o) (hg : o ≠ .gone) : ∃ u, H a = some u ∧ ∀ xs, u ≠ .tup xs := by
  cases o with
  | lst ds => obtain ⟨xs, h, _⟩ := r; exact ⟨_, h, fun _ e => nomatch e⟩
  | dK ds => obtain ⟨xs, h, _⟩ := r; exact ⟨_, h, fun _ e => nomatch e⟩
  | dT ds => obtain ⟨xs, h, _⟩ := r; exact ⟨_, h, fun _ e => nomatch e⟩
  | ins C fs => obtain ⟨dx, xs, h, _⟩ := r; exact ⟨_, h, fun _ e => nomatch e⟩
  | tbl P q => obtain ⟨e, ps, h, _⟩ := r; exact ⟨_, h, fun _ e => nomatch e⟩
  | clo L xs => obtain ⟨c, cl, cvs, h, _⟩ := r; exact ⟨_, sub _ _ h.fn, fun _ e => nomatch e⟩
  | gone => exact absurd rfl hg
structure Ext (Z H : Hp) (I : List Addr) (Z' H' : Hp) (I' : List Addr) : Prop where
  z : Same Z Z'
  i : ∃ t, I' = I ++ t
  fr : ∀ a o, H a = some o → a ∉ I → H' a = some o
  nw : ∀ a ∈ I', a ∈ I ∨ H a = none
  zn : ∀ a, Z' a ≠ none → Z a ≠ none ∨ Fr H a ∨ a ∈ I
  tr : ∀ a, H a ≠ none → H' a ≠ none
end
theorem Ext.refl {Z H : Hp} {I : List Addr} : Ext Z H I Z H I := ⟨Same.refl Z, ⟨[], by simp⟩, fun _ _ h _ => h, fun _ h => .inl h, fun _ h => .inl h, fun _ h => h⟩
theorem Ext.mem {Z H Z1 H1 : Hp} {I I1 : List Addr} (a : Ext Z H I Z1 H1 I1) {b : Addr} (h : b ∈ I) : b ∈ I1 := by
  obtain ⟨t, rfl⟩ := a.i
  exact List.mem_append_left _ h
theorem Ext.trans {Z H Z1 H1 Z2 H2 : Hp} {I I1 I2 : List Addr} (a : Ext Z H I Z1 H1 I1) (b : Ext Z1 H1 I1 Z2 H2 I2) : Ext Z H I Z2 H2 I2 where
  z := a.z.trans b.z
  i := by
    obtain ⟨t, e⟩ := a.i
    obtain ⟨u, f⟩ := b.i
    exact ⟨t ++ u, by rw [f, e, List.append_assoc]⟩
  fr := fun c o h n => b.fr c o (a.fr c o h n) fun m => by
    rcases a.nw c m with k | k
    · exact n k
    · rw [h] at k; cases k
  nw := fun c m => by
    rcases b.nw c m with k | k
    · exact a.nw c k
    · right
      cases e : H c with
      | none => rfl
      | some o => exact absurd k (a.tr c (by rw [e]; simp))
  zn := fun c h => by
    rcases b.zn c h with k | k | k
    · exact a.zn c k
    · cases e : H c with
      | none => exact .inr (.inl (.inl e))
      | some o =>
        by_cases q : c ∈ I
        · exact .inr (.inr q)
        · have e1 := a.fr c o e q
          rcases k with k | ⟨xs, k⟩
          · rw [e1] at k; cases k
          · rw [e1] at k; cases k; exact .inr (.inl (.inr ⟨xs, e⟩))
    · rcases a.nw c k with q | q
      · exact .inr (.inr q)
      · exact .inr (.inl (.inl q))
  tr := fun c h => b.tr c (a.tr c h)
section
variable {K : PySem.W.Frag} {Z H Z' H' : Hp} {I I' : List Addr}
theorem RepV.mono (e : Ext Z H I Z' H' I') {v : V} : ∀ {d : DV}, RepV K Z I v d → RepV K Z' I' v d
  | .p _, h => Rep.mono e.z h
  | .o n, ⟨a, h, q⟩ => by
    obtain ⟨t, rfl⟩ := e.i
    exact ⟨a, by rw [List.getElem?_append_left (List.getElem?_eq_some_iff.mp h).1]; exact h, q⟩
theorem RepV.mono' (z : Same Z Z') {v : V} : ∀ {d : DV}, RepV K Z I v d → RepV K Z' I v d
  | .p _, h => Rep.mono z h
  | .o _, h => h
/-- a pure step: nothing of one's own is touched -/
structure ExtP (Z H Z' H' : Hp) : Prop where
  z : Same Z Z'
  h : Same H H'
  sub : Same Z' H'
  zn : ∀ a, Z' a ≠ none → Z a ≠ none ∨ Fr H a
theorem ExtP.refl (h : Same Z H) : ExtP Z H Z H := ⟨Same.refl _, Same.refl _, h, fun _ h => .inl h⟩
theorem ExtP.trans {Z2 H2 : Hp} (a : ExtP Z H Z' H') (b : ExtP Z' H' Z2 H2) : ExtP Z H Z2 H2 := ⟨a.z.trans b.z, a.h.trans b.h, b.sub, fun c h => by
  rcases b.zn c h with k | k
  · exact a.zn c k
  · rcases k with k | ⟨xs, k⟩
    · exact .inr (.inl (a.h.free k))
    · cases e : H c with
      | none => exact .inr (.inl e)
      | some o => rw [a.h c o e] at k; cases k; exact .inr (.inr ⟨xs, e⟩)⟩
theorem none_of {Z H : Hp} (s : Same Z H) {p : Addr} (h : H p = none) : Z p = none := s.free h
theorem same_upd {H : Hp} {p : Addr} {o : HO} (h : H p = none) : Same H (upd H p o) := fun a u e => by
  rw [upd_ne (ne_of_none e h)]; exact e
theorem ExtP.new {p : Addr} {o : HO} (s : Same Z H) (h : H p = none) : ExtP Z H (upd Z p o) (upd H p o) := by
  refine ⟨same_upd (none_of s h), same_upd h, fun a u e => ?_, fun a e => ?_⟩
  · by_cases q : a = p
    · subst q; rw [upd_same] at e ⊢; exact e
    · rw [upd_ne q] at e ⊢; exact s a u e
  · by_cases q : a = p
    · subst q; exact .inr (.inl h)
    · rw [upd_ne q] at e; exact .inl e
theorem RepO.mono {a : Addr} (z : Same Z Z') (ha : H' a = H a) : ∀ {o : O}, RepO K Z I H a o → RepO K Z' I H' a o
  | .lst _, ⟨xs, h, r⟩ => ⟨xs, ha.trans h, paired_imp (fun _ _ q => RepV.mono' z q) r⟩
  | .dK _, ⟨xs, h, r⟩ => ⟨xs, ha.trans h, paired_imp (fun _ _ q => ⟨q.1, RepV.mono' z q.2⟩) r⟩
  | .dT _, ⟨xs, h, r⟩ => ⟨xs, ha.trans h, paired_imp (fun _ _ q => ⟨q.1, RepV.mono' z q.2⟩) r⟩
  | .ins _ _, ⟨dx, xs, h, r⟩ => ⟨dx, xs, ha.trans h, paired_imp (fun _ _ q => ⟨q.1, RepV.mono' z q.2⟩) r⟩
  | .tbl _ _, ⟨e, ps, h, t, r⟩ => ⟨e, ps, ha.trans h, t, fun pos cv hc => by
      obtain ⟨c, h1, h2⟩ := r pos cv hc
      exact ⟨c, h1, z _ _ h2⟩⟩
  | .clo _ _, ⟨c, cl, cvs, h, n, r⟩ => ⟨c, cl, cvs, h.mono z, n, paired_imp (fun _ _ q => RepV.mono' z q) r⟩
  | .gone, _ => trivial
theorem same_eq {H H' : Hp} (e : Same H H') {a : Addr} (h : H a ≠ none) : H' a = H a := by
  cases q : H a with
  | none => exact absurd q h
  | some o => exact e a o q
theorem Wf.extP {M : List O} (w : Wf K Z H I M) (e : ExtP Z H Z' H') : Wf K Z' H' I M where
  sub := e.sub
  len := w.len
  nd := w.nd
  tr := fun a h => by rw [same_eq e.h (w.tr a h)]; exact w.tr a h
  ob := fun n a o h1 h2 h3 => by
    obtain ⟨q1, q2⟩ := w.ob n a o h1 h2 h3
    have ha := w.tr a (List.mem_of_getElem? h1)
    refine ⟨q1.imp fun q1 => ?_, q2.mono e.z (same_eq e.h ha)⟩
    cases q : Z' a with
    | none => rfl
    | some u =>
      rcases e.zn a (by rw [q]; simp) with k | k
      · exact absurd q1 k
      · obtain ⟨u', hu, hn⟩ := repO_nt w.sub q2 h3
        exact (Fr.no hu hn k).elim
theorem ExtP.ext {M : List O} (w : Wf K Z H I M) (e : ExtP Z H Z' H') : Ext Z H I Z' H' I := ⟨e.z, ⟨[], by simp⟩, fun a o h _ => e.h a o h, fun _ h => .inl h, fun a h => (e.zn a h).imp_right .inl, fun a h => by rw [same_eq e.h h]; exact h⟩
/-! ### slots -/
structure RepS (K : PySem.W.Frag) (Z : Hp) (I : List Addr) (σ : St) (l : List (Option DV)) : Prop where
  len : σ.length = l.length
  at_ : ∀ (i : Nat) (dv : DV), l[i]? = some (some dv) → ∃ v, σ[i]? = some (some v) ∧ RepV K Z I v dv
theorem RepS.mono {σ : St} {l : List (Option DV)} (r : RepS K Z I σ l) (e : Ext Z H I Z' H' I') : RepS K Z' I' σ l := ⟨r.len, fun i dv h => by
  obtain ⟨v, h1, h2⟩ := r.at_ i dv h
  exact ⟨v, h1, h2.mono e⟩⟩
theorem RepS.set {σ : St} {l : List (Option DV)} (r : RepS K Z I σ l) {v : V} {dv : DV} (h : RepV K Z I v dv) (i : Nat) : RepS K Z I (σ.set i (some v)) (l.set i (some dv)) := by
  refine ⟨by simpa using r.len, fun j dw e => ?_⟩
  by_cases q : i = j
  · subst q
    by_cases b : i < l.length
    · rw [List.getElem?_set_self b] at e
      cases e
      exact ⟨v, by rw [List.getElem?_set_self (by rw [r.len]; exact b)], h⟩
    · rw [List.getElem?_eq_none (by simpa using b)] at e; cases e
  · rw [List.getElem?_set_ne q] at e ⊢
    exact r.at_ j dw e
/-! ### what is wanted -/
def ExcAt (K : PySem.W.Frag) (Z H : Hp) (d : Option Addr) (fs : List (Str × D)) : Prop :=
  (d = none ∧ fs = []) ∨ ∃ a vs, d = some a ∧ H a = some (.xd vs) ∧ Paired (fun (p : Str × V) (q : Str × D) => p.1 = q.1 ∧ Rep K Z p.2 q.2) vs fs
def PostX (K : PySem.W.Frag) (W : WX) (Z H : Hp) (I : List Addr) (σ : St) (M' : List O) (c : Addr) (fs : List (Str × D)) : Prop :=
  ∀ d Z' H' I', Wf K Z' H' I' M' → Ext Z H I Z' H' I' → ExcAt K Z' H' d fs → (∀ a, d = some a → H a = none ∧ a ∉ I') → W (.ref c) d σ H'
theorem PostX.mono {W : WX} {σ : St} {M' : List O} {c : Addr} {fs : List (Str × D)} {Z1 H1 : Hp} {I1 : List Addr} (e : Ext Z H I Z1 H1 I1) (h : PostX K W Z H I σ M' c fs) : PostX K W Z1 H1 I1 σ M' c fs :=
  fun d Z' H' I' w x a n => h d Z' H' I' w (e.trans x) a fun b q => ⟨by
    cases z : H b with
    | none => rfl
    | some o => exact absurd (n b q).1 (e.tr b (by rw [z]; simp)), (n b q).2⟩
def PostR {α β : Type} (K : PySem.W.Frag) (W : WX) (R : Hp → List Addr → β → α → Prop) (Z H : Hp) (I : List Addr) (σ : St) (Q : β → Hp → Prop) : Rs α → Prop
  | .ok a M' => ∀ b Z' H' I', Wf K Z' H' I' M' → Ext Z H I Z' H' I' → R Z' I' b a → Q b H'
  | .ex c fs M' => PostX K W Z H I σ M' c fs
theorem PostR.mono {α β : Type} {W : WX} {R : Hp → List Addr → β → α → Prop} {σ : St} {Q : β → Hp → Prop} {Z1 H1 : Hp} {I1 : List Addr} (e : Ext Z H I Z1 H1 I1) : ∀ {r : Rs α}, PostR K W R Z H I σ Q r → PostR K W R Z1 H1 I1 σ Q r
  | .ok _ _, h => fun b Z' H' I' w x q => h b Z' H' I' w (e.trans x) q
  | .ex _ _ _, h => PostX.mono e h
theorem PostR.x {α β : Type} {W : WX} {R : Hp → List Addr → β → α → Prop} {σ : St} {Q : β → Hp → Prop} {r : Rs α} (h : PostR K W R Z H I σ Q r) (c : Addr) (fs : List (Str × D)) (M : List O) (e : r = .ex c fs M) : PostX K W Z H I σ M c fs := by
  subst e; exact h
abbrev Mi (α : Type) := S → Option (Rs α)
structure Sound {α β : Type} (K : PySem.W.Frag) (W : WX) (R : Hp → List Addr → β → α → Prop) (t : St → Hp → (β → Hp → Prop) → Prop) (m : Mi α) : Prop where
  ok : ∀ (σ : St) (H : Hp) (s : S) (Z : Hp) (I : List Addr) (r : Rs α) (Q : β → Hp → Prop), Wf K Z H I s.m → RepS K Z I σ s.l → m s = some r → PostR K W R Z H I σ Q r → t σ H Q
def bnd {α γ : Type} (m : Mi α) (k : α → Mi γ) : Mi γ := fun s => match m s with
  | some (.ok v M) => k v ⟨s.l, M⟩
  | some (.ex c f M) => some (.ex c f M)
  | none => none
theorem Sound.bnd {α β γ : Type} {W : WX} {R : Hp → List Addr → β → α → Prop} {t : St → Hp → (β → Hp → Prop) → Prop} {m : Mi α} (h : Sound K W R t m) {σ : St} {s : S} {k : α → Mi γ} {r : Rs γ} {Q : β → Hp → Prop}
    (w : Wf K Z H I s.m) (rs : RepS K Z I σ s.l) (e : DL.bnd m k s = some r) (hx : ∀ c fs M, r = .ex c fs M → PostX K W Z H I σ M c fs)
    (hk : ∀ a b M' Z' H' I', Wf K Z' H' I' M' → RepS K Z' I' σ s.l → Ext Z H I Z' H' I' → R Z' I' b a → k a ⟨s.l, M'⟩ = some r → Q b H') : t σ H Q := by
  unfold DL.bnd at e
  cases q : m s with
  | none => rw [q] at e; cases e
  | some r0 =>
    rw [q] at e
    cases r0 with
    | ok v M => exact h.ok σ H s Z I _ Q w rs q fun b Z' H' I' w' x' r' => hk v b M Z' H' I' w' (rs.mono x') x' r' e
    | ex c f M =>
      obtain rfl := Option.some.inj e
      exact h.ok σ H s Z I _ Q w rs q (hx c f M rfl)
abbrev EM := Mi DV
abbrev AM := Mi (List DV)
structure DE (K : PySem.W.Frag) (X : Cx) (W : WX) (e : Expr) (t : TE) (m : EM) : Prop where
  k : X.K = K
  pe : PE X e t
  so : Sound K W (RepV K) t m
def RepB (_ : Hp) (_ : List Addr) (b : Bool) (d : DV) : Prop := d = .p (.bl b)
structure DT (K : PySem.W.Frag) (X : Cx) (W : WX) (e : Expr) (t : TT) (m : EM) : Prop where
  k : X.K = K
  pt : PT X e t
  so : Sound K W RepB t m
structure DW (K : PySem.W.Frag) (X : Cx) (W : WX) (e : Expr) (t : TT) (m : EM) : Prop where
  k : X.K = K
  pw : PW X e t
  so : Sound K W RepB t m
structure DA (K : PySem.W.Frag) (X : Cx) (W : WX) (es : List Expr) (t : TA) (m : AM) : Prop where
  k : X.K = K
  pa : PA X es t
  so : Sound K W (RepVs K) t m
/-- statements -/
inductive Fl where
  | nx | rt (v : DV) | bk | ct | ex (c : Addr) (fs : List (Str × D))
abbrev SM := S → Option (Fl × S)
def PostS (K : PySem.W.Frag) (W : WX) (Z H : Hp) (I : List Addr) (D : Ends) : Fl × S → Prop
  | (.nx, s') => ∀ σ' Z' H' I', Wf K Z' H' I' s'.m → RepS K Z' I' σ' s'.l → Ext Z H I Z' H' I' → D.nx σ' H'
  | (.rt dv, s') => ∀ v Z' H' I', Wf K Z' H' I' s'.m → Ext Z H I Z' H' I' → RepV K Z' I' v dv → D.rt v H'
  | (.bk, s') => ∀ σ' Z' H' I', Wf K Z' H' I' s'.m → RepS K Z' I' σ' s'.l → Ext Z H I Z' H' I' → D.bk σ' H'
  | (.ct, s') => ∀ σ' Z' H' I', Wf K Z' H' I' s'.m → RepS K Z' I' σ' s'.l → Ext Z H I Z' H' I' → D.ct σ' H'
  | (.ex c fs, s') => ∀ σ' d Z' H' I', Wf K Z' H' I' s'.m → RepS K Z' I' σ' s'.l → Ext Z H I Z' H' I' → ExcAt K Z' H' d fs → (∀ a, d = some a → H a = none ∧ a ∉ I') → W (.ref c) d σ' H'
structure SoundS (K : PySem.W.Frag) (W : WX) (t : TS) (m : SM) : Prop where
  ok : ∀ (σ : St) (H : Hp) (s : S) (Z : Hp) (I : List Addr) (r : Fl × S) (D : Ends), Wf K Z H I s.m → RepS K Z I σ s.l → m s = some r → PostS K W Z H I D r → t D σ H
structure DS (K : PySem.W.Frag) (X : Cx) (W : WX) (st : Stmt) (t : TS) (m : SM) : Prop where
  k : X.K = K
  ps : PS X st t
  so : SoundS K W t m
structure DSs (K : PySem.W.Frag) (X : Cx) (W : WX) (st : List Stmt) (t : TS) (m : SM) : Prop where
  k : X.K = K
  ps : PSs X st t
  so : SoundS K W t m
end
end DL
namespace DL
open PySem L2
section
variable {K : PySem.W.Frag} {X : Cx} {W : WX} {e a b c : Expr} {pos : Pos}
/-! ### names, constants -/
def gv (l : List (Option DV)) (i : Nat) : Option DV := match l[i]? with
  | some (some d) => some d
  | _ => none
def mVar (i : Nat) : EM := fun s => match gv s.l i with
  | some d => some (.ok d s.m)
  | none => none
theorem gv_some {l : List (Option DV)} {i : Nat} {d : DV} (h : gv l i = some d) : l[i]? = some (some d) := by
  unfold gv at h
  split at h
  · cases h; assumption
  · cases h
theorem so_var {i : Nat} : Sound K W (RepV K) (tVar i) (mVar i) := ⟨fun σ H s Z I r Q w rs e p => by
  unfold mVar at e
  split at e
  · rename_i d hd
    obtain rfl := Option.some.inj e
    obtain ⟨v, h1, h2⟩ := rs.at_ i d (gv_some hd)
    exact ⟨v, h1, p v Z H I w Ext.refl h2⟩
  · cases e⟩
def mC (d : D) : EM := fun s => some (.ok (.p d) s.m)
theorem so_c {v : V} {d : D} (h : ∀ Z, Rep K Z v d) : Sound K W (RepV K) (tC v) (mC d) := ⟨fun σ H s Z I r Q w rs e p => by
  obtain rfl := Option.some.inj e
  exact p v Z H I w Ext.refl (h Z)⟩
theorem de_var (i : Nat) {x : Str} (k : X.K = K := by rfl) (hN : X.N[i]? = some x := by rfl) (hv : Vis X.env.scope x := by first | exact Or.inl rfl | exact Or.inr (Or.inl rfl) | exact Or.inr (Or.inr rfl)) (hd : (x == ("__debug__" : Str)) = false := by decide)
    (hcd : (x == ("__classdict__" : Str)) = false := by decide) : DE K X W (.Name x pos) (tVar i) (mVar i) := ⟨k, pe_var hN hv hd hcd, so_var⟩
theorem de_int {i : Int} {j} (k : X.K = K := by rfl) : DE K X W (.Constant (.int i) j pos) (tC (.int i)) (mC (.int i)) := ⟨k, pe_int, so_c fun _ => .int i⟩
theorem de_bl {i : Bool} {j} (k : X.K = K := by rfl) : DE K X W (.Constant (.bool i) j pos) (tC (.bl i)) (mC (.bl i)) := ⟨k, pe_bl, so_c fun _ => .bl i⟩
theorem de_non {j} (k : X.K = K := by rfl) : DE K X W (.Constant .none j pos) (tC .non) (mC .non) := ⟨k, pe_non, so_c fun _ => .non⟩
/-! ### operations on data -/
def pur {γ : Type} (k : D → Mi γ) : DV → Mi γ
  | .p d, s => k d s
  | .o _, _ => none
/-- the value of an operation: at the heap as it is, or with new objects -/
def PostP (K : PySem.W.Frag) (Z H : Hp) (d : D) (Q : VK) : Prop := ∀ v Z' H', ExtP Z H Z' H' → Rep K Z' v d → Q v H'
def ret (o : Option D) : EM := fun s => match o with
  | some d => some (.ok (.p d) s.m)
  | none => none
theorem PostP.of {Z H : Hp} {I : List Addr} {σ : St} {Q : VK} {d : D} {M : List O} (w : Wf K Z H I M) (p : PostR K W (RepV K) Z H I σ Q (.ok (.p d) M)) : PostP K Z H d Q :=
  fun v Z' H' x r => p v Z' H' I (w.extP x) (x.ext w) r
structure OpD (K : PySem.W.Frag) (X : Cx) (f : Value → Value → Sem Value) (r : R2) (g : D → D → Option D) : Prop where
  op : X.K = K → OpR X f r
  ok : ∀ (x y : V) (d e c : D) (Z H : Hp) (Q : VK), Same Z H → Rep K Z x d → Rep K Z y e → g d e = some c → PostP K Z H c Q → r x y H Q
def mBin (g : D → D → Option D) (m n : EM) : EM := bnd m (pur fun d => bnd n (pur fun e => ret (g d e)))
theorem so_bin {r : R2} {g : D → D → Option D} {ta tb : TE} {m n : EM} (h : ∀ (x y : V) (d e c : D) (Z H : Hp) (Q : VK), Same Z H → Rep K Z x d → Rep K Z y e → g d e = some c → PostP K Z H c Q → r x y H Q)
    (ha : Sound K W (RepV K) ta m) (hb : Sound K W (RepV K) tb n) : Sound K W (RepV K) (tOp r ta tb) (mBin g m n) := ⟨fun σ H s Z I r0 Q w rs e p => by
  refine ha.bnd w rs e (p.x) fun d v M1 Z1 H1 I1 w1 rs1 x1 q1 e1 => ?_
  cases d with
  | o n => cases e1
  | p d =>
  have p1 := p.mono x1
  refine hb.bnd (s := ⟨s.l, M1⟩) w1 rs1 e1 (p1.x) fun d2 v2 M2 Z2 H2 I2 w2 rs2 x2 q2 e2 => ?_
  cases d2 with
  | o n => cases e2
  | p d2 =>
  have p2 := p1.mono x2
  have e3 : ret (g d d2) ⟨s.l, M2⟩ = some r0 := e2
  unfold ret at e3
  cases q : g d d2 with
  | none => rw [q] at e3; cases e3
  | some c =>
    rw [q] at e3
    obtain rfl := Option.some.inj e3
    exact h v v2 d d2 c Z2 H2 Q w2.sub (Rep.mono x2.z q1) q2 q (PostP.of w2 p2)⟩
theorem de_bin {op : Operator} {r : R2} {g : D → D → Option D} {ta tb : TE} {m n : EM} (h : OpD K X (binaryOp op) r g) (ha : DE K X W a ta m) (hb : DE K X W b tb n) : DE K X W (.BinOp a op b pos) (tOp r ta tb) (mBin g m n) :=
  ⟨ha.k, pe_op (h.op ha.k) ha.pe hb.pe, so_bin h.ok ha.so hb.so⟩
theorem de_cmp {op : CmpOp} {r : R2} {g : D → D → Option D} {ta tb : TE} {m n : EM} (h : OpD K X (compareOp op) r g) (ha : DE K X W a ta m) (hb : DE K X W b tb n) (hm : behindInMarks op b = false := by first | exact nomark _ | rfl) : DE K X W (.Compare a [op] [b] pos) (tOp r ta tb) (mBin g m n) :=
  ⟨ha.k, pe_cmpR (h.op ha.k) ha.pe hb.pe hm, so_bin h.ok ha.so hb.so⟩
theorem so_test {t : TE} {m : EM} (h : Sound K W (RepV K) t m) (hb : ∀ s r, m s = some r → ∀ v M, r = .ok v M → ∃ b, v = .p (.bl b)) : Sound K W RepB (tTest t) m := ⟨fun σ H s Z I r Q w rs e p => by
  refine h.ok σ H s Z I r _ w rs e ?_
  cases r with
  | ex c fs M => exact p
  | ok v M =>
    obtain ⟨b, rfl⟩ := hb s _ e v M rfl
    intro v Z' H' I' w' x' r'
    cases r'
    exact ⟨b, rfl, p b Z' H' I' w' x' rfl⟩⟩
/-- a result that is a truth -/
def boolD (g : D → D → Option D) : Prop := ∀ d e c, g d e = some c → ∃ b, c = .bl b
theorem bnd_ok {α γ : Type} {m : Mi α} {k : α → Mi γ} {s : S} {v : γ} {M : List O} (e : bnd m k s = some (.ok v M)) : ∃ a M1, m s = some (.ok a M1) ∧ k a ⟨s.l, M1⟩ = some (.ok v M) := by
  unfold bnd at e
  cases q : m s with
  | none => rw [q] at e; cases e
  | some r0 =>
    rw [q] at e
    cases r0 with
    | ok a M1 => exact ⟨a, M1, rfl, e⟩
    | ex c f M1 => cases e
theorem pur_ok {γ : Type} {k : D → Mi γ} {v : DV} {s : S} {r : Rs γ} (e : pur k v s = some r) : ∃ d, v = .p d ∧ k d s = some r := by
  cases v with
  | p d => exact ⟨d, rfl, e⟩
  | o n => cases e
theorem ret_ok {o : Option D} {s : S} {r : Rs DV} (e : ret o s = some r) : ∃ d, o = some d ∧ r = .ok (.p d) s.m := by
  cases o with
  | none => cases e
  | some d => exact ⟨d, rfl, (Option.some.inj e).symm⟩
theorem mBin_bool {g : D → D → Option D} {m n : EM} (hg : boolD g) (s : S) (r : Rs DV) (e : mBin g m n s = some r) (v : DV) (M : List O) (hr : r = .ok v M) : ∃ b, v = .p (.bl b) := by
  subst hr
  obtain ⟨a, M1, _, e⟩ := bnd_ok e
  obtain ⟨d, _, e⟩ := pur_ok e
  obtain ⟨a2, M2, _, e⟩ := bnd_ok e
  obtain ⟨d2, _, e⟩ := pur_ok e
  obtain ⟨c, q, e⟩ := ret_ok e
  cases e
  obtain ⟨b, rfl⟩ := hg _ _ _ q
  exact ⟨b, rfl⟩
theorem dt_cmp {op : CmpOp} {r : R2} {g : D → D → Option D} {ta tb : TE} {m n : EM} (h : OpD K X (compareOp op) r g) (hg : boolD g) (ha : DE K X W a ta m) (hb : DE K X W b tb n) (hm : behindInMarks op b = false := by first | exact nomark _ | rfl) : DT K X W (.Compare a [op] [b] pos) (tTest (tOp r ta tb)) (mBin g m n) :=
  ⟨ha.k, pt_cmpR (h.op ha.k) ha.pe hb.pe hm, so_test (so_bin h.ok ha.so hb.so) (mBin_bool hg)⟩
/-! the ints -/
def dI (g : Int → Int → Option D) : D → D → Option D
  | .int i, .int j => g i j
  | _, _ => none
theorem ok_rI {C : Int → Int → Prop} {h : Int → Int → V} {g : Int → Int → Option D} (hc : ∀ i j c, g i j = some c → C i j ∧ ∀ Z, Rep K Z (h i j) c) : ∀ (x y : V) (d e c : D) (Z H : Hp) (Q : VK), Same Z H → Rep K Z x d → Rep K Z y e → dI g d e = some c → PostP K Z H c Q → rI C h x y H Q := by
  intro x y d e c Z H Q s hx hy hg p
  unfold dI at hg
  split at hg
  · cases hx; cases hy
    obtain ⟨h1, h2⟩ := hc _ _ _ hg
    exact ⟨_, _, rfl, rfl, h1, p _ Z H (ExtP.refl s) (h2 Z)⟩
  · cases hg
theorem ok_rI0 {h : Int → Int → V} {g : Int → Int → Option D} (hc : ∀ i j c, g i j = some c → ∀ Z, Rep K Z (h i j) c) : ∀ (x y : V) (d e c : D) (Z H : Hp) (Q : VK), Same Z H → Rep K Z x d → Rep K Z y e → dI g d e = some c → PostP K Z H c Q → rI0 h x y H Q := by
  intro x y d e c Z H Q s hx hy hg p
  unfold dI at hg
  split at hg
  · cases hx; cases hy
    exact ⟨_, _, rfl, rfl, p _ Z H (ExtP.refl s) (hc _ _ _ hg Z)⟩
  · cases hg
abbrev dIi (g : Int → Int → Int) : D → D → Option D := dI fun i j => some (.int (g i j))
abbrev dIb (g : Int → Int → Bool) : D → D → Option D := dI fun i j => some (.bl (g i j))
def dAdd : D → D → Option D
  | .int i, .int j => some (.int (i + j))
  | .str x, .str y => if x.length + y.length ≤ 1000000 then some (.str (x ++ y)) else none
  | _, _ => none
theorem size_le {n : Nat} (h : n ≤ 1000000) : n ≤ sizeLine := Nat.le_trans h (by decide)
theorem size_lt {n : Nat} (h : n ≤ 1000000) : n < sizeLine := Nat.lt_of_le_of_lt h (by decide)
theorem od_add : OpD K X (binaryOp .Add) (fun x y H Q => rI0 (fun i j => .int (i + j)) x y H Q ∨ ∃ i j, x = .str i ∧ y = .str j ∧ i.length + j.length ≤ sizeLine ∧ Q (.str (i ++ j)) H) dAdd where
  op := fun _ pins s σ H x y v u Q I rx ry h => by
    rcases h with h | h
    · exact op_add pins s σ H x y v u Q I rx ry h
    · exact op_add_str pins s σ H x y v u Q I rx ry h
  ok := by
    intro x y d e c Z H Q s hx hy hg p
    unfold dAdd at hg
    split at hg
    · cases hx; cases hy; cases hg
      exact .inl ⟨_, _, rfl, rfl, p _ Z H (ExtP.refl s) (.int _)⟩
    · split at hg
      · rename_i hl
        cases hx; cases hy; cases hg
        exact .inr ⟨_, _, rfl, rfl, size_le hl, p _ Z H (ExtP.refl s) (.str _)⟩
      · cases hg
    · cases hg
theorem od_sub : OpD K X (binaryOp .Sub) (rI0 fun i j => .int (i - j)) (dIi fun i j => i - j) := ⟨fun _ => op_sub, ok_rI0 fun i j c h Z => by cases h; exact .int _⟩
def mulOk (i j : Int) : Bool := decide (-(2 ^ 64) < i ∧ i < 2 ^ 64) || decide (-(2 ^ 64) < j ∧ j < 2 ^ 64)
theorem od_mul : OpD K X (binaryOp .Mult) (rI CMul fun i j => .int (i * j)) (dI fun i j => if mulOk i j = true then some (.int (i * j)) else none) := ⟨fun _ => op_mul, ok_rI fun i j c h => by
  split at h
  · rename_i hc
    cases h
    refine ⟨?_, fun _ => .int _⟩
    unfold mulOk at hc
    simp only [Bool.or_eq_true, decide_eq_true_eq] at hc
    exact hc
  · cases h⟩
end
end DL
namespace DL
open PySem L2
section
variable {K : PySem.W.Frag} {X : Cx} {W : WX} {e a b c : Expr} {pos : Pos}
/-! ### more ints -/
theorem od_fdiv : OpD K X (binaryOp .FloorDiv) (rI CDivW fun i j => .int (i / j)) (dI fun i j => if 0 < j ∧ j < 18446744073709551616 then some (.int (i / j)) else none) := ⟨fun _ => op_fdivW, ok_rI fun i j c h => by
  split at h
  · rename_i hc
    cases h
    exact ⟨wide_div hc.1 (b := 64) (by have : (2 : Nat) ^ 64 = 18446744073709551616 := by decide
                                       omega) (by decide) (by decide), fun _ => .int _⟩
  · cases h⟩
theorem od_mod : OpD K X (binaryOp .Mod) (rI (fun _ j => 0 < j) fun i j => .int (i % j)) (dI fun i j => if 0 < j then some (.int (i % j)) else none) := ⟨fun _ => op_mod, ok_rI fun i j c h => by
  split at h
  · rename_i hc; cases h; exact ⟨hc, fun _ => .int _⟩
  · cases h⟩
theorem od_lt : OpD K X (compareOp .Lt) (rI0 fun i j => .bl (decide (i < j))) (dIb fun i j => decide (i < j)) := ⟨fun _ => op_lt, ok_rI0 fun i j c h Z => by cases h; exact .bl _⟩
theorem od_le : OpD K X (compareOp .LtE) (rI0 fun i j => .bl (decide (i ≤ j))) (dIb fun i j => decide (i ≤ j)) := ⟨fun _ => op_le, ok_rI0 fun i j c h Z => by cases h; exact .bl _⟩
theorem od_gt : OpD K X (compareOp .Gt) (rI0 fun i j => .bl (decide (j < i))) (dIb fun i j => decide (j < i)) := ⟨fun _ => op_gt, ok_rI0 fun i j c h Z => by cases h; exact .bl _⟩
theorem od_ge : OpD K X (compareOp .GtE) (rI0 fun i j => .bl (decide (j ≤ i))) (dIb fun i j => decide (j ≤ i)) := ⟨fun _ => op_ge, ok_rI0 fun i j c h Z => by cases h; exact .bl _⟩
theorem bool_dIb {g : Int → Int → Bool} : boolD (dIb g) := fun d e c h => by
  unfold dIb dI at h
  split at h
  · exact ⟨_, (Option.some.inj h).symm⟩
  · cases h
/-! ### one value in -/
def mUn (g : D → Option D) (m : EM) : EM := bnd m (pur fun d => ret (g d))
theorem so_un {r : V → Hp → VK → Prop} {g : D → Option D} {ta : TE} {m : EM} (h : ∀ (x : V) (d c : D) (Z H : Hp) (Q : VK), Same Z H → Rep K Z x d → g d = some c → PostP K Z H c Q → r x H Q)
    (ha : Sound K W (RepV K) ta m) : Sound K W (RepV K) (tUn r ta) (mUn g m) := ⟨fun σ H s Z I r0 Q w rs e p => by
  refine ha.bnd w rs e (p.x) fun d v M1 Z1 H1 I1 w1 rs1 x1 q1 e1 => ?_
  obtain ⟨d, rfl, e1⟩ := pur_ok e1
  obtain ⟨c, q, rfl⟩ := ret_ok e1
  exact h v d c Z1 H1 Q w1.sub q1 q (PostP.of w1 (p.mono x1))⟩
/-! ### is None -/
def isN : D → Bool
  | .non => true
  | _ => false
theorem rep_isN {Z : Hp} {x : V} {d : D} (h : Rep K Z x d) : decide (x = .non) = isN d := by
  cases h <;> rfl
def isNV : DV → Bool
  | .p d => isN d
  | .o _ => false
theorem repV_isN {Z : Hp} {I : List Addr} {x : V} {d : DV} (h : RepV K Z I x d) : decide (x = .non) = isNV d := by
  cases d with
  | p d => exact rep_isN h
  | o n => obtain ⟨a, _, rfl⟩ := h; rfl
def mIsN (m : EM) : EM := bnd m fun d s => some (.ok (.p (.bl (isNV d))) s.m)
def mNotN (m : EM) : EM := bnd m fun d s => some (.ok (.p (.bl (!isNV d))) s.m)
theorem so_isN {ta : TE} {m : EM} (ha : Sound K W (RepV K) ta m) : Sound K W (RepV K) (tIsN ta) (mIsN m) := ⟨fun σ H s Z I r0 Q w rs e p => by
  refine ha.bnd w rs e (p.x) fun d v M1 Z1 H1 I1 w1 rs1 x1 q1 e1 => ?_
  obtain rfl := Option.some.inj e1
  rw [repV_isN q1]
  exact p _ Z1 H1 I1 w1 x1 (.bl _)⟩
theorem so_notN {ta : TE} {m : EM} (ha : Sound K W (RepV K) ta m) : Sound K W (RepV K) (tNotN ta) (mNotN m) := ⟨fun σ H s Z I r0 Q w rs e p => by
  refine ha.bnd w rs e (p.x) fun d v M1 Z1 H1 I1 w1 rs1 x1 q1 e1 => ?_
  obtain rfl := Option.some.inj e1
  rw [repV_isN q1]
  exact p _ Z1 H1 I1 w1 x1 (.bl _)⟩
theorem so_B {t : TE} {m : EM} (h : Sound K W (RepV K) t m) (hb : ∀ s r, m s = some r → ∀ v M, r = .ok v M → ∃ b, v = .p (.bl b)) : Sound K W RepB (tB t) m := so_test h hb
theorem mIsN_bool {m : EM} (s : S) (r : Rs DV) (e : mIsN m s = some r) (v : DV) (M : List O) (hr : r = .ok v M) : ∃ b, v = .p (.bl b) := by
  subst hr
  obtain ⟨a, M1, _, e⟩ := bnd_ok e
  cases e; exact ⟨_, rfl⟩
theorem mNotN_bool {m : EM} (s : S) (r : Rs DV) (e : mNotN m s = some r) (v : DV) (M : List O) (hr : r = .ok v M) : ∃ b, v = .p (.bl b) := by
  subst hr
  obtain ⟨a, M1, _, e⟩ := bnd_ok e
  cases e; exact ⟨_, rfl⟩
theorem de_isN {ta : TE} {m : EM} {j} {pos' : Pos} (ha : DE K X W a ta m) : DE K X W (.Compare a [.Is] [.Constant .none j pos'] pos) (tIsN ta) (mIsN m) := ⟨ha.k, pe_cmp (pc_isN ha.pe), so_isN ha.so⟩
theorem dt_isN {ta : TE} {m : EM} {j} {pos' : Pos} (ha : DE K X W a ta m) : DT K X W (.Compare a [.Is] [.Constant .none j pos'] pos) (tB (tIsN ta)) (mIsN m) := ⟨ha.k, pt_cmp (pc_isN ha.pe), so_B (so_isN ha.so) mIsN_bool⟩
theorem dt_notN {ta : TE} {m : EM} {j} {pos' : Pos} (ha : DE K X W a ta m) : DT K X W (.Compare a [.IsNot] [.Constant .none j pos'] pos) (tB (tNotN ta)) (mNotN m) := ⟨ha.k, pt_cmp (pc_notN ha.pe), so_B (so_notN ha.so) mNotN_bool⟩
/-! ### truth -/
def truD : D → Option Bool
  | .non => some false
  | .bl b => some b
  | .int i => some (i != 0)
  | .str y => if y.length ≤ 1000000 then some (!(y.length == 0)) else none
  | .lst xs => some (!xs.isEmpty)
  | .tup xs => some (!xs.isEmpty)
  | .ktup xs => some (!xs.isEmpty)
  | .klst xs => some (!xs.isEmpty)
  | _ => none
def truO : Option O → Option Bool
  | some (.lst xs) => some (!xs.isEmpty)
  | some (.dK xs) => some (!xs.isEmpty)
  | _ => none
def truM (M : List O) : DV → Option Bool
  | .p d => truD d
  | .o n => truO M[n]?
def mTru (m : EM) : EM := bnd m fun d s => match truM s.m d with
  | some b => some (.ok (.p (.bl b)) s.m)
  | none => none
theorem isEmpty_len {α β : Type} {xs : List α} {ys : List β} (h : xs.length = ys.length) : xs.isEmpty = ys.isEmpty := by
  cases xs <;> cases ys <;> first | rfl | cases h
theorem truV_of {Z H : Hp} {I : List Addr} {M : List O} {x : V} {d : DV} {b : Bool} (w : Wf K Z H I M) (h : RepV K Z I x d) (e : truM M d = some b) : TruV K x H b := by
  cases d with
  | o n =>
    obtain ⟨a, ha, rfl⟩ := h
    have e : truO M[n]? = some b := e
    cases q : M[n]? with
    | none => rw [q] at e; cases e
    | some o =>
      rw [q] at e
      cases o with
      | lst xs =>
        obtain ⟨_, ys, h1, h2⟩ := w.ob n a _ ha q (by intro z; cases z)
        cases e
        exact .inl ⟨ys, SqL.of h1, by rw [isEmpty_len (paired_len h2)]⟩
      | dK xs =>
        obtain ⟨_, ys, h1, h2⟩ := w.ob n a _ ha q (by intro z; cases z)
        cases e
        exact .inr (.inr ⟨ys, h1, by rw [isEmpty_len (paired_len h2)]⟩)
      | _ => cases e
  | p d =>
    have h : Rep K Z x d := h
    have e : truD d = some b := e
    cases h with
    | non => cases e; rfl
    | bl k => cases e; rfl
    | int i => cases e; rfl
    | str y =>
      have e : (if y.length ≤ 1000000 then some (!(y.length == 0)) else none) = some b := e
      split at e
      · rename_i hl
        cases e
        refine ⟨size_le hl, ?_⟩
        cases hz : y.length with
        | zero => rfl
        | succ n =>
          have : ¬ ((n : Int) + 1 = 0) := by omega
          simp [this]
      · cases e
    | lst h1 h2 => cases e; exact .inl ⟨_, .inl (same_rd w.sub h1), by rw [isEmpty_len h2.length]⟩
    | tup h1 h2 => cases e; exact .inr (.inl ⟨_, sqt w.sub h1, by rw [isEmpty_len h2.length]⟩)
    | ktup h1 h2 => cases e; exact .inr (.inl ⟨_, same_t w.sub h1, by rw [isEmpty_len h2.length]⟩)
    | klst h1 h2 => cases e; exact .inl ⟨_, same_l w.sub h1, by rw [isEmpty_len h2.length]⟩
    | dK _ _ => cases e
    | dT _ _ => cases e
    | fn _ => cases e
    | clo _ _ => cases e
    | scr _ _ => cases e
    | ty _ => cases e
    | rng _ => cases e
theorem dt_tru {ta : TE} {m : EM} (ha : DE K X W a ta m) (he : ∀ whole, isTrue a X.env whole = (do let v ← whole; standAt a.pos; holding [v] (truthy v)) := by intro _; rfl) : DT K X W a (fun σ H Q => ta σ H fun x H' => ∃ k, TruV K x H' k ∧ Q k H') (mTru m) := by
  refine ⟨ha.k, ?_, ⟨fun σ H s Z I r0 Q w rs e p => ?_⟩⟩
  · rw [← ha.k]; exact pt_truth ha.pe he
  refine ha.so.bnd w rs e (p.x) fun d v M1 Z1 H1 I1 w1 rs1 x1 q1 e1 => ?_
  have e1 : (match truM M1 d with | some b => some (Rs.ok (DV.p (.bl b)) M1) | none => none) = some r0 := e1
  cases q : truM M1 d with
  | none => rw [q] at e1; cases e1
  | some k =>
    rw [q] at e1
    obtain rfl := Option.some.inj e1
    exact ⟨k, truV_of w1 q1 q, p k Z1 H1 I1 w1 x1 rfl⟩
/-! ### and, or, not, if-else -/
def ifM {γ : Type} (n k : Mi γ) : DV → Mi γ
  | .p (.bl true), s => n s
  | .p (.bl false), s => k s
  | _, _ => none
def fls : EM := fun s => some (.ok (.p (.bl false)) s.m)
def tru : EM := fun s => some (.ok (.p (.bl true)) s.m)
def mAnd (m n : EM) : EM := bnd m (ifM n fls)
def mOr (m n : EM) : EM := bnd m (ifM tru n)
def mNot (m : EM) : EM := bnd m (ifM fls tru)
def mIf (c m n : EM) : EM := bnd c (ifM m n)
theorem so_and {t u : TT} {m n : EM} (ha : Sound K W RepB t m) (hb : Sound K W RepB u n) : Sound K W RepB (tAnd t u) (mAnd m n) := ⟨fun σ H s Z I r0 Q w rs e p => by
  refine ha.bnd w rs e (p.x) fun d v M1 Z1 H1 I1 w1 rs1 x1 q1 e1 => ?_
  cases (show d = .p (.bl v) from q1)
  cases v with
  | true => exact hb.ok σ H1 ⟨s.l, M1⟩ Z1 I1 r0 Q w1 rs1 e1 (p.mono x1)
  | false => cases e1; exact p false Z1 H1 I1 w1 x1 rfl⟩
theorem so_or {t u : TT} {m n : EM} (ha : Sound K W RepB t m) (hb : Sound K W RepB u n) : Sound K W RepB (tOr t u) (mOr m n) := ⟨fun σ H s Z I r0 Q w rs e p => by
  refine ha.bnd w rs e (p.x) fun d v M1 Z1 H1 I1 w1 rs1 x1 q1 e1 => ?_
  cases (show d = .p (.bl v) from q1)
  cases v with
  | false => exact hb.ok σ H1 ⟨s.l, M1⟩ Z1 I1 r0 Q w1 rs1 e1 (p.mono x1)
  | true => cases e1; exact p true Z1 H1 I1 w1 x1 rfl⟩
theorem dw_and1 {t : TT} {m : EM} (ha : DT K X W a t m) : DW K X W (.BoolOp .And [a] pos) t m := ⟨ha.k, pw_and1 ha.pt, ha.so⟩
theorem dw_or1 {t : TT} {m : EM} (ha : DT K X W a t m) : DW K X W (.BoolOp .Or [a] pos) t m := ⟨ha.k, pw_or1 ha.pt, ha.so⟩
theorem dw_and {t u : TT} {m n : EM} {rest : List Expr} (ha : DT K X W a t m) (hb : DW K X W (.BoolOp .And (b :: rest) pos) u n) : DW K X W (.BoolOp .And (a :: b :: rest) pos) (tAnd t u) (mAnd m n) := ⟨ha.k, pw_and ha.pt hb.pw, so_and ha.so hb.so⟩
theorem dw_or {t u : TT} {m n : EM} {rest : List Expr} (ha : DT K X W a t m) (hb : DW K X W (.BoolOp .Or (b :: rest) pos) u n) : DW K X W (.BoolOp .Or (a :: b :: rest) pos) (tOr t u) (mOr m n) := ⟨ha.k, pw_or ha.pt hb.pw, so_or ha.so hb.so⟩
theorem dt_w {t : TT} {m : EM} (h : DW K X W a t m) : DT K X W a t m := ⟨h.k, h.pw.pt, h.so⟩
/-- as values -/
theorem so_andV {t u : TE} {m n : EM} (ha : Sound K W (RepV K) t m) (hb : Sound K W (RepV K) u n) : Sound K W (RepV K) (tAndV t u) (mAnd m n) := ⟨fun σ H s Z I r0 Q w rs e p => by
  refine ha.bnd w rs e (p.x) fun d v M1 Z1 H1 I1 w1 rs1 x1 q1 e1 => ?_
  unfold ifM at e1
  split at e1
  · cases q1; exact ⟨true, rfl, by rw [if_pos rfl]; exact hb.ok σ H1 ⟨s.l, M1⟩ Z1 I1 r0 Q w1 rs1 e1 (p.mono x1)⟩
  · cases q1; cases e1; exact ⟨false, rfl, by rw [if_neg Bool.false_ne_true]; exact p _ Z1 H1 I1 w1 x1 (.bl _)⟩
  · cases e1⟩
theorem de_one {op} {t : TE} {m : EM} (ha : DE K X W a t m) : DE K X W (.BoolOp op [a] pos) t m := ⟨ha.k, pe_one ha.pe, ha.so⟩
theorem de_and {t u : TE} {m n : EM} {rest : List Expr} (ha : DE K X W a t m) (hb : DE K X W (.BoolOp .And (b :: rest) pos) u n) : DE K X W (.BoolOp .And (a :: b :: rest) pos) (tAndV t u) (mAnd m n) := ⟨ha.k, pe_and ha.pe hb.pe, so_andV ha.so hb.so⟩
/-! ### a chain of two comparisons -/
def mChain (g h : D → D → Option D) (m n k : EM) : EM := bnd m (pur fun d => bnd n (pur fun e => bnd (ret (g d e)) (ifM (bnd k (pur fun f => ret (h e f))) fls)))
end
end DL
namespace DL
open PySem L2
section
variable {K : PySem.W.Frag} {Z H Z' H' : Hp} {I I' : List Addr} {M : List O}
/-! ### the store's steps -/
theorem RepO.ext {a : Addr} (s : Same Z H) (x : Ext Z H I Z' H' I') (ha : H' a = H a) : ∀ {o : O}, RepO K Z I H a o → RepO K Z' I' H' a o
  | .lst _, ⟨xs, h, r⟩ => ⟨xs, ha.trans h, paired_imp (fun _ _ q => RepV.mono x q) r⟩
  | .dK _, ⟨xs, h, r⟩ => ⟨xs, ha.trans h, paired_imp (fun _ _ q => ⟨q.1, RepV.mono x q.2⟩) r⟩
  | .dT _, ⟨xs, h, r⟩ => ⟨xs, ha.trans h, paired_imp (fun _ _ q => ⟨q.1, RepV.mono x q.2⟩) r⟩
  | .ins _ _, ⟨dx, xs, h, r⟩ => ⟨dx, xs, ha.trans h, paired_imp (fun _ _ q => ⟨q.1, RepV.mono x q.2⟩) r⟩
  | .tbl _ _, ⟨e, ps, h, t, r⟩ => ⟨e, ps, ha.trans h, t, fun pos cv hc => by
      obtain ⟨c, h1, h2⟩ := r pos cv hc
      exact ⟨c, h1, x.z _ _ h2⟩⟩
  | .clo _ _, ⟨c, cl, cvs, h, n, r⟩ => ⟨c, cl, cvs, h.mono x.z, (fun y b q m => by
      obtain ⟨o, v, h1, _⟩ := h.all y b q
      rcases x.nw b m with k | k
      · exact n y b q k
      · rw [s b _ h1] at k; cases k), paired_imp (fun _ _ q => RepV.mono x q) r⟩
  | .gone, _ => trivial
theorem ext_new {p : Addr} {o : HO} (s : Same Z H) (h : H p = none) : Ext Z H I Z (upd H p o) (I ++ [p]) where
  z := Same.refl _
  i := ⟨[p], rfl⟩
  fr := fun a u e _ => by rw [upd_ne (ne_of_none e h)]; exact e
  nw := fun a m => by
    rcases List.mem_append.mp m with k | k
    · exact .inl k
    · rw [List.mem_singleton.mp k]; exact .inr h
  zn := fun a e => .inl e
  tr := fun a e => by
    rw [upd_ne (fun q => e (by rw [q]; exact h))]; exact e
theorem Wf.newO (w : Wf K Z H I M) {p : Addr} {ho : HO} {o : O} (hp : H p = none) (r : RepO K Z (I ++ [p]) (upd H p ho) p o) : Wf K Z (upd H p ho) (I ++ [p]) (M ++ [o]) where
  sub := fun a u e => by rw [upd_ne (ne_of_none (w.sub a u e) hp)]; exact w.sub a u e
  len := by rw [List.length_append, List.length_append, w.len]; rfl
  nd := by
    refine List.nodup_append.mpr ⟨w.nd, by simp, fun a ha b hb => ?_⟩
    rw [List.mem_singleton.mp hb]
    intro q
    exact w.tr a ha (by rw [q]; exact hp)
  tr := fun a m => by
    rcases List.mem_append.mp m with k | k
    · rw [upd_ne (fun q => w.tr a k (by rw [q]; exact hp))]; exact w.tr a k
    · rw [List.mem_singleton.mp k, upd_same]; simp
  ob := fun n a o' h1 h2 h3 => by
    by_cases hn : n < I.length
    · rw [List.getElem?_append_left hn] at h1
      rw [List.getElem?_append_left (by rw [← w.len]; exact hn)] at h2
      obtain ⟨q1, q2⟩ := w.ob n a o' h1 h2 h3
      exact ⟨q1, q2.ext w.sub (ext_new w.sub hp) (upd_ne fun q => w.tr a (List.mem_of_getElem? h1) (by rw [q]; exact hp))⟩
    · have e1 : n = I.length := by
        have := (List.getElem?_eq_some_iff.mp h1).1
        rw [List.length_append, List.length_singleton] at this
        omega
      subst e1
      rw [List.getElem?_append_right (Nat.le_refl _), Nat.sub_self] at h1
      rw [List.getElem?_append_right (by rw [w.len]; exact Nat.le_refl _), w.len, Nat.sub_self] at h2
      cases h1
      cases h2
      exact ⟨ZN.of (none_of w.sub hp) _, r⟩
theorem ext_set {a : Addr} {ho : HO} (ha : a ∈ I) : Ext Z H I Z (upd H a ho) I where
  z := Same.refl _
  i := ⟨[], by simp⟩
  fr := fun b u e n => by rw [upd_ne (fun q => n (by rw [q]; exact ha))]; exact e
  nw := fun _ m => .inl m
  zn := fun _ e => .inl e
  tr := fun b e => by
    by_cases q : b = a
    · rw [q, upd_same]; simp
    · rw [upd_ne q]; exact e
theorem Wf.setO (w : Wf K Z H I M) {n : Nat} {a : Addr} {ho : HO} {o o' : O} (ha : I[n]? = some a) (hm : M[n]? = some o) (hg : o ≠ .gone) (r : RepO K Z I (upd H a ho) a o') (op : o.opn := by trivial) : Wf K Z (upd H a ho) I (M.set n o') where
  sub := fun b u e => by
    have q := (w.ob n a o ha hm hg).1.get op
    rw [upd_ne (fun z => by rw [z, q] at e; cases e)]; exact w.sub b u e
  len := by rw [List.length_set]; exact w.len
  nd := w.nd
  tr := fun b m => (ext_set (Z := Z) (I := I) (List.mem_of_getElem? ha)).tr b (w.tr b m)
  ob := fun j b u h1 h2 h3 => by
    by_cases q : n = j
    · subst q
      rw [ha] at h1; cases h1
      rw [List.getElem?_set_self (List.getElem?_eq_some_iff.mp hm).1] at h2
      cases h2
      exact ⟨ZN.of ((w.ob n a o ha hm hg).1.get op) _, r⟩
    · rw [List.getElem?_set_ne q] at h2
      obtain ⟨q1, q2⟩ := w.ob j b u h1 h2 h3
      refine ⟨q1, q2.ext w.sub (ext_set (List.mem_of_getElem? ha)) (upd_ne fun z => ?_)⟩
      obtain ⟨l1, e1⟩ := List.getElem?_eq_some_iff.mp ha
      obtain ⟨l2, e2⟩ := List.getElem?_eq_some_iff.mp h1
      exact q ((List.getElem_inj w.nd).mp (e1.trans (z.symm.trans e2.symm)))
def allP : List DV → Option (List D)
  | [] => some []
  | .p d :: r => (allP r).map (d :: ·)
  | .o _ :: _ => none
theorem allP_rep : ∀ {vs : List V} {ds : List DV} {xs : List D}, RepVs K Z I vs ds → allP ds = some xs → RepA K Z vs xs
  | _, [], _, .nil, e => by cases e; exact .nil
  | _, .p d :: r, _, .cons h t, e => by
    have e : (allP r).map (d :: ·) = some _ := e
    cases q : allP r with
    | none => rw [q] at e; cases e
    | some ys =>
      rw [q] at e; cases e
      exact .cons h (allP_rep t q)
  | _, .o n :: r, _, .cons h t, e => by cases e
theorem allP_map : ∀ {vs : List V} {xs : List D}, RepA K Z vs xs → RepVs K Z I vs (xs.map .p)
  | _, _, .nil => .nil
  | _, _, .cons h t => .cons h (allP_map t)
/-- one's own list is given up: from now on it stays -/
theorem ext_frz {n : Nat} {a : Addr} {ho : HO} (w : Wf K Z H I M) (ha : I[n]? = some a) (hz : Z a = none) (hh : H a = some ho) : Ext Z H I (upd Z a ho) H I where
  z := same_upd hz
  i := ⟨[], by simp⟩
  fr := fun _ _ e _ => e
  nw := fun _ m => .inl m
  zn := fun b e => by
    by_cases q : b = a
    · rw [q]; exact .inr (.inr (List.mem_of_getElem? ha))
    · rw [upd_ne q] at e; exact .inl e
  tr := fun _ e => e
theorem Wf.frz (w : Wf K Z H I M) {n : Nat} {a : Addr} {ho : HO} {o : O} (ha : I[n]? = some a) (hm : M[n]? = some o) (hg : o ≠ .gone) (hh : H a = some ho) (op : o.opn := by trivial) : Wf K (upd Z a ho) H I (M.set n .gone) where
  sub := fun b u e => by
    by_cases q : b = a
    · rw [q, upd_same] at e; rw [q, hh]; exact e
    · rw [upd_ne q] at e; exact w.sub b u e
  len := by rw [List.length_set]; exact w.len
  nd := w.nd
  tr := w.tr
  ob := fun j b u h1 h2 h3 => by
    by_cases q : n = j
    · subst q
      rw [List.getElem?_set_self (List.getElem?_eq_some_iff.mp hm).1] at h2
      cases h2
      exact absurd rfl h3
    · rw [List.getElem?_set_ne q] at h2
      obtain ⟨q1, q2⟩ := w.ob j b u h1 h2 h3
      have hz := (w.ob n a o ha hm hg).1.get op
      refine ⟨q1.imp fun q1 => ?_, q2.ext w.sub (ext_frz w ha hz hh) rfl⟩
      rw [upd_ne fun z => ?_]
      · exact q1
      obtain ⟨l1, e1⟩ := List.getElem?_eq_some_iff.mp ha
      obtain ⟨l2, e2⟩ := List.getElem?_eq_some_iff.mp h1
      exact q ((List.getElem_inj w.nd).mp (e1.trans (z.symm.trans e2.symm)))
end
section
variable {K : PySem.W.Frag} {X : Cx} {W : WX} {e a b c : Expr} {es : List Expr} {pos : Pos}
/-! ### argument lists, displays -/
def aNil : AM := fun s => some (.ok [] s.m)
def aCons (m : EM) (ms : AM) : AM := bnd m fun d => bnd ms fun ds s => some (.ok (d :: ds) s.m)
theorem so_aNil : Sound K W (RepVs K) tNil aNil := ⟨fun σ H s Z I r Q w rs e p => by
  obtain rfl := Option.some.inj e
  exact p [] Z H I w Ext.refl .nil⟩
theorem so_aCons {ta : TE} {tr : TA} {m : EM} {ms : AM} (ha : Sound K W (RepV K) ta m) (hr : Sound K W (RepVs K) tr ms) : Sound K W (RepVs K) (tCons ta tr) (aCons m ms) := ⟨fun σ H s Z I r0 Q w rs e p => by
  refine ha.bnd w rs e (p.x) fun d v M1 Z1 H1 I1 w1 rs1 x1 q1 e1 => ?_
  have p1 := p.mono x1
  refine hr.bnd (s := ⟨s.l, M1⟩) w1 rs1 e1 (p1.x) fun ds vs M2 Z2 H2 I2 w2 rs2 x2 q2 e2 => ?_
  obtain rfl := Option.some.inj e2
  exact p1 _ Z2 H2 I2 w2 x2 (.cons (q1.mono x2) q2)⟩
theorem da_nil (k : X.K = K := by rfl) : DA K X W [] tNil aNil := ⟨k, pa_nil, so_aNil⟩
theorem da_cons {ta : TE} {tr : TA} {m : EM} {ms : AM} (ha : DE K X W e ta m) (hr : DA K X W es tr ms) (hs : starEach (e :: es) X.env = (false, eval e X.env) :: starEach es X.env := by rfl) : DA K X W (e :: es) (tCons ta tr) (aCons m ms) :=
  ⟨ha.k, pa_cons ha.pe hr.pa hs, so_aCons ha.so hr.so⟩
def disp (g : List D → D) (ms : AM) : EM := bnd ms fun ds s => match allP ds with
  | some xs => if xs.length ≤ 1000000 then some (.ok (.p (g xs)) s.m) else none
  | none => none
theorem so_tup {t : TA} {ms : AM} (h : Sound K W (RepVs K) t ms) : Sound K W (RepV K) (tTup t) (disp .tup ms) := ⟨fun σ H s Z I r0 Q w rs e p => by
  refine h.bnd w rs e (p.x) fun ds vs M1 Z1 H1 I1 w1 rs1 x1 q1 e1 => ?_
  have e1 : (match allP ds with | some xs => if xs.length ≤ 1000000 then some (Rs.ok (DV.p (D.tup xs)) M1) else none | none => none) = some r0 := e1
  cases q : allP ds with
  | none => rw [q] at e1; cases e1
  | some xs =>
    rw [q] at e1
    have e1 : (if xs.length ≤ 1000000 then some (Rs.ok (DV.p (D.tup xs)) M1) else none) = some r0 := e1
    split at e1
    · rename_i hl
      obtain rfl := Option.some.inj e1
      have ra := allP_rep q1 q
      refine ⟨by rw [ra.length]; exact size_le hl, fun l hl => ?_⟩
      have y := ExtP.new (o := .tup vs) w1.sub hl
      exact (p.mono x1) _ _ _ I1 (w1.extP y) (y.ext w1) (.tup upd_same (ra.mono y.z))
    · cases e1⟩
theorem so_lst {t : TA} {ms : AM} (h : Sound K W (RepVs K) t ms) : Sound K W (RepV K) (tLst t) (disp .lst ms) := ⟨fun σ H s Z I r0 Q w rs e p => by
  refine h.bnd w rs e (p.x) fun ds vs M1 Z1 H1 I1 w1 rs1 x1 q1 e1 => ?_
  have e1 : (match allP ds with | some xs => if xs.length ≤ 1000000 then some (Rs.ok (DV.p (D.lst xs)) M1) else none | none => none) = some r0 := e1
  cases q : allP ds with
  | none => rw [q] at e1; cases e1
  | some xs =>
    rw [q] at e1
    have e1 : (if xs.length ≤ 1000000 then some (Rs.ok (DV.p (D.lst xs)) M1) else none) = some r0 := e1
    split at e1
    · rename_i hl
      obtain rfl := Option.some.inj e1
      have ra := allP_rep q1 q
      refine ⟨by rw [ra.length]; exact size_le hl, fun l hl => ?_⟩
      have y := ExtP.new (o := .lst vs) w1.sub hl
      exact (p.mono x1) _ _ _ I1 (w1.extP y) (y.ext w1) (.lst (.inl upd_same) (ra.mono y.z))
    · cases e1⟩
def dispO (ms : AM) : EM := bnd ms fun ds s => if ds.length ≤ 1000000 then some (.ok (.o s.m.length) (s.m ++ [.lst ds])) else none
theorem so_lstO {t : TA} {ms : AM} (h : Sound K W (RepVs K) t ms) : Sound K W (RepV K) (tLst t) (dispO ms) := ⟨fun σ H s Z I r0 Q w rs e p => by
  refine h.bnd w rs e (p.x) fun ds vs M1 Z1 H1 I1 w1 rs1 x1 q1 e1 => ?_
  have e1 : (if ds.length ≤ 1000000 then some (Rs.ok (DV.o M1.length) (M1 ++ [.lst ds])) else none) = some r0 := e1
  split at e1
  · rename_i hl
    obtain rfl := Option.some.inj e1
    refine ⟨by rw [paired_len q1]; exact size_le hl, fun l hp => ?_⟩
    have y := ext_new (I := I1) (o := .lst vs) w1.sub hp
    refine (p.mono x1) _ Z1 _ (I1 ++ [l]) (w1.newO hp ⟨vs, upd_same, paired_imp (fun _ _ q => RepV.mono y q) q1⟩) y ⟨l, ?_, rfl⟩
    rw [← w1.len, List.getElem?_append_right (Nat.le_refl _), Nat.sub_self]
    rfl
  · cases e1⟩
theorem de_tup {t : TA} {ms : AM} {x1} (h : DA K X W es t ms) : DE K X W (.Tuple es x1 pos) (tTup t) (disp .tup ms) := ⟨h.k, pe_tup h.pa, so_tup h.so⟩
theorem de_lst {t : TA} {ms : AM} (h : DA K X W es t ms) : DE K X W (.List es pos) (tLst t) (disp .lst ms) := ⟨h.k, pe_lst h.pa, so_lst h.so⟩
theorem de_lstO {t : TA} {ms : AM} (h : DA K X W es t ms) : DE K X W (.List es pos) (tLst t) (dispO ms) := ⟨h.k, pe_lst h.pa, so_lstO h.so⟩
/-! ### an item -/
def ixD : D → Int → Option D
  | .lst xs, i => atI xs i
  | .tup xs, i => atI xs i
  | .ktup xs, i => atI xs i
  | .klst xs, i => atI xs i
  | .str z, i => if z.length ≤ 1000000 then (atI z.cps.toList i).map fun c => .str ⟨#[c]⟩ else none
  | _, _ => none
def ixO : Option O → Int → Option DV
  | some (.lst xs), i => atI xs i
  | _, _ => none
def ixM (M : List O) : DV → Int → Option DV
  | .p d, i => (ixD d i).map .p
  | .o n, i => ixO M[n]? i
def mIx (m n : EM) : EM := bnd m fun d => bnd n (pur fun i s => match i with
  | .int i => match ixM s.m d i with
    | some c => some (.ok c s.m)
    | none => none
  | _ => none)
theorem atI_get {α : Type} {xs : List α} {i : Int} {x : α} (h : atI xs i = some x) : ∃ j, ixN xs.length i = some j ∧ xs[j]? = some x := by
  unfold atI at h
  cases q : ixN xs.length i with
  | none => rw [q] at h; cases h
  | some j => rw [q] at h; exact ⟨j, rfl, h⟩
theorem atI_rep {Z : Hp} {xs : List V} {ds : List D} {i : Int} {d : D} (r : RepA K Z xs ds) (h : atI ds i = some d) : ∃ v, atI xs i = some v ∧ Rep K Z v d := by
  obtain ⟨j, h1, h2⟩ := atI_get h
  obtain ⟨v, h3, h4⟩ := r.get h2
  exact ⟨v, by unfold atI; rw [r.length, h1]; exact h3, h4⟩
theorem atI_repV {Z : Hp} {I : List Addr} {xs : List V} {ds : List DV} {i : Int} {d : DV} (r : RepVs K Z I xs ds) (h : atI ds i = some d) : ∃ v, atI xs i = some v ∧ RepV K Z I v d := by
  obtain ⟨j, h1, h2⟩ := atI_get h
  obtain ⟨v, h3, h4⟩ := paired_get r h2
  exact ⟨v, by unfold atI; rw [paired_len r, h1]; exact h3, h4⟩
theorem ix_ok {Z H : Hp} {I : List Addr} {M : List O} {x : V} {d c : DV} {i : Int} {Q : VK} (w : Wf K Z H I M) (h : RepV K Z I x d) (e : ixM M d i = some c) (q : ∀ v, RepV K Z I v c → Q v H) : rIx K x (.int i) H Q := by
  cases d with
  | o n =>
    obtain ⟨a, ha, rfl⟩ := h
    have e : ixO M[n]? i = some c := e
    cases z : M[n]? with
    | none => rw [z] at e; cases e
    | some o =>
      rw [z] at e
      cases o with
      | lst xs =>
        obtain ⟨_, ys, h1, h2⟩ := w.ob n a _ ha z (by intro z; cases z)
        obtain ⟨v, h3, h4⟩ := atI_repV h2 e
        exact .inl ⟨_, ys, i, v, rfl, rfl, SqL.of h1, h3, q v h4⟩
      | _ => cases e
  | p d =>
    have h : Rep K Z x d := h
    have e : (ixD d i).map .p = some c := e
    cases z : ixD d i with
    | none => rw [z] at e; cases e
    | some c' =>
    rw [z] at e; cases e
    cases h with
    | lst h1 h2 =>
      obtain ⟨v, h3, h4⟩ := atI_rep h2 (show atI _ i = some c' from z)
      exact .inl ⟨_, _, i, v, rfl, rfl, .inl (same_rd w.sub h1), h3, q v h4⟩
    | tup h1 h2 =>
      obtain ⟨v, h3, h4⟩ := atI_rep h2 (show atI _ i = some c' from z)
      exact .inr (.inl ⟨_, _, i, v, rfl, rfl, sqt w.sub h1, h3, q v h4⟩)
    | ktup h1 h2 =>
      obtain ⟨v, h3, h4⟩ := atI_rep h2 (show atI _ i = some c' from z)
      exact .inr (.inl ⟨_, _, i, v, rfl, rfl, same_t w.sub h1, h3, q v h4⟩)
    | klst h1 h2 =>
      obtain ⟨v, h3, h4⟩ := atI_rep h2 (show atI _ i = some c' from z)
      exact .inl ⟨_, _, i, v, rfl, rfl, same_l w.sub h1, h3, q v h4⟩
    | str y =>
      have z : (if y.length ≤ 1000000 then (atI y.cps.toList i).map fun c => D.str ⟨#[c]⟩ else none) = some c' := z
      split at z
      · rename_i hl
        cases z2 : atI y.cps.toList i with
        | none => rw [z2] at z; cases z
        | some k =>
          rw [z2] at z; cases z
          exact .inr (.inr ⟨y, i, k, rfl, rfl, size_le hl, z2, q _ (.str _)⟩)
      · cases z
    | _ => cases z
theorem so_ix {ta tb : TE} {m n : EM} (ha : Sound K W (RepV K) ta m) (hb : Sound K W (RepV K) tb n) : Sound K W (RepV K) (tOp (rIx K) ta tb) (mIx m n) := ⟨fun σ H s Z I r0 Q w rs e p => by
  refine ha.bnd w rs e (p.x) fun d v M1 Z1 H1 I1 w1 rs1 x1 q1 e1 => ?_
  have p1 := p.mono x1
  refine hb.bnd (s := ⟨s.l, M1⟩) w1 rs1 e1 (p1.x) fun d2 v2 M2 Z2 H2 I2 w2 rs2 x2 q2 e2 => ?_
  obtain ⟨d2, rfl, e2⟩ := pur_ok e2
  have p2 := p1.mono x2
  cases d2 with
  | int i =>
    have e2 : (match ixM M2 d i with | some c => some (Rs.ok c M2) | none => none) = some r0 := e2
    cases q2
    cases z : ixM M2 d i with
    | none => rw [z] at e2; cases e2
    | some c =>
      rw [z] at e2; cases e2
      exact ix_ok w2 (q1.mono x2) z fun v r => p2 v Z2 H2 I2 w2 Ext.refl r
  | _ => cases e2⟩
theorem de_ix {ta tb : TE} {m n : EM} (ha : DE K X W a ta m) (hb : DE K X W b tb n) (hs : PlainIx b := by exact fun _ _ => rfl) : DE K X W (.Subscript a b pos) (tOp (rIx K) ta tb) (mIx m n) := by
  refine ⟨ha.k, ?_, so_ix ha.so hb.so⟩
  have h := pe_ix (X := X) (pos := pos) ix_seq ha.pe hb.pe hs
  rw [ha.k] at h
  exact h
/-! ### built-in calls -/
structure CallD (K : PySem.W.Frag) (X : Cx) (f : Value) (r : List V → Hp → VK → Prop) (g : List O → List DV → Option D) : Prop where
  op : X.K = K → CallR X f r
  ok : ∀ (vs : List V) (ds : List DV) (c : D) (Z H : Hp) (I : List Addr) (M : List O) (Q : VK), Wf K Z H I M → RepVs K Z I vs ds → g M ds = some c → PostP K Z H c Q → r vs H Q
def mCB (g : List O → List DV → Option D) (ms : AM) : EM := bnd ms fun ds s => ret (g s.m ds) s
theorem so_cb {r : List V → Hp → VK → Prop} {g : List O → List DV → Option D} {t : TA} {ms : AM} (h : ∀ (vs : List V) (ds : List DV) (c : D) (Z H : Hp) (I : List Addr) (M : List O) (Q : VK), Wf K Z H I M → RepVs K Z I vs ds → g M ds = some c → PostP K Z H c Q → r vs H Q)
    (ha : Sound K W (RepVs K) t ms) : Sound K W (RepV K) (tCB r t) (mCB g ms) := ⟨fun σ H s Z I r0 Q w rs e p => by
  refine ha.bnd w rs e (p.x) fun ds vs M1 Z1 H1 I1 w1 rs1 x1 q1 e1 => ?_
  obtain ⟨c, q, rfl⟩ := ret_ok e1
  exact h vs ds c Z1 H1 I1 M1 Q w1 q1 q (PostP.of w1 (p.mono x1))⟩
theorem de_callB {id : String} {r : List V → Hp → VK → Prop} {g : List O → List DV → Option D} {t : TA} {ms : AM} {x : Str} {p : Pos} (h : CallD K X (.builtin id) r g) (hm : X.mg x = none) (ha : DA K X W (e :: es) t ms) (hv : bootBuiltins x = some (.builtin id) := by decide +kernel) (hg : Gl X x := by rfl) (hn : x ≠ "__name__" := by decide) (hdb : (x == ("__debug__" : Str)) = false := by decide)
    (he : starEach (e :: es) X.env = (false, eval e X.env) :: starEach es X.env := by rfl) (hpl : (backTo pos (starEach es X.env)).any (·.1) = false := by rfl) : DE K X W (.Call (.Name x p) (e :: es) [] pos) (tCB r t) (mCB g ms) :=
  ⟨ha.k, pe_callB (h.op ha.k) hg hm hv ha.pa hn hdb he hpl, so_cb h.ok ha.so⟩
theorem de_callTy {T : String} {r : List V → Hp → VK → Prop} {g : List O → List DV → Option D} {t : TA} {ms : AM} {x : Str} {p : Pos} (h : CallD K X (.type T) r g) (hm : X.mg x = none) (ha : DA K X W (e :: es) t ms) (hv : bootBuiltins x = some (.type T) := by decide +kernel) (hg : Gl X x := by rfl) (hn : x ≠ "__name__" := by decide) (hdb : (x == ("__debug__" : Str)) = false := by decide)
    (he : starEach (e :: es) X.env = (false, eval e X.env) :: starEach es X.env := by rfl) (hpl : (backTo pos (starEach es X.env)).any (·.1) = false := by rfl) : DE K X W (.Call (.Name x p) (e :: es) [] pos) (tCB r t) (mCB g ms) :=
  ⟨ha.k, pe_callTy (h.op ha.k) hg hm hv ha.pa hn hdb he hpl, so_cb h.ok ha.so⟩
def g1 (g : D → Option D) : List O → List DV → Option D
  | _, [.p d] => g d
  | _, _ => none
theorem g1_ok {r : List V → Hp → VK → Prop} {g : D → Option D} (h : ∀ (x : V) (d c : D) (Z H : Hp) (Q : VK), Same Z H → Rep K Z x d → g d = some c → PostP K Z H c Q → r [x] H Q) :
    ∀ (vs : List V) (ds : List DV) (c : D) (Z H : Hp) (I : List Addr) (M : List O) (Q : VK), Wf K Z H I M → RepVs K Z I vs ds → g1 g M ds = some c → PostP K Z H c Q → r vs H Q := by
  intro vs ds c Z H I M Q w rv hg p
  unfold g1 at hg
  split at hg
  · cases rv with
    | cons h1 h2 =>
      cases h2
      exact h _ _ c Z H Q w.sub h1 hg p
  · cases hg
def dAbs : D → Option D
  | .int i => some (.int (if i < 0 then -i else i))
  | _ => none
theorem cd_abs : CallD K X (.builtin "abs") (fun xs H Q => ∃ i, xs = [.int i] ∧ Q (.int (if i < 0 then -i else i)) H) (g1 dAbs) := ⟨fun _ => call_abs, g1_ok fun x d c Z H Q s hx hg p => by
  unfold dAbs at hg
  split at hg
  · cases hx; cases hg; exact ⟨_, rfl, p _ Z H (ExtP.refl s) (.int _)⟩
  · cases hg⟩
def dInt : D → Option D
  | .int i => some (.int i)
  | .bl b => some (.int (if b then 1 else 0))
  | _ => none
theorem cd_int : CallD K X (.type "int") (fun xs H Q => (∃ i, xs = [.int i] ∧ Q (.int i) H) ∨ ∃ k, xs = [.bl k] ∧ Q (.int (if k then 1 else 0)) H) (g1 dInt) := ⟨fun _ => call_int1, g1_ok fun x d c Z H Q s hx hg p => by
  unfold dInt at hg
  split at hg
  · cases hx; cases hg; exact .inl ⟨_, rfl, p _ Z H (ExtP.refl s) (.int _)⟩
  · cases hx; cases hg; exact .inr ⟨_, rfl, p _ Z H (ExtP.refl s) (.int _)⟩
  · cases hg⟩
def lenD : D → Option Nat
  | .lst xs => some xs.length
  | .tup xs => some xs.length
  | .ktup xs => some xs.length
  | .klst xs => some xs.length
  | .str y => if y.length ≤ 1000000 then some y.length else none
  | _ => none
def lenO : Option O → Option Nat
  | some (.lst xs) => some xs.length
  | _ => none
def lenM (M : List O) : DV → Option Nat
  | .p d => lenD d
  | .o n => lenO M[n]?
def dLen : List O → List DV → Option D
  | M, [d] => Option.map (fun (n : Nat) => D.int (n : Int)) (lenM M d)
  | _, _ => none
theorem cd_len : CallD K X (.builtin "len") (fun xs H Q => ∃ x n, xs = [x] ∧ LenV K x H n ∧ Q (.int n) H) dLen := ⟨fun k => by rw [← k]; exact call_len, fun vs ds c Z H I M Q w rv hg p => by
  unfold dLen at hg
  split at hg
  · rename_i d
    cases rv with
    | cons h1 h2 =>
    cases h2
    cases z : lenM M d with
    | none => rw [z] at hg; cases hg
    | some n =>
      rw [z] at hg; cases hg
      refine ⟨_, n, rfl, ?_, p _ Z H (ExtP.refl w.sub) (.int _)⟩
      cases d with
      | o j =>
        obtain ⟨a, ha, rfl⟩ := h1
        have z : lenO M[j]? = some n := z
        cases y : M[j]? with
        | none => rw [y] at z; cases z
        | some o =>
          rw [y] at z
          cases o with
          | lst xs =>
            obtain ⟨_, ys, g1, g2⟩ := w.ob j a _ ha y (by intro z; cases z)
            cases z
            exact .inl ⟨ys, SqL.of g1, (paired_len g2).symm⟩
          | _ => cases z
      | p d =>
        have h1 : Rep K Z _ d := h1
        have z : lenD d = some n := z
        cases h1 with
        | lst g1 g2 => cases z; exact .inl ⟨_, .inl (same_rd w.sub g1), g2.length.symm⟩
        | tup g1 g2 => cases z; exact .inr ⟨_, sqt w.sub g1, g2.length.symm⟩
        | ktup g1 g2 => cases z; exact .inr ⟨_, same_t w.sub g1, g2.length.symm⟩
        | klst g1 g2 => cases z; exact .inl ⟨_, same_l w.sub g1, g2.length.symm⟩
        | str y =>
          have z : (if y.length ≤ 1000000 then some y.length else none) = some n := z
          split at z
          · rename_i hl
            cases z
            exact ⟨size_le hl, rfl⟩
          · cases z
        | _ => cases z
  · cases hg⟩
end
end DL
namespace DL
open PySem L2
/-! ### defs: by data alone (A), with objects of one's own (B) -/
inductive RD where
  | ok (d : D) | ex (c : Addr) (fs : List (Str × D))
abbrev MA := List D → Option RD
def spA (K : PySem.W.Frag) (n : Nat) (f : MA) : Sp := fun vs H Q E => vs.length = n ∧ ∃ Z ds r, Same Z H ∧ RepA K Z vs ds ∧ f ds = some r ∧ (match r with
  | .ok d => PostP K Z H d Q
  | .ex c fs => ∀ d Z' H', ExtP Z H Z' H' → ExcAt K Z' H' d fs → (∀ a, d = some a → H a = none) → E (.ref c) d H')
def spB (K : PySem.W.Frag) (n : Nat) (f : List DV → List O → Option (Rs DV)) : Sp := fun vs H Q E => vs.length = n ∧ ∃ Z I M ds r, Wf K Z H I M ∧ RepVs K Z I vs ds ∧ f ds M = some r ∧ (match r with
  | .ok dv M' => ∀ v Z' H' I', Wf K Z' H' I' M' → Ext Z H I Z' H' I' → RepV K Z' I' v dv → Q v H'
  | .ex c fs M' => ∀ d Z' H' I', Wf K Z' H' I' M' → Ext Z H I Z' H' I' → ExcAt K Z' H' d fs → (∀ a, d = some a → H a = none ∧ a ∉ I') → E (.ref c) d H')
theorem spA_len {K : PySem.W.Frag} {n : Nat} {f : MA} : ∀ vs H Q E, spA K n f vs H Q E → vs.length = n := fun _ _ _ _ h => h.1
theorem spB_len {K : PySem.W.Frag} {n : Nat} {f : List DV → List O → Option (Rs DV)} : ∀ vs H Q E, spB K n f vs H Q E → vs.length = n := fun _ _ _ _ h => h.1
section
variable {K : PySem.W.Frag} {X : Cx} {W : WX} {e a b c : Expr} {es : List Expr} {pos : Pos}
/-! ### calls of defs -/
def mCallA (n : Nat) (f : MA) (ms : AM) : EM := bnd ms fun ds s => if ds.length = n then match allP ds with
  | some xs => match f xs with
    | some (.ok d) => some (.ok (.p d) s.m)
    | some (.ex c fs) => some (.ex c fs s.m)
    | none => none
  | none => none else none
def mCallB (n : Nat) (f : List DV → List O → Option (Rs DV)) (ms : AM) : EM := bnd ms fun ds s => if ds.length = n then f ds s.m else none
theorem so_callA {n : Nat} {f : MA} {t : TA} {ms : AM} (ha : Sound K W (RepVs K) t ms) : Sound K W (RepV K) (tCallS (spA K n f) (fun σ => WE W σ) t) (mCallA n f ms) := ⟨fun σ H s Z I r0 Q w rs e p => by
  refine ha.bnd w rs e (p.x) fun ds vs M1 Z1 H1 I1 w1 rs1 x1 q1 e1 => ?_
  have p1 := p.mono x1
  have e1 : (if ds.length = n then match allP ds with
    | some xs => match f xs with
      | some (.ok d) => some (Rs.ok (DV.p d) M1)
      | some (.ex c fs) => some (Rs.ex c fs M1)
      | none => none
    | none => none else none) = some r0 := e1
  split at e1
  · rename_i hl
    cases z : allP ds with
    | none => rw [z] at e1; cases e1
    | some xs =>
      rw [z] at e1
      have e1 : (match f xs with
        | some (.ok d) => some (Rs.ok (DV.p d) M1)
        | some (.ex c fs) => some (Rs.ex c fs M1)
        | none => none) = some r0 := e1
      have ra := allP_rep q1 z
      cases y : f xs with
      | none => rw [y] at e1; cases e1
      | some r =>
        rw [y] at e1
        refine ⟨by rw [paired_len q1]; exact hl, Z1, xs, r, w1.sub, ra, y, ?_⟩
        cases r with
        | ok d => cases e1; exact PostP.of w1 p1
        | ex c fs =>
          cases e1
          intro d Z2 H2 x2 ea na
          exact p1 d Z2 H2 I1 (w1.extP x2) (x2.ext w1) ea fun b q => ⟨na b q, fun m => w1.tr b m (na b q)⟩
  · cases e1⟩
theorem so_callB {n : Nat} {f : List DV → List O → Option (Rs DV)} {t : TA} {ms : AM} (ha : Sound K W (RepVs K) t ms) : Sound K W (RepV K) (tCallS (spB K n f) (fun σ => WE W σ) t) (mCallB n f ms) := ⟨fun σ H s Z I r0 Q w rs e p => by
  refine ha.bnd w rs e (p.x) fun ds vs M1 Z1 H1 I1 w1 rs1 x1 q1 e1 => ?_
  have p1 := p.mono x1
  have e1 : (if ds.length = n then f ds M1 else none) = some r0 := e1
  split at e1
  · rename_i hl
    refine ⟨by rw [paired_len q1]; exact hl, Z1, I1, M1, ds, r0, w1, q1, e1, ?_⟩
    cases r0 with
    | ok d M' => exact p1
    | ex c fs M' => exact p1
  · cases e1⟩
theorem de_callA {n k : Nat} {f : MA} {fa : Addr} {fd : FuncData} {ps : List Str} {t : TA} {ms : AM} {x : Str} {p : Pos} (F : FnOk X.prog X.w K X.mg X.base (L2.CX X.prog X.w) k fa fd ps (spA K n f)) (hr : Room k X.A) (tk : Takes X W) (hm : X.mg x = some (.ref fa)) (hk : PySem.W.keepIn K (.ref fa) = true) (hb : Binds K fd ps [])
    (ha : DA K X W (e :: es) t ms) (hg : Gl X x := by rfl) (hdb : (x == ("__debug__" : Str)) = false := by decide) (he : starEach (e :: es) X.env = (false, eval e X.env) :: starEach es X.env := by rfl) (hpl : (backTo pos (starEach es X.env)).any (·.1) = false := by rfl) :
    DE K X W (.Call (.Name x p) (e :: es) [] pos) (tCallS (spA K n f) (fun σ => WE W σ) t) (mCallA n f ms) := by
  have k := ha.k
  subst k
  exact ⟨rfl, pe_callS F hr hg hm hk hb (fun σ => passAt tk σ) ha.pa hdb he hpl, so_callA ha.so⟩
theorem de_callB' {n k : Nat} {f : List DV → List O → Option (Rs DV)} {fa : Addr} {fd : FuncData} {ps : List Str} {t : TA} {ms : AM} {x : Str} {p : Pos} (F : FnOk X.prog X.w K X.mg X.base (L2.CX X.prog X.w) k fa fd ps (spB K n f)) (hr : Room k X.A) (tk : Takes X W) (hm : X.mg x = some (.ref fa)) (hk : PySem.W.keepIn K (.ref fa) = true) (hb : Binds K fd ps [])
    (ha : DA K X W (e :: es) t ms) (hg : Gl X x := by rfl) (hdb : (x == ("__debug__" : Str)) = false := by decide) (he : starEach (e :: es) X.env = (false, eval e X.env) :: starEach es X.env := by rfl) (hpl : (backTo pos (starEach es X.env)).any (·.1) = false := by rfl) :
    DE K X W (.Call (.Name x p) (e :: es) [] pos) (tCallS (spB K n f) (fun σ => WE W σ) t) (mCallB n f ms) := by
  have k := ha.k
  subst k
  exact ⟨rfl, pe_callS F hr hg hm hk hb (fun σ => passAt tk σ) ha.pa hdb he hpl, so_callB ha.so⟩
/-! ### one's own list, given up -/
def mFrz (m : EM) : EM := bnd m fun d s => match d with
  | .p d => some (.ok (.p d) s.m)
  | .o n => match s.m[n]? with
    | some (.lst ds) => match allP ds with
      | some xs => some (.ok (.p (.lst xs)) (s.m.set n .gone))
      | none => none
    | _ => none
theorem so_frz {t : TE} {m : EM} (h : Sound K W (RepV K) t m) : Sound K W (RepV K) t (mFrz m) := ⟨fun σ H s Z I r0 Q w rs e p => by
  unfold mFrz bnd at e
  cases z : m s with
  | none => rw [z] at e; cases e
  | some r =>
    rw [z] at e
    refine h.ok σ H s Z I r Q w rs z ?_
    cases r with
    | ex c fs M => cases e; exact p
    | ok d M =>
      cases d with
      | p d => cases e; exact p
      | o n =>
        have e : (match M[n]? with
          | some (.lst ds) => match allP ds with
            | some xs => some (Rs.ok (DV.p (D.lst xs)) (M.set n .gone))
            | none => none
          | _ => none) = some r0 := e
        intro v Z' H' I' w' x' q'
        obtain ⟨a, ha, rfl⟩ := q'
        cases y : M[n]? with
        | none => rw [y] at e; cases e
        | some o =>
          rw [y] at e
          cases o with
          | lst ds =>
            have e : (match allP ds with
              | some xs => some (Rs.ok (DV.p (D.lst xs)) (M.set n .gone))
              | none => none) = some r0 := e
            cases u : allP ds with
            | none => rw [u] at e; cases e
            | some xs =>
              rw [u] at e; cases e
              obtain ⟨hz, ys, h1, h2⟩ := w'.ob n a _ ha y (by intro z; cases z)
              have x2 := ext_frz w' ha hz h1
              exact p _ _ _ I' (w'.frz ha y (by intro z; cases z) h1) (x'.trans x2) (.lst (.inl upd_same) ((allP_rep h2 u).mono x2.z))
          | _ => cases e⟩
theorem de_frz {t : TE} {m : EM} (h : DE K X W e t m) : DE K X W e t (mFrz m) := ⟨h.k, h.pe, so_frz h.so⟩
/-! ### statements -/
def liftS {α : Type} (m : Mi α) (k : α → SM) : SM := fun s => match m s with
  | some (.ok v M) => k v ⟨s.l, M⟩
  | some (.ex c f M) => some (.ex c f, ⟨s.l, M⟩)
  | none => none
theorem PostS.mono {Z H Z1 H1 : Hp} {I I1 : List Addr} {D : Ends} (x : Ext Z H I Z1 H1 I1) : ∀ {r : Fl × S}, PostS K W Z H I D r → PostS K W Z1 H1 I1 D r
  | (.nx, _), p => fun σ' Z' H' I' w r x' => p σ' Z' H' I' w r (x.trans x')
  | (.rt _, _), p => fun v Z' H' I' w x' r => p v Z' H' I' w (x.trans x') r
  | (.bk, _), p => fun σ' Z' H' I' w r x' => p σ' Z' H' I' w r (x.trans x')
  | (.ct, _), p => fun σ' Z' H' I' w r x' => p σ' Z' H' I' w r (x.trans x')
  | (.ex _ _, _), p => fun σ' d Z' H' I' w r x' ea na => p σ' d Z' H' I' w r (x.trans x') ea fun b q => ⟨by
      cases z : H b with
      | none => rfl
      | some o => exact absurd (na b q).1 (x.tr b (by rw [z]; simp)), (na b q).2⟩
theorem Sound.lift {α β : Type} {R : Hp → List Addr → β → α → Prop} {t : St → Hp → (β → Hp → Prop) → Prop} {m : Mi α} (h : Sound K W R t m) {σ : St} {H Z : Hp} {I : List Addr} {s : S} {k : α → SM} {r : Fl × S} {D : Ends} {Q : β → Hp → Prop}
    (w : Wf K Z H I s.m) (rs : RepS K Z I σ s.l) (e : liftS m k s = some r) (p : PostS K W Z H I D r)
    (hk : ∀ a b M' Z' H' I', Wf K Z' H' I' M' → RepS K Z' I' σ s.l → Ext Z H I Z' H' I' → R Z' I' b a → k a ⟨s.l, M'⟩ = some r → PostS K W Z' H' I' D r → Q b H') : t σ H Q := by
  unfold liftS at e
  cases q : m s with
  | none => rw [q] at e; cases e
  | some r0 =>
    rw [q] at e
    cases r0 with
    | ok v M => exact h.ok σ H s Z I _ Q w rs q fun b Z' H' I' w' x' r' => hk v b M Z' H' I' w' (rs.mono x') x' r' e (p.mono x')
    | ex c f M =>
      obtain rfl := Option.some.inj e
      exact h.ok σ H s Z I _ Q w rs q fun d Z' H' I' w' x' ea na => p σ d Z' H' I' w' (rs.mono x') x' ea na
def sNil : SM := fun s => some (.nx, s)
def sSeq (a b : SM) : SM := fun s => match a s with
  | some (.nx, s1) => b s1
  | r => r
theorem so_nil : SoundS K W tNext sNil := ⟨fun σ H s Z I r D w rs e p => by
  cases e; exact p σ Z H I w rs Ext.refl⟩
theorem so_seq {t u : TS} {m n : SM} (ha : SoundS K W t m) (hb : SoundS K W u n) : SoundS K W (tSeq t u) (sSeq m n) := ⟨fun σ H s Z I r D w rs e p => by
  unfold sSeq at e
  show t { D with nx := u D } σ H
  cases q : m s with
  | none => rw [q] at e; cases e
  | some r1 =>
    rw [q] at e
    obtain ⟨f, s1⟩ := r1
    cases f with
    | nx => exact ha.ok σ H s Z I _ _ w rs q fun σ' Z' H' I' w' rs' x' => hb.ok σ' H' s1 Z' I' r D w' rs' e (p.mono x')
    | rt v => cases e; exact ha.ok σ H s Z I _ _ w rs q p
    | bk => cases e; exact ha.ok σ H s Z I _ _ w rs q p
    | ct => cases e; exact ha.ok σ H s Z I _ _ w rs q p
    | ex c fs => cases e; exact ha.ok σ H s Z I _ _ w rs q p⟩
theorem dss_nil (k : X.K = K := by rfl) : DSs K X W [] tNext sNil := ⟨k, pss_nil, so_nil⟩
theorem dss_cons {st : Stmt} {rest : List Stmt} {t u : TS} {m n : SM} (ha : DS K X W st t m) (hb : DSs K X W rest u n) : DSs K X W (st :: rest) (tSeq t u) (sSeq m n) := ⟨ha.k, pss_cons ha.ps hb.ps, so_seq ha.so hb.so⟩
theorem dss_one {st : Stmt} {t : TS} {m : SM} (ha : DS K X W st t m) : DSs K X W [st] t m := ⟨ha.k, pss_one ha.ps, ha.so⟩
def sExpr (m : EM) : SM := liftS m fun _ s => some (.nx, s)
theorem ds_expr {te : TE} {m : EM} (h : DE K X W e te m) (hs : swapsWith e none pos.line X.env = pure false := by rfl) : DS K X W (.Expr e pos) (tDrop te) (sExpr m) := ⟨h.k, ps_expr h.pe hs, ⟨fun σ H s Z I r D w rs e p => by
  refine h.so.lift w rs e p fun d v M1 Z1 H1 I1 w1 rs1 x1 q1 e1 p1 => ?_
  cases e1; exact p1 σ Z1 H1 I1 w1 rs1 Ext.refl⟩⟩
def sRet (m : EM) : SM := liftS m fun d s => some (.rt d, s)
theorem ds_ret {te : TE} {m : EM} (h : DE K X W e te m) : DS K X W (.Return (some e) pos) (tRet te) (sRet m) := ⟨h.k, ps_ret h.pe, ⟨fun σ H s Z I r D w rs e p => by
  refine h.so.lift w rs e p fun d v M1 Z1 H1 I1 w1 rs1 x1 q1 e1 p1 => ?_
  cases e1; exact p1 v Z1 H1 I1 w1 Ext.refl q1⟩⟩
def ifS (n k : SM) : DV → SM
  | .p (.bl true), s => n s
  | .p (.bl false), s => k s
  | _, _ => none
def sIf (c : EM) (m n : SM) : SM := liftS c (ifS m n)
theorem ds_if {x y : List Stmt} {tc : TT} {t u : TS} {k : EM} {m n : SM} (hc : DT K X W c tc k) (ha : DSs K X W x t m) (hb : DSs K X W y u n) : DS K X W (.If c x y pos) (tIfS tc t u) (sIf k m n) := ⟨hc.k, ps_if hc.pt ha.ps hb.ps, ⟨fun σ H s Z I r D w rs e p => by
  refine hc.so.lift w rs e p fun d v M1 Z1 H1 I1 w1 rs1 x1 q1 e1 p1 => ?_
  cases (show d = .p (.bl v) from q1)
  cases v with
  | true => exact ha.so.ok σ H1 ⟨s.l, M1⟩ Z1 I1 r D w1 rs1 e1 p1
  | false => exact hb.so.ok σ H1 ⟨s.l, M1⟩ Z1 I1 r D w1 rs1 e1 p1⟩⟩
/-! ### targets -/
theorem wipe_set {σ : St} {i : Nat} {x : Option V} : ∀ {vs : List Nat}, i ∈ vs → wipe (σ.set i x) vs = wipe σ vs
  | v :: vs, h => by
    show (wipe (σ.set i x) vs).set v none = (wipe σ vs).set v none
    by_cases q : i ∈ vs
    · rw [wipe_set q]
    · have e : v = i := by
        rcases List.mem_cons.mp h with k | k
        · exact k.symm
        · exact absurd k q
      subst e
      have c : ∀ ws : List Nat, v ∉ ws → wipe (σ.set v x) ws = (wipe σ ws).set v x := by
        intro ws
        induction ws with
        | nil => intro _; rfl
        | cons w ws ih =>
          intro hw
          rw [List.mem_cons, not_or] at hw
          show (wipe (σ.set v x) ws).set w none = ((wipe σ ws).set w none).set v x
          rw [ih hw.2, List.set_comm _ _ hw.1]
      rw [c vs q, List.set_set]
abbrev GM := DV → S → Option S
structure DG (K : PySem.W.Frag) (X : Cx) (tg : Expr) (g : TG) (m : GM) (ix : List Nat) : Prop where
  k : X.K = K
  pg : PG X tg g
  ok : ∀ (v : V) (dv : DV) (σ : St) (H : Hp) (s s' : S) (Z : Hp) (I : List Addr) (Q : St → Hp → Prop), Wf K Z H I s.m → RepS K Z I σ s.l → RepV K Z I v dv → m dv s = some s' →
    (∀ σ' Z' H' I', Wf K Z' H' I' s'.m → RepS K Z' I' σ' s'.l → Ext Z H I Z' H' I' → (∀ vs, (∀ i ∈ ix, i ∈ vs) → wipe σ' vs = wipe σ vs) → Q σ' H') → g v σ H Q
def gN (i : Nat) : GM := fun d s => some ⟨s.l.set i (some d), s.m⟩
theorem dg_name {i : Nat} {x : Str} (hN : X.N.Nodup) (k : X.K = K := by rfl) (hi : X.N[i]? = some x := by rfl) (hx : Loc X.env.scope x := by first | exact Or.inl rfl | exact Or.inr rfl) (hf : X.fn x = true ∨ X.env.scope.names.lookup x = some .local := by first | exact .inl rfl | exact .inr rfl) : DG K X (.Name x pos) (gName i) (gN i) [i] :=
  ⟨k, pg_name hN hi hx hf, fun v dv σ H s s' Z I Q w rs rv e q => by
    cases e; exact q _ Z H I w (rs.set rv i) Ext.refl fun vs hv => wipe_set (hv i (by simp))⟩
structure DGs (K : PySem.W.Frag) (X : Cx) (tg : List Expr) (g : TGs) (m : List DV → S → Option S) (ix : List Nat) : Prop where
  k : X.K = K
  pg : PGs X tg g
  ok : ∀ (v : List V) (dv : List DV) (σ : St) (H : Hp) (s s' : S) (Z : Hp) (I : List Addr) (Q : St → Hp → Prop), Wf K Z H I s.m → RepS K Z I σ s.l → RepVs K Z I v dv → m dv s = some s' →
    (∀ σ' Z' H' I', Wf K Z' H' I' s'.m → RepS K Z' I' σ' s'.l → Ext Z H I Z' H' I' → (∀ vs, (∀ i ∈ ix, i ∈ vs) → wipe σ' vs = wipe σ vs) → Q σ' H') → g v σ H Q
def gsNil : List DV → S → Option S
  | [], s => some s
  | _, _ => none
def gsCons (m : GM) (n : List DV → S → Option S) : List DV → S → Option S
  | d :: r, s => match m d s with
    | some s1 => n r s1
    | none => none
  | [], _ => none
theorem dgs_nil (k : X.K = K := by rfl) : DGs K X [] gNil gsNil [] := ⟨k, pgs_nil, fun v dv σ H s s' Z I Q w rs rv e q => by
  cases rv with
  | nil => cases e; exact ⟨rfl, q σ Z H I w rs Ext.refl fun _ _ => rfl⟩
  | cons _ _ => cases e⟩
theorem dgs_cons {tg : Expr} {tgs : List Expr} {t : TG} {u : TGs} {m : GM} {n : List DV → S → Option S} {i1 i2 : List Nat} (h1 : DG K X tg t m i1) (h2 : DGs K X tgs u n i2)
    (hs : (assignEach (tg :: tgs) X.env).map (·.2) = assign tg X.env :: (assignEach tgs X.env).map (·.2) := by rfl) : DGs K X (tg :: tgs) (gCons t u) (gsCons m n) (i1 ++ i2) := ⟨h1.k, pgs_cons h1.pg h2.pg hs, fun v dv σ H s s' Z I Q w rs rv e q => by
  cases rv with
  | nil => cases e
  | @cons _ d _ _ r1 r2 =>
    have e : (match m d s with | some s1 => n _ s1 | none => none) = some s' := e
    refine ⟨_, _, rfl, ?_⟩
    cases z : m d s with
    | none => rw [z] at e; cases e
    | some s1 =>
      rw [z] at e
      refine h1.ok _ d σ H s s1 Z I _ w rs r1 z fun σ' Z' H' I' w' rs' x' k' => ?_
      exact h2.ok _ _ σ' H' s1 s' Z' I' Q w' rs' (paired_imp (fun _ _ q => RepV.mono x' q) r2) e fun σ2 Z2 H2 I2 w2 rs2 x2 k2 => q σ2 Z2 H2 I2 w2 rs2 (x'.trans x2) fun vs hv =>
        (k2 vs fun i hi => hv i (List.mem_append_right _ hi)).trans (k' vs fun i hi => hv i (List.mem_append_left _ hi))⟩
def gT (n : Nat) (m : List DV → S → Option S) : GM := fun d s => match d with
  | .p (.tup xs) => if xs.length = n then m (xs.map .p) s else none
  | .p (.ktup xs) => if xs.length = n then m (xs.map .p) s else none
  | _ => none
theorem dg_tup {tgs : List Expr} {k : Nat} {t : TGs} {m : List DV → S → Option S} {n : Nat} {ix : List Nat} (hc : X.calm = true) (h : DGs K X tgs t m ix) (hn : (assignEach tgs X.env).length = n := by rfl) (hst : (assignEach tgs X.env).findIdx? (·.1) = none := by rfl) :
    DG K X (.Tuple tgs k pos) (gTup K n t) (gT n m) ix := by
  have kk := h.k
  subst kk
  refine ⟨rfl, pg_tup hc h.pg hn hst, fun v dv σ H s s' Z I Q w rs rv e q => ?_⟩
  cases dv with
  | o j => cases e
  | p d =>
    have rv : Rep X.K Z v d := rv
    cases rv with
    | tup h1 h2 =>
      rename_i a xs ds
      have e : (if ds.length = n then m (ds.map .p) s else none) = some s' := e
      split at e
      · rename_i hl
        exact ⟨a, xs, rfl, sqt w.sub h1, by rw [h2.length]; exact hl, h.ok _ _ σ H s s' Z I Q w rs (allP_map h2) e q⟩
      · cases e
    | ktup h1 h2 =>
      rename_i a xs ds
      have e : (if ds.length = n then m (ds.map .p) s else none) = some s' := e
      split at e
      · rename_i hl
        exact ⟨a, xs, rfl, same_t w.sub h1, by rw [h2.length]; exact hl, h.ok _ _ σ H s s' Z I Q w rs (allP_map h2) e q⟩
      · cases e
    | _ => cases e
def sAsg (m : EM) (g : GM) : SM := liftS m fun d s => match g d s with
  | some s1 => some (.nx, s1)
  | none => none
theorem ds_asg {tg : Expr} {te : TE} {g : TG} {m : EM} {gm : GM} {ix : List Nat} (he : DE K X W e te m) (hg : DG K X tg g gm ix) (hs : swapsWithSole [tg] e pos.line X.env = pure false := by rfl) (hw : swappedStores [tg] e X.env = pure none := by rfl)
    (h1 : (assignEach [tg] X.env).map (·.2) = [assign tg X.env] := by rfl) : DS K X W (.Assign [tg] e pos) (tAsg te g) (sAsg m gm) := ⟨he.k, ps_asg he.pe hg.pg hs hw h1, ⟨fun σ H s Z I r D w rs e p => by
  refine he.so.lift w rs e p fun d v M1 Z1 H1 I1 w1 rs1 x1 q1 e1 p1 => ?_
  have e1 : (match gm d ⟨s.l, M1⟩ with | some s1 => some (Fl.nx, s1) | none => none) = some r := e1
  cases z : gm d ⟨s.l, M1⟩ with
  | none => rw [z] at e1; cases e1
  | some s1 =>
    rw [z] at e1; cases e1
    exact hg.ok v d σ H1 ⟨s.l, M1⟩ s1 Z1 I1 _ w1 rs1 q1 z fun σ' Z' H' I' w' rs' x' _ => p1 σ' Z' H' I' w' rs' x'⟩⟩
theorem ds_set {i : Nat} {x : Str} {te : TE} {m : EM} {px : Pos} (hN : X.N.Nodup) (he : DE K X W e te m) (hi : X.N[i]? = some x := by rfl) (hx : Loc X.env.scope x := by first | exact Or.inl rfl | exact Or.inr rfl) (hf : X.fn x = true ∨ X.env.scope.names.lookup x = some .local := by first | exact .inl rfl | exact .inr rfl)
    (hs : swapsWithSole [.Name x px] e pos.line X.env = pure false := by rfl) (hw : swappedStores [.Name x px] e X.env = pure none := by rfl) (h1 : (assignEach [.Name x px] X.env).map (·.2) = [assign (.Name x px) X.env] := by rfl) : DS K X W (.Assign [.Name x px] e pos) (tAsg te (gName i)) (sAsg m (gN i)) :=
  ds_asg he (dg_name hN he.k hi hx hf) hs hw h1
/-- a, b = x, y -/
def sPar (i j : Nat) (ms : AM) : SM := liftS ms fun ds s => match ds with
  | [d, f] => some (.nx, ⟨(s.l.set i (some d)).set j (some f), s.m⟩)
  | _ => none
theorem ds_par {i j : Nat} {x y : Str} {ta : TA} {ms : AM} {px py pt : Pos} {kt k2} {pt2 : Pos} (hc : X.calm = true) (hN : X.N.Nodup) (ha : DA K X W [a, b] ta ms) (hi : X.N[i]? = some x := by rfl) (hj : X.N[j]? = some y := by rfl) (hij : i ≠ j := by decide)
    (hx : X.env.scope.names.lookup x = some .local := by rfl) (hy : X.env.scope.names.lookup y = some .local := by rfl)
    (hw : swappedStores [.Tuple [.Name x px, .Name y py] kt pt] (.Tuple [a, b] k2 pt2) X.env = pure (some [x, y]) := by rfl) (hs : swapsWithSole [.Tuple [.Name x px, .Name y py] kt pt] (.Tuple [a, b] k2 pt2) pos.line X.env = pure false := by rfl) :
    DS K X W (.Assign [.Tuple [.Name x px, .Name y py] kt pt] (.Tuple [a, b] k2 pt2) pos) (tPar i j ta) (sPar i j ms) := ⟨ha.k, ps_par hc hN hi hj hij hx hy ha.pa hw hs, ⟨fun σ H s Z I r D w rs e p => by
  refine ha.so.lift w rs e p fun ds vs M1 Z1 H1 I1 w1 rs1 x1 q1 e1 p1 => ?_
  cases q1 with
  | nil => cases e1
  | cons r1 q1 =>
  cases q1 with
  | nil => cases e1
  | cons r2 q1 =>
  cases q1 with
  | nil =>
    cases e1
    exact ⟨_, _, rfl, p1 _ Z1 H1 I1 w1 ((rs1.set r1 i).set r2 j) Ext.refl⟩
  | cons _ _ => cases e1⟩⟩
end
end DL
namespace DL
open PySem L2
section
variable {K : PySem.W.Frag} {X : Cx} {W : WX} {e a b c tg iter : Expr} {es : List Expr} {pos : Pos}
/-! ### what is walked -/
def ItOk (K : PySem.W.Frag) (Z0 : Hp) (I0 : List Addr) (J : It) (items : List DV) : Prop :=
  ∀ Z H I, Same Z0 Z → (∃ t, I = I0 ++ t) → Same Z H → ∀ i : Nat, (∀ d, items[i]? = some d → J.go i H ∧ ∀ x H', J.yld i H x H' → ∃ Z', ExtP Z H Z' H' ∧ RepV K Z' I x d) ∧ (items.length ≤ i → J.stop i H)
abbrev IM := Mi (List DV)
structure DI (K : PySem.W.Frag) (X : Cx) (W : WX) (tg iter : Expr) (wi : TI) (m : IM) : Prop where
  k : X.K = K
  pi : PI X tg iter wi
  so : Sound K W (ItOk K) wi m
def mItD (g : D → Option (List DV)) (m : EM) : IM := bnd m (pur fun d s => match g d with
  | some ds => some (.ok ds s.m)
  | none => none)
theorem so_itD {g : D → Option (List DV)} {te : TE} {m : EM} {r : V → Hp → (It → Hp → Prop) → Prop} (h : Sound K W (RepV K) te m) (hr : ∀ v d ds Z H I (R : It → Hp → Prop), Same Z H → Rep K Z v d → g d = some ds → (∀ J, ItOk K Z I J ds → R J H) → r v H R) :
    Sound K W (ItOk K) (fun σ H R => te σ H fun x H1 => r x H1 R) (mItD g m) := ⟨fun σ H s Z I r0 Q w rs e p => by
  refine h.bnd w rs e (p.x) fun d v M1 Z1 H1 I1 w1 rs1 x1 q1 e1 => ?_
  obtain ⟨d, rfl, e1⟩ := pur_ok e1
  have e1 : (match g d with | some ds => some (Rs.ok ds M1) | none => none) = some r0 := e1
  cases z : g d with
  | none => rw [z] at e1; cases e1
  | some ds =>
    rw [z] at e1; cases e1
    exact hr v d ds Z1 H1 I1 Q w1.sub q1 z fun J hJ => p J Z1 H1 I1 w1 x1 hJ⟩
def itL : D → Option (List DV)
  | .lst xs => some (xs.map .p)
  | .klst xs => some (xs.map .p)
  | .scr xs => some (xs.map .p)
  | _ => none
def itT : D → Option (List DV)
  | .tup xs => some (xs.map .p)
  | .ktup xs => some (xs.map .p)
  | _ => none
theorem getP {α : Type} {xs : List D} {i : Nat} {d : DV} (h : (xs.map DV.p)[i]? = some d) : ∃ y, xs[i]? = some y ∧ d = .p y := by
  rw [List.getElem?_map] at h
  cases q : xs[i]? with
  | none => rw [q] at h; cases h
  | some y => rw [q] at h; cases h; exact ⟨y, rfl, rfl⟩
theorem di_list {te : TE} {m : EM} (h : DE K X W iter te m) : DI K X W tg iter (iList K te) (mItD itL m) := by
  refine ⟨h.k, ?_, ?_⟩
  · rw [← h.k]; exact pi_list h.pe
  · refine so_itD (r := fun x H1 R => ∃ a, x = .ref a ∧ (∃ xs, SqL K H1 a xs) ∧ R (Itl K a) H1) h.so fun v d ds Z H I R s hd hg q => ?_
    cases hd with
    | lst h1 h2 =>
      rename_i a vs xs
      cases hg
      refine ⟨a, rfl, ⟨vs, .inl (same_rd s h1)⟩, q _ fun Z' H' I' z _ s' i => ⟨fun d hd => ?_, fun hl => ⟨vs, .inl (same_rd s' (same_rd z h1)), by rw [h2.length]; simpa using hl⟩⟩⟩
      obtain ⟨y, hy, rfl⟩ := getP (α := Unit) hd
      obtain ⟨v, hv, rv⟩ := h2.get hy
      refine ⟨⟨vs, v, .inl (same_rd s' (same_rd z h1)), hv⟩, fun x H2 hx => ?_⟩
      obtain ⟨rfl, hx⟩ := hx
      have := hx vs (.inl (same_rd s' (same_rd z h1)))
      rw [hv] at this
      cases this
      exact ⟨Z', ExtP.refl s', rv.mono z⟩
    | klst h1 h2 =>
      rename_i a vs xs
      cases hg
      refine ⟨a, rfl, ⟨vs, same_l s h1⟩, q _ fun Z' H' I' z _ s' i => ⟨fun d hd => ?_, fun hl => ⟨vs, same_l s' (same_l z h1), by rw [h2.length]; simpa using hl⟩⟩⟩
      obtain ⟨y, hy, rfl⟩ := getP (α := Unit) hd
      obtain ⟨v, hv, rv⟩ := h2.get hy
      refine ⟨⟨vs, v, same_l s' (same_l z h1), hv⟩, fun x H2 hx => ?_⟩
      obtain ⟨rfl, hx⟩ := hx
      have := hx vs (same_l s' (same_l z h1))
      rw [hv] at this
      cases this
      exact ⟨Z', ExtP.refl s', rv.mono z⟩
    | scr h1 h2 =>
      rename_i a vs xs
      cases hg
      refine ⟨a, rfl, ⟨vs, same_l s h1⟩, q _ fun Z' H' I' z _ s' i => ⟨fun d hd => ?_, fun hl => ⟨vs, same_l s' (same_l z h1), by rw [h2.length]; simpa using hl⟩⟩⟩
      obtain ⟨y, hy, rfl⟩ := getP (α := Unit) hd
      obtain ⟨v, hv, rv⟩ := h2.get hy
      refine ⟨⟨vs, v, same_l s' (same_l z h1), hv⟩, fun x H2 hx => ?_⟩
      obtain ⟨rfl, hx⟩ := hx
      have := hx vs (same_l s' (same_l z h1))
      rw [hv] at this
      cases this
      exact ⟨Z', ExtP.refl s', rv.mono z⟩
    | _ => cases hg
def itS : D → Option (List DV)
  | .str x => some (x.cps.toList.map fun c => .p (.str ⟨#[c]⟩))
  | _ => none
def intsFrom (lo : Int) (n : Nat) : List DV := (List.range n).map fun (i : Nat) => .p (.int (lo + (i : Int)))
theorem itr_ok {Z : Hp} {I : List Addr} {lo : Int} {n : Nat} : ItOk K Z I (Itr lo n) (intsFrom lo n) := fun Z' H' I' z _ s' i => by
  refine ⟨fun d hd => ?_, fun hl => ?_⟩
  · unfold intsFrom at hd
    rw [List.getElem?_map] at hd
    cases q : (List.range n)[i]? with
    | none => rw [q] at hd; cases hd
    | some j =>
      rw [q] at hd
      have hi : i < n := by simpa using (List.getElem?_eq_some_iff.mp q).1
      have ej : j = i := by
        rw [List.getElem?_range hi] at q
        exact (Option.some.inj q).symm
      subst ej
      cases hd
      refine ⟨hi, fun x H2 hx => ?_⟩
      obtain ⟨rfl, rfl⟩ := hx
      exact ⟨Z', ExtP.refl s', .int _⟩
  · show n ≤ i
    simpa [intsFrom] using hl
def rngOk (i : Int) : Bool := decide (-4611686018427387904 ≤ i ∧ i < 4611686018427387904)
def rng1D : List DV → Option (List DV)
  | [.p (.int j)] => if rngOk j = true then some (intsFrom 0 j.toNat) else none
  | _ => none
def rng2D : List DV → Option (List DV)
  | [.p (.int i), .p (.int j)] => if rngOk i = true then if rngOk j = true then some (intsFrom i (j - i).toNat) else none else none
  | _ => none
def mRng (g : List DV → Option (List DV)) (ms : AM) : IM := bnd ms fun ds s => match g ds with
  | some xs => some (.ok xs s.m)
  | none => none
theorem rng_bound {i : Int} (h : rngOk i = true) : -(2 ^ 62) ≤ i ∧ i < 2 ^ 62 := by
  unfold rngOk at h
  simp only [decide_eq_true_eq] at h
  have : (2 : Int) ^ 62 = 4611686018427387904 := by decide
  omega
theorem so_rng {g : List DV → Option (List DV)} {ta : TA} {ms : AM} {r : List V → Hp → (It → Hp → Prop) → Prop} (h : Sound K W (RepVs K) ta ms) (hr : ∀ vs ds xs Z H I (R : It → Hp → Prop), RepVs K Z I vs ds → g ds = some xs → (∀ J, ItOk K Z I J xs → R J H) → r vs H R) :
    Sound K W (ItOk K) (fun σ H R => ta σ H fun vs H1 => r vs H1 R) (mRng g ms) := ⟨fun σ H s Z I r0 Q w rs e p => by
  refine h.bnd w rs e (p.x) fun ds vs M1 Z1 H1 I1 w1 rs1 x1 q1 e1 => ?_
  have e1 : (match g ds with | some xs => some (Rs.ok xs M1) | none => none) = some r0 := e1
  cases z : g ds with
  | none => rw [z] at e1; cases e1
  | some xs =>
    rw [z] at e1; cases e1
    exact hr vs ds xs Z1 H1 I1 Q q1 z fun J hJ => p J Z1 H1 I1 w1 x1 hJ⟩
theorem di_range1 {ta : TA} {ms : AM} {p : Pos} (hm : X.mg "range" = none) (h : DA K X W [a] ta ms) (hg : Gl X "range" := by rfl) (hs : starEach [a] X.env = [(false, eval a X.env)] := by rfl) : DI K X W tg (.Call (.Name "range" p) [a] [] pos) (iRng1 ta) (mRng rng1D ms) :=
  ⟨h.k, pi_range1 hg hm h.pa hs, so_rng (r := fun vs H1 R => ∃ j : Int, vs = [.int j] ∧ -(2 ^ 62) ≤ j ∧ j < 2 ^ 62 ∧ R (Itr 0 j.toNat) H1) h.so fun vs ds xs Z H I R rv z q => by
    unfold rng1D at z
    split at z
    · split at z
      · rename_i hb
        cases z
        cases rv with
        | cons g1 g2 =>
        cases g2
        cases g1
        obtain ⟨b1, b2⟩ := rng_bound hb
        exact ⟨_, rfl, b1, b2, q _ itr_ok⟩
      · cases z
    · cases z⟩
theorem di_range2 {ta : TA} {ms : AM} {p : Pos} (hm : X.mg "range" = none) (h : DA K X W [a, b] ta ms) (hg : Gl X "range" := by rfl) (hs : starEach [a, b] X.env = [(false, eval a X.env), (false, eval b X.env)] := by rfl) (hs2 : starEach [b] X.env = [(false, eval b X.env)] := by rfl) : DI K X W tg (.Call (.Name "range" p) [a, b] [] pos) (iRng2 ta) (mRng rng2D ms) :=
  ⟨h.k, pi_range2 hg hm h.pa hs hs2, so_rng (r := fun vs H1 R => ∃ i j : Int, vs = [.int i, .int j] ∧ (-(2 ^ 62) ≤ i ∧ i < 2 ^ 62 ∧ -(2 ^ 62) ≤ j ∧ j < 2 ^ 62) ∧ R (Itr i (j - i).toNat) H1) h.so fun vs ds xs Z H I R rv z q => by
    unfold rng2D at z
    split at z
    · split at z
      · rename_i hb
        split at z
        · rename_i hb2
          cases z
          cases rv with
          | cons g1 g2 =>
          cases g2 with
          | cons g2 g3 =>
          cases g3
          cases g1
          cases g2
          obtain ⟨b1, b2⟩ := rng_bound hb
          obtain ⟨b3, b4⟩ := rng_bound hb2
          exact ⟨_, _, rfl, ⟨b1, b2, b3, b4⟩, q _ itr_ok⟩
        · cases z
      · cases z
    · cases z⟩
/-! ### for -/
def loopS (g : GM) (body : SM) : List DV → SM
  | [], s => some (.nx, s)
  | d :: ds, s => match g d s with
    | none => none
    | some s1 => match body s1 with
      | none => none
      | some (.nx, s2) => loopS g body ds s2
      | some (.ct, s2) => loopS g body ds s2
      | some (.bk, s2) => some (.nx, s2)
      | some (.rt v, s2) => some (.rt v, s2)
      | some (.ex c f, s2) => some (.ex c f, s2)
def sFor (it : IM) (g : GM) (body : SM) : SM := liftS it fun ds => loopS g body ds
theorem ds_for {body : List Stmt} {wi : TI} {g : TG} {tb : TS} {it : IM} {gm : GM} {ix : List Nat} {mb : SM} (hp : PassesOwn (model X.prog X.w) X.A X.env X.xe) (hc : X.calm = true) (hi : DI K X W tg iter wi it) (hg : DG K X tg g gm ix) (hb : DSs K X W body tb mb)
    (hs : ∀ x, foldedSetIterable iter X.env x = pure x := by intro _; rfl) : DS K X W (.For tg iter body [] pos) (tFor wi g tb) (sFor it gm mb) := ⟨hi.k, ps_for hp hc hi.pi hg.pg hb.ps hs, ⟨fun σ H s Z I r D w rs e p => by
  refine hi.so.lift w rs e p fun ds J M1 Z1 H1 I1 w1 rs1 x1 q1 e1 p1 => ?_
  refine ⟨fun i m σ' H' => m = ds.length - i ∧ i ≤ ds.length ∧ ∃ Z' I' s', Wf K Z' H' I' s'.m ∧ RepS K Z' I' σ' s'.l ∧ Ext Z1 H1 I1 Z' H' I' ∧ loopS gm mb (ds.drop i) s' = some r, ⟨ds.length, by simp, Nat.zero_le _, Z1, I1, ⟨s.l, M1⟩, w1, rs1, Ext.refl, e1⟩, ?_⟩
  rintro i m σ' H' ⟨rfl, hi', Z', I', s', w', rs', x', e'⟩
  have Jo := q1 Z' H' I' x'.z x'.i w'.sub i
  by_cases hlt : i < ds.length
  · right
    have hd : ds[i]? = some ds[i] := by simp [hlt]
    obtain ⟨go, yl⟩ := Jo.1 _ hd
    rw [List.drop_eq_getElem_cons hlt] at e'
    refine ⟨go, fun σ2 H2 => ∃ Z2 I2 s2, Wf K Z2 H2 I2 s2.m ∧ RepS K Z2 I2 σ2 s2.l ∧ Ext Z1 H1 I1 Z2 H2 I2 ∧ loopS gm mb (ds.drop (i + 1)) s2 = some r,
      fun σ2 H2 h2 => ⟨ds.length - (i + 1), by omega, rfl, hlt, h2⟩, fun x H2 hx => ?_⟩
    obtain ⟨Z2, x2, rx⟩ := yl x H2 hx
    have w2 := w'.extP x2
    have y2 := x2.ext w'
    have e' : (match gm ds[i] s' with
      | none => none
      | some s1 => match mb s1 with
        | none => none
        | some (.nx, s2) => loopS gm mb (ds.drop (i + 1)) s2
        | some (.ct, s2) => loopS gm mb (ds.drop (i + 1)) s2
        | some (.bk, s2) => some (.nx, s2)
        | some (.rt v, s2) => some (.rt v, s2)
        | some (.ex c f, s2) => some (.ex c f, s2)) = some r := e'
    cases z : gm ds[i] s' with
    | none => rw [z] at e'; cases e'
    | some s1 =>
      rw [z] at e'
      refine hg.ok x ds[i] σ' H2 s' s1 Z2 I' _ w2 (rs'.mono y2) rx z fun σ3 Z3 H3 I3 w3 rs3 x3 _ => ?_
      have xx := (x'.trans y2).trans x3
      cases z2 : mb s1 with
      | none =>
        have e' : (match mb s1 with
          | none => none
          | some (.nx, s2) => loopS gm mb (ds.drop (i + 1)) s2
          | some (.ct, s2) => loopS gm mb (ds.drop (i + 1)) s2
          | some (.bk, s2) => some (.nx, s2)
          | some (.rt v, s2) => some (.rt v, s2)
          | some (.ex c f, s2) => some (.ex c f, s2)) = some r := e'
        rw [z2] at e'; cases e'
      | some fr =>
        have e' : (match mb s1 with
          | none => none
          | some (.nx, s2) => loopS gm mb (ds.drop (i + 1)) s2
          | some (.ct, s2) => loopS gm mb (ds.drop (i + 1)) s2
          | some (.bk, s2) => some (.nx, s2)
          | some (.rt v, s2) => some (.rt v, s2)
          | some (.ex c f, s2) => some (.ex c f, s2)) = some r := e'
        rw [z2] at e'
        obtain ⟨f, s2⟩ := fr
        have p3 := p1.mono xx
        refine hb.so.ok σ3 H3 s1 Z3 I3 _ _ w3 rs3 z2 ?_
        cases f with
        | nx => exact fun σ4 Z4 H4 I4 w4 rs4 x4 => ⟨Z4, I4, s2, w4, rs4, xx.trans x4, e'⟩
        | ct => exact fun σ4 Z4 H4 I4 w4 rs4 x4 => ⟨Z4, I4, s2, w4, rs4, xx.trans x4, e'⟩
        | bk => cases e'; exact p3
        | rt v => cases e'; exact p3
        | ex c fs => cases e'; exact p3
  · left
    have e0 : ds.drop i = [] := List.drop_eq_nil_of_le (by omega)
    rw [e0] at e'
    cases e'
    exact ⟨Jo.2 (by omega), (p1.mono x') σ' Z' H' I' w' rs' Ext.refl⟩⟩⟩
/-! ### while -/
end
end DL
namespace DL
open PySem L2
abbrev WF : WX := fun _ _ _ _ => False
section
variable {K : PySem.W.Frag} {X : Cx} {W : WX} {e a b c tg iter : Expr} {es : List Expr} {pos : Pos}
def wipeL (l : List (Option DV)) : List Nat → List (Option DV)
  | [] => l
  | v :: vs => (wipeL l vs).set v none
theorem RepS.wipe {Z : Hp} {I : List Addr} {σ : St} {l : List (Option DV)} (r : RepS K Z I σ l) : ∀ vs : List Nat, RepS K Z I (L2.wipe σ vs) (wipeL l vs)
  | [] => r
  | v :: vs => by
    have h := RepS.wipe r vs
    refine ⟨by show ((L2.wipe σ vs).set v none).length = ((wipeL l vs).set v none).length; simpa using h.len, fun i dv e => ?_⟩
    have e : ((wipeL l vs).set v none)[i]? = some (some dv) := e
    by_cases q : v = i
    · subst q
      by_cases b : v < (wipeL l vs).length
      · rw [List.getElem?_set_self b] at e; cases e
      · rw [List.getElem?_eq_none (by simpa using b)] at e; cases e
    · rw [List.getElem?_set_ne q] at e
      obtain ⟨u, h1, h2⟩ := h.at_ i dv e
      refine ⟨u, ?_, h2⟩
      show ((L2.wipe σ vs).set v none)[i]? = _
      rw [List.getElem?_set_ne q]; exact h1
theorem wipe_wipe {σ : St} : ∀ vs ws : List Nat, (∀ i ∈ vs, i ∈ ws) → L2.wipe (L2.wipe σ vs) ws = L2.wipe σ ws
  | [], _, _ => rfl
  | v :: vs, ws, h => by
    show L2.wipe ((L2.wipe σ vs).set v none) ws = _
    rw [wipe_set (h v (by simp))]
    exact wipe_wipe vs ws fun i hi => h i (by simp [hi])
/-- the block of a list comprehension: results that are data -/
def compL (l : List (Option DV)) (g : GM) (t e : EM) : List DV → List D → List O → Option (List D × List O)
  | [], acc, M => some (acc, M)
  | d :: ds, acc, M => match g d ⟨l, M⟩ with
    | none => none
    | some s1 => match t s1 with
      | some (.ok (.p (.bl true)) M1) => match e ⟨s1.l, M1⟩ with
        | some (.ok (.p y) M2) => if acc.length < 1000000 then compL l g t e ds (acc ++ [y]) M2 else none
        | _ => none
      | some (.ok (.p (.bl false)) M1) => compL l g t e ds acc M1
      | _ => none
def mLc (it : IM) (vs : List Nat) (g : GM) (t e : EM) : EM := bnd it fun ds s => match compL (wipeL s.l vs) g t e ds [] s.m with
  | some (acc, M) => some (.ok (.p (.lst acc)) M)
  | none => none
def mLcO (it : IM) (vs : List Nat) (g : GM) (t e : EM) : EM := bnd it fun ds s => match compL (wipeL s.l vs) g t e ds [] s.m with
  | some (acc, M) => some (.ok (.o M.length) (M ++ [.lst (acc.map .p)]))
  | none => none
/-- what is known of the new list at D while it is filled -/
structure Fill (K : PySem.W.Frag) (Z1 H1 : Hp) (I1 : List Addr) (D : Addr) (Z H : Hp) (I : List Addr) (M : List O) (acc : List V) (ad : List DL.D) : Prop where
  w : Wf K Z H I M
  x : Ext Z1 H1 I1 Z H I
  at_ : H D = some (.lst acc)
  nz : Z D = none
  ni : D ∉ I
  r : RepA K Z acc ad
theorem Fill.step {Z1 H1 Z H Z' H' : Hp} {I1 I I' : List Addr} {D : Addr} {M M' : List O} {acc : List V} {ad : List DL.D} (f : Fill K Z1 H1 I1 D Z H I M acc ad) (w : Wf K Z' H' I' M') (x : Ext Z H I Z' H' I') : Fill K Z1 H1 I1 D Z' H' I' M' acc ad where
  w := w
  x := f.x.trans x
  at_ := x.fr D _ f.at_ f.ni
  nz := by
    cases q : Z' D with
    | none => rfl
    | some o =>
      rcases x.zn D (by rw [q]; simp) with k | k | k
      · exact absurd f.nz k
      · exact (Fr.no f.at_ (fun _ e => nomatch e) k).elim
      · exact absurd k f.ni
  ni := fun m => by
    rcases x.nw D m with k | k
    · exact f.ni k
    · rw [f.at_] at k; cases k
  r := f.r.mono x.z
theorem Fill.put {Z1 H1 Z H : Hp} {I1 I : List Addr} {D : Addr} {M : List O} {acc : List V} {ad : List DL.D} (f : Fill K Z1 H1 I1 D Z H I M acc ad) (h0 : H1 D = none) {v : V} {d : DL.D} (r : Rep K Z v d) : Fill K Z1 H1 I1 D Z (upd H D (.lst (acc ++ [v]))) I M (acc ++ [v]) (ad ++ [d]) where
  w := ⟨fun a u e => by rw [upd_ne (fun q => by rw [q, f.nz] at e; cases e)]; exact f.w.sub a u e, f.w.len, f.w.nd, fun a m => by rw [upd_ne (fun q => f.ni (by rw [← q]; exact m))]; exact f.w.tr a m, fun n a o h1 h2 h3 => by
    obtain ⟨q1, q2⟩ := f.w.ob n a o h1 h2 h3
    exact ⟨q1, q2.mono (Same.refl _) (upd_ne fun q => f.ni (by rw [← q]; exact List.mem_of_getElem? h1))⟩⟩
  x := ⟨f.x.z, f.x.i, fun a o e n => by rw [upd_ne (ne_of_none e h0)]; exact f.x.fr a o e n, f.x.nw, f.x.zn, fun a e => by
    by_cases q : a = D
    · rw [q, upd_same]; simp
    · rw [upd_ne q]; exact f.x.tr a e⟩
  at_ := upd_same
  nz := f.nz
  ni := f.ni
  r := f.r.append (.cons r .nil)
theorem tLc_ok {wi : TI} {g : TG} {tt : TT} {te : TE} {vs : List Nat} {it : IM} {gm : GM} {ix : List Nat} {t em : EM} (hi : Sound K W (ItOk K) wi it)
    (hg : ∀ (v : V) (dv : DV) (σ : St) (H : Hp) (s s' : S) (Z : Hp) (I : List Addr) (Q : St → Hp → Prop), Wf K Z H I s.m → RepS K Z I σ s.l → RepV K Z I v dv → gm dv s = some s' →
      (∀ σ' Z' H' I', Wf K Z' H' I' s'.m → RepS K Z' I' σ' s'.l → Ext Z H I Z' H' I' → (∀ vs, (∀ i ∈ ix, i ∈ vs) → L2.wipe σ' vs = L2.wipe σ vs) → Q σ' H') → g v σ H Q) (hix : ∀ i ∈ ix, i ∈ vs)
    (ht : Sound K WF RepB tt t) (he : Sound K WF (RepV K) te em) {σ : St} {H : Hp} {s : S} {Z : Hp} {I : List Addr} {r : Rs DV} {Q : VK} {k : List D → List O → Rs DV} (w : Wf K Z H I s.m) (rs : RepS K Z I σ s.l)
    (e : bnd it (fun ds s => match compL (wipeL s.l vs) gm t em ds [] s.m with | some (acc, M) => some (k acc M) | none => none) s = some r) (px : ∀ c fs M, r = .ex c fs M → PostX K W Z H I σ M c fs)
    (hk : ∀ Z1 H1 I1 D Z' H' I' M acc ad, r = k ad M → H1 D = none → Ext Z H I Z1 H1 I1 → Fill K Z1 H1 I1 D Z' H' I' M acc ad → Q (.ref D) H') : tLc wi g tt te vs σ H Q := by
  refine hi.bnd w rs e px fun ds J M1 Z1 H1 I1 w1 rs1 x1 q1 e1 => ?_
  have e1 : (match compL (wipeL s.l vs) gm t em ds [] M1 with | some (acc, M) => some (k acc M) | none => none) = some r := e1
  cases zc : compL (wipeL s.l vs) gm t em ds [] M1 with
  | none => rw [zc] at e1; cases e1
  | some am =>
    rw [zc] at e1
    obtain ⟨ad, Mf⟩ := am
    have e1 : some (k ad Mf) = some r := e1
    intro D hD
    have f0 : Fill K Z1 H1 I1 D Z1 (upd H1 D (.lst [])) I1 M1 [] [] := by
      refine ⟨⟨fun a u q => by rw [upd_ne (ne_of_none (w1.sub a u q) hD)]; exact w1.sub a u q, w1.len, w1.nd, fun a m => by rw [upd_ne (fun q => w1.tr a m (by rw [q]; exact hD))]; exact w1.tr a m, fun n a o h1 h2 h3 => ?_⟩, ⟨Same.refl _, ⟨[], by simp⟩, fun a o q _ => by rw [upd_ne (ne_of_none q hD)]; exact q, fun _ m => .inl m, fun _ m => .inl m, fun a q => by rw [upd_ne (fun y => q (by rw [y]; exact hD))]; exact q⟩, upd_same, none_of w1.sub hD, fun m => w1.tr D m hD, .nil⟩
      obtain ⟨q1, q2⟩ := w1.ob n a o h1 h2 h3
      exact ⟨q1, q2.mono (Same.refl _) (upd_ne fun q => w1.tr a (List.mem_of_getElem? h1) (by rw [q]; exact hD))⟩
    refine ⟨fun i m H' => m = ds.length - i ∧ i ≤ ds.length ∧ ∃ Z' I' M acc bd, Fill K Z1 H1 I1 D Z' H' I' M acc bd ∧ compL (wipeL s.l vs) gm t em (ds.drop i) bd M = some (ad, Mf), ⟨ds.length, by simp, Nat.zero_le _, Z1, I1, M1, [], [], f0, zc⟩, ?_⟩
    rintro i m H' ⟨rfl, hil, Z', I', M, acc, bd, f, e'⟩
    have Jo := q1 Z' H' I' f.x.z f.x.i f.w.sub i
    by_cases hlt : i < ds.length
    · right
      have hd : ds[i]? = some ds[i] := by simp [hlt]
      obtain ⟨go, yl⟩ := Jo.1 _ hd
      rw [List.drop_eq_getElem_cons hlt] at e'
      refine ⟨go, fun H2 => ∃ Z2 I2 M2 acc2 bd2, Fill K Z1 H1 I1 D Z2 H2 I2 M2 acc2 bd2 ∧ compL (wipeL s.l vs) gm t em (ds.drop (i + 1)) bd2 M2 = some (ad, Mf),
        fun H2 h2 => ⟨ds.length - (i + 1), by omega, rfl, hlt, h2⟩, fun x H2 hx => ?_⟩
      obtain ⟨Z2, x2, rx⟩ := yl x H2 hx
      have f2 := f.step (f.w.extP x2) (x2.ext f.w)
      have rs2 : RepS K Z2 I' (L2.wipe σ vs) (wipeL s.l vs) := ((rs1.mono f2.x)).wipe vs
      unfold compL at e'
      cases zg : gm ds[i] ⟨wipeL s.l vs, M⟩ with
      | none => rw [zg] at e'; cases e'
      | some s1 =>
        rw [zg] at e'
        refine hg x ds[i] (L2.wipe σ vs) H2 ⟨wipeL s.l vs, M⟩ s1 Z2 I' _ f2.w rs2 rx zg fun σ3 Z3 H3 I3 w3 rs3 x3 k3 => ?_
        have f3 := f2.step w3 x3
        refine ⟨(k3 vs hix).trans (wipe_wipe vs vs fun _ h => h) , ?_⟩
        have e' : (match t s1 with
          | some (.ok (.p (.bl true)) M1) => match em ⟨s1.l, M1⟩ with
            | some (.ok (.p y) M2) => if bd.length < 1000000 then compL (wipeL s.l vs) gm t em (ds.drop (i + 1)) (bd ++ [y]) M2 else none
            | _ => none
          | some (.ok (.p (.bl false)) M1) => compL (wipeL s.l vs) gm t em (ds.drop (i + 1)) bd M1
          | _ => none) = some (ad, Mf) := e'
        cases zt : t s1 with
        | none => rw [zt] at e'; cases e'
        | some rt =>
          rw [zt] at e'
          refine ht.ok σ3 H3 s1 Z3 I3 rt _ w3 rs3 zt ?_
          cases rt with
          | ex c fs M4 => cases e'
          | ok d4 M4 =>
            intro b Z4 H4 I4 w4 x4 r4
            cases (show d4 = .p (.bl b) from r4)
            have f4 := f3.step w4 x4
            cases b with
            | false =>
              rw [if_neg Bool.false_ne_true]
              exact ⟨Z4, I4, M4, acc, bd, f4, e'⟩
            | true =>
              rw [if_pos rfl]
              have e' : (match em ⟨s1.l, M4⟩ with
                | some (.ok (.p y) M2) => if bd.length < 1000000 then compL (wipeL s.l vs) gm t em (ds.drop (i + 1)) (bd ++ [y]) M2 else none
                | _ => none) = some (ad, Mf) := e'
              cases ze : em ⟨s1.l, M4⟩ with
              | none => rw [ze] at e'; cases e'
              | some re =>
                rw [ze] at e'
                refine he.ok σ3 H4 ⟨s1.l, M4⟩ Z4 I4 re _ w4 (rs3.mono x4) ze ?_
                cases re with
                | ex c fs M5 => cases e'
                | ok d5 M5 =>
                  intro y Z5 H5 I5 w5 x5 r5
                  have f5 := f4.step w5 x5
                  cases d5 with
                  | o n => cases e'
                  | p d5 =>
                    have e' : (if bd.length < 1000000 then compL (wipeL s.l vs) gm t em (ds.drop (i + 1)) (bd ++ [d5]) M5 else none) = some (ad, Mf) := e'
                    split at e'
                    · rename_i hlen
                      refine ⟨acc, f5.at_, by rw [f5.r.length]; exact size_lt (Nat.le_of_lt hlen), ?_⟩
                      exact ⟨Z5, I5, M5, _, _, f5.put hD r5, e'⟩
                    · cases e'
    · left
      have e0 : ds.drop i = [] := List.drop_eq_nil_of_le (by omega)
      rw [e0] at e'
      cases e'
      exact ⟨Jo.2 (by omega), hk Z1 H1 I1 D Z' H' I' _ acc _ (Option.some.inj e1).symm hD x1 f⟩
theorem Fill.frz {Z1 H1 Z H : Hp} {I1 I : List Addr} {D : Addr} {M : List O} {acc : List V} {ad : List DL.D} (f : Fill K Z1 H1 I1 D Z H I M acc ad) (h0 : H1 D = none) : Wf K (upd Z D (.lst acc)) H I M ∧ Ext Z1 H1 I1 (upd Z D (.lst acc)) H I := by
  refine ⟨⟨fun a u e => ?_, f.w.len, f.w.nd, f.w.tr, fun n a o h1 h2 h3 => ?_⟩, ⟨f.x.z.trans (same_upd f.nz), f.x.i, f.x.fr, f.x.nw, fun a e => ?_, f.x.tr⟩⟩
  · by_cases q : a = D
    · rw [q, upd_same] at e; rw [q, f.at_]; exact e
    · rw [upd_ne q] at e; exact f.w.sub a u e
  · obtain ⟨q1, q2⟩ := f.w.ob n a o h1 h2 h3
    exact ⟨q1.imp fun q1 => by rw [upd_ne fun q => f.ni (by rw [← q]; exact List.mem_of_getElem? h1)]; exact q1, q2.mono (same_upd f.nz) rfl⟩
  · by_cases q : a = D
    · rw [q]; exact .inr (.inl (.inl h0))
    · rw [upd_ne q] at e; exact f.x.zn a e
theorem Fill.own {Z1 H1 Z H : Hp} {I1 I : List Addr} {D : Addr} {M : List O} {acc : List V} {ad : List DL.D} (f : Fill K Z1 H1 I1 D Z H I M acc ad) (h0 : H1 D = none) : Wf K Z H (I ++ [D]) (M ++ [.lst (ad.map .p)]) ∧ Ext Z1 H1 I1 Z H (I ++ [D]) := by
  have x : Ext Z1 H1 I1 Z H (I ++ [D]) := by
    refine ⟨f.x.z, ?_, f.x.fr, fun a m => ?_, f.x.zn, f.x.tr⟩
    · obtain ⟨t, e⟩ := f.x.i
      exact ⟨t ++ [D], by rw [e, List.append_assoc]⟩
    · rcases List.mem_append.mp m with k | k
      · exact f.x.nw a k
      · rw [List.mem_singleton.mp k]; exact .inr h0
  have x2 : Ext Z H I Z H (I ++ [D]) ∨ True := .inr trivial
  refine ⟨⟨f.w.sub, by rw [List.length_append, List.length_append, f.w.len]; rfl, ?_, fun a m => ?_, fun n a o h1 h2 h3 => ?_⟩, x⟩
  · refine List.nodup_append.mpr ⟨f.w.nd, by simp, fun a ha b hb => ?_⟩
    rw [List.mem_singleton.mp hb]
    intro q
    exact f.ni (by rw [← q]; exact ha)
  · rcases List.mem_append.mp m with k | k
    · exact f.w.tr a k
    · rw [List.mem_singleton.mp k, f.at_]; simp
  · have up : ∀ {v : V} {d : DV}, RepV K Z I v d → RepV K Z (I ++ [D]) v d := fun {v d} h => by
      cases d with
      | p d => exact h
      | o j =>
        obtain ⟨b, hb, q⟩ := h
        exact ⟨b, by rw [List.getElem?_append_left (List.getElem?_eq_some_iff.mp hb).1]; exact hb, q⟩
    by_cases hn : n < I.length
    · rw [List.getElem?_append_left hn] at h1
      rw [List.getElem?_append_left (by rw [← f.w.len]; exact hn)] at h2
      obtain ⟨q1, q2⟩ := f.w.ob n a o h1 h2 h3
      refine ⟨q1, ?_⟩
      cases o with
      | lst _ => obtain ⟨xs, h, r⟩ := q2; exact ⟨xs, h, paired_imp (fun _ _ q => up q) r⟩
      | dK _ => obtain ⟨xs, h, r⟩ := q2; exact ⟨xs, h, paired_imp (fun _ _ q => ⟨q.1, up q.2⟩) r⟩
      | dT _ => obtain ⟨xs, h, r⟩ := q2; exact ⟨xs, h, paired_imp (fun _ _ q => ⟨q.1, up q.2⟩) r⟩
      | ins _ _ => obtain ⟨dx, xs, h, r⟩ := q2; exact ⟨dx, xs, h, paired_imp (fun _ _ q => ⟨q.1, up q.2⟩) r⟩
      | tbl _ _ => exact q2
      | clo _ _ =>
        obtain ⟨c, cl, cvs, h, n, r⟩ := q2
        refine ⟨c, cl, cvs, h, fun y b q m => ?_, paired_imp (fun _ _ q => up q) r⟩
        rcases List.mem_append.mp m with k | k
        · exact n y b q k
        · obtain ⟨o, v, g1, _⟩ := h.all y b q
          have g2 := f.w.sub b _ g1
          rw [List.mem_singleton.mp k, f.at_] at g2; cases g2
      | gone => trivial
    · have e1 : n = I.length := by
        have := (List.getElem?_eq_some_iff.mp h1).1
        rw [List.length_append, List.length_singleton] at this
        omega
      subst e1
      rw [List.getElem?_append_right (Nat.le_refl _), Nat.sub_self] at h1
      rw [List.getElem?_append_right (by rw [f.w.len]; exact Nat.le_refl _), f.w.len, Nat.sub_self] at h2
      cases h1
      cases h2
      exact ⟨ZN.of f.nz _, acc, f.at_, allP_map f.r⟩
def tYesM : EM := tru
theorem so_yes : Sound K WF RepB tYes tYesM := ⟨fun σ H s Z I r Q w rs e p => by
  cases e; exact p true Z H I w Ext.refl rfl⟩
structure DPT (K : PySem.W.Frag) (X : Cx) (es : List Expr) (t : TT) (m : EM) : Prop where
  k : X.K = K
  pt : PTs X es t
  so : Sound K WF RepB t m
theorem dpt_nil (k : X.K = K := by rfl) : DPT K X [] tYes tYesM := ⟨k, pts_nil, so_yes⟩
theorem dpt_one {t : TT} {m : EM} (h : DT K X WF c t m) : DPT K X [c] t m := ⟨h.k, pts_one h.pt, h.so⟩
section
variable {elt : Expr} {ifs : List Expr} {scope : Scope} {own : List (Str × Nat)} {wi : TI} {g : TG} {tt : TT} {te : TE} {it : IM} {gm : GM} {ix : List Nat} {t em : EM}
theorem so_lc (hi : Sound K W (ItOk K) wi it) (hg : ∃ X' tg', DG K X' tg' g gm ix) (hix : ∀ i ∈ ix, i ∈ own.map (·.2)) (ht : Sound K WF RepB tt t) (he : Sound K WF (RepV K) te em) : Sound K W (RepV K) (tLc wi g tt te (own.map (·.2))) (mLc it (own.map (·.2)) gm t em) := ⟨fun σ H s Z I r Q w rs e p => by
  obtain ⟨X', tg', hg⟩ := hg
  refine tLc_ok hi hg.ok hix ht he (k := fun acc M => .ok (.p (.lst acc)) M) w rs e p.x fun Z1 H1 I1 D Z' H' I' M acc ad er h0 x1 f => ?_
  subst er
  obtain ⟨w', x'⟩ := f.frz h0
  exact p _ _ H' I' w' (x1.trans x') (.lst (.inl upd_same) (f.r.mono (same_upd f.nz)))⟩
theorem so_lcO (hi : Sound K W (ItOk K) wi it) (hg : ∃ X' tg', DG K X' tg' g gm ix) (hix : ∀ i ∈ ix, i ∈ own.map (·.2)) (ht : Sound K WF RepB tt t) (he : Sound K WF (RepV K) te em) : Sound K W (RepV K) (tLc wi g tt te (own.map (·.2))) (mLcO it (own.map (·.2)) gm t em) := ⟨fun σ H s Z I r Q w rs e p => by
  obtain ⟨X', tg', hg⟩ := hg
  refine tLc_ok hi hg.ok hix ht he (k := fun (acc : List D) M => Rs.ok (DV.o M.length) (M ++ [O.lst (acc.map DV.p)])) w rs e p.x fun Z1 H1 I1 D Z' H' I' M acc ad er h0 x1 f => ?_
  subst er
  obtain ⟨w', x'⟩ := f.own h0
  exact p _ _ H' _ w' (x1.trans x') ⟨D, by rw [← f.w.len, List.getElem?_append_right (Nat.le_refl _), Nat.sub_self]; rfl, rfl⟩⟩
theorem de_lc {vs : List Nat} (hN : X.N.Nodup) (hc : X.calm = true) (hi : DI K X W tg iter wi it) (ok : BlkOk X.N X.env.scope scope own)
    (hg : ∀ (s : Shared) (H : Hp) (C : Addr) (cl : List (Str × Addr)) (fp : List Addr), DG K (X.blk s H scope (compEnvC scope cl C X.env) fp) tg g gm ix) (ht : ∀ (s : Shared) (H : Hp) (C : Addr) (cl : List (Str × Addr)) (fp : List Addr), DPT K (X.blk s H scope (compEnvC scope cl C X.env) fp) ifs tt t)
    (he : ∀ (s : Shared) (H : Hp) (C : Addr) (cl : List (Str × Addr)) (fp : List Addr), DE K (X.blk s H scope (compEnvC scope cl C X.env) fp) WF elt te em) (hix : ∀ i ∈ ix, i ∈ own.map (·.2) := by decide) (hs : ∀ x, foldedSetIterable iter X.env x = pure x := by intro _; rfl) (hv : own.map (·.2) = vs := by rfl) :
    DE K X W (.ListComp elt [⟨tg, iter, ifs, 0⟩] scope pos) (tLc wi g tt te vs) (mLc it vs gm t em) := by
  subst hv
  exact ⟨hi.k, pe_lc hc hN hi.pi ok (fun s H C cl fp => (hg s H C cl fp).pg) (fun s H C cl fp => (ht s H C cl fp).pt) (fun s H C cl fp => (he s H C cl fp).pe) hs,
    so_lc hi.so ⟨_, _, hg {} (fun _ => none) 0 [] []⟩ hix (ht {} (fun _ => none) 0 [] []).so (he {} (fun _ => none) 0 [] []).so⟩
end
end
end DL
namespace DL
open PySem L2
section
variable {K : PySem.W.Frag} {X : Cx} {W : WX} {e a b c tg iter : Expr} {es : List Expr} {pos : Pos}
section
variable {elt : Expr} {ifs : List Expr} {scope : Scope} {own : List (Str × Nat)} {wi : TI} {g : TG} {tt : TT} {te : TE} {it : IM} {gm : GM} {ix : List Nat} {t em : EM}
theorem so_asg {te : TE} {g : TG} {m : EM} {gm : GM} {ix : List Nat} {X' : Cx} {tg' : Expr} (he : Sound K W (RepV K) te m) (hg : DG K X' tg' g gm ix) : SoundS K W (tAsg te g) (sAsg m gm) := ⟨fun σ H s Z I r D w rs e p => by
  refine he.lift w rs e p fun d v M1 Z1 H1 I1 w1 rs1 x1 q1 e1 p1 => ?_
  have e1 : (match gm d ⟨s.l, M1⟩ with | some s1 => some (Fl.nx, s1) | none => none) = some r := e1
  cases z : gm d ⟨s.l, M1⟩ with
  | none => rw [z] at e1; cases e1
  | some s1 =>
    rw [z] at e1; cases e1
    exact hg.ok v d σ H1 ⟨s.l, M1⟩ s1 Z1 I1 _ w1 rs1 q1 z fun σ' Z' H' I' w' rs' x' _ => p1 σ' Z' H' I' w' rs' x'⟩
theorem ds_setLc {i : Nat} {vs : List Nat} {y : Str} {py spos : Pos} (hN : X.N.Nodup) (hc : X.calm = true) (hi : DI K X W tg iter wi it) (ok : BlkOk X.N X.env.scope scope own)
    (hg : ∀ (s : Shared) (H : Hp) (C : Addr) (cl : List (Str × Addr)) (fp : List Addr), DG K (X.blk s H scope (compEnvC scope cl C X.env) fp) tg g gm ix) (ht : ∀ (s : Shared) (H : Hp) (C : Addr) (cl : List (Str × Addr)) (fp : List Addr), DPT K (X.blk s H scope (compEnvC scope cl C X.env) fp) ifs tt t)
    (he : ∀ (s : Shared) (H : Hp) (C : Addr) (cl : List (Str × Addr)) (fp : List Addr), DE K (X.blk s H scope (compEnvC scope cl C X.env) fp) WF elt te em) (hy : X.N[i]? = some y := by rfl) (hyl : X.env.scope.names.lookup y = some .local := by rfl)
    (hsw : swapsWith (.ListComp elt [⟨tg, iter, ifs, 0⟩] scope pos) (some (.Name y py)) spos.line X.env = pure true := by exact sw_true rfl rfl rfl (by decide +kernel)) (hix : ∀ i ∈ ix, i ∈ own.map (·.2) := by decide) (hs : ∀ x, foldedSetIterable iter X.env x = pure x := by intro _; rfl) (hv : own.map (·.2) = vs := by rfl) :
    DS K X W (.Assign [.Name y py] (.ListComp elt [⟨tg, iter, ifs, 0⟩] scope pos) spos) (tAsg (tLc wi g tt te vs) (gName i)) (sAsg (mLc it vs gm t em) (gN i)) := by
  subst hv
  exact ⟨hi.k, ps_setLc hc hN hy hyl hsw hi.pi ok (fun s H C cl fp => (hg s H C cl fp).pg) (fun s H C cl fp => (ht s H C cl fp).pt) (fun s H C cl fp => (he s H C cl fp).pe) hs,
    so_asg (so_lc hi.so ⟨_, _, hg {} (fun _ => none) 0 [] []⟩ hix (ht {} (fun _ => none) 0 [] []).so (he {} (fun _ => none) 0 [] []).so) (dg_name hN hi.k hy (.inl hyl) (.inr hyl) : DG K X (.Name y py) _ _ _)⟩
theorem ds_setLcO {i : Nat} {vs : List Nat} {y : Str} {py spos : Pos} (hN : X.N.Nodup) (hc : X.calm = true) (hi : DI K X W tg iter wi it) (ok : BlkOk X.N X.env.scope scope own)
    (hg : ∀ (s : Shared) (H : Hp) (C : Addr) (cl : List (Str × Addr)) (fp : List Addr), DG K (X.blk s H scope (compEnvC scope cl C X.env) fp) tg g gm ix) (ht : ∀ (s : Shared) (H : Hp) (C : Addr) (cl : List (Str × Addr)) (fp : List Addr), DPT K (X.blk s H scope (compEnvC scope cl C X.env) fp) ifs tt t)
    (he : ∀ (s : Shared) (H : Hp) (C : Addr) (cl : List (Str × Addr)) (fp : List Addr), DE K (X.blk s H scope (compEnvC scope cl C X.env) fp) WF elt te em) (hy : X.N[i]? = some y := by rfl) (hyl : X.env.scope.names.lookup y = some .local := by rfl)
    (hsw : swapsWith (.ListComp elt [⟨tg, iter, ifs, 0⟩] scope pos) (some (.Name y py)) spos.line X.env = pure true := by exact sw_true rfl rfl rfl (by decide +kernel)) (hix : ∀ i ∈ ix, i ∈ own.map (·.2) := by decide) (hs : ∀ x, foldedSetIterable iter X.env x = pure x := by intro _; rfl) (hv : own.map (·.2) = vs := by rfl) :
    DS K X W (.Assign [.Name y py] (.ListComp elt [⟨tg, iter, ifs, 0⟩] scope pos) spos) (tAsg (tLc wi g tt te vs) (gName i)) (sAsg (mLcO it vs gm t em) (gN i)) := by
  subst hv
  exact ⟨hi.k, ps_setLc hc hN hy hyl hsw hi.pi ok (fun s H C cl fp => (hg s H C cl fp).pg) (fun s H C cl fp => (ht s H C cl fp).pt) (fun s H C cl fp => (he s H C cl fp).pe) hs,
    so_asg (so_lcO hi.so ⟨_, _, hg {} (fun _ => none) 0 [] []⟩ hix (ht {} (fun _ => none) 0 [] []).so (he {} (fun _ => none) 0 [] []).so) (dg_name hN hi.k hy (.inl hyl) (.inr hyl) : DG K X (.Name y py) _ _ _)⟩
end
/-! ### o[i] = v at a list of one's own -/
def setL (m : List O) (n : Nat) (i : Int) (d : DV) : Option (List O) := match m[n]? with
  | some (.lst ds) => match ixN ds.length i with
    | some j => some (m.set n (.lst (ds.set j d)))
    | none => none
  | _ => none
def gSetK (d x : DV) (y : D) : EM := fun s => match x, y with
  | .o n, .int j => match setL s.m n j d with
    | some M => some (.ok (.p .non) M)
    | none => none
  | _, _ => none
def gSet (o i : EM) : GM := fun d s => match bnd o (fun x => bnd i (pur (gSetK d x))) s with
  | some (.ok _ M) => some ⟨s.l, M⟩
  | _ => none
theorem dg_set {o i : Expr} {to ti : TE} {mo mi : EM} (ho : DE K X WF o to mo) (hi : DE K X WF i ti mi) (ha : ∀ v, assign (.Subscript o i pos) X.env v = (do
      let ov ← holding [v] (eval o X.env)
      let iv ← holding [v, ov] (eval i X.env)
      standAt pos
      holding [v, ov, iv] (setItem ov iv v)
      release [v, ov, iv] []) := by intro _; rfl) : DG K X (.Subscript o i pos) (gSub to ti rSetL) (gSet mo mi) [] :=
  ⟨ho.k, pg_sub ho.pe hi.pe set_list ha, fun v dv σ H s s' Z I Q w rs rv e q => by
    unfold gSet at e
    cases z : bnd mo (fun x => bnd mi (pur (gSetK dv x))) s with
    | none => rw [z] at e; cases e
    | some r0 =>
      rw [z] at e
      cases r0 with
      | ex c fs M => cases e
      | ok d0 M0 =>
        cases e
        refine ho.so.bnd w rs z (fun c fs M h => by cases h) fun x ov M1 Z1 H1 I1 w1 rs1 x1 q1 e1 => ?_
        refine hi.so.bnd (s := ⟨s.l, M1⟩) w1 rs1 e1 (fun c fs M h => by cases h) fun y iv M2 Z2 H2 I2 w2 rs2 x2 q2 e2 => ?_
        obtain ⟨y, rfl, e2⟩ := pur_ok e2
        cases x with
        | p d => cases e2
        | o n =>
          cases y with
          | int j =>
            have e2 : (match setL M2 n j dv with | some M => some (Rs.ok (DV.p .non) M) | none => none) = some (Rs.ok d0 M0) := e2
            obtain ⟨a, ha', rfl⟩ := q1.mono x2
            cases q2
            cases y : setL M2 n j dv with
            | none => rw [y] at e2; cases e2
            | some M3 =>
              rw [y] at e2
              obtain rfl : M3 = M0 := by cases e2; rfl
              unfold setL at y
              cases y1 : M2[n]? with
              | none => rw [y1] at y; cases y
              | some ob =>
                rw [y1] at y
                cases ob with
                | lst ds =>
                  have y : (match ixN ds.length j with | some j => some (M2.set n (.lst (ds.set j dv))) | none => none) = some M3 := y
                  cases y2 : ixN ds.length j with
                  | none => rw [y2] at y; cases y
                  | some k =>
                    rw [y2] at y; cases y
                    obtain ⟨_, xs, h1, h2⟩ := w2.ob n a _ ha' y1 (by intro z; cases z)
                    have y3 := ext_set (Z := Z2) (H := H2) (ho := .lst (xs.set k v)) (List.mem_of_getElem? ha')
                    have rv2 : RepV K Z2 I2 v dv := RepV.mono (x1.trans x2) rv
                    refine ⟨a, xs, j, k, rfl, rfl, h1, by rw [paired_len h2]; exact y2, ?_⟩
                    exact q σ Z2 _ I2 (w2.setO (o' := .lst (ds.set k dv)) ha' y1 (by intro z; cases z) ⟨_, upd_same, paired_set rv2 k h2⟩) (rs2.mono y3) ((x1.trans x2).trans y3) fun _ _ => rfl
                | _ => cases y
          | _ => cases e2⟩
/-! ### methods of built-in types -/
def tyOk (T : String) (M : List O) : DV → Bool
  | .p (.str _) => T == "str"
  | .p (.lst _) => T == "list"
  | .p (.klst _) => T == "list"
  | .o n => match M[n]? with
    | some (.lst _) => T == "list"
    | some (.dK _) => T == "dict"
    | some (.dT _) => T == "dict"
    | _ => false
  | _ => false
theorem ty_of {T : String} {Z H : Hp} {I : List Addr} {M : List O} {x : V} {d : DV} (w : Wf K Z H I M) (h : RepV K Z I x d) (e : tyOk T M d = true) : tyV K T x H := by
  cases d with
  | o n =>
    obtain ⟨a, ha, rfl⟩ := h
    unfold tyOk at e
    simp only at e
    cases z : M[n]? with
    | none => rw [z] at e; cases e
    | some o =>
      rw [z] at e
      cases o with
      | lst ds =>
        obtain ⟨_, xs, h1, _⟩ := w.ob n a _ ha z (by intro z; cases z)
        exact .inl ⟨by simpa using e, xs, SqL.of h1⟩
      | dK ds =>
        obtain ⟨_, xs, h1, _⟩ := w.ob n a _ ha z (by intro z; cases z)
        exact .inr (.inr (.inl ⟨by simpa using e, .inl ⟨xs, h1⟩⟩))
      | dT ds =>
        obtain ⟨_, xs, h1, _⟩ := w.ob n a _ ha z (by intro z; cases z)
        exact .inr (.inr (.inl ⟨by simpa using e, .inr ⟨xs, h1⟩⟩))
      | _ => cases e
  | p d =>
    have h : Rep K Z x d := h
    cases h with
    | str y => exact (by simpa [tyOk] using e : T = "str")
    | lst h1 h2 => exact .inl ⟨by simpa [tyOk] using e, _, .inl (same_rd w.sub h1)⟩
    | klst h1 h2 => exact .inl ⟨by simpa [tyOk] using e, _, same_l w.sub h1⟩
    | _ => cases e
abbrev MtG := DV → List DV → EM
structure MthD (K : PySem.W.Frag) (X : Cx) (id : String) (r : V → List V → Hp → VK → Prop) (g : MtG) : Prop where
  op : X.K = K → MtR X id r
  ok : ∀ (W : WX) (σ : St) (x : V) (d : DV) (vs : List V) (ds : List DV) (Z H : Hp) (I : List Addr) (s : S) (r0 : Rs DV) (Q : VK), Wf K Z H I s.m → RepV K Z I x d → RepVs K Z I vs ds → g d ds s = some r0 → PostR K W (RepV K) Z H I σ Q r0 → r x vs H Q
def mMth (T : String) (g : MtG) (o : EM) (ms : AM) : EM := bnd o fun d s => if tyOk T s.m d = true then bnd ms (fun ds => g d ds) s else none
theorem so_mth {T : String} {r : V → List V → Hp → VK → Prop} {g : MtG} {to : TE} {t : TA} {mo : EM} {ms : AM}
    (h : ∀ (W : WX) (σ : St) (x : V) (d : DV) (vs : List V) (ds : List DV) (Z H : Hp) (I : List Addr) (s : S) (r0 : Rs DV) (Q : VK), Wf K Z H I s.m → RepV K Z I x d → RepVs K Z I vs ds → g d ds s = some r0 → PostR K W (RepV K) Z H I σ Q r0 → r x vs H Q)
    (ho : Sound K W (RepV K) to mo) (ha : Sound K W (RepVs K) t ms) : Sound K W (RepV K) (tBM K T r to t) (mMth T g mo ms) := ⟨fun σ H s Z I r0 Q w rs e p => by
  refine ho.bnd w rs e p.x fun d v M1 Z1 H1 I1 w1 rs1 x1 q1 e1 => ?_
  have e1 : (if tyOk T M1 d = true then bnd ms (fun ds => g d ds) ⟨s.l, M1⟩ else none) = some r0 := e1
  split at e1
  · rename_i hty
    have p1 := p.mono x1
    refine ⟨ty_of w1 q1 hty, ha.bnd (s := ⟨s.l, M1⟩) w1 rs1 e1 p1.x fun ds vs M2 Z2 H2 I2 w2 rs2 x2 q2 e2 => ?_⟩
    exact h W σ v d vs ds Z2 H2 I2 ⟨s.l, M2⟩ r0 Q w2 (q1.mono x2) q2 e2 (p1.mono x2)
  · cases e1⟩
theorem de_mth {T id : String} {r : V → List V → Hp → VK → Prop} {g : MtG} {o : Expr} {name : Str} {apos cpos : Pos} {to : TE} {t : TA} {mo : EM} {ms : AM} (h : MthD K X id r g) (ho : DE K X W o to mo) (ha : DA K X W (e :: es) t ms) (pa : PlainAttrs T) (slot : Slot T name id) (hty : typeOf (.builtin id) = pure (.type "method_descriptor"))
    (hs : starEach (e :: es) X.env = (false, eval e X.env) :: starEach es X.env := by rfl) (hpl : (backTo cpos (starEach es X.env)).any (·.1) = false := by rfl)
    (hbase : attributeBase o name X.env (eval o X.env) = eval o X.env := by rfl) (hfew : ((((backTo cpos (starEach (e :: es) X.env)).all fun x => !x.1) && (backToKw cpos (keywordEach [] X.env)).all fun x => x.1.isSome) && decide (((e :: es).length + ([] : List Keyword).length + if ([] : List Keyword).isEmpty = true then 0 else 1) < 30)) = true := by rfl)
    (hline : (apos.endLine == cpos.line) = true := by rfl) : DE K X W (.Call (.Attribute o name apos) (e :: es) [] cpos) (tBM K T r to t) (mMth T g mo ms) := by
  refine ⟨ho.k, ?_, so_mth h.ok ho.so ha.so⟩
  have q := pe_bm (X := X) (cpos := cpos) (apos := apos) pa slot hty (h.op ho.k) ho.pe ha.pa (hbase := hbase) (hfew := hfew) (hline := hline) (hs := hs) (hplain := hpl)
  rw [ho.k] at q
  exact q
/-- data in, data out -/
def gP (g : D → List D → Option D) : MtG := fun d ds s => match d with
  | .p d => match allP ds with
    | some xs => ret (g d xs) s
    | none => none
  | .o _ => none
/-! ### defs -/
def slotsOf (n : Nat) (ds : List DV) : List (Option DV) := ds.map some ++ List.replicate (n - ds.length) none
theorem start_rep {Z : Hp} {I : List Addr} {N : List Str} {vs : List V} {ds : List DV} (r : RepVs K Z I vs ds) : RepS K Z I (L2.start N vs) (slotsOf N.length ds) := by
  have hl := paired_len r
  refine ⟨by unfold L2.start slotsOf; simp [hl], fun i dv e => ?_⟩
  unfold slotsOf at e
  unfold L2.start
  by_cases hi : i < ds.length
  · rw [List.getElem?_append_left (by simpa using hi), List.getElem?_map] at e
    cases q : ds[i]? with
    | none => rw [q] at e; cases e
    | some d =>
      rw [q] at e
      cases e
      obtain ⟨v, h1, h2⟩ := paired_get r q
      exact ⟨v, by rw [List.getElem?_append_left (by simpa [hl] using hi), List.getElem?_map, h1]; rfl, h2⟩
  · rw [List.getElem?_append_right (by simpa using hi), List.getElem?_replicate] at e
    split at e <;> cases e
def runA (n : Nat) (m : SM) : MA := fun ds => match m ⟨slotsOf n (ds.map .p), []⟩ with
  | some (.nx, _) => some (.ok .non)
  | some (.rt (.p d), _) => some (.ok d)
  | some (.ex c fs, _) => some (.ex c fs)
  | _ => none
def ltO (k : Nat) : DV → Bool
  | .p _ => true
  | .o n => decide (n < k)
def closed (k : Nat) : O → Bool
  | .lst xs => xs.all (ltO k)
  | .dK xs => xs.all fun p => ltO k p.2
  | .dT xs => xs.all fun p => ltO k p.2
  | .ins _ xs => xs.all fun p => ltO k p.2
  | .tbl _ _ => true
  | .clo _ xs => xs.all (ltO k)
  | .gone => true
def dropM (k : Nat) (d : DV) (M : List O) : List O := if (ltO k d && (M.take k).all (closed k)) = true then M.take k else M
def runB (n : Nat) (m : SM) : List DV → List O → Option (Rs DV) := fun ds M => match m ⟨slotsOf n ds, M⟩ with
  | some (.nx, s) => some (.ok (.p .non) (dropM M.length (.p .non) s.m))
  | some (.rt d, s) => some (.ok d (dropM M.length d s.m))
  | some (.ex c fs, s) => some (.ex c fs (dropM M.length (.p .non) s.m))
  | _ => none
theorem repV_take {Z : Hp} {I t : List Addr} {v : V} {d : DV} (h : RepV K Z (I ++ t) v d) (l : ltO I.length d = true) : RepV K Z I v d := by
  cases d with
  | p d => exact h
  | o n =>
    obtain ⟨a, ha, e⟩ := h
    have l : n < I.length := by simpa [ltO] using l
    exact ⟨a, by rw [List.getElem?_append_left l] at ha; exact ha, e⟩
theorem paired_all {α β : Type} {F G : α → β → Prop} {p : β → Bool} (k : ∀ a b, F a b → p b = true → G a b) : ∀ {xs : List α} {ys : List β}, Paired F xs ys → ys.all p = true → Paired G xs ys
  | _, _, .nil, _ => .nil
  | _, _, .cons h r, e => by
    rw [List.all_cons, Bool.and_eq_true] at e
    exact .cons (k _ _ h e.1) (paired_all k r e.2)
theorem wf_take {Z H : Hp} {I t : List Addr} {M : List O} (w : Wf K Z H (I ++ t) M) (l : (M.take I.length).all (closed I.length) = true) : Wf K Z H I (M.take I.length) where
  sub := w.sub
  len := by
    have := w.len
    rw [List.length_append] at this
    rw [List.length_take]; omega
  nd := (List.nodup_append.mp w.nd).1
  tr := fun a m => w.tr a (List.mem_append_left _ m)
  ob := fun n a o h1 h2 h3 => by
    have hn := (List.getElem?_eq_some_iff.mp h1).1
    have cl : closed I.length o = true := List.all_eq_true.mp l o (List.mem_of_getElem? h2)
    rw [List.getElem?_take_of_lt hn] at h2
    obtain ⟨q1, q2⟩ := w.ob n a o (by rw [List.getElem?_append_left hn]; exact h1) h2 h3
    refine ⟨q1, ?_⟩
    cases o with
    | lst ds => obtain ⟨xs, h, r⟩ := q2; exact ⟨xs, h, paired_all (p := ltO I.length) (fun _ _ q l => repV_take q l) r cl⟩
    | dK _ => obtain ⟨xs, h, r⟩ := q2; exact ⟨xs, h, paired_all (G := FRel K Z I) (p := fun p => ltO I.length p.2) (fun a b q l => (⟨q.1, repV_take q.2 l⟩ : FRel K Z I a b)) r cl⟩
    | dT _ => obtain ⟨xs, h, r⟩ := q2; exact ⟨xs, h, paired_all (G := FRel K Z I) (p := fun p => ltO I.length p.2) (fun a b q l => (⟨q.1, repV_take q.2 l⟩ : FRel K Z I a b)) r cl⟩
    | ins _ _ => obtain ⟨dx, xs, h, r⟩ := q2; exact ⟨dx, xs, h, paired_all (G := FRel K Z I) (p := fun p => ltO I.length p.2) (fun a b q l => (⟨q.1, repV_take q.2 l⟩ : FRel K Z I a b)) r cl⟩
    | tbl _ _ => exact q2
    | clo _ _ => obtain ⟨c, cl2, cvs, h, nn, r⟩ := q2; exact ⟨c, cl2, cvs, h, fun y b q m => nn y b q (List.mem_append_left _ m), paired_all (p := ltO I.length) (fun _ _ q l => repV_take q l) r cl⟩
    | gone => trivial
theorem drop_ok {Z H Z' H' : Hp} {I I' : List Addr} {M M' : List O} {v : V} {d : DV} (w0 : Wf K Z H I M) (w : Wf K Z' H' I' M') (x : Ext Z H I Z' H' I') (r : RepV K Z' I' v d) : ∃ I2, Wf K Z' H' I2 (dropM M.length d M') ∧ Ext Z H I Z' H' I2 ∧ RepV K Z' I2 v d ∧ ∀ a ∈ I2, a ∈ I' := by
  unfold dropM
  split
  · rename_i h
    rw [Bool.and_eq_true] at h
    obtain ⟨t, rfl⟩ := x.i
    rw [← w0.len] at h ⊢
    exact ⟨I, wf_take w h.2, ⟨x.z, ⟨[], by simp⟩, x.fr, fun a m => .inl m, x.zn, x.tr⟩, repV_take r h.1, fun a m => List.mem_append_left _ m⟩
  · exact ⟨I', w, x, r, fun _ m => m⟩
section
variable {P : Program} {w : World} {mg : Str → Option Value} {base : Heap} {x qual : Str} {st : Stmt} {f : Addr} {fd : FuncData} {N ps : List Str} {k : Nat}
abbrev WE0 (E : XK) : WX := fun cls d _ H => E cls d H
theorem fnA {m : SM} (F : Fun K x qual st f fd) (Sc : FnScope N ps (defScope st))
    (body : ∀ (cdv : Value) (A : Around) (outer : List Env) (s : Shared) (H : Hp) (E : XK), Room k (A.deeper (PyProof.Rows.envOfC qual (defScope st) s.heap.objs.size f cdv)) →
      ∃ t, DSs K (cxOf (L2.CX P w) P w K mg base N qual (defScope st) f cdv A outer s H E) (WE0 E) (defBody st) t m) : FnOk P w K mg base (L2.CX P w) (k + 1) f fd ps (spA K ps.length (runA N.length m)) := by
  refine F.okX Sc spA_len fun cdv A outer s H vs Q E hr h => ?_
  obtain ⟨hl, Z, ds, r, sub, rp, e, p⟩ := h
  obtain ⟨t, b⟩ := body cdv A outer s H E hr
  refine ⟨t, b.ps, ?_⟩
  have w0 : Wf K Z H [] [] := ⟨sub, rfl, List.nodup_nil, (by simp), fun n a o h => by simp at h⟩
  unfold runA at e
  cases z : m ⟨slotsOf N.length (ds.map .p), []⟩ with
  | none => rw [z] at e; cases e
  | some fs =>
    rw [z] at e
    obtain ⟨fl, s1⟩ := fs
    have xp : ∀ {Z' H' I'}, Wf K Z' H' I' s1.m → Ext Z H [] Z' H' I' → ExtP Z H Z' H' := fun {Z' H' I'} w' x' => ⟨x'.z, fun a o q => x'.fr a o q (by simp), w'.sub, fun a q => by
      rcases x'.zn a q with k | k | k
      · exact .inl k
      · exact .inr k
      · cases k⟩
    refine b.so.ok (L2.start N vs) H _ Z [] _ _ w0 (start_rep (allP_map rp)) z ?_
    cases fl with
    | nx => cases e; exact fun σ' Z' H' I' w' rs' x' => p _ Z' H' (xp w' x') .non
    | rt d =>
      cases d with
      | p d => cases e; exact fun v Z' H' I' w' x' r' => p v Z' H' (xp w' x') r'
      | o n => cases e
    | ex c fs => cases e; exact fun σ' d Z' H' I' w' rs' x' ea na => p d Z' H' (xp w' x') ea fun a q => (na a q).1
    | bk => cases e
    | ct => cases e
theorem fnB {m : SM} (F : Fun K x qual st f fd) (Sc : FnScope N ps (defScope st))
    (body : ∀ (cdv : Value) (A : Around) (outer : List Env) (s : Shared) (H : Hp) (E : XK), Room k (A.deeper (PyProof.Rows.envOfC qual (defScope st) s.heap.objs.size f cdv)) →
      ∃ t, DSs K (cxOf (L2.CX P w) P w K mg base N qual (defScope st) f cdv A outer s H E) (WE0 E) (defBody st) t m) : FnOk P w K mg base (L2.CX P w) (k + 1) f fd ps (spB K ps.length (runB N.length m)) := by
  refine F.okX Sc spB_len fun cdv A outer s H vs Q E hr h => ?_
  obtain ⟨hl, Z, I, M, ds, r, w0, rp, e, p⟩ := h
  obtain ⟨t, b⟩ := body cdv A outer s H E hr
  refine ⟨t, b.ps, ?_⟩
  unfold runB at e
  cases z : m ⟨slotsOf N.length ds, M⟩ with
  | none => rw [z] at e; cases e
  | some fs =>
    rw [z] at e
    obtain ⟨fl, s1⟩ := fs
    refine b.so.ok (L2.start N vs) H ⟨slotsOf N.length ds, M⟩ Z I _ _ w0 (start_rep rp) z ?_
    cases fl with
    | nx =>
      cases e
      intro σ' Z' H' I' w' rs' x'
      obtain ⟨I2, w2, x2, r2, _⟩ := drop_ok (d := .p .non) (v := .non) w0 w' x' (show Rep K Z' .non .non from .non)
      exact p _ Z' H' I2 w2 x2 r2
    | rt d =>
      cases e
      intro v Z' H' I' w' x' r'
      obtain ⟨I2, w2, x2, r2, _⟩ := drop_ok w0 w' x' r'
      exact p v Z' H' I2 w2 x2 r2
    | ex c fs =>
      cases e
      intro σ' d Z' H' I' w' rs' x' ea na
      obtain ⟨I2, w2, x2, _, h2⟩ := drop_ok (d := .p .non) (v := .non) w0 w' x' (show Rep K Z' .non .non from .non)
      exact p d Z' H' I2 w2 x2 ea fun a q => ⟨(na a q).1, fun m => (na a q).2 (h2 a m)⟩
    | bk => cases e
    | ct => cases e
end
end
end DL
namespace DL
open PySem L2
/-! ### equality of data -/
mutual
def toP : D → PyData
  | .non => .none
  | .bl b => .bool b
  | .int i => .int i
  | .str s => .str s
  | .lst xs => .list (toPs xs)
  | .klst xs => .list (toPs xs)
  | .tup xs => .tuple (toPs xs)
  | .ktup xs => .tuple (toPs xs)
  | .dK _ => .dict []
  | .dT _ => .dict []
  | .fn _ => .dict []
  | .clo _ _ => .dict []
  | .scr _ => .dict []
  | .ty _ => .dict []
  | .rng _ _ => .dict []
def toPs : List D → List PyData
  | [] => []
  | d :: r => toP d :: toPs r
end
mutual
/-- the same, as == tells -/
def deq : D → D → Bool
  | .non, .non => true
  | .bl a, .bl b => a == b
  | .bl a, .int j => (if a then 1 else 0) == j
  | .int i, .bl b => i == (if b then 1 else 0)
  | .int i, .int j => i == j
  | .str x, .str y => x == y
  | .lst xs, .lst ys => deqs xs ys
  | .lst xs, .klst ys => deqs xs ys
  | .klst xs, .lst ys => deqs xs ys
  | .klst xs, .klst ys => deqs xs ys
  | .tup xs, .tup ys => deqs xs ys
  | .tup xs, .ktup ys => deqs xs ys
  | .ktup xs, .tup ys => deqs xs ys
  | .ktup xs, .ktup ys => deqs xs ys
  | _, _ => false
def deqs : List D → List D → Bool
  | [], [] => true
  | x :: xs, y :: ys => deq x y && deqs xs ys
  | _, _ => false
end
mutual
theorem deq_eqv : ∀ a b : D, PyData.eqv (toP a) (toP b) = deq a b
  | .lst xs, b => by
    cases b with
    | lst ys => exact deqs_eqv xs ys
    | klst ys => exact deqs_eqv xs ys
    | _ => rfl
  | .klst xs, b => by
    cases b with
    | lst ys => exact deqs_eqv xs ys
    | klst ys => exact deqs_eqv xs ys
    | _ => rfl
  | .tup xs, b => by
    cases b with
    | tup ys => exact deqs_eqv xs ys
    | ktup ys => exact deqs_eqv xs ys
    | _ => rfl
  | .ktup xs, b => by
    cases b with
    | tup ys => exact deqs_eqv xs ys
    | ktup ys => exact deqs_eqv xs ys
    | _ => rfl
  | .non, b => by cases b <;> rfl
  | .bl _, b => by cases b <;> rfl
  | .int _, b => by cases b <;> rfl
  | .str _, b => by cases b <;> rfl
  | .dK _, b => by cases b <;> rfl
  | .dT _, b => by cases b <;> rfl
  | .fn _, b => by cases b <;> rfl
  | .clo _ _, b => by cases b <;> rfl
  | .scr _, b => by cases b <;> rfl
  | .ty _, b => by cases b <;> rfl
  | .rng _ _, b => by cases b <;> rfl
theorem deqs_eqv : ∀ a b : List D, PyData.eqvAll (toPs a) (toPs b) = deqs a b
  | [], [] => rfl
  | x :: xs, y :: ys => by
    show (PyData.eqv (toP x) (toP y) && PyData.eqvAll (toPs xs) (toPs ys)) = (deq x y && deqs xs ys)
    rw [deq_eqv x y, deqs_eqv xs ys]
  | [], _ :: _ => rfl
  | _ :: _, [] => rfl
end
section
variable {K : PySem.W.Frag} {Z H : Hp}
mutual
theorem Rep.dp (s : Same Z H) : ∀ {v : V} {d : D}, Rep K Z v d → PyData.canLay0 (toP d) = true → Dp K H v (toP d)
  | _, _, .non, _ => .non
  | _, _, .bl b, _ => .bl b
  | _, _, .int i, _ => .int i
  | _, _, .str x, _ => .str x
  | _, _, .lst h r, e => .lst (.inl (same_rd s h)) (RepA.dp s r e)
  | _, _, .tup h r, e => .tup (sqt s h) (RepA.dp s r e)
  | _, _, .ktup h r, e => .tup (same_t s h) (RepA.dp s r e)
  | _, _, .klst h r, e => .lst (same_l s h) (RepA.dp s r e)
  | _, _, .dK _ _, e => by cases e
  | _, _, .dT _ _, e => by cases e
  | _, _, .fn _, e => by cases e
  | _, _, .clo _ _, e => by cases e
  | _, _, .scr _ _, e => by cases e
  | _, _, .ty _, e => by cases e
  | _, _, .rng _, e => by cases e
theorem RepA.dp (s : Same Z H) : ∀ {v : List V} {d : List D}, RepA K Z v d → PyData.canLayAll0 (toPs d) = true → DpAll K H v (toPs d)
  | _, _, .nil, _ => .nil
  | _, _, .cons h r, e => by
    have e : (PyData.canLay0 (toP _) && PyData.canLayAll0 (toPs _)) = true := e
    rw [Bool.and_eq_true] at e
    exact .cons (Rep.dp s h e.1) (RepA.dp s r e.2)
end
end
mutual
def okD : D → Bool
  | .non => true
  | .bl _ => true
  | .int _ => true
  | .str x => PyData.strOk x
  | .lst xs => okDs xs
  | .tup xs => okDs xs
  | .ktup xs => okDs xs
  | .klst xs => okDs xs
  | _ => false
def okDs : List D → Bool
  | [] => true
  | x :: xs => okD x && okDs xs
end
mutual
def depD : D → Nat
  | .lst xs => depDs xs + 1
  | .tup xs => depDs xs + 1
  | .ktup xs => depDs xs + 1
  | .klst xs => depDs xs + 1
  | _ => 0
def depDs : List D → Nat
  | [] => 0
  | x :: xs => max (depD x) (depDs xs)
end
mutual
theorem okD_can : ∀ d : D, okD d = true → PyData.canLay0 (toP d) = true
  | .non, _ => rfl
  | .bl _, _ => rfl
  | .int _, _ => rfl
  | .str x, h => h
  | .lst xs, h => okDs_can xs h
  | .tup xs, h => okDs_can xs h
  | .ktup xs, h => okDs_can xs h
  | .klst xs, h => okDs_can xs h
  | .dK _, h => by cases h
  | .dT _, h => by cases h
  | .fn _, h => by cases h
  | .clo _ _, h => by cases h
  | .scr _, h => by cases h
  | .ty _, h => by cases h
  | .rng _ _, h => by cases h
theorem okDs_can : ∀ d : List D, okDs d = true → PyData.canLayAll0 (toPs d) = true
  | [], _ => rfl
  | x :: xs, h => by
    have h : (okD x && okDs xs) = true := h
    rw [Bool.and_eq_true] at h
    show (PyData.canLay0 (toP x) && PyData.canLayAll0 (toPs xs)) = true
    rw [okD_can x h.1, okDs_can xs h.2]; rfl
end
mutual
theorem depD_dep : ∀ d : D, okD d = true → PyData.depth (toP d) = depD d
  | .non, _ => rfl
  | .bl _, _ => rfl
  | .int _, _ => rfl
  | .str x, _ => rfl
  | .lst xs, h => by show PyData.depthAll (toPs xs) + 1 = depDs xs + 1; rw [depDs_dep xs h]
  | .tup xs, h => by show PyData.depthAll (toPs xs) + 1 = depDs xs + 1; rw [depDs_dep xs h]
  | .ktup xs, h => by show PyData.depthAll (toPs xs) + 1 = depDs xs + 1; rw [depDs_dep xs h]
  | .klst xs, h => by show PyData.depthAll (toPs xs) + 1 = depDs xs + 1; rw [depDs_dep xs h]
  | .dK _, h => by cases h
  | .dT _, h => by cases h
  | .fn _, h => by cases h
  | .clo _ _, h => by cases h
  | .scr _, h => by cases h
  | .ty _, h => by cases h
  | .rng _ _, h => by cases h
theorem depDs_dep : ∀ d : List D, okDs d = true → PyData.depthAll (toPs d) = depDs d
  | [], _ => rfl
  | x :: xs, h => by
    have h : (okD x && okDs xs) = true := h
    rw [Bool.and_eq_true] at h
    show max (PyData.depth (toP x)) (PyData.depthAll (toPs xs)) = max (depD x) (depDs xs)
    rw [depD_dep x h.1, depDs_dep xs h.2]
end
def shp (d : D) : Bool := okD d && decide (depD d ≤ 64)
theorem shp_ok {d : D} (h : shp d = true) : SeqAt.shaped (toP d) = true := by
  unfold shp at h
  rw [Bool.and_eq_true] at h
  unfold SeqAt.shaped
  rw [okD_can d h.1, depD_dep d h.1, h.2]; rfl
/-- scalars are told apart at once; the rest has to be shaped -/
def scalD : D → D → Option Bool
  | .non, .non => some true
  | .non, .int _ => some false
  | .int _, .non => some false
  | .non, .bl _ => some false
  | .bl _, .non => some false
  | .non, .str _ => some false
  | .str _, .non => some false
  | .int i, .int j => some (i == j)
  | .bl i, .bl j => some (i == j)
  | .str x, .str y => some (x == y)
  | .int _, .str _ => some false
  | .str _, .int _ => some false
  | .bl _, .str _ => some false
  | .str _, .bl _ => some false
  | _, _ => none
def eqD (d e : D) : Option Bool := match scalD d e with
  | some b => some b
  | none => if (shp d && shp e) = true then some (deq d e) else none
def dEq (d e : D) : Option D := (eqD d e).map .bl
def dNe (d e : D) : Option D := (eqD d e).map fun b => .bl !b
theorem boolMap {α : Type} {o : Option α} {f : α → Bool} {c : D} (h : (o.map fun a => D.bl (f a)) = some c) : ∃ b, c = .bl b := by
  cases o with
  | none => cases h
  | some a => cases h; exact ⟨_, rfl⟩
theorem bool_dEq : boolD dEq := fun d e c h => boolMap (f := id) h
theorem bool_dNe : boolD dNe := fun d e c h => boolMap h
section
variable {K : PySem.W.Frag} {X : Cx}
theorem scal_ok {Z : Hp} {x y : V} {d e : D} {b : Bool} (hx : Rep K Z x d) (hy : Rep K Z y e) (h : scalD d e = some b) : scal x y = true ∧ decide (x = y) = b := by
  cases hx with
  | non => cases hy <;> cases h <;> exact ⟨rfl, rfl⟩
  | int i => cases hy with
    | int j => cases h; refine ⟨rfl, ?_⟩; by_cases q : i = j <;> simp [q]
    | non => cases h; exact ⟨rfl, rfl⟩
    | str _ => cases h; exact ⟨rfl, rfl⟩
    | _ => cases h
  | bl i => cases hy with
    | bl j => cases h; refine ⟨rfl, ?_⟩; by_cases q : i = j <;> simp [q]
    | non => cases h; exact ⟨rfl, rfl⟩
    | str _ => cases h; exact ⟨rfl, rfl⟩
    | _ => cases h
  | str i => cases hy with
    | str j => cases h; refine ⟨rfl, ?_⟩; by_cases q : i = j <;> simp [q]
    | non => cases h; exact ⟨rfl, rfl⟩
    | int _ => cases h; exact ⟨rfl, rfl⟩
    | bl _ => cases h; exact ⟨rfl, rfl⟩
    | _ => cases h
  | _ => cases hy <;> cases h
def rEqX (K : PySem.W.Frag) : R2 := fun x y H Q => rEq x y H Q ∨ rEqD K x y H Q
def rNeX (K : PySem.W.Frag) : R2 := fun x y H Q => rNe x y H Q ∨ rNeD K x y H Q
theorem shaped_can {d : D} (h : shp d = true) : PyData.canLay0 (toP d) = true := SeqAt.canLay_of_shaped (shp_ok h)
theorem od_eq (hu : X.A.units + 64 < cLine) : OpD K X (compareOp .Eq) (rEqX K) dEq where
  op := fun k pins s σ H x y v u Q I rx ry h => by
    subst k
    rcases h with h | h
    · exact op_eq pins s σ H x y v u Q I rx ry h
    · exact op_eqD hu pins s σ H x y v u Q I rx ry h
  ok := by
    intro x y d e c Z H Q s hx hy hg p
    unfold dEq eqD at hg
    cases z : scalD d e with
    | some b =>
      rw [z] at hg; cases hg
      obtain ⟨h1, h2⟩ := scal_ok hx hy z
      exact .inl ⟨h1, by rw [h2]; exact p _ Z H (ExtP.refl s) (.bl _)⟩
    | none =>
      rw [z] at hg
      have hg : (if (shp d && shp e) = true then some (deq d e) else none).map D.bl = some c := hg
      split at hg
      · rename_i hs
        cases hg
        rw [Bool.and_eq_true] at hs
        exact .inr ⟨_, _, hx.dp s (shaped_can hs.1), hy.dp s (shaped_can hs.2), shp_ok hs.1, shp_ok hs.2, by rw [deq_eqv]; exact p _ Z H (ExtP.refl s) (.bl _)⟩
      · cases hg
theorem od_ne (hu : X.A.units + 64 < cLine) : OpD K X (compareOp .NotEq) (rNeX K) dNe where
  op := fun k pins s σ H x y v u Q I rx ry h => by
    subst k
    rcases h with h | h
    · exact op_ne pins s σ H x y v u Q I rx ry h
    · exact op_neD hu pins s σ H x y v u Q I rx ry h
  ok := by
    intro x y d e c Z H Q s hx hy hg p
    unfold dNe eqD at hg
    cases z : scalD d e with
    | some b =>
      rw [z] at hg; cases hg
      obtain ⟨h1, h2⟩ := scal_ok hx hy z
      exact .inl ⟨h1, by rw [h2]; exact p _ Z H (ExtP.refl s) (.bl _)⟩
    | none =>
      rw [z] at hg
      have hg : (if (shp d && shp e) = true then some (deq d e) else none).map (fun b => D.bl !b) = some c := hg
      split at hg
      · rename_i hs
        cases hg
        rw [Bool.and_eq_true] at hs
        exact .inr ⟨_, _, hx.dp s (shaped_can hs.1), hy.dp s (shaped_can hs.2), shp_ok hs.1, shp_ok hs.2, by rw [deq_eqv]; exact p _ Z H (ExtP.refl s) (.bl _)⟩
      · cases hg
end
/-! ### slices -/
section
variable {K : PySem.W.Frag} {X : Cx} {W : WX} {e a b c : Expr} {es : List Expr} {pos : Pos}
def RepOI (_ : Hp) (_ : List Addr) (x y : Option Int) : Prop := x = y
abbrev PM := Mi (Option Int)
structure DP (K : PySem.W.Frag) (X : Cx) (W : WX) (e : Option Expr) (t : TO) (m : PM) : Prop where
  k : X.K = K
  po : PO X e t
  so : Sound K W RepOI t m
def pNone : PM := fun s => some (.ok none s.m)
def pSome (m : EM) : PM := bnd m (pur fun d s => match d with
  | .int i => some (.ok (some i) s.m)
  | _ => none)
theorem dp_none (k : X.K = K := by rfl) : DP K X W none tNoPart pNone := ⟨k, po_none, ⟨fun σ H s Z I r Q w rs e p => by
  cases e; exact p none Z H I w Ext.refl rfl⟩⟩
theorem dp_some {te : TE} {m : EM} (h : DE K X W e te m) : DP K X W (some e) (tPart te) (pSome m) := ⟨h.k, po_some h.pe, ⟨fun σ H s Z I r Q w rs e p => by
  refine h.so.bnd w rs e p.x fun d v M1 Z1 H1 I1 w1 rs1 x1 q1 e1 => ?_
  obtain ⟨d, rfl, e1⟩ := pur_ok e1
  cases d with
  | int i => cases q1; cases e1; exact ⟨i, rfl, p _ Z1 H1 I1 w1 x1 rfl⟩
  | _ => cases e1⟩⟩
def cutD {α : Type} (xs : List α) (lo hi : Option Int) : List α := (xs.drop (HT.sIx xs.length 0 lo)).take (HT.sIx xs.length xs.length hi - HT.sIx xs.length 0 lo)
def slD : D → Option Int → Option Int → Option D
  | .str z, l, u => if z.length ≤ 1000000 then some (.str (cutS z l u)) else none
  | .lst xs, l, u => some (.lst (cutD xs l u))
  | .scr xs, l, u => some (.lst (cutD xs l u))
  | .tup xs, l, u => if HT.sIx xs.length 0 l = 0 ∧ HT.sIx xs.length xs.length u = xs.length then some (.tup xs) else some (.tup (cutD xs l u))
  | _, _, _ => none
def rSl (K : PySem.W.Frag) : V → Option Int → Option Int → Hp → VK → Prop := fun x lo hi H Q => rSlS x lo hi H Q ∨ rSlL K x lo hi H Q ∨ (∃ a xs, x = .ref a ∧ SqT K H a xs ∧ ¬ (HT.sIx xs.length 0 lo = 0 ∧ HT.sIx xs.length xs.length hi = xs.length) ∧ ∀ p, H p = none → Q (.ref p) (upd H p (.tup (cutV xs lo hi))))
theorem RepA.cut {Z : Hp} {xs : List V} {ds : List D} (r : RepA K Z xs ds) (lo hi : Option Int) : RepA K Z (cutV xs lo hi) (cutD ds lo hi) := by
  unfold cutV cutD
  rw [r.length]
  exact (r.drop _).take _
theorem sl_any : SlR X (rSl X.K) := fun pins s σ H x v vl vu lo hi sl Q I rx hs pl pu h => by
  rcases h with h | h | h
  · exact sl_str pins s σ H x v vl vu lo hi sl Q I rx hs pl pu h
  · exact sl_list pins s σ H x v vl vu lo hi sl Q I rx hs pl pu h
  · exact sl_tup pins s σ H x v vl vu lo hi sl Q I rx hs pl pu h
theorem sl_ok {x : V} {d c : D} {lo hi : Option Int} {Z H : Hp} {Q : VK} (s : Same Z H) (hx : Rep K Z x d) (hg : slD d lo hi = some c) (p : PostP K Z H c Q) (nt : ∀ xs, d ≠ .tup xs) : rSl K x lo hi H Q := by
  cases hx with
  | str z =>
    have hg : (if z.length ≤ 1000000 then some (D.str (cutS z lo hi)) else none) = some c := hg
    split at hg
    · rename_i hl
      cases hg
      exact .inl ⟨z, rfl, size_le hl, p _ Z H (ExtP.refl s) (.str _)⟩
    · cases hg
  | lst h1 h2 =>
    cases hg
    exact .inr (.inl ⟨_, _, rfl, .inl (same_rd s h1), fun l hl => p _ _ _ (ExtP.new s hl) (.lst (.inl upd_same) ((h2.cut lo hi).mono (same_upd (none_of s hl))))⟩)
  | scr h1 h2 =>
    cases hg
    exact .inr (.inl ⟨_, _, rfl, same_l s h1, fun l hl => p _ _ _ (ExtP.new s hl) (.lst (.inl upd_same) ((h2.cut lo hi).mono (same_upd (none_of s hl))))⟩)
  | tup h1 h2 => exact absurd rfl (nt _)
  | _ => cases hg
/-- (tuples are not cut here) -/
def slE (d : D) (l u : Option Int) : Option D := match d with
  | .tup _ => none
  | d => slD d l u
theorem de_sl {te : TE} {tl th : TO} {m : EM} {ml mu : PM} {lo hi : Option Expr} {p2 : Pos} (h : DE K X W e te m) (hl : DP K X W lo tl ml) (hh : DP K X W hi th mu) : DE K X W (.Subscript e (.Slice lo hi none p2) pos) (tSl (rSl K) te tl th) (bnd m (pur fun d => bnd ml fun i => bnd mu fun j => ret (slE d i j))) := by
  refine ⟨h.k, ?_, ⟨fun σ H s Z I r0 Q w rs e p => ?_⟩⟩
  · have q := pe_slice (X := X) (pos := pos) (p2 := p2) sl_any h.pe hl.po hh.po
    rw [h.k] at q
    exact q
  · refine h.so.bnd w rs e p.x fun d v M1 Z1 H1 I1 w1 rs1 x1 q1 e1 => ?_
    obtain ⟨d, rfl, e1⟩ := pur_ok e1
    have p1 := p.mono x1
    refine hl.so.bnd (s := ⟨s.l, M1⟩) w1 rs1 e1 p1.x fun i i' M2 Z2 H2 I2 w2 rs2 x2 q2 e2 => ?_
    cases (show i' = i from q2)
    have p2 := p1.mono x2
    refine hh.so.bnd (s := ⟨s.l, M2⟩) w2 rs2 e2 p2.x fun j j' M3 Z3 H3 I3 w3 rs3 x3 q3 e3 => ?_
    cases (show j' = j from q3)
    obtain ⟨c, hc, rfl⟩ := ret_ok e3
    have hx : Rep K Z3 v d := Rep.mono x3.z (Rep.mono x2.z q1)
    unfold slE at hc
    split at hc
    · cases hc
    · rename_i hn
      exact sl_ok w3.sub hx hc (PostP.of w3 (p2.mono x3)) fun xs h => hn xs h
end
end DL
namespace DL
open PySem L2
section
variable {K : PySem.W.Frag} {X : Cx} {W : WX} {e a b c : Expr} {es : List Expr} {pos : Pos}
/-! ### isinstance -/
def tyName : D → Option String
  | .non => some "NoneType"
  | .bl _ => some "bool"
  | .int _ => some "int"
  | .str _ => some "str"
  | .lst _ => some "list"
  | .tup _ => some "tuple"
  | .ktup _ => some "tuple"
  | _ => none
def dIsi : List O → List DV → Option D
  | _, [.p d, .p (.ty n)] => match tyName d with
    | some t => (kitB t n).map .bl
    | none => none
  | _, _ => none
end
end DL
namespace DL
open PySem L2
abbrev dSub : D → D → Option D := dIi fun i j => i - j
abbrev dMul : D → D → Option D := dI fun i j => if mulOk i j = true then some (.int (i * j)) else none
abbrev dDiv : D → D → Option D := dI fun i j => if 0 < j ∧ j < 18446744073709551616 then some (.int (i / j)) else none
abbrev dMod : D → D → Option D := dI fun i j => if 0 < j then some (.int (i % j)) else none
abbrev dLt : D → D → Option D := dIb fun i j => decide (i < j)
abbrev dLe : D → D → Option D := dIb fun i j => decide (i ≤ j)
abbrev dGt : D → D → Option D := dIb fun i j => decide (j < i)
abbrev dGe : D → D → Option D := dIb fun i j => decide (j ≤ i)
def dNeg : D → Option D
  | .int i => some (.int (-i))
  | _ => none
/-- a def of the top -/
structure Df (K : PySem.W.Frag) (mg : Str → Option Value) (nm : Str) (st : Stmt) (ps : List Str) where
  a : Addr
  fd : FuncData
  F : Fun K nm nm st a fd
  m : mg nm = some (.ref a)
  b : Binds K fd ps []
theorem intsRep {K : PySem.W.Frag} {Z : Hp} : ∀ ns : List Int, RepA K Z (ns.map V.int) (ns.map D.int)
  | [] => .nil
  | n :: r => .cons (.int n) (intsRep r)
end DL
namespace DL
open PySem L2
/-- a constant of the top -/
structure GC (K : PySem.W.Frag) (mg : Str → Option Value) (x : Str) (d : D) where
  v : V
  u : Value
  m : mg x = some u
  r : RelV v u
  h : ∀ Z, Rep K Z v d
def mSlE (m : EM) (l u : PM) : EM := bnd m (pur fun d => bnd l fun i => bnd u fun j => ret (slE d i j))
end DL
namespace DL
open PySem L2
/-! the mirror's equations -/
@[simp] theorem e_gv0 (x : Option DV) (r : List (Option DV)) : gv (x :: r) 0 = x := by unfold gv; cases x <;> rfl
@[simp] theorem e_gvS (x : Option DV) (r : List (Option DV)) (n : Nat) : gv (x :: r) (n + 1) = gv r n := by unfold gv; rfl
@[simp] theorem e_var (i : Nat) (s : S) : mVar i s = (match gv s.l i with | some d => some (.ok d s.m) | none => none) := rfl
@[simp] theorem e_c (d : D) (s : S) : mC d s = some (.ok (.p d) s.m) := rfl
theorem e_bnd {α γ : Type} (m : Mi α) (k : α → Mi γ) (s : S) : bnd m k s = (match m s with | some (.ok v M) => k v ⟨s.l, M⟩ | some (.ex c f M) => some (.ex c f M) | none => none) := rfl
@[simp] theorem e_pur {γ : Type} (k : D → Mi γ) (d : D) (s : S) : pur k (.p d) s = k d s := rfl
@[simp] theorem e_ret (d : D) (s : S) : ret (some d) s = some (.ok (.p d) s.m) := rfl
@[simp] theorem e_bin (g : D → D → Option D) (m n : EM) (s : S) : mBin g m n s = (bnd m (pur fun d => bnd n (pur fun e => ret (g d e)))) s := rfl
@[simp] theorem e_un (g : D → Option D) (m : EM) (s : S) : mUn g m s = (bnd m (pur fun d => ret (g d))) s := rfl
@[simp] theorem e_dI (g : Int → Int → Option D) (i j : Int) : dI g (.int i) (.int j) = g i j := rfl
@[simp] theorem e_addI (i j : Int) : dAdd (.int i) (.int j) = some (.int (i + j)) := rfl
@[simp] theorem e_addS (x y : Str) : dAdd (.str x) (.str y) = if x.length + y.length ≤ 1000000 then some (.str (x ++ y)) else none := rfl
@[simp] theorem e_neg (i : Int) : dNeg (.int i) = some (.int (-i)) := rfl
@[simp] theorem e_isN (m : EM) (s : S) : mIsN m s = (bnd m fun d s => some (.ok (.p (.bl (isNV d))) s.m)) s := rfl
@[simp] theorem e_notN (m : EM) (s : S) : mNotN m s = (bnd m fun d s => some (.ok (.p (.bl (!isNV d))) s.m)) s := rfl
@[simp] theorem e_isNVo (n : Nat) : isNV (.o n) = false := rfl
@[simp] theorem e_isNV0 : isNV (.p .non) = true := rfl
@[simp] theorem e_isNV1 (i : Int) : isNV (.p (.int i)) = false := rfl
@[simp] theorem e_isNV2 (i : Str) : isNV (.p (.str i)) = false := rfl
@[simp] theorem e_isNV3 (i : List D) : isNV (.p (.tup i)) = false := rfl
@[simp] theorem e_isNV4 (i : List D) : isNV (.p (.lst i)) = false := rfl
@[simp] theorem e_isNV5 (i : Bool) : isNV (.p (.bl i)) = false := rfl
@[simp] theorem e_tru (m : EM) (s : S) : mTru m s = (bnd m fun d s => match truM s.m d with | some b => some (.ok (.p (.bl b)) s.m) | none => none) s := rfl
@[simp] theorem e_truB (M : List O) (b : Bool) : truM M (.p (.bl b)) = some b := rfl
@[simp] theorem e_ifMt {γ : Type} (n k : Mi γ) (s : S) : ifM n k (.p (.bl true)) s = n s := rfl
@[simp] theorem e_ifMf {γ : Type} (n k : Mi γ) (s : S) : ifM n k (.p (.bl false)) s = k s := rfl
@[simp] theorem e_fls (s : S) : fls s = some (.ok (.p (.bl false)) s.m) := rfl
@[simp] theorem e_trus (s : S) : tru s = some (.ok (.p (.bl true)) s.m) := rfl
@[simp] theorem e_and (m n : EM) (s : S) : mAnd m n s = (bnd m (ifM n fls)) s := rfl
@[simp] theorem e_or (m n : EM) (s : S) : mOr m n s = (bnd m (ifM tru n)) s := rfl
@[simp] theorem e_not (m : EM) (s : S) : mNot m s = (bnd m (ifM fls tru)) s := rfl
@[simp] theorem e_ifE (c m n : EM) (s : S) : mIf c m n s = (bnd c (ifM m n)) s := rfl
@[simp] theorem e_chain (g h : D → D → Option D) (m n k : EM) (s : S) : mChain g h m n k s = (bnd m (pur fun d => bnd n (pur fun e => bnd (ret (g d e)) (ifM (bnd k (pur fun f => ret (h e f))) fls)))) s := rfl
@[simp] theorem e_aNil (s : S) : aNil s = some (.ok [] s.m) := rfl
@[simp] theorem e_aCons (m : EM) (ms : AM) (s : S) : aCons m ms s = (bnd m fun d => bnd ms fun ds s => some (.ok (d :: ds) s.m)) s := rfl
@[simp] theorem e_allP0 : allP [] = some [] := rfl
@[simp] theorem e_allP1 (d : D) (r : List DV) : allP (.p d :: r) = (allP r).map (d :: ·) := rfl
@[simp] theorem e_allPm (xs : List D) : allP (xs.map .p) = some xs := by
  induction xs with
  | nil => rfl
  | cons x r ih => show (allP (r.map .p)).map _ = _; rw [ih]; rfl
@[simp] theorem e_disp (g : List D → D) (ms : AM) (s : S) : disp g ms s = (bnd ms fun ds s => match allP ds with | some xs => if xs.length ≤ 1000000 then some (.ok (.p (g xs)) s.m) else none | none => none) s := rfl
@[simp] theorem e_dispO (ms : AM) (s : S) : dispO ms s = (bnd ms fun ds s => if ds.length ≤ 1000000 then some (.ok (.o s.m.length) (s.m ++ [.lst ds])) else none) s := rfl
def ixK (d : DV) (i : D) : EM := fun s => match i with
  | .int i => (match ixM s.m d i with
    | some c => some (.ok c s.m)
    | none => none)
  | _ => none
@[simp] theorem e_ix (m n : EM) (s : S) : mIx m n s = (bnd m fun d => bnd n (pur (ixK d))) s := rfl
@[simp] theorem e_ixK (d : DV) (i : Int) (s : S) : ixK d (.int i) s = (match ixM s.m d i with | some c => some (.ok c s.m) | none => none) := rfl
@[simp] theorem e_ixp (M : List O) (d : D) (i : Int) : ixM M (.p d) i = (ixD d i).map .p := rfl
@[simp] theorem e_ixo (M : List O) (n : Nat) (i : Int) : ixM M (.o n) i = ixO M[n]? i := rfl
@[simp] theorem e_ixl (xs : List D) (i : Int) : ixD (.lst xs) i = atI xs i := rfl
@[simp] theorem e_ixt (xs : List D) (i : Int) : ixD (.tup xs) i = atI xs i := rfl
@[simp] theorem e_ixO (xs : List DV) (i : Int) : ixO (some (.lst xs)) i = atI xs i := rfl
@[simp] theorem e_cb (g : List O → List DV → Option D) (ms : AM) (s : S) : mCB g ms s = (bnd ms fun ds s => ret (g s.m ds) s) s := rfl
@[simp] theorem e_g1 (g : D → Option D) (M : List O) (d : D) : g1 g M [.p d] = g d := rfl
@[simp] theorem e_abs (i : Int) : dAbs (.int i) = some (.int (if i < 0 then -i else i)) := rfl
@[simp] theorem e_int (i : Int) : dInt (.int i) = some (.int i) := rfl
@[simp] theorem e_intb (b : Bool) : dInt (.bl b) = some (.int (if b then 1 else 0)) := rfl
@[simp] theorem e_len (M : List O) (d : DV) : dLen M [d] = Option.map (fun (n : Nat) => D.int (n : Int)) (lenM M d) := rfl
@[simp] theorem e_lenp (M : List O) (d : D) : lenM M (.p d) = lenD d := rfl
@[simp] theorem e_leno (M : List O) (n : Nat) : lenM M (.o n) = lenO M[n]? := rfl
@[simp] theorem e_lenl (xs : List D) : lenD (.lst xs) = some xs.length := rfl
@[simp] theorem e_lent (xs : List D) : lenD (.tup xs) = some xs.length := rfl
@[simp] theorem e_lens (y : Str) : lenD (.str y) = if y.length ≤ 1000000 then some y.length else none := rfl
@[simp] theorem e_lenO (xs : List DV) : lenO (some (.lst xs)) = some xs.length := rfl
@[simp] theorem e_callA (n : Nat) (f : MA) (ms : AM) (s : S) : mCallA n f ms s = (bnd ms fun ds s => if ds.length = n then match allP ds with
  | some xs => match f xs with
    | some (.ok d) => some (.ok (.p d) s.m)
    | some (.ex c fs) => some (.ex c fs s.m)
    | none => none
  | none => none else none) s := rfl
@[simp] theorem e_callB (n : Nat) (f : List DV → List O → Option (Rs DV)) (ms : AM) (s : S) : mCallB n f ms s = (bnd ms fun ds s => if ds.length = n then f ds s.m else none) s := rfl
theorem e_lift {α : Type} (m : Mi α) (k : α → SM) (s : S) : liftS m k s = (match m s with | some (.ok v M) => k v ⟨s.l, M⟩ | some (.ex c f M) => some (.ex c f, ⟨s.l, M⟩) | none => none) := rfl
@[simp] theorem e_nil (s : S) : sNil s = some (.nx, s) := rfl
theorem e_seq (a b : SM) (s : S) : sSeq a b s = (match a s with | some (.nx, s1) => b s1 | r => r) := rfl
@[simp] theorem e_expr (m : EM) (s : S) : sExpr m s = (liftS m fun _ s => some (.nx, s)) s := rfl
@[simp] theorem e_sret (m : EM) (s : S) : sRet m s = (liftS m fun d s => some (.rt d, s)) s := rfl
@[simp] theorem e_ifSt (n k : SM) (s : S) : ifS n k (.p (.bl true)) s = n s := rfl
@[simp] theorem e_ifSf (n k : SM) (s : S) : ifS n k (.p (.bl false)) s = k s := rfl
@[simp] theorem e_sif (c : EM) (m n : SM) (s : S) : sIf c m n s = (liftS c (ifS m n)) s := rfl
@[simp] theorem e_gN (i : Nat) (d : DV) (s : S) : gN i d s = some ⟨s.l.set i (some d), s.m⟩ := rfl
@[simp] theorem e_asg (m : EM) (g : GM) (s : S) : sAsg m g s = (liftS m fun d s => match g d s with | some s1 => some (.nx, s1) | none => none) s := rfl
@[simp] theorem e_par (i j : Nat) (ms : AM) (s : S) : sPar i j ms s = (liftS ms fun ds s => match ds with | [d, f] => some (.nx, ⟨(s.l.set i (some d)).set j (some f), s.m⟩) | _ => none) s := rfl
@[simp] theorem e_loop0 (g : GM) (b : SM) (s : S) : loopS g b [] s = some (.nx, s) := rfl
@[simp] theorem e_for (it : IM) (g : GM) (b : SM) (s : S) : sFor it g b s = (liftS it fun ds => loopS g b ds) s := rfl
@[simp] theorem e_frz (m : EM) (s : S) : mFrz m s = (bnd m fun d s => match d with
  | .p d => some (.ok (.p d) s.m)
  | .o n => match s.m[n]? with
    | some (.lst ds) => match allP ds with
      | some xs => some (.ok (.p (.lst xs)) (s.m.set n .gone))
      | none => none
    | _ => none) s := rfl
theorem e_runA (n : Nat) (m : SM) (ds : List D) : runA n m ds = (match m ⟨slotsOf n (ds.map .p), []⟩ with
  | some (.nx, _) => some (.ok .non)
  | some (.rt (.p d), _) => some (.ok d)
  | some (.ex c fs, _) => some (.ex c fs)
  | _ => none) := rfl
theorem e_runB (n : Nat) (m : SM) (ds : List DV) (M : List O) : runB n m ds M = (match m ⟨slotsOf n ds, M⟩ with
  | some (.nx, s) => some (.ok (.p .non) (dropM M.length (.p .non) s.m))
  | some (.rt d, s) => some (.ok d (dropM M.length d s.m))
  | some (.ex c fs, s) => some (.ex c fs (dropM M.length (.p .non) s.m))
  | _ => none) := rfl
@[simp] theorem e_slots (n : Nat) (ds : List DV) : slotsOf n ds = ds.map some ++ List.replicate (n - ds.length) none := rfl
@[simp] theorem e_pNone (s : S) : pNone s = some (.ok none s.m) := rfl
@[simp] theorem e_pSome (m : EM) (s : S) : pSome m s = (bnd m (pur fun d s => match d with | .int i => some (.ok (some i) s.m) | _ => none)) s := rfl
@[simp] theorem e_slE (m : EM) (l u : PM) (s : S) : mSlE m l u s = (bnd m (pur fun d => bnd l fun i => bnd u fun j => ret (slE d i j))) s := rfl
@[simp] theorem e_itD (g : D → Option (List DV)) (m : EM) (s : S) : mItD g m s = (bnd m (pur fun d s => match g d with | some ds => some (.ok ds s.m) | none => none)) s := rfl
@[simp] theorem e_itL (xs : List D) : itL (.lst xs) = some (xs.map .p) := rfl
@[simp] theorem e_itT (xs : List D) : itT (.tup xs) = some (xs.map .p) := rfl
@[simp] theorem e_rng (g : List DV → Option (List DV)) (ms : AM) (s : S) : mRng g ms s = (bnd ms fun ds s => match g ds with | some xs => some (.ok xs s.m) | none => none) s := rfl
@[simp] theorem e_rng1 (j : Int) : rng1D [.p (.int j)] = if rngOk j = true then some (intsFrom 0 j.toNat) else none := rfl
@[simp] theorem e_rng2 (i j : Int) : rng2D [.p (.int i), .p (.int j)] = if rngOk i = true then if rngOk j = true then some (intsFrom i (j - i).toNat) else none else none := rfl
@[simp] theorem e_mth (T : String) (g : MtG) (o : EM) (ms : AM) (s : S) : mMth T g o ms s = (bnd o fun d s => if tyOk T s.m d = true then bnd ms (fun ds => g d ds) s else none) s := rfl
@[simp] theorem e_lc (it : IM) (vs : List Nat) (g : GM) (t e : EM) (s : S) : mLc it vs g t e s = (bnd it fun ds s => match compL (wipeL s.l vs) g t e ds [] s.m with | some (acc, M) => some (.ok (.p (.lst acc)) M) | none => none) s := rfl
@[simp] theorem e_lcO (it : IM) (vs : List Nat) (g : GM) (t e : EM) (s : S) : mLcO it vs g t e s = (bnd it fun ds s => match compL (wipeL s.l vs) g t e ds [] s.m with | some (acc, M) => some (.ok (.o M.length) (M ++ [.lst (acc.map .p)])) | none => none) s := rfl
@[simp] theorem e_wipe0 (l : List (Option DV)) : wipeL l [] = l := rfl
@[simp] theorem e_wipe1 (l : List (Option DV)) (v : Nat) (vs : List Nat) : wipeL l (v :: vs) = (wipeL l vs).set v none := rfl
@[simp] theorem e_yes (s : S) : tYesM s = some (.ok (.p (.bl true)) s.m) := rfl
@[simp] theorem e_eqD (d e : D) : dEq d e = (eqD d e).map .bl := rfl
@[simp] theorem e_neD (d e : D) : dNe d e = (eqD d e).map fun b => .bl !b := rfl
@[simp] theorem e_eqII (i j : Int) : eqD (.int i) (.int j) = some (decide (i = j)) := by show some (i == j) = _; rw [Bool.beq_eq_decide_eq]
@[simp] theorem e_eqSS (i j : Str) : eqD (.str i) (.str j) = some (decide (i = j)) := by
  show some (i == j) = _
  by_cases h : i = j <;> simp [h]
@[simp] theorem e_eqBB (i j : Bool) : eqD (.bl i) (.bl j) = some (decide (i = j)) := by show some (i == j) = _; rw [Bool.beq_eq_decide_eq]
@[simp] theorem e_eqNI (j : Int) : eqD .non (.int j) = some false := rfl
@[simp] theorem e_eqIN (j : Int) : eqD (.int j) .non = some false := rfl
@[simp] theorem e_eqNN : eqD .non .non = some true := rfl
@[simp] theorem mul2L (i : Int) : mulOk 2 i = true := by unfold mulOk; simp
end DL
namespace DL
open PySem L2
/-! the drawn numbers -/
def stateB : SM := (sSeq (sAsg (mLcO (mItD itL (mSlE (mVar 0) pNone (pSome (mC (.int 63))))) [2] (gN 2) tYesM (mCB (g1 dAbs) (aCons (mVar 2) aNil))) (gN 1))
  (sSeq (sIf (mBin dEq (mCB dLen (aCons (mVar 1) aNil)) (mC (.int 0))) (sAsg (dispO (aCons (mC (.int 0)) aNil)) (gN 1)) sNil)
  (sRet (dispO (aCons (mC (.int 0)) (aCons (mVar 1) aNil))))))
def stateM : List DV → List O → Option (Rs DV) := runB 3 stateB
def takeB : SM := (sSeq (sIf (mBin dLt (mVar 1) (mC (.int 1))) (sRet (mC (.int 0))) sNil)
  (sSeq (sAsg (mIx (mVar 0) (mC (.int 1))) (gN 2))
  (sSeq (sAsg (mBin dMod (mIx (mVar 0) (mC (.int 0))) (mCB dLen (aCons (mVar 2) aNil))) (gN 3))
  (sSeq (sAsg (mIx (mVar 2) (mVar 3)) (gN 4))
  (sSeq (sIf (mBin dGe (mVar 4) (mC (.int 1000000000000000000))) (sSeq (sAsg (mBin dDiv (mVar 4) (mVar 1)) (gSet (mVar 2) (mVar 3)))
  (sRet (mBin dMod (mVar 4) (mVar 1)))) sNil)
  (sSeq (sAsg (mBin dAdd (mIx (mVar 0) (mC (.int 0))) (mC (.int 1))) (gSet (mVar 0) (mC (.int 0))))
  (sSeq (sAsg (mBin dMod (mCB (g1 dInt) (aCons (mBin dAdd (mBin dMul (mVar 4) (mC (.int 48271))) (mBin dMul (mIx (mVar 0) (mC (.int 0))) (mC (.int 69621)))) aNil)) (mC (.int 2147483647))) (gN 5))
  (sSeq (sAsg (mBin dMod (mCB (g1 dInt) (aCons (mBin dAdd (mBin dMul (mVar 5) (mC (.int 16807))) (mBin dMul (mIx (mVar 0) (mC (.int 0))) (mC (.int 7919)))) aNil)) (mC (.int 1000000007))) (gN 5))
  (sRet (mBin dMod (mBin dDiv (mVar 5) (mC (.int 7))) (mVar 1)))))))))))
def takeM : List DV → List O → Option (Rs DV) := runB 6 takeB
structure Dr (n : Nat) (sv : DV) (M : List O) : Prop where
  len : M.length = n
  cl : M.all (closed n) = true
  ex : ∃ (k c : Nat) (i : Int) (cells : List Int), sv = .o k ∧ M[k]? = some (.lst [.p (.int i), .o c]) ∧ M[c]? = some (.lst (cells.map fun z => .p (.int z))) ∧ k ≠ c ∧ 0 ≤ i ∧ cells ≠ [] ∧ ∀ z ∈ cells, 0 ≤ z
theorem dropM_len {k : Nat} {d : DV} {M : List O} (h : M.length = k) : dropM k d M = M := by
  unfold dropM
  rw [List.take_of_length_le (by omega)]
  split <;> rfl
theorem atI_nat' {α : Type} {xs : List α} {j : Int} {x : α} (h0 : 0 ≤ j) (h : xs[j.toNat]? = some x) : atI xs j = some x := by
  have hl := (List.getElem?_eq_some_iff.mp h).1
  unfold atI ixN
  rw [if_pos h0, if_pos (by omega)]
  exact h
theorem ixN_nat {n : Nat} {j : Int} (h0 : 0 ≤ j) (h : j < n) : ixN n j = some j.toNat := by
  unfold ixN
  rw [if_pos h0, if_pos h]
theorem atI0 {α : Type} (x : α) (xs : List α) : atI (x :: xs) 0 = some x := atI_nat' (by decide) rfl
theorem atI1 {α : Type} (x y : α) (xs : List α) : atI (x :: y :: xs) 1 = some y := atI_nat' (by decide) rfl
theorem all_set {p : O → Bool} {M : List O} {o : O} (h : M.all p = true) (ho : p o = true) (n : Nat) : (M.set n o).all p = true := by
  rw [List.all_eq_true] at h ⊢
  intro x hx
  rcases List.mem_or_eq_of_mem_set hx with h1 | h1
  · exact h x h1
  · rw [h1]; exact ho
theorem closed_ints (n : Nat) (cells : List Int) : closed n (.lst (cells.map fun z => .p (.int z))) = true := by
  show (cells.map fun z => DV.p (.int z)).all (ltO n) = true
  rw [List.all_map]
  exact List.all_eq_true.mpr fun _ _ => rfl
theorem get_map {cells : List Int} {j : Nat} (h : j < cells.length) : (cells.map fun z => DV.p (.int z))[j]? = some (.p (.int cells[j])) := by
  rw [List.getElem?_map, List.getElem?_eq_getElem h]; rfl
theorem e_set (o i : EM) (d : DV) (s : S) : gSet o i d s = (match bnd o (fun x => bnd i (pur (gSetK d x))) s with | some (.ok _ M) => some ⟨s.l, M⟩ | _ => none) := rfl
theorem e_setK (d : DV) (n : Nat) (j : Int) (s : S) : gSetK d (.o n) (.int j) s = (match setL s.m n j d with | some M => some (.ok (.p .non) M) | none => none) := rfl
theorem setL_ok {M : List O} {n : Nat} {ds : List DV} {j : Int} {d : DV} (h : M[n]? = some (.lst ds)) (h0 : 0 ≤ j) (h1 : j < ds.length) : setL M n j d = some (M.set n (.lst (ds.set j.toNat d))) := by
  unfold setL
  rw [h]
  show (match ixN ds.length j with | some j => some (M.set n (.lst (ds.set j d))) | none => none) = _
  rw [ixN_nat h0 h1]
theorem mulOkR (i j : Int) (h : -18446744073709551616 < j) (h' : j < 18446744073709551616) : mulOk i j = true := by
  unfold mulOk
  have e : (2 : Int) ^ 64 = 18446744073709551616 := by decide
  simp only [e, Bool.or_eq_true, decide_eq_true_eq]
  exact .inr ⟨h, h'⟩
theorem take_spec {n : Nat} {sv : DV} {M : List O} (h : Dr n sv M) (most : Int) (hm : most < 18446744073709551616) : ∃ r M', takeM [sv, .p (.int most)] M = some (.ok (.p (.int r)) M') ∧ Dr n sv M' ∧ (most < 1 → r = 0) ∧ (1 ≤ most → 0 ≤ r ∧ r < most) := by
  obtain ⟨k, c, i, cells, rfl, hk, hc, kc, hi, ne, nn⟩ := h.ex
  by_cases h1 : most < 1
  · refine ⟨0, M, ?_, h, fun _ => rfl, fun h2 => by omega⟩
    simp [e_bnd, e_seq, e_lift, e_runA, e_runB, takeM, takeB, h1, dropM_len h.len, h.len]
  · have hl : 0 < cells.length := List.length_pos_iff.mpr ne
    have hl' : (0 : Int) < (cells.length : Int) := by omega
    have a0 : 0 ≤ i % (cells.length : Int) := Int.emod_nonneg _ (by omega)
    have a1 : i % (cells.length : Int) < (cells.length : Int) := Int.emod_lt_of_pos _ hl'
    have aN : (i % (cells.length : Int)).toNat < cells.length := by omega
    have hg := atI_nat' (xs := cells.map fun z => DV.p (.int z)) a0 (get_map aN)
    have cn : 0 ≤ cells[(i % (cells.length : Int)).toNat] := nn _ (List.getElem_mem aN)
    generalize hz : cells[(i % (cells.length : Int)).toNat] = z at hg cn
    have m0 : 0 < most := by omega
    by_cases h2 : 1000000000000000000 ≤ z
    · refine ⟨z % most, M.set c (.lst ((cells.set (i % (cells.length : Int)).toNat (z / most)).map fun z => .p (.int z))), ?_, ⟨by rw [List.length_set]; exact h.len, all_set h.cl (closed_ints n _) c, k, c, i, _, rfl, by rw [List.getElem?_set_ne kc.symm]; exact hk, by rw [List.getElem?_set_self (List.getElem?_eq_some_iff.mp hc).1], kc, hi, ?_, ?_⟩, fun h3 => absurd h3 h1, fun _ => ⟨Int.emod_nonneg _ (by omega), Int.emod_lt_of_pos _ m0⟩⟩
      · have hs := setL_ok (M := M) (n := c) (d := .p (.int (z / most))) hc a0 (by rw [List.length_map]; exact a1)
        simp [e_bnd, e_seq, e_lift, e_runA, e_runB, takeM, takeB, h1, hk, hc, atI0, atI1, hl, hl', hg, h2, e_set, e_setK, m0, hm, hs, h.len, dropM_len]
      · simpa using ne
      · intro y hy
        rcases List.mem_or_eq_of_mem_set hy with q | q
        · exact nn y q
        · rw [q]; exact Int.ediv_nonneg cn (by omega)
    · have hs := setL_ok (M := M) (n := k) (d := .p (.int (i + 1))) (j := 0) hk (by decide) (by simp)
      have hk' : (M.set k (.lst [DV.p (.int (i + 1)), .o c]))[k]? = some (.lst [.p (.int (i + 1)), .o c]) := by
        rw [List.getElem?_set_self (List.getElem?_eq_some_iff.mp hk).1]
      refine ⟨((((z * 48271 + (i + 1) * 69621) % 2147483647) * 16807 + (i + 1) * 7919) % 1000000007) / 7 % most, M.set k (.lst [.p (.int (i + 1)), .o c]), ?_, ⟨by rw [List.length_set]; exact h.len, all_set h.cl ?_ k, k, c, i + 1, cells, rfl, hk', by rw [List.getElem?_set_ne kc]; exact hc, kc, by omega, ne, nn⟩, fun h3 => absurd h3 h1, fun _ => ⟨Int.emod_nonneg _ (by omega), Int.emod_lt_of_pos _ m0⟩⟩
      · simp [e_bnd, e_seq, e_lift, e_runA, e_runB, takeM, takeB, h1, hk, hc, atI0, atI1, hl, hl', hg, h2, e_set, e_setK, m0, hm, hs, hk', h.len, dropM_len, mulOkR]
      · have := List.all_eq_true.mp h.cl _ (List.mem_of_getElem? hk)
        exact this
end DL
namespace DL
open PySem L2
theorem compL_fm {l : List (Option DV)} {g : GM} {t e : EM} {p : DV → Bool} {f : DV → D} {M : List O} : ∀ (ds : List DV) (acc : List D),
    (∀ d ∈ ds, ∃ s1 : S, g d ⟨l, M⟩ = some s1 ∧ t s1 = some (.ok (.p (.bl (p d))) M) ∧ (p d = true → e ⟨s1.l, M⟩ = some (.ok (.p (f d)) M))) → acc.length + ds.length ≤ 1000000 →
    compL l g t e ds acc M = some (acc ++ (ds.filter p).map f, M)
  | [], acc, _, _ => by simp [compL]
  | d :: ds, acc, h, hl => by
    obtain ⟨s1, h1, h2, h3⟩ := h d (by simp)
    have hl' : acc.length + (ds.length + 1) ≤ 1000000 := hl
    unfold compL
    rw [h1]
    dsimp only
    rw [h2]
    cases hp : p d with
    | true =>
      dsimp only
      rw [h3 hp]
      dsimp only
      rw [if_pos (by omega), compL_fm ds (acc ++ [f d]) (fun x hx => h x (by simp [hx])) (by simp; omega)]
      simp [hp]
    | false =>
      dsimp only
      rw [compL_fm ds acc (fun x hx => h x (by simp [hx])) (by omega)]
      simp [hp]
theorem compL_map {l : List (Option DV)} {g : GM} {t e : EM} {f : DV → D} {M : List O} (ds : List DV)
    (h : ∀ d ∈ ds, ∃ s1 : S, g d ⟨l, M⟩ = some s1 ∧ t s1 = some (.ok (.p (.bl true)) M) ∧ e ⟨s1.l, M⟩ = some (.ok (.p (f d)) M)) (hl : ds.length ≤ 1000000) : compL l g t e ds [] M = some (ds.map f, M) := by
  have q := compL_fm (p := fun _ => true) (f := f) ds [] (l := l) (g := g) (t := t) (e := e) (M := M) (fun d hd => by
    obtain ⟨s1, h1, h2, h3⟩ := h d hd
    exact ⟨s1, h1, h2, fun _ => h3⟩) (by simpa using hl)
  rw [q, List.filter_eq_self.mpr (fun _ _ => rfl)]
  rfl
theorem cut63 {α : Type} (xs : List α) (h : xs.length ≤ 63) : cutD xs none (some 63) = xs := by
  unfold cutD
  rw [HT.sIx_none, show (63 : Int) = ((63 : Nat) : Int) from rfl, HT.sIx_nat, List.drop_zero]
  exact List.take_of_length_le (by omega)
def iabs (i : Int) : Int := if i < 0 then -i else i
theorem ints0 (lo : Int) : DL.intsFrom lo 0 = [] := rfl
theorem intsS (lo : Int) (n : Nat) : DL.intsFrom lo (n + 1) = .p (.int lo) :: DL.intsFrom (lo + 1) n := by
  unfold DL.intsFrom
  rw [List.range_succ_eq_map, List.map_cons, List.map_map]
  have e : lo + ((0 : Nat) : Int) = lo := by omega
  rw [e]
  congr 1
  refine List.map_congr_left fun i _ => ?_
  show DV.p (.int (lo + ((i + 1 : Nat) : Int))) = DV.p (.int (lo + 1 + (i : Int)))
  congr 2; omega
theorem loopS_cons {g : GM} {b : SM} {d : DV} {ds : List DV} {s : S} : loopS g b (d :: ds) s = (match g d s with
    | none => none
    | some s1 => match b s1 with
      | none => none
      | some (.nx, s2) => loopS g b ds s2
      | some (.ct, s2) => loopS g b ds s2
      | some (.bk, s2) => some (.nx, s2)
      | some (.rt v, s2) => some (.rt v, s2)
      | some (.ex c f, s2) => some (.ex c f, s2)) := rfl
end DL
namespace DL
open PySem L2
/-! going through a mirror step by step -/
def wpB {α : Type} (o : Option (Rs α)) (P : α → List O → Prop) : Prop := ∃ v M, o = some (.ok v M) ∧ P v M
def noX : Fl → Bool
  | .ex _ _ => false
  | _ => true
def wpS (o : Option (Fl × S)) (P : Fl → S → Prop) : Prop := ∃ f s, o = some (f, s) ∧ noX f = true ∧ P f s
def wpA (o : Option RD) (P : D → Prop) : Prop := ∃ d, o = some (.ok d) ∧ P d
@[simp] theorem w_ok {α : Type} (v : α) (M : List O) (P : α → List O → Prop) : wpB (some (.ok v M)) P ↔ P v M := ⟨fun ⟨_, _, e, h⟩ => by cases e; exact h, fun h => ⟨_, _, rfl, h⟩⟩
@[simp] theorem w_no {α : Type} (P : α → List O → Prop) : wpB none P ↔ False := ⟨fun ⟨_, _, e, h⟩ => (by cases e), fun h => False.elim h⟩
@[simp] theorem w_bnd {α γ : Type} (m : Mi α) (k : α → Mi γ) (s : S) (P : γ → List O → Prop) : wpB (bnd m k s) P ↔ wpB (m s) fun v M => wpB (k v ⟨s.l, M⟩) P := by
  constructor
  · rintro ⟨v, M, e, h⟩
    unfold bnd at e
    cases q : m s with
    | none => rw [q] at e; cases e
    | some r =>
      rw [q] at e
      cases r with
      | ok a M1 => exact ⟨a, M1, rfl, v, M, e, h⟩
      | ex c f M1 => cases e
  · rintro ⟨a, M1, e, v, M, e2, h⟩
    exact ⟨v, M, by unfold bnd; rw [e]; exact e2, h⟩
@[simp] theorem w_sok (f : Fl) (s : S) (P : Fl → S → Prop) : wpS (some (f, s)) P ↔ noX f = true ∧ P f s := ⟨fun ⟨_, _, e, h⟩ => by cases e; exact h, fun h => ⟨_, _, rfl, h⟩⟩
@[simp] theorem w_sno (P : Fl → S → Prop) : wpS none P ↔ False := ⟨fun ⟨_, _, e, h⟩ => (by cases e), fun h => False.elim h⟩
@[simp] theorem noX1 : noX .nx = true := rfl
@[simp] theorem noX2 (v : DV) : noX (.rt v) = true := rfl
@[simp] theorem noX3 : noX .bk = true := rfl
@[simp] theorem noX4 : noX .ct = true := rfl
/-- what follows a statement -/
def andS (b : SM) (P : Fl → S → Prop) : Fl → S → Prop
  | .nx, s => wpS (b s) P
  | f, s => P f s
@[simp] theorem w_andN (b : SM) (P : Fl → S → Prop) (s : S) : andS b P .nx s = wpS (b s) P := rfl
@[simp] theorem w_andR (b : SM) (P : Fl → S → Prop) (v : DV) (s : S) : andS b P (.rt v) s = P (.rt v) s := rfl
@[simp] theorem w_seq (a b : SM) (s : S) (P : Fl → S → Prop) : wpS (sSeq a b s) P ↔ wpS (a s) (andS b P) := by
  constructor
  · rintro ⟨f, s', e, n, h⟩
    unfold sSeq at e
    cases q : a s with
    | none => rw [q] at e; cases e
    | some r =>
      rw [q] at e
      obtain ⟨f1, s1⟩ := r
      refine ⟨f1, s1, rfl, ?_⟩
      cases f1 with
      | nx => exact ⟨rfl, f, s', e, n, h⟩
      | _ => cases e; exact ⟨n, h⟩
  · rintro ⟨f1, s1, e, n, h⟩
    cases f1 with
    | nx =>
      obtain ⟨f, s', e2, n, h⟩ := h
      exact ⟨f, s', by unfold sSeq; rw [e]; exact e2, n, h⟩
    | _ => exact ⟨_, s1, by unfold sSeq; rw [e], n, h⟩
@[simp] theorem w_lift {α : Type} (m : Mi α) (k : α → SM) (s : S) (P : Fl → S → Prop) : wpS (liftS m k s) P ↔ wpB (m s) fun v M => wpS (k v ⟨s.l, M⟩) P := by
  constructor
  · rintro ⟨f, s', e, n, h⟩
    unfold liftS at e
    cases q : m s with
    | none => rw [q] at e; cases e
    | some r =>
      rw [q] at e
      cases r with
      | ok a M1 => exact ⟨a, M1, rfl, f, s', e, n, h⟩
      | ex c f M1 => cases e; cases n
  · rintro ⟨a, M1, e, f, s', e2, n, h⟩
    exact ⟨f, s', by unfold liftS; rw [e]; exact e2, n, h⟩
def endB (k : Nat) (P : DV → List O → Prop) : Fl → S → Prop
  | .nx, s => P (.p .non) (dropM k (.p .non) s.m)
  | .rt d, s => P d (dropM k d s.m)
  | _, _ => False
@[simp] theorem w_endBn (k : Nat) (P : DV → List O → Prop) (s : S) : endB k P .nx s = P (.p .non) (dropM k (.p .non) s.m) := rfl
@[simp] theorem w_endBr (k : Nat) (P : DV → List O → Prop) (d : DV) (s : S) : endB k P (.rt d) s = P d (dropM k d s.m) := rfl
@[simp] theorem w_runB (n : Nat) (m : SM) (ds : List DV) (M : List O) (P : DV → List O → Prop) : wpB (runB n m ds M) P ↔ wpS (m ⟨slotsOf n ds, M⟩) (endB M.length P) := by
  constructor
  · rintro ⟨v, M1, e, h⟩
    rw [e_runB] at e
    cases q : m ⟨slotsOf n ds, M⟩ with
    | none => rw [q] at e; cases e
    | some r =>
      rw [q] at e
      obtain ⟨f1, s1⟩ := r
      cases f1 with
      | nx => cases e; exact ⟨_, _, rfl, rfl, h⟩
      | rt d => cases e; exact ⟨_, _, rfl, rfl, h⟩
      | _ => cases e
  · rintro ⟨f1, s1, e, n, h⟩
    cases f1 with
    | nx => exact ⟨_, _, by rw [e_runB, e], h⟩
    | rt d => exact ⟨_, _, by rw [e_runB, e], h⟩
    | _ => exact False.elim h
def endA (P : D → Prop) : Fl → S → Prop
  | .nx, s => P .non
  | .rt (.p d), s => P d
  | _, _ => False
@[simp] theorem w_endAn (P : D → Prop) (s : S) : endA P .nx s = P .non := rfl
@[simp] theorem w_endAr (P : D → Prop) (d : D) (s : S) : endA P (.rt (.p d)) s = P d := rfl
@[simp] theorem w_runA (n : Nat) (m : SM) (ds : List D) (P : D → Prop) : wpA (runA n m ds) P ↔ wpS (m ⟨slotsOf n (ds.map .p), []⟩) (endA P) := by
  constructor
  · rintro ⟨v, e, h⟩
    rw [e_runA] at e
    cases q : m ⟨slotsOf n (ds.map .p), []⟩ with
    | none => rw [q] at e; cases e
    | some r =>
      rw [q] at e
      obtain ⟨f1, s1⟩ := r
      cases f1 with
      | nx => cases e; exact ⟨_, _, rfl, rfl, h⟩
      | rt d =>
        cases d with
        | p d => cases e; exact ⟨_, _, rfl, rfl, h⟩
        | o n => cases e
      | _ => cases e
  · rintro ⟨f1, s1, e, n, h⟩
    cases f1 with
    | nx => exact ⟨_, by rw [e_runA, e], h⟩
    | rt d =>
      cases d with
      | p d => exact ⟨_, by rw [e_runA, e], h⟩
      | o n => exact False.elim h
    | _ => exact False.elim h
@[simp] theorem w_ifM {γ : Type} (n k : Mi γ) (b : Bool) (s : S) (P : γ → List O → Prop) : wpB (ifM n k (.p (.bl b)) s) P ↔ (b = true → wpB (n s) P) ∧ (b = false → wpB (k s) P) := by
  cases b
  · exact ⟨fun h => ⟨fun q => (by cases q), fun _ => h⟩, fun h => h.2 rfl⟩
  · exact ⟨fun h => ⟨fun _ => h, fun q => (by cases q)⟩, fun h => h.1 rfl⟩
@[simp] theorem w_ifS (n k : SM) (b : Bool) (s : S) (P : Fl → S → Prop) : wpS (ifS n k (.p (.bl b)) s) P ↔ (b = true → wpS (n s) P) ∧ (b = false → wpS (k s) P) := by
  cases b
  · exact ⟨fun h => ⟨fun q => (by cases q), fun _ => h⟩, fun h => h.2 rfl⟩
  · exact ⟨fun h => ⟨fun _ => h, fun q => (by cases q)⟩, fun h => h.1 rfl⟩
@[simp] theorem w_okA (d : D) (P : D → Prop) : wpA (some (.ok d)) P ↔ P d := ⟨fun ⟨_, e, h⟩ => by cases e; exact h, fun h => ⟨_, rfl, h⟩⟩
theorem wpB.imp {α : Type} {o : Option (Rs α)} {P Q : α → List O → Prop} (h : wpB o P) (k : ∀ v M, P v M → Q v M) : wpB o Q := by
  obtain ⟨v, M, e, p⟩ := h
  exact ⟨v, M, e, k v M p⟩
theorem wpA.imp {o : Option RD} {P Q : D → Prop} (h : wpA o P) (k : ∀ v, P v → Q v) : wpA o Q := by
  obtain ⟨v, e, p⟩ := h
  exact ⟨v, e, k v p⟩
theorem wpA.eq {o : Option RD} {d : D} (h : wpA o (· = d)) : o = some (.ok d) := by
  obtain ⟨v, e, p⟩ := h
  rw [e, p]
/-- a drawn number -/
theorem wp_take {n : Nat} {sv : DV} {M : List O} {most : Int} {P : DV → List O → Prop} (h : Dr n sv M) (hm : most < 18446744073709551616) (k : ∀ r M', Dr n sv M' → (most < 1 → r = 0) → (1 ≤ most → 0 ≤ r ∧ r < most) → P (.p (.int r)) M') : wpB (takeM [sv, .p (.int most)] M) P := by
  obtain ⟨r, M', e, d, b0, b⟩ := take_spec h most hm
  exact ⟨_, _, e, k r M' d b0 b⟩
end DL
namespace DL
open PySem L2
/-! texts that are written; comparing tuples -/
theorem char_inj {a b : Char} (h : a.toNat = b.toNat) : a = b := Char.toNat_inj.mp h
theorem map_toNat_inj : ∀ {a b : List Char}, a.map Char.toNat = b.map Char.toNat → a = b
  | [], [], _ => rfl
  | [], _ :: _, h => by cases h
  | _ :: _, [], h => by cases h
  | x :: a, y :: b, h => by
    injection h with h1 h2
    rw [char_inj h1, map_toNat_inj h2]
@[simp] theorem ofString_inj (a b : String) : (Str.ofString a = Str.ofString b) ↔ a = b := by
  constructor
  · intro h
    rw [Str.ofString_eq_toList, Str.ofString_eq_toList] at h
    injection h with h
    have h2 := congrArg Array.toList h
    exact String.toList_inj.mp (map_toNat_inj h2)
  · intro h; rw [h]
@[simp] theorem strOk_of (s : String) : PyData.strOk (Str.ofString s) = true := by
  rw [Str.ofString_eq_toList]
  unfold PyData.strOk
  rw [Array.all_eq_true]
  intro i hi
  simp
  have h := (s.toList[i]'(by simpa using hi)).valid
  rcases h with h | h
  · exact Nat.lt_of_lt_of_le h (by decide)
  · exact h.2
@[simp] theorem e_okN : okD .non = true := rfl
@[simp] theorem e_okI (i : Int) : okD (.int i) = true := rfl
@[simp] theorem e_okB (i : Bool) : okD (.bl i) = true := rfl
@[simp] theorem e_okS (i : Str) : okD (.str i) = PyData.strOk i := rfl
@[simp] theorem e_okL (i : List D) : okD (.lst i) = okDs i := rfl
@[simp] theorem e_okT (i : List D) : okD (.tup i) = okDs i := rfl
@[simp] theorem e_ok0 : okDs [] = true := rfl
@[simp] theorem e_ok1 (x : D) (r : List D) : okDs (x :: r) = (okD x && okDs r) := rfl
@[simp] theorem e_dpN : depD .non = 0 := rfl
@[simp] theorem e_dpI (i : Int) : depD (.int i) = 0 := rfl
@[simp] theorem e_dpB (i : Bool) : depD (.bl i) = 0 := rfl
@[simp] theorem e_dpS (i : Str) : depD (.str i) = 0 := rfl
@[simp] theorem e_dpL (i : List D) : depD (.lst i) = depDs i + 1 := rfl
@[simp] theorem e_dpT (i : List D) : depD (.tup i) = depDs i + 1 := rfl
@[simp] theorem e_dp0 : depDs [] = 0 := rfl
@[simp] theorem e_dp1 (x : D) (r : List D) : depDs (x :: r) = max (depD x) (depDs r) := rfl
@[simp] theorem e_shp (d : D) : shp d = (okD d && decide (depD d ≤ 64)) := rfl
@[simp] theorem e_eqTT (xs ys : List D) : eqD (.tup xs) (.tup ys) = if (shp (.tup xs) && shp (.tup ys)) = true then some (deqs xs ys) else none := rfl
@[simp] theorem e_eqLL (xs ys : List D) : eqD (.lst xs) (.lst ys) = if (shp (.lst xs) && shp (.lst ys)) = true then some (deqs xs ys) else none := rfl
@[simp] theorem e_eqTN (xs : List D) : eqD (.tup xs) .non = if (shp (.tup xs) && shp .non) = true then some false else none := rfl
@[simp] theorem e_eqNT (xs : List D) : eqD .non (.tup xs) = if (shp .non && shp (.tup xs)) = true then some false else none := rfl
@[simp] theorem e_deqII (i j : Int) : deq (.int i) (.int j) = decide (i = j) := by show (i == j) = _; rw [Bool.beq_eq_decide_eq]
@[simp] theorem e_deqSS (i j : Str) : deq (.str i) (.str j) = decide (i = j) := by
  show (i == j) = _
  by_cases h : i = j <;> simp [h]
@[simp] theorem e_deqBB (i j : Bool) : deq (.bl i) (.bl j) = decide (i = j) := by show (i == j) = _; rw [Bool.beq_eq_decide_eq]
@[simp] theorem e_deqNN : deq .non .non = true := rfl
@[simp] theorem e_deqTT (i j : List D) : deq (.tup i) (.tup j) = deqs i j := rfl
@[simp] theorem e_deqLL (i j : List D) : deq (.lst i) (.lst j) = deqs i j := rfl
@[simp] theorem e_deqIS (i : Int) (j : Str) : deq (.int i) (.str j) = false := rfl
@[simp] theorem e_deqSI (i : Int) (j : Str) : deq (.str j) (.int i) = false := rfl
@[simp] theorem e_deqNI (i : Int) : deq .non (.int i) = false := rfl
@[simp] theorem e_deqIN (i : Int) : deq (.int i) .non = false := rfl
@[simp] theorem e_deqNS (i : Str) : deq .non (.str i) = false := rfl
@[simp] theorem e_deqSN (i : Str) : deq (.str i) .non = false := rfl
@[simp] theorem e_deqNT (i : List D) : deq .non (.tup i) = false := rfl
@[simp] theorem e_deqTN (i : List D) : deq (.tup i) .non = false := rfl
@[simp] theorem e_deqs0 : deqs [] [] = true := rfl
@[simp] theorem e_deqs1 (x y : D) (xs ys : List D) : deqs (x :: xs) (y :: ys) = (deq x y && deqs xs ys) := rfl
@[simp] theorem e_deqs2 (x : D) (xs : List D) : deqs (x :: xs) [] = false := rfl
@[simp] theorem e_deqs3 (x : D) (xs : List D) : deqs [] (x :: xs) = false := rfl
@[simp] theorem e_isi (M : List O) (d : D) (n : String) : dIsi M [.p d, .p (.ty n)] = (match tyName d with | some t => (kitB t n).map .bl | none => none) := rfl
@[simp] theorem e_tyT (xs : List D) : tyName (.tup xs) = some "tuple" := rfl
@[simp] theorem kit_tt : kitB "tuple" "tuple" = some true := by decide +kernel
@[simp] theorem at0 {α : Type} (x : α) (xs : List α) : atI (x :: xs) 0 = some x := atI0 x xs
@[simp] theorem at1 {α : Type} (x y : α) (xs : List α) : atI (x :: y :: xs) 1 = some y := atI1 x y xs
end DL
namespace DL
open PySem L2
section
variable {K : PySem.W.Frag} {X : Cx} {W : WX} {e a b c : Expr} {es : List Expr} {pos : Pos}
/-! ### built-in calls on texts -/
def dStr : D → Option D
  | .int i => if i.natAbs.log2 < 1920 then some (.str (Str.ofString (toString i))) else none
  | .str x => some (.str x)
  | _ => none
def dIntS : D → Option D
  | .str x => if x.length ≤ 640 then (PySem.intText? x).map .int else none
  | _ => none
def allBl : List D → Option (List Bool)
  | [] => some []
  | .bl b :: r => (allBl r).map (b :: ·)
  | _ :: _ => none
def dAll : D → Option D
  | .lst ds => (allBl ds).map fun bs => .bl (bs.all id)
  | _ => none
def dMax2 : List O → List DV → Option D
  | _, [.p (.int i), .p (.int j)] => some (.int (if j > i then j else i))
  | _, _ => none
def dMin2 : List O → List DV → Option D
  | _, [.p (.int i), .p (.int j)] => some (.int (if j < i then j else i))
  | _, _ => none
theorem cd_max2 (hc : X.calm = true) : CallD K X (.builtin "max") (fun xs H Q => ∃ i j, xs = [.int i, .int j] ∧ Q (.int (if j > i then j else i)) H) dMax2 := ⟨fun _ => call_max2 hc, fun vs ds c Z H I M Q w rv hg p => by
  unfold dMax2 at hg
  split at hg
  · cases rv with
    | cons h1 h2 =>
    cases h2 with
    | cons h2 h3 =>
    cases h3; cases h1; cases h2; cases hg
    exact ⟨_, _, rfl, p _ Z H (ExtP.refl w.sub) (.int _)⟩
  · cases hg⟩
theorem cd_min2 (hc : X.calm = true) : CallD K X (.builtin "min") (fun xs H Q => ∃ i j, xs = [.int i, .int j] ∧ Q (.int (if j < i then j else i)) H) dMin2 := ⟨fun _ => call_min2 hc, fun vs ds c Z H I M Q w rv hg p => by
  unfold dMin2 at hg
  split at hg
  · cases rv with
    | cons h1 h2 =>
    cases h2 with
    | cons h2 h3 =>
    cases h3; cases h1; cases h2; cases hg
    exact ⟨_, _, rfl, p _ Z H (ExtP.refl w.sub) (.int _)⟩
  · cases hg⟩
/-! ### in, not in -/
theorem units65 {k : Nat} {A : Around} (r : Room k A) : A.units + 65 < cLine := by have := r.un; omega
def inS (i j : Str) : Bool := !(Builtin.Str.occurrences j i 0 j.length 1).isEmpty
def inD : D → D → Option Bool
  | .str i, .str j => some (inS i j)
  | d, .lst ds => if (shp d && shp (.lst ds)) = true then some (ds.any fun z => deq z d) else none
  | d, .klst ds => if (shp d && shp (.klst ds)) = true then some (ds.any fun z => deq z d) else none
  | d, .tup ds => if (shp d && shp (.tup ds)) = true then some (ds.any fun z => deq z d) else none
  | d, .ktup ds => if (shp d && shp (.ktup ds)) = true then some (ds.any fun z => deq z d) else none
  | _, _ => none
def dIn (d e : D) : Option D := (inD d e).map .bl
def dNin (d e : D) : Option D := (inD d e).map fun b => .bl !b
theorem bool_dIn : boolD dIn := fun d e c h => boolMap (f := id) h
theorem bool_dNin : boolD dNin := fun d e c h => boolMap h
theorem any_eqv (d : D) : ∀ ds : List D, ((toPs ds).any fun z => PyData.eqv z (toP d)) = ds.any fun z => deq z d
  | [] => rfl
  | x :: xs => by
    show (PyData.eqv (toP x) (toP d) || _) = (deq x d || _)
    rw [deq_eqv x d]
    exact congrArg _ (any_eqv d xs)
theorem in_cases {d e : D} {b : Bool} (h : inD d e = some b) : (∃ i j, d = .str i ∧ e = .str j ∧ b = inS i j) ∨ ∃ ds, (e = .lst ds ∨ e = .klst ds ∨ e = .tup ds ∨ e = .ktup ds) ∧ shp d = true ∧ shp e = true ∧ b = ds.any fun z => deq z d := by
  unfold inD at h
  split at h
  · cases h; exact .inl ⟨_, _, rfl, rfl, rfl⟩
  · split at h
    · rename_i hs
      cases h
      rw [Bool.and_eq_true] at hs
      exact .inr ⟨_, .inl rfl, hs.1, hs.2, rfl⟩
    · cases h
  · split at h
    · rename_i hs
      cases h
      rw [Bool.and_eq_true] at hs
      exact .inr ⟨_, .inr (.inl rfl), hs.1, hs.2, rfl⟩
    · cases h
  · split at h
    · rename_i hs
      cases h
      rw [Bool.and_eq_true] at hs
      exact .inr ⟨_, .inr (.inr (.inl rfl)), hs.1, hs.2, rfl⟩
    · cases h
  · split at h
    · rename_i hs
      cases h
      rw [Bool.and_eq_true] at hs
      exact .inr ⟨_, .inr (.inr (.inr rfl)), hs.1, hs.2, rfl⟩
    · cases h
  · cases h
/-- x in a list or a tuple of data -/
def rInD2 (K : PySem.W.Frag) (neg : Bool) : R2 := fun x y H Q => ∃ d e ds, Dp K H x d ∧ Dp K H y e ∧ SeqAt.shaped d = true ∧ SeqAt.shaped e = true ∧ (e = .list ds ∨ e = .tuple ds) ∧ Q (.bl (if neg then !(ds.any fun z => PyData.eqv z d) else ds.any fun z => PyData.eqv z d)) H
theorem op_inD2 (hu : X.A.units + 65 < cLine) : OpR X (compareOp .In) (rInD2 X.K false) := by
  intro pins s σ H x y v u Q I rx ry h
  obtain ⟨d, e, ds, hd, he, sd, se, hl, q⟩ := h
  obtain ⟨as, r1⟩ := Dp.reads I d x v hd rx
  obtain ⟨bs, r2⟩ := Dp.reads I e y u he ry
  rcases hl with rfl | rfl
  · exact SeqAt.in_list_reads r2 r1 (SeqAt.canLay_of_shaped se) (SeqAt.canLay_of_shaped sd) (PyProof.Rows.room_in_shaped sd hu) ⟨.bl _, H, I, rfl, q⟩
  · exact SeqAt.in_tuple_reads r2 r1 (SeqAt.canLay_of_shaped se) (SeqAt.canLay_of_shaped sd) (PyProof.Rows.room_in_shaped sd hu) ⟨.bl _, H, I, rfl, q⟩
theorem op_ninD2 (hu : X.A.units + 65 < cLine) : OpR X (compareOp .NotIn) (rInD2 X.K true) := by
  intro pins s σ H x y v u Q I rx ry h
  obtain ⟨d, e, ds, hd, he, sd, se, hl, q⟩ := h
  obtain ⟨as, r1⟩ := Dp.reads I d x v hd rx
  obtain ⟨bs, r2⟩ := Dp.reads I e y u he ry
  rcases hl with rfl | rfl
  · exact SeqAt.notIn_list_reads r2 r1 (SeqAt.canLay_of_shaped se) (SeqAt.canLay_of_shaped sd) (PyProof.Rows.room_in_shaped sd hu) ⟨.bl _, H, I, rfl, q⟩
  · exact SeqAt.notIn_tuple_reads r2 r1 (SeqAt.canLay_of_shaped se) (SeqAt.canLay_of_shaped sd) (PyProof.Rows.room_in_shaped sd hu) ⟨.bl _, H, I, rfl, q⟩
theorem in_dp {K : PySem.W.Frag} {Z H : Hp} {x y : V} {d e : D} {ds : List D} (s : Same Z H) (hx : Rep K Z x d) (hy : Rep K Z y e) (hl : e = .lst ds ∨ e = .klst ds ∨ e = .tup ds ∨ e = .ktup ds) (h1 : shp d = true) (h2 : shp e = true) : ∃ d' e' ds', Dp K H x d' ∧ Dp K H y e' ∧ SeqAt.shaped d' = true ∧ SeqAt.shaped e' = true ∧ (e' = .list ds' ∨ e' = .tuple ds') ∧ (ds'.any fun z => PyData.eqv z d') = ds.any fun z => deq z d := by
  refine ⟨toP d, toP e, toPs ds, hx.dp s (shaped_can h1), hy.dp s (shaped_can h2), shp_ok h1, shp_ok h2, ?_, any_eqv d ds⟩
  rcases hl with rfl | rfl | rfl | rfl
  · exact .inl rfl
  · exact .inl rfl
  · exact .inr rfl
  · exact .inr rfl
theorem od_in (hu : X.A.units + 65 < cLine) : OpD K X (compareOp .In) (fun x y H Q => (∃ i j, x = .str i ∧ y = .str j ∧ Q (.bl (!(Builtin.Str.occurrences j i 0 j.length 1).isEmpty)) H) ∨ rInD2 K false x y H Q) dIn where
  op := fun k pins s σ H x y v u Q I rx ry h => by
    subst k
    rcases h with h | h
    · exact op_in_str pins s σ H x y v u Q I rx ry h
    · exact op_inD2 hu pins s σ H x y v u Q I rx ry h
  ok := by
    intro x y d e c Z H Q s hx hy hg p
    unfold dIn at hg
    cases z : inD d e with
    | none => rw [z] at hg; cases hg
    | some b =>
      rw [z] at hg; cases hg
      rcases in_cases z with ⟨i, j, rfl, rfl, rfl⟩ | ⟨ds, hl, h1, h2, rfl⟩
      · cases hx; cases hy
        exact .inl ⟨_, _, rfl, rfl, p _ Z H (ExtP.refl s) (.bl _)⟩
      · obtain ⟨d', e', ds', a1, a2, a3, a4, a5, a6⟩ := in_dp s hx hy hl h1 h2
        exact .inr ⟨d', e', ds', a1, a2, a3, a4, a5, by rw [a6]; exact p _ Z H (ExtP.refl s) (.bl _)⟩
theorem od_nin (hu : X.A.units + 65 < cLine) : OpD K X (compareOp .NotIn) (fun x y H Q => (∃ i j, x = .str i ∧ y = .str j ∧ Q (.bl (!(!(Builtin.Str.occurrences j i 0 j.length 1).isEmpty))) H) ∨ rInD2 K true x y H Q) dNin where
  op := fun k pins s σ H x y v u Q I rx ry h => by
    subst k
    rcases h with h | h
    · exact op_notin_str pins s σ H x y v u Q I rx ry h
    · exact op_ninD2 hu pins s σ H x y v u Q I rx ry h
  ok := by
    intro x y d e c Z H Q s hx hy hg p
    unfold dNin at hg
    cases z : inD d e with
    | none => rw [z] at hg; cases hg
    | some b =>
      rw [z] at hg; cases hg
      rcases in_cases z with ⟨i, j, rfl, rfl, rfl⟩ | ⟨ds, hl, h1, h2, rfl⟩
      · cases hx; cases hy
        exact .inl ⟨_, _, rfl, rfl, p _ Z H (ExtP.refl s) (.bl _)⟩
      · obtain ⟨d', e', ds', a1, a2, a3, a4, a5, a6⟩ := in_dp s hx hy hl h1 h2
        exact .inr ⟨d', e', ds', a1, a2, a3, a4, a5, by rw [a6]; exact p _ Z H (ExtP.refl s) (.bl _)⟩
/-! ### a text times an int -/
def repS (x : Str) (n : Int) : Str := if n < 1 then Str.empty else if (n == 1 || x.length == 0) = true then x else ⟨(List.replicate n.toNat x.cps).foldl (· ++ ·) #[]⟩
def dMulS : D → D → Option D
  | .str x, .int n => if x.length = 1 ∧ -1000 ≤ n ∧ n ≤ 1000 then some (.str (repS x n)) else none
  | _, _ => none
/-! ### methods of texts -/
def dZfill : D → List D → Option D
  | .str x, [.int i] => if PadOk i = true then some (.str (Txt.zfill x i)) else none
  | _, _ => none
def dRstrip : D → List D → Option D
  | .str x, [.str y] => if x.length ≤ 1000000 then some (.str (Txt.rstripChars x y)) else none
  | _, _ => none
def dRmpre : D → List D → Option D
  | .str x, [.str y] => if x.length ≤ 1000000 then some (.str (Txt.removeprefix x y)) else none
  | _, _ => none
def dPart : D → List D → Option D
  | .str x, [.str y] => if (y.length == 0) = false ∧ x.length ≤ 1000000 then some (.tup [.str (Txt.partition x y).1, .str (Txt.partition x y).2.1, .str (Txt.partition x y).2.2]) else none
  | _, _ => none
def dSplit : D → List D → Option D
  | .str x, [.str y] => if (y.length == 0) = false ∧ x.length ≤ 1000000 then some (.lst ((Txt.split x y).map .str)) else none
  | _, _ => none
def allS : List D → Option (List Str)
  | [] => some []
  | .str x :: r => (allS r).map (x :: ·)
  | _ :: _ => none
def dJoin : D → List D → Option D
  | .str a, [.lst ds] => match allS ds with
    | some ys => if (ys.map (·.length)).sum + ys.length * a.length ≤ 16777216 then some (.str (Txt.join a ys)) else none
    | none => none
  | _, _ => none
def dLjust : D → List D → Option D
  | .str x, [.int i, .str f] => if PadOk i = true ∧ f.length = 1 then some (.str (Txt.ljustF x i (f.cps.getD 0 0))) else none
  | _, _ => none
/-! ### f-strings -/
def dFmt : D → Option D
  | .int i => if i.natAbs.log2 < 1920 then some (.str (Str.ofString (toString i))) else none
  | .str y => if y.length ≤ 1000000 then some (.str y) else none
  | _ => none
def mFmt (m : EM) : EM := bnd m (pur fun d => ret (dFmt d))
def RepStr (_ : Hp) (_ : List Addr) (x y : Str) : Prop := x = y
abbrev JM := Str → Mi Str
structure DJ (K : PySem.W.Frag) (X : Cx) (W : WX) (es : List Expr) (ts : List TE) (m : JM) : Prop where
  k : X.K = K
  pj : PJ X es ts
  so : ∀ acc, Sound K W RepStr (tJs ts acc) (m acc)
def jNil : JM := fun acc s => some (.ok acc s.m)
def jCons (m : EM) (r : JM) : JM := fun acc => bnd m (pur fun d => match d with
  | .str y => fun s => if acc.length + y.length ≤ 1000000 then r (acc ++ y) s else none
  | _ => fun _ => none)
def mJoined (r : JM) : EM := bnd (r Str.empty) fun y s => some (.ok (.p (.str y)) s.m)
end
end DL
namespace DL
open PySem L2
/-! ### texts as lists of their signs -/
def tx (l : List Nat) : Str := ⟨l.toArray⟩
@[simp] theorem tx_list (l : List Nat) : (tx l).cps.toList = l := List.toList_toArray
@[simp] theorem tx_len (l : List Nat) : (tx l).length = l.length := List.size_toArray
theorem tx_of (x : Str) : x = tx x.cps.toList := by
  cases x with
  | mk a => show Str.mk a = Str.mk a.toList.toArray; rw [Array.toArray_toList]
theorem eq_tx {x : Str} {l : List Nat} (h : x.cps.toList = l) : x = tx l := by rw [← h]; exact tx_of x
@[simp] theorem tx_inj (a b : List Nat) : tx a = tx b ↔ a = b := ⟨fun h => by have := congrArg (fun x : Str => x.cps.toList) h; simpa using this, fun h => by rw [h]⟩
@[simp] theorem tx_app (a b : List Nat) : tx a ++ tx b = tx (a ++ b) := by
  apply eq_tx
  show ((tx a).cps ++ (tx b).cps).toList = _
  rw [Array.toList_append, tx_list, tx_list]
@[simp] theorem tx_empty : Str.empty = tx [] := rfl
@[simp] theorem in_tx (c : Nat) (l : List Nat) : inS (tx [c]) (tx l) = decide (c ∈ l) := by
  have h := StrLaws.found_one (tx l) c
  rw [tx_list] at h
  exact h
@[simp] theorem e_inSS (i j : Str) : inD (.str i) (.str j) = some (inS i j) := rfl
@[simp] theorem e_dIn (d e : D) : dIn d e = (inD d e).map .bl := rfl
@[simp] theorem e_dNin (d e : D) : dNin d e = (inD d e).map fun b => .bl !b := rfl
/-! slices -/
@[simp] theorem e_slS (z : Str) (lo hi : Option Int) : slE (.str z) lo hi = if z.length ≤ 1000000 then some (.str (cutS z lo hi)) else none := rfl
@[simp] theorem e_ixS (l : List Nat) (i : Int) : ixD (.str (tx l)) i = if l.length ≤ 1000000 then (atI l i).map fun c => .str (tx [c]) else none := by
  show (if (tx l).length ≤ 1000000 then (atI (tx l).cps.toList i).map fun c => D.str ⟨#[c]⟩ else none) = _
  rw [tx_len, tx_list]; rfl
/-! the digits of a number -/
def logOk (i : Int) : Bool := decide (i.natAbs.log2 < 1920)
def intS (i : Int) : Str := Str.ofString (toString i)
@[simp] theorem e_str (i : Int) : dStr (.int i) = if logOk i = true then some (.str (intS i)) else none := by
  show (if i.natAbs.log2 < 1920 then some (D.str (intS i)) else none) = _
  unfold logOk
  by_cases h : i.natAbs.log2 < 1920
  · rw [if_pos h, if_pos (decide_eq_true h)]
  · rw [if_neg h, if_neg (by simpa using h)]
@[simp] theorem e_intS (x : Str) : dIntS (.str x) = if x.length ≤ 640 then (PySem.intText? x).map .int else none := rfl
@[simp] theorem e_allL (ds : List D) : dAll (.lst ds) = (allBl ds).map fun bs => .bl (bs.all id) := rfl
@[simp] theorem e_mulS (x : Str) (n : Int) : dMulS (.str x) (.int n) = if x.length = 1 ∧ -1000 ≤ n ∧ n ≤ 1000 then some (.str (repS x n)) else none := rfl
@[simp] theorem e_gP (g : D → List D → Option D) (d : D) (ds : List DV) (s : S) : gP g (.p d) ds s = (match allP ds with | some xs => ret (g d xs) s | none => none) := rfl
@[simp] theorem e_zfill (x : Str) (i : Int) : dZfill (.str x) [.int i] = if PadOk i = true then some (.str (Txt.zfill x i)) else none := rfl
@[simp] theorem e_rstrip (x y : Str) : dRstrip (.str x) [.str y] = if x.length ≤ 1000000 then some (.str (Txt.rstripChars x y)) else none := rfl
@[simp] theorem e_rmpre (x y : Str) : dRmpre (.str x) [.str y] = if x.length ≤ 1000000 then some (.str (Txt.removeprefix x y)) else none := rfl
@[simp] theorem e_part (x y : Str) : dPart (.str x) [.str y] = if (y.length == 0) = false ∧ x.length ≤ 1000000 then some (.tup [.str (Txt.partition x y).1, .str (Txt.partition x y).2.1, .str (Txt.partition x y).2.2]) else none := rfl
@[simp] theorem e_split (x y : Str) : dSplit (.str x) [.str y] = if (y.length == 0) = false ∧ x.length ≤ 1000000 then some (.lst ((Txt.split x y).map .str)) else none := rfl
@[simp] theorem e_join (a : Str) (ds : List D) : dJoin (.str a) [.lst ds] = (match allS ds with | some ys => if (ys.map (·.length)).sum + ys.length * a.length ≤ 16777216 then some (.str (Txt.join a ys)) else none | none => none) := rfl
def sign1 (f : Str) : Nat := f.cps.getD 0 0
@[simp] theorem e_sign1 (c : Nat) : sign1 (tx [c]) = c := rfl
@[simp] theorem e_ljust (x : Str) (i : Int) (f : Str) : dLjust (.str x) [.int i, .str f] = if PadOk i = true ∧ f.length = 1 then some (.str (Txt.ljustF x i (sign1 f))) else none := rfl
@[simp] theorem e_fmt (m : EM) (s : S) : mFmt m s = (bnd m (pur fun d => ret (dFmt d))) s := rfl
@[simp] theorem e_fmtI (i : Int) : dFmt (.int i) = if logOk i = true then some (.str (intS i)) else none := e_str i
@[simp] theorem e_fmtS (y : Str) : dFmt (.str y) = if y.length ≤ 1000000 then some (.str y) else none := rfl
@[simp] theorem e_jNil (acc : Str) (s : S) : jNil acc s = some (.ok acc s.m) := rfl
def jK (r : JM) (acc : Str) (d : D) : Mi Str := match d with
  | .str y => fun s => if acc.length + y.length ≤ 1000000 then r (acc ++ y) s else none
  | _ => fun _ => none
@[simp] theorem e_jCons (m : EM) (r : JM) (acc : Str) (s : S) : jCons m r acc s = (bnd m (pur (jK r acc))) s := rfl
@[simp] theorem e_jK (r : JM) (acc y : Str) (s : S) : jK r acc (.str y) s = if acc.length + y.length ≤ 1000000 then r (acc ++ y) s else none := rfl
@[simp] theorem e_joined (r : JM) (s : S) : mJoined r s = (bnd (r Str.empty) fun y s => some (.ok (.p (.str y)) s.m)) s := rfl
theorem log_ok {n : Nat} (h : n ≤ 1000000000000000000) : n.log2 < 1920 := by
  by_cases q : n = 0
  · subst q; decide
  · exact Nat.lt_of_lt_of_le ((Nat.log2_lt q).mpr (Nat.lt_of_le_of_lt h (by decide : 1000000000000000000 < 2 ^ 64))) (by decide)
theorem logOk_of {i : Int} (h : i.natAbs ≤ 1000000000000000000) : logOk i = true := decide_eq_true (log_ok h)
@[simp] theorem e_itS (l : List Nat) : itS (.str (tx l)) = some (l.map fun c => .p (.str (tx [c]))) := by
  show some ((tx l).cps.toList.map _) = _
  rw [tx_list]; rfl
@[simp] theorem e_tyS (M : List O) (x : Str) : tyOk "str" M (.p (.str x)) = true := rfl
@[simp] theorem e_tyL (M : List O) (x : List D) : tyOk "list" M (.p (.lst x)) = true := rfl
@[simp] theorem e_gs0 (s : S) : gsNil [] s = some s := rfl
@[simp] theorem e_gs1 (m : GM) (n : List DV → S → Option S) (d : DV) (r : List DV) (s : S) : gsCons m n (d :: r) s = (match m d s with | some s1 => n r s1 | none => none) := rfl
@[simp] theorem e_gT (n : Nat) (m : List DV → S → Option S) (xs : List D) (s : S) : gT n m (.p (.tup xs)) s = if xs.length = n then m (xs.map .p) s else none := rfl
end DL
namespace DL
open PySem L2
/-! loops and comprehensions with what stays true -/
theorem wpS.imp {o : Option (Fl × S)} {P Q : Fl → S → Prop} (h : wpS o P) (k : ∀ f s, P f s → Q f s) : wpS o Q := by
  obtain ⟨f, s, e, n, p⟩ := h
  exact ⟨f, s, e, n, k f s p⟩
end DL
namespace DL
open PySem L2
open PyProof.Rows (AllBare IntsAre)
/-! ### the law's own def, run by the caller itself: no repr is under way -/
section
variable {P : Program} {w : World} {K : PySem.W.Frag} {mg : Str → Option Value} {base : Heap} {x qual : Str} {st : Stmt} {f a : Addr} {fd : FuncData} {N : List Str} {k : Nat}
def Told (s₁ : Shared) (r : Result) (s' : Shared) : Prop := r = .ok (.ret (.bool true)) ∧ OldK s₁.heap s'.heap ∧ s'.os = s₁.os ∧ AllBare s'.gens
abbrev TopB (P : Program) (w : World) (K : PySem.W.Frag) (mg : Str → Option Value) (base : Heap) (N : List Str) (qual : Str) (st : Stmt) (f : Addr) (k : Nat) (m : SM) : Prop :=
  ∀ (cdv : Value) (s : Shared) (H : Hp) (E : XK), Room k (callerA.deeper (PyProof.Rows.envOfC qual (defScope st) s.heap.objs.size f cdv)) →
    ∃ t, DSs K (cxOf (L2.CX P w) P w K mg base N qual (defScope st) f cdv callerA [] s H E) (WE0 E) (defBody st) t m
/-- from the entry on -/
theorem run_top {m : SM} {s₁ : Shared} {H : Hp} {ns : List Int} {p : Str} (F : Fun K x qual st f fd) (Sc : FnScope N [p] (defScope st)) (hr : Room (k + 1) callerA) (body : TopB P w K mg base N qual st f k m)
    (e0 : Env0 P w K mg base callerA [] s₁ H) (hb : BindsTo s₁ fd ⟨[.ref a], []⟩ [(p, .ref a)]) (hS : SqL K H a (ns.map V.int)) (hO : Only H) (good : runA N.length m [.scr (ns.map .int)] = some (.ok (.bl true))) :
    codeAny (model P w) callerA (.call (.ref f) ⟨[.ref a], []⟩) (Told s₁) s₁ := by
  obtain ⟨oc, od, kV, doc, pm, an, cdv, ct, osl, rfl, lk, hcd⟩ := F.ex
  have inS : ∀ b o, base.get? b = some o → s₁.heap.get? b = some o := fun b o q => (e0.bs b o q).1
  have KS : K.In s₁.heap := e0.mod.kin.keeps inS
  have NL : s₁.heap.NoLimit := e0.mod.nolimit.keeps inS
  refine codeAny_mono (R := CR (L2.CX P w) [] P w H s₁ (fun v _ => v = V.bl true) (fun _ _ _ => False)) ?_ fun r s' h => ?_
  rotate_left
  · cases r with
    | error e =>
      obtain ⟨_, _, _, _, _, _, _, _, _, _, _, _, z⟩ := (show L2.CX P w [] H s₁ (fun _ _ _ => False) e s' from h)
      exact z.elim
    | ok fl =>
      cases fl with
      | ret u =>
        obtain ⟨v, H', os, bare, un, hok, rv, e⟩ := h
        have e : v = V.bl true := e
        subst e
        obtain rfl : u = Value.bool true := rv
        refine ⟨rfl, OldK.of_keep fun b o e => ?_, os, bare⟩
        rcases hO b with z | ⟨ob, xs, z⟩
        · exact un.keep b o e z (by intro q; exact absurd (show b ∈ ([] : List Addr) from q) (by simp)) (by simp)
        · obtain ⟨e1, _⟩ := e0.hok b _ z
          obtain ⟨e2, _⟩ := hok b _ (un.frzs b ob _ z)
          rw [e] at e1; cases e1
          exact e2
      | next => exact False.elim h
      | brk => exact False.elim h
      | cont => exact False.elim h
  -- the frame is made, the script bound
  refine PySem.codeAny_call_function hr.depth (KS _ _ lk) rfl Sc.co Sc.gen rfl (PySem.W.codeRec_of KS hcd) (hb _ _ _ _ ?_)
  refine PySem.wpAny_newFunctionEnv_cells Sc.kind (fun y hy => ?_) fun env he s2 made => ?_
  · obtain ⟨n, v⟩ := y
    rcases Sc.par n (List.of_mem_zip (l₁ := [p]) (l₂ := [Value.ref a]) hy).1 with q | q
    · exact .inl q
    · exact .inr ⟨q, PySem.W.cellsFrom_some _ _ _ (.inl q)⟩
  subst he
  refine ⟨NL.keeps made.toInCall.keep, PySem.codeAny_func ?_⟩
  obtain ⟨t, d⟩ := body cdv s₁ H (fun _ _ _ => False) (hr.deeper _)
  have I := inv_start (CX := L2.CX P w) (E := fun _ _ _ => False) Sc hr.hd e0 (vs := [.ref a]) rfl (.cons rfl .nil) made
  have q : t { nx := fun _ H' => (fun v (_ : Hp) => v = V.bl true) .non H', rt := fun v _ => v = V.bl true } (L2.start N [.ref a]) H := by
    have w0 : Wf K H H [] [] := ⟨Same.refl _, rfl, List.nodup_nil, (by simp), fun n a o h => by simp at h⟩
    unfold runA at good
    cases z : m ⟨slotsOf N.length ([D.scr (ns.map .int)].map .p), []⟩ with
    | none => rw [z] at good; cases good
    | some fs =>
      rw [z] at good
      obtain ⟨fl, s1⟩ := fs
      refine d.so.ok (L2.start N [.ref a]) H _ H [] _ _ w0 (start_rep (.cons (show RepV K H [] (.ref a) (.p (.scr (ns.map .int))) from Rep.scr hS (intsRep ns)) .nil)) z ?_
      cases fl with
      | nx => cases good
      | rt d =>
        cases d with
        | p d => cases good; exact fun v Z' H' I' w' x' r' => by cases r'; rfl
        | o n => cases good
      | ex c fs => cases good
      | bk => cases good
      | ct => cases good
  refine wpAny_mono (d.ps.run [] s2 (L2.start N [.ref a]) H _ I q) (fun fl s' h => ?_) fun e s' h => ?_
  · cases fl with
    | ret u =>
      obtain ⟨v, σ', H', J, rv, e⟩ := h
      exact ⟨v, H', J.os, J.bare, J.base, J.hok, rv, e⟩
    | next =>
      obtain ⟨σ', H', J, e⟩ := h
      cases e
    | brk =>
      obtain ⟨_, _, _, e⟩ := h
      exact False.elim e
    | cont =>
      obtain ⟨_, _, _, e⟩ := h
      exact False.elim e
  · exact h
/-- the entry: what is tracked is the script at most -/
theorem entry {H : Hp} {s₁ : Shared} {mb : Str → Option Value} {vs : List Value} (KX : K.In s₁.heap) (hns : s₁.heap.Ns mainGlobals mg) (hb : s₁.heap.Ns builtinsNs mb) (hbb : ∀ x : Str, x ≠ "__name__" → mb x = bootBuiltins x) (hlim : s₁.heap.NoLimit) (hg : s₁.gens = #[])
    (ha : s₁.heap.get? a = some { cls := .type "list", data := .seq vs.toArray }) (hok : HOk P w H s₁.heap) (one : ∀ b, H b ≠ none → b = a) (out : H a ≠ none → K.lookup a = none) :
    Env0 P w K mg (hidT s₁.heap H) callerA [] s₁ H ∧ K.In (hidT s₁.heap H) ∧ (hidT s₁.heap H).Ns mainGlobals mg := by
  have free : ∀ {b : Addr}, b ≠ a → H b = none := fun {b} n => by
    cases q : H b with
    | none => rfl
    | some u => exact absurd (one b (by rw [q]; simp)) n
  have kin : K.In (hidT s₁.heap H) := fun b o e => by
    refine hidT_get (KX b o e) ?_
    by_cases n : b = a
    · subst n
      cases q : H b with
      | none => rfl
      | some u => rw [out (by rw [q]; simp)] at e; cases e
    · exact free n
  have ns : ∀ {b : Addr} {m : Str → Option Value}, s₁.heap.Ns b m → (hidT s₁.heap H).Ns b m := fun {b m} h => by
    obtain ⟨o, es, ep, e, d, r⟩ := h
    refine ⟨o, es, ep, hidT_get e ?_, d, r⟩
    by_cases n : b = a
    · subst n
      rw [ha] at e; cases e
      have d' : Data.seq vs.toArray _ = Data.dict es ep := d
      cases d'
    · exact free n
  refine ⟨⟨rfl, ⟨kin, ns hns, ⟨mb, ns hb, hbb⟩, ?_⟩, fun b o e => of_hidT e, Nat.le_of_eq (hidT_size _ _), trivial, fun b q => absurd (show b ∈ ([] : List Addr) from q) (by simp), hok, .of_eq hg⟩, kin, ns hns⟩
  obtain ⟨mc, h1, h2⟩ := hlim
  exact ⟨mc, ns h1, h2⟩
theorem law_top {m : SM} {s₁ : Shared} {mb : Str → Option Value} {vs : List Value} {ns : List Int} {p : Str} (KX : K.In s₁.heap) (hns : s₁.heap.Ns mainGlobals mg) (hb : s₁.heap.Ns builtinsNs mb) (hbb : ∀ x : Str, x ≠ "__name__" → mb x = bootBuiltins x) (hlim : s₁.heap.NoLimit) (hg : s₁.gens = #[])
    (ha : s₁.heap.get? a = some { cls := .type "list", data := .seq vs.toArray }) (hi : IntsAre vs ns) (hl : ns.length ≤ sizeLine) (hr : Room (k + 1) callerA) (F : Fun K x qual st f fd) (Sc : FnScope N [p] (defScope st)) (hbind : ∀ (s : Shared) (u : Value), BindsTo s fd ⟨[u], []⟩ [(p, u)])
    (body : ∀ base : Heap, K.In base → base.Ns mainGlobals mg → TopB P w K mg base N qual st f k m) (good : runA N.length m [.scr (ns.map .int)] = some (.ok (.bl true))) :
    codeAny (model P w) callerA (.call (.ref f) ⟨[.ref a], []⟩) (Told s₁) s₁ := by
  have rv := vals_ints hi
  cases hk : K.lookup a with
  | some o =>
    have e := KX a o hk
    rw [ha] at e
    cases e
    obtain ⟨e0, k0, n0⟩ := entry (P := P) (w := w) (H := fun _ => none) KX hns hb hbb hlim hg ha (fun b u z => by have z' : (none : Option HO) = some u := z; cases z') (fun b z => absurd rfl z) (fun z => absurd rfl z)
    exact run_top F Sc hr (body _ k0 n0) e0 (hbind _ _) (.inr ⟨_, vs.toArray, _, hk, rfl, rfl, rfl, by rw [List.size_toArray, hi.length]; exact hl, by simpa using rv⟩) (fun _ => .inl rfl) good
  | none =>
    obtain ⟨e0, k0, n0⟩ := entry (P := P) (w := w) (H := fun b => if b = a then some (.frz { cls := .type "list", data := .seq vs.toArray } (.lst (ns.map V.int))) else none) KX hns hb hbb hlim hg ha (fun b u z => by
      by_cases n : b = a
      · have z' := (if_pos n).symm.trans z
        cases z'
        subst n
        exact ⟨ha, by rw [List.length_map]; exact hl, vs, _, rv, ha⟩
      · have z' := (if_neg n).symm.trans z
        cases z') (fun b z => by
      by_cases n : b = a
      · exact n
      · exact absurd (if_neg n) z) (fun _ => hk)
    refine run_top F Sc hr (body _ k0 n0) e0 (hbind _ _) (.inl (.inr ⟨{ cls := .type "list", data := .seq vs.toArray }, if_pos rfl⟩)) (fun b => ?_) good
    by_cases n : b = a
    · exact .inr ⟨_, _, if_pos n⟩
    · exact .inl (if_neg n)
end
theorem walk_dlG {l : PySem.W.OpenLaw} {k : Nat} {q : Program} {loose : List Str} {XP : (Str → Option Value) → Heap → Prop} {YP : World → Heap → Prop} {d : DefRec} {K : Params → PySem.W.Frag} {x qual : Str} {st : Stmt} {N : List Str} {m : SM} (hn : l.most = some 63) (hdf : d.params.defaults = []) (hr : Room (k + 1) callerA)
    (hY : ∀ (w : World) (h : Heap), YP w h → (K w.params).In h) (Sc : FnScope N ["script"] (defScope st))
    (F : ∀ (w : World) (mg : Str → Option Value) (fa : Addr) (h : Heap), (K w.params).In h → h.Ns mainGlobals mg → mg d.name = some (.ref fa) →
      ∃ fd : FuncData, Fun (K w.params) x qual st fa fd ∧ (∀ (s : Shared) (u : Value), BindsTo s fd ⟨[u], []⟩ [("script", u)]) ∧ ∀ base : Heap, (K w.params).In base → base.Ns mainGlobals mg → TopB l.prog w (K w.params) mg base N qual st fa k m)
    (good : ∀ ns : List Int, ns.length ≤ 63 → (∀ z ∈ ns, Builtin.Int.intBits z ≤ 1048576) → runA N.length m [.scr (ns.map .int)] = some (.ok (.bl true))) :
    PySem.W.WalkO q loose XP YP l.row.toRowW d [] (fun f vs => PySem.call f vs) := by
  refine Att.attach_callB hn hdf fun w s₀ s₁ mg mb fa o pm cd doc a vs ns G Y ho hd hcd hmg hobj hints hlen hbits hg => ?_
  have KX := hY w _ Y
  obtain ⟨fd, hF, hbind, body⟩ := F w mg fa _ KX G.T.g hmg
  exact law_top KX G.T.g G.T.b G.T.builtins G.T.nolimit hg hobj hints (Nat.le_trans hlen (by decide)) hr hF Sc hbind body (good ns hlen hbits)
end DL
namespace DL
open PySem L2
/-! ### repr of data -/
section
variable {K : PySem.W.Frag} {X : Cx} {W : WX} {e a b c : Expr} {es : List Expr} {pos : Pos}
def rReprT (K : PySem.W.Frag) : List V → Hp → VK → Prop := fun xs H Q => ∃ x d, xs = [x] ∧ Dp K H x d ∧ PyData.canLay0 d = true ∧ d.depth ≤ 64 ∧ d.showable = true ∧ d.shown.length ≤ sizeLine ∧ Q (.str d.shown) H
theorem call_reprT (hg : X.A.guards = some []) (hu : X.A.units + 66 < cLine) : CallR X (.builtin "repr") (rReprT X.K) := by
  intro pins s σ H xs us Q I rs h
  obtain ⟨x, d, rfl, hd, hc, hdep, hs, hz, q⟩ := h
  cases rs with
  | cons rx r =>
  cases r
  rename_i v
  have ref : ∀ (p : Addr), x = .ref p → wpAny (model X.prog X.w) X.A (call (.builtin "repr") [v]) (EP X pins σ Q) X.xe s := fun p e => by
    subst e
    obtain ⟨as, r1⟩ := Dp.reads I d _ v hd rx
    obtain rfl : v = Value.ref p := rx
    exact PySem.repr_of_reads' r1 hs (PyData.noDict_hsm (PyData.hasDict_of_canLay d hc)) hg (by omega) (fun _ _ q => q) (fun h' u tk hk => ⟨.str _, H, I.kept hk, ⟨_, rfl⟩, q⟩) hz
  cases hd with
  | non => obtain rfl : v = Value.none := rx; exact PySem.P.repr_of_none ⟨.str _, H, I.tok _, ⟨_, rfl⟩, q⟩
  | bl b => obtain rfl : v = Value.bool b := rx; exact PySem.P.repr_of_bool ⟨.str _, H, I.tok _, ⟨_, rfl⟩, by cases b <;> exact q⟩
  | int i =>
    obtain ⟨t, rfl⟩ := rx
    have hs' : decide (i.natAbs.log2 < 1920) = true := hs
    exact PySem.P.repr_of_int (of_decide_eq_true hs') ⟨.str _, H, I.tok _, ⟨_, rfl⟩, q⟩
  | str y => obtain ⟨t, rfl⟩ := rx; exact PySem.P.repr_of_str ⟨.str _, H, I.tok _, ⟨_, rfl⟩, q⟩ hz
  | lst h1 h2 => exact ref _ rfl
  | tup h1 h2 => exact ref _ rfl
mutual
def showD : D → Bool
  | .int i => logOk i
  | .lst xs => showDs xs
  | .tup xs => showDs xs
  | .ktup xs => showDs xs
  | .klst xs => showDs xs
  | .non => true
  | .bl _ => true
  | .str _ => true
  | _ => false
def showDs : List D → Bool
  | [] => true
  | x :: xs => showD x && showDs xs
end
/-! what a text of it has at most -/
mutual
def rb : D → Nat
  | .int i => (intS i).length
  | .str x => (reprText x).length
  | .lst xs => rbs xs + 3
  | .tup xs => rbs xs + 3
  | .ktup xs => rbs xs + 3
  | .klst xs => rbs xs + 3
  | _ => 5
def rbs : List D → Nat
  | [] => 0
  | x :: xs => rb x + 2 + rbs xs
end
mutual
theorem showD_ok : ∀ d : D, showD d = true → (toP d).showable = true
  | .non, _ => by simp [toP, PyData.showable]
  | .bl _, _ => by simp [toP, PyData.showable]
  | .int i, h => h
  | .str x, _ => by simp [toP, PyData.showable]
  | .lst xs, h => by
    show PyData.showable (.list (toPs xs)) = true
    simp only [PyData.showable]
    exact showDs_ok xs h
  | .tup xs, h => by
    show PyData.showable (.tuple (toPs xs)) = true
    simp only [PyData.showable]
    exact showDs_ok xs h
  | .klst xs, h => by
    show PyData.showable (.list (toPs xs)) = true
    simp only [PyData.showable]
    exact showDs_ok xs h
  | .ktup xs, h => by
    show PyData.showable (.tuple (toPs xs)) = true
    simp only [PyData.showable]
    exact showDs_ok xs h
  | .dK _, h => by cases h
  | .dT _, h => by cases h
  | .fn _, h => by cases h
  | .clo _ _, h => by cases h
  | .scr _, h => by cases h
  | .ty _, h => by cases h
  | .rng _ _, h => by cases h
theorem showDs_ok : ∀ d : List D, showDs d = true → PyData.showableAll (toPs d) = true
  | [], _ => by simp [toPs, PyData.showableAll]
  | x :: xs, h => by
    have h : (showD x && showDs xs) = true := h
    rw [Bool.and_eq_true] at h
    show PyData.showableAll (toP x :: toPs xs) = true
    simp only [PyData.showableAll]
    rw [showD_ok x h.1, showDs_ok xs h.2]; rfl
end
theorem none_len : (PyData.shown .none).length ≤ 5 := by decide +kernel
theorem bool_len (b : Bool) : (PyData.shown (.bool b)).length ≤ 5 := by cases b <;> decide +kernel
mutual
theorem rb_ok : ∀ d : D, okD d = true → (toP d).shown.length ≤ rb d
  | .non, _ => none_len
  | .bl b, _ => bool_len b
  | .int i, _ => by
    show (PyData.shown (.int i)).length ≤ (intS i).length
    simp only [PyData.shown]
    exact Nat.le_refl _
  | .str x, _ => by
    show (PyData.shown (.str x)).length ≤ (reprText x).length
    simp only [PyData.shown]
    exact Nat.le_refl _
  | .lst xs, h => by
    show (PyData.shown (.list (toPs xs))).length ≤ rbs xs + 3
    simp only [PyData.shown]
    have a := listText_len_le (PyData.shownAll (toPs xs))
    have b := rbs_ok xs h
    omega
  | .tup xs, h => by
    show (PyData.shown (.tuple (toPs xs))).length ≤ rbs xs + 3
    simp only [PyData.shown]
    have a := tupleText_len_le (PyData.shownAll (toPs xs))
    have b := rbs_ok xs h
    omega
  | .klst xs, h => by
    show (PyData.shown (.list (toPs xs))).length ≤ rbs xs + 3
    simp only [PyData.shown]
    have a := listText_len_le (PyData.shownAll (toPs xs))
    have b := rbs_ok xs h
    omega
  | .ktup xs, h => by
    show (PyData.shown (.tuple (toPs xs))).length ≤ rbs xs + 3
    simp only [PyData.shown]
    have a := tupleText_len_le (PyData.shownAll (toPs xs))
    have b := rbs_ok xs h
    omega
  | .dK _, h => by cases h
  | .dT _, h => by cases h
  | .fn _, h => by cases h
  | .clo _ _, h => by cases h
  | .scr _, h => by cases h
  | .ty _, h => by cases h
  | .rng _ _, h => by cases h
theorem rbs_ok : ∀ d : List D, okDs d = true → ((PyData.shownAll (toPs d)).map (·.length)).sum + 2 * (PyData.shownAll (toPs d)).length ≤ rbs d
  | [], _ => by
    have e : PyData.shownAll (toPs []) = [] := by show PyData.shownAll [] = []; simp only [PyData.shownAll]
    rw [e]; simp [rbs]
  | x :: xs, h => by
    have h : (okD x && okDs xs) = true := h
    rw [Bool.and_eq_true] at h
    have e : PyData.shownAll (toPs (x :: xs)) = (toP x).shown :: PyData.shownAll (toPs xs) := by show PyData.shownAll (toP x :: toPs xs) = _; simp only [PyData.shownAll]
    have a := rb_ok x h.1
    have b := rbs_ok xs h.2
    rw [e, List.map_cons, List.sum_cons, List.length_cons]
    show _ ≤ rb x + 2 + rbs xs
    omega
end
def reprD (d : D) : Str := (toP d).shown
def dRepr (d : D) : Option D := if (shp d && showD d) = true then if rb d ≤ 1000000 then some (.str (reprD d)) else none else none
theorem cd_repr (hg : X.A.guards = some []) (hu : X.A.units + 66 < cLine) : CallD K X (.builtin "repr") (rReprT K) (g1 dRepr) := ⟨fun k => by rw [← k]; exact call_reprT hg hu, g1_ok fun x d c Z H Q s hx hg p => by
  unfold dRepr at hg
  split at hg
  · rename_i h1
    split at hg
    · rename_i h2
      cases hg
      rw [Bool.and_eq_true] at h1
      have h0 := h1.1
      unfold shp at h0
      rw [Bool.and_eq_true, decide_eq_true_eq] at h0
      exact ⟨x, toP d, rfl, hx.dp s (shaped_can h1.1), shaped_can h1.1, by rw [depD_dep d h0.1]; exact h0.2, showD_ok d h1.2, Nat.le_trans (rb_ok d h0.1) (size_le h2), p _ Z H (ExtP.refl s) (.str _)⟩
    · cases hg
  · cases hg⟩
theorem units66 {k : Nat} {A : Around} (r : Room k A) : A.units + 66 < cLine := by have := r.un; omega
end
end DL
namespace DL
open PySem L2
section
variable {K : PySem.W.Frag} {X : Cx} {W : WX} {e a b c : Expr} {es : List Expr} {pos : Pos}
/-! ### order of ints, texts, truths -/
/-! ### is True, is False -/
def dIsN : D → D → Option D
  | .bl p, .bl q => some (.bl (!decide (p = q)))
  | _, _ => none
theorem bool_dIsN : boolD dIsN := fun d e c h => by
  unfold dIsN at h
  split at h <;> first | (cases h; exact ⟨_, rfl⟩) | cases h
theorem od_isn : OpD K X (compareOp .IsNot) rNotB dIsN := ⟨fun _ => op_notBl, by
    intro x y d e c Z H Q s hx hy hg p
    unfold dIsN at hg
    split at hg
    · cases hx; cases hy; cases hg; exact ⟨_, _, rfl, rfl, p _ Z H (ExtP.refl s) (.bl _)⟩
    · cases hg⟩
/-! ### lists one behind the other -/
def rCatL (K : PySem.W.Frag) : R2 := fun x y H Q => ∃ l b xs zs, x = .ref l ∧ y = .ref b ∧ SqL K H l xs ∧ SqL K H b zs ∧ xs.length + zs.length ≤ sizeLine ∧ ∀ p, H p = none → Q (.ref p) (upd H p (.lst (xs ++ zs)))
theorem op_catL : OpR X (binaryOp .Add) (rCatL X.K) := by
  intro pins s σ H x y v u Q I rx ry h
  obtain ⟨l, b, xs, zs, rfl, rfl, hx, hy, hz, q⟩ := h
  obtain rfl : v = Value.ref l := rx
  obtain rfl : u = Value.ref b := ry
  obtain ⟨its, r, ⟨⟨cls, dd, data, sl⟩, n, ho, hc, hdn, hd⟩, _⟩ := I.list hx
  obtain ⟨its2, r2, ⟨⟨cls2, dd2, data2, sl2⟩, n2, ho2, hc2, hdn2, hd2⟩, _⟩ := I.list hy
  simp only at hc hd hdn hc2 hd2 hdn2
  subst hc hd hdn hc2 hd2 hdn2
  have hl := r.length
  have hl2 := r2.length
  refine concat_meets ⟨_, ho, rfl⟩ ⟨_, ho2, rfl⟩ noFill_list_add seq_list_add PySem.F.slot_list_add PySem.F.entry_list_add (PySem.F.args_list_add_2 _ _) (PyProof.Rows.list_addW l b its.toArray its2.toArray n n2 none none sl sl2 (by simp; omega)) ⟨ho, ho2, ?_⟩
  have e : its.toArray ++ its2.toArray = (its ++ its2).toArray := by simp
  rw [e]
  exact ⟨.ref _, _, I.lnew (t' := s.toks) (r.append r2) (by rw [List.length_append]; omega), rfl, q _ I.fresh⟩
def dAdd2 : D → D → Option D
  | .int i, .int j => some (.int (i + j))
  | .str x, .str y => if x.length + y.length ≤ 1000000 then some (.str (x ++ y)) else none
  | .lst x, .lst y => if x.length + y.length ≤ 1000000 then some (.lst (x ++ y)) else none
  | _, _ => none
theorem od_add2 : OpD K X (binaryOp .Add) (fun x y H Q => rI0 (fun i j => .int (i + j)) x y H Q ∨ (∃ i j, x = .str i ∧ y = .str j ∧ i.length + j.length ≤ sizeLine ∧ Q (.str (i ++ j)) H) ∨ rCatL K x y H Q) dAdd2 where
  op := fun k pins s σ H x y v u Q I rx ry h => by
    subst k
    rcases h with h | h | h
    · exact op_add pins s σ H x y v u Q I rx ry h
    · exact op_add_str pins s σ H x y v u Q I rx ry h
    · exact op_catL pins s σ H x y v u Q I rx ry h
  ok := by
    intro x y d e c Z H Q s hx hy hg p
    unfold dAdd2 at hg
    split at hg
    · cases hx; cases hy; cases hg
      exact .inl ⟨_, _, rfl, rfl, p _ Z H (ExtP.refl s) (.int _)⟩
    · split at hg
      · rename_i hl
        cases hx; cases hy; cases hg
        exact .inr (.inl ⟨_, _, rfl, rfl, size_le hl, p _ Z H (ExtP.refl s) (.str _)⟩)
      · cases hg
    · split at hg
      · rename_i hl
        cases hg
        cases hx with
        | lst h1 h2 =>
        cases hy with
        | lst h3 h4 =>
        exact .inr (.inr ⟨_, _, _, _, rfl, rfl, .inl (same_rd s h1), .inl (same_rd s h3), by rw [h2.length, h4.length]; exact size_le hl, fun l hl => p _ _ _ (ExtP.new s hl) (.lst (.inl upd_same) ((h2.append h4).mono (same_upd (none_of s hl))))⟩)
      · cases hg
    · cases hg
end
end DL
namespace DL
open PySem L2
section
variable {K : PySem.W.Frag} {X : Cx} {W : WX} {e a b c tg iter tg1 iter1 elt : Expr} {es : List Expr} {pos : Pos}
/-! ### a comprehension with two fors -/
theorem RepV.mono2 {Z Z' : Hp} {I I' : List Addr} (z : Same Z Z') (i : ∃ t, I' = I ++ t) {v : V} : ∀ {d : DV}, RepV K Z I v d → RepV K Z' I' v d
  | .p _, h => Rep.mono z h
  | .o n, ⟨a, h, q⟩ => by
    obtain ⟨t, rfl⟩ := i
    exact ⟨a, by rw [List.getElem?_append_left (List.getElem?_eq_some_iff.mp h).1]; exact h, q⟩
theorem RepS.mono2 {Z Z' : Hp} {I I' : List Addr} {σ : St} {l : List (Option DV)} (r : RepS K Z I σ l) (z : Same Z Z') (i : ∃ t, I' = I ++ t) : RepS K Z' I' σ l := ⟨r.len, fun n dv h => by
  obtain ⟨v, h1, h2⟩ := r.at_ n dv h
  exact ⟨v, h1, h2.mono2 z i⟩⟩
theorem ex_app {I1 I2 I3 : List Addr} (a : ∃ t, I2 = I1 ++ t) (b : ∃ t, I3 = I2 ++ t) : ∃ t, I3 = I1 ++ t := by
  obtain ⟨t, rfl⟩ := a
  obtain ⟨u, rfl⟩ := b
  exact ⟨t ++ u, by rw [List.append_assoc]⟩
abbrev HG (K : PySem.W.Frag) (g : TG) (gm : GM) (ix : List Nat) : Prop := ∀ (v : V) (dv : DV) (σ : St) (H : Hp) (s s' : S) (Z : Hp) (I : List Addr) (Q : St → Hp → Prop), Wf K Z H I s.m → RepS K Z I σ s.l → RepV K Z I v dv → gm dv s = some s' →
      (∀ σ' Z' H' I', Wf K Z' H' I' s'.m → RepS K Z' I' σ' s'.l → Ext Z H I Z' H' I' → (∀ vs, (∀ i ∈ ix, i ∈ vs) → L2.wipe σ' vs = L2.wipe σ vs) → Q σ' H') → g v σ H Q
/-- the loop within -/
theorem inner_ok {g1 : TG} {tt1 : TT} {te : TE} {vs1 : List Nat} {gm1 : GM} {ix1 : List Nat} {t1 em : EM} (hg : HG K g1 gm1 ix1) (hix : ∀ i ∈ ix1, i ∈ vs1) (ht : Sound K WF RepB tt1 t1) (he : Sound K WF (RepV K) te em)
    {Z1 H1 : Hp} {I1 : List Addr} {D : Addr} (hD : H1 D = none) {σ2 : St} {l2 : List (Option DV)} {Z4 H4 : Hp} {I4 : List Addr} {M4 : List O} {J1 : It} {ds1 : List DV} (q : ItOk K Z4 I4 J1 ds1) (rs : RepS K Z4 I4 σ2 l2)
    {acc : List V} {bd : List DL.D} (f : Fill K Z1 H1 I1 D Z4 H4 I4 M4 acc bd) {ad : List DL.D} {Mf : List O} (e : compL (wipeL l2 vs1) gm1 t1 em ds1 bd M4 = some (ad, Mf)) {Nx : Hp → Prop} (k : ∀ Z' H' I' acc', Fill K Z1 H1 I1 D Z' H' I' Mf acc' ad → Nx H') :
    ∃ W1 : Nat → Nat → Hp → Prop, (∃ m, W1 0 m H4) ∧ ∀ j k H, W1 j k H → (J1.stop j H ∧ Nx H) ∨ (J1.go j H ∧ ∃ Nx1 : Hp → Prop, (∀ H', Nx1 H' → ∃ k', k' < k ∧ W1 (j + 1) k' H') ∧ ∀ x H', J1.yld j H x H' → g1 x (L2.wipe σ2 vs1) H' fun σ3 H5 => L2.wipe σ3 vs1 = L2.wipe σ2 vs1 ∧ tt1 σ3 H5 fun b H6 =>
        if b = true then te σ3 H6 fun y H7 => ∃ acc, H7 D = some (.lst acc) ∧ acc.length < sizeLine ∧ Nx1 (upd H7 D (.lst (acc ++ [y]))) else Nx1 H6) := by
  refine ⟨fun i m H' => m = ds1.length - i ∧ i ≤ ds1.length ∧ ∃ Z' I' M acc bd, Fill K Z1 H1 I1 D Z' H' I' M acc bd ∧ Same Z4 Z' ∧ (∃ t, I' = I4 ++ t) ∧ compL (wipeL l2 vs1) gm1 t1 em (ds1.drop i) bd M = some (ad, Mf), ⟨ds1.length, by simp, Nat.zero_le _, Z4, I4, M4, acc, bd, f, Same.refl _, ⟨[], by simp⟩, e⟩, ?_⟩
  rintro i m H' ⟨rfl, hil, Z', I', M, acc, bd, f, sz, si, e'⟩
  have Jo := q Z' H' I' sz si f.w.sub i
  by_cases hlt : i < ds1.length
  · right
    have hd : ds1[i]? = some ds1[i] := by simp [hlt]
    obtain ⟨go, yl⟩ := Jo.1 _ hd
    rw [List.drop_eq_getElem_cons hlt] at e'
    refine ⟨go, fun H2 => ∃ Z2 I2 M2 acc2 bd2, Fill K Z1 H1 I1 D Z2 H2 I2 M2 acc2 bd2 ∧ Same Z4 Z2 ∧ (∃ t, I2 = I4 ++ t) ∧ compL (wipeL l2 vs1) gm1 t1 em (ds1.drop (i + 1)) bd2 M2 = some (ad, Mf),
      fun H2 h2 => ⟨ds1.length - (i + 1), by omega, rfl, hlt, h2⟩, fun x H2 hx => ?_⟩
    obtain ⟨Z2, x2, rx⟩ := yl x H2 hx
    have f2 := f.step (f.w.extP x2) (x2.ext f.w)
    have sz2 := sz.trans x2.z
    have rs2 : RepS K Z2 I' (L2.wipe σ2 vs1) (wipeL l2 vs1) := (rs.mono2 sz2 si).wipe vs1
    unfold compL at e'
    cases zg : gm1 ds1[i] ⟨wipeL l2 vs1, M⟩ with
    | none => rw [zg] at e'; cases e'
    | some s1 =>
      rw [zg] at e'
      refine hg x ds1[i] (L2.wipe σ2 vs1) H2 ⟨wipeL l2 vs1, M⟩ s1 Z2 I' _ f2.w rs2 rx zg fun σ3 Z3 H3 I3 w3 rs3 x3 k3 => ?_
      have f3 := f2.step w3 x3
      have sz3 := sz2.trans x3.z
      have si3 := ex_app si x3.i
      refine ⟨(k3 vs1 hix).trans (wipe_wipe vs1 vs1 fun _ h => h), ?_⟩
      have e' : (match t1 s1 with
        | some (.ok (.p (.bl true)) M1) => match em ⟨s1.l, M1⟩ with
          | some (.ok (.p y) M2) => if bd.length < 1000000 then compL (wipeL l2 vs1) gm1 t1 em (ds1.drop (i + 1)) (bd ++ [y]) M2 else none
          | _ => none
        | some (.ok (.p (.bl false)) M1) => compL (wipeL l2 vs1) gm1 t1 em (ds1.drop (i + 1)) bd M1
        | _ => none) = some (ad, Mf) := e'
      cases zt : t1 s1 with
      | none => rw [zt] at e'; cases e'
      | some rt =>
        rw [zt] at e'
        refine ht.ok σ3 H3 s1 Z3 I3 rt _ w3 rs3 zt ?_
        cases rt with
        | ex c fs M4 => cases e'
        | ok d4 M4 =>
          intro b Z5 H5 I5 w4 x4 r4
          cases (show d4 = .p (.bl b) from r4)
          have f4 := f3.step w4 x4
          have sz4 := sz3.trans x4.z
          have si4 := ex_app si3 x4.i
          cases b with
          | false =>
            rw [if_neg Bool.false_ne_true]
            exact ⟨Z5, I5, M4, acc, bd, f4, sz4, si4, e'⟩
          | true =>
            rw [if_pos rfl]
            have e' : (match em ⟨s1.l, M4⟩ with
              | some (.ok (.p y) M2) => if bd.length < 1000000 then compL (wipeL l2 vs1) gm1 t1 em (ds1.drop (i + 1)) (bd ++ [y]) M2 else none
              | _ => none) = some (ad, Mf) := e'
            cases ze : em ⟨s1.l, M4⟩ with
            | none => rw [ze] at e'; cases e'
            | some re =>
              rw [ze] at e'
              refine he.ok σ3 H5 ⟨s1.l, M4⟩ Z5 I5 re _ w4 (rs3.mono x4) ze ?_
              cases re with
              | ex c fs M5 => cases e'
              | ok d5 M5 =>
                intro y Z6 H6 I6 w5 x5 r5
                have f5 := f4.step w5 x5
                cases d5 with
                | o n => cases e'
                | p d5 =>
                  have e' : (if bd.length < 1000000 then compL (wipeL l2 vs1) gm1 t1 em (ds1.drop (i + 1)) (bd ++ [d5]) M5 else none) = some (ad, Mf) := e'
                  split at e'
                  · rename_i hlen
                    refine ⟨acc, f5.at_, by rw [f5.r.length]; exact size_lt (Nat.le_of_lt hlen), ?_⟩
                    exact ⟨Z6, I6, M5, _, _, f5.put hD r5, sz4.trans x5.z, ex_app si4 x5.i, e'⟩
                  · cases e'
  · left
    have e0 : ds1.drop i = [] := List.drop_eq_nil_of_le (by omega)
    rw [e0] at e'
    cases e'
    exact ⟨Jo.2 (by omega), k Z' H' I' acc f⟩
def compL2 (l : List (Option DV)) (g : GM) (t : EM) (it1 : IM) (g1 : GM) (t1 e : EM) (vs1 : List Nat) : List DV → List D → List O → Option (List D × List O)
  | [], acc, M => some (acc, M)
  | d :: ds, acc, M => match g d ⟨l, M⟩ with
    | none => none
    | some s1 => match t s1 with
      | some (.ok (.p (.bl true)) M1) => match it1 ⟨s1.l, M1⟩ with
        | some (.ok ds1 M2) => match compL (wipeL s1.l vs1) g1 t1 e ds1 acc M2 with
          | some (acc', M3) => compL2 l g t it1 g1 t1 e vs1 ds acc' M3
          | none => none
        | _ => none
      | some (.ok (.p (.bl false)) M1) => compL2 l g t it1 g1 t1 e vs1 ds acc M1
      | _ => none
def mLc2 (it : IM) (vs : List Nat) (g : GM) (t : EM) (it1 : IM) (vs1 : List Nat) (g1 : GM) (t1 e : EM) : EM := bnd it fun ds s => match compL2 (wipeL s.l vs) g t it1 g1 t1 e vs1 ds [] s.m with
  | some (acc, M) => some (.ok (.p (.lst acc)) M)
  | none => none
theorem tLc2_ok {wi wi1 : TI} {g g1 : TG} {tt tt1 : TT} {te : TE} {vs vs1 : List Nat} {it it1 : IM} {gm gm1 : GM} {ix ix1 : List Nat} {t t1 em : EM} (hi : Sound K W (ItOk K) wi it) (hg : HG K g gm ix) (hix : ∀ i ∈ ix, i ∈ vs) (ht : Sound K WF RepB tt t)
    (hi1 : Sound K WF (ItOk K) wi1 it1) (hg1 : HG K g1 gm1 ix1) (hix1 : ∀ i ∈ ix1, i ∈ vs1) (ht1 : Sound K WF RepB tt1 t1) (he : Sound K WF (RepV K) te em) {σ : St} {H : Hp} {s : S} {Z : Hp} {I : List Addr} {r : Rs DV} {Q : VK} {k : List D → List O → Rs DV} (w : Wf K Z H I s.m) (rs : RepS K Z I σ s.l)
    (e : bnd it (fun ds s => match compL2 (wipeL s.l vs) gm t it1 gm1 t1 em vs1 ds [] s.m with | some (acc, M) => some (k acc M) | none => none) s = some r) (px : ∀ c fs M, r = .ex c fs M → PostX K W Z H I σ M c fs)
    (hk : ∀ Z1 H1 I1 D Z' H' I' M acc ad, r = k ad M → H1 D = none → Ext Z H I Z1 H1 I1 → Fill K Z1 H1 I1 D Z' H' I' M acc ad → Q (.ref D) H') : tLc2 wi g tt wi1 g1 tt1 te vs vs1 σ H Q := by
  refine hi.bnd w rs e px fun ds J M1 Z1 H1 I1 w1 rs1 x1 q1 e1 => ?_
  have e1 : (match compL2 (wipeL s.l vs) gm t it1 gm1 t1 em vs1 ds [] M1 with | some (acc, M) => some (k acc M) | none => none) = some r := e1
  cases zc : compL2 (wipeL s.l vs) gm t it1 gm1 t1 em vs1 ds [] M1 with
  | none => rw [zc] at e1; cases e1
  | some am =>
    rw [zc] at e1
    obtain ⟨ad, Mf⟩ := am
    have e1 : some (k ad Mf) = some r := e1
    intro D hD
    have f0 : Fill K Z1 H1 I1 D Z1 (upd H1 D (.lst [])) I1 M1 [] [] := by
      refine ⟨⟨fun a u q => by rw [upd_ne (ne_of_none (w1.sub a u q) hD)]; exact w1.sub a u q, w1.len, w1.nd, fun a m => by rw [upd_ne (fun q => w1.tr a m (by rw [q]; exact hD))]; exact w1.tr a m, fun n a o h1 h2 h3 => ?_⟩, ⟨Same.refl _, ⟨[], by simp⟩, fun a o q _ => by rw [upd_ne (ne_of_none q hD)]; exact q, fun _ m => .inl m, fun _ m => .inl m, fun a q => by rw [upd_ne (fun y => q (by rw [y]; exact hD))]; exact q⟩, upd_same, none_of w1.sub hD, fun m => w1.tr D m hD, .nil⟩
      obtain ⟨q1, q2⟩ := w1.ob n a o h1 h2 h3
      exact ⟨q1, q2.mono (Same.refl _) (upd_ne fun q => w1.tr a (List.mem_of_getElem? h1) (by rw [q]; exact hD))⟩
    refine ⟨fun i m H' => m = ds.length - i ∧ i ≤ ds.length ∧ ∃ Z' I' M acc bd, Fill K Z1 H1 I1 D Z' H' I' M acc bd ∧ compL2 (wipeL s.l vs) gm t it1 gm1 t1 em vs1 (ds.drop i) bd M = some (ad, Mf), ⟨ds.length, by simp, Nat.zero_le _, Z1, I1, M1, [], [], f0, zc⟩, ?_⟩
    rintro i m H' ⟨rfl, hil, Z', I', M, acc, bd, f, e'⟩
    have Jo := q1 Z' H' I' f.x.z f.x.i f.w.sub i
    by_cases hlt : i < ds.length
    · right
      have hd : ds[i]? = some ds[i] := by simp [hlt]
      obtain ⟨go, yl⟩ := Jo.1 _ hd
      rw [List.drop_eq_getElem_cons hlt] at e'
      refine ⟨go, fun H2 => ∃ Z2 I2 M2 acc2 bd2, Fill K Z1 H1 I1 D Z2 H2 I2 M2 acc2 bd2 ∧ compL2 (wipeL s.l vs) gm t it1 gm1 t1 em vs1 (ds.drop (i + 1)) bd2 M2 = some (ad, Mf),
        fun H2 h2 => ⟨ds.length - (i + 1), by omega, rfl, hlt, h2⟩, fun x H2 hx => ?_⟩
      obtain ⟨Z2, x2, rx⟩ := yl x H2 hx
      have f2 := f.step (f.w.extP x2) (x2.ext f.w)
      have rs2 : RepS K Z2 I' (L2.wipe σ vs) (wipeL s.l vs) := ((rs1.mono f2.x)).wipe vs
      unfold compL2 at e'
      cases zg : gm ds[i] ⟨wipeL s.l vs, M⟩ with
      | none => rw [zg] at e'; cases e'
      | some s1 =>
        rw [zg] at e'
        refine hg x ds[i] (L2.wipe σ vs) H2 ⟨wipeL s.l vs, M⟩ s1 Z2 I' _ f2.w rs2 rx zg fun σ3 Z3 H3 I3 w3 rs3 x3 k3 => ?_
        have f3 := f2.step w3 x3
        refine ⟨(k3 vs hix).trans (wipe_wipe vs vs fun _ h => h), ?_⟩
        have e' : (match t s1 with
          | some (.ok (.p (.bl true)) M1) => match it1 ⟨s1.l, M1⟩ with
            | some (.ok ds1 M2) => match compL (wipeL s1.l vs1) gm1 t1 em ds1 bd M2 with
              | some (acc', M3) => compL2 (wipeL s.l vs) gm t it1 gm1 t1 em vs1 (ds.drop (i + 1)) acc' M3
              | none => none
            | _ => none
          | some (.ok (.p (.bl false)) M1) => compL2 (wipeL s.l vs) gm t it1 gm1 t1 em vs1 (ds.drop (i + 1)) bd M1
          | _ => none) = some (ad, Mf) := e'
        cases zt : t s1 with
        | none => rw [zt] at e'; cases e'
        | some rt =>
          rw [zt] at e'
          refine ht.ok σ3 H3 s1 Z3 I3 rt _ w3 rs3 zt ?_
          cases rt with
          | ex c fs M4 => cases e'
          | ok d4 M4 =>
            intro b Z4 H4 I4 w4 x4 r4
            cases (show d4 = .p (.bl b) from r4)
            have f4 := f3.step w4 x4
            cases b with
            | false =>
              rw [if_neg Bool.false_ne_true]
              exact ⟨Z4, I4, M4, acc, bd, f4, e'⟩
            | true =>
              rw [if_pos rfl]
              have e' : (match it1 ⟨s1.l, M4⟩ with
                | some (.ok ds1 M2) => match compL (wipeL s1.l vs1) gm1 t1 em ds1 bd M2 with
                  | some (acc', M3) => compL2 (wipeL s.l vs) gm t it1 gm1 t1 em vs1 (ds.drop (i + 1)) acc' M3
                  | none => none
                | _ => none) = some (ad, Mf) := e'
              cases zi : it1 ⟨s1.l, M4⟩ with
              | none => rw [zi] at e'; cases e'
              | some ri =>
                rw [zi] at e'
                refine hi1.ok σ3 H4 ⟨s1.l, M4⟩ Z4 I4 ri _ w4 (rs3.mono x4) zi ?_
                cases ri with
                | ex c fs M5 => cases e'
                | ok ds1 M5 =>
                  intro J1 Z5 H5 I5 w5 x5 q5
                  have f5 := f4.step w5 x5
                  have e' : (match compL (wipeL s1.l vs1) gm1 t1 em ds1 bd M5 with
                    | some (acc', M3) => compL2 (wipeL s.l vs) gm t it1 gm1 t1 em vs1 (ds.drop (i + 1)) acc' M3
                    | none => none) = some (ad, Mf) := e'
                  cases zl : compL (wipeL s1.l vs1) gm1 t1 em ds1 bd M5 with
                  | none => rw [zl] at e'; cases e'
                  | some am =>
                    rw [zl] at e'
                    obtain ⟨ad1, M6⟩ := am
                    have e' : compL2 (wipeL s.l vs) gm t it1 gm1 t1 em vs1 (ds.drop (i + 1)) ad1 M6 = some (ad, Mf) := e'
                    exact inner_ok hg1 hix1 ht1 he hD q5 ((rs3.mono x4).mono x5) f5 zl fun Z7 H7 I7 acc7 f7 => ⟨Z7, I7, M6, acc7, ad1, f7, e'⟩
    · left
      have e0 : ds.drop i = [] := List.drop_eq_nil_of_le (by omega)
      rw [e0] at e'
      cases e'
      exact ⟨Jo.2 (by omega), hk Z1 H1 I1 D Z' H' I' _ acc _ (Option.some.inj e1).symm hD x1 f⟩
section
variable {ifs ifs1 : List Expr} {scope : Scope} {own : List (Str × Nat)} {wi wi1 : TI} {g g1 : TG} {tt tt1 : TT} {te : TE} {it it1 : IM} {gm gm1 : GM} {ix ix1 : List Nat} {t t1 em : EM}
theorem so_lc2 {vs vs1 : List Nat} (hi : Sound K W (ItOk K) wi it) (hg : HG K g gm ix) (hix : ∀ i ∈ ix, i ∈ vs) (ht : Sound K WF RepB tt t) (hi1 : Sound K WF (ItOk K) wi1 it1) (hg1 : HG K g1 gm1 ix1) (hix1 : ∀ i ∈ ix1, i ∈ vs1) (ht1 : Sound K WF RepB tt1 t1) (he : Sound K WF (RepV K) te em) :
    Sound K W (RepV K) (tLc2 wi g tt wi1 g1 tt1 te vs vs1) (mLc2 it vs gm t it1 vs1 gm1 t1 em) := ⟨fun σ H s Z I r Q w rs e p => by
  refine tLc2_ok hi hg hix ht hi1 hg1 hix1 ht1 he (k := fun acc M => .ok (.p (.lst acc)) M) w rs e p.x fun Z1 H1 I1 D Z' H' I' M acc ad er h0 x1 f => ?_
  subst er
  obtain ⟨w', x'⟩ := f.frz h0
  exact p _ _ H' I' w' (x1.trans x') (.lst (.inl upd_same) (f.r.mono (same_upd f.nz)))⟩
theorem de_lc2 {vs vs1 : List Nat} (hN : X.N.Nodup) (hc : X.calm = true) (hi : DI K X W tg iter wi it) (ok : BlkOk X.N X.env.scope scope own)
    (hg : ∀ (s : Shared) (H : Hp) (C : Addr) (cl : List (Str × Addr)) (fp : List Addr), DG K (X.blk s H scope (compEnvC scope cl C X.env) fp) tg g gm ix) (ht : ∀ (s : Shared) (H : Hp) (C : Addr) (cl : List (Str × Addr)) (fp : List Addr), DPT K (X.blk s H scope (compEnvC scope cl C X.env) fp) ifs tt t)
    (hi1 : ∀ (s : Shared) (H : Hp) (C : Addr) (cl : List (Str × Addr)) (fp : List Addr), DI K (X.blk s H scope (compEnvC scope cl C X.env) fp) WF tg1 iter1 wi1 it1)
    (hg1 : ∀ (s : Shared) (H : Hp) (C : Addr) (cl : List (Str × Addr)) (fp : List Addr), DG K (X.blk s H scope (compEnvC scope cl C X.env) fp) tg1 g1 gm1 ix1) (ht1 : ∀ (s : Shared) (H : Hp) (C : Addr) (cl : List (Str × Addr)) (fp : List Addr), DPT K (X.blk s H scope (compEnvC scope cl C X.env) fp) ifs1 tt1 t1)
    (he : ∀ (s : Shared) (H : Hp) (C : Addr) (cl : List (Str × Addr)) (fp : List Addr), DE K (X.blk s H scope (compEnvC scope cl C X.env) fp) WF elt te em) (hix : ∀ i ∈ ix, i ∈ own.map (·.2) := by decide) (hix1 : ∀ i ∈ ix1, i ∈ vs1 := by decide) (hv1 : ∀ i ∈ vs1, i ∈ own.map (·.2) := by decide)
    (hs : ∀ x, foldedSetIterable iter X.env x = pure x := by intro _; rfl) (hs1 : ∀ env x, foldedSetIterable iter1 env x = pure x := by intro _ _; rfl) (hv : own.map (·.2) = vs := by rfl) :
    DE K X W (.ListComp elt [⟨tg, iter, ifs, 0⟩, ⟨tg1, iter1, ifs1, 0⟩] scope pos) (tLc2 wi g tt wi1 g1 tt1 te vs vs1) (mLc2 it vs gm t it1 vs1 gm1 t1 em) := by
  subst hv
  exact ⟨hi.k, pe_lc2 hc hN hi.pi ok hv1 (fun s H C cl fp => (hg s H C cl fp).pg) (fun s H C cl fp => (ht s H C cl fp).pt) (fun s H C cl fp => (hi1 s H C cl fp).pi) (fun s H C cl fp => (hg1 s H C cl fp).pg) (fun s H C cl fp => (ht1 s H C cl fp).pt) (fun s H C cl fp => (he s H C cl fp).pe) hs hs1,
    so_lc2 hi.so (hg {} (fun _ => none) 0 [] []).ok hix (ht {} (fun _ => none) 0 [] []).so (hi1 {} (fun _ => none) 0 [] []).so (hg1 {} (fun _ => none) 0 [] []).ok hix1 (ht1 {} (fun _ => none) 0 [] []).so (he {} (fun _ => none) 0 [] []).so⟩
theorem ds_setLc2 {i : Nat} {vs vs1 : List Nat} {y : Str} {py spos : Pos} (hN : X.N.Nodup) (hc : X.calm = true) (hi : DI K X W tg iter wi it) (ok : BlkOk X.N X.env.scope scope own)
    (hg : ∀ (s : Shared) (H : Hp) (C : Addr) (cl : List (Str × Addr)) (fp : List Addr), DG K (X.blk s H scope (compEnvC scope cl C X.env) fp) tg g gm ix) (ht : ∀ (s : Shared) (H : Hp) (C : Addr) (cl : List (Str × Addr)) (fp : List Addr), DPT K (X.blk s H scope (compEnvC scope cl C X.env) fp) ifs tt t)
    (hi1 : ∀ (s : Shared) (H : Hp) (C : Addr) (cl : List (Str × Addr)) (fp : List Addr), DI K (X.blk s H scope (compEnvC scope cl C X.env) fp) WF tg1 iter1 wi1 it1)
    (hg1 : ∀ (s : Shared) (H : Hp) (C : Addr) (cl : List (Str × Addr)) (fp : List Addr), DG K (X.blk s H scope (compEnvC scope cl C X.env) fp) tg1 g1 gm1 ix1) (ht1 : ∀ (s : Shared) (H : Hp) (C : Addr) (cl : List (Str × Addr)) (fp : List Addr), DPT K (X.blk s H scope (compEnvC scope cl C X.env) fp) ifs1 tt1 t1)
    (he : ∀ (s : Shared) (H : Hp) (C : Addr) (cl : List (Str × Addr)) (fp : List Addr), DE K (X.blk s H scope (compEnvC scope cl C X.env) fp) WF elt te em) (hy : X.N[i]? = some y := by rfl) (hyl : X.env.scope.names.lookup y = some .local := by rfl)
    (hsw : swapsWith (.ListComp elt [⟨tg, iter, ifs, 0⟩, ⟨tg1, iter1, ifs1, 0⟩] scope pos) (some (.Name y py)) spos.line X.env = pure true := by exact sw_true rfl rfl rfl (by decide +kernel)) (hix : ∀ i ∈ ix, i ∈ own.map (·.2) := by decide) (hix1 : ∀ i ∈ ix1, i ∈ vs1 := by decide) (hv1 : ∀ i ∈ vs1, i ∈ own.map (·.2) := by decide)
    (hs : ∀ x, foldedSetIterable iter X.env x = pure x := by intro _; rfl) (hs1 : ∀ env x, foldedSetIterable iter1 env x = pure x := by intro _ _; rfl) (hv : own.map (·.2) = vs := by rfl) :
    DS K X W (.Assign [.Name y py] (.ListComp elt [⟨tg, iter, ifs, 0⟩, ⟨tg1, iter1, ifs1, 0⟩] scope pos) spos) (tAsg (tLc2 wi g tt wi1 g1 tt1 te vs vs1) (gName i)) (sAsg (mLc2 it vs gm t it1 vs1 gm1 t1 em) (gN i)) := by
  subst hv
  exact ⟨hi.k, ps_setLc2 hc hN hy hyl hsw hi.pi ok hv1 (fun s H C cl fp => (hg s H C cl fp).pg) (fun s H C cl fp => (ht s H C cl fp).pt) (fun s H C cl fp => (hi1 s H C cl fp).pi) (fun s H C cl fp => (hg1 s H C cl fp).pg) (fun s H C cl fp => (ht1 s H C cl fp).pt) (fun s H C cl fp => (he s H C cl fp).pe) hs hs1,
    so_asg (so_lc2 hi.so (hg {} (fun _ => none) 0 [] []).ok hix (ht {} (fun _ => none) 0 [] []).so (hi1 {} (fun _ => none) 0 [] []).so (hg1 {} (fun _ => none) 0 [] []).ok hix1 (ht1 {} (fun _ => none) 0 [] []).so (he {} (fun _ => none) 0 [] []).so) (dg_name hN hi.k hy (.inl hyl) (.inr hyl) : DG K X (.Name y py) _ _ _)⟩
end
end
end DL
namespace DL
open PySem L2
end DL
namespace DL
open PySem L2
section
variable {K : PySem.W.Frag} {X : Cx} {W : WX} {e a b c : Expr} {es : List Expr} {pos : Pos}
/-! ### a dict of the module, keys texts -/
structure GD (K : PySem.W.Frag) (w : World) (mg : Str → Option Value) (x : Str) (kvs : List (Str × D)) where
  a : Addr
  m : mg x = some (.ref a)
  at_ : ∀ z d, kvs.lookup z = some d → ∃ v, KDct K w a z v ∧ ∀ Z, Rep K Z v d
/-! ### dicts with keys ints and texts -/
def keyD : D → Option Key
  | .int i => some (.inl i)
  | .str x => some (.inr x)
  | _ => none
def valD (kvs : List (Key × D)) (k : Key) : Option D := (kvs.find? fun kv => decide (kv.1 = k)).map (·.2)
def getD (d k : D) : Option (Option D) := match d with
  | .dK kvs => (keyD k).map (valD kvs)
  | _ => none
end
end DL
namespace DL
open PySem L2
section
variable {K : PySem.W.Frag} {X : Cx} {W : WX} {pos : Pos}
end
end DL
namespace DL
open PySem L2 PySem.W
/-! ### sorted: the data -/
def tupNE : PyData → Bool
  | .tuple (_ :: _) => true
  | _ => false
def plainK : PyData → Bool
  | .none => false
  | .tuple _ => false
  | _ => true
def sortOk (ks : List PyData) : Bool := (ks.all tupNE || ks.all plainK) && ks.all fun d => ks.all fun e => alike d e
theorem sortOk_like {ks : List PyData} (h : sortOk ks = true) : AllAlike ks := by
  intro d hd e he
  unfold sortOk at h
  rw [Bool.and_eq_true] at h
  exact List.all_eq_true.mp (List.all_eq_true.mp h.2 d hd) e he
theorem sortOk_sortable {ks : List PyData} (h : sortOk ks = true) : Sortable ks := by
  unfold sortOk at h
  rw [Bool.and_eq_true, Bool.or_eq_true] at h
  rcases h.1 with q | q
  · refine .inl fun d hd => ?_
    have z := List.all_eq_true.mp q d hd
    unfold tupNE at z
    split at z
    · exact ⟨_, _, rfl⟩
    · cases z
  · refine .inr fun d hd => ?_
    have z := List.all_eq_true.mp q d hd
    refine ⟨fun e => ?_, fun xs e => ?_⟩ <;> subst e <;> cases z
noncomputable def sortBy (ds ks : List D) : List D := ((ds.zip ks).mergeSort (dataLe false fun p => toP p.2)).map (·.1)
def keysM (f : MA) : List D → Option (List D)
  | [] => some []
  | d :: r => match f [d] with
    | some (.ok k) => match keysM f r with
      | some ks => some (k :: ks)
      | none => none
    | _ => none
theorem toPs_map : ∀ ds : List D, toPs ds = ds.map toP
  | [] => rfl
  | d :: r => by show toP d :: toPs r = _; rw [toPs_map r]; rfl
section
variable {X : Cx} {pins : List (Addr × Obj)} {σ : St} {H : Hp} {s : Shared}
end
/-! ### what sorted goes over: a list, or the keys of a dict -/
section
variable {K : PySem.W.Frag}
def kD : Key → D
  | .inl i => .int i
  | .inr s => .str s
end
section
open PySem.Spec PyProof.Rows
variable {X : Cx} {pins : List (Addr × Obj)} {σ : L2.St} {H Z : Hp} {s : Shared}
end
end DL
namespace DL
open PySem L2 PySem.W
open PyProof.Rows (seqObj get?_update_seq listUpdate_at listItems_at seqEpoch_at size_push' ksk_rest ksk_fold ksk_tree ksk_t1)
def atS (a : Addr) (xs : Array Value) (n : Nat) : HO := .ext fun h => h.get? a = some (seqObj "list" xs n)
section
variable {X : Cx} {pins : List (Addr × Obj)} {σ : St} {H Z : Hp} {s : Shared}
structure Turn (X : Cx) (pins : List (Addr × Obj)) (σ : St) (Z H : Hp) (a kS : Addr) (e1 : Nat) (ks : List D) (j : Nat) (s' : Shared) : Prop where
  ex : ∃ (Hj Zj : Hp) (kA : Array Value) (e : Nat) (kvs : List V), Inv X pins σ Hj s' ∧ ExtP Z H Zj Hj ∧ Hj kS = some (atS kS kA e) ∧ Hj a = some (atS a #[] e1) ∧ Zj kS = none ∧ Zj a = none ∧ Vals kvs kA.toList ∧ RepA X.K Zj kvs (ks.take j)
theorem Same.outer {Z1 H1 : Hp} {a : Addr} {o : HO} (h : Same Z1 H1) (e : Z1 a = none) : Same Z1 (upd H1 a o) := fun b u q => by
  rw [upd_ne (ne_of_none q e)]; exact h b u q
end
end DL
namespace DL
open PySem L2 PySem.W
open PyProof.Rows (seqObj get?_update_seq listUpdate_at listItems_at seqEpoch_at size_push' ksk_rest ksk_fold ksk_tree ksk_t1 ksk_s1 ksk_l1)
section
variable {X : Cx} {pins : List (Addr × Obj)} {σ : St} {H Z : Hp} {s : Shared}
/-- the mirror -/
noncomputable def sortKD (f : MA) : D → Option D
  | .lst ds => match keysM f ds with
    | some ks => if (ks.all shp && sortOk (toPs ks)) = true then some (.lst (sortBy ds ks)) else none
    | none => none
  | .dT kvs => match keysM f (kvs.map fun p => D.tup (p.1.map kD)) with
    | some ks => if (ks.all shp && sortOk (toPs ks)) = true then some (.lst (sortBy (kvs.map fun p => D.tup (p.1.map kD)) ks)) else none
    | none => none
  | _ => none
noncomputable def mSortK (f : MA) (m : EM) : EM := bnd m (pur fun d => ret (sortKD f d))
end
@[simp] theorem e_add2I (i j : Int) : dAdd2 (.int i) (.int j) = some (.int (i + j)) := rfl
@[simp] theorem e_add2S (x y : Str) : dAdd2 (.str x) (.str y) = if x.length + y.length ≤ 1000000 then some (.str (x ++ y)) else none := rfl
@[simp] theorem e_add2L (x y : List D) : dAdd2 (.lst x) (.lst y) = if x.length + y.length ≤ 1000000 then some (.lst (x ++ y)) else none := rfl
@[simp] theorem e_inDL (xs ys : List D) : inD (.tup xs) (.lst ys) = if (shp (.tup xs) && shp (.lst ys)) = true then some (ys.any fun z => deq z (.tup xs)) else none := rfl
@[simp] theorem e_sortK (f : MA) (m : EM) (s : S) : mSortK f m s = (bnd m (pur fun d => ret (sortKD f d))) s := rfl
/-- pairs of ints as keys -/
theorem sortOk_ii {α : Type} (l : List α) (a b : α → Int) : sortOk (toPs (l.map fun x => D.tup [.int (a x), .int (b x)])) = true := by
  rw [toPs_map, List.map_map]
  unfold sortOk
  rw [Bool.and_eq_true, Bool.or_eq_true]
  refine ⟨.inl (List.all_eq_true.mpr fun d hd => ?_), List.all_eq_true.mpr fun d hd => List.all_eq_true.mpr fun e he => ?_⟩
  · obtain ⟨x, _, rfl⟩ := List.mem_map.mp hd; rfl
  · obtain ⟨x, _, rfl⟩ := List.mem_map.mp hd
    obtain ⟨y, _, rfl⟩ := List.mem_map.mp he
    simp [toP, toPs, alike, alikeAll]
section
variable {K : PySem.W.Frag} {X : Cx} {W : WX} {e : Expr} {pos p p2 kp : Pos}
end
end DL
namespace DL
open PySem L2
/-! ### dicts: one's own, and data; keys ints and texts, or tuples of them -/
section
variable {α κ : Type} [DecidableEq κ]
def valO (kvs : List (κ × α)) (k : κ) : Option α := (kvs.find? fun kv => decide (kv.1 = k)).map (·.2)
def putO (kvs : List (κ × α)) (k : κ) (v : α) : List (κ × α) :=
  if (kvs.any fun kv => decide (kv.1 = k)) = true then kvs.map (fun kv => if kv.1 = k then (kv.1, v) else kv) else kvs ++ [(k, v)]
def dropO (kvs : List (κ × α)) (k : κ) : List (κ × α) := kvs.filter fun kv => decide (kv.1 ≠ k)
end
def keysD : List D → Option (List Key)
  | [] => some []
  | d :: r => match keyD d, keysD r with
    | some k, some ks => some (k :: ks)
    | _, _ => none
def keyT : D → Option (List Key)
  | .tup xs => keysD xs
  | _ => none
section
variable {K : PySem.W.Frag} {X : Cx} {W : WX} {e a b c : Expr} {es : List Expr} {pos : Pos} {Z H : Hp} {I : List Addr} {M : List O}
section
variable {κ : Type} [DecidableEq κ]
theorem anyP_rep {ks : List (κ × V)} {ds : List (κ × DV)} (r : Paired (FRel K Z I) ks ds) (k : κ) : (ks.any fun kv => decide (kv.1 = k)) = ds.any fun kv => decide (kv.1 = k) := by
  induction r with
  | nil => rfl
  | @cons p q ps qs h t ih => rw [List.any_cons, List.any_cons, ih, h.1]
theorem mapP_rep {ks : List (κ × V)} {ds : List (κ × DV)} (k : κ) {v : V} {d : DV} (h : RepV K Z I v d) (r : Paired (FRel K Z I) ks ds) : Paired (FRel K Z I) (ks.map (fun kv => if kv.1 = k then (kv.1, v) else kv)) (ds.map (fun kv => if kv.1 = k then (kv.1, d) else kv)) := by
  induction r with
  | nil => exact .nil
  | @cons p q ps qs g t ih =>
    refine .cons ?_ ih
    show FRel K Z I (if p.1 = k then (p.1, v) else p) (if q.1 = k then (q.1, d) else q)
    by_cases z : p.1 = k
    · rw [if_pos z, if_pos (g.1.symm.trans z)]; exact ⟨g.1, h⟩
    · rw [if_neg z, if_neg (fun y => z (g.1.trans y))]; exact g
theorem putP_rep {ks : List (κ × V)} {ds : List (κ × DV)} (r : Paired (FRel K Z I) ks ds) (k : κ) {v : V} {d : DV} (h : RepV K Z I v d) : Paired (FRel K Z I) (putK ks k v) (putO ds k d) := by
  unfold putK putO
  rw [anyP_rep r k]
  split
  · exact mapP_rep k h r
  · exact paired_app r (.cons ⟨rfl, h⟩ .nil)
end
/-- the dict that a value is -/
inductive Dc where
  | k (kvs : List (Key × DV)) | t (kvs : List (List Key × DV))
def dcM (M : List O) : DV → Option Dc
  | .p (.dK kvs) => some (.k (kvs.map fun p => (p.1, .p p.2)))
  | .p (.dT kvs) => some (.t (kvs.map fun p => (p.1, .p p.2)))
  | .o n => match M[n]? with
    | some (.dK kvs) => some (.k kvs)
    | some (.dT kvs) => some (.t kvs)
    | _ => none
  | _ => none
def getC : Dc → D → Option (Option DV)
  | .k kvs, k => (keyD k).map (valO kvs)
  | .t kvs, k => (keyT k).map (valO kvs)
def getM (M : List O) (d : DV) (k : D) : Option (Option DV) := match dcM M d with
  | some c => getC c k
  | none => none
/-- d[k] -/
def dgK (d : DV) (k : D) : EM := fun s => match getM s.m d k with
  | some (some v) => some (.ok v s.m)
  | _ => none
def mDget (m n : EM) : EM := bnd m fun d => bnd n (pur (dgK d))
/-- k in d, k not in d -/
def dinK (neg : Bool) (k : D) (d : DV) : EM := fun s => match getM s.m d k with
  | some o => some (.ok (.p (.bl (if neg then !o.isSome else o.isSome))) s.m)
  | _ => none
def mDin (neg : Bool) (m n : EM) : EM := bnd m (pur fun k => bnd n (dinK neg k))
/-- d[k] = v at a dict of one's own -/
def putM (M : List O) (n : Nat) (k : D) (v : DV) : Option (List O) := match M[n]? with
  | some (.dK ds) => match keyD k with
    | some kk => if ds.length < 1000000 then some (M.set n (.dK (putO ds kk v))) else none
    | none => none
  | some (.dT ds) => match keyT k with
    | some kk => if ds.length < 1000000 then some (M.set n (.dT (putO ds kk v))) else none
    | none => none
  | _ => none
def sPutK (v d : DV) (k : D) : SM := fun s => match d with
  | .o n => match putM s.m n k v with
    | some M => some (.nx, ⟨s.l, M⟩)
    | none => none
  | _ => none
def purS (k : D → SM) : DV → SM
  | .p d, s => k d s
  | .o _, _ => none
def sPut (mv md mk : EM) : SM := liftS mv fun v => liftS md fun d => liftS mk (purS fun k => sPutK v d k)
/-- {} of one's own -/
def mDnew (o : O) : EM := fun s => some (.ok (.o s.m.length) (s.m ++ [o]))
def gGet : MtG := fun d ds s => match ds with
  | [.p k] => match getM s.m d k with
    | some (some v) => some (.ok v s.m)
    | some none => some (.ok (.p .non) s.m)
    | none => none
  | [.p k, z] => match getM s.m d k with
    | some (some v) => some (.ok v s.m)
    | some none => some (.ok z s.m)
    | none => none
  | _ => none
/-! ### l.pop(i) of one's own -/
def gPopAt : MtG := fun d ds s => match d, ds with
  | .o n, [.p (.int 0)] => match s.m[n]? with
    | some (.lst (x :: xs)) => some (.ok x (s.m.set n (.lst xs)))
    | _ => none
  | _, _ => none
/-! ### ranges as data -/
def dRng1 : D → Option D
  | .int j => some (.rng 0 j)
  | _ => none
def dInR (neg : Bool) : D → D → Option D
  | .int i, .rng lo hi => some (.bl (if neg then !decide (lo ≤ i ∧ i < hi) else decide (lo ≤ i ∧ i < hi)))
  | _, _ => none
/-! ### l.index(x), flat items -/
def flatD : D → Bool
  | .non => true
  | .bl _ => true
  | .int _ => true
  | .str _ => true
  | _ => false
def findJ (x : D) : List D → Nat → Option Nat
  | [], _ => none
  | y :: ys, j => if deq y x = true then some j else findJ x ys (j + 1)
def dLindex : D → List D → Option D
  | .lst ys, [x] => if flatD x = true ∧ ys.all flatD = true then (findJ x ys 0).map fun (j : Nat) => .int (j : Int) else none
  | .klst ys, [x] => if flatD x = true ∧ ys.all flatD = true then (findJ x ys 0).map fun (j : Nat) => .int (j : Int) else none
  | _, _ => none
/-! ### from here on it stays: a name's own object is given up -/
def frzO : O → Option D
  | .lst ds => (allP ds).map .lst
  | _ => none
def sFrz (i : Nat) : SM := fun s => match gv s.l i with
  | some (.o n) => match s.m[n]? with
    | some o => match frzO o with
      | some d => some (.nx, ⟨s.l.set i (some (.p d)), s.m.set n .gone⟩)
      | none => none
    | none => none
  | _ => none
end
end DL
namespace DL
open PySem L2
/-! equations of DL31, and data that stand for values of a type -/
@[simp] theorem e_dget (m n : EM) (s : S) : mDget m n s = (bnd m fun d => bnd n (pur (dgK d))) s := rfl
@[simp] theorem e_dgK (d : DV) (k : D) (s : S) : dgK d k s = (match getM s.m d k with | some (some v) => some (.ok v s.m) | _ => none) := rfl
@[simp] theorem e_din (neg : Bool) (m n : EM) (s : S) : mDin neg m n s = (bnd m (pur fun k => bnd n (dinK neg k))) s := rfl
@[simp] theorem e_dinK (neg : Bool) (k : D) (d : DV) (s : S) : dinK neg k d s = (match getM s.m d k with | some o => some (.ok (.p (.bl (if neg then !o.isSome else o.isSome))) s.m) | _ => none) := rfl
@[simp] theorem e_put (mv md mk : EM) (s : S) : sPut mv md mk s = (liftS mv fun v => liftS md fun d => liftS mk (purS fun k => sPutK v d k)) s := rfl
@[simp] theorem e_purS (k : D → SM) (d : D) (s : S) : purS k (.p d) s = k d s := rfl
@[simp] theorem e_putK (v : DV) (n : Nat) (k : D) (s : S) : sPutK v (.o n) k s = (match putM s.m n k v with | some M => some (.nx, ⟨s.l, M⟩) | none => none) := rfl
@[simp] theorem e_dnew (o : O) (s : S) : mDnew o s = some (.ok (.o s.m.length) (s.m ++ [o])) := rfl
@[simp] theorem e_get1 (d : DV) (k : D) (s : S) : gGet d [.p k] s = (match getM s.m d k with | some (some v) => some (.ok v s.m) | some none => some (.ok (.p .non) s.m) | none => none) := rfl
@[simp] theorem e_get2 (d : DV) (k : D) (z : DV) (s : S) : gGet d [.p k, z] s = (match getM s.m d k with | some (some v) => some (.ok v s.m) | some none => some (.ok z s.m) | none => none) := rfl
@[simp] theorem e_popAt (n : Nat) (s : S) : gPopAt (.o n) [.p (.int 0)] s = (match s.m[n]? with | some (.lst (x :: xs)) => some (.ok x (s.m.set n (.lst xs))) | _ => none) := rfl
@[simp] theorem e_rngD (j : Int) : dRng1 (.int j) = some (.rng 0 j) := rfl
@[simp] theorem e_inR0 (i lo hi : Int) : dInR false (.int i) (.rng lo hi) = some (.bl (decide (lo ≤ i ∧ i < hi))) := rfl
@[simp] theorem e_inR1 (i lo hi : Int) : dInR true (.int i) (.rng lo hi) = some (.bl (!decide (lo ≤ i ∧ i < hi))) := rfl
@[simp] theorem e_sfrz (i : Nat) (s : S) : sFrz i s = (match gv s.l i with
  | some (.o n) => match s.m[n]? with
    | some o => match frzO o with
      | some d => some (.nx, ⟨s.l.set i (some (.p d)), s.m.set n .gone⟩)
      | none => none
    | none => none
  | _ => none) := rfl
@[simp] theorem e_frzL (xs : List DV) : frzO (.lst xs) = (allP xs).map .lst := rfl
@[simp] theorem e_lindex (ys : List D) (x : D) : dLindex (.lst ys) [x] = if flatD x = true ∧ ys.all flatD = true then (findJ x ys 0).map fun (j : Nat) => .int (j : Int) else none := rfl
@[simp] theorem e_flatI (i : Int) : flatD (.int i) = true := rfl
@[simp] theorem e_flatS (i : Str) : flatD (.str i) = true := rfl
@[simp] theorem e_tyOkP (M : List O) (xs : List D) : tyOk "list" M (.p (.lst xs)) = true := rfl
/-! equality -/
theorem scal_deq {d e : D} {b : Bool} (h : scalD d e = some b) : b = deq d e := by
  unfold scalD at h
  split at h <;> first | (cases h; rfl) | cases h
theorem eqD_shp {d e : D} (h1 : shp d = true) (h2 : shp e = true) : eqD d e = some (deq d e) := by
  unfold eqD
  split
  · rename_i h; rw [scal_deq h]
  · rw [h1, h2]; rfl
theorem inD_shp {d : D} {ds : List D} (h1 : shp d = true) (h2 : shp (.lst ds) = true) : inD d (.lst ds) = some (ds.any fun z => deq z d) := by
  have e : inD d (.lst ds) = if (shp d && shp (.lst ds)) = true then some (ds.any fun z => deq z d) else none := by cases d <;> rfl
  rw [e, h1, h2]; rfl
/-- values of a type, as data -/
class En (α : Type) [DecidableEq α] where
  en : α → D
  dq : ∀ a b, deq (en a) (en b) = decide (a = b)
  ok : ∀ a, okD (en a) = true
  dp : Nat
  dpl : ∀ a, depD (en a) ≤ dp
section
variable {α β : Type} [DecidableEq α] [DecidableEq β] [En α] [En β]
instance : En Int := ⟨.int, fun a b => by simp, fun _ => rfl, 0, fun _ => Nat.le_refl _⟩
instance : En Bool := ⟨.bl, fun a b => by simp, fun _ => rfl, 0, fun _ => Nat.le_refl _⟩
theorem deqs_en : ∀ l m : List α, deqs (l.map En.en) (m.map En.en) = decide (l = m)
  | [], [] => rfl
  | [], y :: ys => by simp
  | x :: xs, [] => by simp
  | x :: xs, y :: ys => by
    rw [List.map_cons, List.map_cons, e_deqs1, En.dq, deqs_en xs ys]
    by_cases h1 : x = y <;> by_cases h2 : xs = ys <;> simp [h1, h2]
theorem okDs_en : ∀ l : List α, okDs (l.map En.en) = true
  | [] => rfl
  | x :: xs => by rw [List.map_cons, e_ok1, En.ok, okDs_en xs]; rfl
theorem depDs_en : ∀ l : List α, depDs (l.map En.en) ≤ En.dp α
  | [] => Nat.zero_le _
  | x :: xs => by rw [List.map_cons, e_dp1]; exact Nat.max_le.mpr ⟨En.dpl x, depDs_en xs⟩
instance : En (α × β) := ⟨fun p => .tup [En.en p.1, En.en p.2], fun a b => by
    obtain ⟨a1, a2⟩ := a; obtain ⟨b1, b2⟩ := b
    by_cases h1 : a1 = b1 <;> by_cases h2 : a2 = b2 <;> simp [En.dq, h1, h2], fun a => by simp [En.ok], max (En.dp α) (En.dp β) + 1, fun a => by
    have h1 := En.dpl a.1; have h2 := En.dpl a.2
    simp; omega⟩
instance : En (List α) := ⟨fun l => .lst (l.map En.en), deqs_en, okDs_en, En.dp α + 1, fun l => Nat.succ_le_succ (depDs_en l)⟩
theorem shp_en (a : α) (h : En.dp α ≤ 64) : shp (En.en a) = true := by
  have := En.dpl a
  rw [e_shp, En.ok]; simp; omega
theorem eqD_en (a b : α) (h : En.dp α ≤ 64) : eqD (En.en a) (En.en b) = some (decide (a = b)) := by
  rw [eqD_shp (shp_en a h) (shp_en b h), En.dq]
theorem any_en (a : α) : ∀ l : List α, ((l.map En.en).any fun z => deq z (En.en a)) = decide (a ∈ l)
  | [] => rfl
  | x :: xs => by
    rw [List.map_cons, List.any_cons, En.dq, any_en a xs]
    by_cases h1 : x = a <;> by_cases h2 : a ∈ xs <;> simp [h1, h2, eq_comm]
    all_goals (intro h; exact absurd h.symm h1)
theorem inD_en (a : α) (l : List α) (h : En.dp α + 1 ≤ 64) : inD (En.en a) (.lst (l.map En.en)) = some (decide (a ∈ l)) := by
  rw [inD_shp (shp_en a (by omega)) (shp_en (α := List α) l h), any_en]
end
end DL
namespace DL
open PySem L2
/-! data whose text is short -/
theorem int_rb (i : Int) (h : i.natAbs ≤ 1000000000000000000) : rb (.int i) ≤ 100 := by
  have hl : i.natAbs.log2 < 64 := by
    by_cases h0 : i.natAbs = 0
    · rw [h0]; decide
    · exact (Nat.log2_lt h0).mpr (by omega)
  show (intS i).length ≤ 100
  have := int_text_length_le (k := 64) (by decide) hl
  unfold intS
  rw [ofString_length]
  omega
/-- data of depth n at most, whose text has w signs at most -/
structure Sm (n w : Nat) (d : D) : Prop where
  ok : okD d = true
  dp : depD d ≤ n
  sh : showD d = true
  rb : rb d ≤ w
theorem Sm.int {n w : Nat} {i : Int} (h : i.natAbs ≤ 1000000000000000000) (hw : 100 ≤ w) : Sm n w (.int i) := ⟨rfl, Nat.zero_le _, logOk_of h, Nat.le_trans (int_rb i h) hw⟩
theorem Sm.bl {n w : Nat} {i : Bool} (hw : 5 ≤ w) : Sm n w (.bl i) := ⟨rfl, Nat.zero_le _, rfl, hw⟩
theorem Sm.non {n w : Nat} (hw : 5 ≤ w) : Sm n w .non := ⟨rfl, Nat.zero_le _, rfl, hw⟩
theorem Sm.mono {n w n' w' : Nat} {d : D} (h : Sm n w d) (hn : n ≤ n') (hw : w ≤ w') : Sm n' w' d := ⟨h.ok, Nat.le_trans h.dp hn, h.sh, Nat.le_trans h.rb hw⟩
theorem sm_all {n w : Nat} : ∀ {ds : List D}, (∀ d ∈ ds, Sm n w d) → okDs ds = true ∧ depDs ds ≤ n ∧ showDs ds = true ∧ rbs ds ≤ (w + 2) * ds.length
  | [], _ => ⟨rfl, Nat.zero_le _, rfl, Nat.zero_le _⟩
  | d :: ds, h => by
    have h1 := h d (by simp)
    obtain ⟨a, b, c, e⟩ := sm_all (n := n) (w := w) (ds := ds) fun x hx => h x (List.mem_cons_of_mem _ hx)
    refine ⟨by rw [e_ok1, h1.ok, a]; rfl, by rw [e_dp1]; exact Nat.max_le.mpr ⟨h1.dp, b⟩, ?_, ?_⟩
    · show (showD d && showDs ds) = true
      rw [h1.sh, c]; rfl
    · show DL.rb d + 2 + rbs ds ≤ (w + 2) * (ds.length + 1)
      have := h1.rb
      rw [Nat.mul_succ]
      omega
theorem Sm.lst {n w v : Nat} {ds : List D} (h : ∀ d ∈ ds, Sm n w d) (hv : (w + 2) * ds.length + 3 ≤ v) : Sm (n + 1) v (.lst ds) := by
  obtain ⟨a, b, c, e⟩ := sm_all h
  exact ⟨a, Nat.succ_le_succ b, c, by show rbs ds + 3 ≤ v; omega⟩
theorem Sm.tup {n w v : Nat} {ds : List D} (h : ∀ d ∈ ds, Sm n w d) (hv : (w + 2) * ds.length + 3 ≤ v) : Sm (n + 1) v (.tup ds) := by
  obtain ⟨a, b, c, e⟩ := sm_all h
  exact ⟨a, Nat.succ_le_succ b, c, by show rbs ds + 3 ≤ v; omega⟩
theorem Sm.repr {n w : Nat} {d : D} (h : Sm n w d) (hn : n ≤ 64) (hw : w ≤ 1000000) : dRepr d = some (.str (reprD d)) := by
  unfold dRepr
  have hs : shp d = true := by
    rw [e_shp, h.ok]
    have := h.dp
    simp; omega
  have := h.rb
  rw [hs, h.sh, if_pos (by decide), if_pos (by omega)]
theorem Sm.str {n w : Nat} {s : Str} (h : PyData.strOk s = true) (hw : 10 * s.length + 2 ≤ w) : Sm n w (.str s) := by
  refine ⟨h, Nat.zero_le _, rfl, Nat.le_trans ?_ hw⟩
  refine StrLaws.reprText_len s fun c hc => ?_
  unfold PyData.strOk at h
  rw [← Array.all_toList, List.all_eq_true] at h
  have := of_decide_eq_true (h c hc)
  have e : (1114112 : Nat) ≤ 16 ^ 8 := by decide
  omega
end DL
namespace DL
open PySem L2
section
variable {α κ : Type} [DecidableEq κ]
end
end DL
namespace DL
open PySem L2
@[simp] theorem at2 {α : Type} (x y z : α) (xs : List α) : atI (x :: y :: z :: xs) 2 = some z := atI_nat' (by decide) rfl
@[simp] theorem at3 {α : Type} (x y z u : α) (xs : List α) : atI (x :: y :: z :: u :: xs) 3 = some u := atI_nat' (by decide) rfl
@[simp] theorem at4 {α : Type} (x y z u v : α) (xs : List α) : atI (x :: y :: z :: u :: v :: xs) 4 = some v := atI_nat' (by decide) rfl
@[simp] theorem at5 {α : Type} (x y z u v t : α) (xs : List α) : atI (x :: y :: z :: u :: v :: t :: xs) 5 = some t := atI_nat' (by decide) rfl
end DL
namespace DL
open PySem L2
@[simp] theorem tyOk_dT {M : List O} {n : Nat} {kvs : List (List Key × DV)} (h : M[n]? = some (.dT kvs)) : tyOk "dict" M (.o n) = true := by
  unfold tyOk; simp only [h]; rfl
end DL
namespace DL
open PySem L2
@[simp] theorem intsFrom_len (lo : Int) (n : Nat) : (DL.intsFrom lo n).length = n := by unfold DL.intsFrom; simp
end DL
namespace DL
open PySem L2
end DL
namespace DL
open PySem PySem.Spec PyProof.Rows L2 LamX NdefX
/-! ### lambdas: the object, its promise -/
section
variable {X : Cx} {pins : List (Addr × Obj)} {σ : L2.St} {H : Hp} {s : Shared}
end
/-- the promise of the lambda F at f: sp ws, ws what its captured cells hold at the call -/
structure LOk (P : Program) (w : World) (K : PySem.W.Frag) (mg : Str → Option Value) (base : Heap) (CX : CXT) (k : Nat) (f : Addr) (F : NF) (body : Expr) (ps fr : List Str) (sp : List (Option V) → Sp) : Prop where
  len : ∀ ws vs H Q E, sp ws vs H Q E → vs.length = ps.length
  run : ∀ (A : Around) (outer : List Env) (s : Shared) (H : Hp) (us : List Value) (vs : List V) (ws : List (Option V)) (Q : VK) (E : XK), Room k A → Env0 P w K mg base A outer s H → H f = some (LamO f F body) → H F.c = some (CodeO F.c F.qual) →
    CellsAt F.cl fr ws s.heap H → Vals vs us → sp ws vs H Q E → codeAny (model P w) A (.call (.ref f) ⟨us, []⟩) (CR CX outer P w H s Q E) s
section
variable {CX : CXT} {P : Program} {w : World} {K : PySem.W.Frag} {mg : Str → Option Value} {base : Heap} {N ps fr : List Str} {F : NF} {f : Addr} {k j : Nat} {body : Expr} {sp : List (Option V) → Sp}
end
end DL
namespace DL
open PySem L2 PySem.W
open PyProof.Rows (seqObj get?_update_seq listUpdate_at listItems_at seqEpoch_at size_push' ksk_rest ksk_fold ksk_tree ksk_t1)
open PyProof.Rows (seqObj get?_update_seq listUpdate_at listItems_at seqEpoch_at size_push' ksk_rest ksk_fold ksk_tree ksk_t1 ksk_s1 ksk_l1)
section
variable {X : Cx} {pins : List (Addr × Obj)} {σ : St} {H Z : Hp} {s : Shared}
end
end DL
namespace DL
open PySem PySem.Spec L2 LamX NdefX
/-! ### sorted(e, key=lambda p: body) -/
section
variable {P : Program} {w : World} {K : PySem.W.Frag} {mg : Str → Option Value} {base : Heap} {N : List Str} {p : Str} {F : NF} {f : Addr} {k : Nat} {body : Expr} {em : EM}
end
section
variable {X : Cx} {pins : List (Addr × Obj)} {σ : L2.St} {H : Hp} {s : Shared}
end
section
variable {X : Cx}
end
def tblAt (M : List O) (i : Nat) (P : Addr) (nm : Str) : Bool := match M[i]? with
  | some (.tbl P' q) => decide (P' = P) && decide (q = nm)
  | _ => false
section
variable {K : PySem.W.Frag} {X : Cx} {W : WX} {e : Expr} {pos p p2 kp lpos : Pos}
end
end DL
namespace DL
open PySem PySem.Spec PyProof.Rows L2 LamX NdefX
/-! ### the end of a law whose defs make lambdas: tables of code objects -/
section
variable {P : Program} {w : World} {K : PySem.W.Frag} {mg : Str → Option Value} {base : Heap} {x qual : Str} {st : Stmt} {f a : Addr} {fd : FuncData} {N : List Str} {k : Nat}
end
/-! ### a def that makes lambdas: its code object is known -/
section
variable {P : Program} {w : World} {K : PySem.W.Frag} {mg : Str → Option Value} {base : Heap} {x qual : Str} {st : Stmt} {f : Addr} {fd : FuncData} {N ps : List Str} {k : Nat}
end
end DL
namespace DL
open PySem L2 PySem.W
/-! ### sorted(xs) of data -/
section
variable {X : Cx} {pins : List (Addr × Obj)} {σ : St} {H Z : Hp} {s : Shared}
theorem each_rep {K : PySem.W.Frag} {Z : Hp} : ∀ {us : List Value} {vs : List V} {ds : List D}, Vals vs us → RepA K Z vs ds → EachIs (fun u d => ∃ v, RelV v u ∧ Rep K Z v d) us ds
  | _, _, _, .nil, .nil => .nil
  | _, _, _, .cons r1 t1, .cons r2 t2 => .cons ⟨_, r1, r2⟩ (each_rep t1 t2)
theorem each_readsP (I : Inv X pins σ H s) (sz : Same Z H) : ∀ {us : List Value} {vs : List V} {ks : List D}, Vals vs us → RepA X.K Z vs ks → (∀ k ∈ ks, shp k = true) → EachIs (fun u d => ∃ as, Reads s.heap u (toP d) as) us ks
  | _, _, _, .nil, .nil, _ => .nil
  | _, _, _, .cons r1 t1, .cons (d := d) r2 t2, h => .cons (Dp.reads I (toP d) _ _ (r2.dp sz (shaped_can (h d List.mem_cons_self))) r1) (each_readsP I sz t1 t2 fun k hk => h k (List.mem_cons_of_mem _ hk))
theorem each_vals1 {K : PySem.W.Frag} {Z : Hp} : ∀ {us : List Value} {ps : List D}, EachIs (fun u d => ∃ v, RelV v u ∧ Rep K Z v d) us ps → ∃ vs, Vals vs us ∧ RepA K Z vs ps
  | _, _, .nil => ⟨[], .nil, .nil⟩
  | _, _, .cons h t => by
    obtain ⟨v, r1, r2⟩ := h
    obtain ⟨vs, q1, q2⟩ := each_vals1 t
    exact ⟨v :: vs, .cons r1 q1, .cons r2 q2⟩
noncomputable def sortL (ds : List D) : List D := ds.mergeSort (dataLe false toP)
noncomputable def dSort : D → Option D
  | .lst ds => if (ds.all shp && sortOk (toPs ds)) = true then some (.lst (sortL ds)) else none
  | _ => none
def rSortP (K : PySem.W.Frag) : List V → Hp → VK → Prop := fun vs H Q => ∃ (x : V) (Z : Hp) (d c : D), vs = [x] ∧ Same Z H ∧ Rep K Z x d ∧ dSort d = some c ∧ PostP K Z H c Q
theorem cr_sortP (hu : X.A.units + 67 < cLine) : CallR X (.builtin "sorted") (rSortP X.K) := by
  intro pins s σ H vs us Q I r h
  obtain ⟨x, Z, d, c, rfl, sz, hx, hd, p⟩ := h
  unfold dSort at hd
  split at hd
  · split at hd
    · rename_i ds hc
      cases hd
      rw [Bool.and_eq_true] at hc
      have hsp : ∀ k ∈ ds, shp k = true := fun k hk => List.all_eq_true.mp hc.1 k hk
      cases hx with
      | lst h1 h2 =>
        obtain ⟨its, rv, hl, hz⟩ := I.list (.inl (same_rd sz h1))
        rw [Vals.ref1 r]
        have hal : AllAlike (ds.map toP) := by rw [← toPs_map]; exact sortOk_like hc.2
        have hso : Sortable (ds.map toP) := by rw [← toPs_map]; exact sortOk_sortable hc.2
        refine sorted_data hl.isList (each_rep rv h2) (each_readsP I sz rv h2 hsp) hal hso (by rw [← h2.length]; exact hz) (fun b hb => ?_) fun out ho eo => ?_
        · have z := hsp b hb
          unfold shp at z
          rw [Bool.and_eq_true] at z
          have y := of_decide_eq_true z.2
          have dd : (toP b).depth = depD b := depD_dep b z.1
          rw [dd]; omega
        · obtain ⟨ov, o1, o2⟩ := each_vals1 eo
          obtain ⟨ep, he'⟩ := PyProof.Rows.sortedAll_at s.heap its out.toArray
          have hn : H (s.heap.objs.size + 1) = none := I.hok.fresh (Nat.le_succ _)
          have hlen : ov.length ≤ sizeLine := by rw [o1.length, ho, ← h2.length]; exact hz
          have xp := ExtP.new (o := .lst ov) sz hn
          exact ⟨.ref _, upd H (s.heap.objs.size + 1) (.lst ov), I.laid (t' := s.toks) (fun _ _ => PyProof.Rows.sortedAll_old) (Nat.le_succ _) ⟨hlen, out, ep, o1, he'⟩, rfl, p _ _ _ xp (.lst (.inl upd_same) (o2.mono xp.z))⟩
    · cases hd
  · cases hd
end
section
variable {K : PySem.W.Frag} {X : Cx} {W : WX} {e a b c tg : Expr} {es : List Expr} {pos : Pos}
theorem units67 {k : Nat} {A : Around} (r : Room k A) : A.units + 67 < cLine := by have := r.un; omega
theorem cd_sort (hu : X.A.units + 67 < cLine) : CallD K X (.builtin "sorted") (rSortP K) (g1 dSort) := ⟨fun k => by rw [← k]; exact cr_sortP hu, g1_ok fun x d c Z H Q s hx hg p => ⟨x, Z, d, c, rfl, s, hx, hg, p⟩⟩
/-! ### max(xs), min(xs) of ints -/
def intsD : List D → Option (List Int)
  | [] => some []
  | .int i :: r => (intsD r).map (i :: ·)
  | _ :: _ => none
theorem intsD_rep {Z : Hp} : ∀ {vs : List V} {ds : List D} {ns : List Int}, RepA K Z vs ds → intsD ds = some ns → vs = ns.map V.int
  | _, [], _, .nil, e => by cases e; rfl
  | _, .int i :: r, _, .cons h t, e => by
    have e : (intsD r).map (i :: ·) = some _ := e
    cases q : intsD r with
    | none => rw [q] at e; cases e
    | some ms => rw [q] at e; cases e; cases h; rw [intsD_rep t q]; rfl
  | _, .non :: _, _, .cons h t, e => by cases e
  | _, .bl _ :: _, _, .cons h t, e => by cases e
  | _, .str _ :: _, _, .cons h t, e => by cases e
  | _, .tup _ :: _, _, .cons h t, e => by cases e
  | _, .ktup _ :: _, _, .cons h t, e => by cases e
  | _, .lst _ :: _, _, .cons h t, e => by cases e
  | _, .klst _ :: _, _, .cons h t, e => by cases e
  | _, .dK _ :: _, _, .cons h t, e => by cases e
  | _, .dT _ :: _, _, .cons h t, e => by cases e
  | _, .fn _ :: _, _, .cons h t, e => by cases e
  | _, .clo _ _ :: _, _, .cons h t, e => by cases e
  | _, .scr _ :: _, _, .cons h t, e => by cases e
  | _, .ty _ :: _, _, .cons h t, e => by cases e
  | _, .rng _ _ :: _, _, .cons h t, e => by cases e
theorem intsD_map : ∀ ns : List Int, intsD (ns.map .int) = some ns
  | [] => rfl
  | n :: r => by show (intsD (r.map .int)).map (n :: ·) = _; rw [intsD_map r]; rfl
def maxI : List Int → Int
  | [] => 0
  | [x] => x
  | x :: r => if x < maxI r then maxI r else x
def minI : List Int → Int
  | [] => 0
  | [x] => x
  | x :: r => if minI r < x then minI r else x
theorem maxI_ge : ∀ (l : List Int) (y : Int), y ∈ l → y ≤ maxI l
  | [x], y, h => by simp at h; rw [h]; exact Int.le_refl _
  | x :: z :: r, y, h => by
    have ih := maxI_ge (z :: r)
    show y ≤ if x < maxI (z :: r) then maxI (z :: r) else x
    rcases List.mem_cons.mp h with h | h
    · subst h; split <;> omega
    · have := ih y h; split <;> omega
theorem maxI_mem : ∀ l : List Int, l ≠ [] → maxI l ∈ l
  | [x], _ => by simp [maxI]
  | x :: z :: r, _ => by
    have ih := maxI_mem (z :: r) (by simp)
    show (if x < maxI (z :: r) then maxI (z :: r) else x) ∈ _
    split
    · exact List.mem_cons_of_mem _ ih
    · simp
theorem minI_le : ∀ (l : List Int) (y : Int), y ∈ l → minI l ≤ y
  | [x], y, h => by simp at h; rw [h]; exact Int.le_refl _
  | x :: z :: r, y, h => by
    have ih := minI_le (z :: r)
    show (if minI (z :: r) < x then minI (z :: r) else x) ≤ y
    rcases List.mem_cons.mp h with h | h
    · subst h; split <;> omega
    · have := ih y h; split <;> omega
theorem minI_mem : ∀ l : List Int, l ≠ [] → minI l ∈ l
  | [x], _ => by simp [minI]
  | x :: z :: r, _ => by
    have ih := minI_mem (z :: r) (by simp)
    show (if minI (z :: r) < x then minI (z :: r) else x) ∈ _
    split
    · exact List.mem_cons_of_mem _ ih
    · simp
def dMaxL : D → Option D
  | .lst ds => match intsD ds with
    | some (n :: ns) => some (.int (maxI (n :: ns)))
    | _ => none
  | _ => none
def dMinL : D → Option D
  | .lst ds => match intsD ds with
    | some (n :: ns) => some (.int (minI (n :: ns)))
    | _ => none
  | _ => none
theorem cd_maxL (hc : X.calm = true) : CallD K X (.builtin "max") (rMax K) (g1 dMaxL) := ⟨fun k => by rw [← k]; exact cr_max hc, g1_ok fun x d c Z H Q s hx hg p => by
  unfold dMaxL at hg
  split at hg
  · split at hg
    · rename_i n ns q
      cases hg
      cases hx with
      | lst h1 h2 =>
        have e := intsD_rep h2 q
        refine ⟨_, n :: ns, rfl, by rw [← e]; exact .inl (same_rd s h1), by simp, fun m hm hy => ?_⟩
        have h3 := hy _ (maxI_mem (n :: ns) (by simp))
        have h4 := maxI_ge (n :: ns) m hm
        have : m = maxI (n :: ns) := by omega
        rw [this]; exact p _ Z H (ExtP.refl s) (.int _)
    · cases hg
  · cases hg⟩
theorem cd_minL (hc : X.calm = true) : CallD K X (.builtin "min") (rMin K) (g1 dMinL) := ⟨fun k => by rw [← k]; exact cr_min hc, g1_ok fun x d c Z H Q s hx hg p => by
  unfold dMinL at hg
  split at hg
  · split at hg
    · rename_i n ns q
      cases hg
      cases hx with
      | lst h1 h2 =>
        have e := intsD_rep h2 q
        refine ⟨_, n :: ns, rfl, by rw [← e]; exact .inl (same_rd s h1), by simp, fun m hm hy => ?_⟩
        have h3 := hy _ (minI_mem (n :: ns) (by simp))
        have h4 := minI_le (n :: ns) m hm
        have : m = minI (n :: ns) := by omega
        rw [this]; exact p _ Z H (ExtP.refl s) (.int _)
    · cases hg
  · cases hg⟩
/-! ### list(x): a new list -/
/-! ### bits -/
/-! ### enumerate, reversed(range(..)) -/
def enumD : List D → Nat → List DV
  | [], _ => []
  | d :: r, i => .p (.tup [.int (i : Nat), d]) :: enumD r (i + 1)
theorem enumD_get : ∀ {ds : List D} {j i : Nat} {x : DV}, (enumD ds j)[i]? = some x → ∃ d, ds[i]? = some d ∧ x = .p (.tup [.int ((j + i : Nat)), d])
  | [], _, _, _, h => by simp [enumD] at h
  | d :: r, j, 0, x, h => by simp [enumD] at h; exact ⟨d, rfl, h.symm⟩
  | d :: r, j, i + 1, x, h => by
    obtain ⟨d', h1, h2⟩ := enumD_get (ds := r) (j := j + 1) (i := i) (by simpa [enumD] using h)
    exact ⟨d', by simpa using h1, by rw [h2, Nat.add_assoc, Nat.add_comm 1 i]⟩
theorem enumD_len : ∀ (ds : List D) (j : Nat), (enumD ds j).length = ds.length
  | [], _ => rfl
  | d :: r, j => by show (enumD r (j + 1)).length + 1 = r.length + 1; rw [enumD_len r]
def enumG : List DV → Option (List DV)
  | [.p (.lst xs)] => some (enumD xs 0)
  | _ => none
def mEnum (ms : AM) : IM := bnd ms fun ds s => match enumG ds with
  | some xs => some (.ok xs s.m)
  | none => none
theorem di_enum {p tpos : Pos} {elts : List Expr} {kk : Nat} {ta : TA} {ms : AM} (hm : X.mg "enumerate" = none) (h : DA K X W [e] ta ms) (hg : Gl X "enumerate" := by rfl) (hs : starEach [e] X.env = [(false, eval e X.env)] := by rfl) :
    DI K X W (.Tuple elts kk tpos) (.Call (.Name "enumerate" p) [e] [] pos) (iEnum K ta) (mEnum ms) := by
  refine ⟨h.k, ?_, ⟨fun σ H s Z I r0 Q w rs e1 p1 => ?_⟩⟩
  · rw [← h.k]; exact pi_enum hg hm h.pa hs
  · refine h.so.bnd w rs e1 p1.x fun ds vs M1 Z1 H1 I1 w1 rs1 x1 q1 e2 => ?_
    have e2 : (match enumG ds with | some xs => some (Rs.ok xs M1) | none => none) = some r0 := e2
    cases z : enumG ds with
    | none => rw [z] at e2; cases e2
    | some out =>
    rw [z] at e2; cases e2
    unfold enumG at z
    split at z
    · rename_i xs
      cases z
      cases q1 with
      | cons g1 g2 =>
      cases g2
      have g1 : Rep K Z1 _ (.lst xs) := g1
      cases g1 with
      | lst h1 h2 =>
        rename_i a us
        refine ⟨a, us, rfl, .inl (same_rd w1.sub h1), p1 _ Z1 H1 I1 w1 x1 fun Z' H' I' z _ s' i => ⟨fun d hd => ?_, fun hl => ⟨us, .inl (same_rd s' (same_rd z h1)), by rw [h2.length]; rw [enumD_len] at hl; exact hl⟩⟩⟩
        obtain ⟨y, hy, rfl⟩ := enumD_get hd
        obtain ⟨v, hv, rv⟩ := h2.get hy
        have hq : SqL K H' a us := .inl (same_rd s' (same_rd z h1))
        refine ⟨⟨us, v, hq, hv⟩, fun x H2 hx => ?_⟩
        obtain ⟨T, u, rfl, hT, rfl, hu⟩ := hx
        have := hu us hq
        rw [hv] at this
        cases this
        have xp := ExtP.new (o := .tup [.int (i : Nat), v]) s' hT
        refine ⟨_, xp, .tup upd_same (.cons ?_ (.cons ((rv.mono z).mono xp.z) .nil))⟩
        rw [Nat.zero_add]; exact .int _
    · cases z
end
end DL
namespace DL
open PySem L2
end DL
namespace DL
open PySem L2
/-! ### equations and steps that no law owns: numbers of a list that pass a test, comprehensions, statements one by one, draws behind a table -/
theorem en_pr {α β : Type} [DecidableEq α] [DecidableEq β] [En α] [En β] (x : α) (y : β) : (En.en (x, y) : D) = .tup [En.en x, En.en y] := rfl
theorem rng_ok {i : Int} (h : -1000000 ≤ i) (h2 : i ≤ 1000000) : rngOk i = true := by unfold rngOk; simp; omega
def enO {α : Type} [DecidableEq α] [En α] : Option α → D
  | some a => En.en a
  | none => .non
theorem at_en {α : Type} [DecidableEq α] [En α] (l : List α) {i : Int} {x : α} (h0 : 0 ≤ i) (h : l[i.toNat]? = some x) : atI (l.map En.en) i = some (En.en x : D) := atI_nat' h0 (by rw [List.getElem?_map, h]; rfl)
theorem rlenJ (i : Nat) (n : Nat) (j : Int) (d : D) (l : List (Option DV)) (M : List O) (h1 : mVar i ⟨l, M⟩ = some (.ok (.p d) M)) (h2 : dLen M [.p d] = some (.int j)) (g : rngOk j = true) (hj : j.toNat = n) : mRng rng1D (aCons (mCB dLen (aCons (mVar i) aNil)) aNil) ⟨l, M⟩ = some (.ok (DL.intsFrom 0 n) M) := by
  have e1 : mCB dLen (aCons (mVar i) aNil) ⟨l, M⟩ = some (.ok (.p (.int j)) M) := by
    rw [e_cb, e_bnd, e_aCons, e_bnd, h1]
    simp [e_bnd, h2, -e_len]
  rw [e_rng, e_bnd, e_aCons, e_bnd, e1]
  simp [e_bnd, g, hj]
theorem lcs (it : IM) (vs : List Nat) (g : GM) (t e : EM) (s : S) (ds : List DV) (xs : List D) (h : it s = some (.ok ds s.m)) (h2 : compL (wipeL s.l vs) g t e ds [] s.m = some (xs, s.m)) : mLc it vs g t e s = some (.ok (.p (.lst xs)) s.m) := by
  rw [e_lc, e_bnd, h]
  show (match compL (wipeL s.l vs) g t e ds [] s.m with | some (acc, M) => some (Rs.ok (DV.p (D.lst acc)) M) | none => none) = _
  rw [h2]
def lx {α : Type} (a b : α → Int) (p q : α) : Bool := decide (a p < a q ∨ (a p = a q ∧ b p ≤ b q))
theorem all_shp {α : Type} [DecidableEq α] [En α] (h : En.dp α ≤ 64) (l : List α) : (l.map En.en).all shp = true := by
  rw [List.all_eq_true]
  intro d hd
  obtain ⟨a, _, rfl⟩ := List.mem_map.mp hd
  exact shp_en a h
theorem seq_asg (m : EM) (g : GM) (k : SM) (s s1 : S) (d : DV) (M : List O) (h1 : m s = some (.ok d M)) (h2 : g d ⟨s.l, M⟩ = some s1) : sSeq (sAsg m g) k s = k s1 := by
  rw [e_seq, e_asg, e_lift, h1]
  show (match (match g d ⟨s.l, M⟩ with | some s1 => some (Fl.nx, s1) | none => none) with | some (.nx, s1) => k s1 | r => r) = _
  rw [h2]
theorem seq_for (it : IM) (g : GM) (b k : SM) (s s1 : S) (ds : List DV) (r : Fl × S) (h1 : it s = some (.ok ds s.m)) (h2 : loopS g b ds s = some (.nx, s1)) (h3 : k s1 = some r) : sSeq (sFor it g b) k s = some r := by
  rw [e_seq, e_for, e_lift, h1]
  show (match loopS g b ds s with | some (.nx, s1) => k s1 | r => r) = _
  rw [h2]
  exact h3
theorem map_comp {α β : Type} [DecidableEq α] [En α] [DecidableEq β] [En β] {l : List (Option DV)} {g : GM} {e : EM} {M : List O} (f : α → β) (ds : List α) (h : ∀ a, ∃ s1 : S, g (.p (En.en a)) ⟨l, M⟩ = some s1 ∧ s1.m = M ∧ e s1 = some (.ok (.p (En.en (f a))) M)) (hl : ds.length ≤ 1000000) : compL l g tYesM e ((ds.map En.en).map .p) [] M = some ((ds.map f).map En.en, M) := by
  have main : ∀ (ds : List α) (acc : List D), acc.length + ds.length ≤ 1000000 → compL l g tYesM e ((ds.map En.en).map .p) acc M = some (acc ++ (ds.map f).map En.en, M) := by
    intro ds
    induction ds with
    | nil => intro acc _; simp [compL]
    | cons a ds ih =>
      intro acc hn
      simp only [List.length_cons] at hn
      obtain ⟨s1, h1, h2, h3⟩ := h a
      show compL _ _ _ _ (.p (En.en a) :: (ds.map En.en).map .p) acc M = _
      unfold compL
      rw [h1]
      have q : tYesM s1 = some (.ok (.p (.bl true)) s1.m) := rfl
      dsimp only
      rw [q]
      dsimp only
      have q2 : e ⟨s1.l, s1.m⟩ = some (.ok (.p (En.en (f a))) M) := h3
      rw [q2]
      dsimp only
      rw [if_pos (by omega), ih _ (by simp; omega)]
      simp
  have := main ds [] (by simpa using hl)
  simpa using this
theorem filter_comp {α β : Type} [DecidableEq α] [En α] [DecidableEq β] [En β] {l : List (Option DV)} {g : GM} {t e : EM} {M : List O} (f : α → β) (q : α → Bool) (ds : List α) (h : ∀ a ∈ ds, ∃ s1 : S, g (.p (En.en a)) ⟨l, M⟩ = some s1 ∧ s1.m = M ∧ t s1 = some (.ok (.p (.bl (q a))) M) ∧ e s1 = some (.ok (.p (En.en (f a))) M)) (hl : ds.length ≤ 1000000) : compL l g t e ((ds.map En.en).map .p) [] M = some (((ds.filter q).map f).map En.en, M) := by
  have main : ∀ (ds : List α) (acc : List D), (∀ a ∈ ds, ∃ s1 : S, g (.p (En.en a)) ⟨l, M⟩ = some s1 ∧ s1.m = M ∧ t s1 = some (.ok (.p (.bl (q a))) M) ∧ e s1 = some (.ok (.p (En.en (f a))) M)) → acc.length + ds.length ≤ 1000000 → compL l g t e ((ds.map En.en).map .p) acc M = some (acc ++ ((ds.filter q).map f).map En.en, M) := by
    intro ds
    induction ds with
    | nil => intro acc _ _; simp [compL]
    | cons a ds ih =>
      intro acc h hn
      simp only [List.length_cons] at hn
      obtain ⟨s1, h1, h2, h3, h4⟩ := h a List.mem_cons_self
      have ih := fun acc hn => ih acc (fun b hb => h b (List.mem_cons_of_mem _ hb)) hn
      show compL _ _ _ _ (.p (En.en a) :: (ds.map En.en).map .p) acc M = _
      unfold compL
      rw [h1]
      dsimp only
      rw [h3]
      cases hq : q a with
      | true =>
        dsimp only
        have q2 : e ⟨s1.l, M⟩ = some (.ok (.p (En.en (f a))) M) := by rw [← h2] at h4 ⊢; exact h4
        rw [q2]
        dsimp only
        rw [if_pos (by omega), ih _ (by simp; omega)]
        simp [hq]
      | false =>
        dsimp only
        rw [ih _ (by omega)]
        simp [hq]
  have := main ds [] h (by simpa using hl)
  simpa using this
def intL (cells : List Int) : O := .lst (cells.map fun z => .p (.int z))
theorem take_raw {k c : Nat} {i : Int} {cells : List Int} {M : List O} (hk : M[k]? = some (.lst [.p (.int i), .o c])) (hc : M[c]? = some (intL cells)) (kc : k ≠ c) (hi : 0 ≤ i) (ne : cells ≠ []) (nn : ∀ z ∈ cells, 0 ≤ z) (most : Int) (hm : most < 18446744073709551616) : ∃ r M', takeM [.o k, .p (.int most)] M = some (.ok (.p (.int r)) M') ∧ (M' = M ∨ (∃ cells', M' = M.set c (intL cells') ∧ cells' ≠ [] ∧ ∀ z ∈ cells', 0 ≤ z) ∨ M' = M.set k (.lst [.p (.int (i + 1)), .o c])) ∧ (most < 1 → r = 0) ∧ (1 ≤ most → 0 ≤ r ∧ r < most) := by
  by_cases h1 : most < 1
  · refine ⟨0, M, ?_, .inl rfl, fun _ => rfl, fun h2 => by omega⟩
    simp [e_bnd, e_seq, e_lift, e_runA, e_runB, takeM, takeB, h1, dropM_len]
  · have hl : 0 < cells.length := List.length_pos_iff.mpr ne
    have hl' : (0 : Int) < (cells.length : Int) := by omega
    have a0 : 0 ≤ i % (cells.length : Int) := Int.emod_nonneg _ (by omega)
    have a1 : i % (cells.length : Int) < (cells.length : Int) := Int.emod_lt_of_pos _ hl'
    have aN : (i % (cells.length : Int)).toNat < cells.length := by omega
    have hg := atI_nat' (xs := cells.map fun z => DV.p (.int z)) a0 (get_map aN)
    have cn : 0 ≤ cells[(i % (cells.length : Int)).toNat] := nn _ (List.getElem_mem aN)
    generalize hz : cells[(i % (cells.length : Int)).toNat] = z at hg cn
    have m0 : 0 < most := by omega
    unfold intL at hc
    by_cases h2 : 1000000000000000000 ≤ z
    · refine ⟨z % most, M.set c (intL (cells.set (i % (cells.length : Int)).toNat (z / most))), ?_, .inr (.inl ⟨_, rfl, by simpa using ne, ?_⟩), fun h3 => absurd h3 h1, fun _ => ⟨Int.emod_nonneg _ (by omega), Int.emod_lt_of_pos _ m0⟩⟩
      · have hs := setL_ok (M := M) (n := c) (d := .p (.int (z / most))) hc a0 (by rw [List.length_map]; exact a1)
        unfold intL
        simp [e_bnd, e_seq, e_lift, e_runA, e_runB, takeM, takeB, h1, hk, hc, atI0, atI1, hl, hl', hg, h2, e_set, e_setK, m0, hm, hs, dropM_len]
      · intro y hy
        rcases List.mem_or_eq_of_mem_set hy with q | q
        · exact nn y q
        · rw [q]; exact Int.ediv_nonneg cn (by omega)
    · have hs := setL_ok (M := M) (n := k) (d := .p (.int (i + 1))) (j := 0) hk (by decide) (by simp)
      have hk' : (M.set k (.lst [DV.p (.int (i + 1)), .o c]))[k]? = some (.lst [.p (.int (i + 1)), .o c]) := by
        rw [List.getElem?_set_self (List.getElem?_eq_some_iff.mp hk).1]
      refine ⟨((((z * 48271 + (i + 1) * 69621) % 2147483647) * 16807 + (i + 1) * 7919) % 1000000007) / 7 % most, M.set k (.lst [.p (.int (i + 1)), .o c]), ?_, .inr (.inr rfl), fun h3 => absurd h3 h1, fun _ => ⟨Int.emod_nonneg _ (by omega), Int.emod_lt_of_pos _ m0⟩⟩
      simp [e_bnd, e_seq, e_lift, e_runA, e_runB, takeM, takeB, h1, hk, hc, atI0, atI1, hl, hl', hg, h2, e_set, e_setK, m0, hm, hs, hk', dropM_len, mulOkR]
structure DB (T : O) (n : Nat) (sv : DV) (B : List O) : Prop where
  len : B.length = n
  tb : B[0]? = some T
  cl : B.all (closed n) = true
  ex : ∃ (k c : Nat) (i : Int) (cells : List Int), sv = .o k ∧ k ≠ 0 ∧ c ≠ 0 ∧ B[k]? = some (.lst [.p (.int i), .o c]) ∧ B[c]? = some (intL cells) ∧ k ≠ c ∧ 0 ≤ i ∧ cells ≠ [] ∧ ∀ z ∈ cells, 0 ≤ z
theorem w_asgE (m : EM) (i : Nat) (K : SM) (s : S) (d : DV) (M : List O) (P : Fl → S → Prop) (h1 : m s = some (.ok d M)) (h2 : wpS (K ⟨s.l.set i (some d), M⟩) P) : wpS (sSeq (sAsg m (gN i)) K s) P := by
  rw [seq_asg m (gN i) K s ⟨s.l.set i (some d), M⟩ d M h1 rfl]
  exact h2
theorem w_asgT (m : EM) (i : Nat) (K : SM) (s : S) (P : Fl → S → Prop) (h : wpB (m s) fun d M => wpS (K ⟨s.l.set i (some d), M⟩) P) : wpS (sSeq (sAsg m (gN i)) K s) P := by
  obtain ⟨d, M, e, h⟩ := h
  exact w_asgE m i K s d M P e h
theorem w_ifE (c : EM) (a K : SM) (s : S) (M : List O) (P : Fl → S → Prop) (h1 : c s = some (.ok (.p (.bl false)) M)) (h2 : wpS (K ⟨s.l, M⟩) P) : wpS (sSeq (sIf c a sNil) K s) P := by
  have e : sIf c a sNil s = some (.nx, ⟨s.l, M⟩) := by
    rw [e_sif, e_lift, h1]
    rfl
  rw [e_seq, e]
  exact h2
theorem reprB (b : Bool) : ∃ z, dRepr (.bl b) = some z ∧ eqD z z = some true := by
  have := Sm.repr (Sm.bl (n := 0) (w := 5) (i := b) (Nat.le_refl _)) (by decide) (by decide)
  exact ⟨_, this, by rw [e_eqSS]; simp⟩
theorem w_call2 (f : List DV → List O → Option (Rs DV)) (i : Nat) (me : EM) (l : List (Option DV)) (M : List O) (d e : DV) (Q : DV → List O → Prop) (h1 : gv l i = some d) (h2 : me ⟨l, M⟩ = some (.ok e M)) (h : wpB (f [d, e] M) Q) : wpB (mCallB 2 f (aCons (mVar i) (aCons me aNil)) ⟨l, M⟩) Q := by
  obtain ⟨v, M2, e1, q⟩ := h
  refine ⟨v, M2, ?_, q⟩
  simp [e_bnd, h1, h2, e1]
theorem w_call1 (f : List DV → List O → Option (Rs DV)) (i : Nat) (l : List (Option DV)) (M : List O) (d : DV) (Q : DV → List O → Prop) (h1 : gv l i = some d) (h : wpB (f [d] M) Q) : wpB (mCallB 1 f (aCons (mVar i) aNil) ⟨l, M⟩) Q := by
  obtain ⟨v, M2, e1, q⟩ := h
  refine ⟨v, M2, ?_, q⟩
  simp [e_bnd, h1, e1]
theorem w_forE (it : IM) (g : GM) (b K : SM) (s s1 : S) (ds : List DV) (P : Fl → S → Prop) (h1 : it s = some (.ok ds s.m)) (h2 : loopS g b ds s = some (.nx, s1)) (h3 : wpS (K s1) P) : wpS (sSeq (sFor it g b) K s) P := by
  obtain ⟨f, s2, e, nn, p⟩ := h3
  exact ⟨f, s2, seq_for it g b K s s1 ds _ h1 h2 e, nn, p⟩
end DL
namespace DL
open PySem L2
section
variable {K : PySem.W.Frag} {X : Cx} {W : WX} {e a b c tg : Expr} {es : List Expr} {pos : Pos}
/-! ### a list behind a list: a new own list -/
def lsO (M : List O) : DV → Option (List DV)
  | .p (.lst xs) => some (xs.map .p)
  | .p (.klst xs) => some (xs.map .p)
  | .o n => match M[n]? with
    | some (.lst ds) => some ds
    | _ => none
  | _ => none
def mCatO (m n : EM) : EM := bnd m fun d => bnd n fun e s => match lsO s.m d, lsO s.m e with
  | some xs, some ys => if xs.length + ys.length ≤ 1000000 then some (.ok (.o s.m.length) (s.m ++ [.lst (xs ++ ys)])) else none
  | _, _ => none
@[simp] theorem e_catO (m n : EM) (s : S) : mCatO m n s = (bnd m fun d => bnd n fun e s => match lsO s.m d, lsO s.m e with
  | some xs, some ys => if xs.length + ys.length ≤ 1000000 then some (.ok (.o s.m.length) (s.m ++ [.lst (xs ++ ys)])) else none
  | _, _ => none) s := rfl
@[simp] theorem e_lsP (M : List O) (xs : List D) : lsO M (.p (.lst xs)) = some (xs.map .p) := rfl
@[simp] theorem e_lsK (M : List O) (xs : List D) : lsO M (.p (.klst xs)) = some (xs.map .p) := rfl
@[simp] theorem e_lsO (M : List O) (n : Nat) : lsO M (.o n) = (match M[n]? with | some (.lst ds) => some ds | _ => none) := rfl
end
end DL
namespace DL
open PySem L2 PySem.W
section
variable {K : PySem.W.Frag} {X : Cx} {W : WX} {e a b c tg : Expr} {es : List Expr} {pos p p2 kp : Pos}
/-! ### sum(xs) of ints; min and max with default= -/
def dSum : D → Option D
  | .lst ds => (intsD ds).map fun ns => .int ns.sum
  | _ => none
@[simp] theorem e_sumI (ns : List Int) : dSum (.lst (ns.map .int)) = some (.int ns.sum) := by
  show (intsD (ns.map .int)).map _ = _
  rw [intsD_map]; rfl
def bestD (g : List Int → Int → Int) : D → D → Option D
  | .lst ds, .int j => (intsD ds).map fun ns => .int (g ns j)
  | _, _ => none
def mBestDf (g : List Int → Int → Int) (m n : EM) : EM := bnd m (pur fun d => bnd n (pur fun z => ret (bestD g d z)))
@[simp] theorem e_best (g : List Int → Int → Int) (m n : EM) (s : S) : mBestDf g m n s = (bnd m (pur fun d => bnd n (pur fun z => ret (bestD g d z)))) s := rfl
@[simp] theorem e_bestI (g : List Int → Int → Int) (ns : List Int) (j : Int) : bestD g (.lst (ns.map .int)) (.int j) = some (.int (g ns j)) := by
  show (intsD (ns.map .int)).map _ = _
  rw [intsD_map]; rfl
end
end DL
namespace DL
open PySem L2 PySem.Spec PyProof.Rows
/-! ### a call of a local that holds a def: the defs that it may hold, with their addresses -/
structure VFn (P : Program) (w : World) (K : PySem.W.Frag) (mg : Str → Option Value) (base : Heap) (k n : Nat) (f : Addr) (m : MA) : Prop where
  ex : ∃ (fd : FuncData) (ps : List Str), FnOk P w K mg base (L2.CX P w) k f fd ps (spA K n m) ∧ PySem.W.keepIn K (.ref f) = true ∧ Binds K fd ps []
section
variable {K : PySem.W.Frag} {X : Cx} {W : WX} {e : Expr} {es : List Expr} {pos p : Pos} {x : Str} {i n k : Nat} {tb : List (Addr × MA)} {t : TA} {ms : AM}
end
end DL
namespace DL
open PySem PySem.Spec L2 PyProof.Rows
/-! ### the end of a law whose mirrors speak of the addresses of defs -/
end DL
namespace DL
open PySem PySem.Spec L2 PyProof.Rows
/-! ### a text in a dict of the module: the keys, and texts that are known to be none -/
def KIn (K : PySem.W.Frag) (w : World) (a : Addr) (z : Str) (b : Bool) : Prop := ∃ es n r, K.lookup a = some ⟨.type "dict", none, .dict es n, #[]⟩ ∧ PySem.W.KeysLit w.params es.toList ∧ (a == sysModules) = false ∧ PySem.W.nsIn K a z = some r ∧ r.isSome = b
section
variable {X : Cx}
end
structure GIn (K : PySem.W.Frag) (w : World) (mg : Str → Option Value) (x : Str) (keys miss : List Str) where
  a : Addr
  m : mg x = some (.ref a)
  at_ : ∀ z, z ∈ keys → KIn K w a z true
  no : ∀ z, z ∈ miss → KIn K w a z false
def inKd (keys miss : List Str) : D → EM
  | .str z => fun s => if z ∈ keys then some (.ok (.p (.bl true)) s.m) else if z ∈ miss then some (.ok (.p (.bl false)) s.m) else none
  | _ => fun _ => none
def mInKd (keys miss : List Str) (m : EM) : EM := bnd m (pur (inKd keys miss))
section
variable {K : PySem.W.Frag} {X : Cx} {W : WX} {e : Expr} {pos p : Pos} {te : TE} {m : EM} {mg : Str → Option Value} {w : World} {x : Str} {keys miss : List Str}
end
end DL
namespace DL
open PySem PySem.Spec L2 PyProof.Rows
@[simp] theorem e_inKdm (keys miss : List Str) (m : EM) (s : S) : mInKd keys miss m s = (bnd m (pur (inKd keys miss))) s := rfl
@[simp] theorem e_inKdS (keys miss : List Str) (z : Str) (s : S) : inKd keys miss (.str z) s = if z ∈ keys then some (.ok (.p (.bl true)) s.m) else if z ∈ miss then some (.ok (.p (.bl false)) s.m) else none := rfl
end DL
namespace DL
open PySem PySem.Spec L2 PyProof.Rows
/-! ### l.extend(xs): xs data -/
def rExtD : V → List V → Hp → VK → Prop := fun x vs H Q => ∃ l b xs zs, x = .ref l ∧ vs = [.ref b] ∧ H l = some (.lst xs) ∧ Rd H b (.lst zs) ∧ xs.length + zs.length ≤ sizeLine ∧ Q .non (upd H l (.lst (xs ++ zs)))
section
variable {X : Cx}
theorem mt_extD : MtM X "list.extend" rExtD := by
  intro pins s σ H x vs v us Q I rx rv h
  obtain ⟨l, b, xs, zs, rfl, rfl, hH, hB, hz, q⟩ := h
  cases rx
  obtain ⟨u, rfl, ru⟩ := rv.one
  cases ru
  obtain ⟨z, its, n, r, hl, e⟩ := I.lstM hH
  obtain ⟨z2, its2, n2, r2, e2⟩ := hB.ok I.hok
  have hl2 := r2.length
  have hsz : its.toArray.size + its2.toArray.size ≤ sizeLine := by rw [List.size_toArray, List.size_toArray]; omega
  have hlong : ¬ (!its.toArray.isEmpty && Builtin.List.listTooLong (its.toArray.size + its2.toArray.size)) = true := by
    rw [notLongL hsz, Bool.and_false]
    exact Bool.false_ne_true
  refine call_meets PySem.F.slot_list_extend ⟨_, e, rfl⟩ PySem.F.entry_list_extend (PySem.F.args_list_extend_2 _ _)
    (AutoSeq1.list_extend_list_list_0 l its.toArray n b its2.toArray n2 hlong (by rw [List.size_toArray]; omega) (by omega)) ⟨e, e2, ?_⟩
  refine ⟨.non, _, I.lset (its' := its ++ its2) hH e (by simp) (r.append r2) ?_, rfl, q⟩
  rw [List.length_append]
  omega
end
section
variable {K : PySem.W.Frag} {X : Cx}
def gExt : MtG := fun d ds s => match d, ds with
  | .o n, [.p (.lst ys)] => match s.m[n]? with
    | some (.lst xs) => if xs.length + ys.length ≤ 1000000 then some (.ok (.p .non) (s.m.set n (.lst (xs ++ ys.map .p)))) else none
    | _ => none
  | _, _ => none
theorem md_ext : MthD K X "list.extend" rExtD gExt := ⟨fun _ => mt_extD, fun W σ x d vs ds Z H I s r0 Q w hx hv e p => by
  unfold gExt at e
  split at e
  · rename_i n ys
    obtain ⟨a, ha, rfl⟩ := hx
    cases hv with
    | cons h1 h2 =>
    cases h2
    have h1 : Rep K Z _ (.lst ys) := h1
    cases h1 with
    | lst g3 g4 =>
    split at e
    · rename_i xs hm
      split at e
      · rename_i hl
        cases e
        obtain ⟨_, us, g1, g2⟩ := w.ob n a _ ha hm (by intro z; cases z)
        refine ⟨a, _, us, _, rfl, rfl, g1, same_rd w.sub g3, by rw [paired_len g2, g4.length]; exact size_le hl, ?_⟩
        exact p _ Z _ I (w.setO ha hm (by intro z; cases z) ⟨_, upd_same, paired_app g2 (allP_map g4)⟩) (ext_set (List.mem_of_getElem? ha)) .non
      · cases e
    · cases e
  · cases e⟩
@[simp] theorem e_ext (n : Nat) (ys : List D) (s : S) : gExt (.o n) [.p (.lst ys)] s = (match s.m[n]? with
    | some (.lst xs) => if xs.length + ys.length ≤ 1000000 then some (.ok (.p .non) (s.m.set n (.lst (xs ++ ys.map .p)))) else none
    | _ => none) := rfl
end
end DL
namespace DL
open PySem PySem.Spec L2 PyProof.Rows
section
variable {K : PySem.W.Frag} {X : Cx} {W : WX} {e : Expr} {pos p : Pos} {te : TE} {m : EM} {mg : Str → Option Value} {w : World} {x : Str} {keys miss : List Str}
end
end DL
namespace DL
open PySem L2
/-! ### a list of one's own that a loop fills, and is given up -/
theorem tyOk_lst {M : List O} {n : Nat} {ds : List DV} (h : M[n]? = some (.lst ds)) : tyOk "list" M (.o n) = true := by unfold tyOk; simp only [h]; rfl
theorem ext_run (i n : Nat) (me : EM) (l : List (Option DV)) (M : List O) (xs : List DV) (ys : List D) (h1 : gv l i = some (.o n)) (h2 : M[n]? = some (.lst xs)) (h3 : xs.length + ys.length ≤ 1000000) (h4 : me ⟨l, M⟩ = some (.ok (.p (.lst ys)) M)) :
    sExpr (mMth "list" gExt (mVar i) (aCons me aNil)) ⟨l, M⟩ = some (.nx, ⟨l, M.set n (.lst (xs ++ ys.map .p))⟩) := by
  have tk := tyOk_lst h2
  simp [e_bnd, e_lift, h1, tk, h4, h2, h3]
theorem seq_nx (a b : SM) (s s1 : S) (h : a s = some (.nx, s1)) : sSeq a b s = b s1 := by rw [e_seq, h]
@[reducible] def enOpt {α : Type} [DecidableEq α] [En α] (hn : ∀ a : α, deq (En.en a) .non = false) (hn2 : ∀ a : α, deq .non (En.en a) = false) : En (Option α) := ⟨enO, fun a b => by
    cases a <;> cases b <;> simp [enO, En.dq, hn, hn2], fun a => by cases a <;> simp [enO, En.ok], En.dp α, fun a => by
    cases a with
    | none => exact Nat.zero_le _
    | some a => exact En.dpl a⟩
instance : En (Option Int) := enOpt (fun _ => rfl) (fun _ => rfl)
instance : En (Option Bool) := enOpt (fun _ => rfl) (fun _ => rfl)
end DL
namespace DL
open PySem L2
theorem sif_f (c : EM) (a b : SM) (s : S) (M : List O) (h : c s = some (.ok (.p (.bl false)) M)) : sIf c a b s = b ⟨s.l, M⟩ := by
  rw [e_sif, e_lift, h]; rfl
theorem sif_t (c : EM) (a b : SM) (s : S) (M : List O) (h : c s = some (.ok (.p (.bl true)) M)) : sIf c a b s = a ⟨s.l, M⟩ := by
  rw [e_sif, e_lift, h]; rfl
theorem runA_of {n : Nat} {m : SM} {ds : List D} {d : D} {s : S} (h : m ⟨slotsOf n (ds.map .p), []⟩ = some (.rt (.p d), s)) : runA n m ds = some (.ok d) := by
  rw [e_runA, h]
theorem ret_run (m : EM) (s : S) (d : DV) (M : List O) (h : m s = some (.ok d M)) : sRet m s = some (.rt d, ⟨s.l, M⟩) := by
  rw [e_sret, e_lift, h]
end DL
namespace DL
open PySem L2
/-! sorted lists of ints -/
theorem cut_from (xs : List D) (n : Nat) : cutD xs (some (n : Int)) none = xs.drop n := by
  unfold cutD
  rw [HT.sIx_none, HT.sIx_nat]
  rw [List.take_of_length_le (by rw [List.length_drop]; exact Nat.le_refl _)]
  by_cases h : n ≤ xs.length
  · rw [Nat.min_eq_left h]
  · rw [Nat.min_eq_right (by omega), List.drop_length, List.drop_of_length_le (by omega)]
theorem cut_to (xs : List D) (n : Nat) : cutD xs none (some (n : Int)) = xs.take n := by
  unfold cutD
  rw [HT.sIx_none, HT.sIx_nat, List.drop_zero, Nat.sub_zero]
  by_cases h : n ≤ xs.length
  · rw [Nat.min_eq_left h]
  · rw [Nat.min_eq_right (by omega), List.take_length, List.take_of_length_le (by omega)]
@[simp] theorem e_slL (xs : List D) (l u : Option Int) : slE (.lst xs) l u = some (.lst (cutD xs l u)) := rfl
end DL
namespace DL
open PySem L2
/-! ### drawn numbers, with other objects of one's own behind them -/
theorem ltO_mono {n m : Nat} (h : n ≤ m) (d : DV) (k : ltO n d = true) : ltO m d = true := by
  cases d with
  | p _ => rfl
  | o i => have k : decide (i < n) = true := k; exact decide_eq_true (by have := of_decide_eq_true k; omega)
theorem closed_mono {n m : Nat} (h : n ≤ m) (o : O) (k : closed n o = true) : closed m o = true := by
  cases o with
  | lst xs => exact List.all_eq_true.mpr fun d hd => ltO_mono h d (List.all_eq_true.mp k d hd)
  | dK xs => exact List.all_eq_true.mpr fun d hd => ltO_mono h d.2 (List.all_eq_true.mp k d hd)
  | dT xs => exact List.all_eq_true.mpr fun d hd => ltO_mono h d.2 (List.all_eq_true.mp k d hd)
  | ins C xs => exact List.all_eq_true.mpr fun d hd => ltO_mono h d.2 (List.all_eq_true.mp k d hd)
  | tbl _ _ => rfl
  | clo _ xs => exact List.all_eq_true.mpr fun d hd => ltO_mono h d (List.all_eq_true.mp k d hd)
  | gone => rfl
def Dx (n : Nat) (sv : DV) (R M : List O) : Prop := ∃ B, M = B ++ R ∧ Dr n sv B
theorem Dx.of {n : Nat} {sv : DV} {M : List O} (h : Dr n sv M) : Dx n sv [] M := ⟨M, (List.append_nil _).symm, h⟩
theorem Dx.nil {n : Nat} {sv : DV} {M : List O} (h : Dx n sv [] M) : Dr n sv M := by obtain ⟨B, rfl, h⟩ := h; rwa [List.append_nil]
theorem Dx.len {n : Nat} {sv : DV} {R M : List O} (h : Dx n sv R M) : M.length = n + R.length := by obtain ⟨B, rfl, h⟩ := h; rw [List.length_append, h.len]
theorem Dx.get {n : Nat} {sv : DV} {R M : List O} (h : Dx n sv R M) (i : Nat) : M[n + i]? = R[i]? := by
  obtain ⟨B, rfl, h⟩ := h
  rw [List.getElem?_append_right (by rw [h.len]; omega), h.len]
  congr 1; omega
theorem Dx.set {n : Nat} {sv : DV} {R M : List O} (h : Dx n sv R M) (i : Nat) (o : O) : Dx n sv (R.set i o) (M.set (n + i) o) := by
  obtain ⟨B, rfl, h⟩ := h
  refine ⟨B, ?_, h⟩
  rw [List.set_append_right _ _ (by rw [h.len]; omega), h.len]
  congr 2; omega
theorem Dx.drop {n : Nat} {sv : DV} {R G M : List O} {d : D} (h : Dx n sv (R ++ G) M) (hR : R.all (closed (n + R.length)) = true) {k : Nat} (hk : k = n + R.length) : Dx n sv R (dropM k (.p d) M) := by
  subst hk
  obtain ⟨B, rfl, h⟩ := h
  have e : (B ++ (R ++ G)).take (n + R.length) = B ++ R := by
    rw [← List.append_assoc, List.take_append_of_le_length (by rw [List.length_append, h.len]; exact Nat.le_refl _), List.take_of_length_le (by rw [List.length_append, h.len]; exact Nat.le_refl _)]
  have c : (B ++ R).all (closed (n + R.length)) = true := by
    rw [List.all_append, hR, Bool.and_true]
    exact List.all_eq_true.mpr fun o ho => closed_mono (Nat.le_add_right _ _) o (List.all_eq_true.mp h.cl o ho)
  unfold dropM
  rw [e, c]
  exact ⟨B, rfl, h⟩
theorem Dx.same {n : Nat} {sv : DV} {R M M' : List O} {d : D} (h : Dx n sv R M) (h' : Dx n sv R M') : dropM M.length (.p d) M' = M' := dropM_len (by rw [h.len, h'.len])
theorem wp_takeX {n : Nat} {sv : DV} {R M : List O} {most : Int} {P : DV → List O → Prop} (h : Dx n sv R M) (hm : most < 18446744073709551616) (k : ∀ r M', Dx n sv R M' → (most < 1 → r = 0) → (1 ≤ most → 0 ≤ r ∧ r < most) → P (.p (.int r)) M') : wpB (takeM [sv, .p (.int most)] M) P := by
  obtain ⟨B, rfl, h⟩ := h
  obtain ⟨kk, c, i, cells, rfl, hk, hc, kc, hi, ne, nn⟩ := h.ex
  have lk := (List.getElem?_eq_some_iff.mp hk).1
  have lc := (List.getElem?_eq_some_iff.mp hc).1
  obtain ⟨r, M', e, d, b0, b⟩ := take_raw (M := B ++ R) (by rw [List.getElem?_append_left lk]; exact hk) (by rw [List.getElem?_append_left lc]; exact hc) kc hi ne nn most hm
  refine ⟨_, _, e, ?_⟩
  rcases d with rfl | ⟨cells', rfl, ne', nn'⟩ | rfl
  · exact k r _ ⟨B, rfl, h⟩ b0 b
  · rw [List.set_append_left _ _ lc]
    exact k r _ ⟨_, rfl, ⟨by rw [List.length_set]; exact h.len, all_set h.cl (closed_ints n _) c, kk, c, i, cells', rfl, by rw [List.getElem?_set_ne kc.symm]; exact hk, by rw [List.getElem?_set_self lc]; rfl, kc, hi, ne', nn'⟩⟩ b0 b
  · rw [List.set_append_left _ _ lk]
    exact k r _ ⟨_, rfl, ⟨by rw [List.length_set]; exact h.len, all_set h.cl (show closed n (.lst [.p (.int (i + 1)), .o c]) = true from (List.all_eq_true.mp h.cl _ (List.mem_of_getElem? hk) : closed n (.lst [.p (.int i), .o c]) = true)) kk, kk, c, i + 1, cells, rfl, by rw [List.getElem?_set_self lk], by rw [List.getElem?_set_ne kc]; exact hc, kc, by omega, ne, nn⟩⟩ b0 b
end DL
namespace DL
open PySem L2
theorem wp_lc {it : IM} {vs : List Nat} {g : GM} {e : EM} {s : S} {P : DV → List O → Prop} (h : wpB (it s) fun ds M => ∃ ys M', compL (wipeL s.l vs) g tYesM e ds [] M = some (ys, M') ∧ P (.p (.lst ys)) M') : wpB (mLc it vs g tYesM e s) P := by
  obtain ⟨ds, M, e1, ys, M', e2, p⟩ := h
  refine ⟨_, M', ?_, p⟩
  rw [e_lc, e_bnd, e1]
  show (match compL (wipeL s.l vs) g tYesM e ds [] M with | some (acc, M) => some (Rs.ok (DV.p (D.lst acc)) M) | none => none) = _
  rw [e2]
theorem wp_rng1 {m : EM} {s : S} {Q : List DV → List O → Prop} (h : wpB (m s) fun d M => ∃ j, d = .p (.int j) ∧ rngOk j = true ∧ Q (DL.intsFrom 0 j.toNat) M) : wpB (mRng rng1D (aCons m aNil) s) Q := by
  obtain ⟨d, M, e, j, rfl, hj, q⟩ := h
  refine ⟨_, M, ?_, q⟩
  rw [e_rng, e_bnd, e_aCons, e_bnd, e]
  simp [e_bnd, hj]
end DL
namespace DL
open PySem PySem.Spec L2 PyProof.Rows
/-! ### a statement, or an expression, that no run reaches -/
section
variable {K : PySem.W.Frag} {X : Cx} {W : WX} {st : Stmt} {ex : Expr}
end
/-! ### a def that calls itself: the promise of no step -/
/-! ### attributes of an instance of one's own -/
structure Kls (K : PySem.W.Frag) (C : Addr) (fs : List Str) : Prop where
  c : Cls K C
  n : ∀ f ∈ fs, NoAttr K C f
section
variable {K : PySem.W.Frag} {X : Cx} {W : WX} {o e value : Expr} {es : List Expr} {pos pos' apos tpos p : Pos} {ta tv te : TE} {t : TA} {m mv : EM} {ms : AM} {f : Str} {C : Addr} {fl : List Str}
end
/-! ### methods of one's own classes -/
section
variable {X : Cx} {CX : CXT} {k : Nat} {C f : Addr} {fd : FuncData} {ps : List Str} {mn : Str} {sp : Sp} {E : L2.St → XK} {o e : Expr} {es : List Expr} {ta : TE} {t : TA} {apos pos : Pos}
end
section
variable {K : PySem.W.Frag} {X : Cx} {W : WX} {o e : Expr} {es : List Expr} {pos apos : Pos} {ta : TE} {t : TA} {m : EM} {ms : AM} {mn : Str} {C fa : Addr} {fl : List Str} {n k : Nat} {g : List DV → List O → Option (Rs DV)} {fd : FuncData} {ps : List Str}
end
end DL
namespace DL
open PySem PySem.Spec L2 PyProof.Rows
/-! ### an instance is made -/
section
variable {X : Cx} {CX : CXT} {k : Nat} {C f : Addr} {fd : FuncData} {ps : List Str} {sp : Sp} {E : L2.St → XK} {e : Expr} {es : List Expr} {t : TA} {pos p : Pos} {x : Str}
end
section
variable {K : PySem.W.Frag} {X : Cx} {W : WX} {e : Expr} {es : List Expr} {pos p : Pos} {t : TA} {ms : AM} {x : Str} {C fa : Addr} {n k : Nat} {g : List DV → List O → Option (Rs DV)} {fd : FuncData} {ps : List Str}
end
/-- a method as the class holds it -/
structure Dm (K : PySem.W.Frag) (C : Addr) (nm qual : Str) (st : Stmt) (ps : List Str) where
  a : Addr
  fd : FuncData
  F : Fun K nm qual st a fd
  m : Meth K C nm a
  b : Binds K fd ps []
end DL
namespace DL
open PySem PySem.Spec L2 PyProof.Rows
/-! ### text.find(part, from) -/
section
variable {K : PySem.W.Frag} {X : Cx} {W : WX}
/-! ### xs[::-1] -/
end
/-! ### d.get(k, z), k in d, k not in d, of a dict of the module -/
section
variable {X : Cx} {e z : Expr} {te tz : TE} {x : Str} {a : Addr} {p apos pos : Pos}
end
structure GK (K : PySem.W.Frag) (w : World) (mg : Str → Option Value) (x : Str) (kvs : List (Str × D)) (miss : List Str) where
  a : Addr
  m : mg x = some (.ref a)
  ex : ∃ es n, K.lookup a = some ⟨.type "dict", none, .dict es n, #[]⟩ ∧ PySem.W.KeysLit w.params es.toList
  lo : (a == sysModules) = false
  at_ : ∀ z d, kvs.lookup z = some d → ∃ v, KDct K w a z v ∧ ∀ Z, Rep K Z v d
  no : ∀ z, z ∈ miss → KIn K w a z false
section
variable {K : PySem.W.Frag} {X : Cx} {W : WX} {e z : Expr} {te tz : TE} {m n : EM} {mg : Str → Option Value} {w : World} {x : Str} {kvs : List (Str × D)} {miss keys : List Str} {p apos pos : Pos}
def ninKd (keys miss : List Str) : D → EM
  | .str z => fun s => if z ∈ keys then some (.ok (.p (.bl false)) s.m) else if z ∈ miss then some (.ok (.p (.bl true)) s.m) else none
  | _ => fun _ => none
def mNinKd (keys miss : List Str) (m : EM) : EM := bnd m (pur (ninKd keys miss))
@[simp] theorem e_ninKdm (s : S) : mNinKd keys miss m s = (bnd m (pur (ninKd keys miss))) s := rfl
@[simp] theorem e_ninKdS (z : Str) (s : S) : ninKd keys miss (.str z) s = if z ∈ keys then some (.ok (.p (.bl false)) s.m) else if z ∈ miss then some (.ok (.p (.bl true)) s.m) else none := rfl
end
end DL
namespace DL
open PySem PySem.Spec L2 PyProof.Rows
/-! ### text.replace('a', 'b'): a written text has been read ahead of it -/
structure DET (K : PySem.W.Frag) (X : Cx) (W : WX) (e : Expr) (t : TE) (m : EM) : Prop where
  k : X.K = K
  pe : PET X e t
  so : Sound K W (RepV K) t m
structure DSsT (K : PySem.W.Frag) (X : Cx) (W : WX) (st : List Stmt) (t : TS) (m : SM) : Prop where
  k : X.K = K
  ps : PSsT X st t
  so : SoundS K W t m
structure DST (K : PySem.W.Frag) (X : Cx) (W : WX) (st : Stmt) (t : TS) (m : SM) : Prop where
  k : X.K = K
  ps : PST X st t
  so : SoundS K W t m
section
variable {K : PySem.W.Frag} {X : Cx} {W : WX} {o e : Expr} {te : TE} {m : EM} {pos p p' : Pos} {y z c : Str}
end
end DL
namespace DL
open PySem PySem.Spec L2 PyProof.Rows
/-- a class of one's own as the top holds it -/
structure Kl (K : PySem.W.Frag) (mg : Str → Option Value) (nm : Str) (fl : List Str) where
  a : Addr
  m : mg nm = some (.ref a)
  k : Kls K a fl
end DL
/-! a slice of a tuple (not the whole one) -/
namespace DL
open PySem PySem.Spec L2 PyProof.Rows
section
variable {K : PySem.W.Frag} {X : Cx} {W : WX} {e a b c : Expr} {es : List Expr} {pos : Pos}
end
end DL
namespace DL
open PySem L2
/-! exceptions of own classes: made, raised, caught -/
/-- what is known of a class over ValueError that has no own __init__ -/
structure Gx (K : PySem.W.Frag) (G : Addr) : Prop where
  g1 : PySem.W.specialIn K (.ref G) "__getattribute__" = some (some (.builtin "type.__getattribute__"))
  g2 : PySem.W.readsIn K G (.type "type") = true
  g3 : PySem.W.findCls K (.ref G) (.type "type") "__init__" = some (.val (.builtin "ValueError.__init__"))
section
variable {X : Cx} {x : Str} {G : Addr} {e : Expr} {es : List Expr} {ta : TA} {p1 p2 pos : Pos} {pl : Sem Bool}
end
/-- what a text in braces may be: an int of few digits, a text -/
def fsOk : D → Bool
  | .int i => decide (0 ≤ i ∧ i ≤ 1000000)
  | .str x => decide (x.length ≤ 900000)
  | _ => false
structure IniB (K : PySem.W.Frag) (X : Cx) (W : WX) (fld : Str) (body : List Stmt) : Prop where
  ex : ∃ (ta : TA) (to te : TE) (ms : AM), PSs X body (tSeq (tDrop (tVeI K ta)) (tOst K fld to te)) ∧ Sound K W (RepVs K) ta ms ∧ Sound K W (RepV K) to (mVar 0) ∧ Sound K W (RepV K) te (mVar 1) ∧
    ∀ (a : Addr) (d : D), fsOk d = true → ∃ z, ms ⟨[some (.p (.fn a)), some (.p d)], []⟩ = some (.ok [.p (.fn a), .p (.str z)] [])
section
variable {K : PySem.W.Frag} {X : Cx} {W : WX} {x fld : Str} {G : Addr} {e1 e2 o y : Expr} {ta : TA} {ms : AM} {to te : TE} {p1 p2 pos p3 p4 spos : Pos} {pl : Sem Bool}
end
section
variable {P : Program} {w : World} {K : PySem.W.Frag} {mg : Str → Option Value} {base : Heap} {x qual n fld : Str} {st : Stmt} {f C : Addr} {fd : FuncData} {k : Nat}
end
/-! raise C(e) -/
/-- what is known of a class whose exceptions are raised -/
structure Ek (K : PySem.W.Frag) (mg : Str → Option Value) (nm fld qual : Str) (st : Stmt) (n : Str) where
  a : Addr
  f : Addr
  fd : FuncData
  m : mg nm = some (.ref a)
  T : OexC K a
  no : PySem.W.findIn K (.ref a) fld = some none
  i : PySem.W.findIn K (.ref a) "__init__" = some (some (.ref f))
  t : PySem.W.typeIn K (.ref f) = some (.type "function")
  F : Fun K "__init__" qual st f fd
  b : Binds K fd ["self", n] []
  C : ExcC K a
  X : XfC K a
structure Gk (K : PySem.W.Frag) (mg : Str → Option Value) (nm : Str) where
  a : Addr
  m : mg nm = some (.ref a)
  g : Gx K a
section
variable {K : PySem.W.Frag} {X : Cx} {W : WX} {x n f qual : Str} {st : Stmt} {e : Expr} {te : TE} {m : EM} {p p2 pos : Pos} {C : Addr} {k kk : Nat} {mg : Str → Option Value}
end
/-! try: .. except G as e: .. -/
/-- what a suite does with the caught exception: a value is returned -/
structure TX (K : PySem.W.Frag) (i : Nat) (t : Addr → Value → Option Addr → TT) (m : Addr → Option Bool) : Prop where
  ok : ∀ (a c : Addr) (d : Option Addr) (fs : List (Str × D)) (σ : St) (H Z : Hp) (b : Bool) (Q : Bool → Hp → Prop), fs.isEmpty = false → Same Z H → σ[i]? = some (some (.ref a)) → ExcAt K Z H d fs → m c = some b → Q b H → t a (.ref c) d σ H Q
structure RX (K : PySem.W.Frag) (i : Nat) (t : Addr → Value → Option Addr → TE) (m : Addr → List (Str × D) → Option D) : Prop where
  ok : ∀ (a c : Addr) (d : Option Addr) (fs : List (Str × D)) (σ : St) (H Z : Hp) (y : D) (Q : VK), fs.isEmpty = false → Same Z H → σ[i]? = some (some (.ref a)) → ExcAt K Z H d fs → m c fs = some y → PostP K Z H y Q → t a (.ref c) d σ H Q
structure HXs (K : PySem.W.Frag) (X : Cx) (i : Nat) (body : List Stmt) (hm : Addr → List (Str × D) → Option D) : Prop where
  ex : ∃ ts : Addr → Value → Option Addr → TS, (∀ (a : Addr) (oe : Obj) (cls : Value) (d : Option Addr) (pn : List (Addr × Obj)), Zc cls d oe → (∃ vs, oe.data = .fields vs) → PSs (X.suite a ((a, oe) :: pn)) body (ts a cls d)) ∧
    ∀ (a c : Addr) (d : Option Addr) (fs : List (Str × D)) (σ : St) (H Z : Hp) (y : D) (E : Ends), fs.isEmpty = false → Same Z H → σ[i]? = some (some (.ref a)) → ExcAt K Z H d fs → hm c fs = some y → PostP K Z H y E.rt → ts a (.ref c) d E σ H
section
variable {K : PySem.W.Frag} {X : Cx} {W : WX} {x n : Str} {cc : Value} {i : Nat} {body suite : List Stmt} {b₀ : Stmt} {np pos pos' : Pos} {tb : WX → TS} {mb : SM} {hm : Addr → List (Str × D) → Option D} {cs : List (Addr × Bool)}
end
/-! what suites ask: isinstance(e, C), e.f -/
def SX (X : Cx) (K : PySem.W.Frag) (e : Expr) (t : Addr → Value → Option Addr → TT) : Prop := X.K = K ∧ ∀ (a : Addr) (oe : Obj) (cls : Value) (d : Option Addr) (pn : List (Addr × Obj)), Zc cls d oe → (∃ vs, oe.data = .fields vs) → PT (X.suite a ((a, oe) :: pn)) e (t a cls d)
def SW (X : Cx) (K : PySem.W.Frag) (e : Expr) (t : Addr → Value → Option Addr → TT) : Prop := X.K = K ∧ ∀ (a : Addr) (oe : Obj) (cls : Value) (d : Option Addr) (pn : List (Addr × Obj)), Zc cls d oe → (∃ vs, oe.data = .fields vs) → PW (X.suite a ((a, oe) :: pn)) e (t a cls d)
def SE (X : Cx) (K : PySem.W.Frag) (e : Expr) (t : Addr → Value → Option Addr → TE) : Prop := X.K = K ∧ ∀ (a : Addr) (oe : Obj) (cls : Value) (d : Option Addr) (pn : List (Addr × Obj)), Zc cls d oe → (∃ vs, oe.data = .fields vs) → PE (X.suite a ((a, oe) :: pn)) e (t a cls d)
/-- a test, a value of the suite -/
structure DTX (K : PySem.W.Frag) (X : Cx) (i : Nat) (e : Expr) (m : Addr → Option Bool) : Prop where
  ex : ∃ t, SX X K e t ∧ TX K i t m
structure DWX (K : PySem.W.Frag) (X : Cx) (i : Nat) (e : Expr) (m : Addr → Option Bool) : Prop where
  ex : ∃ t, SW X K e t ∧ TX K i t m
structure DEX (K : PySem.W.Frag) (X : Cx) (i : Nat) (e : Expr) (m : Addr → List (Str × D) → Option D) : Prop where
  ex : ∃ t, SE X K e t ∧ RX K i t m
section
variable {K : PySem.W.Frag} {X : Cx} {e e1 e2 : Expr} {i : Nat} {pos p p1 p2 : Pos} {x y f : Str} {cc : Addr} {cs : List (Addr × Bool)} {m m1 m2 : Addr → Option Bool} {h h1 h2 : Addr → List (Str × D) → Option D}
end
end DL
namespace DL
open PySem L2
structure Ok (K : PySem.W.Frag) (mg : Str → Option Value) (nm : Str) where
  a : Addr
  m : mg nm = some (.ref a)
section
variable {α : Type} {P : Addr → α → Prop} {Q : Addr → Prop} {a : Addr} {v : α} {cs : List (Addr × α)} {bs : List (Addr × Bool)}
end
end DL
namespace DL
open PySem L2 PyProof.Rows
section
variable {K : PySem.W.Frag} {X : Cx}
/-! lists times an int, longer texts times an int -/
def dRepL : D → D → Option D
  | .lst xs, .int n => if 0 ≤ n ∧ n ≤ 1000 ∧ xs.length ≤ 1000 then some (.lst (List.replicate n.toNat xs).flatten) else none
  | _, _ => none
/-! calls without arguments -/
end
end DL
namespace DL
open PySem L2 PyProof.Rows
/-! any text in a dict of the module whose keys are texts -/
structure GInA (K : PySem.W.Frag) (w : World) (mg : Str → Option Value) (x : Str) (keys : List Str) where
  a : Addr
  m : mg x = some (.ref a)
  all : ∀ z, KIn K w a z (decide (z ∈ keys))
section
variable {K : PySem.W.Frag} {X : Cx} {W : WX} {e : Expr} {pos p : Pos} {te : TE} {m : EM} {mg : Str → Option Value} {w : World} {x : Str} {keys : List Str}
end
/-! a pair as a suite's value -/
theorem ExcAt.mono {K : PySem.W.Frag} {Z H Z' H' : Hp} {d : Option Addr} {fs : List (Str × D)} (x : ExtP Z H Z' H') (h : ExcAt K Z H d fs) : ExcAt K Z' H' d fs := by
  rcases h with h | ⟨a, vs, h1, h2, h3⟩
  · exact .inl h
  · exact .inr ⟨a, vs, h1, x.h _ _ h2, paired_imp (fun _ _ q => ⟨q.1, q.2.mono x.z⟩) h3⟩
section
variable {K : PySem.W.Frag} {X : Cx} {e1 e2 : Expr} {i : Nat} {pos : Pos} {m n : Addr → List (Str × D) → Option D}
end
end DL
namespace DL
open PySem PySem.Spec PyProof.Rows L2 LamX NdefX
/-! ### cells that are held still for a call, or let go for one -/
def without (H : Hp) (cs : Addr → Option Obj) : Hp := fun b => if (cs b).isSome then none else H b
def withC (H : Hp) (cs : Addr → Option Obj) : Hp := fun b => match cs b with
  | some o => some (cellO o)
  | none => H b
theorem without_out {H : Hp} {cs : Addr → Option Obj} {b : Addr} (h : cs b = none) : without H cs b = H b := by unfold without; rw [h]; rfl
theorem withC_out {H : Hp} {cs : Addr → Option Obj} {b : Addr} (h : cs b = none) : withC H cs b = H b := by unfold withC; rw [h]
section
variable {P : Program} {w : World} {H H' : Hp} {h : Heap} {cs : Addr → Option Obj}
end
section
variable {P : Program} {w : World} {H : Hp} {cs : Addr → Option Obj} {outer : List Env} {s s' : Shared} {Q : VK} {u : Value}
end
end DL
namespace DL
open PySem PySem.Spec PyProof.Rows L2 LamX NdefX
/-! ### data without closures -/
mutual
def noClo : D → Bool
  | .clo _ _ => false
  | .lst xs => noClos xs
  | .tup xs => noClos xs
  | .ktup xs => noClos xs
  | .klst xs => noClos xs
  | .scr xs => noClos xs
  | .dK kvs => noCloK kvs
  | .dT kvs => noCloT kvs
  | .non => true | .bl _ => true | .int _ => true | .str _ => true | .fn _ => true | .ty _ => true | .rng _ _ => true
def noClos : List D → Bool
  | [] => true
  | d :: r => noClo d && noClos r
def noCloK : List (Key × D) → Bool
  | [] => true
  | (_, d) :: r => noClo d && noCloK r
def noCloT : List (List Key × D) → Bool
  | [] => true
  | (_, d) :: r => noClo d && noCloT r
end
section
variable {K : PySem.W.Frag} {Z Z' : Hp}
theorem seq_keep (e : ∀ b x, Z b = some x → (∀ o, x ≠ cellO o) → Z' b = some x) {a : Addr} {xs : List V} (h : SqL K Z a xs) : SqL K Z' a xs := by
  rcases h with (h | ⟨o, h⟩) | h
  · exact .inl (.inl (e _ _ h fun o z => by cases z))
  · exact .inl (.inr ⟨o, e _ _ h fun o z => by cases z⟩)
  · exact .inr h
mutual
/-- what is no cell is kept: so is what stands for data -/
theorem Rep.keep (e : ∀ b x, Z b = some x → (∀ o, x ≠ cellO o) → Z' b = some x) : ∀ {v : V} {d : D}, noClo d = true → Rep K Z v d → Rep K Z' v d
  | _, _, _, .non => .non
  | _, _, _, .bl b => .bl b
  | _, _, _, .int i => .int i
  | _, _, _, .str x => .str x
  | _, _, n, .lst h r => .lst (by
    rcases h with h | ⟨o, h⟩
    · exact .inl (e _ _ h fun o z => by cases z)
    · exact .inr ⟨o, e _ _ h fun o z => by cases z⟩) (RepA.keep e (by simpa [noClo] using n) r)
  | _, _, n, .tup h r => .tup (e _ _ h fun o z => by cases z) (RepA.keep e (by simpa [noClo] using n) r)
  | _, _, n, .ktup h r => .ktup (by
    rcases h with (h | ⟨o, h⟩) | h
    · exact .inl (.inl (e _ _ h fun o z => by cases z))
    · exact .inl (.inr ⟨o, e _ _ h fun o z => by cases z⟩)
    · exact .inr h) (RepA.keep e (by simpa [noClo] using n) r)
  | _, _, n, .klst h r => .klst (seq_keep e h) (RepA.keep e (by simpa [noClo] using n) r)
  | _, _, _, .fn a => .fn a
  | _, _, _, .ty n => .ty n
  | _, _, _, .rng h => .rng (e _ _ h fun o z => by cases z)
  | _, _, n, .scr h r => .scr (seq_keep e h) (RepA.keep e (by simpa [noClo] using n) r)
  | _, _, n, .clo _ _ => by simp [noClo] at n
  | _, _, n, .dK h r => .dK (e _ _ h fun o z => by cases z) (RepK.keep e (by simpa [noClo] using n) r)
  | _, _, n, .dT h r => .dT (e _ _ h fun o z => by cases z) (RepT.keep e (by simpa [noClo] using n) r)
theorem RepA.keep (e : ∀ b x, Z b = some x → (∀ o, x ≠ cellO o) → Z' b = some x) : ∀ {v : List V} {d : List D}, noClos d = true → RepA K Z v d → RepA K Z' v d
  | _, _, _, .nil => .nil
  | _, _, n, .cons h r => by
    have n : (noClo _ && noClos _) = true := n
    rw [Bool.and_eq_true] at n
    exact .cons (Rep.keep e n.1 h) (RepA.keep e n.2 r)
theorem RepK.keep (e : ∀ b x, Z b = some x → (∀ o, x ≠ cellO o) → Z' b = some x) : ∀ {v : List (Key × V)} {d : List (Key × D)}, noCloK d = true → RepK K Z v d → RepK K Z' v d
  | _, _, _, .nil => .nil
  | _, _, n, .cons h r => by
    have n : (noClo _ && noCloK _) = true := n
    rw [Bool.and_eq_true] at n
    exact .cons (Rep.keep e n.1 h) (RepK.keep e n.2 r)
theorem RepT.keep (e : ∀ b x, Z b = some x → (∀ o, x ≠ cellO o) → Z' b = some x) : ∀ {v : List (List Key × V)} {d : List (List Key × D)}, noCloT d = true → RepT K Z v d → RepT K Z' v d
  | _, _, _, .nil => .nil
  | _, _, n, .cons h r => by
    have n : (noClo _ && noCloT _) = true := n
    rw [Bool.and_eq_true] at n
    exact .cons (Rep.keep e n.1 h) (RepT.keep e n.2 r)
end
end
end DL
namespace DL
open PySem PySem.Spec PyProof.Rows L2 LamX NdefX
/-! ### the promise of a lambda that captures: its mirror takes the arguments and what is captured -/
def spW (K : PySem.W.Frag) (n : Nat) (m : MA) (ws : List (Option V)) : Sp := fun vs H Q _ => vs.length = n ∧ ∃ Z ds cvs cs r, Same Z H ∧ RepA K Z vs ds ∧ ws = cvs.map some ∧ RepA K Z cvs cs ∧ m (ds ++ cs) = some (.ok r) ∧ PostP K Z H r Q
section
variable {P : Program} {w : World} {K : PySem.W.Frag} {mg : Str → Option Value} {base : Heap} {N ps fr : List Str} {F : NF} {f : Addr} {k : Nat} {body : Expr} {em : EM}
end
/-! ### the call of a closure -/
/-- what a lambda of the text does, wherever it was made -/
def CloOk (P : Program) (w : World) (K : PySem.W.Frag) (mg : Str → Option Value) (base : Heap) (k n : Nat) (L : LamS) (m : MA) : Prop :=
  ∃ ps : List Str, ps.length = n ∧ ∀ a c cl, LOk P w K mg base (L2.CX P w) k a (L.nf cl c) L.body ps L.fr (fun ws => spW K n m ws)
section
variable {X : Cx} {pins : List (Addr × Obj)} {σ : L2.St} {H : Hp} {s : Shared}
end
end DL
namespace DL
open PySem PySem.Spec PyProof.Rows L2 LamX NdefX
/-! ### the call of a local that holds a closure -/
open Classical in
/-- the mirror of a lambda: told by its number, then known to be the same -/
noncomputable def tbm : List (LamS × MA) → LamS → Option MA
  | [], _ => none
  | (L0, m) :: r, L => if L0.ix = L.ix then (if L0 = L then some m else none) else tbm r L
section
variable {K : PySem.W.Frag} {X : Cx} {W : WX} {e : Expr} {es : List Expr} {pos p : Pos} {x : Str} {i n k : Nat} {tb : List (LamS × MA)} {t : TA} {ms : AM}
end
end DL
namespace DL
open PySem PySem.Spec PyProof.Rows L2 LamX NdefX
/-! ### a def is called with a lambda that is made for the call -/
section
variable {X : Cx} {pins : List (Addr × Obj)} {σ : L2.St} {H : Hp} {s : Shared}
end
end DL
namespace DL
open PySem PySem.Spec PyProof.Rows L2 LamX NdefX
/-! ### f(e, lambda ..): the rule -/
section
variable {K : PySem.W.Frag} {X : Cx} {W : WX} {e : Expr} {pos p lpos : Pos} {x : Str} {k : Nat}
end
end DL
namespace DL
open PySem PySem.Spec PyProof.Rows L2 LamX NdefX
/-! ### lambdas out of the text -/
section
variable {P : Program} {w : World} {K : PySem.W.Frag} {mg : Str → Option Value} {base : Heap}
theorem CloOk.mono {k k' n : Nat} {L : LamS} {m : MA} (h : CloOk P w K mg base k n L m) (e : k ≤ k') : CloOk P w K mg base k' n L m := by
  obtain ⟨ps, hp, F⟩ := h
  exact ⟨ps, hp, fun a c cl => ⟨(F a c cl).len, fun A outer s H us vs ws Q E hr => (F a c cl).run A outer s H us vs ws Q E (hr.mono e)⟩⟩
end
@[simp] theorem tbm_hit (L : LamS) (m : MA) (r : List (LamS × MA)) : tbm ((L, m) :: r) L = some m := by
  unfold tbm
  rw [if_pos rfl, if_pos rfl]
/-! ### methods without arguments: l.pop(), l.clear() -/
section
variable {K : PySem.W.Frag} {X : Cx} {W : WX} {e : Expr} {es : List Expr} {pos : Pos}
def gPop : MtG := fun d ds s => match d, ds with
  | .o n, [] => match s.m[n]? with
    | some (.lst xs) => match xs[xs.length - 1]? with
      | some x => some (.ok x (s.m.set n (.lst xs.dropLast)))
      | none => none
    | _ => none
  | _, _ => none
def gClear : MtG := fun d ds s => match d, ds with
  | .o n, [] => match s.m[n]? with
    | some (.lst _) => some (.ok (.p .non) (s.m.set n (.lst [])))
    | _ => none
  | _, _ => none
/-! ### tuples one behind the other -/
def dCatT : D → D → Option D
  | .tup (x :: xs), .tup (y :: ys) => if xs.length + ys.length + 2 ≤ 1000000 then some (.tup (x :: xs ++ y :: ys)) else none
  | _, _ => none
end
@[simp] theorem e_catT (x y : D) (xs ys : List D) : dCatT (.tup (x :: xs)) (.tup (y :: ys)) = if xs.length + ys.length + 2 ≤ 1000000 then some (.tup (x :: xs ++ y :: ys)) else none := rfl
@[simp] theorem e_pop (n : Nat) (s : S) : gPop (.o n) [] s = (match s.m[n]? with | some (.lst xs) => (match xs[xs.length - 1]? with | some x => some (.ok x (s.m.set n (.lst xs.dropLast))) | none => none) | _ => none) := rfl
@[simp] theorem e_clear (n : Nat) (s : S) : gClear (.o n) [] s = (match s.m[n]? with | some (.lst _) => some (.ok (.p .non) (s.m.set n (.lst []))) | _ => none) := rfl
end DL
namespace DL
open PySem
/-! ### addresses that differ, by computing -/
end DL
namespace DL
open PySem L2
/-! ### drawing over any invariant that a draw keeps; the drawn state behind any number of tables -/
structure Dw (sv : DV) (n : Nat) (Iv : List O → Prop) : Prop where
  len : ∀ {M : List O}, Iv M → M.length = n
  tk : ∀ {M : List O} {most : Int} {P : DV → List O → Prop}, Iv M → most < 18446744073709551616 → (∀ r M', Iv M' → (most < 1 → r = 0) → (1 ≤ most → 0 ≤ r ∧ r < most) → P (.p (.int r)) M') → wpB (takeM [sv, .p (.int most)] M) P
theorem Dw.dr (n : Nat) (sv : DV) : Dw sv n (Dr n sv) := ⟨fun h => h.len, fun h hm k => wp_take h hm k⟩
theorem Dw.dx (n : Nat) (sv : DV) (R : List O) : Dw sv (n + R.length) (Dx n sv R) := ⟨fun h => h.len, fun h hm k => wp_takeX h hm k⟩
theorem Dw.drop {sv : DV} {n : Nat} {Iv : List O → Prop} (W : Dw sv n Iv) {M M' : List O} (h : Iv M) (h' : Iv M') (d : DV) : dropM M.length d M' = M' := dropM_len (by rw [W.len h, W.len h'])
structure Db (Ts : List O) (n : Nat) (sv : DV) (B : List O) : Prop where
  len : B.length = n
  tb : ∀ i, i < Ts.length → B[i]? = Ts[i]?
  cl : B.all (closed n) = true
  ex : ∃ (k c : Nat) (i : Int) (cells : List Int), sv = .o k ∧ Ts.length ≤ k ∧ Ts.length ≤ c ∧ B[k]? = some (.lst [.p (.int i), .o c]) ∧ B[c]? = some (intL cells) ∧ k ≠ c ∧ 0 ≤ i ∧ cells ≠ [] ∧ ∀ z ∈ cells, 0 ≤ z
def Dbx (Ts : List O) (n : Nat) (sv : DV) (R M : List O) : Prop := ∃ B, M = B ++ R ∧ Db Ts n sv B
theorem Dbx.of {Ts : List O} {n : Nat} {sv : DV} {M : List O} (h : Db Ts n sv M) : Dbx Ts n sv [] M := ⟨M, (List.append_nil _).symm, h⟩
theorem Dbx.nil {Ts : List O} {n : Nat} {sv : DV} {M : List O} (h : Dbx Ts n sv [] M) : Db Ts n sv M := by obtain ⟨B, rfl, h⟩ := h; rwa [List.append_nil]
theorem Dbx.len {Ts : List O} {n : Nat} {sv : DV} {R M : List O} (h : Dbx Ts n sv R M) : M.length = n + R.length := by obtain ⟨B, rfl, h⟩ := h; rw [List.length_append, h.len]
theorem Dbx.get {Ts : List O} {n : Nat} {sv : DV} {R M : List O} (h : Dbx Ts n sv R M) (i : Nat) : M[n + i]? = R[i]? := by
  obtain ⟨B, rfl, h⟩ := h
  rw [List.getElem?_append_right (by rw [h.len]; omega), h.len]
  congr 1; omega
theorem Dbx.set {Ts : List O} {n : Nat} {sv : DV} {R M : List O} (h : Dbx Ts n sv R M) (i : Nat) (o : O) : Dbx Ts n sv (R.set i o) (M.set (n + i) o) := by
  obtain ⟨B, rfl, h⟩ := h
  refine ⟨B, ?_, h⟩
  rw [List.set_append_right _ _ (by rw [h.len]; omega), h.len]
  congr 2; omega
theorem Db.le {Ts : List O} {n : Nat} {sv : DV} {B : List O} (h : Db Ts n sv B) : Ts.length ≤ n := by
  obtain ⟨k, c, i, cells, rfl, k0, c0, hk, _⟩ := h.ex
  have := (List.getElem?_eq_some_iff.mp hk).1
  rw [h.len] at this
  omega
theorem Dbx.drop {Ts : List O} {n : Nat} {sv : DV} {R G M : List O} {d : D} (h : Dbx Ts n sv (R ++ G) M) (hR : R.all (closed (n + R.length)) = true) {k : Nat} (hk : k = n + R.length) : Dbx Ts n sv R (dropM k (.p d) M) := by
  subst hk
  obtain ⟨B, rfl, h⟩ := h
  have e : (B ++ (R ++ G)).take (n + R.length) = B ++ R := by
    rw [← List.append_assoc, List.take_append_of_le_length (by rw [List.length_append, h.len]; exact Nat.le_refl _), List.take_of_length_le (by rw [List.length_append, h.len]; exact Nat.le_refl _)]
  have c : (B ++ R).all (closed (n + R.length)) = true := by
    rw [List.all_append, hR, Bool.and_true]
    exact List.all_eq_true.mpr fun o ho => closed_mono (Nat.le_add_right _ _) o (List.all_eq_true.mp h.cl o ho)
  unfold dropM
  rw [e, c]
  exact ⟨B, rfl, h⟩
theorem wp_takeB {Ts : List O} {n : Nat} {sv : DV} {R M : List O} {most : Int} {P : DV → List O → Prop} (h : Dbx Ts n sv R M) (hm : most < 18446744073709551616) (k : ∀ r M', Dbx Ts n sv R M' → (most < 1 → r = 0) → (1 ≤ most → 0 ≤ r ∧ r < most) → P (.p (.int r)) M') : wpB (takeM [sv, .p (.int most)] M) P := by
  obtain ⟨B, rfl, h⟩ := h
  obtain ⟨kk, c, i, cells, rfl, k0, c0, hk, hc, kc, hi, ne, nn⟩ := h.ex
  have lk := (List.getElem?_eq_some_iff.mp hk).1
  have lc := (List.getElem?_eq_some_iff.mp hc).1
  obtain ⟨r, M', e, d, b0, b⟩ := take_raw (M := B ++ R) (by rw [List.getElem?_append_left lk]; exact hk) (by rw [List.getElem?_append_left lc]; exact hc) kc hi ne nn most hm
  refine ⟨_, _, e, ?_⟩
  rcases d with rfl | ⟨cells', rfl, ne', nn'⟩ | rfl
  · exact k r _ ⟨B, rfl, h⟩ b0 b
  · rw [List.set_append_left _ _ lc]
    exact k r _ ⟨_, rfl, ⟨by rw [List.length_set]; exact h.len, fun j hj => by rw [List.getElem?_set_ne (by omega)]; exact h.tb j hj, all_set h.cl (closed_ints n _) c, kk, c, i, cells', rfl, k0, c0, by rw [List.getElem?_set_ne kc.symm]; exact hk, by rw [List.getElem?_set_self lc], kc, hi, ne', nn'⟩⟩ b0 b
  · rw [List.set_append_left _ _ lk]
    exact k r _ ⟨_, rfl, ⟨by rw [List.length_set]; exact h.len, fun j hj => by rw [List.getElem?_set_ne (by omega)]; exact h.tb j hj, all_set h.cl (show closed n (.lst [.p (.int (i + 1)), .o c]) = true from (List.all_eq_true.mp h.cl _ (List.mem_of_getElem? hk) : closed n (.lst [.p (.int i), .o c]) = true)) kk, kk, c, i + 1, cells, rfl, k0, c0, by rw [List.getElem?_set_self lk], by rw [List.getElem?_set_ne kc]; exact hc, kc, by omega, ne, nn⟩⟩ b0 b
theorem state_Ts (Ts : List O) (hT : ∀ o ∈ Ts, ∃ P q, o = O.tbl P q) (ns : List Int) (hl : ns.length ≤ 63) : ∃ n sv B, stateM [.p (.scr (ns.map .int))] Ts = some (.ok sv B) ∧ Db Ts n sv B := by
  have hcl : ∀ m, Ts.all (closed m) = true := fun m => List.all_eq_true.mpr fun o ho => by
    obtain ⟨P, q, rfl⟩ := hT o ho; rfl
  have hc : slE (.scr (ns.map D.int)) none (some 63) = some (.lst (ns.map D.int)) := by
    show some (D.lst (cutD (ns.map D.int) none (some 63))) = _
    rw [cut63 _ (by simpa using hl)]
  have hm : compL [some (.p (.scr (ns.map .int))), none, none] (gN 2) tYesM (mCB (g1 dAbs) (aCons (mVar 2) aNil)) ((ns.map D.int).map DV.p) [] Ts = some ((ns.map iabs).map D.int, Ts) := by
    rw [compL_map (f := fun d => match d with | .p (.int i) => .int (iabs i) | _ => .non) ((ns.map D.int).map DV.p) (fun d hd => by
      rw [List.map_map] at hd
      obtain ⟨i, _, rfl⟩ := List.mem_map.mp hd
      exact ⟨_, rfl, rfl, by simp [e_bnd, iabs]⟩) (by simp; omega)]
    simp
  have dr : ∀ (j : Nat) (M : List O), Ts.length ≤ j → dropM Ts.length (.o j) M = M := fun j M hj => by
    unfold dropM
    have : ltO Ts.length (.o j) = false := by simp [ltO]; omega
    rw [this]; rfl
  by_cases he : ns = []
  · refine ⟨Ts.length + 3, .o (Ts.length + 2), Ts ++ [.lst [], .lst [.p (.int 0)], .lst [.p (.int 0), .o (Ts.length + 1)]], ?_, by simp, fun i hi => by rw [List.getElem?_append_left hi], ?_, Ts.length + 2, Ts.length + 1, 0, [0], rfl, by omega, by omega, ?_, ?_, by omega, by decide, by simp, by simp⟩
    · subst he
      simp only [List.map_nil] at hc hm
      simp [e_bnd, e_seq, e_lift, e_runA, e_runB, stateM, stateB, hc, hm, dr]
    · rw [List.all_append, hcl, Bool.true_and]
      simp [closed, ltO]
    · rw [List.getElem?_append_right (by omega)]; simp
    · rw [List.getElem?_append_right (by omega)]; simp [intL]
  · refine ⟨Ts.length + 2, .o (Ts.length + 1), Ts ++ [.lst ((ns.map iabs).map fun z => .p (.int z)), .lst [.p (.int 0), .o Ts.length]], ?_, by simp, fun i hi => by rw [List.getElem?_append_left hi], ?_, Ts.length + 1, Ts.length, 0, ns.map iabs, rfl, by omega, by omega, ?_, ?_, by omega, by decide, by simpa using he, ?_⟩
    · generalize hA : (ns.map iabs) = A at hm
      have hA' : A ≠ [] := by rw [← hA]; simpa using he
      have hA2 : ¬ A.length = 0 := by
        intro h; exact hA' (List.length_eq_zero_iff.mp h)
      generalize hB : ns.map D.int = B at hm hc
      simp [e_bnd, e_seq, e_lift, e_runA, e_runB, stateM, stateB, hc, hm, dr, hA', hA2]
    · have := closed_ints (Ts.length + 2) (ns.map iabs)
      rw [List.all_append, hcl, Bool.true_and]
      simp only [List.all_cons, List.all_nil, this]
      simp [closed, ltO]
    · rw [List.getElem?_append_right (by omega)]; simp
    · rw [List.getElem?_append_right (by omega)]; simp [intL]
    · intro z hz
      obtain ⟨y, _, rfl⟩ := List.mem_map.mp hz
      unfold iabs
      split <;> omega
end DL
namespace DL
open PySem PySem.Spec PyProof.Rows L2 LamX NdefX
/-! ### the end of a law whose defs make lambdas and whose mirrors speak of addresses of defs and classes too -/
end DL
namespace DL
open PySem PySem.Spec PyProof.Rows L2
section
variable {K : PySem.W.Frag} {Z H : Hp} {I : List Addr} {M : List O}
/-! ### dicts that are data: given up and locked, read, walked -/
variable {W : WX}
end
section
variable {K : PySem.W.Frag} {X : Cx} {W : WX} {o e f tg iter : Expr} {apos cpos : Pos} {td ty tx : TE} {m n k : EM}
/-! ### d.get(k), d.get(k, x), of one's own or of data -/
def isDc (M : List O) (d : DV) : Bool := (dcM M d).isSome
/-! ### for k in d, d data -/
end
end DL
namespace DL
open PySem PySem.Spec PyProof.Rows L2
/-! ### repr of dicts with tuple keys, of data without lists -/
section
variable {X : Cx} {pins : List (Addr × Obj)} {σ : L2.St} {H Z : Hp} {s : Shared}
end
section
variable {K : PySem.W.Frag} {X : Cx}
end
end DL
namespace DL
open PySem PySem.Spec PyProof.Rows L2
/-! ### repr of data with dicts and lists inside: the base holds a dict at sysModules -/
section
variable {X : Cx} {pins : List (Addr × Obj)} {σ : L2.St} {H Z : Hp} {s : Shared}
end
section
variable {K : PySem.W.Frag} {X : Cx}
end
end DL
namespace DL
open PySem PySem.Spec PyProof.Rows L2 LamX NdefX
/-! ### the end of a law: the base holds a dict at sysModules -/
section
variable {P : Program} {w : World} {K : PySem.W.Frag} {mg : Str → Option Value} {base : Heap} {x qual : Str} {st : Stmt} {f a : Addr} {fd : FuncData} {N : List Str} {k : Nat}
end
end DL
namespace DL
open PySem PySem.Spec PyProof.Rows L2 LamX NdefX
end DL
namespace DL
open PySem PySem.Spec PyProof.Rows L2 LamX NdefX
end DL
namespace DL
open PySem PySem.Spec PyProof.Rows L2
/-! ### d.pop(k), del d[k], of dicts of one's own with texts, numbers or tuples as keys -/
section
variable {X : Cx} {pins : List (Addr × Obj)} {σ : L2.St} {H H' : Hp} {s : Shared} {a : Addr} {y v : V} {u : Value} {A : Around} {E : Value → Shared → Prop}
end
section
variable {X : Cx} {o i e : Expr} {pos tpos apos cpos : Pos} {td ty : TE}
end
section
variable {K : PySem.W.Frag} {X : Cx} {W : WX} {o e i : Expr} {pos tpos apos cpos : Pos} {td ty : TE} {m n : EM} {Z H : Hp} {I : List Addr} {M M' : List O}
/-- d.pop(k) at a dict of one's own -/
def popM (M : List O) (n : Nat) (k : D) : Option (DV × List O) := match M[n]? with
  | some (.dK ds) => match keyD k with
    | some kk => match valO ds kk with
      | some v => some (v, M.set n (.dK (dropO ds kk)))
      | none => none
    | none => none
  | some (.dT ds) => match keyT k with
    | some kk => match valO ds kk with
      | some v => some (v, M.set n (.dT (dropO ds kk)))
      | none => none
    | none => none
  | _ => none
def popK (d : DV) (k : D) : EM := fun s => match d with
  | .o i => match popM s.m i k with
    | some (v, M) => some (.ok v M)
    | none => none
  | _ => none
def mDpop (m n : EM) : EM := bnd m fun d s => if isDc s.m d = true then bnd n (pur (popK d)) s else none
/-- del d[k] -/
def sDelK (d : DV) (k : D) : SM := fun s => match d with
  | .o n => match popM s.m n k with
    | some (_, M) => some (.nx, ⟨s.l, M⟩)
    | none => none
  | _ => none
def sDel (md mk : EM) : SM := liftS md fun d => liftS mk (purS fun k => sDelK d k)
@[simp] theorem e_dpop (m n : EM) (s : S) : mDpop m n s = (bnd m fun d s => if isDc s.m d = true then bnd n (pur (popK d)) s else none) s := rfl
@[simp] theorem e_del (md mk : EM) (s : S) : sDel md mk s = (liftS md fun d => liftS mk (purS fun k => sDelK d k)) s := rfl
end
end DL
namespace PySem.SeqAt
open PySem PyProof.Rows
variable {P : Program} {w : World}
end PySem.SeqAt
namespace PySem.W
open PySem PyProof.Rows PySem.Spec
variable {P : Program} {w : World} {K : Type} [DecidableEq K] {knd : HeapKind P w K}
end PySem.W
namespace DL
open PySem PySem.Spec PyProof.Rows L2
/-! ### == of data with dicts inside, where it is true -/
section
variable {X : Cx} {pins : List (Addr × Obj)} {σ : L2.St} {H Z : Hp} {s : Shared}
end
section
variable {K : PySem.W.Frag} {X : Cx}
end
end DL
namespace PySem
open PyProof.Rows
section
variable {P : Program} {w : World} {K : Type} [DecidableEq K] {knd : HeapKind P w K} {A : Around} {E : Value → Shared → Prop} {s : Shared}
end
end PySem
namespace DL
open PySem PySem.Spec PyProof.Rows L2
section
def hKey : Key → Int
  | .inl i => hashInt i
  | .inr _ => 0
def hTup (ks : List Key) : Int := reduceHash (Builtin.Tuple.tupleHashOf (ks.map hKey))
def intKeys (ks : List Key) : Bool := ks.all fun k => k.isLeft
def apart (l : List (List Key)) : Bool := l.all intKeys && decide ((l.map hTup).Nodup)
variable {X : Cx} {K : PySem.W.Frag} {W : WX} {e : Expr} {pos p : Pos} {x : Str}
end
end DL
namespace DL
open PySem PySem.Spec PyProof.Rows L2
section
variable {K : PySem.W.Frag} {X : Cx} {W : WX} {e a b c : Expr} {es : List Expr} {pos : Pos} {Z H : Hp} {I : List Addr} {M : List O}
/-! ### calls of built-ins that make an object of one's own -/
structure CallO (K : PySem.W.Frag) (X : Cx) (f : Value) (r : List V → Hp → VK → Prop) (g : List O → List DV → Option O) : Prop where
  op : X.K = K → CallR X f r
  ok : ∀ (vs : List V) (ds : List DV) (o : O) (Z H : Hp) (I : List Addr) (M : List O) (Q : VK), Wf K Z H I M → RepVs K Z I vs ds → g M ds = some o →
    (∀ (p : Addr) (u : HO), H p = none → RepO K Z (I ++ [p]) (upd H p u) p o → Q (.ref p) (upd H p u)) → r vs H Q
def mCBO (g : List O → List DV → Option O) (ms : AM) : EM := bnd ms fun ds s => match g s.m ds with
  | some o => some (.ok (.o s.m.length) (s.m ++ [o]))
  | none => none
/-! ### a slice of a list of one's own -/
def slO (M : List O) : DV → Option Int → Option Int → Option D
  | .p d, i, j => slE d i j
  | .o n, i, j => match M[n]? with
    | some (.lst ds) => match allP ds with
      | some xs => some (.lst (cutD xs i j))
      | none => none
    | _ => none
def mSlO (m : EM) (l u : PM) : EM := bnd m fun d => bnd l fun i => bnd u fun j s => ret (slO s.m d i j) s
/-! ### a, b, c, d = (..): the values may be one's own -/
def sUnp (ms : AM) (n : Nat) (m : List DV → S → Option S) : SM := liftS ms fun ds s => if ds.length = n ∧ n ≤ 1000 then
  match m ds s with
  | some s1 => some (.nx, s1)
  | none => none
  else none
@[simp] theorem e_cbO (g : List O → List DV → Option O) (ms : AM) (s : S) : mCBO g ms s = (bnd ms fun ds s => match g s.m ds with | some o => some (.ok (.o s.m.length) (s.m ++ [o])) | none => none) s := rfl
@[simp] theorem e_slO (m : EM) (l u : PM) (s : S) : mSlO m l u s = (bnd m fun d => bnd l fun i => bnd u fun j s => ret (slO s.m d i j) s) s := rfl
@[simp] theorem e_unp (ms : AM) (n : Nat) (m : List DV → S → Option S) (s : S) : sUnp ms n m s = (liftS ms fun ds s => if ds.length = n ∧ n ≤ 1000 then (match m ds s with | some s1 => some (.nx, s1) | none => none) else none) s := rfl
end
end DL
namespace L2
open PySem PySem.Spec PyProof.Rows
/-! ### a clause of a comprehension, whatever its turn does -/
def Sub0 (a b : St) : Prop := a.length = b.length ∧ ∀ (i : Nat) (v : V), a[i]? = some (some v) → b[i]? = some (some v)
theorem sub_wipe {a b : St} {vs : List Nat} (h : wipe b vs = wipe a vs) : Sub0 (wipe a vs) b := by
  rw [← h]
  exact ⟨wipe_length _ _, fun i v e => (wipe_some e).1⟩
def TurnIs (Y : Cx) (e : Expr) (j : Nat) (tg : Expr) (ifs : List Expr) (ipos : Pos) (it D : Addr) (body : Sem PySem.Fin) : Prop :=
  compTurn e j (.ref it) (.ref D) Y.env = (do
    standAt ipos
    match ← pyNext (.ref it) with
    | none => pure (.done .next)
    | some v =>
      letOwnedTupleGo tg (.ref it) v
      assign tg Y.env v
      let mut ok := true
      for c in ifs do
        if ok then ok ← isTrue c Y.env (eval c Y.env)
      if ok then body else again (.compLoop e j (.ref it) (.ref D) Y.env))
theorem sub_out {a b c : St} {vs : List Nat} (h1 : Sub0 (wipe a vs) b) (h2 : Sub0 (wipe b vs) c) : Sub0 (wipe a vs) c := by
  refine ⟨h1.1.trans ((wipe_length b vs).symm.trans h2.1), fun i v e => h2.2 i v ?_⟩
  rw [wipe_out (wipe_some e).2]
  exact h1.2 i v e
abbrev inBlk (X : Cx) (scope : Scope) (p : Cx → Prop) : Prop := ∀ (s : Shared) (H : Hp) (C : Addr) (cl : List (Str × Addr)) (fp : List Addr), p (X.blk s H scope (compEnvC scope cl C X.env) fp)
/-- what a turn's body owes -/
def Body (Y : Cx) (e : Expr) (j : Nat) (vs : List Nat) (tb : Addr → St → Hp → (Hp → Prop) → Prop) (body : Addr → Addr → Env → Sem PySem.Fin) : Prop :=
  ∀ (it D : Addr) (pins : List (Addr × Obj)) (σ : St) (s : Shared) (H : Hp) (Nx : Hp → Prop), Inv Y pins σ H s → tb D σ H Nx →
    wpAny (model Y.prog Y.w) Y.A (body it D Y.env) (fun f s' => f = .again (.compLoop e j (.ref it) (.ref D) Y.env) ∧ ∃ σ' H', Inv Y pins σ' H' s' ∧ Sub0 (wipe σ vs) σ' ∧ Nx H') (fun _ _ => False) s
section
variable {X : Cx} {kx vx tg iter : Expr} {ifs : List Expr} {rest : List Comprehension} {scope : Scope} {own : List (Str × Nat)} {pos pos' : Pos} {wi : TI} {g : TG} {tt : TT} {tb : Addr → St → Hp → (Hp → Prop) → Prop} {body : Addr → Addr → Env → Sem PySem.Fin}
/-- what a comprehension owes whose value is used at once -/
theorem end_val {pins : List (Addr × Obj)} {σ : St} {Q : VK} (D C : Addr) (s' : Shared) (m : Str → Option Value) (H' : Hp) (I' : Inv X pins σ H' s') (q : Q (.ref D) H') (hn : s'.heap.Ns C m) (f : FpOk X pins H' C) :
    compPost (model X.prog X.w) X.A X.xe none (EP X pins σ Q) (.ref D) C (.ok .next) s' := by
  refine ⟨m, hn, fun h'' sb => ?_⟩
  obtain ⟨f0, f1, f2, f3, f4, f5⟩ := f
  exact ⟨.ref D, H', I'.turned (t' := s'.toks) (fun b o hb e => (sb.2 b hb).trans e) f0 f1 f3 f4 f5, rfl, q⟩
end
end L2
namespace L2
open PySem PySem.Spec PyProof.Rows
section
variable {X : Cx} {kx vx tg iter tg1 iter1 : Expr} {ifs ifs1 : List Expr} {scope : Scope} {own : List (Str × Nat)} {pos pos' : Pos} {wi wi1 : TI} {g g1 : TG} {tt tt1 : TT} {tk tv : TE}
def inBody (e i1 : Expr) (it D : Addr) (env : Env) : Sem PySem.Fin := do
  let a ← eval i1 env
  standAt i1.pos
  let a ← foldedSetIterable i1 env a
  let _ ← runOwn (.compStart e 1 (← holding [a] (pyIter a)) (.ref D) env) env
  again (.compLoop e 0 (.ref it) (.ref D) env)
theorem sub_wipe0 (σ : St) (vs : List Nat) : Sub0 (wipe σ vs) σ := ⟨wipe_length _ _, fun _ _ e => (wipe_some e).1⟩
end
end L2
namespace DL
open PySem L2
section
variable {K : PySem.W.Frag} {X : Cx} {W : WX}
/-- what is known of the new dict at D while it is filled -/
structure FillT (K : PySem.W.Frag) (Z1 H1 : Hp) (I1 : List Addr) (D : Addr) (Z H : Hp) (I : List Addr) (M : List O) (acc : List (List Key × V)) (ad : List (List Key × DL.D)) : Prop where
  w : Wf K Z H I M
  x : Ext Z1 H1 I1 Z H I
  at_ : H D = some (.dT acc)
  nz : Z D = none
  ni : D ∉ I
  r : Paired (FRel K Z I) acc (ad.map fun p => (p.1, DV.p p.2))
theorem frel_mono {Z H Z' H' : Hp} {I I' : List Addr} (e : Ext Z H I Z' H' I') {κ : Type} {a : List (κ × V)} {b : List (κ × DV)} (r : Paired (FRel K Z I) a b) : Paired (FRel K Z' I') a b := paired_imp (fun _ _ h => ⟨h.1, h.2.mono e⟩) r
theorem FillT.step {Z1 H1 Z H Z' H' : Hp} {I1 I I' : List Addr} {D : Addr} {M M' : List O} {acc : List (List Key × V)} {ad : List (List Key × DL.D)} (f : FillT K Z1 H1 I1 D Z H I M acc ad) (w : Wf K Z' H' I' M') (x : Ext Z H I Z' H' I') : FillT K Z1 H1 I1 D Z' H' I' M' acc ad where
  w := w
  x := f.x.trans x
  at_ := x.fr D _ f.at_ f.ni
  nz := by
    cases q : Z' D with
    | none => rfl
    | some o =>
      rcases x.zn D (by rw [q]; simp) with k | k | k
      · exact absurd f.nz k
      · exact (Fr.no f.at_ (fun _ e => nomatch e) k).elim
      · exact absurd k f.ni
  ni := fun m => by
    rcases x.nw D m with k | k
    · exact f.ni k
    · rw [f.at_] at k; cases k
  r := frel_mono x f.r
theorem FillT.put {Z1 H1 Z H : Hp} {I1 I : List Addr} {D : Addr} {M : List O} {acc : List (List Key × V)} {ad : List (List Key × DL.D)} (f : FillT K Z1 H1 I1 D Z H I M acc ad) (h0 : H1 D = none) {v : V} {d : DL.D} (r : Rep K Z v d) (k : List Key) :
    FillT K Z1 H1 I1 D Z (upd H D (.dT (putK acc k v))) I M (putK acc k v) (putO ad k d) where
  w := ⟨fun a u e => by rw [upd_ne (fun q => by rw [q, f.nz] at e; cases e)]; exact f.w.sub a u e, f.w.len, f.w.nd, fun a m => by rw [upd_ne (fun q => f.ni (by rw [← q]; exact m))]; exact f.w.tr a m, fun n a o h1 h2 h3 => by
    obtain ⟨q1, q2⟩ := f.w.ob n a o h1 h2 h3
    exact ⟨q1, q2.mono (Same.refl _) (upd_ne fun q => f.ni (by rw [← q]; exact List.mem_of_getElem? h1))⟩⟩
  x := ⟨f.x.z, f.x.i, fun a o e n => by rw [upd_ne (ne_of_none e h0)]; exact f.x.fr a o e n, f.x.nw, f.x.zn, fun a e => by
    by_cases q : a = D
    · rw [q, upd_same]; simp
    · rw [upd_ne q]; exact f.x.tr a e⟩
  at_ := upd_same
  nz := f.nz
  ni := f.ni
  r := by
    have e : (putO ad k d).map (fun p => (p.1, DV.p p.2)) = putO (ad.map fun p => (p.1, DV.p p.2)) k (.p d) := by
      unfold putO
      rw [List.any_map]
      have ea : (ad.any ((fun kv : List Key × DV => decide (kv.1 = k)) ∘ fun p => (p.1, DV.p p.2))) = ad.any fun kv => decide (kv.1 = k) := rfl
      rw [ea]
      split
      · rw [List.map_map, List.map_map]
        refine List.map_congr_left fun p _ => ?_
        show (((if p.1 = k then (p.1, d) else p) : List Key × DL.D).1, DV.p ((if p.1 = k then (p.1, d) else p) : List Key × DL.D).2) = if p.1 = k then (p.1, DV.p d) else (p.1, DV.p p.2)
        split <;> rfl
      · rw [List.map_append]; rfl
    rw [e]
    exact putP_rep f.r k r
abbrev BM := S → List (List Key × D) → Option (List (List Key × D) × List O)
def compG (l : List (Option DV)) (g : GM) (t : EM) (bm : BM) : List DV → List (List Key × D) → List O → Option (List (List Key × D) × List O)
  | [], acc, M => some (acc, M)
  | d :: ds, acc, M => match g d ⟨l, M⟩ with
    | none => none
    | some s1 => match t s1 with
      | some (.ok (.p (.bl true)) M1) => match bm ⟨s1.l, M1⟩ acc with
        | some (acc', M2) => compG l g t bm ds acc' M2
        | none => none
      | some (.ok (.p (.bl false)) M1) => compG l g t bm ds acc M1
      | _ => none
def mDc (it : IM) (vs : List Nat) (g : GM) (t : EM) (bm : BM) : EM := bnd it fun ds s => match compG (wipeL s.l vs) g t bm ds [] s.m with
  | some (acc, M) => some (.ok (.o M.length) (M ++ [.dT (acc.map fun p => (p.1, .p p.2))]))
  | none => none
theorem FillT.own {Z1 H1 Z H : Hp} {I1 I : List Addr} {D : Addr} {M : List O} {acc : List (List Key × V)} {ad : List (List Key × DL.D)} (f : FillT K Z1 H1 I1 D Z H I M acc ad) (h0 : H1 D = none) :
    Wf K Z H (I ++ [D]) (M ++ [.dT (ad.map fun p => (p.1, .p p.2))]) ∧ Ext Z1 H1 I1 Z H (I ++ [D]) := by
  have x0 : Ext Z H I Z H (I ++ [D]) ∨ True := .inr trivial
  have mono : ∀ {v : V} {d : DV}, RepV K Z I v d → RepV K Z (I ++ [D]) v d := fun {v d} h => h.mono2 (Same.refl _) ⟨[D], rfl⟩
  refine ⟨⟨f.w.sub, by rw [List.length_append, List.length_append, f.w.len]; rfl, ?_, fun a m => ?_, fun n a o h1 h2 h3 => ?_⟩, ⟨f.x.z, ?_, f.x.fr, fun a m => ?_, f.x.zn, f.x.tr⟩⟩
  · refine List.nodup_append.mpr ⟨f.w.nd, by simp, fun a ha b hb => ?_⟩
    rw [List.mem_singleton.mp hb]
    intro e
    exact f.ni (by rw [← e]; exact ha)
  · rcases List.mem_append.mp m with k | k
    · exact f.w.tr a k
    · rw [List.mem_singleton.mp k, f.at_]; simp
  · by_cases hn : n < I.length
    · rw [List.getElem?_append_left hn] at h1
      rw [List.getElem?_append_left (by rw [← f.w.len]; exact hn)] at h2
      obtain ⟨q1, q2⟩ := f.w.ob n a o h1 h2 h3
      refine ⟨q1, ?_⟩
      cases o with
      | lst ds => obtain ⟨xs, g1, g2⟩ := q2; exact ⟨xs, g1, paired_imp (fun _ _ h => mono h) g2⟩
      | dK ds => obtain ⟨xs, g1, g2⟩ := q2; exact ⟨xs, g1, paired_imp (fun _ _ h => ⟨h.1, mono h.2⟩) g2⟩
      | dT ds => obtain ⟨xs, g1, g2⟩ := q2; exact ⟨xs, g1, paired_imp (fun _ _ h => ⟨h.1, mono h.2⟩) g2⟩
      | ins C fs => obtain ⟨dx, xs, g1, g2⟩ := q2; exact ⟨dx, xs, g1, paired_imp (fun _ _ h => ⟨h.1, mono h.2⟩) g2⟩
      | tbl P q => exact q2
      | clo _ _ =>
        obtain ⟨c, cl, cvs, g1, n, g2⟩ := q2
        refine ⟨c, cl, cvs, g1, fun y b q m => ?_, paired_imp (fun _ _ h => mono h) g2⟩
        rcases List.mem_append.mp m with k | k
        · exact n y b q k
        · obtain ⟨o, v, g3, _⟩ := g1.all y b q
          have g4 := f.w.sub b _ g3
          rw [List.mem_singleton.mp k, f.at_] at g4; cases g4
      | gone => trivial
    · have e1 : n = I.length := by
        have := (List.getElem?_eq_some_iff.mp h1).1
        rw [List.length_append, List.length_singleton] at this
        omega
      subst e1
      rw [List.getElem?_append_right (Nat.le_refl _), Nat.sub_self] at h1
      rw [List.getElem?_append_right (by rw [f.w.len]; exact Nat.le_refl _), f.w.len, Nat.sub_self] at h2
      cases h1
      cases h2
      exact ⟨f.nz, acc, f.at_, paired_imp (fun _ _ h => ⟨h.1, mono h.2⟩) f.r⟩
  · obtain ⟨t, e⟩ := f.x.i
    exact ⟨t ++ [D], by rw [e, List.append_assoc]⟩
  · rcases List.mem_append.mp m with k | k
    · exact f.x.nw a k
    · rw [List.mem_singleton.mp k]; exact .inr h0
section
variable {kx vx tg iter tg1 iter1 : Expr} {ifs ifs1 : List Expr} {scope : Scope} {own : List (Str × Nat)} {pos : Pos} {wi wi1 : TI} {g g1 : TG} {tt tt1 : TT} {tk tv : TE} {it it1 : IM} {gm gm1 : GM} {ix ix1 : List Nat} {t t1 ek ev : EM}
abbrev inBlkD (X : Cx) (scope : Scope) (p : Cx → Prop) : Prop := ∀ (s : Shared) (H : Hp) (C : Addr) (cl : List (Str × Addr)) (fp : List Addr), p (X.blk s H scope (compEnvC scope cl C X.env) fp)
end
@[simp] theorem e_dc (it : IM) (vs : List Nat) (g : GM) (t : EM) (bm : BM) (s : S) : mDc it vs g t bm s = (bnd it fun ds s => match compG (wipeL s.l vs) g t bm ds [] s.m with | some (acc, M) => some (.ok (.o M.length) (M ++ [.dT (acc.map fun p => (p.1, .p p.2))])) | none => none) s := rfl
end
end DL
namespace DL
open PySem L2
section
variable {K : PySem.W.Frag} {X : Cx} {W : WX} {a b c : Expr} {pos : Pos}
/-! ### a, b, c = x, y, z -/
def sPar3 (i j l : Nat) (ms : AM) : SM := liftS ms fun ds s => match ds with
  | [d, e, f] => some (.nx, ⟨((s.l.set i (some d)).set j (some e)).set l (some f), s.m⟩)
  | _ => none
@[simp] theorem e_par3 (i j l : Nat) (ms : AM) (s : S) : sPar3 i j l ms s = (liftS ms fun ds s => match ds with | [d, e, f] => some (.nx, ⟨((s.l.set i (some d)).set j (some e)).set l (some f), s.m⟩) | _ => none) s := rfl
end
section
variable {K : PySem.W.Frag} {X : Cx} {W : WX}
variable {kx vx tg iter tg1 iter1 : Expr} {ifs ifs1 : List Expr} {scope : Scope} {own : List (Str × Nat)} {pos : Pos} {wi wi1 : TI} {g g1 : TG} {tt tt1 : TT} {tk tv : TE} {it it1 : IM} {gm gm1 : GM} {ix ix1 : List Nat} {t t1 ek ev : EM}
/-! ### x = {..} -/
end
end DL
namespace DL
open PySem L2
section
variable {K : PySem.W.Frag} {X : Cx} {W : WX}
/-! ### l.pop(i), any i -/
def gPopI : MtG := fun d ds s => match d, ds with
  | .o n, [.p (.int i)] => match s.m[n]? with
    | some (.lst xs) => match ixN xs.length i with
      | some k => match xs[k]? with
        | some x => if xs.length ≤ 1000000 then some (.ok x (s.m.set n (.lst (xs.eraseIdx k)))) else none
        | none => none
      | none => none
    | _ => none
  | _, _ => none
@[simp] theorem e_popI (n : Nat) (i : Int) (s : S) : gPopI (.o n) [.p (.int i)] s = (match s.m[n]? with
    | some (.lst xs) => match ixN xs.length i with
      | some k => match xs[k]? with
        | some x => if xs.length ≤ 1000000 then some (.ok x (s.m.set n (.lst (xs.eraseIdx k)))) else none
        | none => none
      | none => none
    | _ => none) := rfl
end
end DL
namespace DL
open PySem L2
/-! ### try: .. except X: return c (the exception has no name) -/
section
variable {K : PySem.W.Frag} {X : Cx} {W : WX} {x n : Str} {cc : Value} {body : List Stmt} {e : Expr} {te : TE} {m : EM} {y : D} {np rp pos pos' : Pos} {tb : WX → TS} {mb : SM} {cs : List (Addr × Bool)}
end
end DL
namespace DL
open PySem PySem.Spec PyProof.Rows L2
/-! ### del xs[i] of a list of one's own -/
section
variable {K : PySem.W.Frag} {X : Cx} {W : WX}
def sDelLK (d : DV) (i : D) : SM := fun s => match d, i with
  | .o n, .int i => match s.m[n]? with
    | some (.lst xs) => match ixN xs.length i with
      | some k => if xs.length ≤ 1000000 then some (.nx, ⟨s.l, s.m.set n (.lst (xs.eraseIdx k))⟩) else none
      | none => none
    | _ => none
  | _, _ => none
def sDelL (mo mi : EM) : SM := liftS mo fun d => liftS mi (purS fun i => sDelLK d i)
@[simp] theorem e_delL (mo mi : EM) (s : S) : sDelL mo mi s = (liftS mo fun d => liftS mi (purS fun i => sDelLK d i)) s := rfl
end
end DL
namespace DL
open PySem PySem.Spec PyProof.Rows L2
/-! ### xs[a:c] = ys at a list of one's own, ys data; c may lie behind the end -/
section
variable {prog : Program} {w : World} {A : Around} {E : Value → Shared → Prop} {s : Shared}
end
section
variable {K : PySem.W.Frag} {X : Cx} {W : WX}
end
end DL
namespace DL
open PySem PySem.Spec PyProof.Rows L2
section
variable {K : PySem.W.Frag} {X : Cx}
end
end DL
namespace DL
open PySem PySem.Spec PyProof.Rows L2
section
variable {K : PySem.W.Frag} {X : Cx} {W : WX}
/-! ### list(range(n)) -/
end
end DL
namespace DL
open PySem L2 PySem.W
open PyProof.Rows (seqObj)
section
variable {X : Cx} {K : PySem.W.Frag} {W : WX} {e a b tg : Expr} {pos p : Pos} {x : Str}
/-! ### list(d), d a dict whose keys are tuples: a list of its keys -/
/-! ### reversed(range(a, b)) -/
def downTo (a : Int) (n : Nat) : List DV := (List.range n).map fun (i : Nat) => .p (.int (a + (n : Int) - 1 - (i : Int)))
def revG2 : D → D → Option (List DV)
  | .int a, .int b => if rngOk a = true then if rngOk b = true then some (downTo a (b - a).toNat) else none else none
  | _, _ => none
def mRev2 (m n : EM) : IM := bnd m (pur fun d => bnd n (pur fun e s => match revG2 d e with
  | some ds => some (.ok ds s.m)
  | none => none))
end
@[simp] theorem e_rev2 (m n : EM) (s : S) : mRev2 m n s = (bnd m (pur fun d => bnd n (pur fun e s => match revG2 d e with | some ds => some (.ok ds s.m) | none => none))) s := rfl
end DL
namespace DL
open PySem L2 PySem.W
/-! ### enumerate(xs, start=k), xs any list -/
end DL
namespace DL
open PySem L2
/-! ### loops over lists of one's own, which stay so: the items are read turn by turn -/
structure OIt where
  n : Nat
  it : Nat → D → D
abbrev IMO := Mi OIt
def ItOkO (K : PySem.W.Frag) (Z0 : Hp) (I0 : List Addr) (J : It) (x : OIt) : Prop :=
  ∀ Z H I M xs, Same Z0 Z → (∃ t, I = I0 ++ t) → Wf K Z H I M → M[x.n]? = some (.lst xs) → ∀ i : Nat, (∀ d, xs[i]? = some (.p d) → J.go i H ∧ ∀ v H', J.yld i H v H' → ∃ Z', ExtP Z H Z' H' ∧ Rep K Z' v (x.it i d)) ∧ (xs.length = i → J.stop i H)
section
variable {K : PySem.W.Frag} {X : Cx} {W : WX} {tg iter : Expr} {pos : Pos}
structure DIO (K : PySem.W.Frag) (X : Cx) (W : WX) (tg iter : Expr) (wi : TI) (m : IMO) : Prop where
  k : X.K = K
  pi : PI X tg iter wi
  so : Sound K W (ItOkO K) wi m
/-! ### a slice that is a new list of one's own -/
end
end DL
namespace DL
open PySem L2
/-! ### try: .. except X as e: .. where the suite returns a value or falls through -/
def PostB (Z H : Hp) (Q : Bool → Hp → Prop) (b : Bool) : Prop := ∀ Z' H', ExtP Z H Z' H' → Q b H'
def PostN (Z H : Hp) (Q : Hp → Prop) : Prop := ∀ Z' H', ExtP Z H Z' H' → Q H'
structure TXf (K : PySem.W.Frag) (i : Nat) (t : Addr → Value → Option Addr → TT) (m : Addr → List (Str × D) → Option Bool) : Prop where
  ok : ∀ (a c : Addr) (d : Option Addr) (fs : List (Str × D)) (σ : St) (H Z : Hp) (b : Bool) (Q : Bool → Hp → Prop), fs.isEmpty = false → Same Z H → σ[i]? = some (some (.ref a)) → ExcAt K Z H d fs → m c fs = some b → PostB Z H Q b → t a (.ref c) d σ H Q
structure DTXf (K : PySem.W.Frag) (X : Cx) (i : Nat) (e : Expr) (m : Addr → List (Str × D) → Option Bool) : Prop where
  ex : ∃ t, SX X K e t ∧ TXf K i t m
/-- what a suite comes to: none: it falls through; some y: it returns y -/
structure HXf (K : PySem.W.Frag) (X : Cx) (i : Nat) (body : List Stmt) (hm : Addr → List (Str × D) → Option (Option D)) : Prop where
  ex : ∃ ts : Addr → Value → Option Addr → TS, (∀ (a : Addr) (oe : Obj) (cls : Value) (d : Option Addr) (pn : List (Addr × Obj)), Zc cls d oe → (∃ vs, oe.data = .fields vs) → PSs (X.suite a ((a, oe) :: pn)) body (ts a cls d)) ∧
    ∀ (a c : Addr) (d : Option Addr) (fs : List (Str × D)) (σ : St) (H Z : Hp) (o : Option D) (E : Ends), fs.isEmpty = false → Same Z H → σ[i]? = some (some (.ref a)) → ExcAt K Z H d fs → hm c fs = some o → (match o with | some y => PostP K Z H y E.rt | none => PostN Z H (E.nx σ)) → ts a (.ref c) d E σ H
section
variable {K : PySem.W.Frag} {X : Cx} {W : WX} {x n : Str} {cc : Value} {i : Nat} {body suite : List Stmt} {b₀ : Stmt} {np pos pos' : Pos} {tb : WX → TS} {mb : SM} {hm : Addr → List (Str × D) → Option (Option D)} {cs : List (Addr × Bool)}
end
section
variable {K : PySem.W.Frag} {X : Cx} {e e1 e2 : Expr} {i : Nat} {pos p p1 p2 : Pos} {m : Addr → List (Str × D) → Option Bool} {h1 h2 : Addr → List (Str × D) → Option D} {g1 g2 : Addr → List (Str × D) → Option (Option D)}
end
end DL
namespace L2
open PySem PySem.Spec PyProof.Rows
section
variable {X : Cx} {kx vx tg iter : Expr} {ifs : List Expr} {rest : List Comprehension} {scope : Scope} {own : List (Str × Nat)} {pos pos' : Pos} {wi : TI} {g : TG} {tt : TT} {tb : Addr → St → Hp → (Hp → Prop) → Prop} {body : Addr → Addr → Env → Sem PySem.Fin}
end
section
variable {X : Cx} {kx vx tg iter tg1 iter1 : Expr} {ifs ifs1 : List Expr} {scope : Scope} {own : List (Str × Nat)} {pos pos' : Pos} {wi wi1 : TI} {g g1 : TG} {tt tt1 : TT} {tk tv : TE}
end
end L2
namespace DL
open PySem L2
section
variable {K : PySem.W.Frag} {X : Cx} {W : WX}
/-- what is known of the new dict at D while it is filled -/
structure FillTI (K : PySem.W.Frag) (Z1 H1 : Hp) (I1 : List Addr) (D : Addr) (Z H : Hp) (I : List Addr) (M : List O) (acc : List (Key × V)) (ad : List (Key × DL.D)) : Prop where
  w : Wf K Z H I M
  x : Ext Z1 H1 I1 Z H I
  at_ : H D = some (.dK acc)
  nz : Z D = none
  ni : D ∉ I
  r : Paired (FRel K Z I) acc (ad.map fun p => (p.1, DV.p p.2))
theorem FillTI.step {Z1 H1 Z H Z' H' : Hp} {I1 I I' : List Addr} {D : Addr} {M M' : List O} {acc : List (Key × V)} {ad : List (Key × DL.D)} (f : FillTI K Z1 H1 I1 D Z H I M acc ad) (w : Wf K Z' H' I' M') (x : Ext Z H I Z' H' I') : FillTI K Z1 H1 I1 D Z' H' I' M' acc ad where
  w := w
  x := f.x.trans x
  at_ := x.fr D _ f.at_ f.ni
  nz := by
    cases q : Z' D with
    | none => rfl
    | some o =>
      rcases x.zn D (by rw [q]; simp) with k | k | k
      · exact absurd f.nz k
      · exact (Fr.no f.at_ (fun _ e => nomatch e) k).elim
      · exact absurd k f.ni
  ni := fun m => by
    rcases x.nw D m with k | k
    · exact f.ni k
    · rw [f.at_] at k; cases k
  r := frel_mono x f.r
theorem FillTI.put {Z1 H1 Z H : Hp} {I1 I : List Addr} {D : Addr} {M : List O} {acc : List (Key × V)} {ad : List (Key × DL.D)} (f : FillTI K Z1 H1 I1 D Z H I M acc ad) (h0 : H1 D = none) {v : V} {d : DL.D} (r : Rep K Z v d) (k : Key) :
    FillTI K Z1 H1 I1 D Z (upd H D (.dK (putK acc k v))) I M (putK acc k v) (putO ad k d) where
  w := ⟨fun a u e => by rw [upd_ne (fun q => by rw [q, f.nz] at e; cases e)]; exact f.w.sub a u e, f.w.len, f.w.nd, fun a m => by rw [upd_ne (fun q => f.ni (by rw [← q]; exact m))]; exact f.w.tr a m, fun n a o h1 h2 h3 => by
    obtain ⟨q1, q2⟩ := f.w.ob n a o h1 h2 h3
    exact ⟨q1, q2.mono (Same.refl _) (upd_ne fun q => f.ni (by rw [← q]; exact List.mem_of_getElem? h1))⟩⟩
  x := ⟨f.x.z, f.x.i, fun a o e n => by rw [upd_ne (ne_of_none e h0)]; exact f.x.fr a o e n, f.x.nw, f.x.zn, fun a e => by
    by_cases q : a = D
    · rw [q, upd_same]; simp
    · rw [upd_ne q]; exact f.x.tr a e⟩
  at_ := upd_same
  nz := f.nz
  ni := f.ni
  r := by
    have e : (putO ad k d).map (fun p => (p.1, DV.p p.2)) = putO (ad.map fun p => (p.1, DV.p p.2)) k (.p d) := by
      unfold putO
      rw [List.any_map]
      have ea : (ad.any ((fun kv : Key × DV => decide (kv.1 = k)) ∘ fun p => (p.1, DV.p p.2))) = ad.any fun kv => decide (kv.1 = k) := rfl
      rw [ea]
      split
      · rw [List.map_map, List.map_map]
        refine List.map_congr_left fun p _ => ?_
        show (((if p.1 = k then (p.1, d) else p) : Key × DL.D).1, DV.p ((if p.1 = k then (p.1, d) else p) : Key × DL.D).2) = if p.1 = k then (p.1, DV.p d) else (p.1, DV.p p.2)
        split <;> rfl
      · rw [List.map_append]; rfl
    rw [e]
    exact putP_rep f.r k r
abbrev BMI := S → List (Key × D) → Option (List (Key × D) × List O)
def compGI (l : List (Option DV)) (g : GM) (t : EM) (bm : BMI) : List DV → List (Key × D) → List O → Option (List (Key × D) × List O)
  | [], acc, M => some (acc, M)
  | d :: ds, acc, M => match g d ⟨l, M⟩ with
    | none => none
    | some s1 => match t s1 with
      | some (.ok (.p (.bl true)) M1) => match bm ⟨s1.l, M1⟩ acc with
        | some (acc', M2) => compGI l g t bm ds acc' M2
        | none => none
      | some (.ok (.p (.bl false)) M1) => compGI l g t bm ds acc M1
      | _ => none
def mDcI (it : IM) (vs : List Nat) (g : GM) (t : EM) (bm : BMI) : EM := bnd it fun ds s => match compGI (wipeL s.l vs) g t bm ds [] s.m with
  | some (acc, M) => some (.ok (.o M.length) (M ++ [.dK (acc.map fun p => (p.1, .p p.2))]))
  | none => none
theorem FillTI.own {Z1 H1 Z H : Hp} {I1 I : List Addr} {D : Addr} {M : List O} {acc : List (Key × V)} {ad : List (Key × DL.D)} (f : FillTI K Z1 H1 I1 D Z H I M acc ad) (h0 : H1 D = none) :
    Wf K Z H (I ++ [D]) (M ++ [.dK (ad.map fun p => (p.1, .p p.2))]) ∧ Ext Z1 H1 I1 Z H (I ++ [D]) := by
  have x0 : Ext Z H I Z H (I ++ [D]) ∨ True := .inr trivial
  have mono : ∀ {v : V} {d : DV}, RepV K Z I v d → RepV K Z (I ++ [D]) v d := fun {v d} h => h.mono2 (Same.refl _) ⟨[D], rfl⟩
  refine ⟨⟨f.w.sub, by rw [List.length_append, List.length_append, f.w.len]; rfl, ?_, fun a m => ?_, fun n a o h1 h2 h3 => ?_⟩, ⟨f.x.z, ?_, f.x.fr, fun a m => ?_, f.x.zn, f.x.tr⟩⟩
  · refine List.nodup_append.mpr ⟨f.w.nd, by simp, fun a ha b hb => ?_⟩
    rw [List.mem_singleton.mp hb]
    intro e
    exact f.ni (by rw [← e]; exact ha)
  · rcases List.mem_append.mp m with k | k
    · exact f.w.tr a k
    · rw [List.mem_singleton.mp k, f.at_]; simp
  · by_cases hn : n < I.length
    · rw [List.getElem?_append_left hn] at h1
      rw [List.getElem?_append_left (by rw [← f.w.len]; exact hn)] at h2
      obtain ⟨q1, q2⟩ := f.w.ob n a o h1 h2 h3
      refine ⟨q1, ?_⟩
      cases o with
      | lst ds => obtain ⟨xs, g1, g2⟩ := q2; exact ⟨xs, g1, paired_imp (fun _ _ h => mono h) g2⟩
      | dK ds => obtain ⟨xs, g1, g2⟩ := q2; exact ⟨xs, g1, paired_imp (fun _ _ h => ⟨h.1, mono h.2⟩) g2⟩
      | dT ds => obtain ⟨xs, g1, g2⟩ := q2; exact ⟨xs, g1, paired_imp (fun _ _ h => ⟨h.1, mono h.2⟩) g2⟩
      | ins C fs => obtain ⟨dx, xs, g1, g2⟩ := q2; exact ⟨dx, xs, g1, paired_imp (fun _ _ h => ⟨h.1, mono h.2⟩) g2⟩
      | tbl P q => exact q2
      | clo _ _ =>
        obtain ⟨c, cl, cvs, g1, n, g2⟩ := q2
        refine ⟨c, cl, cvs, g1, fun y b q m => ?_, paired_imp (fun _ _ h => mono h) g2⟩
        rcases List.mem_append.mp m with k | k
        · exact n y b q k
        · obtain ⟨o, v, g3, _⟩ := g1.all y b q
          have g4 := f.w.sub b _ g3
          rw [List.mem_singleton.mp k, f.at_] at g4; cases g4
      | gone => trivial
    · have e1 : n = I.length := by
        have := (List.getElem?_eq_some_iff.mp h1).1
        rw [List.length_append, List.length_singleton] at this
        omega
      subst e1
      rw [List.getElem?_append_right (Nat.le_refl _), Nat.sub_self] at h1
      rw [List.getElem?_append_right (by rw [f.w.len]; exact Nat.le_refl _), f.w.len, Nat.sub_self] at h2
      cases h1
      cases h2
      exact ⟨f.nz, acc, f.at_, paired_imp (fun _ _ h => ⟨h.1, mono h.2⟩) f.r⟩
  · obtain ⟨t, e⟩ := f.x.i
    exact ⟨t ++ [D], by rw [e, List.append_assoc]⟩
  · rcases List.mem_append.mp m with k | k
    · exact f.x.nw a k
    · rw [List.mem_singleton.mp k]; exact .inr h0
section
variable {kx vx tg iter tg1 iter1 : Expr} {ifs ifs1 : List Expr} {scope : Scope} {own : List (Str × Nat)} {pos : Pos} {wi wi1 : TI} {g g1 : TG} {tt tt1 : TT} {tk tv : TE} {it it1 : IM} {gm gm1 : GM} {ix ix1 : List Nat} {t t1 ek ev : EM}
end
@[simp] theorem e_dcI (it : IM) (vs : List Nat) (g : GM) (t : EM) (bm : BMI) (s : S) : mDcI it vs g t bm s = (bnd it fun ds s => match compGI (wipeL s.l vs) g t bm ds [] s.m with | some (acc, M) => some (.ok (.o M.length) (M ++ [.dK (acc.map fun p => (p.1, .p p.2))])) | none => none) s := rfl
end
section
variable {K : PySem.W.Frag} {X : Cx} {W : WX}
variable {kx vx tg iter tg1 iter1 : Expr} {ifs ifs1 : List Expr} {scope : Scope} {own : List (Str × Nat)} {pos : Pos} {wi wi1 : TI} {g g1 : TG} {tt tt1 : TT} {tk tv : TE} {it it1 : IM} {gm gm1 : GM} {ix ix1 : List Nat} {t t1 ek ev : EM}
/-! ### x = {..} -/
end
end DL
namespace DL
open PySem L2 PySem.W
section
variable {X : Cx} {K : PySem.W.Frag}
/-! ### sorted(d), d a dict of fewer than 64 ints -/
end
end DL
namespace DL
open PySem L2
section
variable {K : PySem.W.Frag} {X : Cx} {W : WX} {o : Expr}
/-! ### x.bit_length() -/
def bitsG : D → Option D
  | .int i => some (.int (Builtin.Int.intBits i : Nat))
  | _ => none
def mBits (m : EM) : EM := bnd m (pur fun d => ret (bitsG d))
@[simp] theorem e_bits (m : EM) (s : S) : mBits m s = (bnd m (pur fun d => ret (bitsG d))) s := rfl
end
end DL
namespace DL
open PySem PySem.Spec PyProof.Rows L2 LamX NdefX
/-! ### closures that stand as objects: what they capture may be one's own -/
def ncV : DV → Bool
  | .p d => noClo d
  | .o _ => true
def ncO : O → Bool
  | .lst xs => xs.all ncV
  | .dK xs => xs.all fun p => ncV p.2
  | .dT xs => xs.all fun p => ncV p.2
  | .ins _ xs => xs.all fun p => ncV p.2
  | .tbl _ _ => true
  | .clo _ _ => false
  | .gone => true
def ncM (M : List O) : Bool := M.all ncO
def ncF (fs : List (Str × D)) : Bool := fs.all fun p => noClo p.2
section
variable {K : PySem.W.Frag} {Z Z' H H' : Hp} {I I' : List Addr} {M : List O} {cs : Addr → Option Obj}
theorem RepV.keep (e : ∀ b x, Z b = some x → (∀ o, x ≠ cellO o) → Z' b = some x) {v : V} : ∀ {d : DV}, ncV d = true → RepV K Z I v d → RepV K Z' I v d
  | .p _, n, h => Rep.keep e n h
  | .o _, _, h => h
theorem RepO.keep (e : ∀ b x, Z b = some x → (∀ o, x ≠ cellO o) → Z' b = some x) {a : Addr} (ha : H' a = H a) : ∀ {o : O}, ncO o = true → RepO K Z I H a o → RepO K Z' I H' a o
  | .lst _, n, ⟨xs, h, r⟩ => ⟨xs, ha.trans h, paired_all (p := ncV) (fun _ _ q l => RepV.keep e l q) r n⟩
  | .dK _, n, ⟨xs, h, r⟩ => ⟨xs, ha.trans h, paired_all (G := FRel K Z' I) (p := fun p => ncV p.2) (fun a b q l => (⟨q.1, RepV.keep e l q.2⟩ : FRel K Z' I a b)) r n⟩
  | .dT _, n, ⟨xs, h, r⟩ => ⟨xs, ha.trans h, paired_all (G := FRel K Z' I) (p := fun p => ncV p.2) (fun a b q l => (⟨q.1, RepV.keep e l q.2⟩ : FRel K Z' I a b)) r n⟩
  | .ins _ _, n, ⟨dx, xs, h, r⟩ => ⟨dx, xs, ha.trans h, paired_all (G := FRel K Z' I) (p := fun p => ncV p.2) (fun a b q l => (⟨q.1, RepV.keep e l q.2⟩ : FRel K Z' I a b)) r n⟩
  | .tbl _ _, _, ⟨e1, ps, h, t, r⟩ => ⟨e1, ps, ha.trans h, t, fun pos cv hc => by
      obtain ⟨c, h1, h2⟩ := r pos cv hc
      exact ⟨c, h1, e _ _ h2 fun o z => by cases z⟩⟩
  | .gone, _, _ => trivial
theorem keep_without (hz : ∀ b o, cs b = some o → Z b = some (cellO o)) : ∀ b x, Z b = some x → (∀ o, x ≠ cellO o) → without Z cs b = some x := fun b x q n => by
  rw [without_out ?_]
  · exact q
  · cases z : cs b with
    | none => rfl
    | some o =>
      have := hz b o z
      rw [q] at this
      exact absurd (Option.some.inj this) (n o)
theorem same_withC (s : Same Z H) (hc : ∀ b o, cs b = some o → H b = none) : Same Z (withC Z cs) := fun b x q => by
  cases z : cs b with
  | some o => rw [none_of s (hc b o z)] at q; cases q
  | none => rw [withC_out z]; exact q
theorem no_cell (hc : ∀ b o, cs b = some o → H b = none) {a : Addr} (h : H a ≠ none) : cs a = none := by
  cases z : cs a with
  | none => rfl
  | some o => exact absurd (hc a o z) h
theorem Wf.gone (w : Wf K Z H I M) (k : Nat) : Wf K Z H I (M.set k .gone) where
  sub := w.sub
  len := by rw [List.length_set]; exact w.len
  nd := w.nd
  tr := w.tr
  ob := fun n a o h1 h2 h3 => by
    by_cases q : k = n
    · subst q
      have hl : k < M.length := by rw [← w.len]; exact (List.getElem?_eq_some_iff.mp h1).1
      rw [List.getElem?_set_self hl] at h2
      cases h2
      exact absurd rfl h3
    · rw [List.getElem?_set_ne q] at h2
      exact w.ob n a o h1 h2 h3
/-- a closure takes its place -/
theorem Wf.clo (w : Wf K Z H I M) {k : Nat} {a : Addr} {L : LamS} {xs : List DV} (ha : I[k]? = some a) (r : RepO K Z I H a (.clo L xs)) : Wf K Z H I (M.set k (.clo L xs)) where
  sub := w.sub
  len := by rw [List.length_set]; exact w.len
  nd := w.nd
  tr := w.tr
  ob := fun n b o h1 h2 h3 => by
    by_cases q : k = n
    · subst q
      rw [ha] at h1
      cases h1
      have hl : k < M.length := by rw [← w.len]; exact (List.getElem?_eq_some_iff.mp ha).1
      rw [List.getElem?_set_self hl] at h2
      cases h2
      exact ⟨trivial, r⟩
    · rw [List.getElem?_set_ne q] at h2
      exact w.ob n b o h1 h2 h3
theorem ExcAt.with (hz : ∀ b o, cs b = some o → Z b = some (cellO o)) (hh : ∀ b o, cs b = some o → H b = some (cellO o)) {d : Option Addr} {fs : List (Str × D)} (nf : ncF fs = true) (h : ExcAt K Z H d fs) : ExcAt K (without Z cs) (without H cs) d fs := by
  rcases h with h | ⟨a, vs, e, h1, h2⟩
  · exact .inl h
  · refine .inr ⟨a, vs, e, ?_, paired_all (p := fun (p : Str × D) => noClo p.2) (fun a b q l => ⟨q.1, Rep.keep (keep_without hz) l q.2⟩) h2 nf⟩
    rw [without_out ?_]
    · exact h1
    · cases z : cs a with
      | none => rfl
      | some o => have := hh a o z; rw [h1] at this; cases this
theorem ExcAt.without (s : Same Z H) (hn : ∀ b o, cs b = some o → H b = none) {d : Option Addr} {fs : List (Str × D)} (h : ExcAt K Z H d fs) : ExcAt K (withC Z cs) (withC H cs) d fs := by
  rcases h with h | ⟨a, vs, e, h1, h2⟩
  · exact .inl h
  · refine .inr ⟨a, vs, e, ?_, paired_imp (fun a b q => ⟨q.1, Rep.mono (same_withC s hn) q.2⟩) h2⟩
    rw [withC_out (no_cell hn (by rw [h1]; simp))]
    exact h1
end
/-! ### exceptions that come out of a call with cells held still, or let go -/
section
variable {P : Program} {w : World} {H : Hp} {cs : Addr → Option Obj} {outer : List Env} {s s' : Shared} {E : XK} {u : Value}
end
end DL
namespace DL
open PySem PySem.Spec PyProof.Rows L2 LamX NdefX
/-! ### the promise of a lambda whose captures may be one's own, and that may raise -/
abbrev MBc := List DV → List O → Option (Rs DV)
def PostCB (K : PySem.W.Frag) (Z H : Hp) (I : List Addr) (g : List O → List O) (Q : VK) (E : XK) : Rs DV → Prop
  | .ok dv M' => ∀ v Z' H' I', Wf K Z' H' I' (g M') → Ext Z H I Z' H' I' → RepV K Z' I' v dv → Q v H'
  | .ex c fs M' => ∀ d Z' H' I', Wf K Z' H' I' (g M') → Ext Z H I Z' H' I' → ExcAt K Z' H' d fs → (∀ a, d = some a → H a = none ∧ a ∉ I') → E (.ref c) d H'
def spWB (K : PySem.W.Frag) (n : Nat) (m : MBc) (ws : List (Option V)) : Sp := fun vs H Q E => vs.length = n ∧ ∃ Z I M ds cvs cs r, Wf K Z H I M ∧ RepVs K Z I vs ds ∧ ws = cvs.map some ∧ RepVs K Z I cvs cs ∧ m (ds ++ cs) M = some r ∧ PostCB K Z H I (fun M => M) Q E r
section
variable {P : Program} {w : World} {K : PySem.W.Frag} {mg : Str → Option Value} {base : Heap} {N ps fr : List Str} {F : NF} {f : Addr} {k : Nat} {body : Expr} {em : EM}
end
def CloOkB (P : Program) (w : World) (K : PySem.W.Frag) (mg : Str → Option Value) (base : Heap) (k n : Nat) (L : LamS) (m : MBc) : Prop :=
  ∃ ps : List Str, ps.length = n ∧ ∀ a c cl, LOk P w K mg base (L2.CX P w) k a (L.nf cl c) L.body ps L.fr (fun ws => spWB K n m ws)
theorem CloOkB.mono {P : Program} {w : World} {K : PySem.W.Frag} {mg : Str → Option Value} {base : Heap} {k k' n : Nat} {L : LamS} {m : MBc} (h : CloOkB P w K mg base k n L m) (e : k ≤ k') : CloOkB P w K mg base k' n L m := by
  obtain ⟨ps, hp, F⟩ := h
  exact ⟨ps, hp, fun a c cl => ⟨(F a c cl).len, fun A outer s H us vs ws Q E hr => (F a c cl).run A outer s H us vs ws Q E (hr.mono e)⟩⟩
section
variable {X : Cx} {pins : List (Addr × Obj)} {σ : L2.St} {H : Hp} {s : Shared} {W : WX}
end
end DL
namespace DL
open PySem PySem.Spec PyProof.Rows L2 LamX NdefX
/-! ### the call of a local that holds a closure -/
open Classical in
noncomputable def tbo : List (LamS × MBc) → LamS → Option MBc
  | [], _ => none
  | (L0, m) :: r, L => if L0.ix = L.ix then (if L0 = L then some m else none) else tbo r L
@[simp] theorem tbo_hit (L : LamS) (m : MBc) (r : List (LamS × MBc)) : tbo ((L, m) :: r) L = some m := by
  unfold tbo
  rw [if_pos rfl, if_pos rfl]
section
variable {K : PySem.W.Frag} {X : Cx} {W : WX} {e : Expr} {es : List Expr} {pos p : Pos} {x : Str} {i n k : Nat} {tb : List (LamS × MBc)} {t : TA} {ms : AM}
end
/-! ### blocks within blocks: the scope of a comprehension as its block has it -/
/-! ### f(.., lambda ..) -/
section
variable {K : PySem.W.Frag} {X : Cx} {W : WX} {e : Expr} {es : List Expr} {pos p lpos : Pos} {x : Str} {k : Nat}
def PostL (K : PySem.W.Frag) (W : WX) (i : Nat) (P : Addr) (nm : Str) (mk : Addr → NF) (body : Expr) (Z H : Hp) (I : List Addr) (σ : L2.St) (Q : List V → Hp → Prop) : Rs (List DV) → Prop
  | .ok ds M' => tblAt M' i P nm = true ∧ ∀ vs a c Z' H' I', Wf K Z' H' (I' ++ [a]) (M' ++ [.gone]) → Ext Z H I Z' H' (I' ++ [a]) → RepVs K Z' (I' ++ [a]) vs ds → Z' a = some (LamO a (mk c) body) → Z' c = some (CodeO c nm) → Q (vs ++ [.ref a]) H'
  | .ex c fs M' => PostX K W Z H I σ M' c fs
theorem PostL.mono {i : Nat} {P : Addr} {nm : Str} {mk : Addr → NF} {body : Expr} {Z H Z1 H1 : Hp} {I I1 : List Addr} {σ : L2.St} {Q : List V → Hp → Prop} (e : Ext Z H I Z1 H1 I1) : ∀ {r : Rs (List DV)}, PostL K W i P nm mk body Z H I σ Q r → PostL K W i P nm mk body Z1 H1 I1 σ Q r
  | .ok _ _, h => ⟨h.1, fun vs a c Z' H' I' w x q1 q2 q3 => h.2 vs a c Z' H' I' w (e.trans x) q1 q2 q3⟩
  | .ex _ _ _, h => PostX.mono e h
/-- arguments whose last is a lambda -/
structure DAL (K : PySem.W.Frag) (X : Cx) (W : WX) (i : Nat) (P : Addr) (nm : Str) (mk : Addr → NF) (body : Expr) (es : List Expr) (t : TA) (ms : AM) : Prop where
  k : X.K = K
  pa : PA X es t
  ok : ∀ (σ : L2.St) (H : Hp) (s : S) (Z : Hp) (I : List Addr) (r : Rs (List DV)) (Q : List V → Hp → Prop), Wf K Z H I s.m → RepS K Z I σ s.l → ms s = some r → PostL K W i P nm mk body Z H I σ Q r → t σ H Q
end
end DL
namespace DL
open PySem L2 PyProof.Rows
section
variable {K : PySem.W.Frag} {X : Cx} {W : WX} {e a b c tg iter : Expr} {es : List Expr} {pos : Pos} {td te : TE} {m n : EM}
/-! ### [x, ..] * n: a new list of one's own -/
def mRepO (m n : EM) : EM := bnd m fun d => bnd n (pur fun e s => match d with
  | .p d => match dRepL d e with
    | some (.lst xs) => some (.ok (.o s.m.length) (s.m ++ [.lst (xs.map .p)]))
    | _ => none
  | .o _ => none)
@[simp] theorem e_repO (m n : EM) (s : S) : mRepO m n s = (bnd m fun d => bnd n (pur fun e s => match d with
  | .p d => match dRepL d e with
    | some (.lst xs) => some (.ok (.o s.m.length) (s.m ++ [.lst (xs.map .p)]))
    | _ => none
  | .o _ => none)) s := rfl
/-! ### for x in d, d a list or a dict, data -/
end
/-! ### an own dict in a field is given up: from now on it is data -/
section
variable {K : PySem.W.Frag} {Z H : Hp} {I : List Addr} {M : List O} {W : WX}
end
end DL
namespace PySem.W
open PySem PySem.Spec PyProof.Rows
variable {K : Type} [DecidableEq K] {P : Program} {w : World} {knd : HeapKind P w K}
end PySem.W
namespace DL
open PySem PySem.Spec PyProof.Rows L2
section
variable {X : Cx} {pins : List (Addr × Obj)} {σ : L2.St} {H Z : Hp} {s : Shared} {K : PySem.W.Frag}
/-! dicts with tuples as keys, where they are equal -/
end
end DL
namespace DL
open PySem L2
/-! ### steps over objects, as equations -/
theorem aCons_run (m : EM) (ms : AM) (s : S) (M1 M : List O) (d : DV) (ds : List DV) (h1 : m s = some (.ok d M1)) (h2 : ms ⟨s.l, M1⟩ = some (.ok ds M)) : aCons m ms s = some (.ok (d :: ds) M) := by
  unfold aCons bnd
  rw [h1]
  dsimp only
  rw [h2]
theorem frz_runM (m : EM) (s : S) (M : List O) (n : Nat) (ds : List D) (h1 : m s = some (.ok (.o n) M)) (h2 : M[n]? = some (.lst (ds.map .p))) : mFrz m s = some (.ok (.p (.lst ds)) (M.set n .gone)) := by
  unfold mFrz bnd
  rw [h1]
  dsimp only
  simp only [h2, e_allPm]
theorem callA1r (f : MA) (m : EM) (s : S) (M : List O) (x d : D) (h1 : m s = some (.ok (.p x) M)) (e : f [x] = some (.ok d)) : mCallA 1 f (aCons m aNil) s = some (.ok (.p d) M) := by
  unfold mCallA
  have h2 := aCons_run m aNil s M M (.p x) [] h1 rfl
  unfold bnd
  rw [h2]
  dsimp only
  rw [if_pos (show [DV.p x].length = 1 from rfl)]
  simp only [allP, Option.map_some, e]
theorem bin_run (g : D → D → Option D) (m n : EM) (s : S) (M1 M : List O) (x y d : D) (h1 : m s = some (.ok (.p x) M1)) (h2 : n ⟨s.l, M1⟩ = some (.ok (.p y) M)) (e : g x y = some d) : mBin g m n s = some (.ok (.p d) M) := by
  rw [e_bin]
  unfold bnd
  rw [h1]
  dsimp only [pur]
  rw [h2]
  dsimp only
  unfold ret
  rw [e]
theorem asg_run (m : EM) (g : GM) (s s1 : S) (M : List O) (d : DV) (h1 : m s = some (.ok d M)) (h2 : g d ⟨s.l, M⟩ = some s1) : sAsg m g s = some (.nx, s1) := by
  rw [e_asg, e_lift, h1]
  dsimp only
  rw [h2]
end DL
namespace DL
open PySem L2
/-! ### drawn state behind tables, that holds no closure -/
structure Dn (Ts : List O) (n : Nat) (sv : DV) (B : List O) : Prop where
  b : Db Ts n sv B
  nc : ncM B = true
end DL
/-! ### sets of tuples of ints: long lists, few different items -/
namespace L2
open PySem PySem.Spec PyProof.Rows
section
variable {P : Program} {w : World} {A : Around} {E : Value → Shared → Prop} {s : Shared}
/-- set.update's loop: what a turn does is the caller's to say -/
theorem updU_loop {I S : Addr} {fp wr : List Addr} {G : Array GenState → Array GenState → Prop} {n : Nat} {Pv : Nat → Value → Prop} {St : Nat → Shared → Prop} {R : Result → Shared → Prop} {J : Nat → Shared → Prop}
    (W : WalksS P w A.in1 I fp wr G n Pv St)
    (turn : ∀ (E : Value → Shared → Prop) i v s s1, i < n → Pv i v → Moved wr G s s1 → St (i + 1) s1 → J i s → wpAny (model P w) A.in1 (setAdd S v) (fun _ s2 => St (i + 1) s2 ∧ J (i + 1) s2) E s1)
    (fin : ∀ s s1, Moved wr G s s1 → J n s → R (.ok (.ret .none)) s1) :
    ∀ (k i : Nat) (s : Shared), n - i = k → i ≤ n → St i s → J i s → codeAny (model P w) A (.builtin "set.update.loop" ⟨[.ref S, .ref I], []⟩) R s := by
  intro k
  induction k with
  | zero =>
    intro i s hk hi hst hj
    have hin : i = n := by omega
    subst hin
    refine codeAny_builtin F.entry_set_update_loop ?_
    rw [Around.under_plainId F.plain_set_update_loop _]
    show wpAny _ A.in1 (pyNext (.ref I) >>= _) _ _ s
    exact wpAny_bind (W.done s _ _ hst fun s' hm => wpAny_pure (fin s s' hm hj))
  | succ k ih =>
    intro i s hk hi hst hj
    have hlt : i < n := by omega
    refine codeAny_builtin F.entry_set_update_loop ?_
    rw [Around.under_plainId F.plain_set_update_loop _]
    show wpAny _ A.in1 (pyNext (.ref I) >>= _) _ _ s
    refine wpAny_bind (W.item i s _ _ hlt hst fun v s' hP hst' hm => ?_)
    show wpAny _ A.in1 (holding [v] (setAdd S v) >>= _) _ _ s'
    refine wpAny_bind (wpAny_holding (wpAny_mono (turn _ i v s s' hlt hP hm hst' hj) (fun _ s2 q => ?_) fun _ _ x => x))
    exact wpAny_pure ⟨plainId_quiet F.plain_set_update_loop _, ih (i + 1) s2 (by omega) hlt q.1 q.2⟩
/-- set(xs) of a list: what the loop does is the caller's to say -/
theorem setOf_list {l : Addr} {items : Array Value} {Q : Value → Shared → Prop} (hl : s.heap.IsList l items) (Post : Heap → Nat → Prop)
    (loop : codeAny (model P w) A.in1.in1 (.builtin "set.update.loop" ⟨[.ref s.heap.objs.size, .ref (s.heap.objs.size + 1)], []⟩) (fun r s' => match r with | .ok (.ret .none) => ∃ h' tk, s' = { s with heap := h', toks := tk } ∧ Post h' tk | _ => False)
      { s with heap := (s.heap.push { cls := .type "set", dict := none, data := .set #[] 0 (.fresh 0 0 (!w.params.followText "set-order")) }).push { cls := .type "list_iterator", data := .fields #[.ref l, .int 0 0] } })
    (h : ∀ h' tk, Post h' tk → Q (.ref s.heap.objs.size) { s with heap := h', toks := tk }) :
    wpAny (model P w) A (call (.type "set") [.ref l]) Q E s := by
  obtain ⟨c, tl, hmro⟩ := F.called_set.mro
  have hmade := F.called_set.made
  have hsub := F.called_set.sub
  refine wpAny_call (codeAny_of_tree ?_)
  show wpAny _ _ (callAny (.type "set") _) _ _ _
  refine wpAny_pure ⟨Code.quiet_builtin _ (by decide +kernel), codeAny_builtin F.entry_type_call ?_⟩
  rw [Around.under_plain (weight_type_call_type "set" [.ref l] []) rfl]
  have h1 := F.called_set.notType
  have h2 := F.called_set.canCreate
  have hct := F.typeCall_set_1 (.ref l)
  repeat (any_goals (first | assumption | wp_step))
  refine codeAny_mono (code_set_led1 (.ref l) (E := E) (Q₁ := fun obj s₁ => obj = .ref s.heap.objs.size ∧ s₁ = { s with heap := s.heap.push { cls := .type "set", dict := none, data := .set #[] 0 (.fresh 0 0 (!w.params.followText "set-order")) } }) ⟨rfl, rfl⟩) fun r s₁ hr => ?_
  cases r with
  | error e => exact hr
  | ok fl =>
    cases fl with
    | ret obj =>
      obtain ⟨rfl, rfl⟩ := hr
      have hS : (s.heap.push { cls := .type "set", dict := none, data := .set #[] 0 (.fresh 0 0 (!w.params.followText "set-order")) }).get? s.heap.objs.size = some { cls := .type "set", dict := none, data := .set #[] 0 (.fresh 0 0 (!w.params.followText "set-order")) } := Heap.get?_push_size _ rfl
      have hT : Shared.TypeIs { s with heap := s.heap.push { cls := .type "set", dict := none, data := .set #[] 0 (.fresh 0 0 (!w.params.followText "set-order")) } } (.ref s.heap.objs.size) "set" := ⟨_, hS, rfl⟩
      have hli := F.called_set.init.lookup
      have hbi := F.called_set.init.bind (.ref s.heap.objs.size)
      repeat (any_goals (first | assumption | wp_step))
      refine codeAny_mono (codeAny_call_builtin (R := wants (fun r s₂ => r = .none ∧ ∃ h' tk, s₂ = { s with heap := h', toks := tk } ∧ Post h' tk) E) F.called_set.init.plain F.entry_set_init (check_set_init_1 hT ?_)) fun r₂ s₂ hr₂ => ?_
      · obtain ⟨ol, hol, hcl, nl, hdl⟩ := hl
        obtain ⟨ocls, odict, odata, oslots⟩ := ol
        simp only at hcl hdl
        subst hcl; subst hdl
        have hol' : (s.heap.push { cls := .type "set", dict := none, data := .set #[] 0 (.fresh 0 0 (!w.params.followText "set-order")) }).get? l = some { cls := .type "list", dict := odict, data := .seq items nl, slots := oslots } := Heap.get?_push_of_some _ hol
        have hsls := F.sub_list_set
        have hslf := F.sub_list_frozenset
        have hne : (Value.type "list" == Value.type "dict") = false := by decide
        have hl1 : (s.heap.push { cls := .type "set", dict := none, data := .set #[] 0 (.fresh 0 0 (!w.params.followText "set-order")) }).IsList l items := ⟨_, hol', rfl, nl, rfl⟩
        unfold Builtin.«set.__init__» noKeywords Builtin.Frozenset.updateFrom
        generalize hPI : pyIter = PI
        wp_walk
        subst hPI
        refine wpAny_pyIter_list hl1 ?_
        refine wpAny_bind (wpAny_runValue ?_)
        have hz1 : (s.heap.push { cls := .type "set", dict := none, data := .set #[] 0 (.fresh 0 0 (!w.params.followText "set-order")) }).objs.size = s.heap.objs.size + 1 := Heap.size_push ..
        have loop' := loop
        rw [← hz1] at loop'
        refine codeAny_mono loop' fun r₃ s₃ hr₃ => ?_
        cases r₃ with
        | error e => exact hr₃.elim
        | ok f =>
          cases f with
          | ret v =>
            cases v with
            | none =>
              obtain ⟨h', tk, rfl, hp⟩ := hr₃
              exact wpAny_pure (wpAny_pure ⟨rfl, h', tk, rfl, hp⟩)
            | _ => exact hr₃.elim
          | _ => exact hr₃.elim
      · cases r₂ with
        | error e => exact hr₂
        | ok fl₂ =>
          cases fl₂ with
          | ret r =>
            obtain ⟨rfl, h', tk, rfl, hp⟩ := hr₂
            repeat (any_goals (first | assumption | wp_step))
            exact h _ _ hp
          | _ => exact hr₂.elim
    | _ => exact hr.elim
end
end L2
namespace L2
open PySem PySem.Spec PyProof.Rows
/-- fewer than 63 different ones -/
def FewU (ks : List (Addr × List Int)) : Prop := ∃ U : List (List Int), U.length < 63 ∧ ∀ p ∈ ks, p.2 ∈ U
theorem few_len {U : List (List Int)} : ∀ {L : List (List Int)}, L.Nodup → (∀ k ∈ L, k ∈ U) → L.length ≤ U.length := by
  intro L
  induction L generalizing U with
  | nil => intro _ _; exact Nat.zero_le _
  | cons x L ih =>
    intro nd h
    obtain ⟨h1, h2⟩ := List.nodup_cons.mp nd
    have hx := h x List.mem_cons_self
    have q := ih (U := U.erase x) h2 fun y hy => (List.mem_erase_of_ne fun e => h1 (by rw [← e]; exact hy)).mpr (h y (List.mem_cons_of_mem _ hy))
    rw [List.length_erase_of_mem hx] at q
    have := List.length_pos_of_mem hx
    rw [List.length_cons]
    omega
section
variable {P : Program} {w : World} {A : Around} {E : Value → Shared → Prop} {s : Shared}
/-- set(xs), xs tuples of ints, few different ones -/
theorem setOf_tups {l : Addr} {items : Array Value} (ks : List (Addr × List Int)) {Q : Value → Shared → Prop} (hh : A.handled = none) (hl : s.heap.IsList l items) (hit : items.toList = ks.map fun p => Value.ref p.1)
    (hk : ∀ p ∈ ks, IsT P w s.heap p.2 p.1) (hU : FewU ks) (hu : A.units + 3 < cLine)
    (h : ∀ (h' : Heap) (tk : Nat) L es ep t, SetTR P w h' s.heap.objs.size L es ep t → (∀ p ∈ L, p ∈ ks) → (∀ p ∈ ks, p.2 ∈ L.map (·.2)) → (∀ b o, s.heap.get? b = some o → h'.get? b = some o) → Q (.ref s.heap.objs.size) { s with heap := h', toks := tk }) :
    wpAny (model P w) A (call (.type "set") [.ref l]) Q E s := by
  obtain ⟨U, hU1, hU2⟩ := hU
  have hisz : items.size = ks.length := by
    have q := congrArg List.length hit
    rw [Array.length_toList, List.length_map] at q
    exact q
  have hlS : l < s.heap.objs.size := by
    obtain ⟨o, ho, _⟩ := hl
    exact Heap.lt_size ho
  refine setOf_list hl (fun h' _ => ∃ L es ep t, SetTR P w h' s.heap.objs.size L es ep t ∧ Got ks ks.length L ∧ ∀ b o, s.heap.get? b = some o → h'.get? b = some o) ?_ fun h' tk hp => ?_
  · have hz1 : (s.heap.push { cls := .type "set", dict := none, data := .set #[] 0 (.fresh 0 0 (!w.params.followText "set-order")) }).objs.size = s.heap.objs.size + 1 := Heap.size_push ..
    have hl1 : (s.heap.push { cls := .type "set", dict := none, data := .set #[] 0 (.fresh 0 0 (!w.params.followText "set-order")) }).IsList l items := hl.push _
    have none_of : ∀ b, s.heap.objs.size ≤ b → s.heap.get? b = none := fun b hb => by
      cases q : s.heap.get? b with
      | none => rfl
      | some o => exact absurd (Nat.lt_of_lt_of_le (Heap.lt_size q) hb) (Nat.lt_irrefl _)
    have hS : (s.heap.push { cls := .type "set", dict := none, data := .set #[] 0 (.fresh 0 0 (!w.params.followText "set-order")) }).get? s.heap.objs.size = some { cls := .type "set", dict := none, data := .set #[] 0 (.fresh 0 0 (!w.params.followText "set-order")) } := Heap.get?_push_size _ rfl
    rw [← hz1]
    generalize hO : ({ cls := .type "set", dict := none, data := .set #[] 0 (.fresh 0 0 (!w.params.followText "set-order")) } : Obj) = O at *
    have hneI : l ≠ (s.heap.push O).objs.size := by rw [hz1]; exact Nat.ne_of_lt (Nat.lt_succ_of_lt hlS)
    have hneS : s.heap.objs.size ≠ (s.heap.push O).objs.size := by rw [hz1]; exact Nat.ne_of_lt (Nat.lt_succ_self _)
    have W := (Walks.list (A := A.in1.in1.in1) (prog := P) (w := w) (by simp [hh]) (s.heap.push O).objs.size l hneI items).toS
    refine updU_loop (J := fun i s1 => (∀ b o, s.heap.get? b = some o → s1.heap.get? b = some o) ∧ (s1.gens = s.gens ∧ s1.drawn = s.drawn ∧ s1.os = s.os) ∧ ∃ L es ep t, SetTR P w s1.heap s.heap.objs.size L es ep t ∧ Got ks i L) W (fun E i v s0 s1 hi hv hm st hj => ?_) (fun s0 s1 hm hj => ?_) (items.size - 0) 0 _ (by omega) (Nat.zero_le _)
      ⟨⟨_, Heap.get?_push_size _ rfl, rfl, rfl⟩, hl1.push _⟩ ⟨fun b o e => Heap.get?_push_of_some _ (Heap.get?_push_of_some _ e), ⟨rfl, rfl, rfl⟩, [], #[], 0, _, setTR_fresh (by rw [← hO] at hS ⊢; exact Heap.get?_push_of_some _ hS), Got.zero ks⟩
    · obtain ⟨kp, ⟨j1, j2, j3⟩, L, es, ep, t, R, g⟩ := hj
      have hv : items[i]? = some v := hv
      obtain ⟨p, hp, rfl⟩ : ∃ p, ks[i]? = some p ∧ v = .ref p.1 := by
        have q : items.toList[i]? = some v := by rw [Array.getElem?_toList]; exact hv
        rw [hit, List.getElem?_map] at q
        cases hq : ks[i]? with
        | none => rw [hq] at q; cases q
        | some p =>
          rw [hq] at q
          exact ⟨p, rfl, (Option.some.inj q).symm⟩
      have hI : ∀ b, b ∉ [(s.heap.push O).objs.size] ↔ b ≠ (s.heap.push O).objs.size := fun b => by simp
      have kp1 : ∀ b o, s.heap.get? b = some o → s1.heap.get? b = some o := fun b o e => hm.heap b o (by rw [hI, hz1]; exact Nat.ne_of_lt (Nat.lt_succ_of_lt (Heap.lt_size e))) (kp b o e)
      have sub : ∀ q ∈ L, q ∈ ks := fun q hq => List.mem_of_mem_take (g.sub q hq)
      have R1 : SetTR P w s1.heap s.heap.objs.size L es ep t := R.keep (fun o e => hm.heap _ o ((hI _).mpr hneS) e) fun q hq => isT_keep (hk q (sub q hq)) kp1
      have hx : IsT P w s1.heap p.2 p.1 := isT_keep (hk p (List.mem_of_getElem? hp)) kp1
      have few : L.length + 1 < 64 := by
        have := few_len (U := U) R.nd fun k hk => by
          obtain ⟨q, hq, rfl⟩ := List.mem_map.mp hk
          exact hU2 q (sub q hq)
        rw [List.length_map] at this
        omega
      unfold setAdd
      refine wpAny_holding ?_
      refine wpAny_bind (wpAny_pyHash_tuple (by show A.units + 3 < cLine; exact hu) hx ?_)
      refine add_at (s := { s1 with toks := s1.toks + (p.2.length + 1) }) R1 hx (by show A.units + 3 < cLine; exact hu) few fun b h' L' es' ep' t' hsb hS2 c1 c2 => ?_
      have g' : Got ks (i + 1) L' := by
        rcases Classical.em (p.2 ∈ L.map (·.2)) with c | c
        · rw [c1 c]; exact g.same hp c
        · exact g.more hp (c2 c)
      refine ⟨W.frame _ s1 _ _ st (Nat.le_add_right _ _) fun b hb o e => ?_, fun b o e => (hsb.2 b (fun z => by rw [z, none_of _ (Nat.le_refl _)] at e; cases e)).trans (kp1 b o e), ⟨Eq.trans hm.gens j1, hm.drawn.trans j2, hm.os.trans j3⟩, L', es', ep', t', hS2, g'⟩
      rw [hsb.2 b (fun z => by
        rw [z] at hb
        simp only [List.mem_cons, List.not_mem_nil, or_false] at hb
        rcases hb with q | q
        · exact hneS q
        · exact absurd hlS (by rw [q]; exact Nat.lt_irrefl _))]
      exact e
    · obtain ⟨kp, ⟨j1, j2, j3⟩, L, es, ep, t, R, g⟩ := hj
      have hI : ∀ b, b ∉ [(s.heap.push O).objs.size] ↔ b ≠ (s.heap.push O).objs.size := fun b => by simp
      have kp1 : ∀ b o, s.heap.get? b = some o → s1.heap.get? b = some o := fun b o e => hm.heap b o (by rw [hI, hz1]; exact Nat.ne_of_lt (Nat.lt_succ_of_lt (Heap.lt_size e))) (kp b o e)
      have sub : ∀ q ∈ L, q ∈ ks := fun q hq => List.mem_of_mem_take (g.sub q hq)
      have R1 : SetTR P w s1.heap s.heap.objs.size L es ep t := R.keep (fun o e => hm.heap _ o ((hI _).mpr hneS) e) fun q hq => isT_keep (hk q (sub q hq)) kp1
      rw [hisz] at g
      refine ⟨s1.heap, s1.toks, ?_, L, es, ep, t, R1, g, kp1⟩
      have e1 : s1.gens = s.gens := Eq.trans hm.gens j1
      have e2 : s1.drawn = s.drawn := hm.drawn.trans j2
      have e3 : s1.os = s.os := hm.os.trans j3
      cases s1
      dsimp only at e1 e2 e3
      rw [e1, e2, e3]
  · obtain ⟨L, es, ep, t, a, g, k⟩ := hp
    exact h h' tk L es ep t a (fun p hp => List.mem_of_mem_take (g.sub p hp)) (fun p hp => g.all p (by rw [List.take_length]; exact hp)) k
end
end L2
namespace L2
open PySem PySem.Spec PyProof.Rows
section
variable {X : Cx}
def rSetOfU (K : PySem.W.Frag) (P : Program) (w : World) : List V → Hp → VK → Prop := fun xs H Q => ∃ (l : Addr) (ks : List (Addr × List Int)), xs = [V.ref l] ∧ SqL K H l (ks.map fun p => V.ref p.1) ∧ (∀ p ∈ ks, SqT K H p.1 (p.2.map V.int)) ∧ FewU ks ∧
  ∀ a L, H a = none → (L.map (·.2)).Nodup → (∀ p ∈ L, p ∈ ks) → (∀ p ∈ ks, p.2 ∈ L.map (·.2)) → Q (.ref a) (upd H a (SetTO P w a L))
theorem cr_setOfU (hc : X.calm = true) (hu : X.A.units + 64 < cLine) : CallR X (.type "set") (rSetOfU X.K X.prog X.w) := by
  intro pins s σ H xs us Q I r h
  obtain ⟨l, ks, rfl, hl, hk, hf, q⟩ := h
  rw [Vals.ref1 r]
  obtain ⟨its, rv, pl, hz⟩ := I.list hl
  have hn : H s.heap.objs.size = none := I.hok.fresh (Nat.le_refl _)
  refine setOf_tups (P := X.prog) (w := X.w) ks (I.ok.hd hc) pl.isList (by simpa using refs_of_vals rv) (fun p hp => I.isT (hk p hp)) hf (by omega) fun h' tk L es ep t R g1 g2 k => ?_
  exact ⟨.ref s.heap.objs.size, upd H s.heap.objs.size (SetTO X.prog X.w s.heap.objs.size L), I.laid (t' := tk) k (Nat.le_refl _) (setTO_new R.t0), rfl, q _ L hn R.nd g1 g2⟩
/-- len(set) -/
def rLenT (K : PySem.W.Frag) (P : Program) (w : World) : List V → Hp → VK → Prop := fun vs H Q => ∃ (a : Addr) (L : List (Addr × List Int)), vs = [V.ref a] ∧ H a = some (SetTO P w a L) ∧ (∀ p ∈ L, SqT K H p.1 (p.2.map V.int)) ∧ Q (.int L.length) H
theorem cr_lenT : CallR X (.builtin "len") (rLenT X.K X.prog X.w) := by
  intro pins s σ H vs us Q I r h
  obtain ⟨a, L, rfl, ha, hk, q⟩ := h
  have R0 : SetT0 X.prog X.w s.heap a L := (I.hok a _ ha).1
  obtain ⟨es, ep, t, R⟩ := R0.full fun p hp => I.isT (hk p hp)
  rw [Vals.ref1 r]
  obtain ⟨o, ho, hex, hd⟩ := R.ob
  have hs := R.size
  have hfew := R.few
  exact call_len_set ho hex hd R.fits (by omega) ⟨.int L.length, H, I.tok _, ⟨_, by rw [hs]⟩, q⟩
end
end L2
namespace DL
open PySem L2 PySem.W
/-! ### sets of tuples of ints, that are sorted or counted at once -/
def intsOf : List D → Option (List Int)
  | [] => some []
  | .int i :: r => (intsOf r).map (i :: ·)
  | _ :: _ => none
def tupsOf : List D → Option (List (List Int))
  | [] => some []
  | .tup xs :: r => match intsOf xs with
    | some ks => (tupsOf r).map (ks :: ·)
    | none => none
  | _ :: _ => none
def ddup : List (List Int) → List (List Int)
  | [] => []
  | k :: r => if k ∈ ddup r then ddup r else k :: ddup r
theorem ddup_mem : ∀ {l : List (List Int)} {k : List Int}, k ∈ ddup l ↔ k ∈ l
  | [], _ => Iff.rfl
  | x :: r, k => by
    unfold ddup
    split
    · rename_i h
      rw [ddup_mem, List.mem_cons]
      constructor
      · exact .inr
      · rintro (rfl | q)
        · exact ddup_mem.mp h
        · exact q
    · rw [List.mem_cons, List.mem_cons, ddup_mem]
theorem ddup_nd : ∀ l : List (List Int), (ddup l).Nodup
  | [] => List.nodup_nil
  | x :: r => by
    unfold ddup
    split
    · exact ddup_nd r
    · rename_i h
      exact List.nodup_cons.mpr ⟨h, ddup_nd r⟩
def tupI (ks : List Int) : D := .tup (ks.map .int)
section
variable {X : Cx} {K : PySem.W.Frag} {W : WX} {Z H : Hp}
theorem ints_rep : ∀ {xs : List D} {ks : List Int} {vs : List V}, intsOf xs = some ks → RepA K Z vs xs → vs = ks.map V.int
  | [], _, _, e, .nil => by cases e; rfl
  | x :: r, ks, _, e, .cons h t => by
    cases x with
    | int i =>
      obtain ⟨z, hz, rfl⟩ := Option.map_eq_some_iff.mp (show (intsOf r).map (i :: ·) = some ks from e)
      cases h
      rw [ints_rep hz t]; rfl
    | _ => exact nomatch (show none = some ks from e)
theorem tups_rep : ∀ {xs : List D} {ks : List (List Int)} {vs : List V}, tupsOf xs = some ks → RepA K Z vs xs → ∃ ps : List (Addr × List Int), vs = ps.map (fun p => V.ref p.1) ∧ ps.map (·.2) = ks ∧ ∀ p ∈ ps, Z p.1 = some (.tup (p.2.map V.int))
  | [], _, _, e, .nil => by cases e; exact ⟨[], rfl, rfl, fun p hp => nomatch hp⟩
  | x :: r, ks, _, e, .cons h t => by
    cases x with
    | tup ds =>
      unfold tupsOf at e
      split at e
      · rename_i ns hn
        obtain ⟨z, hz, rfl⟩ := Option.map_eq_some_iff.mp e
        obtain ⟨ps, h1, h2, h3⟩ := tups_rep hz t
        cases h with
        | tup a1 a2 =>
          rename_i a xs
          rw [ints_rep hn a2] at a1
          refine ⟨(a, ns) :: ps, by rw [h1]; rfl, by rw [← h2]; rfl, fun p hp => ?_⟩
          rcases List.mem_cons.mp hp with rfl | q
          · exact a1
          · exact h3 p q
      · cases e
    | _ => exact nomatch (show none = some ks from e)
theorem rep_ints : ∀ ns : List Int, RepA K Z (ns.map V.int) (ns.map D.int)
  | [] => .nil
  | n :: r => .cons (.int n) (rep_ints r)
theorem rep_tups : ∀ {ps : List (Addr × List Int)}, (∀ p ∈ ps, Z p.1 = some (.tup (p.2.map V.int))) → RepA K Z (ps.map fun p => V.ref p.1) ((ps.map (·.2)).map tupI)
  | [], _ => .nil
  | p :: ps, h => .cons (.tup (h p List.mem_cons_self) (rep_ints p.2)) (rep_tups fun q hq => h q (List.mem_cons_of_mem _ hq))
theorem few_dd {ps : List (Addr × List Int)} {ks : List (List Int)} (h : ps.map (·.2) = ks) (hl : (ddup ks).length < 63) : FewU ps := ⟨ddup ks, hl, fun p hp => ddup_mem.mpr (by rw [← h]; exact List.mem_map.mpr ⟨p, hp, rfl⟩)⟩
theorem dd_perm {L ps : List (Addr × List Int)} (nd : (L.map (·.2)).Nodup) (h1 : ∀ p ∈ L, p ∈ ps) (h2 : ∀ p ∈ ps, p.2 ∈ L.map (·.2)) : (L.map (·.2)).Perm (ddup (ps.map (·.2))) := by
  refine (List.perm_ext_iff_of_nodup nd (ddup_nd _)).mpr fun k => ?_
  rw [ddup_mem]
  constructor
  · intro hk
    obtain ⟨p, hp, rfl⟩ := List.mem_map.mp hk
    exact List.mem_map.mpr ⟨p, h1 p hp, rfl⟩
  · intro hk
    obtain ⟨p, hp, rfl⟩ := List.mem_map.mp hk
    exact h2 p hp
/-- sorted(set(xs)) -/
def cB : Int := 4096
def bdOk (d : Nat) (ks : List Int) : Bool := decide (ks.length = d) && ks.all fun z => decide (0 ≤ z ∧ z < cB)
def sortT (l : List (List Int)) : List (List Int) := l.mergeSort fun a b => decide (TS.code cB a ≤ TS.code cB b)
def dSortSet : D → Option D
  | .lst xs => match tupsOf xs with
    | some [] => none
    | some (k :: ks) => if (ddup (k :: ks)).length < 63 ∧ 1 ≤ k.length ∧ (k :: ks).all (bdOk k.length) = true then some (.lst ((sortT (ddup (k :: ks))).map tupI)) else none
    | none => none
  | _ => none
theorem bd_of {d : Nat} {ks : List Int} (h : bdOk d ks = true) : ks.length = d ∧ TS.Bd cB ks := by
  unfold bdOk at h
  rw [Bool.and_eq_true, decide_eq_true_eq, List.all_eq_true] at h
  exact ⟨h.1, fun z hz => of_decide_eq_true (h.2 z hz)⟩
theorem code_inj : ∀ {a b : List Int}, a.length = b.length → TS.Bd cB a → TS.Bd cB b → TS.code cB a = TS.code cB b → a = b
  | [], [], _, _, _, _ => rfl
  | [], _ :: _, h, _, _, _ => nomatch h
  | _ :: _, [], h, _, _, _ => nomatch h
  | x :: a, y :: b, h, ha, hb, e => by
    have hl : a.length = b.length := Nat.succ.inj h
    rcases Int.lt_trichotomy x y with c | c | c
    · have := TS.code_lt hl ha.tail hb.tail c
      omega
    · subst c
      have e2 : x * cB ^ a.length + TS.code cB a = x * cB ^ b.length + TS.code cB b := e
      rw [hl] at e2
      rw [code_inj hl ha.tail hb.tail (by omega)]
    · have := TS.code_lt hl.symm hb.tail ha.tail c
      omega
theorem sortT_eq {a b : List (List Int)} {d : Nat} (hp : a.Perm b) (ha : ∀ k ∈ a, k.length = d ∧ TS.Bd cB k) (hs : a.Pairwise (fun x y => TS.code cB x ≤ TS.code cB y)) : a = sortT b := by
  have hq : (sortT b).Perm b := List.mergeSort_perm b _
  refine List.Perm.eq_of_pairwise (le := fun x y => TS.code cB x ≤ TS.code cB y) (fun x y hx hy l m => ?_) hs ?_ (hp.trans hq.symm)
  · have h1 := ha x hx
    have h2 := ha y (hp.mem_iff.mpr (hq.mem_iff.mp hy))
    exact code_inj (h1.1.trans h2.1.symm) h1.2 h2.2 (Int.le_antisymm l m)
  · have := List.pairwise_mergeSort (le := fun a b : List Int => decide (TS.code cB a ≤ TS.code cB b)) (fun a b c h1 h2 => by
      rw [decide_eq_true_eq] at *
      omega) (fun a b => by
      rw [Bool.or_eq_true, decide_eq_true_eq, decide_eq_true_eq]
      omega) b
    exact this.imp fun h => of_decide_eq_true h
def rSortSet (X : Cx) : V → Hp → VK → Prop := fun x H Q => rSetOfU X.K X.prog X.w [x] H fun y H2 => rSortedT X.K X.prog X.w [y] H2 Q
theorem ok_sortSet {x : V} {d c : D} {Q : VK} (s : Same Z H) (hx : Rep X.K Z x d) (hg : dSortSet d = some c) (p : PostP X.K Z H c Q) : rSortSet X x H Q := by
  unfold dSortSet at hg
  split at hg
  · rename_i xs
    split at hg
    · cases hg
    · rename_i k0 ks hk
      split at hg
      · rename_i hl
        obtain ⟨hl, h0, hall⟩ := hl
        have hall : ∀ k ∈ k0 :: ks, k.length = k0.length ∧ TS.Bd cB k := fun k hk => bd_of (List.all_eq_true.mp hall k hk)
        cases hg
        cases hx with
        | lst a1 a2 =>
          rename_i a vs
          obtain ⟨ps, h1, h2, h3⟩ := tups_rep hk a2
          subst h1
          refine ⟨a, ps, rfl, .inl (same_rd s a1), fun q hq => sqt s (h3 q hq), few_dd h2 hl, fun b L hb nd g1 g2 => ?_⟩
          have xn := ExtP.new (o := SetTO X.prog X.w b L) s hb
          refine ⟨b, L, k0.length, cB, rfl, upd_same, fun q hq => sqt xn.sub (xn.z _ _ (h3 q (g1 q hq))), h0, fun q hq => hall _ (by rw [← h2]; exact List.mem_map.mpr ⟨q, g1 q hq, rfl⟩), fun L' p2 pm nd2 few pw hn => ?_⟩
          have xn2 := ExtP.new (o := .lst (L'.map fun q => V.ref q.1)) xn.sub hn
          have hL : ∀ q ∈ L', q ∈ ps := fun q hq => g1 q (pm.mem_iff.mp hq)
          have e : L'.map (·.2) = sortT (ddup (k0 :: ks)) := by
            refine sortT_eq (d := k0.length) ?_ (fun k hk => ?_) ?_
            · rw [← h2]
              exact (pm.map (·.2)).trans (dd_perm nd g1 g2)
            · obtain ⟨q, hq, rfl⟩ := List.mem_map.mp hk
              exact hall _ (by rw [← h2]; exact List.mem_map.mpr ⟨q, hL q hq, rfl⟩)
            · rw [List.pairwise_map]; exact pw
          rw [← e] at p
          exact p _ _ _ (xn.trans xn2) (.lst (.inl upd_same) (rep_tups fun q hq => xn2.z _ _ (xn.z _ _ (h3 q (hL q hq)))))
      · cases hg
    · cases hg
  · cases hg
variable {e : Expr} {te : TE} {m : EM} {p p2 q pos : Pos}
theorem de_sortSet (ha : DE K X W e te m) (hm : X.mg "sorted" = none) (hm2 : X.mg "set" = none) (hc : X.calm = true) (hu : X.A.units + 64 < cLine) (hg : Gl X "sorted" := by rfl) (hg2 : Gl X "set" := by rfl) (na : starEach [e] X.env = (false, eval e X.env) :: starEach [] X.env := by rfl) :
    DE K X W (.Call (.Name "sorted" p) [.Call (.Name "set" p2) [e] [] q] [] pos) (tUn (rSortSet X) te) (mUn dSortSet m) where
  k := ha.k
  pe := pe_callB (r := rSortedT X.K X.prog X.w) (t := tCons (tCB (rSetOfU X.K X.prog X.w) (tCons te tNil)) tNil) (cr_sortedT hc) hg hm (by decide +kernel) (pa_cons (pe_callTy (cr_setOfU hc hu) hg2 hm2 PyProof.Rows.boot_set (pa_cons ha.pe pa_nil na) (by decide) (by decide) na) pa_nil)
  so := so_un (fun x d c Z H Q s hx hg p => by
    have hk := ha.k
    subst hk
    exact ok_sortSet s hx hg p) ha.so
end
end DL
namespace L2
open PySem PySem.Spec PyProof.Rows
/-! ### set comprehensions, the items tuples of ints, few different ones -/
section
variable {X : Cx}
theorem addT_ok {pins : List (Addr × Obj)} {σ : St} {H : Hp} {s : Shared} {E : Value → Shared → Prop} {D x : Addr} {L : List (Addr × List Int)} {k : List Int} {Q : Value → Shared → Prop} (I : Inv X pins σ H s) (hD : H D = some (SetTO X.prog X.w D L)) (hL : ∀ p ∈ L, SqT X.K H p.1 (p.2.map V.int)) (hx : SqT X.K H x (k.map V.int)) (hu : X.A.units + 3 < cLine) (few : L.length + 1 < 64)
    (h : ∀ s' L', Inv X pins σ (upd H D (SetTO X.prog X.w D L')) s' → (k ∈ L.map (·.2) → L' = L) → (k ∉ L.map (·.2) → L'.Perm ((x, k) :: L)) → (L'.map (·.2)).Nodup → Q .none s') : wpAny (model X.prog X.w) X.A (call (.builtin "set.add") [.ref D, .ref x]) Q E s := by
  have R0 : SetT0 X.prog X.w s.heap D L := (I.hok D _ hD).1
  obtain ⟨es, ep, t, R⟩ := R0.full fun p hp => I.isT (hL p hp)
  have hT : s.TypeIs (.ref D) "set" := by
    obtain ⟨o, ho, hex, _⟩ := R.ob
    exact ⟨o, ho, hex.1⟩
  have hk := I.isT hx
  refine wpAny_call_entry F.slot_set_add hT F.entry_set_add ?_ (F.args_set_add_2 _ _)
  unfold Builtin.«set.add» Builtin.Frozenset.oneOther
  simp only [List.isEmpty_nil, bind_assoc]
  unfold Builtin.Frozenset.addrOf setAdd
  refine wpAny_bind (wpAny_pure ?_)
  try dsimp only
  refine wpAny_bind (wpAny_pure ?_)
  try dsimp only
  refine wpAny_bind ?_
  refine wpAny_holding ?_
  refine wpAny_bind (wpAny_pyHash_tuple (by show X.A.units + 1 < cLine; omega) hk ?_)
  refine add_at (s := { s with toks := s.toks + (k.length + 1) }) R hk (by show X.A.units + 1 < cLine; omega) few fun b h' L' es' ep' t' sb R2 c1 c2 => ?_
  show wpAny _ _ (ret Value.none) _ _ _
  refine wpAny_pure ⟨_, rfl, h _ L' ?_ c1 c2 R2.nd⟩
  have he : ∃ u, h'.get? D = some u := by
    obtain ⟨o, ho, _⟩ := R2.ob
    exact ⟨o, ho⟩
  exact I.write (e := D) (t' := s.toks + (k.length + 1)) (by rw [hD]; trivial) (.inl rfl) (fun b u hb hu => (sb.2 b hb).trans hu) he (setTO_new R2.t0)
end
end L2
namespace L2
open PySem PySem.Spec PyProof.Rows
theorem dlS_loop {Y : Cx} {e : Expr} {j : Nat} {tg : Expr} {ifs : List Expr} {ipos : Pos} {it D : Addr} {body : Sem PySem.Fin} {R : Result → Shared → Prop} {pins : List (Addr × Obj)} {σ : St} {vs : List Nat} {J : It} {fp : List Addr} {tn : Nat → Heap → Prop}
    {kx : Expr} {gs : List Comprehension} {sc : Scope} {ps : Pos} (he : e = .SetComp kx gs sc ps)
    {g : TG} {tt : TT} {tb : St → Hp → (Hp → Prop) → Prop} {q : Hp → Prop} {W : Nat → Nat → Hp → Prop} {s : Shared} {H : Hp} {m0 : Nat}
    (T : Turn Y.prog Y.w Y.K tg J fp it tn) (hc : Y.calm = true) (hxe : Y.xe = fun _ _ => False) (hturn : TurnIs Y e j tg ifs ipos it D body) (hp : PG Y tg g) (ht : PTs Y ifs tt)
    (stat : ∀ {H' : Hp} {s' : Shared}, Inv Y pins (wipe σ vs) H' s' → (∀ b ∈ fp, H' b = none) → ∀ b ∈ fp, FpOk Y pins H' b)
    (hb : ∀ {pins' : List (Addr × Obj)} {σ8 : St} {s9 : Shared} {H9 : Hp} {Nx : Hp → Prop}, Sub0 (wipe σ vs) σ8 → Inv Y pins' σ8 H9 s9 → tb σ8 H9 Nx →
      wpAny (model Y.prog Y.w) Y.A body (fun f s' => f = .again (.compLoop e j (.ref it) (.ref D) Y.env) ∧ ∃ σ9 H', Inv Y pins' σ9 H' s' ∧ Sub0 (wipe σ vs) σ9 ∧ Nx H') (fun _ _ => False) s9)
    (turn : ∀ i m H, W i m H → (J.stop i H ∧ q H) ∨ (J.go i H ∧ ∃ Nx : Hp → Prop, (∀ H', Nx H' → ∃ m', m' < m ∧ W (i + 1) m' H') ∧
      ∀ x H', J.yld i H x H' → g x (wipe σ vs) H' fun σ2 H2 => wipe σ2 vs = wipe σ vs ∧ tt σ2 H2 fun b H3 => if b = true then tb σ2 H3 Nx else Nx H3))
    (hR : ∀ s' H', Inv Y pins (wipe σ vs) H' s' → q H' → R (.ok .next) s')
    (I : Inv Y pins (wipe σ vs) H s) (st : tn 0 s.heap) (nf : ∀ b ∈ fp, H b = none) (w0 : W 0 m0 H) :
    codeAny (model Y.prog Y.w) Y.A (.compLoop e j (.ref it) (.ref D) Y.env) R s := by
  subst he
  refine codeAny_loop rfl (fun n s' => ∃ i H', Inv Y pins (wipe σ vs) H' s' ∧ tn i s'.heap ∧ (∀ b ∈ fp, H' b = none) ∧ W i n H') (fun n s5 hI => ?_) m0 ⟨0, H, I, st, nf, w0⟩
  obtain ⟨i, H5, I5, st5, n5, w5⟩ := hI
  show wpAny _ Y.A ((compTurn (.SetComp kx gs sc ps) j (.ref it) (.ref D) Y.env).onRaise (fun x => do noteFrame x Y.env; theTreesLotGoes x)) _ _ s5
  refine wpAny_noted ?_
  rw [show compTurn (.SetComp kx gs sc ps) j (.ref it) (.ref D) Y.env = _ from hturn]
  refine wpAny_bind (wpAny_standAt (wpAny_bind ?_))
  rcases turn i n H5 w5 with ⟨stop, qq⟩ | ⟨go, Nx, hNx, step⟩
  · refine thnF (T.done Y rfl rfl rfl hc i pins s5 _ H5 (fun _ _ => False) I5 (stat I5 n5) st5 stop) fun r s6 hr => ?_
    obtain ⟨rfl, I6⟩ := hr
    exact wpAny_pure (hR s6 H5 I6 qq)
  · refine thnF (T.item Y rfl rfl rfl hc i pins s5 _ H5 (fun _ _ => False) I5 (stat I5 n5) st5 go) fun r s6 hr => ?_
    obtain ⟨u, rfl, h6⟩ := hr
    refine wpAny_bind (thnF h6 fun _ s7 h7 => ?_)
    obtain ⟨x, H7, I7, r7, y7, st7, n7⟩ := h7
    have P7 := I7.pinned (stat I7 n7) (T.obj _ _ st7)
    have hgo := hp.run _ s7 _ H7 x u _ P7 r7 (step x H7 y7)
    rw [hxe] at hgo
    refine wpAny_bind (thnF hgo fun _ s8 h8 => ?_)
    obtain ⟨σ8, H8, I8, hw8, q8⟩ := h8
    have hto := ht.run _ s8 σ8 H8 _ I8 q8
    rw [hxe] at hto
    refine wpAny_bind (thnF hto fun b s9 h9 => ?_)
    obtain ⟨H9, I9, q9⟩ := h9
    have sub8 := sub_wipe hw8
    have fin : ∀ {σ9 : St} {s' : Shared} {H' : Hp}, Inv Y (pins ++ pinsAt fp s7.heap) σ9 H' s' → Sub0 (wipe σ vs) σ9 → Nx H' →
        ∃ m, m < n ∧ ∃ i H', Inv Y pins (wipe σ vs) H' s' ∧ tn i s'.heap ∧ (∀ b ∈ fp, H' b = none) ∧ W i m H' := by
      intro σ9 s' H' I' sb nx
      obtain ⟨m', hm, w'⟩ := hNx H' nx
      have pin' : ∀ b ∈ fp, ∀ o, s7.heap.get? b = some o → s'.heap.get? b = some o ∧ H' b = none := by
        intro b hb o eo
        have z := I'.pin (b, o) (List.mem_append_right _ (List.mem_append_right _ (mem_pinsAt hb eo)))
        exact ⟨z.1, z.2.1⟩
      refine ⟨m', hm, i + 1, H', I'.unpinned.weak sb.1 sb.2, T.keep _ _ _ st7 fun b hb o eo => (pin' b hb o eo).1, fun b hb => ?_, w'⟩
      obtain ⟨o, eo, _⟩ := T.obj _ _ st7 b hb
      exact (pin' b hb o eo).2
    cases b with
    | false =>
      rw [if_neg Bool.false_ne_true] at q9
      exact wpAny_pure ⟨rfl, fin I9 sub8 q9⟩
    | true =>
      rw [if_pos rfl] at q9
      refine thnF (hb sub8 I9 q9) fun f s' h' => ?_
      obtain ⟨rfl, σ9, H', I', sb, nx⟩ := h'
      exact ⟨rfl, fin I' sb nx⟩
def tScG (P : Program) (w : World) (wi : TI) (g : TG) (tt : TT) (tb : Addr → St → Hp → (Hp → Prop) → Prop) (vs : List Nat) : TE := fun σ H Q => wi σ H fun J H1 => ∀ D, H1 D = none → ∃ W : Nat → Nat → Hp → Prop, (∃ m, W 0 m (upd H1 D (SetTO P w D []))) ∧
  ∀ i m H, W i m H → (J.stop i H ∧ Q (.ref D) H) ∨ (J.go i H ∧ ∃ Nx : Hp → Prop, (∀ H', Nx H' → ∃ m', m' < m ∧ W (i + 1) m' H') ∧
    ∀ x H', J.yld i H x H' → g x (wipe σ vs) H' fun σ2 H2 => wipe σ2 vs = wipe σ vs ∧ tt σ2 H2 fun b H3 => if b = true then tb D σ2 H3 Nx else Nx H3)
section
variable {X : Cx} {kx tg iter : Expr} {ifs : List Expr} {rest : List Comprehension} {scope : Scope} {own : List (Str × Nat)} {pos pos' : Pos} {wi : TI} {g : TG} {tt : TT} {tb : Addr → St → Hp → (Hp → Prop) → Prop} {body : Addr → Addr → Env → Sem PySem.Fin}
theorem dlS_comp {pins : List (Addr × Obj)} {s : Shared} {σ : St} {H : Hp} {Q : VK} (hc : X.calm = true) (hN : X.N.Nodup) (I : Inv X pins σ H s) (hi : PI X tg iter wi) (ok : BlkOk X.N X.env.scope scope own)
    (hg : inBlk X scope fun Y => PG Y tg g) (ht : inBlk X scope fun Y => PTs Y ifs tt) (hbd : inBlk X scope fun Y => Body Y (.SetComp kx (⟨tg, iter, ifs, 0⟩ :: rest) scope pos) 0 (own.map (·.2)) tb body)
    (hturn : ∀ (Y : Cx) (it D : Addr), TurnIs Y (.SetComp kx (⟨tg, iter, ifs, 0⟩ :: rest) scope pos) 0 tg ifs iter.pos it D (body it D Y.env))
    (hs : ∀ x, foldedSetIterable iter X.env x = pure x) (h : tScG X.prog X.w wi g tt tb (own.map (·.2)) σ H Q) {use : Option (Value → Sem Unit)} {Qf : Value → Shared → Prop}
    (hend : ∀ D C s' m H', Inv X pins σ H' s' → Q (.ref D) H' → s'.heap.Ns C m → FpOk X pins H' C → compPost (model X.prog X.w) X.A X.xe use Qf (.ref D) C (.ok .next) s') :
    wpAny (model X.prog X.w) X.A (comprehension (.SetComp kx (⟨tg, iter, ifs, 0⟩ :: rest) scope pos) scope X.env pos' (newSet (.type "set")) false (eval iter X.env) use) Qf X.xe s := by
  have frees : ∀ y ∈ scope.names, y.2 = .free → ∃ c, X.env.cells.lookup y.1 = some c := by
    intro y hy e
    rcases ok.free y hy e with k | k
    · exact I.ok.has _ (.inl k)
    · exact I.ok.has _ (.inr k)
  have first := hi.run pins s σ H _ I h
  refine wpAny_comprehension_free (use := use) rfl hs (closure_ok frees) ok.kind (fun y hy e => by rw [ok.uniq y hy, e]) ?_
  refine thn first fun xv s1 hx => thn hx fun itv s2 h2 => ?_
  obtain ⟨it, fp, tn, J, H2, rfl, I2, T, st2, f2, q⟩ := h2
  refine PpSet.newSet_ok (newEnv_comp ?_)
  obtain ⟨D, hD⟩ : ∃ D, D = s2.heap.objs.size := ⟨_, rfl⟩
  rw [← hD]
  have nD : H2 D = none := I2.hok.fresh (Nat.le_of_eq hD.symm)
  obtain ⟨W, ⟨m0, w0⟩, turn⟩ := q D nD
  obtain ⟨s3, hs3⟩ : ∃ s3 : Shared, s3 = { s2 with heap := s2.heap.push { cls := .type "set", dict := none, data := .set #[] 0 (.fresh 0 0 (!X.w.params.followText "set-order")) } } := ⟨_, rfl⟩
  rw [← hs3]
  have e3 : s3.heap = s2.heap.push { cls := .type "set", dict := none, data := .set #[] 0 (.fresh 0 0 (!X.w.params.followText "set-order")) } := by rw [hs3]
  have keep3 : ∀ b o, s2.heap.get? b = some o → s3.heap.get? b = some o := fun b o e => by rw [e3]; exact Heap.get?_push_of_some _ e
  have I3 : Inv X pins σ (upd H2 D (SetTO X.prog X.w D [])) s3 := by
    rw [hs3, hD]
    exact I2.laid (t' := s2.toks) (fun b o e => Heap.get?_push_of_some _ e) (Nat.le_refl _) (setTO_new (setTR_fresh (Heap.get?_push_size _ rfl)).t0)
  have old : ∀ b ∈ fp, b < s2.heap.objs.size := fun b hb => by
    obtain ⟨o, e, _⟩ := T.obj _ _ st2 b hb
    exact Heap.lt_size e
  have f3 : ∀ b ∈ fp, FpOk X pins (upd H2 D (SetTO X.prog X.w D [])) b ∧ b < s3.heap.objs.size := fun b hb => by
    have lt := old b hb
    obtain ⟨k1, k2⟩ := f2 b hb
    refine ⟨⟨by rw [upd_ne (by rw [hD]; exact Nat.ne_of_lt lt)]; exact k1, k2⟩, ?_⟩
    rw [e3, Heap.size_push]
    exact Nat.lt_succ_of_lt lt
  have st3 : tn 0 s3.heap := T.keep _ _ _ st2 fun b _ o e => keep3 b o e
  have I4 := block_start I3 ok hN f3
  have nf3 : ∀ b ∈ fp, (upd H2 D (SetTO X.prog X.w D [])) b = none := fun b hb => (f3 b hb).1.1
  obtain ⟨cl, hcl⟩ : ∃ cl, cl = cellsFrom (s3.heap.objs.size + 1) scope.names (cloFrom X.env.cells scope.names []) := ⟨_, rfl⟩
  rw [← hcl] at I4
  obtain ⟨H3, hH3⟩ : ∃ H3, H3 = upd H2 D (SetTO X.prog X.w D []) := ⟨_, rfl⟩
  rw [← hH3] at I3 I4 w0 nf3 f3
  have pg := hg s3 H3 s3.heap.objs.size cl fp
  have pt := ht s3 H3 s3.heap.objs.size cl fp
  have pb := hbd s3 H3 s3.heap.objs.size cl fp
  show codeAny _ _ (.compStart (.SetComp kx (⟨tg, iter, ifs, 0⟩ :: rest) scope pos) 0 (.ref it) (.ref D) (compEnvC scope (cellsFrom (s3.heap.objs.size + 1) scope.names (cloFrom X.env.cells scope.names [])) s3.heap.objs.size X.env))
    (compPost (model X.prog X.w) X.A X.xe use Qf (.ref D) s3.heap.objs.size) { s3 with heap := pushCells (s3.heap.push { cls := .type "dict", data := .dict #[] }) scope.names }
  rw [← hcl]
  obtain ⟨s4, hs4⟩ : ∃ s4 : Shared, s4 = { s3 with heap := pushCells (s3.heap.push { cls := .type "dict", data := .dict #[] }) scope.names } := ⟨_, rfl⟩
  rw [← hs4] at I4 ⊢
  have st4 : tn 0 s4.heap := T.keep _ _ _ st3 fun b _ o e => by rw [hs4]; exact pushCells_keeps _ _ _ _ (Heap.get?_push_of_some _ e)
  obtain ⟨Y, hY⟩ : ∃ Y, Y = X.blk s3 H3 scope (compEnvC scope cl s3.heap.objs.size X.env) fp := ⟨_, rfl⟩
  have loop : codeAny (model X.prog X.w) X.A (.compLoop (.SetComp kx (⟨tg, iter, ifs, 0⟩ :: rest) scope pos) 0 (.ref it) (.ref D) (compEnvC scope cl s3.heap.objs.size X.env))
      (compPost (model X.prog X.w) X.A X.xe use Qf (.ref D) s3.heap.objs.size) s4 := by
    refine dlS_loop (Y := X.blk s3 H3 scope (compEnvC scope cl s3.heap.objs.size X.env) fp) (vs := own.map (·.2)) (σ := σ) (pins := []) (tb := tb D) rfl T hc rfl (hturn _ it D) pg pt (fun I' hn b hb => ?_) (fun sb I' t => ?_) turn (fun s' H' I' qq => ?_) I4 st4 nf3 w0
    · exact ⟨hn b hb, (I'.ok.exf b hb).1, I'.ok.exfs b hb, .inl hb, fun x c e => (I'.ok.exf b hb).2 x c e, fun p hp => absurd (show p ∈ ([] : List (Addr × Obj)) ++ [] from hp) (by simp)⟩
    · refine thnF (pb it D _ _ _ _ _ I' t) fun f s' h' => ?_
      obtain ⟨ef, σ9, H', i9, sb9, nx⟩ := h'
      exact ⟨ef, σ9, H', i9, sub_out sb sb9, nx⟩
    · have I7 : Inv X pins σ H' s' := I3.call' (ch := fp) I'.os I'.base I'.hok I'.bare fun b hb => by
        obtain ⟨_, k1, _, k3, k4, k5⟩ := (f3 b hb).1
        exact ⟨k3, k1, k4, k5⟩
      have nC : H' s3.heap.objs.size = none := I'.free
      obtain ⟨m, hn, _⟩ := I'.loc
      have hn : s'.heap.Ns s3.heap.objs.size m := hn
      exact hend D s3.heap.objs.size s' m H' I7 qq hn (I3.fpOk (Nat.le_refl _) nC)
  exact PpSet.codeAny_compStart_set loop (T.self X.A 0 _ _ _ st4 loop)
end
section
variable {X : Cx} {kx tg iter tg1 iter1 : Expr} {ifs ifs1 : List Expr} {scope : Scope} {own : List (Str × Nat)} {pos pos' : Pos} {wi wi1 : TI} {g g1 : TG} {tt tt1 : TT} {tk : TE}
def addBody (e : Expr) (j : Nat) (kx : Expr) (it D : Addr) (env : Env) : Sem PySem.Fin := do
  (do
    let v ← eval kx env
    standAt kx.pos
    let _ ← call (.builtin "set.add") [.ref D, v])
  again (.compLoop e j (.ref it) (.ref D) env)
theorem turn_addS2 (Y : Cx) (c0 : Comprehension) (it D : Addr) : TurnIs Y (.SetComp kx [c0, ⟨tg1, iter1, ifs1, 0⟩] scope pos) 1 tg1 ifs1 iter1.pos it D (addBody (.SetComp kx [c0, ⟨tg1, iter1, ifs1, 0⟩] scope pos) 1 kx it D Y.env) := rfl
theorem turn_inS (Y : Cx) (it D : Addr) : TurnIs Y (.SetComp kx [⟨tg, iter, ifs, 0⟩, ⟨tg1, iter1, ifs1, 0⟩] scope pos) 0 tg ifs iter.pos it D
    (inBody (.SetComp kx [⟨tg, iter, ifs, 0⟩, ⟨tg1, iter1, ifs1, 0⟩] scope pos) iter1 it D Y.env) := rfl
def tbAdd (K : PySem.W.Frag) (P : Program) (w : World) (tk : TE) (D : Addr) (σ : St) (H : Hp) (Nx : Hp → Prop) : Prop := tk σ H fun y H4 => ∃ (L : List (Addr × List Int)) (x : Addr) (k : List Int), y = .ref x ∧ H4 D = some (SetTO P w D L) ∧ (∀ p ∈ L, SqT K H4 p.1 (p.2.map V.int)) ∧ SqT K H4 x (k.map V.int) ∧ L.length + 1 < 64 ∧
  ∀ L' : List (Addr × List Int), (k ∈ L.map (·.2) → L' = L) → (k ∉ L.map (·.2) → L'.Perm ((x, k) :: L)) → (L'.map (·.2)).Nodup → Nx (upd H4 D (SetTO P w D L'))
theorem body_addT {Y : Cx} {e : Expr} {j : Nat} (vs : List Nat) (hu : Y.A.units + 3 < cLine) (hxe : Y.xe = fun _ _ => False) (hk : PE Y kx tk) : Body Y e j vs (tbAdd Y.K Y.prog Y.w tk) (addBody e j kx) := by
  intro it D pins σ s H Nx I t
  have h1 := hk.run pins s σ H _ I t
  rw [hxe] at h1
  refine wpAny_bind (wpAny_bind (thnF h1 fun u s1 q1 => ?_))
  obtain ⟨y, H1, I1, ry, L, x, k, rfl, hD, hL, hx, few, nx⟩ := q1
  obtain rfl : u = Value.ref x := ry
  refine wpAny_bind (wpAny_standAt (wpAny_bind ?_))
  exact addT_ok I1 hD hL hx hu few fun s' L' I' c1 c2 nd => wpAny_pure (wpAny_pure ⟨rfl, σ, _, I', sub_wipe0 σ vs, nx L' c1 c2 nd⟩)
/-- {kx for tg in iter if .. for tg1 in iter1 if ..} -/
def tbInS (K : PySem.W.Frag) (P : Program) (w : World) (wi1 : TI) (g1 : TG) (tt1 : TT) (tk : TE) (vs1 : List Nat) (D : Addr) (σ : St) (H : Hp) (Nx : Hp → Prop) : Prop := wi1 σ H fun J1 H4 => ∃ W1 : Nat → Nat → Hp → Prop, (∃ m, W1 0 m H4) ∧
  ∀ i m H, W1 i m H → (J1.stop i H ∧ Nx H) ∨ (J1.go i H ∧ ∃ Nx1 : Hp → Prop, (∀ H', Nx1 H' → ∃ m', m' < m ∧ W1 (i + 1) m' H') ∧
    ∀ x H', J1.yld i H x H' → g1 x (wipe σ vs1) H' fun σ2 H2 => wipe σ2 vs1 = wipe σ vs1 ∧ tt1 σ2 H2 fun b H3 => if b = true then tbAdd K P w tk D σ2 H3 Nx1 else Nx1 H3)
theorem startS_one {M : Model} {A : Around} {e : Expr} {c0 : Comprehension} {it acc : Value} {env : Env} {R : Result → Shared → Prop} {s : Shared} (he : ∃ kx sc ps, e = .SetComp kx [c0, ⟨tg1, iter1, ifs1, 0⟩] sc ps)
    (h0 : codeAny (model X.prog X.w) A (.compLoop e 1 it acc env) R s)
    (h : wpAny (model X.prog X.w) A (pyIter it) (fun it' s' => codeAny (model X.prog X.w) A (.compLoop e 1 it' acc env) R s') (notedBy (model X.prog X.w) A env fun x s' => R (.error x) s') s) :
    codeAny (model X.prog X.w) A (.compStart e 1 it acc env) R s := by
  obtain ⟨kx, sc, ps, rfl⟩ := he
  refine codeAny_of_tree ?_
  show wpAny _ _ ((compStart (.SetComp kx [c0, ⟨tg1, iter1, ifs1, 0⟩] sc ps) 1 it acc env).onRaise (fun x => do noteFrame x env; standAt theWindowsPlace)) _ _ s
  refine wpAny_notedAt ?_
  unfold compStart
  refine wpAny_ite_split (fun hf => absurd (show (false = true) from hf) Bool.false_ne_true) (fun _ => ?_)
  show wpAny _ _ (ask >>= _) _ _ s
  refine wpAny_bind (wpAny_askSetting (wpAny_ite ?_))
  split
  · first
      | exact wpAny_pure ⟨rfl, h0⟩
      | exact wpAny_bind (wpAny_pure (wpAny_pure ⟨rfl, h0⟩))
  · refine wpAny_bind (wpAny_rule ?_)
    first
      | exact wpAny_bind (wpAny_standAt (wpAny_bind (thn h fun it' s' h' => wpAny_pure ⟨rfl, h'⟩)))
      | (show wpAny _ _ (standAt iter1.pos >>= _) _ _ s; exact wpAny_bind (wpAny_standAt (wpAny_bind (thn h fun it' s' h' => wpAny_pure ⟨rfl, h'⟩))))
theorem body_inS {Y : Cx} {vs vs1 : List Nat} (hu : Y.A.units + 3 < cLine) (hc : Y.calm = true) (hxe : Y.xe = fun _ _ => False) (hsub : ∀ i ∈ vs1, i ∈ vs) (hi1 : PI Y tg1 iter1 wi1) (hg1 : PG Y tg1 g1) (ht1 : PTs Y ifs1 tt1) (hk : PE Y kx tk) 
    (hs1 : ∀ env x, foldedSetIterable iter1 env x = pure x) :
    Body Y (.SetComp kx [⟨tg, iter, ifs, 0⟩, ⟨tg1, iter1, ifs1, 0⟩] scope pos) 0 vs (tbInS Y.K Y.prog Y.w wi1 g1 tt1 tk vs1) (inBody (.SetComp kx [⟨tg, iter, ifs, 0⟩, ⟨tg1, iter1, ifs1, 0⟩] scope pos) iter1) := by
  intro it0 D pins σ s H Nx I t
  have h1 := hi1.run pins s σ H _ I t
  rw [hxe] at h1
  refine wpAny_bind (thnF h1 fun a s1 q1 => ?_)
  refine wpAny_bind (wpAny_standAt (wpAny_bind (wpAny_of_eq (hs1 _ a) (wpAny_bind (wpAny_holding (thnF q1 fun it1 s2 q2 => ?_))))))
  obtain ⟨it, fp, tn, J1, H4, rfl, I4, T1, st4, f4, W1, ⟨m0, w0⟩, turn⟩ := q2
  refine wpAny_bind (wpAny_runOwn ?_)
  rw [Around.mark_none]
  have loop : codeAny (model Y.prog Y.w) Y.A (.compLoop (.SetComp kx [⟨tg, iter, ifs, 0⟩, ⟨tg1, iter1, ifs1, 0⟩] scope pos) 1 (.ref it) (.ref D) Y.env)
      (fun r s' => match r with | .ok _ => ∃ H', Inv Y pins (wipe σ vs1) H' s' ∧ Nx H' | .error _ => False) s2 := by
    refine dlS_loop (vs := vs1) (σ := σ) (pins := pins) (tb := tbAdd Y.K Y.prog Y.w tk D) rfl T1 hc hxe (turn_addS2 Y _ it D) hg1 ht1 (fun I' hn b hb => ⟨hn b hb, (f4 b hb).2⟩) (fun sb I' t => ?_) turn (fun s' H' I' qq => ⟨H', I', qq⟩)
      (I4.weak (wipe_length _ _) fun i v e => (wipe_some e).1) st4 (fun b hb => (f4 b hb).1) w0
    refine thnF (body_addT vs1 hu hxe hk it D _ _ _ _ _ I' t) fun f s' h' => ?_
    obtain ⟨ef, σ9, H', i9, sb9, nx⟩ := h'
    exact ⟨ef, σ9, H', i9, sub_out sb sb9, nx⟩
  refine codeAny_mono (startS_one (M := model Y.prog Y.w) ⟨_, _, _, rfl⟩ loop (T1.self Y.A 0 _ _ _ st4 loop)) fun r s' hr => ?_
  cases r with
  | error e => exact hr.elim
  | ok f =>
    obtain ⟨H', I', nx⟩ := hr
    have fin : ∃ σ' H', Inv Y pins σ' H' s' ∧ Sub0 (wipe σ vs) σ' ∧ Nx H' := by
      refine ⟨wipe σ vs1, H', I', ⟨by rw [wipe_length, wipe_length], fun i v e => ?_⟩, nx⟩
      obtain ⟨e1, e2⟩ := wipe_some e
      rw [wipe_out fun z => e2 (hsub i z)]
      exact e1
    first
      | exact wpAny_pure ⟨rfl, fin⟩
      | exact wpAny_bind (wpAny_pure (wpAny_pure ⟨rfl, fin⟩))
theorem pe_sc2 {vs1 : List Nat} (hu : X.A.units + 3 < cLine) (hc : X.calm = true) (hN : X.N.Nodup) (hi : PI X tg iter wi) (ok : BlkOk X.N X.env.scope scope own) (hv1 : ∀ i ∈ vs1, i ∈ own.map (·.2)) (hg : inBlk X scope fun Y => PG Y tg g) (ht : inBlk X scope fun Y => PTs Y ifs tt)
    (hi1 : inBlk X scope fun Y => PI Y tg1 iter1 wi1) (hg1 : inBlk X scope fun Y => PG Y tg1 g1) (ht1 : inBlk X scope fun Y => PTs Y ifs1 tt1) (hk : inBlk X scope fun Y => PE Y kx tk)
    (hs : ∀ x, foldedSetIterable iter X.env x = pure x := by intro _; rfl) (hs1 : ∀ env x, foldedSetIterable iter1 env x = pure x := by intro _ _; rfl) :
    PE X (.SetComp kx [⟨tg, iter, ifs, 0⟩, ⟨tg1, iter1, ifs1, 0⟩] scope pos) (tScG X.prog X.w wi g tt (tbInS X.K X.prog X.w wi1 g1 tt1 tk vs1) (own.map (·.2))) := by
  refine ⟨fun pins s σ H Q I h => ?_⟩
  rw [PpSet.eval_SetComp]
  exact dlS_comp hc hN I hi ok hg ht (fun s H C cl fp => body_inS (Y := X.blk s H scope (compEnvC scope cl C X.env) fp) hu hc rfl hv1 (hi1 s H C cl fp) (hg1 s H C cl fp) (ht1 s H C cl fp) (hk s H C cl fp) hs1) turn_inS hs h end_val
end
end L2
namespace DL
open PySem L2 PySem.W
section
variable {K : PySem.W.Frag} {X : Cx} {W : WX} {P : Program} {wo : World}
/-- what is known of the new set at D while it is filled -/
structure FillS (P : Program) (wo : World) (K : PySem.W.Frag) (Z1 H1 : Hp) (I1 : List Addr) (D : Addr) (Z H : Hp) (I : List Addr) (M : List O) (acc : List (Addr × List Int)) (ad : List (List Int)) : Prop where
  w : Wf K Z H I M
  x : Ext Z1 H1 I1 Z H I
  at_ : H D = some (SetTO P wo D acc)
  nz : Z D = none
  ni : D ∉ I
  nd : (acc.map (·.2)).Nodup
  mem : ∀ k, k ∈ ad ↔ k ∈ acc.map (·.2)
  bn : ad.Nodup
  tup : ∀ p ∈ acc, Z p.1 = some (.tup (p.2.map V.int))
theorem FillS.step {Z1 H1 Z H Z' H' : Hp} {I1 I I' : List Addr} {D : Addr} {M M' : List O} {acc : List (Addr × List Int)} {ad : List (List Int)} (f : FillS P wo K Z1 H1 I1 D Z H I M acc ad) (w : Wf K Z' H' I' M') (x : Ext Z H I Z' H' I') : FillS P wo K Z1 H1 I1 D Z' H' I' M' acc ad where
  w := w
  x := f.x.trans x
  at_ := x.fr D _ f.at_ f.ni
  nz := by
    cases q : Z' D with
    | none => rfl
    | some o =>
      rcases x.zn D (by rw [q]; simp) with k | k | k
      · exact absurd f.nz k
      · exact (Fr.no f.at_ (fun _ e => nomatch e) k).elim
      · exact absurd k f.ni
  ni := fun m => by
    rcases x.nw D m with k | k
    · exact f.ni k
    · rw [f.at_] at k; cases k
  nd := f.nd
  mem := f.mem
  bn := f.bn
  tup := fun p hp => x.z _ _ (f.tup p hp)
def addK (ad : List (List Int)) (k : List Int) : List (List Int) := if k ∈ ad then ad else k :: ad
theorem FillS.put {Z1 H1 Z H : Hp} {I1 I : List Addr} {D x : Addr} {M : List O} {acc L' : List (Addr × List Int)} {ad : List (List Int)} {k : List Int} (f : FillS P wo K Z1 H1 I1 D Z H I M acc ad) (h0 : H1 D = none) (r : Z x = some (.tup (k.map V.int)))
    (c1 : k ∈ acc.map (·.2) → L' = acc) (c2 : k ∉ acc.map (·.2) → L'.Perm ((x, k) :: acc)) (nd' : (L'.map (·.2)).Nodup) :
    FillS P wo K Z1 H1 I1 D Z (upd H D (SetTO P wo D L')) I M L' (addK ad k) where
  w := ⟨fun a u e => by rw [upd_ne (fun q => by rw [q, f.nz] at e; cases e)]; exact f.w.sub a u e, f.w.len, f.w.nd, fun a m => by rw [upd_ne (fun q => f.ni (by rw [← q]; exact m))]; exact f.w.tr a m, fun n a o h1 h2 h3 => by
    obtain ⟨q1, q2⟩ := f.w.ob n a o h1 h2 h3
    exact ⟨q1, q2.mono (Same.refl _) (upd_ne fun q => f.ni (by rw [← q]; exact List.mem_of_getElem? h1))⟩⟩
  x := ⟨f.x.z, f.x.i, fun a o e n => by rw [upd_ne (ne_of_none e h0)]; exact f.x.fr a o e n, f.x.nw, f.x.zn, fun a e => by
    by_cases q : a = D
    · rw [q, upd_same]; simp
    · rw [upd_ne q]; exact f.x.tr a e⟩
  at_ := upd_same
  nz := f.nz
  ni := f.ni
  nd := nd'
  mem := fun j => by
    unfold addK
    by_cases hk : k ∈ acc.map (·.2)
    · rw [if_pos ((f.mem k).mpr hk), c1 hk]; exact f.mem j
    · rw [if_neg (fun q => hk ((f.mem k).mp q)), ((c2 hk).map (·.2)).mem_iff, List.mem_cons, List.map_cons, List.mem_cons, f.mem]
  bn := by
    unfold addK
    split
    · exact f.bn
    · rename_i h; exact List.nodup_cons.mpr ⟨h, f.bn⟩
  tup := fun p hp => by
    by_cases hk : k ∈ acc.map (·.2)
    · rw [c1 hk] at hp; exact f.tup p hp
    · rcases List.mem_cons.mp ((c2 hk).mem_iff.mp hp) with e | q
      · rw [e]; exact r
      · exact f.tup p q
abbrev BMS := S → List (List Int) → Option (List (List Int) × List O)
def SoundBS (P : Program) (wo : World) (K : PySem.W.Frag) (tb : Addr → St → Hp → (Hp → Prop) → Prop) (bm : BMS) : Prop := ∀ (Z1 H1 : Hp) (I1 : List Addr) (D : Addr), H1 D = none → ∀ (σ : St) (l : List (Option DV)) (Z H : Hp) (I : List Addr) (M : List O) (acc : List (Addr × List Int)) (bd ad : List (List Int)) (Mf : List O) (Nx : Hp → Prop),
  RepS K Z I σ l → FillS P wo K Z1 H1 I1 D Z H I M acc bd → bm ⟨l, M⟩ bd = some (ad, Mf) → (∀ Z' H' I' acc', FillS P wo K Z1 H1 I1 D Z' H' I' Mf acc' ad → Same Z Z' → (∃ t, I' = I ++ t) → Nx H') → tb D σ H Nx
def compGS (l : List (Option DV)) (g : GM) (t : EM) (bm : BMS) : List DV → List (List Int) → List O → Option (List (List Int) × List O)
  | [], acc, M => some (acc, M)
  | d :: ds, acc, M => match g d ⟨l, M⟩ with
    | none => none
    | some s1 => match t s1 with
      | some (.ok (.p (.bl true)) M1) => match bm ⟨s1.l, M1⟩ acc with
        | some (acc', M2) => compGS l g t bm ds acc' M2
        | none => none
      | some (.ok (.p (.bl false)) M1) => compGS l g t bm ds acc M1
      | _ => none
theorem gloop_okS {g : TG} {tt : TT} {tb : Addr → St → Hp → (Hp → Prop) → Prop} {bm : BMS} {vs ix : List Nat} {gm : GM} {t : EM} (hg : HG K g gm ix) (hix : ∀ i ∈ ix, i ∈ vs) (ht : Sound K WF RepB tt t) (hb : SoundBS P wo K tb bm)
    {Z1 H1 : Hp} {I1 : List Addr} {D : Addr} (hD : H1 D = none) {σ : St} {l : List (Option DV)} {Zs Hs : Hp} {Is : List Addr} {Ms : List O} {J : It} {ds : List DV} (q : ItOk K Zs Is J ds) (rs : RepS K Zs Is σ l)
    {acc : List (Addr × List Int)} {bd : List (List Int)} (f : FillS P wo K Z1 H1 I1 D Zs Hs Is Ms acc bd) {ad : List (List Int)} {Mf : List O} (e : compGS (wipeL l vs) gm t bm ds bd Ms = some (ad, Mf)) {Nx : Hp → Prop}
    (k : ∀ Z' H' I' acc', FillS P wo K Z1 H1 I1 D Z' H' I' Mf acc' ad → Same Zs Z' → (∃ t, I' = Is ++ t) → Nx H') :
    ∃ W1 : Nat → Nat → Hp → Prop, (∃ m, W1 0 m Hs) ∧ ∀ i m H, W1 i m H → (J.stop i H ∧ Nx H) ∨ (J.go i H ∧ ∃ Nx1 : Hp → Prop, (∀ H', Nx1 H' → ∃ m', m' < m ∧ W1 (i + 1) m' H') ∧
      ∀ x H', J.yld i H x H' → g x (L2.wipe σ vs) H' fun σ2 H2 => L2.wipe σ2 vs = L2.wipe σ vs ∧ tt σ2 H2 fun b H3 => if b = true then tb D σ2 H3 Nx1 else Nx1 H3) := by
  refine ⟨fun i m H' => m = ds.length - i ∧ i ≤ ds.length ∧ ∃ Z' I' M acc bd, FillS P wo K Z1 H1 I1 D Z' H' I' M acc bd ∧ Same Zs Z' ∧ (∃ t, I' = Is ++ t) ∧ compGS (wipeL l vs) gm t bm (ds.drop i) bd M = some (ad, Mf),
    ⟨ds.length, by simp, Nat.zero_le _, Zs, Is, Ms, acc, bd, f, Same.refl _, ⟨[], by simp⟩, e⟩, ?_⟩
  rintro i m H' ⟨rfl, hil, Z', I', M, acc, bd, f, sz, si, e'⟩
  have Jo := q Z' H' I' sz si f.w.sub i
  by_cases hlt : i < ds.length
  · right
    have hd : ds[i]? = some ds[i] := by simp [hlt]
    obtain ⟨go, yl⟩ := Jo.1 _ hd
    rw [List.drop_eq_getElem_cons hlt] at e'
    refine ⟨go, fun H2 => ∃ Z2 I2 M2 acc2 bd2, FillS P wo K Z1 H1 I1 D Z2 H2 I2 M2 acc2 bd2 ∧ Same Zs Z2 ∧ (∃ t, I2 = Is ++ t) ∧ compGS (wipeL l vs) gm t bm (ds.drop (i + 1)) bd2 M2 = some (ad, Mf),
      fun H2 h2 => ⟨ds.length - (i + 1), by omega, rfl, hlt, h2⟩, fun x H2 hx => ?_⟩
    obtain ⟨Z2, x2, rx⟩ := yl x H2 hx
    have f2 := f.step (f.w.extP x2) (x2.ext f.w)
    have sz2 := sz.trans x2.z
    have rs2 : RepS K Z2 I' (L2.wipe σ vs) (wipeL l vs) := (rs.mono2 sz2 si).wipe vs
    unfold compGS at e'
    cases zg : gm ds[i] ⟨wipeL l vs, M⟩ with
    | none => rw [zg] at e'; cases e'
    | some s1 =>
      rw [zg] at e'
      refine hg x ds[i] (L2.wipe σ vs) H2 ⟨wipeL l vs, M⟩ s1 Z2 I' _ f2.w rs2 rx zg fun σ3 Z3 H3 I3 w3 rs3 x3 k3 => ?_
      have f3 := f2.step w3 x3
      have sz3 := sz2.trans x3.z
      have si3 := ex_app si x3.i
      refine ⟨(k3 vs hix).trans (wipe_wipe vs vs fun _ h => h), ?_⟩
      have e' : (match t s1 with
        | some (.ok (.p (.bl true)) M1) => match bm ⟨s1.l, M1⟩ bd with
          | some (acc', M2) => compGS (wipeL l vs) gm t bm (ds.drop (i + 1)) acc' M2
          | none => none
        | some (.ok (.p (.bl false)) M1) => compGS (wipeL l vs) gm t bm (ds.drop (i + 1)) bd M1
        | _ => none) = some (ad, Mf) := e'
      cases zt : t s1 with
      | none => rw [zt] at e'; cases e'
      | some rt =>
        rw [zt] at e'
        refine ht.ok σ3 H3 s1 Z3 I3 rt _ w3 rs3 zt ?_
        cases rt with
        | ex c fs M4 => cases e'
        | ok d4 M4 =>
          intro b Z5 H5 I5 w4 x4 r4
          cases (show d4 = .p (.bl b) from r4)
          have f4 := f3.step w4 x4
          have sz4 := sz3.trans x4.z
          have si4 := ex_app si3 x4.i
          cases b with
          | false =>
            rw [if_neg Bool.false_ne_true]
            exact ⟨Z5, I5, M4, acc, bd, f4, sz4, si4, e'⟩
          | true =>
            rw [if_pos rfl]
            have e' : (match bm ⟨s1.l, M4⟩ bd with
              | some (acc', M2) => compGS (wipeL l vs) gm t bm (ds.drop (i + 1)) acc' M2
              | none => none) = some (ad, Mf) := e'
            cases zb : bm ⟨s1.l, M4⟩ bd with
            | none => rw [zb] at e'; cases e'
            | some am =>
              obtain ⟨ad1, M5⟩ := am
              rw [zb] at e'
              exact hb Z1 H1 I1 D hD σ3 s1.l Z5 H5 I5 M4 acc bd ad1 M5 _ (rs3.mono x4) f4 zb fun Z6 H6 I6 acc6 f6 sz6 si6 => ⟨Z6, I6, M5, acc6, ad1, f6, sz4.trans sz6, ex_app si4 si6, e'⟩
  · left
    have e0 : ds.drop i = [] := List.drop_eq_nil_of_le (by omega)
    rw [e0] at e'
    cases e'
    exact ⟨Jo.2 (by omega), k Z' H' I' acc f sz si⟩
def addBS (ek : EM) : BMS := fun s acc => match ek s with
  | some (.ok (.p (.tup ds)) M2) => match intsOf ds with
    | some k => if acc.length < 63 then some (addK acc k, M2) else none
    | none => none
  | _ => none
theorem sb_addS {tk : TE} {ek : EM} (hk : Sound K WF (RepV K) tk ek) : SoundBS P wo K (tbAdd K P wo tk) (addBS ek) := by
  intro Z1 H1 I1 D hD σ l Z H I M acc bd ad Mf Nx rs f e k
  unfold addBS at e
  cases z1 : ek ⟨l, M⟩ with
  | none => simp only [z1] at e; cases e
  | some r1 =>
    refine hk.ok σ H ⟨l, M⟩ Z I r1 _ f.w rs z1 ?_
    cases r1 with
    | ex c fs M2 => simp only [z1] at e; cases e
    | ok d1 M2 =>
      intro y Z2 H2 I2 w2 x2 q2
      have f2 := f.step w2 x2
      cases d1 with
      | o n => simp only [z1] at e; cases e
      | p d1 =>
        cases d1 with
        | tup ds =>
          simp only [z1] at e
          cases z2 : intsOf ds with
          | none => simp only [z2] at e; cases e
          | some kk =>
            simp only [z2] at e
            split at e
            · rename_i hl
              cases e
              have q2 : Rep K Z2 y (.tup ds) := q2
              cases q2 with
              | tup a1 a2 =>
                rename_i x xs
                rw [ints_rep z2 a2] at a1
                have hlen : acc.length = bd.length := by
                  have := ((List.perm_ext_iff_of_nodup f2.nd f2.bn).mpr fun k => (f2.mem k).symm).length_eq
                  rwa [List.length_map] at this
                exact ⟨acc, x, kk, rfl, f2.at_, fun p hp => sqt f2.w.sub (f2.tup p hp), sqt f2.w.sub a1, by omega, fun L' c1 c2 nd => k Z2 _ I2 _ (f2.put hD a1 c1 c2 nd) x2.z x2.i⟩
            · cases e
        | _ => simp only [z1] at e; cases e
def inBS (it1 : IM) (vs1 : List Nat) (g1 : GM) (t1 : EM) (bm : BMS) : BMS := fun s acc => match it1 s with
  | some (.ok ds1 M2) => compGS (wipeL s.l vs1) g1 t1 bm ds1 acc M2
  | _ => none
theorem sb_inS {wi1 : TI} {g1 : TG} {tt1 : TT} {tk : TE} {vs1 ix1 : List Nat} {it1 : IM} {gm1 : GM} {t1 : EM} {bm : BMS} (hi1 : Sound K WF (ItOk K) wi1 it1) (hg1 : HG K g1 gm1 ix1) (hix1 : ∀ i ∈ ix1, i ∈ vs1) (ht1 : Sound K WF RepB tt1 t1) (hb : SoundBS P wo K (tbAdd K P wo tk) bm) :
    SoundBS P wo K (tbInS K P wo wi1 g1 tt1 tk vs1) (inBS it1 vs1 gm1 t1 bm) := by
  intro Z1 H1 I1 D hD σ l Z H I M acc bd ad Mf Nx rs f e k
  unfold inBS at e
  cases z1 : it1 ⟨l, M⟩ with
  | none => simp only [z1] at e; cases e
  | some r1 =>
    refine hi1.ok σ H ⟨l, M⟩ Z I r1 _ f.w rs z1 ?_
    cases r1 with
    | ex c fs M2 => simp only [z1] at e; cases e
    | ok ds1 M2 =>
      intro J1 Z2 H2 I2 w2 x2 q2
      have f2 := f.step w2 x2
      simp only [z1] at e
      exact gloop_okS hg1 hix1 ht1 hb hD q2 (rs.mono x2) f2 e fun Z' H' I' acc' f' sz' si' => k Z' H' I' acc' f' (x2.z.trans sz') (ex_app x2.i si')
def mLenSc (it : IM) (vs : List Nat) (g : GM) (t : EM) (bm : BMS) : EM := bnd it fun ds s => match compGS (wipeL s.l vs) g t bm ds [] s.m with
  | some (acc, M) => some (.ok (.p (.int (acc.length : Nat))) M)
  | none => none
theorem so_lenSc {wi : TI} {g : TG} {tt : TT} {tb : Addr → St → Hp → (Hp → Prop) → Prop} {bm : BMS} {vs ix : List Nat} {it : IM} {gm : GM} {t : EM} (hi : Sound K W (ItOk K) wi it) (hg : HG K g gm ix) (hix : ∀ i ∈ ix, i ∈ vs) (ht : Sound K WF RepB tt t) (hb : SoundBS P wo K tb bm) :
    Sound K W (RepV K) (tCB (rLenT K P wo) (tCons (tScG P wo wi g tt tb vs) tNil)) (mLenSc it vs gm t bm) := ⟨fun σ H s Z I r Q w rs e p => by
  refine hi.bnd w rs e p.x fun ds J M1 Z1 H1 I1 w1 rs1 x1 q1 e1 => ?_
  have e1 : (match compGS (wipeL s.l vs) gm t bm ds [] M1 with | some (acc, M) => some (Rs.ok (DV.p (.int (acc.length : Nat))) M) | none => none) = some r := e1
  cases zc : compGS (wipeL s.l vs) gm t bm ds [] M1 with
  | none => rw [zc] at e1; cases e1
  | some am =>
    obtain ⟨ad, Mf⟩ := am
    rw [zc] at e1
    cases e1
    intro D hD
    have f0 : FillS P wo K Z1 H1 I1 D Z1 (upd H1 D (SetTO P wo D [])) I1 M1 [] [] := by
      refine ⟨⟨fun a u q => by rw [upd_ne (ne_of_none (w1.sub a u q) hD)]; exact w1.sub a u q, w1.len, w1.nd, fun a m => by rw [upd_ne (fun q => w1.tr a m (by rw [q]; exact hD))]; exact w1.tr a m, fun n a o h1 h2 h3 => ?_⟩, ⟨Same.refl _, ⟨[], by simp⟩, fun a o q _ => by rw [upd_ne (ne_of_none q hD)]; exact q, fun _ m => .inl m, fun _ m => .inl m, fun a q => by rw [upd_ne (fun y => q (by rw [y]; exact hD))]; exact q⟩, upd_same, none_of w1.sub hD, fun m => w1.tr D m hD, List.nodup_nil, fun k => Iff.rfl, List.nodup_nil, fun p hp => nomatch hp⟩
      obtain ⟨q1, q2⟩ := w1.ob n a o h1 h2 h3
      exact ⟨q1, q2.mono (Same.refl _) (upd_ne fun q => w1.tr a (List.mem_of_getElem? h1) (by rw [q]; exact hD))⟩
    refine gloop_okS hg hix ht hb hD q1 rs1 f0 zc fun Z' H' I' acc' f' _ _ => ?_
    refine ⟨D, acc', rfl, f'.at_, fun p hp => sqt f'.w.sub (f'.tup p hp), ?_⟩
    have e : acc'.length = ad.length := by
      have := ((List.perm_ext_iff_of_nodup f'.nd f'.bn).mpr fun k => (f'.mem k).symm).length_eq
      rwa [List.length_map] at this
    rw [e]
    exact p _ _ H' _ f'.w (x1.trans f'.x) (.int _)⟩
section
variable {kx tg iter tg1 iter1 : Expr} {ifs ifs1 : List Expr} {scope : Scope} {own : List (Str × Nat)} {p pos pos2 : Pos} {wi wi1 : TI} {g g1 : TG} {tt tt1 : TT} {tk : TE} {it it1 : IM} {gm gm1 : GM} {ix ix1 : List Nat} {t t1 ek : EM}
theorem de_lenSc2 {vs vs1 : List Nat} (hm : X.mg "len" = none) (hu : X.A.units + 3 < cLine) (hN : X.N.Nodup) (hc : X.calm = true) (hi : DI K X W tg iter wi it) (ok : BlkOk X.N X.env.scope scope own) (hg : inBlkD X scope fun Y => DG K Y tg g gm ix) (ht : inBlkD X scope fun Y => DPT K Y ifs tt t)
    (hi1 : inBlkD X scope fun Y => DI K Y WF tg1 iter1 wi1 it1) (hg1 : inBlkD X scope fun Y => DG K Y tg1 g1 gm1 ix1) (ht1 : inBlkD X scope fun Y => DPT K Y ifs1 tt1 t1)
    (hk : inBlkD X scope fun Y => DE K Y WF kx tk ek) (hix : ∀ i ∈ ix, i ∈ own.map (·.2) := by decide) (hix1 : ∀ i ∈ ix1, i ∈ vs1 := by decide) (hv1 : ∀ i ∈ vs1, i ∈ own.map (·.2) := by decide)
    (hs : ∀ x, foldedSetIterable iter X.env x = pure x := by intro _; rfl) (hs1 : ∀ env x, foldedSetIterable iter1 env x = pure x := by intro _ _; rfl) (hvs : own.map (·.2) = vs := by rfl) (hgl : Gl X "len" := by rfl) :
    DE K X W (.Call (.Name "len" p) [.SetComp kx [⟨tg, iter, ifs, 0⟩, ⟨tg1, iter1, ifs1, 0⟩] scope pos] [] pos2) (tCB (rLenT X.K X.prog X.w) (tCons (tScG X.prog X.w wi g tt (tbInS X.K X.prog X.w wi1 g1 tt1 tk vs1) vs) tNil)) (mLenSc it vs gm t (inBS it1 vs1 gm1 t1 (addBS ek))) := by
  subst hvs
  have hk0 := hi.k
  subst hk0
  exact ⟨rfl, pe_callB cr_lenT hgl hm PySem.boot_len (pa_cons (pe_sc2 hu hc hN hi.pi ok hv1 (fun s H C cl fp => (hg s H C cl fp).pg) (fun s H C cl fp => (ht s H C cl fp).pt) (fun s H C cl fp => (hi1 s H C cl fp).pi) (fun s H C cl fp => (hg1 s H C cl fp).pg) (fun s H C cl fp => (ht1 s H C cl fp).pt) (fun s H C cl fp => (hk s H C cl fp).pe) hs hs1) pa_nil),
    so_lenSc hi.so (hg {} (fun _ => none) 0 [] []).ok hix (ht {} (fun _ => none) 0 [] []).so (sb_inS (hi1 {} (fun _ => none) 0 [] []).so (hg1 {} (fun _ => none) 0 [] []).ok hix1 (ht1 {} (fun _ => none) 0 [] []).so (sb_addS (hk {} (fun _ => none) 0 [] []).so))⟩
end
@[simp] theorem e_lenSc (it : IM) (vs : List Nat) (g : GM) (t : EM) (bm : BMS) (s : S) : mLenSc it vs g t bm s = (bnd it fun ds s => match compGS (wipeL s.l vs) g t bm ds [] s.m with | some (acc, M) => some (.ok (.p (.int (acc.length : Nat))) M) | none => none) s := rfl
end
theorem units3 {k : Nat} {A : Around} (r : Room k A) : A.units + 3 < cLine := by have := r.un; omega
theorem units64 {k : Nat} {A : Around} (r : Room k A) : A.units + 64 < cLine := by have := r.un; omega
end DL
namespace Law
open PySem L2 DL
def topS (i : Nat) : Stmt := PySem.Challenge.pw_labelgrid_k04_ranges_taken_apart.main.body.getD i (.Pass ⟨0, 0, 0, 0⟩)
noncomputable def b_l_box : SM := (sSeq (sIf (mOr (mBin dGt (mVar 0) (mVar 2)) (mBin dGt (mVar 1) (mVar 3))) (sRet (disp .lst aNil)) sNil)
  (sRet (disp .lst (aCons (disp .tup (aCons (disp .tup (aCons (mVar 0) (aCons (mVar 1) aNil))) (aCons (disp .tup (aCons (mVar 2) (aCons (mVar 3) aNil))) aNil))) aNil))))
noncomputable def m_l_box : MA := runA 4 b_l_box
noncomputable def b_l_cells : SM := (sSeq (sAsg (mVar 0) (gT 2 (gsCons (gN 1) (gsCons (gN 2) gsNil))))
  (sSeq (sAsg (disp .lst aNil) (gN 3))
  (sSeq (sFor (mRng rng2D (aCons (mIx (mVar 1) (mC (.int 1))) (aCons (mBin dAdd2 (mIx (mVar 2) (mC (.int 1))) (mC (.int 1))) aNil))) (gN 4) (sAsg (mBin dAdd2 (mVar 3) (mLc (mRng rng2D (aCons (mIx (mVar 1) (mC (.int 0))) (aCons (mBin dAdd2 (mIx (mVar 2) (mC (.int 0))) (mC (.int 1))) aNil))) [5] (gN 5) tYesM (disp .tup (aCons (mVar 5) (aCons (mVar 4) aNil))))) (gN 3)))
  (sRet (mVar 3)))))
noncomputable def m_l_cells : MA := runA 6 b_l_cells
noncomputable def b_l_left : SM := (sSeq (sAsg (mLc (mItD itL (mCallA 1 m_l_cells (aCons (mVar 0) aNil))) [12] (gN 12) (mBin dIn (mVar 12) (mCallA 1 m_l_cells (aCons (mVar 1) aNil))) (mVar 12)) (gN 2))
  (sSeq (sIf (mBin dEq (mCB dLen (aCons (mVar 2) aNil)) (mC (.int 0))) (sRet (disp .lst (aCons (mVar 0) aNil))) sNil)
  (sSeq (sPar 3 4 (aCons (mCB (g1 dMinL) (aCons (mLc (mItD itL (mVar 2)) [12] (gN 12) tYesM (mIx (mVar 12) (mC (.int 0)))) aNil)) (aCons (mCB (g1 dMaxL) (aCons (mLc (mItD itL (mVar 2)) [12] (gN 12) tYesM (mIx (mVar 12) (mC (.int 0)))) aNil)) aNil)))
  (sSeq (sPar 5 6 (aCons (mCB (g1 dMinL) (aCons (mLc (mItD itL (mVar 2)) [12] (gN 12) tYesM (mIx (mVar 12) (mC (.int 1)))) aNil)) (aCons (mCB (g1 dMaxL) (aCons (mLc (mItD itL (mVar 2)) [12] (gN 12) tYesM (mIx (mVar 12) (mC (.int 1)))) aNil)) aNil)))
  (sSeq (sAsg (mVar 0) (gT 2 (gsCons (gT 2 (gsCons (gN 7) (gsCons (gN 8) gsNil))) (gsCons (gT 2 (gsCons (gN 9) (gsCons (gN 10) gsNil))) gsNil))))
  (sSeq (sAsg (mBin dAdd2 (mCallA 4 m_l_box (aCons (mVar 7) (aCons (mVar 8) (aCons (mVar 9) (aCons (mBin dSub (mVar 5) (mC (.int 1))) aNil))))) (mCallA 4 m_l_box (aCons (mVar 7) (aCons (mBin dAdd2 (mVar 6) (mC (.int 1))) (aCons (mVar 9) (aCons (mVar 10) aNil)))))) (gN 11))
  (sRet (mBin dAdd2 (mBin dAdd2 (mVar 11) (mCallA 4 m_l_box (aCons (mVar 7) (aCons (mVar 5) (aCons (mBin dSub (mVar 3) (mC (.int 1))) (aCons (mVar 6) aNil)))))) (mCallA 4 m_l_box (aCons (mBin dAdd2 (mVar 4) (mC (.int 1))) (aCons (mVar 5) (aCons (mVar 9) (aCons (mVar 6) aNil)))))))))))))
noncomputable def m_l_left : MA := runA 13 b_l_left
noncomputable def b_l_all : SM := (sSeq (sAsg (disp .lst (aCons (mVar 0) aNil)) (gN 2))
  (sSeq (sFor (mItD itL (mVar 1)) (gN 3) (sSeq (sAsg (disp .lst aNil) (gN 4))
  (sSeq (sFor (mItD itL (mVar 2)) (gN 5) (sAsg (mBin dAdd2 (mVar 4) (mCallA 2 m_l_left (aCons (mVar 5) (aCons (mVar 3) aNil)))) (gN 4)))
  (sAsg (mVar 4) (gN 2)))))
  (sRet (mVar 2))))
noncomputable def m_l_all : MA := runA 6 b_l_all
noncomputable def b_l_take : SM := (sSeq (sIf (mBin dLt (mVar 1) (mC (.int 1))) (sRet (mC (.int 0))) sNil)
  (sSeq (sAsg (mIx (mVar 0) (mC (.int 1))) (gN 2))
  (sSeq (sAsg (mBin dMod (mIx (mVar 0) (mC (.int 0))) (mCB dLen (aCons (mVar 2) aNil))) (gN 3))
  (sSeq (sAsg (mIx (mVar 2) (mVar 3)) (gN 4))
  (sSeq (sIf (mBin dGe (mVar 4) (mC (.int 1000000000000000000))) (sSeq (sAsg (mBin dDiv (mVar 4) (mVar 1)) (gSet (mVar 2) (mVar 3)))
  (sRet (mBin dMod (mVar 4) (mVar 1)))) sNil)
  (sSeq (sAsg (mBin dAdd (mIx (mVar 0) (mC (.int 0))) (mC (.int 1))) (gSet (mVar 0) (mC (.int 0))))
  (sSeq (sAsg (mBin dMod (mCB (g1 dInt) (aCons (mBin dAdd (mBin dMul (mVar 4) (mC (.int 48271))) (mBin dMul (mIx (mVar 0) (mC (.int 0))) (mC (.int 69621)))) aNil)) (mC (.int 2147483647))) (gN 5))
  (sSeq (sAsg (mBin dMod (mCB (g1 dInt) (aCons (mBin dAdd (mBin dMul (mVar 5) (mC (.int 16807))) (mBin dMul (mIx (mVar 0) (mC (.int 0))) (mC (.int 7919)))) aNil)) (mC (.int 1000000007))) (gN 5))
  (sRet (mBin dMod (mBin dDiv (mVar 5) (mC (.int 7))) (mVar 1)))))))))))
noncomputable def m_l_take : List DV → List O → Option (Rs DV) := runB 6 b_l_take
noncomputable def b_l_address : SM := (sSeq (sIf (mTru (mVar 1)) (sRet (disp .tup (aCons (mCallB 2 m_l_take (aCons (mVar 0) (aCons (mC (.int 26)) aNil))) (aCons (mCallB 2 m_l_take (aCons (mVar 0) (aCons (mC (.int 99)) aNil))) aNil)))) sNil)
  (sRet (disp .tup (aCons (mBin dAdd (mC (.int 3)) (mCallB 2 m_l_take (aCons (mVar 0) (aCons (mC (.int 5)) aNil)))) (aCons (mBin dAdd (mC (.int 7)) (mCallB 2 m_l_take (aCons (mVar 0) (aCons (mC (.int 5)) aNil)))) aNil)))))
noncomputable def m_l_address : List DV → List O → Option (Rs DV) := runB 2 b_l_address
noncomputable def b_l_area : SM := (sSeq (sPar 2 3 (aCons (mCallB 2 m_l_address (aCons (mVar 0) (aCons (mVar 1) aNil))) (aCons (mCallB 2 m_l_address (aCons (mVar 0) (aCons (mVar 1) aNil))) aNil)))
  (sSeq (sAsg (disp .tup (aCons (mCB dMin2 (aCons (mIx (mVar 2) (mC (.int 0))) (aCons (mIx (mVar 3) (mC (.int 0))) aNil))) (aCons (mCB dMin2 (aCons (mIx (mVar 2) (mC (.int 1))) (aCons (mIx (mVar 3) (mC (.int 1))) aNil))) aNil))) (gN 4))
  (sRet (disp .tup (aCons (mVar 4) (aCons (disp .tup (aCons (mCB dMax2 (aCons (mIx (mVar 2) (mC (.int 0))) (aCons (mIx (mVar 3) (mC (.int 0))) aNil))) (aCons (mCB dMax2 (aCons (mIx (mVar 2) (mC (.int 1))) (aCons (mIx (mVar 3) (mC (.int 1))) aNil))) aNil))) aNil))))))
noncomputable def m_l_area : List DV → List O → Option (Rs DV) := runB 5 b_l_area
noncomputable def b_l_spread : SM := (sSeq (sAsg (disp .lst aNil) (gN 1))
  (sSeq (sFor (mItD itL (mVar 0)) (gN 2) (sAsg (mBin dAdd2 (mVar 1) (mCallA 1 m_l_cells (aCons (mVar 2) aNil))) (gN 1)))
  (sRet (mCB (g1 dSort) (aCons (mVar 1) aNil)))))
noncomputable def m_l_spread : MA := runA 3 b_l_spread
noncomputable def b_l_state : SM := (sSeq (sAsg (mLcO (mItD itL (mSlE (mVar 0) pNone (pSome (mC (.int 63))))) [2] (gN 2) tYesM (mCB (g1 dAbs) (aCons (mVar 2) aNil))) (gN 1))
  (sSeq (sIf (mBin dEq (mCB dLen (aCons (mVar 1) aNil)) (mC (.int 0))) (sAsg (dispO (aCons (mC (.int 0)) aNil)) (gN 1)) sNil)
  (sRet (dispO (aCons (mC (.int 0)) (aCons (mVar 1) aNil))))))
noncomputable def m_l_state : List DV → List O → Option (Rs DV) := runB 3 b_l_state
noncomputable def b_range_between : SM := (sSeq (sIf (mAnd (mBin dLe (mIx (mVar 0) (mC (.int 0))) (mIx (mVar 1) (mC (.int 0)))) (mBin dLe (mIx (mVar 0) (mC (.int 1))) (mIx (mVar 1) (mC (.int 1))))) (sRet (disp .tup (aCons (mVar 0) (aCons (mVar 1) aNil)))) sNil)
  (sRet (mC .non)))
noncomputable def m_range_between : MA := runA 2 b_range_between
noncomputable def b_common : SM := (sSeq (sAsg (disp .tup (aCons (mCB dMax2 (aCons (mIx (mIx (mVar 0) (mC (.int 0))) (mC (.int 0))) (aCons (mIx (mIx (mVar 1) (mC (.int 0))) (mC (.int 0))) aNil))) (aCons (mCB dMax2 (aCons (mIx (mIx (mVar 0) (mC (.int 0))) (mC (.int 1))) (aCons (mIx (mIx (mVar 1) (mC (.int 0))) (mC (.int 1))) aNil))) aNil))) (gN 2))
  (sSeq (sAsg (disp .tup (aCons (mCB dMin2 (aCons (mIx (mIx (mVar 0) (mC (.int 1))) (mC (.int 0))) (aCons (mIx (mIx (mVar 1) (mC (.int 1))) (mC (.int 0))) aNil))) (aCons (mCB dMin2 (aCons (mIx (mIx (mVar 0) (mC (.int 1))) (mC (.int 1))) (aCons (mIx (mIx (mVar 1) (mC (.int 1))) (mC (.int 1))) aNil))) aNil))) (gN 3))
  (sRet (mCallA 2 m_range_between (aCons (mVar 2) (aCons (mVar 3) aNil))))))
noncomputable def m_common : MA := runA 4 b_common
noncomputable def b_cells_of : SM := (sSeq (sAsg (mVar 0) (gT 2 (gsCons (gT 2 (gsCons (gN 1) (gsCons (gN 2) gsNil))) (gsCons (gT 2 (gsCons (gN 3) (gsCons (gN 4) gsNil))) gsNil))))
  (sRet (mLc2 (mRng rng2D (aCons (mVar 2) (aCons (mBin dAdd (mVar 4) (mC (.int 1))) aNil))) [5, 6] (gN 5) tYesM (mRng rng2D (aCons (mVar 1) (aCons (mBin dAdd (mVar 3) (mC (.int 1))) aNil))) [6] (gN 6) tYesM (disp .tup (aCons (mVar 6) (aCons (mVar 5) aNil))))))
noncomputable def m_cells_of : MA := runA 7 b_cells_of
noncomputable def b_count_of : SM := (sRet (mLenSc (mItD itL (mVar 0)) [1, 2] (gN 1) tYesM (inBS (mItD itL (mCallA 1 m_cells_of (aCons (mVar 1) aNil))) [2] (gN 2) tYesM (addBS (mVar 2)))))
noncomputable def m_count_of : MA := runA 3 b_count_of
noncomputable def b_without_5 : SM := (sRet (mLc (mItD itL (mVar 11)) [12] (gN 12) (mNotN (mCallA 2 m_range_between (aCons (mIx (mVar 12) (mC (.int 0))) (aCons (mIx (mVar 12) (mC (.int 1))) aNil)))) (mVar 12)))
noncomputable def b_without_4 : SM := (sSeq (sAsg (disp .lst (aCons (disp .tup (aCons (disp .tup (aCons (mVar 3) (aCons (mVar 4) aNil))) (aCons (disp .tup (aCons (mVar 5) (aCons (mBin dSub (mVar 8) (mC (.int 1))) aNil))) aNil))) (aCons (disp .tup (aCons (disp .tup (aCons (mVar 3) (aCons (mBin dAdd (mVar 10) (mC (.int 1))) aNil))) (aCons (disp .tup (aCons (mVar 5) (aCons (mVar 6) aNil))) aNil))) (aCons (disp .tup (aCons (disp .tup (aCons (mVar 3) (aCons (mVar 8) aNil))) (aCons (disp .tup (aCons (mBin dSub (mVar 7) (mC (.int 1))) (aCons (mVar 10) aNil))) aNil))) (aCons (disp .tup (aCons (disp .tup (aCons (mBin dAdd (mVar 9) (mC (.int 1))) (aCons (mVar 8) aNil))) (aCons (disp .tup (aCons (mVar 5) (aCons (mVar 10) aNil))) aNil))) aNil))))) (gN 11)) b_without_5)
noncomputable def b_without_3 : SM := (sSeq (sAsg (mVar 2) (gT 2 (gsCons (gT 2 (gsCons (gN 7) (gsCons (gN 8) gsNil))) (gsCons (gT 2 (gsCons (gN 9) (gsCons (gN 10) gsNil))) gsNil)))) b_without_4)
noncomputable def b_without_2 : SM := (sSeq (sAsg (mVar 0) (gT 2 (gsCons (gT 2 (gsCons (gN 3) (gsCons (gN 4) gsNil))) (gsCons (gT 2 (gsCons (gN 5) (gsCons (gN 6) gsNil))) gsNil)))) b_without_3)
noncomputable def b_without_1 : SM := (sSeq (sIf (mIsN (mVar 2)) (sRet (disp .lst (aCons (mVar 0) aNil))) sNil) b_without_2)
noncomputable def b_without : SM := (sSeq (sAsg (mCallA 2 m_common (aCons (mVar 0) (aCons (mVar 1) aNil))) (gN 2)) b_without_1)
noncomputable def m_without : MA := runA 13 b_without
noncomputable def b_without_all : SM := (sSeq (sAsg (disp .lst (aCons (mVar 0) aNil)) (gN 2))
  (sSeq (sFor (mItD itL (mVar 1)) (gN 3) (sAsg (mLc2 (mItD itL (mVar 2)) [4, 5] (gN 4) tYesM (mItD itL (mCallA 2 m_without (aCons (mVar 4) (aCons (mVar 3) aNil)))) [5] (gN 5) tYesM (mVar 5)) (gN 2)))
  (sRet (mVar 2))))
noncomputable def m_without_all : MA := runA 6 b_without_all
noncomputable def b_covered : SM := (sRet (mBin dEq (mCallA 2 m_without_all (aCons (mVar 0) (aCons (mVar 1) aNil))) (disp .lst aNil)))
noncomputable def m_covered : MA := runA 2 b_covered
noncomputable def b_disjoint : SM := (sSeq (sAsg (dispO aNil) (gN 1))
  (sSeq (sFor (mEnum (aCons (mVar 0) aNil)) (gT 2 (gsCons (gN 2) (gsCons (gN 3) gsNil))) (sExpr (mMth "list" gExt (mVar 1) (aCons (mCallA 2 m_without_all (aCons (mVar 3) (aCons (mSlE (mVar 0) pNone (pSome (mVar 2))) aNil))) aNil))))
  (sRet (mFrz (mVar 1)))))
noncomputable def m_disjoint : MA := runA 4 b_disjoint
noncomputable def b_law_17 : SM := (sRet (mAnd (mBin dEq (mCB (g1 dRepr) (aCons (mVar 2) aNil)) (mVar 5)) (mAnd (mBin dEq (mCallA 1 m_disjoint (aCons (disp .lst aNil) aNil)) (disp .lst aNil)) (mBin dEq (mCallA 1 m_count_of (aCons (disp .lst aNil) aNil)) (mC (.int 0))))))
noncomputable def b_law_16 : SM := (sSeq (sIf (mOr (mBin dNe (mCB (g1 dRepr) (aCons (mCallA 2 m_covered (aCons (mVar 3) (aCons (mSlE (mVar 2) (pSome (mC (.int 1))) pNone) aNil))) aNil)) (mCB (g1 dRepr) (aCons (mBin dEq (mCB dLen (aCons (mVar 8) aNil)) (mC (.int 0))) aNil))) (mBin dIsN (mCallA 2 m_covered (aCons (mVar 3) (aCons (mVar 2) aNil))) (mC (.bl true)))) (sRet (mC (.bl false))) sNil) b_law_17)
noncomputable def b_law_15 : SM := (sSeq (sIf (mOr (mBin dNe (mCallA 1 m_disjoint (aCons (mVar 2) aNil)) (mVar 10)) (mOr (mBin dNe (mCallA 1 m_l_spread (aCons (mCallA 1 m_disjoint (aCons (mVar 2) aNil)) aNil)) (mVar 12)) (mBin dNe (mCallA 1 m_count_of (aCons (mVar 2) aNil)) (mCB dLen (aCons (mVar 12) aNil))))) (sRet (mC (.bl false))) sNil) b_law_16)
noncomputable def b_law_14 : SM := (sSeq (sAsg (mUn dSortSet (mCallA 1 m_l_spread (aCons (mVar 2) aNil))) (gN 12)) b_law_15)
noncomputable def b_law_13 : SM := (sSeq (sFor (mRng rng1D (aCons (mCB dLen (aCons (mVar 2) aNil)) aNil)) (gN 11) (sAsg (mBin dAdd2 (mVar 10) (mCallA 2 m_l_all (aCons (mIx (mVar 2) (mVar 11)) (aCons (mSlE (mVar 2) pNone (pSome (mVar 11))) aNil)))) (gN 10))) b_law_14)
noncomputable def b_law_12 : SM := (sSeq (sAsg (disp .lst aNil) (gN 10)) b_law_13)
noncomputable def b_law_11 : SM := (sSeq (sIf (mBin dNe (mCallA 1 m_l_spread (aCons (mVar 8) aNil)) (mCB (g1 dSort) (aCons (mLc (mItD itL (mCallA 1 m_l_cells (aCons (mVar 3) aNil))) [13] (gN 13) (mBin dNin (mVar 13) (mVar 9)) (mVar 13)) aNil))) (sRet (mC (.bl false))) sNil) b_law_12)
noncomputable def b_law_10 : SM := (sSeq (sAsg (mCallA 1 m_l_spread (aCons (mSlE (mVar 2) (pSome (mC (.int 1))) pNone) aNil)) (gN 9)) b_law_11)
noncomputable def b_law_9 : SM := (sSeq (sIf (mOr (mBin dNe (mVar 8) (mCallA 2 m_l_all (aCons (mVar 3) (aCons (mSlE (mVar 2) (pSome (mC (.int 1))) pNone) aNil)))) (mBin dNe (mCallA 2 m_without_all (aCons (mVar 3) (aCons (disp .lst aNil) aNil))) (disp .lst (aCons (mVar 3) aNil)))) (sRet (mC (.bl false))) sNil) b_law_10)
noncomputable def b_law_8 : SM := (sSeq (sAsg (mCallA 2 m_without_all (aCons (mVar 3) (aCons (mSlE (mVar 2) (pSome (mC (.int 1))) pNone) aNil))) (gN 8)) b_law_9)
noncomputable def b_law_7 : SM := (sSeq (sIf (mBin dNe (mCallA 2 m_without (aCons (mVar 3) (aCons (mVar 4) aNil))) (mCallA 2 m_l_left (aCons (mVar 3) (aCons (mVar 4) aNil)))) (sRet (mC (.bl false))) sNil) b_law_8)
noncomputable def b_law_6 : SM := (sSeq (sIf (mOr (mBin dNe (mIsN (mVar 7)) (mBin dEq (mCB dLen (aCons (mVar 6) aNil)) (mC (.int 0)))) (mAnd (mNotN (mVar 7)) (mBin dNe (mCallA 1 m_l_cells (aCons (mVar 7) aNil)) (mVar 6)))) (sRet (mC (.bl false))) sNil) b_law_7)
noncomputable def b_law_5 : SM := (sSeq (sAsg (mCallA 2 m_common (aCons (mVar 3) (aCons (mVar 4) aNil))) (gN 7)) b_law_6)
noncomputable def b_law_4 : SM := (sSeq (sAsg (mLc (mItD itL (mCallA 1 m_l_cells (aCons (mVar 3) aNil))) [13] (gN 13) (mBin dIn (mVar 13) (mCallA 1 m_l_cells (aCons (mVar 4) aNil))) (mVar 13)) (gN 6)) b_law_5)
noncomputable def b_law_3 : SM := (sSeq (sAsg (mCB (g1 dRepr) (aCons (mVar 2) aNil)) (gN 5)) b_law_4)
noncomputable def b_law_2 : SM := (sSeq (sAsg (disp .tup (aCons (mIx (mVar 2) (mC (.int 0))) (aCons (mIx (mVar 2) (mC (.int 1))) aNil))) (gT 2 (gsCons (gN 3) (gsCons (gN 4) gsNil)))) b_law_3)
noncomputable def b_law_1 : SM := (sSeq (sAsg (mLc (mRng rng1D (aCons (mBin dAdd2 (mC (.int 2)) (mCallB 2 m_l_take (aCons (mVar 1) (aCons (mC (.int 4)) aNil)))) aNil)) [11] (gN 11) tYesM (mCallB 2 m_l_area (aCons (mVar 1) (aCons (mC (.bl false)) aNil)))) (gN 2)) b_law_2)
noncomputable def b_law : SM := (sSeq (sAsg (mCallB 1 m_l_state (aCons (mVar 0) aNil)) (gN 1)) b_law_1)
end Law
namespace Law
open PySem L2 DL
abbrev s_l_box : Stmt := topS 15
abbrev n_l_box : List Str := ["left", "top", "right", "bottom"]
theorem sc_l_box : FnScope n_l_box ["left", "top", "right", "bottom"] (defScope s_l_box) := ⟨rfl, rfl, rfl, by decide +kernel, rfl, by decide +kernel, by decide +kernel⟩
abbrev s_l_cells : Stmt := topS 14
abbrev n_l_cells : List Str := ["area", "first", "last", "found", "row", "column"]
theorem sc_l_cells : FnScope n_l_cells ["area"] (defScope s_l_cells) := ⟨rfl, rfl, rfl, by decide +kernel, rfl, by decide +kernel, by decide +kernel⟩
abbrev s_l_left : Stmt := topS 16
abbrev n_l_left : List Str := ["area", "other", "both", "a", "c", "b", "d", "left", "top", "right", "bottom", "rows", "cell"]
theorem sc_l_left : FnScope n_l_left ["area", "other"] (defScope s_l_left) := ⟨rfl, rfl, rfl, by decide +kernel, rfl, by decide +kernel, by decide +kernel⟩
abbrev s_l_all : Stmt := topS 17
abbrev n_l_all : List Str := ["area", "others", "parts", "other", "longer", "part"]
theorem sc_l_all : FnScope n_l_all ["area", "others"] (defScope s_l_all) := ⟨rfl, rfl, rfl, by decide +kernel, rfl, by decide +kernel, by decide +kernel⟩
abbrev s_l_take : Stmt := topS 11
abbrev n_l_take : List Str := ["state", "most", "cells", "at", "cell", "mixed"]
theorem sc_l_take : FnScope n_l_take ["state", "most"] (defScope s_l_take) := ⟨rfl, rfl, rfl, by decide +kernel, rfl, by decide +kernel, by decide +kernel⟩
abbrev s_l_address : Stmt := topS 12
abbrev n_l_address : List Str := ["state", "wide"]
theorem sc_l_address : FnScope n_l_address ["state", "wide"] (defScope s_l_address) := ⟨rfl, rfl, rfl, by decide +kernel, rfl, by decide +kernel, by decide +kernel⟩
abbrev s_l_area : Stmt := topS 13
abbrev n_l_area : List Str := ["state", "wide", "one", "two", "first"]
theorem sc_l_area : FnScope n_l_area ["state", "wide"] (defScope s_l_area) := ⟨rfl, rfl, rfl, by decide +kernel, rfl, by decide +kernel, by decide +kernel⟩
abbrev s_l_spread : Stmt := topS 18
abbrev n_l_spread : List Str := ["areas", "found", "area"]
theorem sc_l_spread : FnScope n_l_spread ["areas"] (defScope s_l_spread) := ⟨rfl, rfl, rfl, by decide +kernel, rfl, by decide +kernel, by decide +kernel⟩
abbrev s_l_state : Stmt := topS 10
abbrev n_l_state : List Str := ["script", "cells", "cell"]
theorem sc_l_state : FnScope n_l_state ["script"] (defScope s_l_state) := ⟨rfl, rfl, rfl, by decide +kernel, rfl, by decide +kernel, by decide +kernel⟩
abbrev s_range_between : Stmt := topS 1
abbrev n_range_between : List Str := ["first", "last"]
theorem sc_range_between : FnScope n_range_between ["first", "last"] (defScope s_range_between) := ⟨rfl, rfl, rfl, by decide +kernel, rfl, by decide +kernel, by decide +kernel⟩
abbrev s_common : Stmt := topS 3
abbrev n_common : List Str := ["area", "other", "first", "last"]
theorem sc_common : FnScope n_common ["area", "other"] (defScope s_common) := ⟨rfl, rfl, rfl, by decide +kernel, rfl, by decide +kernel, by decide +kernel⟩
abbrev s_cells_of : Stmt := topS 2
abbrev n_cells_of : List Str := ["area", "left", "top", "right", "bottom", "row", "column"]
theorem sc_cells_of : FnScope n_cells_of ["area"] (defScope s_cells_of) := ⟨rfl, rfl, rfl, by decide +kernel, rfl, by decide +kernel, by decide +kernel⟩
abbrev s_count_of : Stmt := topS 8
abbrev n_count_of : List Str := ["areas", "area", "address"]
theorem sc_count_of : FnScope n_count_of ["areas"] (defScope s_count_of) := ⟨rfl, rfl, rfl, by decide +kernel, rfl, by decide +kernel, by decide +kernel⟩
abbrev s_without : Stmt := topS 4
abbrev n_without : List Str := ["area", "other", "shared", "left", "top", "right", "bottom", "near", "high", "far", "low", "parts", "part"]
theorem sc_without : FnScope n_without ["area", "other"] (defScope s_without) := ⟨rfl, rfl, rfl, by decide +kernel, rfl, by decide +kernel, by decide +kernel⟩
abbrev s_without_all : Stmt := topS 5
abbrev n_without_all : List Str := ["area", "others", "parts", "other", "part", "left"]
theorem sc_without_all : FnScope n_without_all ["area", "others"] (defScope s_without_all) := ⟨rfl, rfl, rfl, by decide +kernel, rfl, by decide +kernel, by decide +kernel⟩
abbrev s_covered : Stmt := topS 7
abbrev n_covered : List Str := ["area", "areas"]
theorem sc_covered : FnScope n_covered ["area", "areas"] (defScope s_covered) := ⟨rfl, rfl, rfl, by decide +kernel, rfl, by decide +kernel, by decide +kernel⟩
abbrev s_disjoint : Stmt := topS 6
abbrev n_disjoint : List Str := ["areas", "parts", "index", "area"]
theorem sc_disjoint : FnScope n_disjoint ["areas"] (defScope s_disjoint) := ⟨rfl, rfl, rfl, by decide +kernel, rfl, by decide +kernel, by decide +kernel⟩
abbrev s_law : Stmt := topS 19
abbrev n_law : List Str := ["script", "state", "areas", "area", "other", "kept", "both", "told", "rest", "others", "due", "k", "everything", "cell"]
theorem sc_law : FnScope n_law ["script"] (defScope s_law) := ⟨rfl, rfl, rfl, by decide +kernel, rfl, by decide +kernel, by decide +kernel⟩
structure Tx (K : PySem.W.Frag) (w : World) (mg : Str → Option Value) where
  f__law_box : Df K mg "_law_box" s_l_box ["left", "top", "right", "bottom"]
  f__law_cells : Df K mg "_law_cells" s_l_cells ["area"]
  f__law_left : Df K mg "_law_left" s_l_left ["area", "other"]
  f__law_all : Df K mg "_law_all" s_l_all ["area", "others"]
  f__law_take : Df K mg "_law_take" s_l_take ["state", "most"]
  f__law_address : Df K mg "_law_address" s_l_address ["state", "wide"]
  f__law_area : Df K mg "_law_area" s_l_area ["state", "wide"]
  f__law_spread : Df K mg "_law_spread" s_l_spread ["areas"]
  f__law_state : Df K mg "_law_state" s_l_state ["script"]
  f_range_between : Df K mg "range_between" s_range_between ["first", "last"]
  f_common : Df K mg "common" s_common ["area", "other"]
  f_cells_of : Df K mg "cells_of" s_cells_of ["area"]
  f_count_of : Df K mg "count_of" s_count_of ["areas"]
  f_without : Df K mg "without" s_without ["area", "other"]
  f_without_all : Df K mg "without_all" s_without_all ["area", "others"]
  f_covered : Df K mg "covered" s_covered ["area", "areas"]
  f_disjoint : Df K mg "disjoint" s_disjoint ["areas"]
  f_law : Df K mg "law" s_law ["script"]
  n_abs : mg "abs" = none
  n_enumerate : mg "enumerate" = none
  n_int : mg "int" = none
  n_len : mg "len" = none
  n_max : mg "max" = none
  n_min : mg "min" = none
  n_range : mg "range" = none
  n_repr : mg "repr" = none
  n_set : mg "set" = none
  n_sorted : mg "sorted" = none
section
variable {P : Program} {w : World} {K : PySem.W.Frag} {mg : Str → Option Value} {base : Heap}
theorem ok_l_box (T : Tx K w mg) : FnOk P w K mg base (L2.CX P w) 1 T.f__law_box.a T.f__law_box.fd ["left", "top", "right", "bottom"] (spA K 4 m_l_box) := by
  refine fnA (N := n_l_box) T.f__law_box.F sc_l_box fun cdv A outer s H E hr => ?_
  have nd := sc_l_box.nd
  have tk := takes_of (X := cxOf (L2.CX P w) P w K mg base n_l_box "_law_box" (defScope s_l_box) T.f__law_box.a cdv A outer s H E) (E := E) rfl rfl rfl rfl
  exact ⟨_, (dss_cons (ds_if (dt_w (dw_or (dt_cmp od_gt bool_dIb (de_var 0) (de_var 2)) (dw_or1 (dt_cmp od_gt bool_dIb (de_var 1) (de_var 3))))) (dss_one (ds_ret (de_lst da_nil))) dss_nil)
  (dss_one (ds_ret (de_lst (da_cons (de_tup (da_cons (de_tup (da_cons (de_var 0) (da_cons (de_var 1) da_nil))) (da_cons (de_tup (da_cons (de_var 2) (da_cons (de_var 3) da_nil))) da_nil))) da_nil)))))⟩
theorem ok_l_cells (T : Tx K w mg) : FnOk P w K mg base (L2.CX P w) 1 T.f__law_cells.a T.f__law_cells.fd ["area"] (spA K 1 m_l_cells) := by
  refine fnA (N := n_l_cells) T.f__law_cells.F sc_l_cells fun cdv A outer s H E hr => ?_
  have nd := sc_l_cells.nd
  have tk := takes_of (X := cxOf (L2.CX P w) P w K mg base n_l_cells "_law_cells" (defScope s_l_cells) T.f__law_cells.a cdv A outer s H E) (E := E) rfl rfl rfl rfl
  exact ⟨_, (dss_cons (ds_asg (de_var 0) (dg_tup rfl (dgs_cons (dg_name (i := 1) nd) (dgs_cons (dg_name (i := 2) nd) dgs_nil))))
  (dss_cons (ds_set (i := 3) nd (de_lst da_nil))
  (dss_cons (ds_for (passes_of rfl) rfl (di_range2 T.n_range (da_cons (de_ix (de_var 1) de_int) (da_cons (de_bin od_add2 (de_ix (de_var 2) de_int) de_int) da_nil))) (dg_name (i := 4) nd) (dss_one (ds_set (i := 3) nd (de_bin od_add2 (de_var 3) (de_lc nd rfl (di_range2 T.n_range (da_cons (de_ix (de_var 1) de_int) (da_cons (de_bin od_add2 (de_ix (de_var 2) de_int) de_int) da_nil))) (blkOk_by (own := [((PySem.Str.ofString "column"), 5)]) (N := n_l_cells) (sc := defScope s_l_cells) (by decide +kernel)) (fun _ _ _ _ _ => (dg_name (i := 5) nd)) (fun _ _ _ _ _ => dpt_nil) (fun _ _ _ _ _ => (de_tup (da_cons (de_var 5) (da_cons (de_var 4) da_nil)))))))))
  (dss_one (ds_ret (de_var 3))))))⟩
theorem ok_l_left (T : Tx K w mg) : FnOk P w K mg base (L2.CX P w) 2 T.f__law_left.a T.f__law_left.fd ["area", "other"] (spA K 2 m_l_left) := by
  refine fnA (N := n_l_left) T.f__law_left.F sc_l_left fun cdv A outer s H E hr => ?_
  have nd := sc_l_left.nd
  have tk := takes_of (X := cxOf (L2.CX P w) P w K mg base n_l_left "_law_left" (defScope s_l_left) T.f__law_left.a cdv A outer s H E) (E := E) rfl rfl rfl rfl
  exact ⟨_, (dss_cons (ds_setLc (i := 2) nd rfl (di_list (de_callA ((ok_l_cells T).mono (by decide)) hr tk T.f__law_cells.m T.f__law_cells.F.kp T.f__law_cells.b (da_cons (de_var 0) da_nil))) (blkOk_by (own := [((PySem.Str.ofString "cell"), 12)]) (N := n_l_left) (sc := defScope s_l_left) (by decide +kernel)) (fun _ _ _ _ _ => (dg_name (i := 12) nd)) (fun _ _ _ _ _ => (dpt_one (dt_cmp (od_in (units65 hr)) bool_dIn (de_var 12) (de_callA ((ok_l_cells T).mono (by decide)) hr takes0 T.f__law_cells.m T.f__law_cells.F.kp T.f__law_cells.b (da_cons (de_var 1) da_nil))))) (fun _ _ _ _ _ => (de_var 12)))
  (dss_cons (ds_if (dt_cmp (od_eq hr.units) bool_dEq (de_callB cd_len T.n_len (da_cons (de_var 2) da_nil)) de_int) (dss_one (ds_ret (de_lst (da_cons (de_var 0) da_nil)))) dss_nil)
  (dss_cons (ds_par (i := 3) (j := 4) rfl nd (da_cons (de_callB (cd_minL rfl) T.n_min (da_cons (de_lc nd rfl (di_list (de_var 2)) (blkOk_by (own := [((PySem.Str.ofString "cell"), 12)]) (N := n_l_left) (sc := defScope s_l_left) (by decide +kernel)) (fun _ _ _ _ _ => (dg_name (i := 12) nd)) (fun _ _ _ _ _ => dpt_nil) (fun _ _ _ _ _ => (de_ix (de_var 12) de_int))) da_nil)) (da_cons (de_callB (cd_maxL rfl) T.n_max (da_cons (de_lc nd rfl (di_list (de_var 2)) (blkOk_by (own := [((PySem.Str.ofString "cell"), 12)]) (N := n_l_left) (sc := defScope s_l_left) (by decide +kernel)) (fun _ _ _ _ _ => (dg_name (i := 12) nd)) (fun _ _ _ _ _ => dpt_nil) (fun _ _ _ _ _ => (de_ix (de_var 12) de_int))) da_nil)) da_nil)))
  (dss_cons (ds_par (i := 5) (j := 6) rfl nd (da_cons (de_callB (cd_minL rfl) T.n_min (da_cons (de_lc nd rfl (di_list (de_var 2)) (blkOk_by (own := [((PySem.Str.ofString "cell"), 12)]) (N := n_l_left) (sc := defScope s_l_left) (by decide +kernel)) (fun _ _ _ _ _ => (dg_name (i := 12) nd)) (fun _ _ _ _ _ => dpt_nil) (fun _ _ _ _ _ => (de_ix (de_var 12) de_int))) da_nil)) (da_cons (de_callB (cd_maxL rfl) T.n_max (da_cons (de_lc nd rfl (di_list (de_var 2)) (blkOk_by (own := [((PySem.Str.ofString "cell"), 12)]) (N := n_l_left) (sc := defScope s_l_left) (by decide +kernel)) (fun _ _ _ _ _ => (dg_name (i := 12) nd)) (fun _ _ _ _ _ => dpt_nil) (fun _ _ _ _ _ => (de_ix (de_var 12) de_int))) da_nil)) da_nil)))
  (dss_cons (ds_asg (de_var 0) (dg_tup rfl (dgs_cons (dg_tup rfl (dgs_cons (dg_name (i := 7) nd) (dgs_cons (dg_name (i := 8) nd) dgs_nil))) (dgs_cons (dg_tup rfl (dgs_cons (dg_name (i := 9) nd) (dgs_cons (dg_name (i := 10) nd) dgs_nil))) dgs_nil))))
  (dss_cons (ds_set (i := 11) nd (de_bin od_add2 (de_callA ((ok_l_box T).mono (by decide)) hr tk T.f__law_box.m T.f__law_box.F.kp T.f__law_box.b (da_cons (de_var 7) (da_cons (de_var 8) (da_cons (de_var 9) (da_cons (de_bin od_sub (de_var 5) de_int) da_nil))))) (de_callA ((ok_l_box T).mono (by decide)) hr tk T.f__law_box.m T.f__law_box.F.kp T.f__law_box.b (da_cons (de_var 7) (da_cons (de_bin od_add2 (de_var 6) de_int) (da_cons (de_var 9) (da_cons (de_var 10) da_nil)))))))
  (dss_one (ds_ret (de_bin od_add2 (de_bin od_add2 (de_var 11) (de_callA ((ok_l_box T).mono (by decide)) hr tk T.f__law_box.m T.f__law_box.F.kp T.f__law_box.b (da_cons (de_var 7) (da_cons (de_var 5) (da_cons (de_bin od_sub (de_var 3) de_int) (da_cons (de_var 6) da_nil)))))) (de_callA ((ok_l_box T).mono (by decide)) hr tk T.f__law_box.m T.f__law_box.F.kp T.f__law_box.b (da_cons (de_bin od_add2 (de_var 4) de_int) (da_cons (de_var 5) (da_cons (de_var 9) (da_cons (de_var 6) da_nil))))))))))))))⟩
theorem ok_l_all (T : Tx K w mg) : FnOk P w K mg base (L2.CX P w) 3 T.f__law_all.a T.f__law_all.fd ["area", "others"] (spA K 2 m_l_all) := by
  refine fnA (N := n_l_all) T.f__law_all.F sc_l_all fun cdv A outer s H E hr => ?_
  have nd := sc_l_all.nd
  have tk := takes_of (X := cxOf (L2.CX P w) P w K mg base n_l_all "_law_all" (defScope s_l_all) T.f__law_all.a cdv A outer s H E) (E := E) rfl rfl rfl rfl
  exact ⟨_, (dss_cons (ds_set (i := 2) nd (de_lst (da_cons (de_var 0) da_nil)))
  (dss_cons (ds_for (passes_of rfl) rfl (di_list (de_var 1)) (dg_name (i := 3) nd) (dss_cons (ds_set (i := 4) nd (de_lst da_nil))
  (dss_cons (ds_for (passes_of rfl) rfl (di_list (de_var 2)) (dg_name (i := 5) nd) (dss_one (ds_set (i := 4) nd (de_bin od_add2 (de_var 4) (de_callA ((ok_l_left T).mono (by decide)) hr tk T.f__law_left.m T.f__law_left.F.kp T.f__law_left.b (da_cons (de_var 5) (da_cons (de_var 3) da_nil)))))))
  (dss_one (ds_set (i := 2) nd (de_var 4))))))
  (dss_one (ds_ret (de_var 2)))))⟩
theorem ok_l_take (T : Tx K w mg) : FnOk P w K mg base (L2.CX P w) 1 T.f__law_take.a T.f__law_take.fd ["state", "most"] (spB K 2 m_l_take) := by
  refine fnB (N := n_l_take) T.f__law_take.F sc_l_take fun cdv A outer s H E hr => ?_
  have nd := sc_l_take.nd
  have tk := takes_of (X := cxOf (L2.CX P w) P w K mg base n_l_take "_law_take" (defScope s_l_take) T.f__law_take.a cdv A outer s H E) (E := E) rfl rfl rfl rfl
  exact ⟨_, (dss_cons (ds_if (dt_cmp od_lt bool_dIb (de_var 1) de_int) (dss_one (ds_ret de_int)) dss_nil)
  (dss_cons (ds_set (i := 2) nd (de_ix (de_var 0) de_int))
  (dss_cons (ds_set (i := 3) nd (de_bin od_mod (de_ix (de_var 0) de_int) (de_callB cd_len T.n_len (da_cons (de_var 2) da_nil))))
  (dss_cons (ds_set (i := 4) nd (de_ix (de_var 2) (de_var 3)))
  (dss_cons (ds_if (dt_cmp od_ge bool_dIb (de_var 4) de_int) (dss_cons (ds_asg (de_bin od_fdiv (de_var 4) (de_var 1)) (dg_set (de_var 2) (de_var 3)))
  (dss_one (ds_ret (de_bin od_mod (de_var 4) (de_var 1))))) dss_nil)
  (dss_cons (ds_asg (de_bin od_add (de_ix (de_var 0) de_int) de_int) (dg_set (de_var 0) de_int))
  (dss_cons (ds_set (i := 5) nd (de_bin od_mod (de_callTy cd_int T.n_int (da_cons (de_bin od_add (de_bin od_mul (de_var 4) de_int) (de_bin od_mul (de_ix (de_var 0) de_int) de_int)) da_nil)) de_int))
  (dss_cons (ds_set (i := 5) nd (de_bin od_mod (de_callTy cd_int T.n_int (da_cons (de_bin od_add (de_bin od_mul (de_var 5) de_int) (de_bin od_mul (de_ix (de_var 0) de_int) de_int)) da_nil)) de_int))
  (dss_one (ds_ret (de_bin od_mod (de_bin od_fdiv (de_var 5) de_int) (de_var 1))))))))))))⟩
theorem ok_l_address (T : Tx K w mg) : FnOk P w K mg base (L2.CX P w) 2 T.f__law_address.a T.f__law_address.fd ["state", "wide"] (spB K 2 m_l_address) := by
  refine fnB (N := n_l_address) T.f__law_address.F sc_l_address fun cdv A outer s H E hr => ?_
  have nd := sc_l_address.nd
  have tk := takes_of (X := cxOf (L2.CX P w) P w K mg base n_l_address "_law_address" (defScope s_l_address) T.f__law_address.a cdv A outer s H E) (E := E) rfl rfl rfl rfl
  exact ⟨_, (dss_cons (ds_if (dt_tru (de_var 1)) (dss_one (ds_ret (de_tup (da_cons (de_callB' ((ok_l_take T).mono (by decide)) hr tk T.f__law_take.m T.f__law_take.F.kp T.f__law_take.b (da_cons (de_var 0) (da_cons de_int da_nil))) (da_cons (de_callB' ((ok_l_take T).mono (by decide)) hr tk T.f__law_take.m T.f__law_take.F.kp T.f__law_take.b (da_cons (de_var 0) (da_cons de_int da_nil))) da_nil))))) dss_nil)
  (dss_one (ds_ret (de_tup (da_cons (de_bin od_add de_int (de_callB' ((ok_l_take T).mono (by decide)) hr tk T.f__law_take.m T.f__law_take.F.kp T.f__law_take.b (da_cons (de_var 0) (da_cons de_int da_nil)))) (da_cons (de_bin od_add de_int (de_callB' ((ok_l_take T).mono (by decide)) hr tk T.f__law_take.m T.f__law_take.F.kp T.f__law_take.b (da_cons (de_var 0) (da_cons de_int da_nil)))) da_nil))))))⟩
theorem ok_l_area (T : Tx K w mg) : FnOk P w K mg base (L2.CX P w) 3 T.f__law_area.a T.f__law_area.fd ["state", "wide"] (spB K 2 m_l_area) := by
  refine fnB (N := n_l_area) T.f__law_area.F sc_l_area fun cdv A outer s H E hr => ?_
  have nd := sc_l_area.nd
  have tk := takes_of (X := cxOf (L2.CX P w) P w K mg base n_l_area "_law_area" (defScope s_l_area) T.f__law_area.a cdv A outer s H E) (E := E) rfl rfl rfl rfl
  exact ⟨_, (dss_cons (ds_par (i := 2) (j := 3) rfl nd (da_cons (de_callB' ((ok_l_address T).mono (by decide)) hr tk T.f__law_address.m T.f__law_address.F.kp T.f__law_address.b (da_cons (de_var 0) (da_cons (de_var 1) da_nil))) (da_cons (de_callB' ((ok_l_address T).mono (by decide)) hr tk T.f__law_address.m T.f__law_address.F.kp T.f__law_address.b (da_cons (de_var 0) (da_cons (de_var 1) da_nil))) da_nil)))
  (dss_cons (ds_set (i := 4) nd (de_tup (da_cons (de_callB (cd_min2 rfl) T.n_min (da_cons (de_ix (de_var 2) de_int) (da_cons (de_ix (de_var 3) de_int) da_nil))) (da_cons (de_callB (cd_min2 rfl) T.n_min (da_cons (de_ix (de_var 2) de_int) (da_cons (de_ix (de_var 3) de_int) da_nil))) da_nil))))
  (dss_one (ds_ret (de_tup (da_cons (de_var 4) (da_cons (de_tup (da_cons (de_callB (cd_max2 rfl) T.n_max (da_cons (de_ix (de_var 2) de_int) (da_cons (de_ix (de_var 3) de_int) da_nil))) (da_cons (de_callB (cd_max2 rfl) T.n_max (da_cons (de_ix (de_var 2) de_int) (da_cons (de_ix (de_var 3) de_int) da_nil))) da_nil))) da_nil)))))))⟩
theorem ok_l_spread (T : Tx K w mg) : FnOk P w K mg base (L2.CX P w) 2 T.f__law_spread.a T.f__law_spread.fd ["areas"] (spA K 1 m_l_spread) := by
  refine fnA (N := n_l_spread) T.f__law_spread.F sc_l_spread fun cdv A outer s H E hr => ?_
  have nd := sc_l_spread.nd
  have tk := takes_of (X := cxOf (L2.CX P w) P w K mg base n_l_spread "_law_spread" (defScope s_l_spread) T.f__law_spread.a cdv A outer s H E) (E := E) rfl rfl rfl rfl
  exact ⟨_, (dss_cons (ds_set (i := 1) nd (de_lst da_nil))
  (dss_cons (ds_for (passes_of rfl) rfl (di_list (de_var 0)) (dg_name (i := 2) nd) (dss_one (ds_set (i := 1) nd (de_bin od_add2 (de_var 1) (de_callA ((ok_l_cells T).mono (by decide)) hr tk T.f__law_cells.m T.f__law_cells.F.kp T.f__law_cells.b (da_cons (de_var 2) da_nil))))))
  (dss_one (ds_ret (de_callB (cd_sort (units67 hr)) T.n_sorted (da_cons (de_var 1) da_nil))))))⟩
theorem ok_l_state (T : Tx K w mg) : FnOk P w K mg base (L2.CX P w) 1 T.f__law_state.a T.f__law_state.fd ["script"] (spB K 1 m_l_state) := by
  refine fnB (N := n_l_state) T.f__law_state.F sc_l_state fun cdv A outer s H E hr => ?_
  have nd := sc_l_state.nd
  have tk := takes_of (X := cxOf (L2.CX P w) P w K mg base n_l_state "_law_state" (defScope s_l_state) T.f__law_state.a cdv A outer s H E) (E := E) rfl rfl rfl rfl
  exact ⟨_, (dss_cons (ds_setLcO (i := 1) nd rfl (di_list (de_sl (de_var 0) dp_none (dp_some de_int))) (blkOk_by (own := [((PySem.Str.ofString "cell"), 2)]) (N := n_l_state) (sc := defScope s_l_state) (by decide +kernel)) (fun _ _ _ _ _ => (dg_name (i := 2) nd)) (fun _ _ _ _ _ => dpt_nil) (fun _ _ _ _ _ => (de_callB cd_abs T.n_abs (da_cons (de_var 2) da_nil))))
  (dss_cons (ds_if (dt_cmp (od_eq hr.units) bool_dEq (de_callB cd_len T.n_len (da_cons (de_var 1) da_nil)) de_int) (dss_one (ds_set (i := 1) nd (de_lstO (da_cons de_int da_nil)))) dss_nil)
  (dss_one (ds_ret (de_lstO (da_cons de_int (da_cons (de_var 1) da_nil)))))))⟩
theorem ok_range_between (T : Tx K w mg) : FnOk P w K mg base (L2.CX P w) 1 T.f_range_between.a T.f_range_between.fd ["first", "last"] (spA K 2 m_range_between) := by
  refine fnA (N := n_range_between) T.f_range_between.F sc_range_between fun cdv A outer s H E hr => ?_
  have nd := sc_range_between.nd
  have tk := takes_of (X := cxOf (L2.CX P w) P w K mg base n_range_between "range_between" (defScope s_range_between) T.f_range_between.a cdv A outer s H E) (E := E) rfl rfl rfl rfl
  exact ⟨_, (dss_cons (ds_if (dt_w (dw_and (dt_cmp od_le bool_dIb (de_ix (de_var 0) de_int) (de_ix (de_var 1) de_int)) (dw_and1 (dt_cmp od_le bool_dIb (de_ix (de_var 0) de_int) (de_ix (de_var 1) de_int))))) (dss_one (ds_ret (de_tup (da_cons (de_var 0) (da_cons (de_var 1) da_nil))))) dss_nil)
  (dss_one (ds_ret de_non)))⟩
theorem ok_common (T : Tx K w mg) : FnOk P w K mg base (L2.CX P w) 2 T.f_common.a T.f_common.fd ["area", "other"] (spA K 2 m_common) := by
  refine fnA (N := n_common) T.f_common.F sc_common fun cdv A outer s H E hr => ?_
  have nd := sc_common.nd
  have tk := takes_of (X := cxOf (L2.CX P w) P w K mg base n_common "common" (defScope s_common) T.f_common.a cdv A outer s H E) (E := E) rfl rfl rfl rfl
  exact ⟨_, (dss_cons (ds_set (i := 2) nd (de_tup (da_cons (de_callB (cd_max2 rfl) T.n_max (da_cons (de_ix (de_ix (de_var 0) de_int) de_int) (da_cons (de_ix (de_ix (de_var 1) de_int) de_int) da_nil))) (da_cons (de_callB (cd_max2 rfl) T.n_max (da_cons (de_ix (de_ix (de_var 0) de_int) de_int) (da_cons (de_ix (de_ix (de_var 1) de_int) de_int) da_nil))) da_nil))))
  (dss_cons (ds_set (i := 3) nd (de_tup (da_cons (de_callB (cd_min2 rfl) T.n_min (da_cons (de_ix (de_ix (de_var 0) de_int) de_int) (da_cons (de_ix (de_ix (de_var 1) de_int) de_int) da_nil))) (da_cons (de_callB (cd_min2 rfl) T.n_min (da_cons (de_ix (de_ix (de_var 0) de_int) de_int) (da_cons (de_ix (de_ix (de_var 1) de_int) de_int) da_nil))) da_nil))))
  (dss_one (ds_ret (de_callA ((ok_range_between T).mono (by decide)) hr tk T.f_range_between.m T.f_range_between.F.kp T.f_range_between.b (da_cons (de_var 2) (da_cons (de_var 3) da_nil)))))))⟩
theorem ok_cells_of (T : Tx K w mg) : FnOk P w K mg base (L2.CX P w) 1 T.f_cells_of.a T.f_cells_of.fd ["area"] (spA K 1 m_cells_of) := by
  refine fnA (N := n_cells_of) T.f_cells_of.F sc_cells_of fun cdv A outer s H E hr => ?_
  have nd := sc_cells_of.nd
  have tk := takes_of (X := cxOf (L2.CX P w) P w K mg base n_cells_of "cells_of" (defScope s_cells_of) T.f_cells_of.a cdv A outer s H E) (E := E) rfl rfl rfl rfl
  exact ⟨_, (dss_cons (ds_asg (de_var 0) (dg_tup rfl (dgs_cons (dg_tup rfl (dgs_cons (dg_name (i := 1) nd) (dgs_cons (dg_name (i := 2) nd) dgs_nil))) (dgs_cons (dg_tup rfl (dgs_cons (dg_name (i := 3) nd) (dgs_cons (dg_name (i := 4) nd) dgs_nil))) dgs_nil))))
  (dss_one (ds_ret (de_lc2 nd rfl (di_range2 T.n_range (da_cons (de_var 2) (da_cons (de_bin od_add (de_var 4) de_int) da_nil))) (blkOk_by (own := [((PySem.Str.ofString "row"), 5), ((PySem.Str.ofString "column"), 6)]) (N := n_cells_of) (sc := defScope s_cells_of) (by decide +kernel)) (fun _ _ _ _ _ => (dg_name (i := 5) nd)) (fun _ _ _ _ _ => dpt_nil) (fun _ _ _ _ _ => (di_range2 T.n_range (da_cons (de_var 1) (da_cons (de_bin od_add (de_var 3) de_int) da_nil)))) (fun _ _ _ _ _ => (dg_name (i := 6) nd)) (fun _ _ _ _ _ => dpt_nil) (fun _ _ _ _ _ => (de_tup (da_cons (de_var 6) (da_cons (de_var 5) da_nil))))))))⟩
theorem ok_count_of (T : Tx K w mg) : FnOk P w K mg base (L2.CX P w) 2 T.f_count_of.a T.f_count_of.fd ["areas"] (spA K 1 m_count_of) := by
  refine fnA (N := n_count_of) T.f_count_of.F sc_count_of fun cdv A outer s H E hr => ?_
  have nd := sc_count_of.nd
  have tk := takes_of (X := cxOf (L2.CX P w) P w K mg base n_count_of "count_of" (defScope s_count_of) T.f_count_of.a cdv A outer s H E) (E := E) rfl rfl rfl rfl
  exact ⟨_, (dss_one (ds_ret (de_lenSc2 (vs1 := [2]) T.n_len (units3 hr) nd rfl (di_list (de_var 0)) (blkOk_by (own := [((PySem.Str.ofString "area"), 1), ((PySem.Str.ofString "address"), 2)]) (N := n_count_of) (sc := defScope s_count_of) (by decide +kernel)) (fun _ _ _ _ _ => (dg_name (i := 1) nd)) (fun _ _ _ _ _ => dpt_nil) (fun _ _ _ _ _ => (di_list (de_callA ((ok_cells_of T).mono (by decide)) hr takes0 T.f_cells_of.m T.f_cells_of.F.kp T.f_cells_of.b (da_cons (de_var 1) da_nil)))) (fun _ _ _ _ _ => (dg_name (i := 2) nd)) (fun _ _ _ _ _ => dpt_nil) (fun _ _ _ _ _ => (de_var 2)))))⟩
theorem ok_without (T : Tx K w mg) : FnOk P w K mg base (L2.CX P w) 3 T.f_without.a T.f_without.fd ["area", "other"] (spA K 2 m_without) := by
  refine fnA (N := n_without) T.f_without.F sc_without fun cdv A outer s H E hr => ?_
  have nd := sc_without.nd
  have tk := takes_of (X := cxOf (L2.CX P w) P w K mg base n_without "without" (defScope s_without) T.f_without.a cdv A outer s H E) (E := E) rfl rfl rfl rfl
  exact ⟨_, (dss_cons (ds_set (i := 2) nd (de_callA ((ok_common T).mono (by decide)) hr tk T.f_common.m T.f_common.F.kp T.f_common.b (da_cons (de_var 0) (da_cons (de_var 1) da_nil))))
  (dss_cons (ds_if (dt_isN (de_var 2)) (dss_one (ds_ret (de_lst (da_cons (de_var 0) da_nil)))) dss_nil)
  (dss_cons (ds_asg (de_var 0) (dg_tup rfl (dgs_cons (dg_tup rfl (dgs_cons (dg_name (i := 3) nd) (dgs_cons (dg_name (i := 4) nd) dgs_nil))) (dgs_cons (dg_tup rfl (dgs_cons (dg_name (i := 5) nd) (dgs_cons (dg_name (i := 6) nd) dgs_nil))) dgs_nil))))
  (dss_cons (ds_asg (de_var 2) (dg_tup rfl (dgs_cons (dg_tup rfl (dgs_cons (dg_name (i := 7) nd) (dgs_cons (dg_name (i := 8) nd) dgs_nil))) (dgs_cons (dg_tup rfl (dgs_cons (dg_name (i := 9) nd) (dgs_cons (dg_name (i := 10) nd) dgs_nil))) dgs_nil))))
  (dss_cons (ds_set (i := 11) nd (de_lst (da_cons (de_tup (da_cons (de_tup (da_cons (de_var 3) (da_cons (de_var 4) da_nil))) (da_cons (de_tup (da_cons (de_var 5) (da_cons (de_bin od_sub (de_var 8) de_int) da_nil))) da_nil))) (da_cons (de_tup (da_cons (de_tup (da_cons (de_var 3) (da_cons (de_bin od_add (de_var 10) de_int) da_nil))) (da_cons (de_tup (da_cons (de_var 5) (da_cons (de_var 6) da_nil))) da_nil))) (da_cons (de_tup (da_cons (de_tup (da_cons (de_var 3) (da_cons (de_var 8) da_nil))) (da_cons (de_tup (da_cons (de_bin od_sub (de_var 7) de_int) (da_cons (de_var 10) da_nil))) da_nil))) (da_cons (de_tup (da_cons (de_tup (da_cons (de_bin od_add (de_var 9) de_int) (da_cons (de_var 8) da_nil))) (da_cons (de_tup (da_cons (de_var 5) (da_cons (de_var 10) da_nil))) da_nil))) da_nil))))))
  (dss_one (ds_ret (de_lc nd rfl (di_list (de_var 11)) (blkOk_by (own := [((PySem.Str.ofString "part"), 12)]) (N := n_without) (sc := defScope s_without) (by decide +kernel)) (fun _ _ _ _ _ => (dg_name (i := 12) nd)) (fun _ _ _ _ _ => (dpt_one (dt_notN (de_callA ((ok_range_between T).mono (by decide)) hr takes0 T.f_range_between.m T.f_range_between.F.kp T.f_range_between.b (da_cons (de_ix (de_var 12) de_int) (da_cons (de_ix (de_var 12) de_int) da_nil)))))) (fun _ _ _ _ _ => (de_var 12))))))))))⟩
theorem ok_without_all (T : Tx K w mg) : FnOk P w K mg base (L2.CX P w) 4 T.f_without_all.a T.f_without_all.fd ["area", "others"] (spA K 2 m_without_all) := by
  refine fnA (N := n_without_all) T.f_without_all.F sc_without_all fun cdv A outer s H E hr => ?_
  have nd := sc_without_all.nd
  have tk := takes_of (X := cxOf (L2.CX P w) P w K mg base n_without_all "without_all" (defScope s_without_all) T.f_without_all.a cdv A outer s H E) (E := E) rfl rfl rfl rfl
  exact ⟨_, (dss_cons (ds_set (i := 2) nd (de_lst (da_cons (de_var 0) da_nil)))
  (dss_cons (ds_for (passes_of rfl) rfl (di_list (de_var 1)) (dg_name (i := 3) nd) (dss_one (ds_setLc2 (i := 2) nd rfl (di_list (de_var 2)) (blkOk_by (own := [((PySem.Str.ofString "part"), 4), ((PySem.Str.ofString "left"), 5)]) (N := n_without_all) (sc := defScope s_without_all) (by decide +kernel)) (fun _ _ _ _ _ => (dg_name (i := 4) nd)) (fun _ _ _ _ _ => dpt_nil) (fun _ _ _ _ _ => (di_list (de_callA ((ok_without T).mono (by decide)) hr takes0 T.f_without.m T.f_without.F.kp T.f_without.b (da_cons (de_var 4) (da_cons (de_var 3) da_nil))))) (fun _ _ _ _ _ => (dg_name (i := 5) nd)) (fun _ _ _ _ _ => dpt_nil) (fun _ _ _ _ _ => (de_var 5)))))
  (dss_one (ds_ret (de_var 2)))))⟩
theorem ok_covered (T : Tx K w mg) : FnOk P w K mg base (L2.CX P w) 5 T.f_covered.a T.f_covered.fd ["area", "areas"] (spA K 2 m_covered) := by
  refine fnA (N := n_covered) T.f_covered.F sc_covered fun cdv A outer s H E hr => ?_
  have nd := sc_covered.nd
  have tk := takes_of (X := cxOf (L2.CX P w) P w K mg base n_covered "covered" (defScope s_covered) T.f_covered.a cdv A outer s H E) (E := E) rfl rfl rfl rfl
  exact ⟨_, (dss_one (ds_ret (de_cmp (od_eq hr.units) (de_callA ((ok_without_all T).mono (by decide)) hr tk T.f_without_all.m T.f_without_all.F.kp T.f_without_all.b (da_cons (de_var 0) (da_cons (de_var 1) da_nil))) (de_lst da_nil))))⟩
theorem ok_disjoint (T : Tx K w mg) : FnOk P w K mg base (L2.CX P w) 5 T.f_disjoint.a T.f_disjoint.fd ["areas"] (spA K 1 m_disjoint) := by
  refine fnA (N := n_disjoint) T.f_disjoint.F sc_disjoint fun cdv A outer s H E hr => ?_
  have nd := sc_disjoint.nd
  have tk := takes_of (X := cxOf (L2.CX P w) P w K mg base n_disjoint "disjoint" (defScope s_disjoint) T.f_disjoint.a cdv A outer s H E) (E := E) rfl rfl rfl rfl
  exact ⟨_, (dss_cons (ds_set (i := 1) nd (de_lstO da_nil))
  (dss_cons (ds_for (passes_of rfl) rfl (di_enum T.n_enumerate (da_cons (de_var 0) da_nil)) (dg_tup rfl (dgs_cons (dg_name (i := 2) nd) (dgs_cons (dg_name (i := 3) nd) dgs_nil))) (dss_one (ds_expr (de_mth md_ext (de_var 1) (da_cons (de_callA ((ok_without_all T).mono (by decide)) hr tk T.f_without_all.m T.f_without_all.F.kp T.f_without_all.b (da_cons (de_var 3) (da_cons (de_sl (de_var 0) dp_none (dp_some (de_var 2))) da_nil))) da_nil) PySem.F.plainAttrs_list PySem.F.slot_list_extend PySem.F.type_list_extend))))
  (dss_one (ds_ret (de_frz (de_var 1))))))⟩
theorem top_law (T : Tx K w mg) : TopB P w K mg base n_law "law" s_law T.f_law.a 5 b_law := by
  intro cdv s H E hr
  have nd := sc_law.nd
  have tk := takes_of (X := cxOf (L2.CX P w) P w K mg base n_law "law" (defScope s_law) T.f_law.a cdv callerA [] s H E) (E := E) rfl rfl rfl rfl
  exact ⟨_, (dss_cons (ds_set (i := 1) nd (de_callB' ((ok_l_state T).mono (by decide)) hr tk T.f__law_state.m T.f__law_state.F.kp T.f__law_state.b (da_cons (de_var 0) da_nil)))
  (dss_cons (ds_setLc (i := 2) nd rfl (di_range1 T.n_range (da_cons (de_bin od_add2 de_int (de_callB' ((ok_l_take T).mono (by decide)) hr tk T.f__law_take.m T.f__law_take.F.kp T.f__law_take.b (da_cons (de_var 1) (da_cons de_int da_nil)))) da_nil)) (blkOk_by (own := [((PySem.Str.ofString "k"), 11)]) (N := n_law) (sc := defScope s_law) (by decide +kernel)) (fun _ _ _ _ _ => (dg_name (i := 11) nd)) (fun _ _ _ _ _ => dpt_nil) (fun _ _ _ _ _ => (de_callB' ((ok_l_area T).mono (by decide)) hr takes0 T.f__law_area.m T.f__law_area.F.kp T.f__law_area.b (da_cons (de_var 1) (da_cons de_bl da_nil)))))
  (dss_cons (ds_asg (de_tup (da_cons (de_ix (de_var 2) de_int) (da_cons (de_ix (de_var 2) de_int) da_nil))) (dg_tup rfl (dgs_cons (dg_name (i := 3) nd) (dgs_cons (dg_name (i := 4) nd) dgs_nil))))
  (dss_cons (ds_set (i := 5) nd (de_callB (cd_repr rfl (units66 hr)) T.n_repr (da_cons (de_var 2) da_nil)))
  (dss_cons (ds_setLc (i := 6) nd rfl (di_list (de_callA ((ok_l_cells T).mono (by decide)) hr tk T.f__law_cells.m T.f__law_cells.F.kp T.f__law_cells.b (da_cons (de_var 3) da_nil))) (blkOk_by (own := [((PySem.Str.ofString "cell"), 13)]) (N := n_law) (sc := defScope s_law) (by decide +kernel)) (fun _ _ _ _ _ => (dg_name (i := 13) nd)) (fun _ _ _ _ _ => (dpt_one (dt_cmp (od_in (units65 hr)) bool_dIn (de_var 13) (de_callA ((ok_l_cells T).mono (by decide)) hr takes0 T.f__law_cells.m T.f__law_cells.F.kp T.f__law_cells.b (da_cons (de_var 4) da_nil))))) (fun _ _ _ _ _ => (de_var 13)))
  (dss_cons (ds_set (i := 7) nd (de_callA ((ok_common T).mono (by decide)) hr tk T.f_common.m T.f_common.F.kp T.f_common.b (da_cons (de_var 3) (da_cons (de_var 4) da_nil))))
  (dss_cons (ds_if (dt_w (dw_or (dt_cmp (od_ne hr.units) bool_dNe (de_isN (de_var 7)) (de_cmp (od_eq hr.units) (de_callB cd_len T.n_len (da_cons (de_var 6) da_nil)) de_int)) (dw_or1 (dt_w (dw_and (dt_notN (de_var 7)) (dw_and1 (dt_cmp (od_ne hr.units) bool_dNe (de_callA ((ok_l_cells T).mono (by decide)) hr tk T.f__law_cells.m T.f__law_cells.F.kp T.f__law_cells.b (da_cons (de_var 7) da_nil)) (de_var 6)))))))) (dss_one (ds_ret de_bl)) dss_nil)
  (dss_cons (ds_if (dt_cmp (od_ne hr.units) bool_dNe (de_callA ((ok_without T).mono (by decide)) hr tk T.f_without.m T.f_without.F.kp T.f_without.b (da_cons (de_var 3) (da_cons (de_var 4) da_nil))) (de_callA ((ok_l_left T).mono (by decide)) hr tk T.f__law_left.m T.f__law_left.F.kp T.f__law_left.b (da_cons (de_var 3) (da_cons (de_var 4) da_nil)))) (dss_one (ds_ret de_bl)) dss_nil)
  (dss_cons (ds_set (i := 8) nd (de_callA ((ok_without_all T).mono (by decide)) hr tk T.f_without_all.m T.f_without_all.F.kp T.f_without_all.b (da_cons (de_var 3) (da_cons (de_sl (de_var 2) (dp_some de_int) dp_none) da_nil))))
  (dss_cons (ds_if (dt_w (dw_or (dt_cmp (od_ne hr.units) bool_dNe (de_var 8) (de_callA ((ok_l_all T).mono (by decide)) hr tk T.f__law_all.m T.f__law_all.F.kp T.f__law_all.b (da_cons (de_var 3) (da_cons (de_sl (de_var 2) (dp_some de_int) dp_none) da_nil)))) (dw_or1 (dt_cmp (od_ne hr.units) bool_dNe (de_callA ((ok_without_all T).mono (by decide)) hr tk T.f_without_all.m T.f_without_all.F.kp T.f_without_all.b (da_cons (de_var 3) (da_cons (de_lst da_nil) da_nil))) (de_lst (da_cons (de_var 3) da_nil)))))) (dss_one (ds_ret de_bl)) dss_nil)
  (dss_cons (ds_set (i := 9) nd (de_callA ((ok_l_spread T).mono (by decide)) hr tk T.f__law_spread.m T.f__law_spread.F.kp T.f__law_spread.b (da_cons (de_sl (de_var 2) (dp_some de_int) dp_none) da_nil)))
  (dss_cons (ds_if (dt_cmp (od_ne hr.units) bool_dNe (de_callA ((ok_l_spread T).mono (by decide)) hr tk T.f__law_spread.m T.f__law_spread.F.kp T.f__law_spread.b (da_cons (de_var 8) da_nil)) (de_callB (cd_sort (units67 hr)) T.n_sorted (da_cons (de_lc nd rfl (di_list (de_callA ((ok_l_cells T).mono (by decide)) hr tk T.f__law_cells.m T.f__law_cells.F.kp T.f__law_cells.b (da_cons (de_var 3) da_nil))) (blkOk_by (own := [((PySem.Str.ofString "cell"), 13)]) (N := n_law) (sc := defScope s_law) (by decide +kernel)) (fun _ _ _ _ _ => (dg_name (i := 13) nd)) (fun _ _ _ _ _ => (dpt_one (dt_cmp (od_nin (units65 hr)) bool_dNin (de_var 13) (de_var 9)))) (fun _ _ _ _ _ => (de_var 13))) da_nil))) (dss_one (ds_ret de_bl)) dss_nil)
  (dss_cons (ds_set (i := 10) nd (de_lst da_nil))
  (dss_cons (ds_for (passes_of rfl) rfl (di_range1 T.n_range (da_cons (de_callB cd_len T.n_len (da_cons (de_var 2) da_nil)) da_nil)) (dg_name (i := 11) nd) (dss_one (ds_set (i := 10) nd (de_bin od_add2 (de_var 10) (de_callA ((ok_l_all T).mono (by decide)) hr tk T.f__law_all.m T.f__law_all.F.kp T.f__law_all.b (da_cons (de_ix (de_var 2) (de_var 11)) (da_cons (de_sl (de_var 2) dp_none (dp_some (de_var 11))) da_nil)))))))
  (dss_cons (ds_set (i := 12) nd (de_sortSet (de_callA ((ok_l_spread T).mono (by decide)) hr tk T.f__law_spread.m T.f__law_spread.F.kp T.f__law_spread.b (da_cons (de_var 2) da_nil)) T.n_sorted T.n_set rfl (units64 hr)))
  (dss_cons (ds_if (dt_w (dw_or (dt_cmp (od_ne hr.units) bool_dNe (de_callA ((ok_disjoint T).mono (by decide)) hr tk T.f_disjoint.m T.f_disjoint.F.kp T.f_disjoint.b (da_cons (de_var 2) da_nil)) (de_var 10)) (dw_or (dt_cmp (od_ne hr.units) bool_dNe (de_callA ((ok_l_spread T).mono (by decide)) hr tk T.f__law_spread.m T.f__law_spread.F.kp T.f__law_spread.b (da_cons (de_callA ((ok_disjoint T).mono (by decide)) hr tk T.f_disjoint.m T.f_disjoint.F.kp T.f_disjoint.b (da_cons (de_var 2) da_nil)) da_nil)) (de_var 12)) (dw_or1 (dt_cmp (od_ne hr.units) bool_dNe (de_callA ((ok_count_of T).mono (by decide)) hr tk T.f_count_of.m T.f_count_of.F.kp T.f_count_of.b (da_cons (de_var 2) da_nil)) (de_callB cd_len T.n_len (da_cons (de_var 12) da_nil))))))) (dss_one (ds_ret de_bl)) dss_nil)
  (dss_cons (ds_if (dt_w (dw_or (dt_cmp (od_ne hr.units) bool_dNe (de_callB (cd_repr rfl (units66 hr)) T.n_repr (da_cons (de_callA ((ok_covered T).mono (by decide)) hr tk T.f_covered.m T.f_covered.F.kp T.f_covered.b (da_cons (de_var 3) (da_cons (de_sl (de_var 2) (dp_some de_int) dp_none) da_nil))) da_nil)) (de_callB (cd_repr rfl (units66 hr)) T.n_repr (da_cons (de_cmp (od_eq hr.units) (de_callB cd_len T.n_len (da_cons (de_var 8) da_nil)) de_int) da_nil))) (dw_or1 (dt_cmp od_isn bool_dIsN (de_callA ((ok_covered T).mono (by decide)) hr tk T.f_covered.m T.f_covered.F.kp T.f_covered.b (da_cons (de_var 3) (da_cons (de_var 2) da_nil))) de_bl)))) (dss_one (ds_ret de_bl)) dss_nil)
  (dss_one (ds_ret (de_and (de_cmp (od_eq hr.units) (de_callB (cd_repr rfl (units66 hr)) T.n_repr (da_cons (de_var 2) da_nil)) (de_var 5)) (de_and (de_cmp (od_eq hr.units) (de_callA ((ok_disjoint T).mono (by decide)) hr tk T.f_disjoint.m T.f_disjoint.F.kp T.f_disjoint.b (da_cons (de_lst da_nil) da_nil)) (de_lst da_nil)) (de_one (de_cmp (od_eq hr.units) (de_callA ((ok_count_of T).mono (by decide)) hr tk T.f_count_of.m T.f_count_of.F.kp T.f_count_of.b (da_cons (de_lst da_nil) da_nil)) de_int)))))))))))))))))))))))⟩
end
theorem all_mk {l : PySem.W.OpenLaw} {w : World} {K : PySem.W.Frag} {h : Heap} {mg : Str → Option Value} {fa f0 f1 f2 f3 f4 f5 f6 f7 f8 f9 f10 f11 f12 f13 f14 f15 f16 f17 : Addr} (X : K.In h) (G : h.Ns mainGlobals mg) (hfa : mg "law" = some (.ref fa))
    {od0 an0 od1 an1 od2 an2 od3 an3 od4 an4 od5 an5 od6 an6 od7 an7 od8 an8 od9 an9 od10 an10 od11 an11 od12 an12 od13 an13 od14 an14 od15 an15 od16 an16 od17 an17 : Option Addr} {sl0 sl1 sl2 sl3 sl4 sl5 sl6 sl7 sl8 sl9 sl10 sl11 sl12 sl13 sl14 sl15 sl16 sl17 : Array (Option Value)} {oc0 kV0 dc0 pm0 cd0 ct0 oc1 kV1 dc1 pm1 cd1 ct1 oc2 kV2 dc2 pm2 cd2 ct2 oc3 kV3 dc3 pm3 cd3 ct3 oc4 kV4 dc4 pm4 cd4 ct4 oc5 kV5 dc5 pm5 cd5 ct5 oc6 kV6 dc6 pm6 cd6 ct6 oc7 kV7 dc7 pm7 cd7 ct7 oc8 kV8 dc8 pm8 cd8 ct8 oc9 kV9 dc9 pm9 cd9 ct9 oc10 kV10 dc10 pm10 cd10 ct10 oc11 kV11 dc11 pm11 cd11 ct11 oc12 kV12 dc12 pm12 cd12 ct12 oc13 kV13 dc13 pm13 cd13 ct13 oc14 kV14 dc14 pm14 cd14 ct14 oc15 kV15 dc15 pm15 cd15 ct15 oc16 kV16 dc16 pm16 cd16 ct16 oc17 kV17 dc17 pm17 cd17 ct17 : Value}
        (a0 : PySem.W.nsIn K mainGlobals "_law_box" = some (some (.ref f0))) (l0 : K.lookup f0 = some ⟨oc0, od0, .func (PySem.W.fnOf "_law_box" "_law_box" (defArgs s_l_box) (defBody s_l_box) (defScope s_l_box) .none kV0 dc0 pm0 an0 cd0 ct0), sl0⟩) (c0 : PySem.W.codeIn K cd0 "_law_box" = true) (k0 : PySem.W.keepIn K (.ref f0) = true)
    (a1 : PySem.W.nsIn K mainGlobals "_law_cells" = some (some (.ref f1))) (l1 : K.lookup f1 = some ⟨oc1, od1, .func (PySem.W.fnOf "_law_cells" "_law_cells" (defArgs s_l_cells) (defBody s_l_cells) (defScope s_l_cells) .none kV1 dc1 pm1 an1 cd1 ct1), sl1⟩) (c1 : PySem.W.codeIn K cd1 "_law_cells" = true) (k1 : PySem.W.keepIn K (.ref f1) = true)
    (a2 : PySem.W.nsIn K mainGlobals "_law_left" = some (some (.ref f2))) (l2 : K.lookup f2 = some ⟨oc2, od2, .func (PySem.W.fnOf "_law_left" "_law_left" (defArgs s_l_left) (defBody s_l_left) (defScope s_l_left) .none kV2 dc2 pm2 an2 cd2 ct2), sl2⟩) (c2 : PySem.W.codeIn K cd2 "_law_left" = true) (k2 : PySem.W.keepIn K (.ref f2) = true)
    (a3 : PySem.W.nsIn K mainGlobals "_law_all" = some (some (.ref f3))) (l3 : K.lookup f3 = some ⟨oc3, od3, .func (PySem.W.fnOf "_law_all" "_law_all" (defArgs s_l_all) (defBody s_l_all) (defScope s_l_all) .none kV3 dc3 pm3 an3 cd3 ct3), sl3⟩) (c3 : PySem.W.codeIn K cd3 "_law_all" = true) (k3 : PySem.W.keepIn K (.ref f3) = true)
    (a4 : PySem.W.nsIn K mainGlobals "_law_take" = some (some (.ref f4))) (l4 : K.lookup f4 = some ⟨oc4, od4, .func (PySem.W.fnOf "_law_take" "_law_take" (defArgs s_l_take) (defBody s_l_take) (defScope s_l_take) .none kV4 dc4 pm4 an4 cd4 ct4), sl4⟩) (c4 : PySem.W.codeIn K cd4 "_law_take" = true) (k4 : PySem.W.keepIn K (.ref f4) = true)
    (a5 : PySem.W.nsIn K mainGlobals "_law_address" = some (some (.ref f5))) (l5 : K.lookup f5 = some ⟨oc5, od5, .func (PySem.W.fnOf "_law_address" "_law_address" (defArgs s_l_address) (defBody s_l_address) (defScope s_l_address) .none kV5 dc5 pm5 an5 cd5 ct5), sl5⟩) (c5 : PySem.W.codeIn K cd5 "_law_address" = true) (k5 : PySem.W.keepIn K (.ref f5) = true)
    (a6 : PySem.W.nsIn K mainGlobals "_law_area" = some (some (.ref f6))) (l6 : K.lookup f6 = some ⟨oc6, od6, .func (PySem.W.fnOf "_law_area" "_law_area" (defArgs s_l_area) (defBody s_l_area) (defScope s_l_area) .none kV6 dc6 pm6 an6 cd6 ct6), sl6⟩) (c6 : PySem.W.codeIn K cd6 "_law_area" = true) (k6 : PySem.W.keepIn K (.ref f6) = true)
    (a7 : PySem.W.nsIn K mainGlobals "_law_spread" = some (some (.ref f7))) (l7 : K.lookup f7 = some ⟨oc7, od7, .func (PySem.W.fnOf "_law_spread" "_law_spread" (defArgs s_l_spread) (defBody s_l_spread) (defScope s_l_spread) .none kV7 dc7 pm7 an7 cd7 ct7), sl7⟩) (c7 : PySem.W.codeIn K cd7 "_law_spread" = true) (k7 : PySem.W.keepIn K (.ref f7) = true)
    (a8 : PySem.W.nsIn K mainGlobals "_law_state" = some (some (.ref f8))) (l8 : K.lookup f8 = some ⟨oc8, od8, .func (PySem.W.fnOf "_law_state" "_law_state" (defArgs s_l_state) (defBody s_l_state) (defScope s_l_state) .none kV8 dc8 pm8 an8 cd8 ct8), sl8⟩) (c8 : PySem.W.codeIn K cd8 "_law_state" = true) (k8 : PySem.W.keepIn K (.ref f8) = true)
    (a9 : PySem.W.nsIn K mainGlobals "range_between" = some (some (.ref f9))) (l9 : K.lookup f9 = some ⟨oc9, od9, .func (PySem.W.fnOf "range_between" "range_between" (defArgs s_range_between) (defBody s_range_between) (defScope s_range_between) .none kV9 dc9 pm9 an9 cd9 ct9), sl9⟩) (c9 : PySem.W.codeIn K cd9 "range_between" = true) (k9 : PySem.W.keepIn K (.ref f9) = true)
    (a10 : PySem.W.nsIn K mainGlobals "common" = some (some (.ref f10))) (l10 : K.lookup f10 = some ⟨oc10, od10, .func (PySem.W.fnOf "common" "common" (defArgs s_common) (defBody s_common) (defScope s_common) .none kV10 dc10 pm10 an10 cd10 ct10), sl10⟩) (c10 : PySem.W.codeIn K cd10 "common" = true) (k10 : PySem.W.keepIn K (.ref f10) = true)
    (a11 : PySem.W.nsIn K mainGlobals "cells_of" = some (some (.ref f11))) (l11 : K.lookup f11 = some ⟨oc11, od11, .func (PySem.W.fnOf "cells_of" "cells_of" (defArgs s_cells_of) (defBody s_cells_of) (defScope s_cells_of) .none kV11 dc11 pm11 an11 cd11 ct11), sl11⟩) (c11 : PySem.W.codeIn K cd11 "cells_of" = true) (k11 : PySem.W.keepIn K (.ref f11) = true)
    (a12 : PySem.W.nsIn K mainGlobals "count_of" = some (some (.ref f12))) (l12 : K.lookup f12 = some ⟨oc12, od12, .func (PySem.W.fnOf "count_of" "count_of" (defArgs s_count_of) (defBody s_count_of) (defScope s_count_of) .none kV12 dc12 pm12 an12 cd12 ct12), sl12⟩) (c12 : PySem.W.codeIn K cd12 "count_of" = true) (k12 : PySem.W.keepIn K (.ref f12) = true)
    (a13 : PySem.W.nsIn K mainGlobals "without" = some (some (.ref f13))) (l13 : K.lookup f13 = some ⟨oc13, od13, .func (PySem.W.fnOf "without" "without" (defArgs s_without) (defBody s_without) (defScope s_without) .none kV13 dc13 pm13 an13 cd13 ct13), sl13⟩) (c13 : PySem.W.codeIn K cd13 "without" = true) (k13 : PySem.W.keepIn K (.ref f13) = true)
    (a14 : PySem.W.nsIn K mainGlobals "without_all" = some (some (.ref f14))) (l14 : K.lookup f14 = some ⟨oc14, od14, .func (PySem.W.fnOf "without_all" "without_all" (defArgs s_without_all) (defBody s_without_all) (defScope s_without_all) .none kV14 dc14 pm14 an14 cd14 ct14), sl14⟩) (c14 : PySem.W.codeIn K cd14 "without_all" = true) (k14 : PySem.W.keepIn K (.ref f14) = true)
    (a15 : PySem.W.nsIn K mainGlobals "covered" = some (some (.ref f15))) (l15 : K.lookup f15 = some ⟨oc15, od15, .func (PySem.W.fnOf "covered" "covered" (defArgs s_covered) (defBody s_covered) (defScope s_covered) .none kV15 dc15 pm15 an15 cd15 ct15), sl15⟩) (c15 : PySem.W.codeIn K cd15 "covered" = true) (k15 : PySem.W.keepIn K (.ref f15) = true)
    (a16 : PySem.W.nsIn K mainGlobals "disjoint" = some (some (.ref f16))) (l16 : K.lookup f16 = some ⟨oc16, od16, .func (PySem.W.fnOf "disjoint" "disjoint" (defArgs s_disjoint) (defBody s_disjoint) (defScope s_disjoint) .none kV16 dc16 pm16 an16 cd16 ct16), sl16⟩) (c16 : PySem.W.codeIn K cd16 "disjoint" = true) (k16 : PySem.W.keepIn K (.ref f16) = true)
    (a17 : PySem.W.nsIn K mainGlobals "law" = some (some (.ref f17))) (l17 : K.lookup f17 = some ⟨oc17, od17, .func (PySem.W.fnOf "law" "law" (defArgs s_law) (defBody s_law) (defScope s_law) .none kV17 dc17 pm17 an17 cd17 ct17), sl17⟩) (c17 : PySem.W.codeIn K cd17 "law" = true) (k17 : PySem.W.keepIn K (.ref f17) = true)
    (z_abs : PySem.W.nsIn K mainGlobals "abs" = some none)
    (z_enumerate : PySem.W.nsIn K mainGlobals "enumerate" = some none)
    (z_int : PySem.W.nsIn K mainGlobals "int" = some none)
    (z_len : PySem.W.nsIn K mainGlobals "len" = some none)
    (z_max : PySem.W.nsIn K mainGlobals "max" = some none)
    (z_min : PySem.W.nsIn K mainGlobals "min" = some none)
    (z_range : PySem.W.nsIn K mainGlobals "range" = some none)
    (z_repr : PySem.W.nsIn K mainGlobals "repr" = some none)
    (z_set : PySem.W.nsIn K mainGlobals "set" = some none)
    (z_sorted : PySem.W.nsIn K mainGlobals "sorted" = some none) :
    ∃ fd : FuncData, Fun K "law" "law" s_law fa fd ∧ (∀ (s : Shared) (v : Value), BindsTo s fd ⟨[v], []⟩ [("script", v)]) ∧ ∀ base : Heap, K.In base → base.Ns mainGlobals mg → TopB l.prog w K mg base n_law "law" s_law fa 5 b_law := by
  have e := hfa.symm.trans (PySem.W.mg_of X G a17)
  cases e
  let T : Tx K w mg := {
    f__law_box := ⟨_, _, fun_mk (st := s_l_box) l0 c0 k0, PySem.W.mg_of X G a0, (fun_mk (st := s_l_box) l0 c0 k0).binds (ps := ["left", "top", "right", "bottom"]) fun _ _ _ _ _ _ us hl => match us, hl with | [_, _, _, _], _ => rfl⟩
    f__law_cells := ⟨_, _, fun_mk (st := s_l_cells) l1 c1 k1, PySem.W.mg_of X G a1, (fun_mk (st := s_l_cells) l1 c1 k1).binds (ps := ["area"]) fun _ _ _ _ _ _ us hl => match us, hl with | [_], _ => rfl⟩
    f__law_left := ⟨_, _, fun_mk (st := s_l_left) l2 c2 k2, PySem.W.mg_of X G a2, (fun_mk (st := s_l_left) l2 c2 k2).binds (ps := ["area", "other"]) fun _ _ _ _ _ _ us hl => match us, hl with | [_, _], _ => rfl⟩
    f__law_all := ⟨_, _, fun_mk (st := s_l_all) l3 c3 k3, PySem.W.mg_of X G a3, (fun_mk (st := s_l_all) l3 c3 k3).binds (ps := ["area", "others"]) fun _ _ _ _ _ _ us hl => match us, hl with | [_, _], _ => rfl⟩
    f__law_take := ⟨_, _, fun_mk (st := s_l_take) l4 c4 k4, PySem.W.mg_of X G a4, (fun_mk (st := s_l_take) l4 c4 k4).binds (ps := ["state", "most"]) fun _ _ _ _ _ _ us hl => match us, hl with | [_, _], _ => rfl⟩
    f__law_address := ⟨_, _, fun_mk (st := s_l_address) l5 c5 k5, PySem.W.mg_of X G a5, (fun_mk (st := s_l_address) l5 c5 k5).binds (ps := ["state", "wide"]) fun _ _ _ _ _ _ us hl => match us, hl with | [_, _], _ => rfl⟩
    f__law_area := ⟨_, _, fun_mk (st := s_l_area) l6 c6 k6, PySem.W.mg_of X G a6, (fun_mk (st := s_l_area) l6 c6 k6).binds (ps := ["state", "wide"]) fun _ _ _ _ _ _ us hl => match us, hl with | [_, _], _ => rfl⟩
    f__law_spread := ⟨_, _, fun_mk (st := s_l_spread) l7 c7 k7, PySem.W.mg_of X G a7, (fun_mk (st := s_l_spread) l7 c7 k7).binds (ps := ["areas"]) fun _ _ _ _ _ _ us hl => match us, hl with | [_], _ => rfl⟩
    f__law_state := ⟨_, _, fun_mk (st := s_l_state) l8 c8 k8, PySem.W.mg_of X G a8, (fun_mk (st := s_l_state) l8 c8 k8).binds (ps := ["script"]) fun _ _ _ _ _ _ us hl => match us, hl with | [_], _ => rfl⟩
    f_range_between := ⟨_, _, fun_mk (st := s_range_between) l9 c9 k9, PySem.W.mg_of X G a9, (fun_mk (st := s_range_between) l9 c9 k9).binds (ps := ["first", "last"]) fun _ _ _ _ _ _ us hl => match us, hl with | [_, _], _ => rfl⟩
    f_common := ⟨_, _, fun_mk (st := s_common) l10 c10 k10, PySem.W.mg_of X G a10, (fun_mk (st := s_common) l10 c10 k10).binds (ps := ["area", "other"]) fun _ _ _ _ _ _ us hl => match us, hl with | [_, _], _ => rfl⟩
    f_cells_of := ⟨_, _, fun_mk (st := s_cells_of) l11 c11 k11, PySem.W.mg_of X G a11, (fun_mk (st := s_cells_of) l11 c11 k11).binds (ps := ["area"]) fun _ _ _ _ _ _ us hl => match us, hl with | [_], _ => rfl⟩
    f_count_of := ⟨_, _, fun_mk (st := s_count_of) l12 c12 k12, PySem.W.mg_of X G a12, (fun_mk (st := s_count_of) l12 c12 k12).binds (ps := ["areas"]) fun _ _ _ _ _ _ us hl => match us, hl with | [_], _ => rfl⟩
    f_without := ⟨_, _, fun_mk (st := s_without) l13 c13 k13, PySem.W.mg_of X G a13, (fun_mk (st := s_without) l13 c13 k13).binds (ps := ["area", "other"]) fun _ _ _ _ _ _ us hl => match us, hl with | [_, _], _ => rfl⟩
    f_without_all := ⟨_, _, fun_mk (st := s_without_all) l14 c14 k14, PySem.W.mg_of X G a14, (fun_mk (st := s_without_all) l14 c14 k14).binds (ps := ["area", "others"]) fun _ _ _ _ _ _ us hl => match us, hl with | [_, _], _ => rfl⟩
    f_covered := ⟨_, _, fun_mk (st := s_covered) l15 c15 k15, PySem.W.mg_of X G a15, (fun_mk (st := s_covered) l15 c15 k15).binds (ps := ["area", "areas"]) fun _ _ _ _ _ _ us hl => match us, hl with | [_, _], _ => rfl⟩
    f_disjoint := ⟨_, _, fun_mk (st := s_disjoint) l16 c16 k16, PySem.W.mg_of X G a16, (fun_mk (st := s_disjoint) l16 c16 k16).binds (ps := ["areas"]) fun _ _ _ _ _ _ us hl => match us, hl with | [_], _ => rfl⟩
    f_law := ⟨_, _, fun_mk (st := s_law) l17 c17 k17, PySem.W.mg_of X G a17, (fun_mk (st := s_law) l17 c17 k17).binds (ps := ["script"]) fun _ _ _ _ _ _ us hl => match us, hl with | [_], _ => rfl⟩
    n_abs := PySem.W.mg_none_of X G z_abs
    n_enumerate := PySem.W.mg_none_of X G z_enumerate
    n_int := PySem.W.mg_none_of X G z_int
    n_len := PySem.W.mg_none_of X G z_len
    n_max := PySem.W.mg_none_of X G z_max
    n_min := PySem.W.mg_none_of X G z_min
    n_range := PySem.W.mg_none_of X G z_range
    n_repr := PySem.W.mg_none_of X G z_repr
    n_set := PySem.W.mg_none_of X G z_set
    n_sorted := PySem.W.mg_none_of X G z_sorted }
  exact ⟨PySem.W.fnOf "law" "law" (defArgs s_law) (defBody s_law) (defScope s_law) .none kV17 dc17 pm17 an17 cd17 ct17, T.f_law.F, fun s v => .of_eq rfl, fun base _ _ => top_law T⟩
end Law
namespace Law.R
open Law
open PySem L2 DL
abbrev Ad := Int × Int
abbrev Ar := Ad × Ad
theorem en_pr {α β : Type} [DecidableEq α] [DecidableEq β] [En α] [En β] (x : α) (y : β) : (En.en (x, y) : D) = .tup [En.en x, En.en y] := rfl
theorem en_ad (x : Ad) : (En.en x : D) = .tup [.int x.1, .int x.2] := rfl
theorem en_ar (x : Ar) : (En.en x : D) = .tup [.tup [.int x.1.1, .int x.1.2], .tup [.int x.2.1, .int x.2.2]] := rfl
def has (a : Ar) (x : Ad) : Bool := decide (a.1.1 ≤ x.1 ∧ x.1 ≤ a.2.1 ∧ a.1.2 ≤ x.2 ∧ x.2 ≤ a.2.2)
def rowL : Int → Nat → Int → List Ad
  | _, 0, _ => []
  | c, n + 1, r => (c, r) :: rowL (c + 1) n r
def rowsL (c : Int) (nc : Nat) : Int → Nat → List Ad
  | _, 0 => []
  | r, n + 1 => rowL c nc r ++ rowsL c nc (r + 1) n
def cells (a : Ar) : List Ad := rowsL a.1.1 (a.2.1 + 1 - a.1.1).toNat a.1.2 (a.2.2 + 1 - a.1.2).toNat
theorem rowL_len : ∀ (n : Nat) (c r : Int), (rowL c n r).length = n
  | 0, _, _ => rfl
  | n + 1, c, r => by show (rowL (c + 1) n r).length + 1 = _; rw [rowL_len n]
theorem rowsL_len (c : Int) (nc : Nat) : ∀ (n : Nat) (r : Int), (rowsL c nc r n).length = n * nc
  | 0, _ => by simp [rowsL]
  | n + 1, r => by show (rowL c nc r ++ rowsL c nc (r + 1) n).length = _; rw [List.length_append, rowL_len, rowsL_len c nc n, Nat.succ_mul]; omega
theorem rowL_count (x : Ad) : ∀ (n : Nat) (c r : Int), (rowL c n r).count x = if x.2 = r ∧ c ≤ x.1 ∧ x.1 < c + n then 1 else 0
  | 0, c, r => by
    rw [if_neg (by omega)]; rfl
  | n + 1, c, r => by
    show ((c, r) :: rowL (c + 1) n r).count x = _
    rw [List.count_cons, rowL_count x n]
    obtain ⟨u, v⟩ := x
    have e : (((c, r) : Ad) == (u, v)) = decide (c = u ∧ r = v) := by
      rw [Bool.eq_iff_iff, beq_iff_eq, decide_eq_true_eq, Prod.mk.injEq]
    rw [e]
    simp only [decide_eq_true_eq]
    split <;> split <;> split <;> omega
theorem rowsL_count (x : Ad) (c : Int) (nc : Nat) : ∀ (n : Nat) (r : Int), (rowsL c nc r n).count x = if c ≤ x.1 ∧ x.1 < c + nc ∧ r ≤ x.2 ∧ x.2 < r + n then 1 else 0
  | 0, r => by
    rw [if_neg (by omega)]; rfl
  | n + 1, r => by
    show (rowL c nc r ++ rowsL c nc (r + 1) n).count x = _
    rw [List.count_append, rowL_count, rowsL_count x c nc n]
    split <;> split <;> split <;> omega
theorem cells_count (a : Ar) (x : Ad) : (cells a).count x = if has a x = true then 1 else 0 := by
  unfold cells has
  rw [rowsL_count]
  simp only [decide_eq_true_eq]
  split <;> split <;> omega
theorem cells_mem (a : Ar) (x : Ad) : x ∈ cells a ↔ has a x = true := by
  rw [← List.count_pos_iff, cells_count]
  split <;> simp_all
/-- no corner beyond the sheet -/
def okA (a : Ar) : Prop := 0 ≤ a.1.1 ∧ 0 ≤ a.1.2 ∧ a.2.1 < 26 ∧ a.2.2 < 99 ∧ a.1.1 ≤ 26 ∧ a.1.2 ≤ 99 ∧ -1 ≤ a.2.1 ∧ -1 ≤ a.2.2
theorem cells_len (a : Ar) (h : okA a) : (cells a).length ≤ 2574 := by
  unfold cells
  rw [rowsL_len]
  have h1 : (a.2.2 + 1 - a.1.2).toNat ≤ 99 := by have := h; unfold okA at this; omega
  have h2 : (a.2.1 + 1 - a.1.1).toNat ≤ 26 := by have := h; unfold okA at this; omega
  exact Nat.mul_le_mul h1 h2
theorem rng_ok {i : Int} (h : -1000000 ≤ i) (h2 : i ≤ 1000000) : rngOk i = true := by unfold rngOk; simp; omega
theorem compRow {l : List (Option DV)} {g : GM} {e : EM} {M : List O} (r : Int) (h : ∀ x, ∃ s1, g (.p (.int x)) ⟨l, M⟩ = some s1 ∧ s1.m = M ∧ e s1 = some (.ok (.p (En.en ((x, r) : Ad))) M)) : ∀ (n : Nat) (c : Int) (acc : List D), acc.length + n ≤ 1000000 → compL l g tYesM e (DL.intsFrom c n) acc M = some (acc ++ (rowL c n r).map En.en, M)
  | 0, c, acc, _ => by rw [ints0]; simp [compL, rowL]
  | n + 1, c, acc, hl => by
    rw [intsS]
    unfold compL
    obtain ⟨s1, h1, h2, h3⟩ := h c
    rw [h1]
    dsimp only
    have q : tYesM s1 = some (.ok (.p (.bl true)) s1.m) := rfl
    rw [q]
    dsimp only
    have q2 : e ⟨s1.l, s1.m⟩ = some (.ok (.p (En.en ((c, r) : Ad))) M) := h3
    rw [q2]
    dsimp only
    rw [if_pos (by omega), compRow r h n (c + 1) _ (by simp; omega)]
    simp [rowL]
def ord (a : Ar) : Prop := a.1.1 ≤ a.2.1 ∧ a.1.2 ≤ a.2.2
theorem has_iff (a : Ar) (x : Ad) : has a x = true ↔ a.1.1 ≤ x.1 ∧ x.1 ≤ a.2.1 ∧ a.1.2 ≤ x.2 ∧ x.2 ≤ a.2.2 := by unfold has; exact decide_eq_true_iff
abbrev lxA : Ad → Ad → Bool := lx (fun x => x.1) (fun x => x.2)
theorem dSort_ad (l : List Ad) : dSort (.lst (l.map En.en)) = some (.lst ((l.mergeSort lxA).map En.en)) := by
  unfold dSort
  have h1 := DL.all_shp (α := Ad) (by decide) l
  have h2 : sortOk (toPs (l.map En.en)) = true := sortOk_ii l (fun x => x.1) (fun x => x.2)
  show (if ((l.map En.en).all shp && sortOk (toPs (l.map En.en))) = true then some (D.lst (sortL (l.map En.en))) else none) = _
  rw [h1, h2]
  show some (D.lst (sortL _)) = _
  unfold sortL
  have e := List.map_mergeSort (r := lxA) (s := PySem.W.dataLe false toP) (f := (En.en : Ad → D)) (l := l) fun p _ q _ => by
    have := congrFun (congrFun (PySem.W.dataLe_ii (fun x : Ad => x.1) (fun x => x.2)) p) q
    exact this.symm
  rw [e]
theorem for_run (it : IM) (g : GM) (b : SM) (s : S) (ds : List DV) (M : List O) (r : Option (Fl × S)) (h : it s = some (.ok ds M)) (h2 : loopS g b ds ⟨s.l, M⟩ = r) : sFor it g b s = r := by
  rw [e_for, e_lift, h]
  exact h2
/-! the law's cells -/
theorem cells_loop (A0 A1 A2 : D) (a c b d : Int) (hA1 : A1 = .tup [.int a, .int b]) (hA2 : A2 = .tup [.int c, .int d]) (nc : Nat) (hn : (c + 1 - a).toNat = nc) (ha : -1000 ≤ a) (ha2 : a ≤ 1000) (hc : -1000 ≤ c) (hc2 : c ≤ 1000) : ∀ (n : Nat) (r : Int) (acc : List Ad) (v4 : Option DV), acc.length + n * nc ≤ 1000000 → ∃ v4',
    loopS (gN 4) (sAsg (mBin dAdd2 (mVar 3) (mLc (mRng rng2D (aCons (mIx (mVar 1) (mC (.int 0))) (aCons (mBin dAdd2 (mIx (mVar 2) (mC (.int 0))) (mC (.int 1))) aNil))) [5] (gN 5) tYesM (disp .tup (aCons (mVar 5) (aCons (mVar 4) aNil))))) (gN 3)) (DL.intsFrom r n)
      ⟨[some (.p A0), some (.p A1), some (.p A2), some (.p (.lst (acc.map En.en))), v4, none], []⟩ = some (.nx, ⟨[some (.p A0), some (.p A1), some (.p A2), some (.p (.lst ((acc ++ rowsL a nc r n).map En.en))), v4', none], []⟩)
  | 0, r, acc, v4, _ => ⟨v4, by rw [ints0]; simp [rowsL]⟩
  | n + 1, r, acc, v4, hl => by
    have hl2 : acc.length + (n * nc + nc) ≤ 1000000 := by rw [Nat.succ_mul] at hl; exact hl
    obtain ⟨v4', ih⟩ := cells_loop A0 A1 A2 a c b d hA1 hA2 nc hn ha ha2 hc hc2 n (r + 1) (acc ++ rowL a nc r) (some (.p (.int r))) (by rw [List.length_append, rowL_len]; omega)
    refine ⟨v4', ?_⟩
    rw [intsS, loopS_cons]
    have g1 := rng_ok (i := a) (by omega) (by omega)
    have g2 := rng_ok (i := c + 1) (by omega) (by omega)
    have e := compRow (l := [some (.p A0), some (.p A1), some (.p A2), some (.p (.lst (acc.map En.en))), some (.p (.int r)), none]) (g := gN 5) (e := disp .tup (aCons (mVar 5) (aCons (mVar 4) aNil))) (M := []) r (fun x => ⟨_, rfl, rfl, by simp [e_bnd, en_ad]⟩) nc a [] (by simp; omega)
    have hr := rowL_len nc a r
    have hl3 : acc.length + (rowL a nc r).length ≤ 1000000 := by omega
    subst hA1 hA2
    simp [e_bnd, e_lift, g1, g2, hn] at e ih ⊢
    rw [e]
    simp [hl3]
    rw [ih]
    simp [rowsL]
theorem cells_spec (a : Ar) (h : okA a) : m_l_cells [En.en a] = some (.ok (.lst ((cells a).map En.en))) := by
  obtain ⟨⟨p, q⟩, r, s⟩ := a
  have hh : 0 ≤ p ∧ 0 ≤ q ∧ r < 26 ∧ s < 99 ∧ p ≤ 26 ∧ q ≤ 99 ∧ -1 ≤ r ∧ -1 ≤ s := h
  have g1 := rng_ok (i := q) (by omega) (by omega)
  have g2 := rng_ok (i := s + 1) (by omega) (by omega)
  have hl := cells_len ((p, q), (r, s)) h
  have hl2 : (s + 1 - q).toNat * (r + 1 - p).toNat ≤ 2574 := by
    have e := rowsL_len p (r + 1 - p).toNat (s + 1 - q).toNat q
    have e2 : cells ((p, q), (r, s)) = rowsL p (r + 1 - p).toNat q (s + 1 - q).toNat := rfl
    rw [e2, e] at hl
    exact hl
  obtain ⟨v4', lp⟩ := cells_loop (En.en ((p, q), (r, s))) (.tup [.int p, .int q]) (.tup [.int r, .int s]) p r q s rfl rfl (r + 1 - p).toNat rfl (by omega) (by omega) (by omega) (by omega) (s + 1 - q).toNat q [] none (by rw [List.length_nil]; omega)
  unfold m_l_cells b_l_cells
  refine runA_of (s := (⟨[some (.p (En.en ((p, q), (r, s)))), some (.p (.tup [.int p, .int q])), some (.p (.tup [.int r, .int s])), some (.p (.lst ((cells ((p, q), (r, s))).map En.en))), v4', none], []⟩ : DL.S)) ?_
  rw [DL.seq_asg _ _ _ ⟨slotsOf 6 ([En.en ((p, q), (r, s))].map .p), []⟩ ⟨[some (.p (En.en ((p, q), (r, s)))), some (.p (.tup [.int p, .int q])), some (.p (.tup [.int r, .int s])), none, none, none], []⟩ (.p (En.en ((p, q), (r, s)))) [] rfl rfl]
  rw [DL.seq_asg _ _ _ ⟨[some (.p (En.en ((p, q), (r, s)))), some (.p (.tup [.int p, .int q])), some (.p (.tup [.int r, .int s])), none, none, none], []⟩ ⟨[some (.p (En.en ((p, q), (r, s)))), some (.p (.tup [.int p, .int q])), some (.p (.tup [.int r, .int s])), some (.p (.lst [])), none, none], []⟩ (.p (.lst [])) [] rfl rfl]
  have it : mRng rng2D (aCons (mIx (mVar 1) (mC (.int 1))) (aCons (mBin dAdd2 (mIx (mVar 2) (mC (.int 1))) (mC (.int 1))) aNil)) ⟨[some (.p (En.en ((p, q), (r, s)))), some (.p (.tup [.int p, .int q])), some (.p (.tup [.int r, .int s])), some (.p (.lst [])), none, none], []⟩ = some (.ok (DL.intsFrom q (s + 1 - q).toNat) []) := by
    simp [e_bnd, g1, g2]
  rw [seq_nx _ _ _ _ (for_run _ _ _ _ _ _ _ it lp)]
  exact ret_run _ _ _ _ rfl
end Law.R
namespace Law.R
open Law
open PySem L2 DL
/-! two areas -/
def iMax (a b : Int) : Int := if a < b then b else a
def iMin (a b : Int) : Int := if b < a then b else a
theorem imax (a b : Int) : a ≤ iMax a b ∧ b ≤ iMax a b ∧ (iMax a b = a ∨ iMax a b = b) := by unfold iMax; split <;> omega
theorem imin (a b : Int) : iMin a b ≤ a ∧ iMin a b ≤ b ∧ (iMin a b = a ∨ iMin a b = b) := by unfold iMin; split <;> omega
def com (a b : Ar) : Option Ar := if iMax a.1.1 b.1.1 ≤ iMin a.2.1 b.2.1 ∧ iMax a.1.2 b.1.2 ≤ iMin a.2.2 b.2.2 then some ((iMax a.1.1 b.1.1, iMax a.1.2 b.1.2), (iMin a.2.1 b.2.1, iMin a.2.2 b.2.2)) else none
theorem com_none {a b : Ar} (h : com a b = none) (x : Ad) : ¬ (has a x = true ∧ has b x = true) := by
  rw [has_iff, has_iff]
  unfold com at h
  have h1 := imax a.1.1 b.1.1
  have h2 := imax a.1.2 b.1.2
  have h3 := imin a.2.1 b.2.1
  have h4 := imin a.2.2 b.2.2
  split at h
  · cases h
  · omega
theorem com_some {a b c : Ar} (h : com a b = some c) : ord c ∧ (∀ x, has c x = true ↔ has a x = true ∧ has b x = true) ∧ a.1.1 ≤ c.1.1 ∧ a.1.2 ≤ c.1.2 ∧ c.2.1 ≤ a.2.1 ∧ c.2.2 ≤ a.2.2 := by
  unfold com at h
  have h1 := imax a.1.1 b.1.1
  have h2 := imax a.1.2 b.1.2
  have h3 := imin a.2.1 b.2.1
  have h4 := imin a.2.2 b.2.2
  split at h
  · rename_i q
    cases h
    refine ⟨q, fun x => ?_, h1.1, h2.1, h3.1, h4.1⟩
    rw [has_iff, has_iff, has_iff]
    dsimp only
    omega
  · cases h
def neA (p : Ar) : Bool := decide (p.1.1 ≤ p.2.1 ∧ p.1.2 ≤ p.2.2)
theorem neA_iff (p : Ar) : neA p = true ↔ ord p := by unfold neA ord; exact decide_eq_true_iff
def four (a c : Ar) : List Ar := [((a.1.1, a.1.2), (a.2.1, c.1.2 - 1)), ((a.1.1, c.2.2 + 1), (a.2.1, a.2.2)), ((a.1.1, c.1.2), (c.1.1 - 1, c.2.2)), ((c.2.1 + 1, c.1.2), (a.2.1, c.2.2))]
def wo (a b : Ar) : List Ar := match com a b with
  | none => [a]
  | some c => (four a c).filter neA
def cnt (ps : List Ar) (x : Ad) : Nat := (ps.flatMap cells).count x
theorem cnt_nil (x : Ad) : cnt [] x = 0 := rfl
theorem cnt_cons (p : Ar) (ps : List Ar) (x : Ad) : cnt (p :: ps) x = (if has p x = true then 1 else 0) + cnt ps x := by
  unfold cnt
  rw [List.flatMap_cons, List.count_append, cells_count]
theorem cnt_app (ps qs : List Ar) (x : Ad) : cnt (ps ++ qs) x = cnt ps x + cnt qs x := by
  unfold cnt
  rw [List.flatMap_append, List.count_append]
theorem cnt_filt (ps : List Ar) (x : Ad) : cnt (ps.filter neA) x = cnt ps x := by
  induction ps with
  | nil => rfl
  | cons p ps ih =>
    rw [List.filter_cons]
    split
    · rw [cnt_cons, cnt_cons, ih]
    · rename_i h
      rw [cnt_cons, ih]
      have : has p x = false := by
        cases e : has p x with
        | false => rfl
        | true =>
          rw [has_iff] at e
          exact absurd ((neA_iff p).mpr (by unfold ord; omega)) h
      rw [this]; simp
theorem wo_cnt (a b : Ar) (x : Ad) : cnt (wo a b) x = if has a x = true ∧ ¬ has b x = true then 1 else 0 := by
  unfold wo
  cases h : com a b with
  | none =>
    dsimp only
    have := com_none h x
    rw [cnt_cons, cnt_nil]
    by_cases h1 : has a x = true
    · rw [if_pos h1, if_pos ⟨h1, fun q => this ⟨h1, q⟩⟩]
    · rw [if_neg h1, if_neg (fun q => h1 q.1)]
  | some c =>
    dsimp only
    rw [cnt_filt]
    unfold four
    obtain ⟨o, hc, q1, q2, q3, q4⟩ := com_some h
    have hx := hc x
    have e : (if has a x = true ∧ ¬ has b x = true then 1 else 0) = if has a x = true ∧ ¬ has c x = true then 1 else 0 := by
      by_cases h1 : has a x = true
      · by_cases h2 : has b x = true
        · rw [if_neg (fun q => q.2 h2), if_neg (fun q => q.2 (hx.mpr ⟨h1, h2⟩))]
        · rw [if_pos ⟨h1, h2⟩, if_pos ⟨h1, fun q => h2 (hx.mp q).2⟩]
      · rw [if_neg (fun q => h1 q.1), if_neg (fun q => h1 q.1)]
    rw [e, cnt_cons, cnt_cons, cnt_cons, cnt_cons, cnt_nil]
    simp only [has_iff]
    unfold ord at o
    try dsimp only
    split <;> split <;> split <;> split <;> split <;> omega
theorem wo_ord {a b : Ar} (ha : ord a) : ∀ p ∈ wo a b, ord p := fun p hp => by
  unfold wo at hp
  cases h : com a b with
  | none => rw [h] at hp; rw [List.mem_singleton.mp hp]; exact ha
  | some c => rw [h] at hp; exact (neA_iff p).mp (List.mem_filter.mp hp).2
theorem wo_len (a b : Ar) : (wo a b).length ≤ 4 := by
  unfold wo
  cases h : com a b with
  | none => show 1 ≤ 4; omega
  | some c => exact List.length_filter_le _ _
/-- the corners stay within -/
def inn (a p : Ar) : Prop := a.1.1 ≤ p.1.1 ∧ a.1.2 ≤ p.1.2 ∧ p.2.1 ≤ a.2.1 ∧ p.2.2 ≤ a.2.2
theorem wo_in {a b : Ar} : ∀ p ∈ wo a b, inn a p := fun p hp => by
  unfold wo at hp
  cases h : com a b with
  | none => rw [h] at hp; rw [List.mem_singleton.mp hp]; exact ⟨Int.le_refl _, Int.le_refl _, Int.le_refl _, Int.le_refl _⟩
  | some c =>
    rw [h] at hp
    obtain ⟨o, hc, q1, q2, q3, q4⟩ := com_some h
    unfold ord at o
    have hm := (List.mem_filter.mp hp).1
    unfold four at hm
    unfold inn
    simp only [List.mem_cons, List.not_mem_nil, or_false] at hm
    rcases hm with rfl | rfl | rfl | rfl <;> dsimp only <;> omega
def step (ps : List Ar) (o : Ar) : List Ar := ps.flatMap fun p => wo p o
def wa (a : Ar) (os : List Ar) : List Ar := os.foldl step [a]
theorem step_cnt (o : Ar) (x : Ad) : ∀ ps : List Ar, cnt (step ps o) x = if has o x = true then 0 else cnt ps x
  | [] => by split <;> rfl
  | p :: ps => by
    show cnt ((p :: ps).flatMap fun p => wo p o) x = _
    rw [List.flatMap_cons, cnt_app, wo_cnt]
    have ih := step_cnt o x ps
    unfold step at ih
    rw [ih, cnt_cons]
    by_cases h : has o x = true
    · rw [if_pos h, if_pos h, if_neg (fun q => q.2 h)]
    · rw [if_neg h, if_neg h]
      by_cases hp : has p x = true
      · rw [if_pos ⟨hp, h⟩, if_pos hp]
      · rw [if_neg (fun q => hp q.1), if_neg hp]
theorem fold_cnt (x : Ad) : ∀ (os ps : List Ar), cnt (os.foldl step ps) x = if (∃ o ∈ os, has o x = true) then 0 else cnt ps x
  | [], ps => by rw [if_neg (fun ⟨o, h, _⟩ => nomatch h)]; rfl
  | o :: os, ps => by
    rw [List.foldl_cons, fold_cnt x os, step_cnt]
    by_cases h1 : ∃ o ∈ os, has o x = true
    · obtain ⟨q, h2, h3⟩ := h1
      rw [if_pos ⟨q, h2, h3⟩, if_pos ⟨q, List.mem_cons_of_mem _ h2, h3⟩]
    · rw [if_neg h1]
      by_cases h : has o x = true
      · rw [if_pos h, if_pos ⟨o, List.mem_cons_self, h⟩]
      · rw [if_neg h, if_neg (fun ⟨q, h2, h3⟩ => by
          rcases List.mem_cons.mp h2 with rfl | h2
          · exact h h3
          · exact h1 ⟨q, h2, h3⟩)]
theorem wa_cnt (a : Ar) (os : List Ar) (x : Ad) : cnt (wa a os) x = if has a x = true ∧ ¬ (∃ o ∈ os, has o x = true) then 1 else 0 := by
  unfold wa
  rw [fold_cnt, cnt_cons, cnt_nil]
  by_cases h : ∃ o ∈ os, has o x = true
  · rw [if_pos h, if_neg (fun q => q.2 h)]
  · rw [if_neg h]
    by_cases h2 : has a x = true
    · rw [if_pos h2, if_pos ⟨h2, h⟩]
    · rw [if_neg h2, if_neg (fun q => h2 q.1)]
theorem fold_all (a : Ar) : ∀ (os ps : List Ar), (∀ p ∈ ps, ord p ∧ inn a p) → (∀ p ∈ os.foldl step ps, ord p ∧ inn a p) ∧ (os.foldl step ps).length ≤ 4 ^ os.length * ps.length
  | [], ps, h => ⟨h, by simp⟩
  | o :: os, ps, h => by
    have h1 : ∀ p ∈ step ps o, ord p ∧ inn a p := fun p hp => by
      obtain ⟨q, h2, h3⟩ := List.mem_flatMap.mp hp
      have h4 := h q h2
      have h5 := wo_in p h3
      refine ⟨wo_ord h4.1 p h3, ?_⟩
      have := h4.2
      unfold inn at *
      omega
    have h2 : (step ps o).length ≤ 4 * ps.length := by
      have : ∀ ps : List Ar, (step ps o).length ≤ 4 * ps.length := fun ps => by
        induction ps with
        | nil => exact Nat.zero_le _
        | cons p ps ih =>
          show ((p :: ps).flatMap fun p => wo p o).length ≤ _
          rw [List.flatMap_cons, List.length_append, List.length_cons]
          have := wo_len p o
          unfold step at ih
          omega
      exact this ps
    obtain ⟨a1, a2⟩ := fold_all a os (step ps o) h1
    refine ⟨a1, Nat.le_trans a2 ?_⟩
    rw [List.length_cons, Nat.pow_succ]
    calc 4 ^ os.length * (step ps o).length ≤ 4 ^ os.length * (4 * ps.length) := Nat.mul_le_mul_left _ h2
      _ = 4 ^ os.length * 4 * ps.length := by rw [Nat.mul_assoc]
theorem wa_all {a : Ar} (ha : ord a) (os : List Ar) : (∀ p ∈ wa a os, ord p ∧ inn a p) ∧ (wa a os).length ≤ 4 ^ os.length := by
  have := fold_all a os [a] fun p hp => by
    rw [List.mem_singleton.mp hp]
    exact ⟨ha, Int.le_refl _, Int.le_refl _, Int.le_refl _, Int.le_refl _⟩
  rw [List.length_singleton, Nat.mul_one] at this
  exact this
end Law.R
namespace Law.R
open Law
open PySem L2 DL
abbrev rm (x y : Ad) : Prop := x.2 < y.2 ∨ (x.2 = y.2 ∧ x.1 < y.1)
theorem rowL_mem {c r : Int} {n : Nat} {x : Ad} (h : x ∈ rowL c n r) : x.2 = r ∧ c ≤ x.1 := by
  rw [← List.count_pos_iff, rowL_count] at h
  split at h
  · rename_i q; exact ⟨q.1, q.2.1⟩
  · omega
theorem rowL_pw : ∀ (n : Nat) (c r : Int), (rowL c n r).Pairwise rm
  | 0, _, _ => List.Pairwise.nil
  | n + 1, c, r => List.pairwise_cons.mpr ⟨fun y hy => by
      have := rowL_mem hy
      exact .inr ⟨this.1.symm, by show c < y.1; omega⟩, rowL_pw n (c + 1) r⟩
theorem rowsL_pw (c : Int) (nc : Nat) : ∀ (n : Nat) (r : Int), (rowsL c nc r n).Pairwise rm
  | 0, _ => List.Pairwise.nil
  | n + 1, r => List.pairwise_append.mpr ⟨rowL_pw nc c r, rowsL_pw c nc n (r + 1), fun x hx y hy => by
      have h1 := rowL_mem hx
      rw [← List.count_pos_iff, rowsL_count] at hy
      split at hy
      · rename_i q; exact .inl (by omega)
      · omega⟩
theorem cells_pw (a : Ar) : (cells a).Pairwise rm := rowsL_pw _ _ _ _
theorem pw_nodup {l : List Ad} (h : l.Pairwise rm) : l.Nodup := h.imp fun {a b} q e => by
  rw [e] at q
  omega
theorem sorted_eq {l m : List Ad} (hl : l.Pairwise rm) (hm : m.Pairwise rm) (h : ∀ x, x ∈ l ↔ x ∈ m) : l = m := by
  refine List.Perm.eq_of_pairwise (le := rm) (fun x y _ _ a b => ?_) hl hm ((List.perm_ext_iff_of_nodup (pw_nodup hl) (pw_nodup hm)).mpr h)
  omega
theorem cells_filt (a b : Ar) : (cells a).filter (fun x => has b x) = match com a b with | none => [] | some c => cells c := by
  cases h : com a b with
  | none =>
    dsimp only
    rw [List.filter_eq_nil_iff]
    intro x hx
    exact fun q => com_none h x ⟨(cells_mem a x).mp hx, q⟩
  | some c =>
    dsimp only
    refine sorted_eq ((cells_pw a).filter _) (cells_pw c) fun x => ?_
    rw [List.mem_filter, cells_mem, cells_mem, (com_some h).2.1]
theorem min_of {l : List Int} {m : Int} (h : m ∈ l) (h2 : ∀ y ∈ l, m ≤ y) : minI l = m := by
  have ne : l ≠ [] := fun e => by rw [e] at h; cases h
  have a := minI_le l m h
  have b := h2 _ (minI_mem l ne)
  omega
theorem max_of {l : List Int} {m : Int} (h : m ∈ l) (h2 : ∀ y ∈ l, y ≤ m) : maxI l = m := by
  have ne : l ≠ [] := fun e => by rw [e] at h; cases h
  have a := maxI_ge l m h
  have b := h2 _ (maxI_mem l ne)
  omega
theorem corner1 {c : Ar} (h : ord c) : c.1 ∈ cells c := (cells_mem c _).mpr ((has_iff c _).mpr (by unfold ord at h; omega))
theorem corner2 {c : Ar} (h : ord c) : c.2 ∈ cells c := (cells_mem c _).mpr ((has_iff c _).mpr (by unfold ord at h; omega))
theorem ext4 {c : Ar} (h : ord c) : minI ((cells c).map (·.1)) = c.1.1 ∧ maxI ((cells c).map (·.1)) = c.2.1 ∧ minI ((cells c).map (·.2)) = c.1.2 ∧ maxI ((cells c).map (·.2)) = c.2.2 := by
  have m : ∀ x ∈ cells c, c.1.1 ≤ x.1 ∧ x.1 ≤ c.2.1 ∧ c.1.2 ≤ x.2 ∧ x.2 ≤ c.2.2 := fun x hx => (has_iff c x).mp ((cells_mem c x).mp hx)
  refine ⟨min_of (List.mem_map.mpr ⟨_, corner1 h, rfl⟩) fun y hy => ?_, max_of (List.mem_map.mpr ⟨_, corner2 h, rfl⟩) fun y hy => ?_, min_of (List.mem_map.mpr ⟨_, corner1 h, rfl⟩) fun y hy => ?_, max_of (List.mem_map.mpr ⟨_, corner2 h, rfl⟩) fun y hy => ?_⟩ <;>
  · obtain ⟨x, hx, rfl⟩ := List.mem_map.mp hy
    have := m x hx
    omega
/-! the program's functions -/
def enO : Option Ar → D
  | some a => En.en a
  | none => .non
theorem rb_spec (x y : Ad) : m_range_between [En.en x, En.en y] = some (.ok (if x.1 ≤ y.1 ∧ x.2 ≤ y.2 then En.en ((x, y) : Ar) else .non)) := by
  obtain ⟨p, q⟩ := x; obtain ⟨r, s⟩ := y
  apply wpA.eq
  by_cases h1 : p ≤ r <;> by_cases h2 : q ≤ s <;> simp [m_range_between, b_range_between, en_ad, en_ar, h1, h2]
theorem callA2r (f : MA) (m k : EM) (s : DL.S) (M : List O) (x y d : D) (h1 : m s = some (.ok (.p x) M)) (h2 : k ⟨s.l, M⟩ = some (.ok (.p y) M)) (e : f [x, y] = some (.ok d)) : mCallA 2 f (aCons m (aCons k aNil)) s = some (.ok (.p d) M) := by
  unfold mCallA
  have h3 := aCons_run m (aCons k aNil) s M M (.p x) [.p y] h1 (aCons_run k aNil _ M M (.p y) [] h2 rfl)
  unfold bnd
  rw [h3]
  dsimp only
  rw [if_pos (show [DV.p x, DV.p y].length = 2 from rfl)]
  simp only [allP, Option.map_some, e]
theorem common_spec (a b : Ar) : m_common [En.en a, En.en b] = some (.ok (enO (com a b))) := by
  obtain ⟨⟨p, q⟩, r, s⟩ := a; obtain ⟨⟨u, v⟩, w, z⟩ := b
  have e3 := rb_spec (iMax p u, iMax q v) (iMin r w, iMin s z)
  have e4 : (if iMax p u ≤ iMin r w ∧ iMax q v ≤ iMin s z then En.en (((iMax p u, iMax q v), (iMin r w, iMin s z)) : Ar) else D.non) = enO (com ((p, q), (r, s)) ((u, v), (w, z))) := by
    unfold com
    dsimp only
    split <;> rfl
  dsimp only at e3
  rw [e4] at e3
  unfold m_common b_common
  generalize hX : En.en ((iMax p u, iMax q v) : Ad) = X at e3
  generalize hY : En.en ((iMin r w, iMin s z) : Ad) = Y at e3
  refine runA_of (s := (⟨[some (.p (En.en ((p, q), (r, s)))), some (.p (En.en ((u, v), (w, z)))), some (.p X), some (.p Y)], []⟩ : DL.S)) ?_
  rw [DL.seq_asg _ _ _ ⟨slotsOf 4 ([En.en ((p, q), (r, s)), En.en ((u, v), (w, z))].map .p), []⟩ ⟨[some (.p (En.en ((p, q), (r, s)))), some (.p (En.en ((u, v), (w, z)))), some (.p X), none], []⟩ (.p X) [] (by rw [← hX]; simp [e_bnd, en_ar, en_ad, dMax2, iMax]) rfl]
  rw [DL.seq_asg _ _ _ ⟨[some (.p (En.en ((p, q), (r, s)))), some (.p (En.en ((u, v), (w, z)))), some (.p X), none], []⟩ ⟨[some (.p (En.en ((p, q), (r, s)))), some (.p (En.en ((u, v), (w, z)))), some (.p X), some (.p Y)], []⟩ (.p Y) [] (by rw [← hY]; simp [e_bnd, en_ar, en_ad, dMin2, iMin]) rfl]
  exact ret_run _ _ _ _ (callA2r m_range_between (mVar 2) (mVar 3) _ [] X Y _ rfl rfl e3)
end Law.R
namespace Law.R
open Law
open PySem L2 DL
theorem iff_run_f (c : EM) (a K : SM) (s : DL.S) (M : List O) (r : Option (Fl × DL.S)) (h : c s = some (.ok (.p (.bl false)) M)) (h2 : K ⟨s.l, M⟩ = r) : sSeq (sIf c a sNil) K s = r := by
  rw [seq_nx _ _ _ _ (show sIf c a sNil s = some (.nx, ⟨s.l, M⟩) from by rw [sif_f _ _ _ _ _ h]; rfl)]
  exact h2
theorem iff_run_t (c : EM) (a K : SM) (s : DL.S) (M : List O) (d : DV) (s2 : DL.S) (h : c s = some (.ok (.p (.bl true)) M)) (h2 : a ⟨s.l, M⟩ = some (.rt d, s2)) : sSeq (sIf c a sNil) K s = some (.rt d, s2) := by
  unfold sSeq
  rw [sif_t _ _ _ _ _ h, h2]
theorem neA_test (p : Ar) (f : MA) (hf : f = m_range_between) (l : List (Option DV)) (i : Nat) (M : List O) (h : gv l i = some (.p (En.en p))) : (mNotN (mCallA 2 f (aCons (mIx (mVar i) (mC (.int 0))) (aCons (mIx (mVar i) (mC (.int 1))) aNil)))) ⟨l, M⟩ = some (.ok (.p (.bl (neA p))) M) := by
  subst hf
  obtain ⟨x, y⟩ := p
  have e := callA2r m_range_between (mIx (mVar i) (mC (.int 0))) (mIx (mVar i) (mC (.int 1))) ⟨l, M⟩ M (En.en x) (En.en y) _ (by simp [e_bnd, h, en_pr]) (by simp [e_bnd, h, en_pr]) (rb_spec x y)
  rw [e_notN, e_bnd, e]
  dsimp only
  have : (!isNV (.p (if x.1 ≤ y.1 ∧ x.2 ≤ y.2 then En.en ((x, y) : Ar) else D.non))) = neA (x, y) := by
    unfold neA
    dsimp only
    split
    · rename_i q; rw [decide_eq_true q]; rfl
    · rename_i q; rw [decide_eq_false q]; rfl
  rw [this]
theorem without_spec (a b : Ar) : m_without [En.en a, En.en b] = some (.ok (.lst ((wo a b).map En.en))) := by
  have hc := common_spec a b
  unfold m_without b_without
  unfold wo
  cases h : com a b with
  | none =>
    rw [h] at hc
    dsimp only
    refine runA_of (s := (⟨[some (.p (En.en a)), some (.p (En.en b)), some (.p .non), none, none, none, none, none, none, none, none, none, none], []⟩ : DL.S)) ?_
    rw [DL.seq_asg _ _ _ ⟨slotsOf 13 ([En.en a, En.en b].map .p), []⟩ ⟨[some (.p (En.en a)), some (.p (En.en b)), some (.p .non), none, none, none, none, none, none, none, none, none, none], []⟩ (.p .non) [] (callA2r m_common (mVar 0) (mVar 1) _ [] _ _ _ rfl rfl hc) rfl]
    unfold b_without_1
    exact iff_run_t _ _ _ _ [] _ _ rfl rfl
  | some c =>
    rw [h] at hc
    dsimp only
    obtain ⟨⟨p, q⟩, r, s⟩ := a; obtain ⟨⟨u, v⟩, w, z⟩ := c
    have hc : m_common [En.en (((p, q), (r, s)) : Ar), En.en b] = some (.ok (En.en (((u, v), (w, z)) : Ar))) := hc
    have e5 := filter_comp (α := Ar) (β := Ar) (l := [some (.p (En.en (((p, q), (r, s)) : Ar))), some (.p (En.en b)), some (.p (En.en (((u, v), (w, z)) : Ar))), some (.p (.int p)), some (.p (.int q)), some (.p (.int r)), some (.p (.int s)), some (.p (.int u)), some (.p (.int v)), some (.p (.int w)), some (.p (.int z)), some (.p (.lst ((four ((p, q), (r, s)) ((u, v), (w, z))).map En.en))), none]) (g := gN 12) (t := mNotN (mCallA 2 m_range_between (aCons (mIx (mVar 12) (mC (.int 0))) (aCons (mIx (mVar 12) (mC (.int 1))) aNil)))) (e := mVar 12) (M := []) id neA (four ((p, q), (r, s)) ((u, v), (w, z))) (fun x _ => ⟨_, rfl, rfl, neA_test x _ rfl _ 12 [] rfl, rfl⟩) (by show 4 ≤ 1000000; omega)
    rw [List.map_id] at e5
    refine runA_of (s := (⟨[some (.p (En.en (((p, q), (r, s)) : Ar))), some (.p (En.en b)), some (.p (En.en (((u, v), (w, z)) : Ar))), some (.p (.int p)), some (.p (.int q)), some (.p (.int r)), some (.p (.int s)), some (.p (.int u)), some (.p (.int v)), some (.p (.int w)), some (.p (.int z)), some (.p (.lst ((four ((p, q), (r, s)) ((u, v), (w, z))).map En.en))), none], []⟩ : DL.S)) ?_
    rw [DL.seq_asg _ _ _ ⟨slotsOf 13 ([En.en (((p, q), (r, s)) : Ar), En.en b].map .p), []⟩ ⟨[some (.p (En.en (((p, q), (r, s)) : Ar))), some (.p (En.en b)), some (.p (En.en (((u, v), (w, z)) : Ar))), none, none, none, none, none, none, none, none, none, none], []⟩ (.p (En.en (((u, v), (w, z)) : Ar))) [] (callA2r m_common (mVar 0) (mVar 1) _ [] _ _ _ rfl rfl hc) rfl]
    unfold b_without_1
    refine iff_run_f _ _ _ _ [] _ rfl ?_
    unfold b_without_2
    rw [DL.seq_asg _ _ _ _ ⟨[some (.p (En.en (((p, q), (r, s)) : Ar))), some (.p (En.en b)), some (.p (En.en (((u, v), (w, z)) : Ar))), some (.p (.int p)), some (.p (.int q)), some (.p (.int r)), some (.p (.int s)), none, none, none, none, none, none], []⟩ (.p (En.en (((p, q), (r, s)) : Ar))) [] rfl rfl]
    unfold b_without_3
    rw [DL.seq_asg _ _ _ _ ⟨[some (.p (En.en (((p, q), (r, s)) : Ar))), some (.p (En.en b)), some (.p (En.en (((u, v), (w, z)) : Ar))), some (.p (.int p)), some (.p (.int q)), some (.p (.int r)), some (.p (.int s)), some (.p (.int u)), some (.p (.int v)), some (.p (.int w)), some (.p (.int z)), none, none], []⟩ (.p (En.en (((u, v), (w, z)) : Ar))) [] rfl rfl]
    unfold b_without_4
    rw [DL.seq_asg _ _ _ _ ⟨[some (.p (En.en (((p, q), (r, s)) : Ar))), some (.p (En.en b)), some (.p (En.en (((u, v), (w, z)) : Ar))), some (.p (.int p)), some (.p (.int q)), some (.p (.int r)), some (.p (.int s)), some (.p (.int u)), some (.p (.int v)), some (.p (.int w)), some (.p (.int z)), some (.p (.lst ((four ((p, q), (r, s)) ((u, v), (w, z))).map En.en))), none], []⟩ (.p (.lst ((four ((p, q), (r, s)) ((u, v), (w, z))).map En.en))) [] (by simp [e_bnd, four, en_ar]) rfl]
    unfold b_without_5
    exact ret_run _ _ _ _ (DL.lcs _ [12] (gN 12) _ _ _ _ _ rfl e5)
theorem box_spec (l t r b : Int) : m_l_box [.int l, .int t, .int r, .int b] = some (.ok (.lst (([((l, t), (r, b))].filter neA).map En.en))) := by
  apply wpA.eq
  have e : ([(((l, t), (r, b)) : Ar)].filter neA).map (En.en : Ar → D) = if l ≤ r ∧ t ≤ b then [En.en (((l, t), (r, b)) : Ar)] else [] := by
    rw [List.filter_cons]
    have : neA ((l, t), (r, b)) = decide (l ≤ r ∧ t ≤ b) := rfl
    rw [this]
    by_cases h : l ≤ r ∧ t ≤ b
    · rw [decide_eq_true h, if_pos rfl, if_pos h]; rfl
    · rw [decide_eq_false h, if_neg Bool.false_ne_true, if_neg h]; rfl
  rw [e]
  by_cases h1 : l ≤ r <;> by_cases h2 : t ≤ b
  · simp [m_l_box, b_l_box, en_ar, h1, h2, show ¬ r < l by omega, show ¬ b < t by omega]
  · simp [m_l_box, b_l_box, en_ar, h1, h2, show ¬ r < l by omega, show b < t by omega]
  · simp [m_l_box, b_l_box, en_ar, h1, h2, show r < l by omega]
  · simp [m_l_box, b_l_box, en_ar, h1, h2, show r < l by omega]
end Law.R
namespace Law.R
open Law
open PySem L2 DL
theorem callA1x (f : MA) (m : EM) (s : DL.S) (M : List O) (x d : D) (h1 : m s = some (.ok (.p x) M)) (e : f [x] = some (.ok d)) : mCallA 1 f (aCons m aNil) s = some (.ok (.p d) M) := callA1r f m s M x d h1 e
theorem cb1r (g : D → Option D) (m : EM) (s : DL.S) (M : List O) (x d : D) (h1 : m s = some (.ok (.p x) M)) (e : g x = some d) : mCB (g1 g) (aCons m aNil) s = some (.ok (.p d) M) := by
  rw [e_cb, e_bnd, aCons_run m aNil s M M _ [] h1 rfl]
  dsimp only
  unfold DL.ret g1
  dsimp only
  rw [e]
theorem cat_en {α : Type} [DecidableEq α] [En α] (F G : List α) (h : F.length + G.length ≤ 1000000) : dAdd2 (.lst (F.map En.en)) (.lst (G.map En.en)) = some (.lst ((F ++ G).map En.en)) := by
  have h2 : (F.map (En.en : α → D)).length + (G.map (En.en : α → D)).length ≤ 1000000 := by rw [List.length_map, List.length_map]; omega
  rw [List.map_append]
  generalize F.map (En.en : α → D) = fd at *
  generalize G.map (En.en : α → D) = gd at *
  simp [h2]
theorem dec_has (b : Ar) (x : Ad) (i : Decidable (x ∈ cells b)) : @decide _ i = has b x := by
  cases i with
  | isTrue h => exact ((cells_mem b x).mp h).symm
  | isFalse h =>
    show false = _
    cases e : has b x with
    | false => rfl
    | true => exact absurd ((cells_mem b x).mpr e) h
theorem both_run (a b : Ar) (ha : okA a) (hb : okA b) (i j k : Nat) (l : List (Option DV)) (M : List O) (hi : gv l i = some (.p (En.en a))) (hj : ∀ x : D, gv ((wipeL l [k]).set k (some (.p x))) j = some (.p (En.en b))) (hk : ∀ x : D, gv ((wipeL l [k]).set k (some (.p x))) k = some (.p x)) :
    mLc (mItD itL (mCallA 1 m_l_cells (aCons (mVar i) aNil))) [k] (gN k) (mBin dIn (mVar k) (mCallA 1 m_l_cells (aCons (mVar j) aNil))) (mVar k) ⟨l, M⟩ = some (.ok (.p (.lst (((cells a).filter fun x => has b x).map En.en))) M) := by
  have ca := cells_spec a ha
  have cb := cells_spec b hb
  have vr : ∀ (l : List (Option DV)) (i : Nat) (d : DV), gv l i = some d → mVar i ⟨l, M⟩ = some (.ok d M) := fun l i d h => by unfold mVar; rw [h]
  have e1 := filter_comp (α := Ad) (β := Ad) (l := wipeL l [k]) (g := gN k) (t := mBin dIn (mVar k) (mCallA 1 m_l_cells (aCons (mVar j) aNil))) (e := mVar k) (M := M) id (fun x => has b x) (cells a) (fun x _ => by
    refine ⟨⟨(wipeL l [k]).set k (some (.p (En.en x))), M⟩, rfl, rfl, ?_, vr _ _ _ (hk _)⟩
    refine bin_run dIn _ _ _ M M _ _ _ (vr _ _ _ (hk (En.en x))) (callA1x m_l_cells (mVar j) _ M _ _ (vr _ _ _ (hj (En.en x))) cb) ?_
    unfold dIn
    rw [inD_en x (cells b) (by decide)]
    show some (D.bl _) = _
    congr 2
    exact dec_has b x _) (Nat.le_trans (cells_len a ha) (by decide))
  rw [List.map_id] at e1
  refine DL.lcs _ [k] (gN k) _ _ _ (((cells a).map En.en).map .p) _ ?_ e1
  rw [e_itD, e_bnd, callA1x m_l_cells (mVar i) ⟨l, M⟩ M _ _ (vr _ _ _ hi) ca]
  rfl
theorem proj_run {c : Ar} (h : ord c) (l : List (Option DV)) (i k : Nat) (M : List O) (j : Int) (f : Ad → Int) (g : D → Option D) (v : Int) (hl : (cells c).length ≤ 1000000) (hi : gv l i = some (.p (.lst ((cells c).map En.en)))) (hk : ∀ x : D, gv ((wipeL l [k]).set k (some (.p x))) k = some (.p x))
    (hj : ∀ x : Ad, atI [D.int x.1, D.int x.2] j = some (D.int (f x))) (hg : g (.lst (((cells c).map f).map D.int)) = some (.int v)) :
    mCB (g1 g) (aCons (mLc (mItD itL (mVar i)) [k] (gN k) tYesM (mIx (mVar k) (mC (.int j)))) aNil) ⟨l, M⟩ = some (.ok (.p (.int v)) M) := by
  have vr : ∀ (l : List (Option DV)) (i : Nat) (d : DV), gv l i = some d → mVar i ⟨l, M⟩ = some (.ok d M) := fun l i d h => by unfold mVar; rw [h]
  have e1 := DL.map_comp (α := Ad) (β := Int) (l := wipeL l [k]) (g := gN k) (e := mIx (mVar k) (mC (.int j))) (M := M) f (cells c) (fun x => ⟨⟨(wipeL l [k]).set k (some (.p (En.en x))), M⟩, rfl, rfl, by
    have q := vr _ k _ (hk (En.en x))
    rw [e_ix, e_bnd, q]
    have z := hj x
    simp [e_bnd, en_ad, z]
    rfl⟩) hl
  exact cb1r g _ _ M _ _ (DL.lcs _ [k] (gN k) _ _ ⟨l, M⟩ (((cells c).map En.en).map .p) _ (by rw [e_itD, e_bnd, vr _ _ _ hi]; rfl) e1) hg
theorem minL_ok {l : List Int} (h : l ≠ []) : dMinL (.lst (l.map D.int)) = some (.int (minI l)) := by
  unfold dMinL
  dsimp only
  rw [intsD_map]
  cases l with
  | nil => exact absurd rfl h
  | cons x l => rfl
theorem maxL_ok {l : List Int} (h : l ≠ []) : dMaxL (.lst (l.map D.int)) = some (.int (maxI l)) := by
  unfold dMaxL
  dsimp only
  rw [intsD_map]
  cases l with
  | nil => exact absurd rfl h
  | cons x l => rfl
theorem par_run (i j : Nat) (m k : EM) (K : SM) (s : DL.S) (x y : DV) (r : Option (Fl × DL.S)) (h1 : m s = some (.ok x s.m)) (h2 : k s = some (.ok y s.m)) (h3 : K ⟨(s.l.set i (some x)).set j (some y), s.m⟩ = r) : sSeq (sPar i j (aCons m (aCons k aNil))) K s = r := by
  have e : sPar i j (aCons m (aCons k aNil)) s = some (.nx, ⟨(s.l.set i (some x)).set j (some y), s.m⟩) := by
    have := aCons_run m (aCons k aNil) s s.m s.m x [y] h1 (aCons_run k aNil s s.m s.m y [] h2 rfl)
    rw [e_par, e_lift, this]
  rw [seq_nx _ _ _ _ e]
  exact h3
end Law.R
namespace Law.R
open Law
open PySem L2 DL
abbrev bx (l t r b : Int) : List Ar := [((l, t), (r, b))].filter neA
theorem bx_len (l t r b : Int) : (bx l t r b).length ≤ 1 := List.length_filter_le _ _
theorem box_run (f : MA) (hf : f = m_l_box) (m1 m2 m3 m4 : EM) (s : DL.S) (l t r b : Int) (h1 : m1 s = some (.ok (.p (.int l)) s.m)) (h2 : m2 s = some (.ok (.p (.int t)) s.m)) (h3 : m3 s = some (.ok (.p (.int r)) s.m)) (h4 : m4 s = some (.ok (.p (.int b)) s.m)) :
    mCallA 4 f (aCons m1 (aCons m2 (aCons m3 (aCons m4 aNil)))) s = some (.ok (.p (.lst ((bx l t r b).map En.en))) s.m) := by
  subst hf
  have e := box_spec l t r b
  unfold mCallA
  have h5 := aCons_run m1 _ s s.m s.m (.p (.int l)) _ h1 (aCons_run m2 _ s s.m s.m (.p (.int t)) _ h2 (aCons_run m3 _ s s.m s.m (.p (.int r)) _ h3 (aCons_run m4 aNil s s.m s.m (.p (.int b)) [] h4 rfl)))
  unfold bnd
  rw [h5]
  dsimp only
  rw [if_pos (show [DV.p (.int l), DV.p (.int t), DV.p (.int r), DV.p (.int b)].length = 4 from rfl)]
  simp only [allP, Option.map_some, e]
theorem four_bx (a c : Ar) : (four a c).filter neA = ((bx a.1.1 a.1.2 a.2.1 (c.1.2 - 1) ++ bx a.1.1 (c.2.2 + 1) a.2.1 a.2.2) ++ bx a.1.1 c.1.2 (c.1.1 - 1) c.2.2) ++ bx (c.2.1 + 1) c.1.2 a.2.1 c.2.2 := by
  unfold bx four
  rw [← List.filter_append, ← List.filter_append, ← List.filter_append]
  rfl
theorem left_spec (a b : Ar) (ha : okA a) (hb : okA b) : m_l_left [En.en a, En.en b] = some (.ok (.lst ((wo a b).map En.en))) := by
  have hf := cells_filt a b
  have hB : mLc (mItD itL (mCallA 1 m_l_cells (aCons (mVar 0) aNil))) [12] (gN 12) (mBin dIn (mVar 12) (mCallA 1 m_l_cells (aCons (mVar 1) aNil))) (mVar 12) ⟨slotsOf 13 ([En.en a, En.en b].map .p), []⟩ = _ := both_run a b ha hb 0 1 12 (slotsOf 13 ([En.en a, En.en b].map .p)) [] rfl (fun x => rfl) (fun x => rfl)
  rw [hf] at hB
  unfold m_l_left b_l_left
  cases h : com a b with
  | none =>
    rw [h] at hB
    dsimp only at hB
    have hw : wo a b = [a] := by unfold wo; rw [h]
    rw [hw]
    refine runA_of (s := (⟨[some (.p (En.en a)), some (.p (En.en b)), some (.p (.lst [])), none, none, none, none, none, none, none, none, none, none], []⟩ : DL.S)) ?_
    rw [DL.seq_asg _ _ _ _ ⟨[some (.p (En.en a)), some (.p (En.en b)), some (.p (.lst [])), none, none, none, none, none, none, none, none, none, none], []⟩ _ _ hB rfl]
    exact iff_run_t _ _ _ _ [] _ _ (by simp [e_bnd]) rfl
  | some c =>
    rw [h] at hB
    dsimp only at hB
    have hw : wo a b = ((bx a.1.1 a.1.2 a.2.1 (c.1.2 - 1) ++ bx a.1.1 (c.2.2 + 1) a.2.1 a.2.2) ++ bx a.1.1 c.1.2 (c.1.1 - 1) c.2.2) ++ bx (c.2.1 + 1) c.1.2 a.2.1 c.2.2 := by unfold wo; rw [h]; exact four_bx a c
    rw [hw]
    obtain ⟨oc, hc, q1, q2, q3, q4⟩ := com_some h
    have okc : okA c := by
      unfold okA ord at *
      omega
    have hl := cells_len c okc
    have ne : cells c ≠ [] := fun e => by
      have := corner1 oc
      rw [e] at this; cases this
    have nl : (cells c).length ≠ 0 := fun e => ne (List.length_eq_zero_iff.mp e)
    obtain ⟨x1, x2, x3, x4⟩ := ext4 oc
    have mne : ∀ f : Ad → Int, (cells c).map f ≠ [] := fun f e => ne (List.map_eq_nil_iff.mp e)
    have g1 := minL_ok (mne (·.1)); rw [x1] at g1
    have g2 := maxL_ok (mne (·.1)); rw [x2] at g2
    have g3 := minL_ok (mne (·.2)); rw [x3] at g3
    have g4 := maxL_ok (mne (·.2)); rw [x4] at g4
    have len0 : mBin dEq (mCB dLen (aCons (mVar 2) aNil)) (mC (.int 0)) ⟨[some (.p (En.en a)), some (.p (En.en b)), some (.p (.lst ((cells c).map En.en))), none, none, none, none, none, none, none, none, none, none], []⟩ = some (.ok (.p (.bl false)) []) := by
      have hm : ((cells c).map (En.en : Ad → D)).length = (cells c).length := List.length_map ..
      generalize (cells c).map (En.en : Ad → D) = z at *
      have : z.length ≤ 1000000 := by omega
      have n0 : z.length ≠ 0 := by omega
      have z0 : z ≠ [] := fun e => n0 (by rw [e]; rfl)
      simp [e_bnd, this, z0, n0]
    obtain ⟨⟨l, t⟩, r, bo⟩ := a
    obtain ⟨⟨u, v⟩, w, z⟩ := c
    dsimp only at *
    generalize hcl : (cells ((u, v), (w, z))) = cc at *
    have p3 := proj_run oc [some (.p (En.en (((l, t), (r, bo)) : Ar))), some (.p (En.en b)), some (.p (.lst (cc.map En.en))), none, none, none, none, none, none, none, none, none, none] 2 12 [] 0 (·.1) dMinL u (by rw [hcl]; omega) (by rw [hcl]; rfl) (fun x => rfl) (fun x => rfl) (by rw [hcl]; exact g1)
    have p4 := proj_run oc [some (.p (En.en (((l, t), (r, bo)) : Ar))), some (.p (En.en b)), some (.p (.lst (cc.map En.en))), none, none, none, none, none, none, none, none, none, none] 2 12 [] 0 (·.1) dMaxL w (by rw [hcl]; omega) (by rw [hcl]; rfl) (fun x => rfl) (fun x => rfl) (by rw [hcl]; exact g2)
    have p5 := proj_run oc [some (.p (En.en (((l, t), (r, bo)) : Ar))), some (.p (En.en b)), some (.p (.lst (cc.map En.en))), some (.p (.int u)), some (.p (.int w)), none, none, none, none, none, none, none, none] 2 12 [] 1 (·.2) dMinL v (by rw [hcl]; omega) (by rw [hcl]; rfl) (fun x => rfl) (fun x => rfl) (by rw [hcl]; exact g3)
    have p6 := proj_run oc [some (.p (En.en (((l, t), (r, bo)) : Ar))), some (.p (En.en b)), some (.p (.lst (cc.map En.en))), some (.p (.int u)), some (.p (.int w)), none, none, none, none, none, none, none, none] 2 12 [] 1 (·.2) dMaxL z (by rw [hcl]; omega) (by rw [hcl]; rfl) (fun x => rfl) (fun x => rfl) (by rw [hcl]; exact g4)
    refine runA_of (s := (⟨[some (.p (En.en (((l, t), (r, bo)) : Ar))), some (.p (En.en b)), some (.p (.lst (cc.map En.en))), some (.p (.int u)), some (.p (.int w)), some (.p (.int v)), some (.p (.int z)), some (.p (.int l)), some (.p (.int t)), some (.p (.int r)), some (.p (.int bo)), some (.p (.lst ((bx l t r (v - 1) ++ bx l (z + 1) r bo).map En.en))), none], []⟩ : DL.S)) ?_
    rw [DL.seq_asg _ _ _ _ ⟨[some (.p (En.en (((l, t), (r, bo)) : Ar))), some (.p (En.en b)), some (.p (.lst (cc.map En.en))), none, none, none, none, none, none, none, none, none, none], []⟩ _ _ hB rfl]
    refine iff_run_f _ _ _ _ [] _ len0 ?_
    refine par_run 3 4 _ _ _ _ _ _ _ p3 p4 ?_
    refine par_run 5 6 _ _ _ _ _ _ _ p5 p6 ?_
    rw [DL.seq_asg _ _ _ _ ⟨[some (.p (En.en (((l, t), (r, bo)) : Ar))), some (.p (En.en b)), some (.p (.lst (cc.map En.en))), some (.p (.int u)), some (.p (.int w)), some (.p (.int v)), some (.p (.int z)), some (.p (.int l)), some (.p (.int t)), some (.p (.int r)), some (.p (.int bo)), none, none], []⟩ (.p (En.en (((l, t), (r, bo)) : Ar))) [] rfl rfl]
    have b1 := bx_len l t r (v - 1)
    have b2 := bx_len l (z + 1) r bo
    have b3 := bx_len l v (u - 1) z
    have b4 := bx_len (w + 1) v r z
    rw [DL.seq_asg _ _ _ _ ⟨[some (.p (En.en (((l, t), (r, bo)) : Ar))), some (.p (En.en b)), some (.p (.lst (cc.map En.en))), some (.p (.int u)), some (.p (.int w)), some (.p (.int v)), some (.p (.int z)), some (.p (.int l)), some (.p (.int t)), some (.p (.int r)), some (.p (.int bo)), some (.p (.lst ((bx l t r (v - 1) ++ bx l (z + 1) r bo).map En.en))), none], []⟩ (.p (.lst ((bx l t r (v - 1) ++ bx l (z + 1) r bo).map En.en))) []
      (bin_run dAdd2 _ _ _ [] [] _ _ _ (box_run m_l_box rfl _ _ _ _ _ l t r (v - 1) rfl rfl rfl rfl) (box_run m_l_box rfl _ _ _ _ _ l (z + 1) r bo rfl (by simp [e_bnd]) rfl rfl) (cat_en _ _ (by omega))) rfl]
    exact ret_run _ _ _ _ (bin_run dAdd2 _ _ _ [] [] _ _ _ (bin_run dAdd2 _ _ _ [] [] _ _ _ rfl (box_run m_l_box rfl _ _ _ _ _ l v (u - 1) z rfl rfl rfl rfl) (cat_en _ _ (by rw [List.length_append]; omega))) (box_run m_l_box rfl _ _ _ _ _ (w + 1) v r z (by simp [e_bnd]) rfl rfl rfl) (cat_en _ _ (by rw [List.length_append, List.length_append]; omega)))
end Law.R
namespace Law.R
open Law
open PySem L2 DL
theorem compL_id (l : List (Option DV)) (i : Nat) (M : List O) (hi : ∀ x : D, gv (l.set i (some (.p x))) i = some (.p x)) : ∀ (xs acc : List D), acc.length + xs.length ≤ 1000000 → compL l (gN i) tYesM (mVar i) (xs.map .p) acc M = some (acc ++ xs, M)
  | [], acc, _ => by rw [List.append_nil]; rfl
  | x :: xs, acc, h => by
    rw [List.length_cons] at h
    rw [List.map_cons]
    unfold compL
    rw [show gN i (.p x) ⟨l, M⟩ = some ⟨l.set i (some (.p x)), M⟩ from rfl]
    dsimp only
    rw [show tYesM ⟨l.set i (some (.p x)), M⟩ = some (.ok (.p (.bl true)) M) from rfl]
    dsimp only
    rw [show mVar i ⟨l.set i (some (.p x)), M⟩ = some (.ok (.p x) M) from by unfold mVar; rw [hi x]]
    dsimp only
    rw [if_pos (by omega), compL_id l i M hi xs (acc ++ [x]) (by rw [List.length_append, List.length_singleton]; omega), List.append_assoc]
    rfl
theorem wa_comp (f : MA) (hf : f = m_without) (A B P : Option DV) (o : Ar) (M : List O) : ∀ (ps : List Ar) (acc : List D), acc.length + 4 * ps.length ≤ 1000000 →
    compL2 [A, B, P, some (.p (En.en o)), none, none] (gN 4) tYesM (mItD itL (mCallA 2 f (aCons (mVar 4) (aCons (mVar 3) aNil)))) (gN 5) tYesM (mVar 5) [5] ((ps.map En.en).map .p) acc M = some (acc ++ (step ps o).map En.en, M)
  | [], acc, _ => by unfold step; rw [List.flatMap_nil, List.map_nil, List.append_nil]; rfl
  | p :: ps, acc, h => by
    rw [List.length_cons] at h
    have hl := wo_len p o
    have e := without_spec p o
    rw [List.map_cons, List.map_cons]
    unfold compL2
    rw [show gN 4 (.p (En.en p)) ⟨[A, B, P, some (.p (En.en o)), none, none], M⟩ = some ⟨[A, B, P, some (.p (En.en o)), some (.p (En.en p)), none], M⟩ from rfl]
    dsimp only
    rw [show tYesM ⟨[A, B, P, some (.p (En.en o)), some (.p (En.en p)), none], M⟩ = some (.ok (.p (.bl true)) M) from rfl]
    dsimp only
    have it : mItD itL (mCallA 2 f (aCons (mVar 4) (aCons (mVar 3) aNil))) ⟨[A, B, P, some (.p (En.en o)), some (.p (En.en p)), none], M⟩ = some (.ok (((wo p o).map En.en).map .p) M) := by
      subst hf
      rw [e_itD, e_bnd, callA2r m_without (mVar 4) (mVar 3) _ M _ _ _ rfl rfl e]
      rfl
    rw [it]
    dsimp only
    rw [show compL (wipeL [A, B, P, some (.p (En.en o)), some (.p (En.en p)), none] [5]) (gN 5) tYesM (mVar 5) (((wo p o).map En.en).map .p) acc M = some (acc ++ (wo p o).map En.en, M) from compL_id _ 5 M (fun x => rfl) _ _ (by rw [List.length_map]; omega)]
    dsimp only
    rw [wa_comp f hf A B P o M ps _ (by rw [List.length_append, List.length_map]; omega)]
    unfold step
    rw [List.flatMap_cons, List.map_append, List.append_assoc]
theorem okA_in {a p : Ar} (h : okA a) (o : ord p) (i : inn a p) : okA p := by
  unfold okA ord inn at *
  omega
theorem step_len (ps : List Ar) (o : Ar) : (step ps o).length ≤ 4 * ps.length := by
  induction ps with
  | nil => exact Nat.zero_le _
  | cons p ps ih =>
    show ((p :: ps).flatMap fun p => wo p o).length ≤ _
    rw [List.flatMap_cons, List.length_append, List.length_cons]
    have := wo_len p o
    unfold step at ih
    omega
theorem step_in {a : Ar} {ps : List Ar} (h : ∀ p ∈ ps, ord p ∧ inn a p) (o : Ar) : ∀ p ∈ step ps o, ord p ∧ inn a p := fun p hp => by
  obtain ⟨q, h2, h3⟩ := List.mem_flatMap.mp hp
  have h4 := h q h2
  have h5 := wo_in p h3
  refine ⟨wo_ord h4.1 p h3, ?_⟩
  have := h4.2
  unfold inn at *
  omega
theorem wa_loop (f : MA) (hf : f = m_without) (A B : Option DV) : ∀ (os ps : List Ar) (s3 : Option DV), 4 ^ os.length * ps.length ≤ 100000 → ∃ s3',
    loopS (gN 3) (sAsg (mLc2 (mItD itL (mVar 2)) [4, 5] (gN 4) tYesM (mItD itL (mCallA 2 f (aCons (mVar 4) (aCons (mVar 3) aNil)))) [5] (gN 5) tYesM (mVar 5)) (gN 2)) ((os.map En.en).map .p) ⟨[A, B, some (.p (.lst (ps.map En.en))), s3, none, none], []⟩
      = some (.nx, ⟨[A, B, some (.p (.lst ((os.foldl step ps).map En.en))), s3', none, none], []⟩)
  | [], ps, s3, _ => ⟨s3, rfl⟩
  | o :: os, ps, s3, h => by
    rw [List.length_cons, Nat.pow_succ] at h
    have hs := step_len ps o
    have h2 : 4 ^ os.length * (step ps o).length ≤ 100000 := Nat.le_trans (Nat.mul_le_mul_left _ hs) (by rw [← Nat.mul_assoc]; exact h)
    have h3 : 4 * ps.length ≤ 100000 := by
      have : 1 ≤ 4 ^ os.length := Nat.one_le_pow _ _ (by decide)
      have : 1 * (4 * ps.length) ≤ 4 ^ os.length * (4 * ps.length) := Nat.mul_le_mul_right _ this
      have q : 4 ^ os.length * (4 * ps.length) = 4 ^ os.length * 4 * ps.length := (Nat.mul_assoc ..).symm
      omega
    obtain ⟨s3', ih⟩ := wa_loop f hf A B os (step ps o) (some (.p (En.en o))) h2
    refine ⟨s3', ?_⟩
    rw [List.map_cons, List.map_cons, loopS_cons]
    rw [show gN 3 (.p (En.en o)) ⟨[A, B, some (.p (.lst (ps.map En.en))), s3, none, none], []⟩ = some ⟨[A, B, some (.p (.lst (ps.map En.en))), some (.p (En.en o)), none, none], []⟩ from rfl]
    dsimp only
    have e1 : mLc2 (mItD itL (mVar 2)) [4, 5] (gN 4) tYesM (mItD itL (mCallA 2 f (aCons (mVar 4) (aCons (mVar 3) aNil)))) [5] (gN 5) tYesM (mVar 5) ⟨[A, B, some (.p (.lst (ps.map En.en))), some (.p (En.en o)), none, none], []⟩ = some (.ok (.p (.lst ((step ps o).map En.en))) []) := by
      have c := wa_comp f hf A B (some (.p (.lst (ps.map En.en)))) o [] ps [] (by rw [List.length_nil]; omega)
      rw [List.nil_append] at c
      unfold mLc2
      rw [e_bnd]
      show (match compL2 [A, B, some (.p (.lst (ps.map En.en))), some (.p (En.en o)), none, none] (gN 4) tYesM (mItD itL (mCallA 2 f (aCons (mVar 4) (aCons (mVar 3) aNil)))) (gN 5) tYesM (mVar 5) [5] ((ps.map En.en).map .p) [] [] with | some (acc, M) => some (Rs.ok (DV.p (D.lst acc)) M) | none => none) = _
      rw [c]
    rw [asg_run _ (gN 2) _ _ [] _ e1 rfl]
    dsimp only
    exact ih
theorem wall_spec (a : Ar) (os : List Ar) (h : os.length ≤ 5) : m_without_all [En.en a, .lst (os.map En.en)] = some (.ok (.lst ((wa a os).map En.en))) := by
  have h5 : 4 ^ os.length ≤ 1024 := Nat.le_trans (Nat.pow_le_pow_right (by decide) h) (by decide)
  obtain ⟨s3', lp⟩ := wa_loop m_without rfl (some (.p (En.en a))) (some (.p (.lst (os.map En.en)))) os [a] none (by rw [List.length_singleton]; omega)
  unfold m_without_all b_without_all
  refine runA_of (s := (⟨[some (.p (En.en a)), some (.p (.lst (os.map En.en))), some (.p (.lst ((wa a os).map En.en))), s3', none, none], []⟩ : DL.S)) ?_
  rw [DL.seq_asg _ _ _ _ ⟨[some (.p (En.en a)), some (.p (.lst (os.map En.en))), some (.p (.lst ([a].map En.en))), none, none, none], []⟩ (.p (.lst ([a].map En.en))) [] rfl rfl]
  rw [seq_nx _ _ _ _ (for_run _ _ _ _ _ _ _ rfl lp)]
  exact ret_run _ _ _ _ rfl
/-! the law's own -/
theorem la_in (f : MA) (hf : f = m_l_left) (A B P : Option DV) (o : Ar) (ho : okA o) : ∀ (ps acc : List Ar) (s5 : Option DV), (∀ p ∈ ps, okA p) → acc.length + 4 * ps.length ≤ 1000000 → ∃ s5',
    loopS (gN 5) (sAsg (mBin dAdd2 (mVar 4) (mCallA 2 f (aCons (mVar 5) (aCons (mVar 3) aNil)))) (gN 4)) ((ps.map En.en).map .p) ⟨[A, B, P, some (.p (En.en o)), some (.p (.lst (acc.map En.en))), s5], []⟩
      = some (.nx, ⟨[A, B, P, some (.p (En.en o)), some (.p (.lst ((acc ++ step ps o).map En.en))), s5'], []⟩)
  | [], acc, s5, _, _ => ⟨s5, by unfold step; rw [List.flatMap_nil, List.append_nil]; rfl⟩
  | p :: ps, acc, s5, hp, h => by
    rw [List.length_cons] at h
    have hl := wo_len p o
    have e := left_spec p o (hp p List.mem_cons_self) ho
    obtain ⟨s5', ih⟩ := la_in f hf A B P o ho ps (acc ++ wo p o) (some (.p (En.en p))) (fun q hq => hp q (List.mem_cons_of_mem _ hq)) (by rw [List.length_append]; omega)
    refine ⟨s5', ?_⟩
    rw [List.map_cons, List.map_cons, loopS_cons]
    rw [show gN 5 (.p (En.en p)) ⟨[A, B, P, some (.p (En.en o)), some (.p (.lst (acc.map En.en))), s5], []⟩ = some ⟨[A, B, P, some (.p (En.en o)), some (.p (.lst (acc.map En.en))), some (.p (En.en p))], []⟩ from rfl]
    dsimp only
    have e1 : mBin dAdd2 (mVar 4) (mCallA 2 f (aCons (mVar 5) (aCons (mVar 3) aNil))) ⟨[A, B, P, some (.p (En.en o)), some (.p (.lst (acc.map En.en))), some (.p (En.en p))], []⟩ = some (.ok (.p (.lst ((acc ++ wo p o).map En.en))) []) := by
      subst hf
      exact bin_run dAdd2 _ _ _ [] [] _ _ _ rfl (callA2r m_l_left (mVar 5) (mVar 3) _ [] _ _ _ rfl rfl e) (cat_en _ _ (by omega))
    rw [asg_run _ (gN 4) _ _ [] _ e1 rfl]
    dsimp only
    refine ih.trans ?_
    unfold step
    rw [List.flatMap_cons, List.append_assoc]
noncomputable abbrev laB (f : MA) : SM := (sSeq (sAsg (disp .lst aNil) (gN 4))
  (sSeq (sFor (mItD itL (mVar 2)) (gN 5) (sAsg (mBin dAdd2 (mVar 4) (mCallA 2 f (aCons (mVar 5) (aCons (mVar 3) aNil)))) (gN 4)))
  (sAsg (mVar 4) (gN 2))))
theorem la_loop (f : MA) (hf : f = m_l_left) (A B : Option DV) {a : Ar} (ha : okA a) : ∀ (os ps : List Ar) (s3 s4 s5 : Option DV), (∀ o ∈ os, okA o) → (∀ p ∈ ps, ord p ∧ inn a p) → 4 ^ os.length * ps.length ≤ 100000 → ∃ s3' s4' s5',
    loopS (gN 3) (laB f) ((os.map En.en).map .p) ⟨[A, B, some (.p (.lst (ps.map En.en))), s3, s4, s5], []⟩
      = some (.nx, ⟨[A, B, some (.p (.lst ((os.foldl step ps).map En.en))), s3', s4', s5'], []⟩)
  | [], ps, s3, s4, s5, _, _, _ => ⟨s3, s4, s5, rfl⟩
  | o :: os, ps, s3, s4, s5, ho, hp, h => by
    rw [List.length_cons, Nat.pow_succ] at h
    have hs := step_len ps o
    have h2 : 4 ^ os.length * (step ps o).length ≤ 100000 := Nat.le_trans (Nat.mul_le_mul_left _ hs) (by rw [← Nat.mul_assoc]; exact h)
    have h3 : 4 * ps.length ≤ 100000 := by
      have : 1 ≤ 4 ^ os.length := Nat.one_le_pow _ _ (by decide)
      have : 1 * (4 * ps.length) ≤ 4 ^ os.length * (4 * ps.length) := Nat.mul_le_mul_right _ this
      have q : 4 ^ os.length * (4 * ps.length) = 4 ^ os.length * 4 * ps.length := (Nat.mul_assoc ..).symm
      omega
    obtain ⟨s5a, i1⟩ := la_in f hf A B (some (.p (.lst (ps.map En.en)))) o (ho o List.mem_cons_self) ps [] s5 (fun p hq => okA_in ha (hp p hq).1 (hp p hq).2) (by rw [List.length_nil]; omega)
    rw [List.nil_append] at i1
    obtain ⟨s3', s4', s5', ih⟩ := la_loop f hf A B ha os (step ps o) (some (.p (En.en o))) (some (.p (.lst ((step ps o).map En.en)))) s5a (fun q hq => ho q (List.mem_cons_of_mem _ hq)) (step_in hp o) h2
    refine ⟨s3', s4', s5', ?_⟩
    rw [List.map_cons, List.map_cons, loopS_cons]
    rw [show gN 3 (.p (En.en o)) ⟨[A, B, some (.p (.lst (ps.map En.en))), s3, s4, s5], []⟩ = some ⟨[A, B, some (.p (.lst (ps.map En.en))), some (.p (En.en o)), s4, s5], []⟩ from rfl]
    dsimp only
    have e1 : laB f ⟨[A, B, some (.p (.lst (ps.map En.en))), some (.p (En.en o)), s4, s5], []⟩ = some (.nx, ⟨[A, B, some (.p (.lst ((step ps o).map En.en))), some (.p (En.en o)), some (.p (.lst ((step ps o).map En.en))), s5a], []⟩) := by
      unfold laB
      rw [DL.seq_asg _ _ _ _ ⟨[A, B, some (.p (.lst (ps.map En.en))), some (.p (En.en o)), some (.p (.lst (([] : List Ar).map En.en))), s5], []⟩ (.p (.lst (([] : List Ar).map En.en))) [] rfl rfl]
      rw [seq_nx _ _ _ _ (for_run _ _ _ _ _ _ _ rfl i1)]
      exact asg_run _ (gN 2) _ _ [] _ rfl rfl
    rw [e1]
    dsimp only
    exact ih
theorem lall_spec {a : Ar} (ha : okA a) (oa : ord a) {os : List Ar} (ho : ∀ o ∈ os, okA o) (h : os.length ≤ 5) : m_l_all [En.en a, .lst (os.map En.en)] = some (.ok (.lst ((wa a os).map En.en))) := by
  have h5 : 4 ^ os.length ≤ 1024 := Nat.le_trans (Nat.pow_le_pow_right (by decide) h) (by decide)
  obtain ⟨s3', s4', s5', lp⟩ := la_loop m_l_left rfl (some (.p (En.en a))) (some (.p (.lst (os.map En.en)))) ha os [a] none none none ho (fun p hp => by
    rw [List.mem_singleton.mp hp]
    exact ⟨oa, Int.le_refl _, Int.le_refl _, Int.le_refl _, Int.le_refl _⟩) (by rw [List.length_singleton]; omega)
  unfold m_l_all b_l_all
  refine runA_of (s := (⟨[some (.p (En.en a)), some (.p (.lst (os.map En.en))), some (.p (.lst ((wa a os).map En.en))), s3', s4', s5'], []⟩ : DL.S)) ?_
  rw [DL.seq_asg _ _ _ _ ⟨[some (.p (En.en a)), some (.p (.lst (os.map En.en))), some (.p (.lst ([a].map En.en))), none, none, none], []⟩ (.p (.lst ([a].map En.en))) [] rfl rfl]
  rw [seq_nx _ _ _ _ (for_run _ _ _ _ _ _ _ rfl lp)]
  exact ret_run _ _ _ _ rfl
end Law.R
namespace Law.R
open Law
open PySem L2 DL
/-- the drawn areas -/
def sm (a : Ar) : Prop := 3 ≤ a.1.1 ∧ 7 ≤ a.1.2 ∧ a.2.1 ≤ 7 ∧ a.2.2 ≤ 11
theorem sm_ok {a : Ar} (h : sm a) (o : ord a) : okA a := by unfold sm ord okA at *; omega
theorem sm_in {a p : Ar} (h : sm a) (i : inn a p) : sm p := by unfold sm inn at *; omega
theorem sm_len {a : Ar} (h : sm a) : (cells a).length ≤ 25 := by
  unfold cells
  rw [rowsL_len]
  unfold sm at h
  have h1 : (a.2.2 + 1 - a.1.2).toNat ≤ 5 := by omega
  have h2 : (a.2.1 + 1 - a.1.1).toNat ≤ 5 := by omega
  exact Nat.mul_le_mul h1 h2
def spr (as : List Ar) : List Ad := (as.flatMap cells).mergeSort lxA
theorem spr_loop (A : Option DV) : ∀ (as : List Ar) (acc : List Ad) (s2 : Option DV), (∀ a ∈ as, sm a ∧ ord a) → acc.length + 25 * as.length ≤ 1000000 → ∃ s2',
    loopS (gN 2) (sAsg (mBin dAdd2 (mVar 1) (mCallA 1 m_l_cells (aCons (mVar 2) aNil))) (gN 1)) ((as.map En.en).map .p) ⟨[A, some (.p (.lst (acc.map En.en))), s2], []⟩ = some (.nx, ⟨[A, some (.p (.lst ((acc ++ as.flatMap cells).map En.en))), s2'], []⟩)
  | [], acc, s2, _, _ => ⟨s2, by rw [List.flatMap_nil, List.append_nil]; rfl⟩
  | a :: as, acc, s2, h, hl => by
    rw [List.length_cons] at hl
    have ha := h a List.mem_cons_self
    have hc := sm_len ha.1
    have e := cells_spec a (sm_ok ha.1 ha.2)
    obtain ⟨s2', ih⟩ := spr_loop A as (acc ++ cells a) (some (.p (En.en a))) (fun b hb => h b (List.mem_cons_of_mem _ hb)) (by rw [List.length_append]; omega)
    refine ⟨s2', ?_⟩
    rw [List.map_cons, List.map_cons, loopS_cons]
    rw [show gN 2 (.p (En.en a)) ⟨[A, some (.p (.lst (acc.map En.en))), s2], []⟩ = some ⟨[A, some (.p (.lst (acc.map En.en))), some (.p (En.en a))], []⟩ from rfl]
    dsimp only
    rw [asg_run _ (gN 1) _ _ [] _ (bin_run dAdd2 _ _ _ [] [] _ _ _ rfl (callA1x m_l_cells (mVar 2) _ [] _ _ rfl e) (cat_en _ _ (by omega))) rfl]
    dsimp only
    refine ih.trans ?_
    rw [List.flatMap_cons, List.append_assoc]
theorem spr_spec {as : List Ar} (h : ∀ a ∈ as, sm a ∧ ord a) (hl : as.length ≤ 30000) : m_l_spread [.lst (as.map En.en)] = some (.ok (.lst ((spr as).map En.en))) := by
  obtain ⟨s2', lp⟩ := spr_loop (some (.p (.lst (as.map En.en)))) as [] none h (by rw [List.length_nil]; omega)
  unfold m_l_spread b_l_spread
  refine runA_of (s := (⟨[some (.p (.lst (as.map En.en))), some (.p (.lst ((as.flatMap cells).map En.en))), s2'], []⟩ : DL.S)) ?_
  rw [DL.seq_asg _ _ _ _ ⟨[some (.p (.lst (as.map En.en))), some (.p (.lst (([] : List Ad).map En.en))), none], []⟩ (.p (.lst (([] : List Ad).map En.en))) [] rfl rfl]
  rw [seq_nx _ _ _ _ (for_run _ _ _ _ _ _ _ rfl lp)]
  exact ret_run _ _ _ _ (cb1r dSort _ _ _ _ _ rfl (dSort_ad _))
theorem covered_spec (a : Ar) (os : List Ar) (h : os.length ≤ 5) : m_covered [En.en a, .lst (os.map En.en)] = some (.ok (.bl (decide (wa a os = [])))) := by
  unfold m_covered b_covered
  refine runA_of (s := (⟨slotsOf 2 ([En.en a, .lst (os.map En.en)].map .p), []⟩ : DL.S)) ?_
  refine ret_run _ _ _ _ (bin_run dEq _ _ _ [] [] _ (.lst (([] : List Ar).map En.en)) _ (callA2r m_without_all (mVar 0) (mVar 1) _ [] _ _ _ rfl rfl (wall_spec a os h)) rfl ?_)
  show (eqD (En.en (wa a os)) (En.en ([] : List Ar))).map D.bl = _
  rw [eqD_en _ _ (by decide)]
  rfl
/-! all areas taken apart -/
def dj : List Ar → List Ar → List Ar
  | _, [] => []
  | pre, a :: r => wa a pre ++ dj (pre ++ [a]) r
theorem wa_len (a : Ar) (ha : ord a) {os : List Ar} (h : os.length ≤ 5) : (wa a os).length ≤ 1024 := Nat.le_trans (wa_all ha os).2 (Nat.le_trans (Nat.pow_le_pow_right (by decide) h) (by decide))
theorem dj_len : ∀ (r pre : List Ar), (∀ a ∈ r, ord a) → pre.length + r.length ≤ 5 → (dj pre r).length ≤ 1024 * r.length
  | [], _, _, _ => Nat.zero_le _
  | a :: r, pre, h, hl => by
    rw [List.length_cons] at hl
    show (wa a pre ++ dj (pre ++ [a]) r).length ≤ _
    rw [List.length_append, List.length_cons]
    have := wa_len a (h a List.mem_cons_self) (os := pre) (by omega)
    have := dj_len r (pre ++ [a]) (fun b hb => h b (List.mem_cons_of_mem _ hb)) (by rw [List.length_append, List.length_singleton]; omega)
    omega
theorem sl_from (as : List Ar) : slE (.lst (as.map En.en)) (some 1) none = some (.lst ((as.drop 1).map En.en)) := by
  show some (D.lst (cutD (as.map En.en) (some ((1 : Nat) : Int)) none)) = _
  rw [cut_from, List.map_drop]
theorem dj_loop (as : List Ar) (k : Nat) : ∀ (r pre acc : List Ar) (s2 s3 : Option DV), as = pre ++ r → as.length ≤ 5 → (∀ a ∈ as, ord a) → acc.length + 1024 * r.length ≤ 1000000 → ∃ s2' s3',
    loopS (gT 2 (gsCons (gN 2) (gsCons (gN 3) gsNil))) (sExpr (mMth "list" gExt (mVar 1) (aCons (mCallA 2 m_without_all (aCons (mVar 3) (aCons (mSlE (mVar 0) pNone (pSome (mVar 2))) aNil))) aNil))) (enumD (r.map En.en) pre.length) ⟨[some (.p (.lst (as.map En.en))), some (.o 0), s2, s3], [.lst ((acc.map En.en).map .p)]⟩
      = some (.nx, ⟨[some (.p (.lst (as.map En.en))), some (.o 0), s2', s3'], [.lst (((acc ++ dj pre r).map En.en).map .p)]⟩)
  | [], pre, acc, s2, s3, _, _, _, _ => ⟨s2, s3, by unfold dj; rw [List.append_nil]; rfl⟩
  | a :: r, pre, acc, s2, s3, he, h5, ho, hl => by
    rw [List.length_cons] at hl
    have hpre : pre.length ≤ 5 := by rw [he, List.length_append, List.length_cons] at h5; omega
    have hw := wa_len a (ho a (by rw [he]; exact List.mem_append_right _ List.mem_cons_self)) (os := pre) hpre
    have e := wall_spec a pre hpre
    obtain ⟨s2', s3', ih⟩ := dj_loop as k r (pre ++ [a]) (acc ++ wa a pre) (some (.p (.int (pre.length : Nat)))) (some (.p (En.en a))) (by rw [he, List.append_assoc]; rfl) h5 ho (by rw [List.length_append]; omega)
    refine ⟨s2', s3', ?_⟩
    rw [List.map_cons]
    unfold enumD
    rw [loopS_cons]
    rw [show gT 2 (gsCons (gN 2) (gsCons (gN 3) gsNil)) (.p (.tup [.int (pre.length : Nat), En.en a])) ⟨[some (.p (.lst (as.map En.en))), some (.o 0), s2, s3], [.lst ((acc.map En.en).map .p)]⟩ = some ⟨[some (.p (.lst (as.map En.en))), some (.o 0), some (.p (.int (pre.length : Nat))), some (.p (En.en a))], [.lst ((acc.map En.en).map .p)]⟩ from rfl]
    dsimp only
    have tk : as.take pre.length = pre := by rw [he]; exact List.take_left' rfl
    have sl : cutD (as.map (En.en : Ar → D)) none (some (pre.length : Int)) = pre.map En.en := by rw [cut_to, ← List.map_take, tk]
    have e1 : mSlE (mVar 0) pNone (pSome (mVar 2)) ⟨[some (.p (.lst (as.map En.en))), some (.o 0), some (.p (.int (pre.length : Nat))), some (.p (En.en a))], [.lst ((acc.map En.en).map .p)]⟩ = some (.ok (.p (.lst (pre.map En.en))) [.lst ((acc.map En.en).map .p)]) := by
      generalize (pre.length : Int) = j at sl ⊢
      generalize as.map (En.en : Ar → D) = z at sl ⊢
      generalize pre.map (En.en : Ar → D) = w at sl ⊢
      generalize acc.map (En.en : Ar → D) = y
      simp [e_bnd, sl]
    have e2 := ext_run 1 0 (mCallA 2 m_without_all (aCons (mVar 3) (aCons (mSlE (mVar 0) pNone (pSome (mVar 2))) aNil))) [some (.p (.lst (as.map En.en))), some (.o 0), some (.p (.int (pre.length : Nat))), some (.p (En.en a))] [.lst ((acc.map En.en).map .p)] ((acc.map En.en).map .p) ((wa a pre).map En.en) rfl rfl (by rw [List.length_map, List.length_map, List.length_map]; omega) (callA2r m_without_all (mVar 3) _ _ _ _ _ _ rfl e1 e)
    rw [e2]
    dsimp only
    rw [List.length_append, List.length_singleton] at ih
    refine Eq.trans (congrArg (fun z => loopS _ _ _ ⟨_, z⟩) ?_) (ih.trans ?_)
    · show [O.lst ((acc.map En.en).map .p ++ ((wa a pre).map En.en).map .p)] = _
      rw [← List.map_append, ← List.map_append]
    · show _ = some (Fl.nx, (⟨_, [.lst (((acc ++ (wa a pre ++ dj (pre ++ [a]) r)).map En.en).map .p)]⟩ : DL.S))
      rw [← List.append_assoc]
theorem disjoint_spec {as : List Ar} (h5 : as.length ≤ 5) (ho : ∀ a ∈ as, ord a) : m_disjoint [.lst (as.map En.en)] = some (.ok (.lst ((dj [] as).map En.en))) := by
  obtain ⟨s2', s3', lp⟩ := dj_loop as 0 as [] [] none none rfl h5 ho (by rw [List.length_nil]; omega)
  rw [List.nil_append] at lp
  unfold m_disjoint b_disjoint
  refine runA_of (s := (⟨[some (.p (.lst (as.map En.en))), some (.o 0), s2', s3'], [.gone]⟩ : DL.S)) ?_
  rw [DL.seq_asg _ _ _ _ ⟨[some (.p (.lst (as.map En.en))), some (.o 0), none, none], [.lst []]⟩ (.o 0) [.lst []] rfl rfl]
  have it : mEnum (aCons (mVar 0) aNil) ⟨[some (.p (.lst (as.map En.en))), some (.o 0), none, none], [.lst []]⟩ = some (.ok (enumD (as.map En.en) 0) [.lst []]) := rfl
  rw [seq_nx _ _ _ _ (for_run _ _ _ _ _ _ _ it lp)]
  exact ret_run _ _ _ _ (frz_runM (mVar 1) _ [.lst (((dj [] as).map En.en).map .p)] 0 ((dj [] as).map En.en) rfl rfl)
end Law.R
namespace Law.R
open Law
open PySem L2 DL
/-! counted -/
theorem co_comp (A : Option DV) (l t r b : Int) (nc : Nat) (hn : (r + 1 - l).toNat = nc) (g1 : rngOk l = true) (g2 : rngOk (r + 1) = true) : ∀ (n : Nat) (row : Int) (acc : List D), acc.length + n * nc ≤ 1000000 →
    compL2 [A, some (.p (.int l)), some (.p (.int t)), some (.p (.int r)), some (.p (.int b)), none, none] (gN 5) tYesM (mRng rng2D (aCons (mVar 1) (aCons (mBin dAdd (mVar 3) (mC (.int 1))) aNil))) (gN 6) tYesM (disp .tup (aCons (mVar 6) (aCons (mVar 5) aNil))) [6] (DL.intsFrom row n) acc [] = some (acc ++ (rowsL l nc row n).map En.en, [])
  | 0, row, acc, _ => by rw [ints0]; simp [compL2, rowsL]
  | n + 1, row, acc, hl => by
    have hl2 : acc.length + (n * nc + nc) ≤ 1000000 := by rw [Nat.succ_mul] at hl; exact hl
    rw [intsS]
    unfold compL2
    rw [show gN 5 (.p (.int row)) ⟨[A, some (.p (.int l)), some (.p (.int t)), some (.p (.int r)), some (.p (.int b)), none, none], []⟩ = some ⟨[A, some (.p (.int l)), some (.p (.int t)), some (.p (.int r)), some (.p (.int b)), some (.p (.int row)), none], []⟩ from rfl]
    dsimp only
    rw [show tYesM ⟨[A, some (.p (.int l)), some (.p (.int t)), some (.p (.int r)), some (.p (.int b)), some (.p (.int row)), none], []⟩ = some (.ok (.p (.bl true)) []) from rfl]
    dsimp only
    have it : mRng rng2D (aCons (mVar 1) (aCons (mBin dAdd (mVar 3) (mC (.int 1))) aNil)) ⟨[A, some (.p (.int l)), some (.p (.int t)), some (.p (.int r)), some (.p (.int b)), some (.p (.int row)), none], []⟩ = some (.ok (DL.intsFrom l nc) []) := by
      simp [e_bnd, g1, g2, hn]
    rw [it]
    dsimp only
    have c := compRow (l := wipeL [A, some (.p (.int l)), some (.p (.int t)), some (.p (.int r)), some (.p (.int b)), some (.p (.int row)), none] [6]) (g := gN 6) (e := disp .tup (aCons (mVar 6) (aCons (mVar 5) aNil))) (M := []) row (fun x => ⟨_, rfl, rfl, by simp [e_bnd, en_ad]⟩) nc l acc (by omega)
    rw [c]
    dsimp only
    rw [co_comp A l t r b nc hn g1 g2 n (row + 1) _ (by rw [List.length_append, List.length_map, rowL_len]; omega)]
    simp [rowsL]
theorem cof_spec {a : Ar} (h : sm a) (o : ord a) : m_cells_of [En.en a] = some (.ok (.lst ((cells a).map En.en))) := by
  have hl := sm_len h
  obtain ⟨⟨p, q⟩, r, s⟩ := a
  have hh : 3 ≤ p ∧ 7 ≤ q ∧ r ≤ 7 ∧ s ≤ 11 := h
  have oo : p ≤ r ∧ q ≤ s := o
  have g1 := rng_ok (i := p) (by omega) (by omega)
  have g2 := rng_ok (i := r + 1) (by omega) (by omega)
  have g3 := rng_ok (i := q) (by omega) (by omega)
  have g4 := rng_ok (i := s + 1) (by omega) (by omega)
  have e2 : cells ((p, q), (r, s)) = rowsL p (r + 1 - p).toNat q (s + 1 - q).toNat := rfl
  have hl2 : (s + 1 - q).toNat * (r + 1 - p).toNat ≤ 25 := by
    rw [e2, rowsL_len] at hl
    exact hl
  have c := co_comp (some (.p (En.en (((p, q), (r, s)) : Ar)))) p q r s (r + 1 - p).toNat rfl g1 g2 (s + 1 - q).toNat q [] (by rw [List.length_nil]; omega)
  rw [List.nil_append] at c
  unfold m_cells_of b_cells_of
  refine runA_of (s := (⟨[some (.p (En.en (((p, q), (r, s)) : Ar))), some (.p (.int p)), some (.p (.int q)), some (.p (.int r)), some (.p (.int s)), none, none], []⟩ : DL.S)) ?_
  rw [DL.seq_asg _ _ _ _ ⟨[some (.p (En.en (((p, q), (r, s)) : Ar))), some (.p (.int p)), some (.p (.int q)), some (.p (.int r)), some (.p (.int s)), none, none], []⟩ (.p (En.en (((p, q), (r, s)) : Ar))) [] rfl rfl]
  refine ret_run _ _ _ _ ?_
  have it : mRng rng2D (aCons (mVar 2) (aCons (mBin dAdd (mVar 4) (mC (.int 1))) aNil)) ⟨[some (.p (En.en (((p, q), (r, s)) : Ar))), some (.p (.int p)), some (.p (.int q)), some (.p (.int r)), some (.p (.int s)), none, none], []⟩ = some (.ok (DL.intsFrom q (s + 1 - q).toNat) []) := by
    simp [e_bnd, g3, g4]
  unfold mLc2
  rw [e_bnd, it]
  show (match compL2 [some (.p (En.en (((p, q), (r, s)) : Ar))), some (.p (.int p)), some (.p (.int q)), some (.p (.int r)), some (.p (.int s)), none, none] (gN 5) tYesM (mRng rng2D (aCons (mVar 1) (aCons (mBin dAdd (mVar 3) (mC (.int 1))) aNil))) (gN 6) tYesM (disp .tup (aCons (mVar 6) (aCons (mVar 5) aNil))) [6] (DL.intsFrom q (s + 1 - q).toNat) [] [] with | some (acc, M) => some (Rs.ok (DV.p (D.lst acc)) M) | none => none) = _
  rw [c]
  rfl
def kI (x : Ad) : List Int := [x.1, x.2]
theorem kI_inj {x y : Ad} (h : kI x = kI y) : x = y := by
  unfold kI at h
  simp only [List.cons.injEq, and_true] at h
  exact Prod.ext h.1 h.2
def UU : List (List Int) := (cells ((3, 7), (7, 11))).map kI
theorem UU_len : UU.length = 25 := by decide +kernel
theorem in_UU {a : Ar} (h : sm a) {x : Ad} (hx : x ∈ cells a) : kI x ∈ UU := by
  refine List.mem_map.mpr ⟨x, (cells_mem _ _).mpr ((has_iff _ _).mpr ?_), rfl⟩
  have := (has_iff a x).mp ((cells_mem a x).mp hx)
  unfold sm at h
  dsimp only
  omega
def foldA (acc : List (List Int)) (xs : List Ad) : List (List Int) := xs.foldl (fun acc x => addK acc (kI x)) acc
structure AI (acc : List (List Int)) : Prop where
  nd : acc.Nodup
  sub : ∀ k ∈ acc, k ∈ UU
theorem AI.len {acc : List (List Int)} (h : AI acc) : acc.length ≤ 25 := by
  have := few_len (U := UU) h.nd h.sub
  rwa [UU_len] at this
theorem addK_mem {acc : List (List Int)} {k j : List Int} : j ∈ addK acc k ↔ j ∈ acc ∨ j = k := by
  unfold addK
  split
  · rename_i h
    constructor
    · exact .inl
    · rintro (q | rfl)
      · exact q
      · exact h
  · rw [List.mem_cons]; exact or_comm
theorem AI.add {acc : List (List Int)} (h : AI acc) {k : List Int} (hk : k ∈ UU) : AI (addK acc k) where
  nd := by
    unfold addK
    split
    · exact h.nd
    · rename_i q; exact List.nodup_cons.mpr ⟨q, h.nd⟩
  sub := fun j hj => by
    rcases addK_mem.mp hj with q | rfl
    · exact h.sub j q
    · exact hk
theorem foldA_ok : ∀ (xs : List Ad) (acc : List (List Int)), AI acc → (∀ x ∈ xs, kI x ∈ UU) → AI (foldA acc xs) ∧ ∀ k, k ∈ foldA acc xs ↔ k ∈ acc ∨ k ∈ xs.map kI
  | [], acc, h, _ => ⟨h, fun k => ⟨.inl, fun q => q.resolve_right (fun z => nomatch z)⟩⟩
  | x :: xs, acc, h, hx => by
    obtain ⟨h1, h2⟩ := foldA_ok xs (addK acc (kI x)) (h.add (hx x List.mem_cons_self)) fun y hy => hx y (List.mem_cons_of_mem _ hy)
    refine ⟨h1, fun k => ?_⟩
    show k ∈ foldA (addK acc (kI x)) xs ↔ _
    rw [h2, addK_mem, List.map_cons, List.mem_cons, or_assoc]
theorem add_inner (A B : Option DV) (M : List O) : ∀ (xs : List Ad) (acc : List (List Int)), AI acc → (∀ x ∈ xs, kI x ∈ UU) →
    compGS [A, B, none] (gN 2) tYesM (addBS (mVar 2)) ((xs.map En.en).map .p) acc M = some (foldA acc xs, M)
  | [], acc, _, _ => rfl
  | x :: xs, acc, h, hx => by
    have hl := h.len
    rw [List.map_cons, List.map_cons]
    unfold compGS
    rw [show gN 2 (.p (En.en x)) ⟨[A, B, none], M⟩ = some ⟨[A, B, some (.p (En.en x))], M⟩ from rfl]
    dsimp only
    rw [show tYesM ⟨[A, B, some (.p (En.en x))], M⟩ = some (.ok (.p (.bl true)) M) from rfl]
    dsimp only
    have ea : addBS (mVar 2) ⟨[A, B, some (.p (En.en x))], M⟩ acc = some (addK acc (kI x), M) := by
      show (if acc.length < 63 then some (addK acc (kI x), M) else none) = _
      rw [if_pos (by omega)]
    rw [ea]
    dsimp only
    rw [add_inner A B M xs _ (h.add (hx x List.mem_cons_self)) fun y hy => hx y (List.mem_cons_of_mem _ hy)]
    rfl
theorem add_outer (f : MA) (hf : f = m_cells_of) (A : Option DV) (M : List O) : ∀ (as : List Ar) (acc : List (List Int)), AI acc → (∀ a ∈ as, sm a ∧ ord a) →
    compGS [A, none, none] (gN 1) tYesM (inBS (mItD itL (mCallA 1 f (aCons (mVar 1) aNil))) [2] (gN 2) tYesM (addBS (mVar 2))) ((as.map En.en).map .p) acc M = some (foldA acc (as.flatMap cells), M)
  | [], acc, _, _ => rfl
  | a :: as, acc, h, ha => by
    have h1 := ha a List.mem_cons_self
    have e := cof_spec h1.1 h1.2
    have hx : ∀ x ∈ cells a, kI x ∈ UU := fun x hx => in_UU h1.1 hx
    have q := (foldA_ok (cells a) acc h hx).1
    rw [List.map_cons, List.map_cons]
    unfold compGS
    rw [show gN 1 (.p (En.en a)) ⟨[A, none, none], M⟩ = some ⟨[A, some (.p (En.en a)), none], M⟩ from rfl]
    dsimp only
    rw [show tYesM ⟨[A, some (.p (En.en a)), none], M⟩ = some (.ok (.p (.bl true)) M) from rfl]
    dsimp only
    have it : mItD itL (mCallA 1 f (aCons (mVar 1) aNil)) ⟨[A, some (.p (En.en a)), none], M⟩ = some (.ok (((cells a).map En.en).map .p) M) := by
      subst hf
      rw [e_itD, e_bnd, callA1x m_cells_of (mVar 1) _ M _ _ rfl e]
      rfl
    have ei : inBS (mItD itL (mCallA 1 f (aCons (mVar 1) aNil))) [2] (gN 2) tYesM (addBS (mVar 2)) ⟨[A, some (.p (En.en a)), none], M⟩ acc = some (foldA acc (cells a), M) := by
      unfold inBS
      rw [it]
      exact add_inner A (some (.p (En.en a))) M (cells a) acc h hx
    rw [ei]
    dsimp only
    rw [add_outer f hf A M as _ q fun b hb => ha b (List.mem_cons_of_mem _ hb), List.flatMap_cons]
    unfold foldA
    rw [List.foldl_append]
theorem AI_nil : AI [] := ⟨List.nodup_nil, fun k h => nomatch h⟩
theorem count_spec {as : List Ar} (h : ∀ a ∈ as, sm a ∧ ord a) : m_count_of [.lst (as.map En.en)] = some (.ok (.int ((foldA [] (as.flatMap cells)).length : Nat))) := by
  have c := add_outer m_cells_of rfl (some (.p (.lst (as.map En.en)))) [] as [] AI_nil h
  unfold m_count_of b_count_of
  refine runA_of (s := (⟨slotsOf 3 ([.lst (as.map En.en)].map .p), []⟩ : DL.S)) (ret_run _ _ _ _ ?_)
  rw [e_lenSc, e_bnd]
  show (match compGS [some (.p (.lst (as.map En.en))), none, none] (gN 1) tYesM (inBS (mItD itL (mCallA 1 m_cells_of (aCons (mVar 1) aNil))) [2] (gN 2) tYesM (addBS (mVar 2))) ((as.map En.en).map .p) [] [] with | some (acc, M) => some (Rs.ok (DV.p (.int (acc.length : Nat))) M) | none => none) = _
  rw [c]
end Law.R
namespace Law.R
open Law
open PySem L2 DL
/-! sorted cells -/
theorem lxA_anti {x y : Ad} (h1 : lxA x y = true) (h2 : lxA y x = true) : x = y := by
  obtain ⟨a, b⟩ := x; obtain ⟨c, d⟩ := y
  unfold lxA lx at *
  simp only [decide_eq_true_eq] at h1 h2
  exact Prod.ext (by dsimp only at *; omega) (by dsimp only at *; omega)
theorem lxA_pw (l : List Ad) : (l.mergeSort lxA).Pairwise (fun x y => lxA x y = true) := List.pairwise_mergeSort (fun a b c h1 h2 => by
    unfold lxA lx at *
    simp only [decide_eq_true_eq] at *
    omega) (fun a b => by
    unfold lxA lx
    simp only [Bool.or_eq_true, decide_eq_true_eq]
    omega) l
theorem sort_perm {l m : List Ad} (h : l.Perm m) : l.mergeSort lxA = m.mergeSort lxA :=
  List.Perm.eq_of_pairwise (le := fun x y => lxA x y = true) (fun x y _ _ a b => lxA_anti a b) (lxA_pw l) (lxA_pw m) ((List.mergeSort_perm l lxA).trans (h.trans (List.mergeSort_perm m lxA).symm))
theorem cnt_mem (ps : List Ar) (x : Ad) : x ∈ ps.flatMap cells ↔ 0 < cnt ps x := by unfold cnt; rw [List.count_pos_iff]
theorem wa_perm (a : Ar) (os : List Ar) (O : List Ad) (hO : ∀ x, x ∈ O ↔ ∃ o ∈ os, has o x = true) (q : Ad → Bool) (hq : ∀ x, q x = true ↔ x ∉ O) : ((wa a os).flatMap cells).Perm ((cells a).filter q) := by
  refine (List.perm_ext_iff_of_nodup (List.nodup_iff_count.mpr fun x => ?_) ((pw_nodup (cells_pw a)).filter _)).mpr fun x => ?_
  · have := wa_cnt a os x
    unfold cnt at this
    rw [this]
    split <;> omega
  · rw [cnt_mem, wa_cnt, List.mem_filter, cells_mem, hq, hO]
    split
    · rename_i h; exact ⟨fun _ => h, fun _ => by omega⟩
    · rename_i h; exact ⟨fun z => by omega, fun z => absurd z h⟩
theorem mem_spr {as : List Ar} {x : Ad} : x ∈ spr as ↔ ∃ o ∈ as, has o x = true := by
  unfold spr
  rw [(List.mergeSort_perm _ lxA).mem_iff, List.mem_flatMap]
  constructor
  · rintro ⟨o, h1, h2⟩; exact ⟨o, h1, (cells_mem o x).mp h2⟩
  · rintro ⟨o, h1, h2⟩; exact ⟨o, h1, (cells_mem o x).mpr h2⟩
theorem dj_cnt (x : Ad) : ∀ (r pre : List Ar), cnt (dj pre r) x = if (∃ a ∈ r, has a x = true) ∧ ¬ (∃ o ∈ pre, has o x = true) then 1 else 0
  | [], pre => by rw [if_neg (fun ⟨⟨a, h, _⟩, _⟩ => nomatch h)]; rfl
  | a :: r, pre => by
    show cnt (wa a pre ++ dj (pre ++ [a]) r) x = _
    rw [cnt_app, wa_cnt, dj_cnt x r]
    have e : (∃ o ∈ pre ++ [a], has o x = true) ↔ (∃ o ∈ pre, has o x = true) ∨ has a x = true := by
      constructor
      · rintro ⟨o, h1, h2⟩
        rcases List.mem_append.mp h1 with q | q
        · exact .inl ⟨o, q, h2⟩
        · rw [List.mem_singleton.mp q] at h2; exact .inr h2
      · rintro (⟨o, h1, h2⟩ | h)
        · exact ⟨o, List.mem_append_left _ h1, h2⟩
        · exact ⟨a, List.mem_append_right _ (List.mem_singleton.mpr rfl), h⟩
    have e2 : (∃ o ∈ a :: r, has o x = true) ↔ has a x = true ∨ ∃ o ∈ r, has o x = true := by
      constructor
      · rintro ⟨o, h1, h2⟩
        rcases List.mem_cons.mp h1 with rfl | q
        · exact .inl h2
        · exact .inr ⟨o, q, h2⟩
      · rintro (h | ⟨o, h1, h2⟩)
        · exact ⟨a, List.mem_cons_self, h⟩
        · exact ⟨o, List.mem_cons_of_mem _ h1, h2⟩
    by_cases hp : ∃ o ∈ pre, has o x = true
    · rw [if_neg (fun q => q.2 hp), if_neg (fun q => q.2 (e.mpr (.inl hp))), if_neg (fun q => q.2 hp)]
    · by_cases ha : has a x = true
      · rw [if_pos ⟨ha, hp⟩, if_neg (fun q => q.2 (e.mpr (.inr ha))), if_pos ⟨e2.mpr (.inl ha), hp⟩]
      · rw [if_neg (fun q => ha q.1)]
        by_cases hr : ∃ o ∈ r, has o x = true
        · rw [if_pos ⟨hr, fun q => (e.mp q).elim hp ha⟩, if_pos ⟨e2.mpr (.inr hr), hp⟩]
        · rw [if_neg (fun q => hr q.1), if_neg (fun q => (e2.mp q.1).elim ha hr)]
theorem dj_all : ∀ (r pre : List Ar), (∀ a ∈ r, sm a ∧ ord a) → ∀ p ∈ dj pre r, sm p ∧ ord p
  | [], _, _, p, hp => nomatch hp
  | a :: r, pre, h, p, hp => by
    have ha := h a List.mem_cons_self
    rcases List.mem_append.mp (show p ∈ wa a pre ++ dj (pre ++ [a]) r from hp) with q | q
    · have := (wa_all ha.2 pre).1 p q
      exact ⟨sm_in ha.1 this.2, this.1⟩
    · exact dj_all r _ (fun b hb => h b (List.mem_cons_of_mem _ hb)) p q
theorem dj_nodup (as : List Ar) : ((dj [] as).flatMap cells).Nodup := List.nodup_iff_count.mpr fun x => by
  have := dj_cnt x as []
  unfold cnt at this
  rw [this]
  split <;> omega
theorem mem_dj {as : List Ar} {x : Ad} : x ∈ spr (dj [] as) ↔ x ∈ spr as := by
  rw [mem_spr (as := as)]
  unfold spr
  rw [(List.mergeSort_perm _ lxA).mem_iff, cnt_mem, dj_cnt]
  split
  · rename_i h; exact ⟨fun _ => h.1, fun _ => by omega⟩
  · rename_i h; exact ⟨fun z => by omega, fun z => absurd ⟨z, fun ⟨o, ho, _⟩ => nomatch ho⟩ h⟩
/-! everything: sorted(set(..)) -/
theorem tups_ad : ∀ xs : List Ad, tupsOf (xs.map En.en) = some (xs.map kI)
  | [] => rfl
  | x :: xs => by
    rw [List.map_cons, List.map_cons]
    show (match intsOf [.int x.1, .int x.2] with | some ks => (tupsOf (xs.map En.en)).map (ks :: ·) | none => none) = _
    rw [tups_ad xs]; rfl
theorem spr_UU {as : List Ar} (h : ∀ a ∈ as, sm a ∧ ord a) {x : Ad} (hx : x ∈ spr as) : kI x ∈ UU := by
  obtain ⟨o, h1, h2⟩ := mem_spr.mp hx
  exact in_UU (h o h1).1 ((cells_mem o x).mpr h2)
theorem UU_ok : ∀ k ∈ UU, bdOk 2 k = true := by decide +kernel
def evr (as : List Ar) : List (List Int) := sortT (ddup ((spr as).map kI))
theorem dd_len {as : List Ar} (h : ∀ a ∈ as, sm a ∧ ord a) : (ddup ((spr as).map kI)).length ≤ 25 := by
  have := few_len (U := UU) (ddup_nd ((spr as).map kI)) fun k hk => by
    obtain ⟨x, hx, rfl⟩ := List.mem_map.mp (ddup_mem.mp hk)
    exact spr_UU h hx
  rwa [UU_len] at this
theorem set_spec {as : List Ar} (h : ∀ a ∈ as, sm a ∧ ord a) (ne : as ≠ []) : dSortSet (.lst ((spr as).map En.en)) = some (.lst ((evr as).map tupI)) := by
  have hne : spr as ≠ [] := fun e => by
    cases as with
    | nil => exact ne rfl
    | cons a as =>
      have := (mem_spr (as := a :: as)).mpr ⟨a, List.mem_cons_self, (cells_mem a a.1).mp (corner1 (h a List.mem_cons_self).2)⟩
      rw [e] at this
      cases this
  have hd := dd_len h
  have hall : ∀ k ∈ (spr as).map kI, bdOk 2 k = true := fun k hk => by
    obtain ⟨x, hx, rfl⟩ := List.mem_map.mp hk
    exact UU_ok _ (spr_UU h hx)
  unfold dSortSet
  dsimp only
  rw [tups_ad]
  unfold evr
  generalize (spr as) = xs at *
  cases xs with
  | nil => exact absurd rfl hne
  | cons x xs =>
    rw [List.map_cons] at *
    dsimp only
    rw [if_pos ⟨by omega, by show 1 ≤ 2; omega, List.all_eq_true.mpr fun k hk => hall k hk⟩]
theorem kI_nodup {l : List Ad} (h : l.Nodup) : (l.map kI).Nodup := List.pairwise_map.mpr (h.imp fun q e => q (kI_inj e))
theorem code_kI (x : Ad) : TS.code cB (kI x) = x.1 * 4096 + x.2 := by
  show x.1 * cB ^ 1 + (x.2 * cB ^ 0 + 0) = _
  rw [show (cB ^ 1 : Int) = 4096 from by decide, show (cB ^ 0 : Int) = 1 from by decide]
  omega
theorem evr_dj {as : List Ar} (h : ∀ a ∈ as, sm a ∧ ord a) : (spr (dj [] as)).map kI = evr as := by
  have b : ∀ x ∈ spr (dj [] as), kI x ∈ UU := fun x hx => spr_UU h (mem_dj.mp hx)
  have bd : ∀ x ∈ spr (dj [] as), 0 ≤ x.1 ∧ x.1 < 4096 ∧ 0 ≤ x.2 ∧ x.2 < 4096 := fun x hx => by
    have := (bd_of (UU_ok _ (b x hx))).2
    have h1 := this x.1 (by simp [kI])
    have h2 := this x.2 (by simp [kI])
    exact ⟨h1.1, h1.2, h2.1, h2.2⟩
  unfold evr
  refine sortT_eq (d := 2) ?_ (fun k hk => ?_) ?_
  · refine (List.perm_ext_iff_of_nodup (kI_nodup ?_) (ddup_nd _)).mpr fun k => ?_
    · exact (List.mergeSort_perm _ lxA).symm.nodup (dj_nodup as)
    · rw [ddup_mem, List.mem_map, List.mem_map]
      constructor
      · rintro ⟨x, h1, h2⟩; exact ⟨x, mem_dj.mp h1, h2⟩
      · rintro ⟨x, h1, h2⟩; exact ⟨x, mem_dj.mpr h1, h2⟩
  · obtain ⟨x, hx, rfl⟩ := List.mem_map.mp hk
    exact bd_of (UU_ok _ (b x hx))
  · rw [List.pairwise_map]
    refine List.Pairwise.imp_of_mem (fun {x y} hx hy q => ?_) (lxA_pw ((dj [] as).flatMap cells))
    have h1 := bd x hx
    have h2 := bd y hy
    rw [code_kI, code_kI]
    unfold lxA lx at q
    rw [decide_eq_true_eq] at q
    dsimp only at q
    omega
theorem count_eq {as : List Ar} (h : ∀ a ∈ as, sm a ∧ ord a) : (foldA [] (as.flatMap cells)).length = (evr as).length := by
  have hx : ∀ x ∈ as.flatMap cells, kI x ∈ UU := fun x hx => by
    obtain ⟨a, h1, h2⟩ := List.mem_flatMap.mp hx
    exact in_UU (h a h1).1 h2
  obtain ⟨q, m⟩ := foldA_ok (as.flatMap cells) [] AI_nil hx
  have e : (evr as).length = (ddup ((spr as).map kI)).length := (List.mergeSort_perm _ _).length_eq
  rw [e]
  refine ((List.perm_ext_iff_of_nodup q.nd (ddup_nd _)).mpr fun k => ?_).length_eq
  rw [m, ddup_mem]
  unfold spr
  rw [((List.mergeSort_perm (as.flatMap cells) lxA).map kI).mem_iff]
  exact ⟨fun z => z.resolve_left (fun z => nomatch z), .inr⟩
theorem en_tup (xs : List Ad) : xs.map (En.en : Ad → D) = (xs.map kI).map tupI := by rw [List.map_map]; rfl
theorem wa_self {a : Ar} {os : List Ar} (ha : ord a) (h : a ∈ os) : wa a os = [] := by
  cases e : wa a os with
  | nil => rfl
  | cons p ps =>
    have hp := (wa_all ha os).1 p (by rw [e]; exact List.mem_cons_self)
    have hc : 0 < cnt (wa a os) p.1 := (cnt_mem _ _).mp (List.mem_flatMap.mpr ⟨p, by rw [e]; exact List.mem_cons_self, corner1 hp.1⟩)
    rw [wa_cnt] at hc
    split at hc
    · rename_i z; exact absurd ⟨a, h, z.1⟩ z.2
    · omega
end Law.R
namespace Law.R
open Law
open PySem L2 DL
/-! the draws -/
theorem take_eq : m_l_take = takeM := rfl
variable {n : Nat} {sv : DV}
abbrev Dx (n : Nat) (sv : DV) (M : List O) : Prop := Dbx [] n sv [] M
theorem Dx.l {B : List O} (h : Dx n sv B) : B.length = n := by
  obtain ⟨B', rfl, h⟩ := h
  rw [List.append_nil]; exact h.len
theorem wp_addr {B : List O} {P : DV → List O → Prop} (h : Dx n sv B) (k : ∀ (x : Ad) B', Dx n sv B' → 3 ≤ x.1 → x.1 ≤ 7 → 7 ≤ x.2 → x.2 ≤ 11 → P (.p (En.en x)) B') : wpB (m_l_address [sv, .p (.bl false)] B) P := by
  simp [m_l_address, b_l_address, take_eq]
  refine wp_takeB h (by decide) fun r B1 d1 _ b1 => ?_
  have b1 := b1 (by decide)
  simp
  refine wp_takeB d1 (by decide) fun r2 B2 d2 _ b2 => ?_
  have b2 := b2 (by decide)
  simp
  rw [dropM_len (by rw [Dx.l h, Dx.l d2])]
  exact k (3 + r, 7 + r2) B2 d2 (by dsimp only; omega) (by dsimp only; omega) (by dsimp only; omega) (by dsimp only; omega)
theorem wp_ar {B : List O} {P : DV → List O → Prop} (h : Dx n sv B) (k : ∀ (a : Ar) B', Dx n sv B' → sm a → ord a → P (.p (En.en a)) B') : wpB (m_l_area [sv, .p (.bl false)] B) P := by
  simp [m_l_area, b_l_area]
  refine wp_addr h fun x B1 d1 x1 x2 x3 x4 => ?_
  refine wp_addr d1 fun y B2 d2 y1 y2 y3 y4 => ?_
  obtain ⟨p, q⟩ := x
  obtain ⟨r, s⟩ := y
  dsimp only at *
  simp [en_ad, dMin2, dMax2]
  rw [dropM_len (by rw [Dx.l h, Dx.l d2])]
  exact k ((if r < p then r else p, if s < q then s else q), (if p < r then r else p, if q < s then s else q)) B2 d2 (by unfold sm; dsimp only; refine ⟨?_, ?_, ?_, ?_⟩ <;> split <;> omega) (by unfold ord; dsimp only; constructor <;> split <;> split <;> omega)
theorem or_ff (a b : EM) (s : DL.S) (M M2 : List O) (h1 : a s = some (.ok (.p (.bl false)) M)) (h2 : b ⟨s.l, M⟩ = some (.ok (.p (.bl false)) M2)) : mOr a b s = some (.ok (.p (.bl false)) M2) := by
  rw [e_or]
  unfold bnd
  rw [h1]
  exact h2
theorem and_f (a b : EM) (s : DL.S) (M : List O) (h1 : a s = some (.ok (.p (.bl false)) M)) : mAnd a b s = some (.ok (.p (.bl false)) M) := by
  rw [e_and]
  unfold bnd
  rw [h1]
  rfl
theorem and_t (a b : EM) (s : DL.S) (M : List O) (r : Option (Rs DV)) (h1 : a s = some (.ok (.p (.bl true)) M)) (h2 : b ⟨s.l, M⟩ = r) : mAnd a b s = r := by
  rw [e_and]
  unfold bnd
  rw [h1]
  exact h2
theorem ne_en {α : Type} [DecidableEq α] [En α] (h : En.dp α ≤ 64) (x : α) : dNe (En.en x) (En.en x) = some (.bl false) := by
  rw [e_neD, eqD_en x x h, decide_eq_true rfl]; rfl
theorem eq_enT {α : Type} [DecidableEq α] [En α] (h : En.dp α ≤ 64) (x : α) : dEq (En.en x) (En.en x) = some (.bl true) := by
  show (eqD _ _).map D.bl = _
  rw [eqD_en x x h, decide_eq_true rfl]; rfl
theorem sm_ad {x : Ad} (h : x.1.natAbs ≤ 1000 ∧ x.2.natAbs ≤ 1000) : Sm 1 207 (En.en x) := by
  refine Sm.tup (n := 0) (w := 100) (ds := [.int x.1, .int x.2]) (fun d hd => ?_) (by simp)
  simp at hd
  rcases hd with rfl | rfl
  · exact Sm.int (by omega) (by decide)
  · exact Sm.int (by omega) (by decide)
theorem sm_ar {a : Ar} (h : sm a) (o : ord a) : Sm 2 500 (En.en a) := by
  unfold sm ord at *
  refine Sm.tup (n := 1) (w := 207) (ds := [En.en a.1, En.en a.2]) (fun d hd => ?_) (by simp)
  simp at hd
  rcases hd with rfl | rfl
  · exact sm_ad (by omega)
  · exact sm_ad (by omega)
theorem repr_as {as : List Ar} (h : ∀ a ∈ as, sm a ∧ ord a) (hl : as.length ≤ 5) : ∃ z, dRepr (.lst (as.map En.en)) = some z ∧ eqD z z = some true := by
  have s : Sm 3 5000 (.lst (as.map (En.en : Ar → D))) := Sm.lst (n := 2) (w := 500) (fun d hd => by
    obtain ⟨a, ha, rfl⟩ := List.mem_map.mp hd
    exact sm_ar (h a ha).1 (h a ha).2) (by rw [List.length_map]; omega)
  exact ⟨_, s.repr (by decide) (by decide), by rw [e_eqSS]; simp⟩
end Law.R
namespace Law.R
open Law
open PySem L2 DL
variable {n : Nat} {sv : DV}
abbrev L4 (s0 s1 s2 s3 s4 s5 s6 s7 s8 s9 s10 s11 s12 s13 : Option DV) : List (Option DV) := [s0, s1, s2, s3, s4, s5, s6, s7, s8, s9, s10, s11, s12, s13]
/-- what is drawn -/
structure Dr (as : List Ar) (a b : Ar) (r : List Ar) : Prop where
  e : as = a :: b :: r
  l : as.length ≤ 5
  ok : ∀ x ∈ as, sm x ∧ ord x
section
variable {as : List Ar} {a b : Ar} {r : List Ar} {M : List O}
theorem Dr.pa (h : Dr as a b r) : sm a ∧ ord a := h.ok a (by rw [h.e]; exact List.mem_cons_self)
theorem Dr.pb (h : Dr as a b r) : sm b ∧ ord b := h.ok b (by rw [h.e]; exact List.mem_cons_of_mem _ List.mem_cons_self)
theorem Dr.okA (h : Dr as a b r) : ∀ x ∈ as, okA x := fun x hx => sm_ok (h.ok x hx).1 (h.ok x hx).2
theorem Dr.t (h : Dr as a b r) : as.drop 1 = b :: r := by rw [h.e]; rfl
theorem Dr.tl (h : Dr as a b r) : (b :: r).length ≤ 5 := by have := h.l; rw [h.e, List.length_cons] at this; omega
theorem Dr.tok (h : Dr as a b r) : ∀ x ∈ b :: r, sm x ∧ ord x := fun x hx => h.ok x (by rw [h.e]; exact List.mem_cons_of_mem _ hx)
theorem c6 (h : Dr as a b r) (s0 s1 s5 s8 s9 s10 s11 s12 s13 : Option DV) :
    (mOr (mBin dNe (mIsN (mVar 7)) (mBin dEq (mCB dLen (aCons (mVar 6) aNil)) (mC (.int 0)))) (mAnd (mNotN (mVar 7)) (mBin dNe (mCallA 1 m_l_cells (aCons (mVar 7) aNil)) (mVar 6)))) ⟨L4 s0 s1 (some (.p (.lst (as.map En.en)))) (some (.p (En.en a))) (some (.p (En.en b))) s5 (some (.p (.lst (((cells a).filter fun x => has b x).map En.en)))) (some (.p (enO (com a b)))) s8 s9 s10 s11 s12 s13, M⟩ = some (.ok (.p (.bl false)) M) := by
  rw [cells_filt]
  cases hc : com a b with
  | none =>
    dsimp only
    refine or_ff _ _ _ M _ ?_ (and_f _ _ _ M ?_)
    · refine bin_run dNe _ _ _ M M (.bl true) (.bl true) _ rfl (by simp [e_bnd]) rfl
    · rfl
  | some c =>
    dsimp only
    have o := com_some hc
    have ne : cells c ≠ [] := fun e => by
      have := corner1 o.1
      rw [e] at this; cases this
    have okc : okA c := by
      have h1 := sm_ok h.pa.1 h.pa.2
      have h2 := o.1
      have h3 := o.2.2
      unfold okA ord at *
      omega
    have hl := cells_len c okc
    refine or_ff _ _ _ M _ ?_ (and_t _ _ _ M _ rfl ?_)
    · refine bin_run dNe _ _ _ M M (.bl false) (.bl false) _ rfl ?_ rfl
      have hm : ((cells c).map (En.en : Ad → D)).length = (cells c).length := List.length_map ..
      have nz : (cells c).map (En.en : Ad → D) ≠ [] := fun e => ne (List.map_eq_nil_iff.mp e)
      generalize (cells c).map (En.en : Ad → D) = z at *
      have h1 : z.length ≤ 1000000 := by omega
      simp [e_bnd, h1, nz]
    · exact bin_run dNe _ _ _ M M _ _ _ (callA1x m_l_cells (mVar 7) _ M _ _ rfl (cells_spec c okc)) rfl (ne_en (α := List Ad) (by decide) (cells c))
theorem c7 (h : Dr as a b r) (s0 s1 s2 s5 s6 s7 s8 s9 s10 s11 s12 s13 : Option DV) :
    (mBin dNe (mCallA 2 m_without (aCons (mVar 3) (aCons (mVar 4) aNil))) (mCallA 2 m_l_left (aCons (mVar 3) (aCons (mVar 4) aNil)))) ⟨L4 s0 s1 s2 (some (.p (En.en a))) (some (.p (En.en b))) s5 s6 s7 s8 s9 s10 s11 s12 s13, M⟩ = some (.ok (.p (.bl false)) M) :=
  bin_run dNe _ _ _ M M _ _ _ (callA2r m_without (mVar 3) (mVar 4) _ M _ _ _ rfl rfl (without_spec a b)) (callA2r m_l_left (mVar 3) (mVar 4) _ M _ _ _ rfl rfl (left_spec a b (sm_ok h.pa.1 h.pa.2) (sm_ok h.pb.1 h.pb.2))) (ne_en (α := List Ar) (by decide) (wo a b))
theorem tail_run (h : Dr as a b r) (l : List (Option DV)) (hl : gv l 2 = some (.p (.lst (as.map En.en)))) : mSlE (mVar 2) (pSome (mC (.int 1))) pNone ⟨l, M⟩ = some (.ok (.p (.lst ((b :: r).map En.en))) M) := by
  have e := sl_from as
  rw [h.t] at e
  have e2 : cutD (as.map (En.en : Ar → D)) (some 1) none = (b :: r).map En.en := by
    have : some (D.lst (cutD (as.map (En.en : Ar → D)) (some 1) none)) = some (.lst ((b :: r).map En.en)) := e
    exact D.lst.inj (Option.some.inj this)
  generalize as.map (En.en : Ar → D) = z at *
  generalize (b :: r).map (En.en : Ar → D) = w at *
  simp [e_bnd, hl, e2]
theorem a8 (h : Dr as a b r) (s0 s1 s4 s5 s6 s7 s8 s9 s10 s11 s12 s13 : Option DV) :
    mCallA 2 m_without_all (aCons (mVar 3) (aCons (mSlE (mVar 2) (pSome (mC (.int 1))) pNone) aNil)) ⟨L4 s0 s1 (some (.p (.lst (as.map En.en)))) (some (.p (En.en a))) s4 s5 s6 s7 s8 s9 s10 s11 s12 s13, M⟩ = some (.ok (.p (.lst ((wa a (b :: r)).map En.en))) M) :=
  callA2r m_without_all (mVar 3) _ _ M _ _ _ rfl (tail_run h _ rfl) (wall_spec a (b :: r) h.tl)
theorem c9 (h : Dr as a b r) (s0 s1 s4 s5 s6 s7 s9 s10 s11 s12 s13 : Option DV) :
    (mOr (mBin dNe (mVar 8) (mCallA 2 m_l_all (aCons (mVar 3) (aCons (mSlE (mVar 2) (pSome (mC (.int 1))) pNone) aNil)))) (mBin dNe (mCallA 2 m_without_all (aCons (mVar 3) (aCons (disp .lst aNil) aNil))) (disp .lst (aCons (mVar 3) aNil)))) ⟨L4 s0 s1 (some (.p (.lst (as.map En.en)))) (some (.p (En.en a))) s4 s5 s6 s7 (some (.p (.lst ((wa a (b :: r)).map En.en)))) s9 s10 s11 s12 s13, M⟩ = some (.ok (.p (.bl false)) M) := by
  refine or_ff _ _ _ M _ ?_ ?_
  · exact bin_run dNe _ _ _ M M _ _ _ rfl (callA2r m_l_all (mVar 3) _ _ M _ _ _ rfl (tail_run h _ rfl) (lall_spec (sm_ok h.pa.1 h.pa.2) h.pa.2 (fun x hx => sm_ok (h.tok x hx).1 (h.tok x hx).2) h.tl)) (ne_en (α := List Ar) (by decide) _)
  · exact bin_run dNe _ _ _ M M _ (.lst ([a].map En.en)) _ (callA2r m_without_all (mVar 3) (disp .lst aNil) _ M _ (.lst (([] : List Ar).map En.en)) _ rfl rfl (wall_spec a [] (by decide))) rfl (ne_en (α := List Ar) (by decide) [a])
theorem a10 (h : Dr as a b r) (s0 s1 s3 s4 s5 s6 s7 s8 s9 s10 s11 s12 s13 : Option DV) :
    mCallA 1 m_l_spread (aCons (mSlE (mVar 2) (pSome (mC (.int 1))) pNone) aNil) ⟨L4 s0 s1 (some (.p (.lst (as.map En.en)))) s3 s4 s5 s6 s7 s8 s9 s10 s11 s12 s13, M⟩ = some (.ok (.p (.lst ((spr (b :: r)).map En.en))) M) :=
  callA1x m_l_spread _ _ M _ _ (tail_run h _ rfl) (spr_spec h.tok (by have := h.tl; omega))
theorem wa_sm (h : Dr as a b r) : ∀ p ∈ wa a (b :: r), sm p ∧ ord p := fun p hp => by
  have := (wa_all h.pa.2 (b :: r)).1 p hp
  exact ⟨sm_in h.pa.1 this.2, this.1⟩
theorem dec_nin (O : List Ad) (x : Ad) (i : Decidable (x ∈ O)) : (!@decide _ i) = true ↔ x ∉ O := by
  cases i with
  | isTrue h => exact ⟨(fun z => nomatch z), fun z => absurd h z⟩
  | isFalse h => exact ⟨fun _ => h, fun _ => rfl⟩
theorem nin_ex (O : List Ad) (x : Ad) : ∃ c : Bool, dNin (En.en x) (.lst (O.map En.en)) = some (.bl c) ∧ (c = true ↔ x ∉ O) := by
  have e := inD_en x O (by decide)
  refine ⟨_, by unfold dNin; rw [e]; exact rfl, ?_⟩
  exact dec_nin O x _
theorem c11 (h : Dr as a b r) (s0 s1 s2 s4 s5 s6 s7 s10 s11 s12 : Option DV) :
    (mBin dNe (mCallA 1 m_l_spread (aCons (mVar 8) aNil)) (mCB (g1 dSort) (aCons (mLc (mItD itL (mCallA 1 m_l_cells (aCons (mVar 3) aNil))) [13] (gN 13) (mBin dNin (mVar 13) (mVar 9)) (mVar 13)) aNil))) ⟨L4 s0 s1 s2 (some (.p (En.en a))) s4 s5 s6 s7 (some (.p (.lst ((wa a (b :: r)).map En.en)))) (some (.p (.lst ((spr (b :: r)).map En.en)))) s10 s11 s12 none, M⟩ = some (.ok (.p (.bl false)) M) := by
  have ca := cells_spec a (sm_ok h.pa.1 h.pa.2)
  have hl := sm_len h.pa.1
  have hw := wa_len a h.pa.2 h.tl
  obtain ⟨q, hqq⟩ := Classical.axiomOfChoice fun x : Ad => nin_ex (spr (b :: r)) x
  have hq := fun x => (hqq x).1
  have hq2 := fun x => (hqq x).2
  have e1 := filter_comp (α := Ad) (β := Ad) (l := L4 s0 s1 s2 (some (.p (En.en a))) s4 s5 s6 s7 (some (.p (.lst ((wa a (b :: r)).map En.en)))) (some (.p (.lst ((spr (b :: r)).map En.en)))) s10 s11 s12 none) (g := gN 13) (t := mBin dNin (mVar 13) (mVar 9)) (e := mVar 13) (M := M) id q (cells a) (fun x _ => ⟨_, rfl, rfl, bin_run dNin _ _ _ M M _ _ _ rfl rfl (hq x), rfl⟩) (by omega)
  rw [List.map_id] at e1
  have e2 : mItD itL (mCallA 1 m_l_cells (aCons (mVar 3) aNil)) ⟨L4 s0 s1 s2 (some (.p (En.en a))) s4 s5 s6 s7 (some (.p (.lst ((wa a (b :: r)).map En.en)))) (some (.p (.lst ((spr (b :: r)).map En.en)))) s10 s11 s12 none, M⟩ = some (.ok (((cells a).map En.en).map .p) M) := by
    rw [e_itD, e_bnd, callA1x m_l_cells (mVar 3) _ M _ _ rfl ca]
    rfl
  have e3 := DL.lcs _ [13] (gN 13) _ _ _ _ _ e2 e1
  refine bin_run dNe _ _ _ M M _ _ _ (callA1x m_l_spread (mVar 8) _ M _ _ rfl (spr_spec (wa_sm h) (by omega))) (cb1r dSort _ _ M _ _ e3 (dSort_ad _)) ?_
  have : spr (wa a (b :: r)) = ((cells a).filter q).mergeSort lxA := sort_perm (wa_perm a (b :: r) (spr (b :: r)) (fun x => mem_spr) q hq2)
  rw [← this]
  exact ne_en (α := List Ad) (by decide) _
end
end Law.R
namespace Law.R
open Law
open PySem L2 DL
variable {n : Nat} {sv : DV}
section
variable {as : List Ar} {a b : Ar} {r : List Ar} {M : List O}
theorem due_loop (h5 : as.length ≤ 5) (ho : ∀ x ∈ as, sm x ∧ ord x) (s0 s1 s3 s4 s5 s6 s7 s8 s9 s12 s13 : Option DV) : ∀ (r pre acc : List Ar) (s11 : Option DV) (j : Int), j = (pre.length : Nat) → as = pre ++ r → acc.length + 1024 * r.length ≤ 1000000 → ∃ s11',
    loopS (gN 11) (sAsg (mBin dAdd2 (mVar 10) (mCallA 2 m_l_all (aCons (mIx (mVar 2) (mVar 11)) (aCons (mSlE (mVar 2) pNone (pSome (mVar 11))) aNil)))) (gN 10)) (DL.intsFrom j r.length) ⟨L4 s0 s1 (some (.p (.lst (as.map En.en)))) s3 s4 s5 s6 s7 s8 s9 (some (.p (.lst (acc.map En.en)))) s11 s12 s13, M⟩
      = some (.nx, ⟨L4 s0 s1 (some (.p (.lst (as.map En.en)))) s3 s4 s5 s6 s7 s8 s9 (some (.p (.lst ((acc ++ dj pre r).map En.en)))) s11' s12 s13, M⟩)
  | [], pre, acc, s11, j, _, _, _ => ⟨s11, by unfold dj; rw [List.append_nil]; rfl⟩
  | a :: r, pre, acc, s11, j, hj, he, hl => by
    rw [List.length_cons] at hl
    have ha := ho a (by rw [he]; exact List.mem_append_right _ List.mem_cons_self)
    have hpre : pre.length ≤ 5 := by rw [he, List.length_append, List.length_cons] at h5; omega
    have hw := wa_len a ha.2 (os := pre) hpre
    have e := lall_spec (sm_ok ha.1 ha.2) ha.2 (os := pre) (fun x hx => by
      have := ho x (by rw [he]; exact List.mem_append_left _ hx)
      exact sm_ok this.1 this.2) hpre
    obtain ⟨s11', ih⟩ := due_loop h5 ho s0 s1 s3 s4 s5 s6 s7 s8 s9 s12 s13 r (pre ++ [a]) (acc ++ wa a pre) (some (.p (.int j))) (j + 1) (by rw [List.length_append, List.length_singleton, hj]; rfl) (by rw [he, List.append_assoc]; rfl) (by rw [List.length_append]; omega)
    refine ⟨s11', ?_⟩
    rw [List.length_cons, intsS, loopS_cons]
    rw [show gN 11 (.p (.int j)) ⟨L4 s0 s1 (some (.p (.lst (as.map En.en)))) s3 s4 s5 s6 s7 s8 s9 (some (.p (.lst (acc.map En.en)))) s11 s12 s13, M⟩ = some ⟨L4 s0 s1 (some (.p (.lst (as.map En.en)))) s3 s4 s5 s6 s7 s8 s9 (some (.p (.lst (acc.map En.en)))) (some (.p (.int j))) s12 s13, M⟩ from rfl]
    dsimp only
    have e1 : mIx (mVar 2) (mVar 11) ⟨L4 s0 s1 (some (.p (.lst (as.map En.en)))) s3 s4 s5 s6 s7 s8 s9 (some (.p (.lst (acc.map En.en)))) (some (.p (.int j))) s12 s13, M⟩ = some (.ok (.p (En.en a)) M) := by
      have q : atI (as.map (En.en : Ar → D)) j = some (En.en a) := at_en as (by omega) (by rw [hj, Int.toNat_natCast, he, List.getElem?_append_right (Nat.le_refl _), Nat.sub_self]; rfl)
      generalize as.map (En.en : Ar → D) = z at *
      generalize acc.map (En.en : Ar → D) = y
      simp [e_bnd, q]
    have e2 : mSlE (mVar 2) pNone (pSome (mVar 11)) ⟨L4 s0 s1 (some (.p (.lst (as.map En.en)))) s3 s4 s5 s6 s7 s8 s9 (some (.p (.lst (acc.map En.en)))) (some (.p (.int j))) s12 s13, M⟩ = some (.ok (.p (.lst (pre.map En.en))) M) := by
      have tk : as.take pre.length = pre := by rw [he]; exact List.take_left' rfl
      have sl : cutD (as.map (En.en : Ar → D)) none (some j) = pre.map En.en := by rw [hj, cut_to, ← List.map_take, tk]
      generalize as.map (En.en : Ar → D) = z at *
      generalize acc.map (En.en : Ar → D) = y
      generalize pre.map (En.en : Ar → D) = w at *
      simp [e_bnd, sl]
    rw [asg_run _ (gN 10) _ _ M _ (bin_run dAdd2 _ _ _ M M _ _ _ rfl (callA2r m_l_all _ _ _ M _ _ _ e1 e2 e) (cat_en _ _ (by omega))) rfl]
    dsimp only
    refine ih.trans ?_
    show _ = some (Fl.nx, (⟨L4 s0 s1 (some (.p (.lst (as.map En.en)))) s3 s4 s5 s6 s7 s8 s9 (some (.p (.lst ((acc ++ (wa a pre ++ dj (pre ++ [a]) r)).map En.en)))) s11' s12 s13, M⟩ : DL.S))
    rw [← List.append_assoc]
theorem evr_en (h : ∀ x ∈ as, sm x ∧ ord x) : (evr as).map tupI = (spr (dj [] as)).map En.en := by rw [← evr_dj h, en_tup]
theorem a14 (h : Dr as a b r) (s0 s1 s3 s4 s5 s6 s7 s8 s9 s10 s11 s12 s13 : Option DV) :
    (mUn dSortSet (mCallA 1 m_l_spread (aCons (mVar 2) aNil))) ⟨L4 s0 s1 (some (.p (.lst (as.map En.en)))) s3 s4 s5 s6 s7 s8 s9 s10 s11 s12 s13, M⟩ = some (.ok (.p (.lst ((spr (dj [] as)).map En.en))) M) := by
  have e := set_spec h.ok (by rw [h.e]; exact List.cons_ne_nil _ _)
  rw [evr_en h.ok] at e
  have e1 := callA1x m_l_spread (mVar 2) ⟨L4 s0 s1 (some (.p (.lst (as.map En.en)))) s3 s4 s5 s6 s7 s8 s9 s10 s11 s12 s13, M⟩ M _ _ rfl (spr_spec h.ok (by have := h.l; omega))
  unfold mUn
  rw [e_bnd, e1]
  dsimp only [pur]
  unfold DL.ret
  rw [e]
theorem dj_small (h : Dr as a b r) : (dj [] as).length ≤ 5120 := by
  have h1 := dj_len as [] (fun x hx => (h.ok x hx).2) (by rw [List.length_nil]; have := h.l; omega)
  have := h.l
  omega
theorem c15 (h : Dr as a b r) (s0 s1 s3 s4 s5 s6 s7 s8 s9 s11 s13 : Option DV) :
    (mOr (mBin dNe (mCallA 1 m_disjoint (aCons (mVar 2) aNil)) (mVar 10)) (mOr (mBin dNe (mCallA 1 m_l_spread (aCons (mCallA 1 m_disjoint (aCons (mVar 2) aNil)) aNil)) (mVar 12)) (mBin dNe (mCallA 1 m_count_of (aCons (mVar 2) aNil)) (mCB dLen (aCons (mVar 12) aNil))))) ⟨L4 s0 s1 (some (.p (.lst (as.map En.en)))) s3 s4 s5 s6 s7 s8 s9 (some (.p (.lst ((dj [] as).map En.en)))) s11 (some (.p (.lst ((spr (dj [] as)).map En.en)))) s13, M⟩ = some (.ok (.p (.bl false)) M) := by
  have ed := disjoint_spec h.l fun x hx => (h.ok x hx).2
  have hd := dj_small h
  have e1 := callA1x m_disjoint (mVar 2) ⟨L4 s0 s1 (some (.p (.lst (as.map En.en)))) s3 s4 s5 s6 s7 s8 s9 (some (.p (.lst ((dj [] as).map En.en)))) s11 (some (.p (.lst ((spr (dj [] as)).map En.en)))) s13, M⟩ M _ _ rfl ed
  refine or_ff _ _ _ M _ (bin_run dNe _ _ _ M M _ _ _ e1 rfl (ne_en (α := List Ar) (by decide) _)) (or_ff _ _ _ M _ (bin_run dNe _ _ _ M M _ _ _ (callA1x m_l_spread _ _ M _ _ e1 (spr_spec (dj_all as [] h.ok) (by omega))) rfl (ne_en (α := List Ad) (by decide) _)) ?_)
  have hl : ((spr (dj [] as)).map (En.en : Ad → D)).length = (evr as).length := by rw [← evr_en h.ok, List.length_map]
  have h25 : (evr as).length ≤ 25 := by
    have : (evr as).length = (ddup ((spr as).map kI)).length := (List.mergeSort_perm _ _).length_eq
    rw [this]
    exact dd_len h.ok
  have ec := count_spec h.ok
  rw [count_eq h.ok] at ec
  refine bin_run dNe _ _ _ M M _ (.int ((evr as).length : Nat)) _ (callA1x m_count_of (mVar 2) _ M _ _ rfl ec) ?_ (ne_en (α := Int) (by decide) _)
  have e9 : dLen M [.p (.lst ((spr (dj [] as)).map (En.en : Ad → D)))] = some (.int ((evr as).length : Nat)) := by
    rw [← hl]
    generalize (spr (dj [] as)).map (En.en : Ad → D) = z at *
    have : z.length ≤ 1000000 := by omega
    simp [this]
  rw [e_cb, e_bnd, aCons_run (mVar 12) aNil _ M M _ [] rfl rfl]
  dsimp only
  unfold DL.ret
  rw [e9]
theorem c16 (h : Dr as a b r) (s0 s1 s4 s5 s6 s7 s9 s10 s11 s12 s13 : Option DV) :
    (mOr (mBin dNe (mCB (g1 dRepr) (aCons (mCallA 2 m_covered (aCons (mVar 3) (aCons (mSlE (mVar 2) (pSome (mC (.int 1))) pNone) aNil))) aNil)) (mCB (g1 dRepr) (aCons (mBin dEq (mCB dLen (aCons (mVar 8) aNil)) (mC (.int 0))) aNil))) (mBin dIsN (mCallA 2 m_covered (aCons (mVar 3) (aCons (mVar 2) aNil))) (mC (.bl true)))) ⟨L4 s0 s1 (some (.p (.lst (as.map En.en)))) (some (.p (En.en a))) s4 s5 s6 s7 (some (.p (.lst ((wa a (b :: r)).map En.en)))) s9 s10 s11 s12 s13, M⟩ = some (.ok (.p (.bl false)) M) := by
  have hw := wa_len a h.pa.2 h.tl
  refine or_ff _ _ _ M _ ?_ ?_
  · obtain ⟨z, hz, hzz⟩ := reprB (decide (wa a (b :: r) = []))
    refine bin_run dNe _ _ _ M M z z _ (cb1r dRepr _ _ M _ z (callA2r m_covered (mVar 3) _ _ M _ _ _ rfl (tail_run h _ rfl) (covered_spec a (b :: r) h.tl)) hz) (cb1r dRepr _ _ M (.bl (decide (wa a (b :: r) = []))) z ?_ hz) (by rw [e_neD, hzz]; rfl)
    have hm : ((wa a (b :: r)).map (En.en : Ar → D)).length = (wa a (b :: r)).length := List.length_map ..
    have e0 : decide (wa a (b :: r) = []) = decide (((wa a (b :: r)).map (En.en : Ar → D)) = []) := by
      rw [Bool.eq_iff_iff, decide_eq_true_eq, decide_eq_true_eq, List.map_eq_nil_iff]
    rw [e0]
    generalize (wa a (b :: r)).map (En.en : Ar → D) = z at *
    have : z.length ≤ 1000000 := by omega
    simp [e_bnd, this]
  · have e := covered_spec a as h.l
    rw [wa_self h.pa.2 (by rw [h.e]; exact List.mem_cons_self), decide_eq_true rfl] at e
    exact bin_run dIsN _ _ _ M M _ _ _ (callA2r m_covered (mVar 3) (mVar 2) _ M _ _ _ rfl rfl e) rfl rfl
theorem r17 (h : Dr as a b r) (z : D) (hz : dRepr (.lst (as.map En.en)) = some z) (hzz : eqD z z = some true) (s0 s1 s3 s4 s6 s7 s8 s9 s10 s11 s12 s13 : Option DV) :
    (mAnd (mBin dEq (mCB (g1 dRepr) (aCons (mVar 2) aNil)) (mVar 5)) (mAnd (mBin dEq (mCallA 1 m_disjoint (aCons (disp .lst aNil) aNil)) (disp .lst aNil)) (mBin dEq (mCallA 1 m_count_of (aCons (disp .lst aNil) aNil)) (mC (.int 0))))) ⟨L4 s0 s1 (some (.p (.lst (as.map En.en)))) s3 s4 (some (.p z)) s6 s7 s8 s9 s10 s11 s12 s13, M⟩ = some (.ok (.p (.bl true)) M) := by
  refine and_t _ _ _ M _ (bin_run dEq _ _ _ M M z z _ (cb1r dRepr _ _ M _ z rfl hz) rfl (by show (eqD z z).map D.bl = _; rw [hzz]; rfl)) (and_t _ _ _ M _ ?_ ?_)
  · have e := disjoint_spec (as := []) (by decide) (fun x hx => nomatch hx)
    exact bin_run dEq _ _ _ M M (.lst (([] : List Ar).map En.en)) (.lst (([] : List Ar).map En.en)) _ (callA1x m_disjoint (disp .lst aNil) _ M (.lst (([] : List Ar).map En.en)) _ rfl e) rfl (eq_enT (α := List Ar) (by decide) [])
  · have e := count_spec (as := []) (fun x hx => nomatch hx)
    exact bin_run dEq _ _ _ M M (.int 0) (.int 0) _ (callA1x m_count_of (disp .lst aNil) _ M (.lst (([] : List Ar).map En.en)) _ rfl e) rfl (eq_enT (α := Int) (by decide) 0)
end
end Law.R
namespace Law.R
open Law
open PySem L2 DL
variable {n : Nat} {sv : DV}
theorem areas_wp {B : List O} (h : Dx n sv B) (s0 s2 s3 s4 s5 s6 s7 s8 s9 s10 s12 s13 : Option DV) {P : DV → List O → Prop} (kk : ∀ (as : List Ar) (a b : Ar) (r : List Ar) B', Dr as a b r → P (.p (.lst (as.map En.en))) B') :
    wpB ((mLc (mRng rng1D (aCons (mBin dAdd2 (mC (.int 2)) (mCallB 2 m_l_take (aCons (mVar 1) (aCons (mC (.int 4)) aNil)))) aNil)) [11] (gN 11) tYesM (mCallB 2 m_l_area (aCons (mVar 1) (aCons (mC (.bl false)) aNil)))) ⟨L4 s0 (some sv) s2 s3 s4 s5 s6 s7 s8 s9 s10 none s12 s13, B⟩) P := by
  refine wp_lc (wp_rng1 ?_)
  have st : ∃ j B1, mBin dAdd2 (mC (.int 2)) (mCallB 2 m_l_take (aCons (mVar 1) (aCons (mC (.int 4)) aNil))) ⟨L4 s0 (some sv) s2 s3 s4 s5 s6 s7 s8 s9 s10 none s12 s13, B⟩ = some (.ok (.p (.int j)) B1) ∧ Dx n sv B1 ∧ 2 ≤ j ∧ j < 6 := by
    obtain ⟨d, B1, e, r, rfl, d1, h0, h4⟩ := w_call2 m_l_take 1 (mC (.int 4)) (L4 s0 (some sv) s2 s3 s4 s5 s6 s7 s8 s9 s10 none s12 s13) B sv (.p (.int 4)) (fun d M => ∃ r, d = .p (.int r) ∧ Dx n sv M ∧ 0 ≤ r ∧ r < 4) rfl rfl (by
      rw [take_eq]
      exact wp_takeB h (by decide) fun r B1 d1 _ b1 => ⟨r, rfl, d1, b1 (by decide)⟩)
    refine ⟨2 + r, B1, ?_, d1, by omega, by omega⟩
    exact bin_run dAdd2 _ _ _ B B1 (.int 2) (.int r) _ rfl e rfl
  obtain ⟨j, B1, e1, d1, j2, j6⟩ := st
  refine ⟨_, _, e1, j, rfl, rng_ok (by omega) (by omega), ?_⟩
  have key : ∀ (ds : List DV) (acc : List Ar) (M : List O), Dx n sv M → (∀ a ∈ acc, sm a ∧ ord a) → acc.length + ds.length ≤ 1000000 → ∃ (l : List Ar) (M' : List O), compL (wipeL (L4 s0 (some sv) s2 s3 s4 s5 s6 s7 s8 s9 s10 none s12 s13) [11]) (gN 11) tYesM (mCallB 2 m_l_area (aCons (mVar 1) (aCons (mC (.bl false)) aNil))) ds (acc.map En.en) M = some (l.map En.en, M') ∧ Dx n sv M' ∧ (∀ a ∈ l, sm a ∧ ord a) ∧ l.length = acc.length + ds.length := fun ds => by
    induction ds with
    | nil => intro acc M hM ha _; exact ⟨acc, M, rfl, hM, ha, rfl⟩
    | cons d ds ih =>
      intro acc M hM ha hl
      rw [List.length_cons] at hl
      obtain ⟨v, M2, e, a, rfl, d2, hs, ho⟩ := w_call2 m_l_area 1 (mC (.bl false)) (L4 s0 (some sv) s2 s3 s4 s5 s6 s7 s8 s9 s10 (some d) s12 s13) M sv (.p (.bl false)) (fun v M => ∃ a : Ar, v = .p (En.en a) ∧ Dx n sv M ∧ sm a ∧ ord a) rfl rfl (wp_ar hM fun a B' d' hs ho => ⟨a, rfl, d', hs, ho⟩)
      obtain ⟨l, M', e2, h1, h2, h3⟩ := ih (acc ++ [a]) M2 d2 (fun x hx => by
        rcases List.mem_append.mp hx with q | q
        · exact ha x q
        · rw [List.mem_singleton.mp q]; exact ⟨hs, ho⟩) (by rw [List.length_append, List.length_singleton]; omega)
      refine ⟨l, M', ?_, h1, h2, by rw [h3, List.length_append, List.length_singleton, List.length_cons]; omega⟩
      unfold compL
      rw [show gN 11 d ⟨wipeL (L4 s0 (some sv) s2 s3 s4 s5 s6 s7 s8 s9 s10 none s12 s13) [11], M⟩ = some ⟨L4 s0 (some sv) s2 s3 s4 s5 s6 s7 s8 s9 s10 (some d) s12 s13, M⟩ from rfl]
      dsimp only
      rw [show tYesM ⟨L4 s0 (some sv) s2 s3 s4 s5 s6 s7 s8 s9 s10 (some d) s12 s13, M⟩ = some (.ok (.p (.bl true)) M) from rfl]
      dsimp only
      rw [e]
      dsimp only
      rw [if_pos (by rw [List.length_map]; omega)]
      rw [List.map_append] at e2
      exact e2
  obtain ⟨l, M', e, h1, h2, h3⟩ := key (DL.intsFrom 0 j.toNat) [] B1 d1 (fun x hx => nomatch hx) (by simp; omega)
  refine ⟨l.map En.en, M', e, ?_⟩
  have hlen : l.length = j.toNat := by rw [h3]; simp
  match l, hlen with
  | [], hl => exact absurd hl (by simp; omega)
  | [a], hl => exact absurd hl (by simp; omega)
  | a :: b :: r, hl => exact kk (a :: b :: r) a b r M' ⟨rfl, by omega, h2⟩
end Law.R
namespace Law
open PySem L2 DL
open Law.R
theorem law_ok (ns : List Int) (hl : ns.length ≤ 63) (hb : ∀ z ∈ ns, Builtin.Int.intBits z ≤ 1048576) : runA 14 b_law [.scr (ns.map .int)] = some (.ok (.bl true)) := by
  obtain ⟨n, sv, B0, e0, d0⟩ := state_Ts [] (fun o ho => nomatch ho) ns hl
  have d0 := Dbx.of d0
  have hw : wpS (b_law ⟨slotsOf 14 ([D.scr (ns.map .int)].map .p), []⟩) (fun f s => f = .rt (.p (.bl true))) := by
    have hs : slotsOf 14 ([D.scr (ns.map .int)].map .p) = L4 (some (.p (.scr (ns.map .int)))) none none none none none none none none none none none none none := rfl
    rw [hs]
    unfold b_law
    refine w_asgT _ 1 _ _ _ (w_call1 m_l_state 0 _ _ (.p (.scr (ns.map .int))) _ rfl ⟨_, _, e0, ?_⟩)
    unfold b_law_1
    refine w_asgT _ 2 _ _ _ (areas_wp d0 (some (.p (.scr (ns.map .int)))) none none none none none none none none none none none fun as a b r B h => ?_)
    obtain ⟨z, hz, hzz⟩ := repr_as h.ok h.l
    unfold b_law_2
    have e2 : (disp .tup (aCons (mIx (mVar 2) (mC (.int 0))) (aCons (mIx (mVar 2) (mC (.int 1))) aNil))) ⟨L4 (some (.p (.scr (ns.map .int)))) (some sv) (some (.p (.lst (as.map En.en)))) none none none none none none none none none none none, B⟩ = some (.ok (.p (.tup [En.en a, En.en b])) B) := by
      rw [h.e]
      simp [e_bnd]
    show wpS (sSeq _ _ ⟨L4 (some (.p (.scr (ns.map .int)))) (some sv) (some (.p (.lst (as.map En.en)))) none none none none none none none none none none none, B⟩) _
    rw [DL.seq_asg _ _ _ _ ⟨L4 (some (.p (.scr (ns.map .int)))) (some sv) (some (.p (.lst (as.map En.en)))) (some (.p (En.en a))) (some (.p (En.en b))) none none none none none none none none none, B⟩ _ _ e2 rfl]
    unfold b_law_3
    refine w_asgE _ 5 _ _ (.p z) B _ (cb1r dRepr _ _ B _ z rfl hz) ?_
    unfold b_law_4
    refine w_asgE _ 6 _ _ _ B _ (both_run a b (sm_ok h.pa.1 h.pa.2) (sm_ok h.pb.1 h.pb.2) 3 4 13 _ B rfl (fun x => rfl) (fun x => rfl)) ?_
    unfold b_law_5
    refine w_asgE _ 7 _ _ (.p (R.enO (com a b))) B _ (callA2r m_common (mVar 3) (mVar 4) _ B _ _ _ rfl rfl (common_spec a b)) ?_
    unfold b_law_6
    refine w_ifE _ _ _ _ _ _ (c6 h _ _ _ _ _ _ _ _ _) ?_
    unfold b_law_7
    refine w_ifE _ _ _ _ _ _ (c7 h _ _ _ _ _ _ _ _ _ _ _ _) ?_
    unfold b_law_8
    refine w_asgE _ 8 _ _ _ B _ (a8 h _ _ _ _ _ _ _ _ _ _ _ _) ?_
    unfold b_law_9
    refine w_ifE _ _ _ _ _ _ (c9 h _ _ _ _ _ _ _ _ _ _ _) ?_
    unfold b_law_10
    refine w_asgE _ 9 _ _ _ B _ (a10 h _ _ _ _ _ _ _ _ _ _ _ _ _) ?_
    unfold b_law_11
    refine w_ifE _ _ _ _ _ _ (c11 h _ _ _ _ _ _ _ _ _ _) ?_
    unfold b_law_12
    refine w_asgE _ 10 _ _ (.p (.lst (([] : List Ar).map En.en))) B _ rfl ?_
    unfold b_law_13
    obtain ⟨s11', lp⟩ := due_loop (M := B) h.l h.ok (some (.p (.scr (ns.map .int)))) (some sv) (some (.p (En.en a))) (some (.p (En.en b))) (some (.p z)) (some (.p (.lst (((cells a).filter fun x => has b x).map En.en)))) (some (.p (R.enO (com a b)))) (some (.p (.lst ((wa a (b :: r)).map En.en)))) (some (.p (.lst ((spr (b :: r)).map En.en)))) none none as [] [] none 0 rfl rfl (by have := h.l; rw [List.length_nil]; omega)
    refine w_forE _ (gN 11) _ _ _ _ (DL.intsFrom 0 as.length) _ ?_ lp ?_
    · have hm : (as.map (En.en : Ar → D)).length = as.length := List.length_map ..
      have h5 := h.l
      have hr : rngOk (as.length : Int) = true := R.rng_ok (by omega) (by omega)
      have e9 : dLen B [.p (.lst (as.map (En.en : Ar → D)))] = some (.int (as.length : Nat)) := by
        rw [← hm]
        generalize as.map (En.en : Ar → D) = zz at *
        have : zz.length ≤ 1000000 := by omega
        simp [this]
      exact rlenJ 2 as.length (as.length : Nat) (.lst (as.map En.en)) _ B rfl e9 hr (Int.toNat_natCast _)
    unfold b_law_14
    refine w_asgE _ 12 _ _ _ B _ (a14 h _ _ _ _ _ _ _ _ _ _ _ _ _) ?_
    unfold b_law_15
    refine w_ifE _ _ _ _ _ _ (c15 h _ _ _ _ _ _ _ _ _ _ _) ?_
    unfold b_law_16
    refine w_ifE _ _ _ _ _ _ (c16 h _ _ _ _ _ _ _ _ _ _ _) ?_
    unfold b_law_17
    exact ⟨_, _, ret_run _ _ _ _ (r17 h z hz hzz _ _ _ _ _ _ _ _ _ _ _ _), rfl, rfl⟩
  obtain ⟨f, s, e, _, rfl⟩ := hw
  exact runA_of e
end Law

def PySem.W.Fast.tw7575494109015632224 : Nat := 0
def PySem.W.Fast.tw5771696635179884928 : Nat := 0
def PySem.W.Fast.tw2467585595362275968 : Nat := 0
def PySem.W.Fast.tw9047359015079959520 : Nat := 0
def PySem.W.Fast.tw9949742716933358081 : Nat := 0
def PySem.W.Fast.tw13621139664710249345 : Nat := 0
def PySem.W.Fast.tw9321915362912308962 : Nat := 0
def PySem.W.Fast.tw16748962424434907140 : Nat := 0
def PySem.W.Fast.tw1863233521832283172 : Nat := 0
def PySem.W.Fast.tw8096692451894151364 : Nat := 0
def PySem.W.Fast.tw4638844885538211076 : Nat := 0
def PySem.W.Fast.tw12062667844764520964 : Nat := 0
def PySem.W.Fast.tw16691870709520682756 : Nat := 0
def PySem.W.Fast.tw15021228275164573125 : Nat := 0
def PySem.W.Fast.tw5783103589935246917 : Nat := 0
def PySem.W.Fast.tw14221965180138865413 : Nat := 0
def PySem.W.Fast.tw17347729990784452357 : Nat := 0
def PySem.W.Fast.tw3611618625779593286 : Nat := 0
def PySem.W.Fast.tw13303978551893261798 : Nat := 0
def PySem.W.Fast.tw11711822271831429862 : Nat := 0
def PySem.W.Fast.tw15350816414509231367 : Nat := 0
def PySem.W.Fast.tw10388409304167445287 : Nat := 0
def PySem.W.Fast.tw225208592736056392 : Nat := 0
def PySem.W.Fast.tw5582402074253530312 : Nat := 0
def PySem.W.Fast.tw5607426713725845736 : Nat := 0
def PySem.W.Fast.tw4517617514443377960 : Nat := 0
def PySem.W.Fast.tw18369865230702277544 : Nat := 0
def PySem.W.Fast.tw2634183643412942921 : Nat := 0
def PySem.W.Fast.tw446252241556689962 : Nat := 0
def PySem.W.Fast.tw1017301519447749290 : Nat := 0
def PySem.W.Fast.tw13851968743267515338 : Nat := 0
def PySem.W.Fast.tw11893547313990856011 : Nat := 0
def PySem.W.Fast.tw5484086810105356779 : Nat := 0
def PySem.W.Fast.tw10113515218462989835 : Nat := 0
def PySem.W.Fast.tw7423729463323189771 : Nat := 0
def PySem.W.Fast.tw5063865086012258123 : Nat := 0
def PySem.W.Fast.tw9016332419858260364 : Nat := 0
def PySem.W.Fast.tw15800482692890161772 : Nat := 0
def PySem.W.Fast.tw13184966064882098828 : Nat := 0
def PySem.W.Fast.tw4154489589867917996 : Nat := 0
def PySem.W.Fast.tw2351398472491549420 : Nat := 0
def PySem.W.Fast.tw4580026250324615948 : Nat := 0
def PySem.W.Fast.tw12753260885125001421 : Nat := 0
def PySem.W.Fast.tw15112763660602264909 : Nat := 0
def PySem.W.Fast.tw2286417268663560653 : Nat := 0
def PySem.W.Fast.tw9067663523503477261 : Nat := 0
def PySem.W.Fast.tw6512812418707810189 : Nat := 0
def PySem.W.Fast.tw7286854518246207886 : Nat := 0
def PySem.W.Fast.tw18371722036180905454 : Nat := 0
def PySem.W.Fast.tw14864950783719862958 : Nat := 0
def PySem.W.Fast.tw17450220817293877198 : Nat := 0
def PySem.W.Fast.tw8471461249358774735 : Nat := 0
def PySem.W.Fast.tw3109134510022164528 : Nat := 0
def PySem.W.Fast.tw7950141342436243696 : Nat := 0
def PySem.W.Fast.tw10770605091780895056 : Nat := 0
def PySem.W.Fast.tw5037292302417636912 : Nat := 0
def PySem.W.Fast.tw6505191895451798192 : Nat := 0
def PySem.W.Fast.tw2030386411166934864 : Nat := 0
def PySem.W.Fast.tw10742127383429677008 : Nat := 0
def PySem.W.Fast.tw12883475144326026033 : Nat := 0
def PySem.W.Fast.tw14130378390967197234 : Nat := 0
def PySem.W.Fast.tw11401478391441055155 : Nat := 0
def PySem.W.Fast.tw3123792185813105171 : Nat := 0
def PySem.W.Fast.tw11083445412863490260 : Nat := 0
def PySem.W.Fast.tw11666771858280829172 : Nat := 0
def PySem.W.Fast.tw9212235918128929396 : Nat := 0
def PySem.W.Fast.tw6143382745482121012 : Nat := 0
def PySem.W.Fast.tw1122597321811946581 : Nat := 0
def PySem.W.Fast.tw5635614373574809877 : Nat := 0
def PySem.W.Fast.tw8129932381222921525 : Nat := 0
def PySem.W.Fast.tw6896252741419608437 : Nat := 0
def PySem.W.Fast.tw5038541971445521877 : Nat := 0
def PySem.W.Fast.tw8187500494029493749 : Nat := 0
def PySem.W.Fast.tw370118202006922133 : Nat := 0
def PySem.W.Fast.tw12304499177787628598 : Nat := 0
def PySem.W.Fast.tw2841404311226021206 : Nat := 0
def PySem.W.Fast.tw12970392895340374518 : Nat := 0
def PySem.W.Fast.tw1739304665530260374 : Nat := 0
def PySem.W.Fast.tw3425685457380019158 : Nat := 0
def PySem.W.Fast.tw5598227864893750424 : Nat := 0
def PySem.W.Fast.tw6181141557813124632 : Nat := 0
def PySem.W.Fast.tw13003746434226854552 : Nat := 0
def PySem.W.Fast.tw3285120935769101016 : Nat := 0
def PySem.W.Fast.tw14075510368622373656 : Nat := 0
def PySem.W.Fast.tw6308431897239692120 : Nat := 0
def PySem.W.Fast.tw3379360249615283289 : Nat := 0
def PySem.W.Fast.tw11719330593936915161 : Nat := 0
def PySem.W.Fast.tw2421526039328152762 : Nat := 0
def PySem.W.Fast.tw10720367476307203418 : Nat := 0
def PySem.W.Fast.tw189135864478765914 : Nat := 0
def PySem.W.Fast.tw11509518392955179962 : Nat := 0
def PySem.W.Fast.tw14919397634810303418 : Nat := 0
def PySem.W.Fast.tw18406860396126003867 : Nat := 0
def PySem.W.Fast.tw5162312911570612955 : Nat := 0
def PySem.W.Fast.tw16658002135856599835 : Nat := 0
def PySem.W.Fast.tw11573051772242737051 : Nat := 0
def PySem.W.Fast.tw3408806049423877884 : Nat := 0
def PySem.W.Fast.tw608033961851472668 : Nat := 0
def PySem.W.Fast.tw12753191169415813853 : Nat := 0
def PySem.W.Fast.tw6525099727604733757 : Nat := 0
def PySem.W.Fast.tw2792972588861174589 : Nat := 0
def PySem.W.Fast.tw7038609786771999838 : Nat := 0
def PySem.W.Fast.tw14290738551057764447 : Nat := 0
def PySem.W.Fast.tw15342104277501703487 : Nat := 0
def PySem.W.Fast.tw7724529192553367871 : Nat := 0
def PySem.W.Fast.tw6071069974664701311 : Nat := 0
def PySem.W.Fast.tw2933304898770502143 : Nat := 0
def PySem.W.Fast.tw4106844487211701409 : Nat := 0
open PySem PySem.W PyProof.Rows in
set_option maxRecDepth 100000 in
set_option maxHeartbeats 0 in
theorem PySem.Challenge.cw_labelgrid_k04_ranges_taken_apart_holds : PySem.Challenge.rw_labelgrid_k04_ranges_taken_apart.Holds := by
  w_on; o_law; k_head; (case hw => w_witness2)
  k_fill
  refine DL.walk_dlG (l := PySem.Challenge.rw_labelgrid_k04_ranges_taken_apart) (k := 5) (x := "law") (qual := "law") (st := Law.s_law) (N := Law.n_law) (m := Law.b_law) rfl rfl ⟨rfl, by decide, by decide⟩ (fun w h Y => PySem.W.kIn_of Y) Law.sc_law ?F Law.law_ok
  case F =>
    intro w mg fa h KX G hmg
    refine' Law.all_mk KX G hmg ?a0 ?l0 ?c0 ?k0 ?a1 ?l1 ?c1 ?k1 ?a2 ?l2 ?c2 ?k2 ?a3 ?l3 ?c3 ?k3 ?a4 ?l4 ?c4 ?k4 ?a5 ?l5 ?c5 ?k5 ?a6 ?l6 ?c6 ?k6 ?a7 ?l7 ?c7 ?k7 ?a8 ?l8 ?c8 ?k8 ?a9 ?l9 ?c9 ?k9 ?a10 ?l10 ?c10 ?k10 ?a11 ?l11 ?c11 ?k11 ?a12 ?l12 ?c12 ?k12 ?a13 ?l13 ?c13 ?k13 ?a14 ?l14 ?c14 ?k14 ?a15 ?l15 ?c15 ?k15 ?a16 ?l16 ?c16 ?k16 ?a17 ?l17 ?c17 ?k17 ?z_abs ?z_enumerate ?z_int ?z_len ?z_max ?z_min ?z_range ?z_repr ?z_set ?z_sorted
    (case a0 => k_is)
    (case l0 => k_is)
    (case c0 => k_is)
    (case k0 => k_is)
    (case a1 => k_is)
    (case l1 => k_is)
    (case c1 => k_is)
    (case k1 => k_is)
    (case a2 => k_is)
    (case l2 => k_is)
    (case c2 => k_is)
    (case k2 => k_is)
    (case a3 => k_is)
    (case l3 => k_is)
    (case c3 => k_is)
    (case k3 => k_is)
    (case a4 => k_is)
    (case l4 => k_is)
    (case c4 => k_is)
    (case k4 => k_is)
    (case a5 => k_is)
    (case l5 => k_is)
    (case c5 => k_is)
    (case k5 => k_is)
    (case a6 => k_is)
    (case l6 => k_is)
    (case c6 => k_is)
    (case k6 => k_is)
    (case a7 => k_is)
    (case l7 => k_is)
    (case c7 => k_is)
    (case k7 => k_is)
    (case a8 => k_is)
    (case l8 => k_is)
    (case c8 => k_is)
    (case k8 => k_is)
    (case a9 => k_is)
    (case l9 => k_is)
    (case c9 => k_is)
    (case k9 => k_is)
    (case a10 => k_is)
    (case l10 => k_is)
    (case c10 => k_is)
    (case k10 => k_is)
    (case a11 => k_is)
    (case l11 => k_is)
    (case c11 => k_is)
    (case k11 => k_is)
    (case a12 => k_is)
    (case l12 => k_is)
    (case c12 => k_is)
    (case k12 => k_is)
    (case a13 => k_is)
    (case l13 => k_is)
    (case c13 => k_is)
    (case k13 => k_is)
    (case a14 => k_is)
    (case l14 => k_is)
    (case c14 => k_is)
    (case k14 => k_is)
    (case a15 => k_is)
    (case l15 => k_is)
    (case c15 => k_is)
    (case k15 => k_is)
    (case a16 => k_is)
    (case l16 => k_is)
    (case c16 => k_is)
    (case k16 => k_is)
    (case a17 => k_is)
    (case l17 => k_is)
    (case c17 => k_is)
    (case k17 => k_is)
    (case z_abs => k_is)
    (case z_enumerate => k_is)
    (case z_int => k_is)
    (case z_len => k_is)
    (case z_max => k_is)
    (case z_min => k_is)
    (case z_range => k_is)
    (case z_repr => k_is)
    (case z_set => k_is)
    (case z_sorted => k_is)

