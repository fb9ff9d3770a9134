import PyProof.Rows.All
import Wide.All
import OpenK.AllK
import Wide.FinOn
import HandS.ForMost
import HandS.Exc
import HandS.WordsExc
import HandS.Defaults
import HandS.ExcInit
import HandS.ExcField
import HandS.TryMany
import HandS.IsInst
import HandS.Deep
import HandS.Lambda
import HandS.Flow
import HandS.Style
import HandS.TupAny
import KE.KDictKeyed
import KE.KeyNested
import HandS.DictComp
import KE.GoesMore
import KE.GoesEnum
import HandS.SortInts
import KE.KStateDown
import HandS.Head0
import HandS.Head1
import HandS.Head2
import HandS.HeadEnd
import HandS.HeadHook1
import HandS.HeadHook2
import HandS.Zip
import HandS.ListItems
import HandS.Small
import HandS.SortKw
import KE.DataMinMax
import ObjForm.LawKit
import HandS.Iter
import KE.KDictCopyH
import PyProof.ReprRoads
import PyProof.ReprLen
import PyProof.FitsInt
import PyProof.StrLawsRepr
import HandS.Conv
import HandS.CallLocal
import HandS.WideBits
import HandS.EndTab
import PySem.Challenge.RW_pagestrue_k10_whole_measured_and_decided
set_option Elab.async false
set_option linter.all false
set_option maxRecDepth 100000
set_option maxHeartbeats 0
/-! Rules of my own over the hand layer. -/
namespace WR
open PySem PySem.Spec PyProof.Rows L2
section
variable {X : Cx} {e : Expr} {es : List Expr} {ta : TA} {p1 p2 pos : Pos}
/-- Base.__init__(self, ..), Base an own error class whose __init__ is ValueError's -/
theorem pe_ownInit {b : Str} {B : Addr} {pl : Sem Bool} (hg : Gl X b) (hm : X.mg b = some (.ref B))
    (hs : PySem.W.specialIn X.K (.ref B) "__getattribute__" = some (some (.builtin "type.__getattribute__"))) (ty : PySem.W.typeIn X.K (.ref B) = some (.type "type"))
    (rd : PySem.W.readsIn X.K B (.type "type") = true) (vV : PySem.W.findCls X.K (.ref B) (.type "type") "__init__" = some (.val (.builtin "ValueError.__init__"))) (ha : PA X (e :: es) ta)
    (hc : eval (.Call (.Attribute (.Name b p1) "__init__" p2) (e :: es) [] pos) X.env = (do
      let ov ← eval (.Name b p1) X.env
      standAt p2.atName
      let (f, first) ← holding [ov] (getMethod ov "__init__" pl)
      callWith pos f first (backTo pos (starEach (e :: es) X.env)) (backToKw pos (keywordEach [] X.env))) := by rfl)
    (hd : (b == ("__debug__" : Str)) = false := by decide)
    (he : starEach (e :: es) X.env = (false, eval e X.env) :: starEach es X.env := by rfl) (hpl : (backTo pos (starEach es X.env)).any (·.1) = false := by rfl) :
    PE X (.Call (.Attribute (.Name b p1) "__init__" p2) (e :: es) [] pos) (tVeI X.K ta) := by
  constructor
  intro pins s σ H Q I h
  refine PySem.W.methodCall_KW (ld_glob I hg hm ?_ hd) hc
  obtain ⟨m, fr⟩ := I.fr
  refine PySem.W.method_of_cls fr I.ok.mod.kin hs (PySem.W.cls_val fr I.ok.mod.kin ty rd vV (by decide +kernel) ?_)
  show wpAny _ _ (callWith pos (Value.builtin "ValueError.__init__") [] (backTo pos (starEach (e :: es) X.env)) []) _ _ _
  refine PyProof.Rows.callWith_method1 (thn (ha.run pos pins _ σ H _ (I.tok _) h) ?_) he hpl
  rintro us s1 ⟨vs, H1, I1, r1, a, C, ws, rfl, hl, T, ea, q⟩
  cases r1 with
  | @cons _ u0 _ ur ra rw' =>
    have eu : u0 = Value.ref a := ra
    subst eu
    have hlen : ur.length ≤ sizeLine := by
      have := Paired.length rw'
      rw [sizeLine_eq]
      omega
    exact oinit_ok T I1 ea hlen fun s' J => ⟨.non, H1, J, rfl, q⟩
end
end WR

/-! Data in the heap: none, bools, ints, texts, lists, tuples, dicts with text keys; its lists and dicts stand where N lets them. -/
namespace WR
open PySem PySem.Spec PyProof.Rows L2
mutual
inductive Dr (N : Addr → Prop) (H : Hp) : V → PyData → Prop
  | non : Dr N H .non .none
  | bl (b : Bool) : Dr N H (.bl b) (.bool b)
  | int (i : Int) : Dr N H (.int i) (.int i)
  | str (x : Str) : Dr N H (.str x) (.str x)
  | lst {a : Addr} {xs : List V} {ds : List PyData} : N a → H a = some (.lst xs) → DrA N H xs ds → Dr N H (.ref a) (.list ds)
  | tup {a : Addr} {xs : List V} {ds : List PyData} : H a = some (.tup xs) → DrA N H xs ds → Dr N H (.ref a) (.tuple ds)
  | dct {a : Addr} {kvs : List (Key × V)} {ps : List (PyData × PyData)} : N a → H a = some (.dK kvs) → DrK N H kvs ps → Dr N H (.ref a) (.dict ps)
inductive DrA (N : Addr → Prop) (H : Hp) : List V → List PyData → Prop
  | nil : DrA N H [] []
  | cons {v : V} {vs : List V} {d : PyData} {ds : List PyData} : Dr N H v d → DrA N H vs ds → DrA N H (v :: vs) (d :: ds)
inductive DrK (N : Addr → Prop) (H : Hp) : List (Key × V) → List (PyData × PyData) → Prop
  | nil : DrK N H [] []
  | cons {x : Str} {v : V} {d : PyData} {kvs : List (Key × V)} {ps : List (PyData × PyData)} : Dr N H v d → DrK N H kvs ps → DrK N H ((Sum.inr x, v) :: kvs) ((.str x, d) :: ps)
end
/-- what stood at N stands, tuples too -/
structure Stays (N : Addr → Prop) (H H' : Hp) : Prop where
  at_ : ∀ a o, N a → H a = some o → H' a = some o
  tup : ∀ a xs, H a = some (.tup xs) → H' a = some (.tup xs)
abbrev All : Addr → Prop := fun _ => True
abbrev Sm (H H' : Hp) : Prop := ∀ b o, H b = some o → H' b = some o
theorem Stays.of {N : Addr → Prop} {H H' : Hp} (s : Sm H H') : Stays N H H' := ⟨fun a o _ e => s a o e, fun a xs e => s a _ e⟩
theorem Sm.rfl' {H : Hp} : Sm H H := fun _ _ e => e
theorem Sm.trans {H H1 H2 : Hp} (a : Sm H H1) (b : Sm H1 H2) : Sm H H2 := fun c o e => b c o (a c o e)
theorem Sm.new {H : Hp} {p : Addr} {o : HO} (h : H p = none) : Sm H (upd H p o) := fun b u e => by
  rw [upd_ne (ne_of_none e h)]
  exact e
theorem Sm.free {H H' : Hp} (s : Sm H H') {p : Addr} (h : H' p = none) : H p = none := by
  cases e : H p with
  | none => rfl
  | some o =>
    rw [s p o e] at h
    cases h
section
variable {N M : Addr → Prop} {H H' : Hp}
mutual
theorem Dr.mono (w : ∀ a, N a → M a) (s : Stays N H H') : ∀ {d : PyData} {v : V}, Dr N H v d → Dr M H' v d
  | _, _, .non => .non
  | _, _, .bl b => .bl b
  | _, _, .int i => .int i
  | _, _, .str x => .str x
  | _, _, .lst n e r => .lst (w _ n) (s.at_ _ _ n e) (DrA.mono w s r)
  | _, _, .tup e r => .tup (s.tup _ _ e) (DrA.mono w s r)
  | _, _, .dct n e r => .dct (w _ n) (s.at_ _ _ n e) (DrK.mono w s r)
theorem DrA.mono (w : ∀ a, N a → M a) (s : Stays N H H') : ∀ {ds : List PyData} {vs : List V}, DrA N H vs ds → DrA M H' vs ds
  | _, _, .nil => .nil
  | _, _, .cons r t => .cons (Dr.mono w s r) (DrA.mono w s t)
theorem DrK.mono (w : ∀ a, N a → M a) (s : Stays N H H') : ∀ {ps : List (PyData × PyData)} {kvs : List (Key × V)}, DrK N H kvs ps → DrK M H' kvs ps
  | _, _, .nil => .nil
  | _, _, .cons r t => .cons (Dr.mono w s r) (DrK.mono w s t)
end
theorem Dr.sm (s : Sm H H') {v : V} {d : PyData} (r : Dr N H v d) : Dr N H' v d := r.mono (fun _ z => z) (Stays.of s)
theorem DrA.sm (s : Sm H H') {vs : List V} {ds : List PyData} (r : DrA N H vs ds) : DrA N H' vs ds := r.mono (fun _ z => z) (Stays.of s)
theorem Dr.all (r : Dr N H v d) : Dr All H v d := r.mono (fun _ _ => trivial) (Stays.of Sm.rfl')
theorem DrA.all (r : DrA N H v d) : DrA All H v d := r.mono (fun _ _ => trivial) (Stays.of Sm.rfl')
theorem DrA.length : ∀ {ds : List PyData} {vs : List V}, DrA N H vs ds → vs.length = ds.length
  | _, _, .nil => rfl
  | _, _, .cons _ t => by simp [DrA.length t]
theorem DrA.get : ∀ {ds : List PyData} {vs : List V} {i : Nat} {v : V}, DrA N H vs ds → vs[i]? = some v → ∃ d, ds[i]? = some d ∧ Dr N H v d
  | _, _, i, v, .nil, e => by simp at e
  | _, _, 0, v, .cons r t, e => by
    simp at e
    subst e
    exact ⟨_, rfl, r⟩
  | _, _, i + 1, v, .cons r t, e => by
    obtain ⟨d, h1, h2⟩ := DrA.get (i := i) (v := v) t (by simpa using e)
    exact ⟨d, by simpa using h1, h2⟩
theorem DrA.at_ {ds : List PyData} {vs : List V} {i : Nat} {d : PyData} (r : DrA N H vs ds) (e : ds[i]? = some d) : ∃ v, vs[i]? = some v ∧ Dr N H v d := by
  have hi : i < vs.length := by
    rw [r.length]
    exact (List.getElem?_eq_some_iff.mp e).1
  obtain ⟨d', e', r'⟩ := r.get (List.getElem?_eq_getElem hi)
  rw [e] at e'
  cases e'
  exact ⟨_, List.getElem?_eq_getElem hi, r'⟩
theorem DrA.append : ∀ {ds es : List PyData} {vs ws : List V}, DrA N H vs ds → DrA N H ws es → DrA N H (vs ++ ws) (ds ++ es)
  | _, _, _, _, .nil, s => s
  | _, _, _, _, .cons r t, s => .cons r (DrA.append t s)
theorem DrA.one {v : V} {d : PyData} (r : Dr N H v d) : DrA N H [v] [d] := .cons r .nil
theorem DrA.take : ∀ {ds : List PyData} {vs : List V} (n : Nat), DrA N H vs ds → DrA N H (vs.take n) (ds.take n)
  | _, _, 0, _ => .nil
  | _, _, _ + 1, .nil => .nil
  | _, _, n + 1, .cons r t => .cons r (DrA.take n t)
theorem DrA.drop : ∀ {ds : List PyData} {vs : List V} (n : Nat), DrA N H vs ds → DrA N H (vs.drop n) (ds.drop n)
  | _, _, 0, r => r
  | _, _, _ + 1, .nil => .nil
  | _, _, n + 1, .cons r t => DrA.drop n t
theorem DrA.set {v : V} {d : PyData} (q : Dr N H v d) : ∀ {ds : List PyData} {vs : List V} (n : Nat), DrA N H vs ds → DrA N H (vs.set n v) (ds.set n d)
  | _, _, _, .nil => .nil
  | _, _, 0, .cons r t => .cons q t
  | _, _, n + 1, .cons r t => .cons r (DrA.set q n t)
theorem DrA.eraseIdx : ∀ {ds : List PyData} {vs : List V} (n : Nat), DrA N H vs ds → DrA N H (vs.eraseIdx n) (ds.eraseIdx n)
  | _, _, _, .nil => .nil
  | _, _, 0, .cons r t => t
  | _, _, n + 1, .cons r t => .cons r (DrA.eraseIdx n t)
end
/-! ### what it is -/
def isL : PyData → Bool
  | .list _ => true
  | .tuple _ => true
  | _ => false
def its : PyData → List PyData
  | .list xs => xs
  | .tuple xs => xs
  | _ => []
/-- a list or a tuple stands there -/
theorem Dr.seq {N : Addr → Prop} {H : Hp} {v : V} {d : PyData} (r : Dr N H v d) (h : isL d = true) : ∃ a xs, v = .ref a ∧ (H a = some (.lst xs) ∨ H a = some (.tup xs)) ∧ DrA N H xs (its d) := by
  cases r with
  | lst n e r => exact ⟨_, _, rfl, .inl e, r⟩
  | tup e r => exact ⟨_, _, rfl, .inr e, r⟩
  | _ => cases h
/-! ### over to the layer's data, to the library's -/
section
variable {K : PySem.W.Frag} {N : Addr → Prop} {H : Hp}
mutual
theorem Dr.dp : ∀ {d : PyData} {v : V}, Dr N H v d → d.hasDict = false → Dp K H v d
  | _, _, .non, _ => .non
  | _, _, .bl b, _ => .bl b
  | _, _, .int i, _ => .int i
  | _, _, .str x, _ => .str x
  | _, _, .lst _ e r, h => .lst (.inl (.inl e)) (DrA.dp r (by simpa [PyData.hasDict] using h))
  | _, _, .tup e r, h => .tup (.inl (.inl e)) (DrA.dp r (by simpa [PyData.hasDict] using h))
  | _, _, .dct _ _ _, h => by simp [PyData.hasDict] at h
theorem DrA.dp : ∀ {ds : List PyData} {vs : List V}, DrA N H vs ds → PyData.hasDictAll ds = false → DpAll K H vs ds
  | _, _, .nil, _ => .nil
  | _, _, .cons r t, h => by
    simp only [PyData.hasDictAll, Bool.or_eq_false_iff] at h
    exact .cons (Dr.dp r h.1) (DrA.dp t h.2)
end
end
end WR

namespace WR
open PySem PySem.Spec PyProof.Rows L2
/-! ### defs by name -/
structure Df (P : Program) (w : World) (K : PySem.W.Frag) (mg : Str → Option Value) (base : Heap) (CX : CXT) (k : Nat) (x : Str) (ps : List Str) (sp : Sp) : Prop where
  ex : ∃ f fd, mg x = some (.ref f) ∧ PySem.W.keepIn K (.ref f) = true ∧ Binds K fd ps [] ∧ FnOk P w K mg base CX k f fd ps sp
section
variable {X : Cx} {CX : CXT} {x : Str} {ps : List Str} {sp : Sp} {k : Nat} {e : Expr} {es : List Expr} {ta : TA} {p pos : Pos} {E : XK}
theorem pe_df (D : Df X.prog X.w X.K X.mg X.base CX k x ps sp) (hr : Room k X.A) (hx : Passes CX X E) (ha : PA X (e :: es) ta) (hg : Gl X x := by rfl) (hdb : (x == ("__debug__" : Str)) = false := by decide)
    (he : starEach (e :: es) X.env = (false, eval e X.env) :: starEach es X.env := by rfl) (hpl : (backTo pos (starEach es X.env)).any (·.1) = false := by rfl) : PE X (.Call (.Name x p) (e :: es) [] pos) (tCall sp [] E ta) := by
  obtain ⟨f, fd, hm, hk, hb, F⟩ := D.ex
  exact pe_call F hr hg hm hk hb .nil hx ha hdb he hpl
theorem Df.mono {P : Program} {w : World} {K : PySem.W.Frag} {mg : Str → Option Value} {base : Heap} {j : Nat} (D : Df P w K mg base CX j x ps sp) (h : j ≤ k) : Df P w K mg base CX k x ps sp := by
  obtain ⟨f, fd, hm, hk, hb, F⟩ := D.ex
  exact ⟨f, fd, hm, hk, hb, F.mono h⟩
end
theorem pe_ty {X : Cx} {x : Str} {pos : Pos} (n : String) (hm : X.mg x = none) (hv : bootBuiltins x = some (.type n)) (hg : Gl X x := by rfl) (hn : x ≠ "__name__" := by decide) (hd : (x == ("__debug__" : Str)) = false := by decide) : PE X (.Name x pos) (tC (.ty n)) :=
  pe_bltn hg hm hv rfl hn hd
/-! ### kinds -/
def tyD : PyData → String
  | .none => "NoneType"
  | .bool _ => "bool"
  | .int _ => "int"
  | .str _ => "str"
  | .list _ => "list"
  | .tuple _ => "tuple"
  | .dict _ => "dict"
def isT (c : String) (d : PyData) : Bool := (kitB (tyD d) c).getD false
theorem Dr.ty {K : PySem.W.Frag} {N : Addr → Prop} {H : Hp} {v : V} {d : PyData} (r : Dr N H v d) : TyX K H v (.type (tyD d)) := by
  cases r with
  | non => exact .base .non
  | bl b => exact .base (.bl b)
  | int i => exact .base (.int i)
  | str x => exact .base (.str x)
  | lst _ e _ => exact .base (.lst e)
  | tup e _ => exact .base (.tup e)
  | dct _ e _ => exact .base (.dK e)
def isD : PyData → Bool
  | .dict _ => true
  | _ => false
def isLst : PyData → Bool
  | .list _ => true
  | _ => false
def isTup : PyData → Bool
  | .tuple _ => true
  | _ => false
def isB : PyData → Bool
  | .bool _ => true
  | _ => false
def isI : PyData → Bool
  | .int _ => true
  | .bool _ => true
  | _ => false
def isS : PyData → Bool
  | .str _ => true
  | _ => false
theorem kit_list (d : PyData) : kitB (tyD d) "list" = some (isLst d) := by cases d <;> (simp only [tyD, isLst, isTup, isD, isB, isI, isS]; decide +kernel)
theorem kit_tuple (d : PyData) : kitB (tyD d) "tuple" = some (isTup d) := by cases d <;> (simp only [tyD, isLst, isTup, isD, isB, isI, isS]; decide +kernel)
theorem kit_dict (d : PyData) : kitB (tyD d) "dict" = some (isD d) := by cases d <;> (simp only [tyD, isLst, isTup, isD, isB, isI, isS]; decide +kernel)
theorem kit_bool (d : PyData) : kitB (tyD d) "bool" = some (isB d) := by cases d <;> (simp only [tyD, isLst, isTup, isD, isB, isI, isS]; decide +kernel)
theorem kit_int (d : PyData) : kitB (tyD d) "int" = some (isI d) := by cases d <;> (simp only [tyD, isLst, isTup, isD, isB, isI, isS]; decide +kernel)
theorem kit_str (d : PyData) : kitB (tyD d) "str" = some (isS d) := by cases d <;> (simp only [tyD, isLst, isTup, isD, isB, isI, isS]; decide +kernel)
section
variable {X : Cx}
/-- isinstance(x, c) of data -/
def rIsD (c : String) (f : PyData → Bool) : List V → Hp → VK → Prop := fun xs H Q => ∃ x d, xs = [x, .ty c] ∧ Dr All H x d ∧ Q (.bl (f d)) H
theorem call_isD {c : String} {f : PyData → Bool} (hc : ∀ d, kitB (tyD d) c = some (f d)) : CallR X (.builtin "isinstance") (rIsD c f) := by
  intro pins s σ H xs us Q I r h
  obtain ⟨x, d, rfl, hd, q⟩ := h
  exact call_isi pins s σ H _ us Q I r ⟨x, .ty c, _, _, _, rfl, .ty c, hd.ty, kit_ty (hc d), q⟩
def rIsD2 (c1 c2 : String) (f : PyData → Bool) : List V → Hp → VK → Prop := fun xs H Q => ∃ x t d, xs = [x, .ref t] ∧ H t = some (.tup [.ty c1, .ty c2]) ∧ Dr All H x d ∧ Q (.bl (f d)) H
theorem kit_any2 {K : PySem.W.Frag} {a c1 c2 : String} {b1 b2 : Bool} (h1 : kitB a c1 = some b1) (h2 : kitB a c2 = some b2) : PySem.W.kitAny K (.type a) [.type c1, .type c2] = some (b1 || b2) := by
  refine kitAny_cons (kit_ty h1) (fun e => ?_) (fun e => by rw [e]; rfl)
  subst e
  refine kitAny_cons (kit_ty h2) (fun e => ?_) (fun e => by rw [e]; rfl)
  subst e
  exact kitAny_nil
theorem call_isD2 {c1 c2 : String} {f1 f2 f : PyData → Bool} (h1 : ∀ d, kitB (tyD d) c1 = some (f1 d)) (h2 : ∀ d, kitB (tyD d) c2 = some (f2 d)) (hf : ∀ d, (f1 d || f2 d) = f d) : CallR X (.builtin "isinstance") (rIsD2 c1 c2 f) := by
  intro pins s σ H xs us Q I r h
  obtain ⟨x, t, d, rfl, ht, hd, q⟩ := h
  refine call_isiT pins s σ H _ us Q I r ⟨x, t, [.ty c1, .ty c2], _, [.type c1, .type c2], _, rfl, ht, .cons (.ty c1) (.cons (.ty c2) .nil), hd.ty, kit_any2 (h1 d) (h2 d), ?_⟩
  rw [hf d]
  exact q
theorem isL_or (d : PyData) : (isLst d || isTup d) = isL d := by cases d <;> rfl
end
/-! ### pure defs: data in, data out -/
def spP (n : Nat) (ok : List PyData → Prop) (F : List PyData → PyData) : Sp := fun vs H Q _ => ∃ ds, DrA All H vs ds ∧ ds.length = n ∧ ok ds ∧ ∀ v H', Sm H H' → Dr All H' v (F ds) → Q v H'
theorem spP_len {n : Nat} {ok : List PyData → Prop} {F : List PyData → PyData} (vs : List V) (H : Hp) (Q : VK) (E : XK) (h : spP n ok F vs H Q E) : vs.length = n := by
  obtain ⟨ds, r, e, _⟩ := h
  rw [r.length, e]
/-- one argument -/
theorem spP1 {ok : List PyData → Prop} {F : List PyData → PyData} {vs : List V} {H : Hp} {Q : VK} {E : XK} (h : spP 1 ok F vs H Q E) : ∃ v d, vs = [v] ∧ Dr All H v d ∧ ok [d] ∧ ∀ u H', Sm H H' → Dr All H' u (F [d]) → Q u H' := by
  obtain ⟨ds, r, e, k, q⟩ := h
  cases r with
  | nil => cases e
  | cons r t =>
    cases t with
    | nil => exact ⟨_, _, rfl, r, k, q⟩
    | cons _ _ => simp at e
theorem spP2 {ok : List PyData → Prop} {F : List PyData → PyData} {vs : List V} {H : Hp} {Q : VK} {E : XK} (h : spP 2 ok F vs H Q E) : ∃ v w d e, vs = [v, w] ∧ Dr All H v d ∧ Dr All H w e ∧ ok [d, e] ∧ ∀ u H', Sm H H' → Dr All H' u (F [d, e]) → Q u H' := by
  obtain ⟨ds, r, e, k, q⟩ := h
  cases r with
  | nil => cases e
  | cons r t =>
    cases t with
    | nil => cases e
    | cons r2 t =>
      cases t with
      | nil => exact ⟨_, _, _, _, rfl, r, r2, k, q⟩
      | cons _ _ => simp at e
theorem spP1_of {ok : List PyData → Prop} {F : List PyData → PyData} {v : V} {d : PyData} {H : Hp} {Q : VK} (r : Dr All H v d) (k : ok [d]) (q : ∀ (u : V) (H' : Hp), Sm H H' → Dr All H' u (F [d]) → Q u H') : spP 1 ok F [v] H Q E0 :=
  ⟨[d], .one r, rfl, k, q⟩
theorem spP2_of {ok : List PyData → Prop} {F : List PyData → PyData} {v w : V} {d e : PyData} {H : Hp} {Q : VK} (r : Dr All H v d) (r2 : Dr All H w e) (k : ok [d, e]) (q : ∀ (u : V) (H' : Hp), Sm H H' → Dr All H' u (F [d, e]) → Q u H') : spP 2 ok F [v, w] H Q E0 :=
  ⟨[d, e], .cons r (.one r2), rfl, k, q⟩
theorem Dr.bl_inv {N : Addr → Prop} {H : Hp} {v : V} {b : Bool} (r : Dr N H v (.bool b)) : v = .bl b := by
  cases r
  rfl
theorem Dr.int_inv {N : Addr → Prop} {H : Hp} {v : V} {i : Int} (r : Dr N H v (.int i)) : v = .int i := by
  cases r
  rfl
theorem Dr.str_inv {N : Addr → Prop} {H : Hp} {v : V} {x : Str} (r : Dr N H v (.str x)) : v = .str x := by
  cases r
  rfl
theorem Dr.non_inv {N : Addr → Prop} {H : Hp} {v : V} (r : Dr N H v .none) : v = .non := by
  cases r
  rfl
end WR

namespace WR
open PySem PySem.Spec PyProof.Rows L2
/-! ### walks over a list or a tuple -/
def Sq (H : Hp) (a : Addr) (xs : List V) : Prop := H a = some (.lst xs) ∨ H a = some (.tup xs)
/-- the walk of a: by its kind -/
def ItS (K : PySem.W.Frag) (H : Hp) (a : Addr) (xs : List V) (J : It) : Prop := (J = Itl K a ∧ H a = some (.lst xs)) ∨ (J = Itt K a ∧ H a = some (.tup xs))
def iSeq (K : PySem.W.Frag) (tl : TE) : TI := fun σ H R => tl σ H fun x H1 => ∃ a xs, x = .ref a ∧ Sq H1 a xs ∧ ∀ J, ItS K H1 a xs J → R J H1
theorem pi_seq {X : Cx} {tg l : Expr} {tl : TE} (hl : PE X l tl) : PI X tg l (iSeq X.K tl) := by
  constructor
  intro pins s σ H R I h
  refine thn (hl.run pins s σ H _ I h) ?_
  rintro v s1 ⟨x, H1, I1, r1, a, xs, rfl, hs, q⟩
  cases (show v = Value.ref a from r1)
  have new : ∀ b ∈ [s1.heap.objs.size], FpOk X pins H1 b := by
    intro b hb
    rw [List.mem_singleton] at hb
    rw [hb]
    exact I1.fpOk (Nat.le_refl _) (I1.hok.fresh (Nat.le_refl _))
  rcases hs with hs | hs
  · obtain ⟨_, _, pl, _⟩ := I1.list (SqL.of hs)
    exact wpAny_pyIter_list pl.isList ⟨_, [_], _, _, H1, rfl, I1.kept (t' := s1.toks) fun b o z => Heap.get?_push_of_some _ z, turn_list a _, ⟨_, Heap.get?_push_size _ rfl, rfl, rfl⟩, new, q _ (.inl ⟨rfl, hs⟩)⟩
  · obtain ⟨ws, _, pt, _⟩ := I1.tuple (SqT.of hs)
    exact wpAny_pyIter_tuple (show s1.heap.IsTuple a ws.toArray from pt) ⟨_, [_], _, _, H1, rfl, I1.kept (t' := s1.toks) fun b o z => Heap.get?_push_of_some _ z, turn_tuple a _, ⟨_, Heap.get?_push_size _ rfl, rfl, rfl⟩, new, q _ (.inr ⟨rfl, hs⟩)⟩
section
variable {K : PySem.W.Frag} {a : Addr} {xs : List V}
theorem for_seq {J : It} {g : TG} {tb : TS} {D : Ends} {σ : L2.St} {H : Hp} (hJ : ItS K H a xs J) (Pv : Nat → L2.St → Hp → Prop) (h0 : Pv 0 σ H) (hl : ∀ i σ2 H2, i ≤ xs.length → Pv i σ2 H2 → H2 a = H a)
    (hs : ∀ i x σ H, xs[i]? = some x → Pv i σ H → g x σ H fun σ2 H2 => tb { D with nx := Pv (i + 1), ct := Pv (i + 1), bk := D.nx } σ2 H2) (hd : ∀ σ H, Pv xs.length σ H → D.nx σ H) :
    ∃ W : Nat → Nat → L2.St → Hp → Prop, (∃ m, W 0 m σ H) ∧ ∀ i m σ H, W i m σ H →
      (J.stop i H ∧ D.nx σ H) ∨ (J.go i H ∧ ∃ N : L2.St → Hp → Prop, (∀ σ' H', N σ' H' → ∃ m', m' < m ∧ W (i + 1) m' σ' H') ∧ ∀ x H', J.yld i H x H' → g x σ H' fun σ2 H2 => tb { D with nx := N, ct := N, bk := D.nx } σ2 H2) := by
  rcases hJ with ⟨rfl, e⟩ | ⟨rfl, e⟩
  · exact for_list Pv h0 (fun i σ2 H2 hi p => SqL.of ((hl i σ2 H2 hi p).trans e)) hs hd
  · exact for_tup Pv h0 (fun i σ2 H2 hi p => SqT.of ((hl i σ2 H2 hi p).trans e)) hs hd
theorem lc_seq {J : It} {g : TG} {tt : TT} {te : TE} {vs : List Nat} {σ : L2.St} {H1 : Hp} {D : Addr} {Qd : Hp → Prop} (hJ : ItS K H1 a xs J) (Pv : Nat → Hp → Prop) (h0 : Pv 0 (upd H1 D (.lst []))) (hl : ∀ i H, i ≤ xs.length → Pv i H → H a = H1 a)
    (hs : ∀ i x H, xs[i]? = some x → Pv i H → g x (wipe σ vs) H fun σ2 H2 => wipe σ2 vs = wipe σ vs ∧ tt σ2 H2 fun b H3 =>
      if b = true then te σ2 H3 fun y H4 => ∃ acc, H4 D = some (.lst acc) ∧ acc.length < sizeLine ∧ Pv (i + 1) (upd H4 D (.lst (acc ++ [y]))) else Pv (i + 1) H3) (hd : ∀ H, Pv xs.length H → Qd H) :
    ∃ W : Nat → Nat → Hp → Prop, (∃ m, W 0 m (upd H1 D (.lst []))) ∧ ∀ i m H, W i m H →
      (J.stop i H ∧ Qd H) ∨ (J.go i H ∧ ∃ Nx : Hp → Prop, (∀ H', Nx H' → ∃ m', m' < m ∧ W (i + 1) m' H') ∧ ∀ x H', J.yld i H x H' → g x (wipe σ vs) H' fun σ2 H2 => wipe σ2 vs = wipe σ vs ∧ tt σ2 H2 fun b H3 =>
        if b = true then te σ2 H3 fun y H4 => ∃ acc, H4 D = some (.lst acc) ∧ acc.length < sizeLine ∧ Nx (upd H4 D (.lst (acc ++ [y]))) else Nx H3) := by
  rcases hJ with ⟨rfl, e⟩ | ⟨rfl, e⟩
  · exact lc_list Pv h0 (fun i H2 hi p => SqL.of ((hl i H2 hi p).trans e)) hs hd
  · exact lc_tup Pv h0 (fun i H2 hi p => SqT.of ((hl i H2 hi p).trans e)) hs hd
end
/-! ### no list, no dict within -/
mutual
def fz : PyData → Bool
  | .list _ => false
  | .dict _ => false
  | .tuple xs => fzA xs
  | _ => true
def fzA : List PyData → Bool
  | [] => true
  | d :: ds => fz d && fzA ds
end
mutual
theorem Dr.fz {N M : Addr → Prop} {H : Hp} : ∀ {d : PyData} {v : V}, Dr N H v d → fz d = true → Dr M H v d
  | _, _, .non, _ => .non
  | _, _, .bl b, _ => .bl b
  | _, _, .int i, _ => .int i
  | _, _, .str x, _ => .str x
  | _, _, .lst _ _ _, h => by simp [WR.fz] at h
  | _, _, .tup e r, h => .tup e (DrA.fz r (by simpa [WR.fz] using h))
  | _, _, .dct _ _ _, h => by simp [WR.fz] at h
theorem DrA.fz {N M : Addr → Prop} {H : Hp} : ∀ {ds : List PyData} {vs : List V}, DrA N H vs ds → fzA ds = true → DrA M H vs ds
  | _, _, .nil, _ => .nil
  | _, _, .cons r t, h => by
    simp only [fzA, Bool.and_eq_true] at h
    exact .cons (Dr.fz r h.1) (DrA.fz t h.2)
end
/-! ### sizes -/
def lim : Nat := 4000
mutual
def wd : PyData → Bool
  | .none => true
  | .bool _ => true
  | .int i => decide (i.natAbs.log2 < 1000)
  | .str x => decide (x.length ≤ lim)
  | .list xs => decide (xs.length ≤ lim) && wdA xs
  | .tuple xs => decide (xs.length ≤ lim) && wdA xs
  | .dict ps => decide (ps.length ≤ lim) && wdK ps
def wdA : List PyData → Bool
  | [] => true
  | d :: ds => wd d && wdA ds
def wdK : List (PyData × PyData) → Bool
  | [] => true
  | p :: ps => wd p.1 && wd p.2 && wdK ps
end
theorem wdA_mem : ∀ {ds : List PyData} {d : PyData}, wdA ds = true → d ∈ ds → wd d = true
  | [], d, _, h => by cases h
  | e :: es, d, w, h => by
    simp only [wdA, Bool.and_eq_true] at w
    rcases List.mem_cons.mp h with rfl | h
    · exact w.1
    · exact wdA_mem w.2 h
theorem wdA_of : ∀ {ds : List PyData}, (∀ d ∈ ds, wd d = true) → wdA ds = true
  | [], _ => by simp only [wdA]
  | d :: ds, h => by
    simp only [wdA, Bool.and_eq_true]
    exact ⟨h d (List.mem_cons_self ..), wdA_of fun e he => h e (List.mem_cons_of_mem _ he)⟩
theorem wd_its {d : PyData} (w : wd d = true) (h : isL d = true) : (its d).length ≤ lim ∧ wdA (its d) = true := by
  cases d with
  | list xs =>
    simp only [wd, Bool.and_eq_true, decide_eq_true_eq] at w
    exact w
  | tuple xs =>
    simp only [wd, Bool.and_eq_true, decide_eq_true_eq] at w
    exact w
  | _ => cases h
theorem lim_lt : lim < sizeLine := by
  rw [sizeLine_eq]
  decide
/-! ### a comprehension of data: each item's element is pure -/
/-- D's list is set apart; all else stays -/
structure But (D : Addr) (H H' : Hp) : Prop where
  old : ∀ b o, b ≠ D → H b = some o → H' b = some o
theorem But.sm {D : Addr} {H H' : Hp} (n : H D = none) (b : But D H H') : Sm H H' := fun c o e => b.old c o (ne_of_none e n) e
/-- J walks the data ds, whatever else comes to stand -/
structure Walk (J : It) (H1 : Hp) (ds : List PyData) : Prop where
  go : ∀ H i, Sm H1 H → i < ds.length → J.go i H
  yld : ∀ H i x H', Sm H1 H → i < ds.length → J.yld i H x H' → H' = H ∧ ∃ d, ds[i]? = some d ∧ Dr All H x d
  stop : ∀ H, Sm H1 H → J.stop ds.length H
theorem Walk.seq {K : PySem.W.Frag} {H1 : Hp} {a : Addr} {xs : List V} {ds : List PyData} {J : It} (hJ : ItS K H1 a xs J) (r : DrA All H1 xs ds) : Walk J H1 ds := by
  have hl := r.length
  constructor
  · intro H i s hi
    have hx : xs[i]? = some xs[i] := List.getElem?_eq_getElem (by omega)
    rcases hJ with ⟨rfl, e⟩ | ⟨rfl, e⟩
    · exact ⟨xs, _, SqL.of (s _ _ e), hx⟩
    · exact ⟨xs, _, SqT.of (s _ _ e), hx⟩
  · intro H i x H' s hi y
    have hx : H' = H ∧ xs[i]? = some x := by
      rcases hJ with ⟨rfl, e⟩ | ⟨rfl, e⟩
      · exact ⟨y.1, y.2 xs (SqL.of (s _ _ e))⟩
      · exact ⟨y.1, y.2 xs (SqT.of (s _ _ e))⟩
    obtain ⟨d, h1, h2⟩ := r.get hx.2
    exact ⟨hx.1, d, h1, h2.sm s⟩
  · intro H s
    rcases hJ with ⟨rfl, e⟩ | ⟨rfl, e⟩
    · exact ⟨xs, SqL.of (s _ _ e), by omega⟩
    · exact ⟨xs, SqT.of (s _ _ e), by omega⟩
/-- the signsD of a text, each a text -/
def signsD (x : Str) : List PyData := x.cps.toList.map fun c => .str ⟨#[c]⟩
theorem signsD_len (x : Str) : (signsD x).length = x.length := by
  simp [signsD, Str.length]
theorem Walk.str {H1 : Hp} {x : Str} : Walk (Its x) H1 (signsD x) := by
  have hl : (signsD x).length = x.cps.size := by simp [signsD]
  constructor
  · intro H i s hi
    show i < x.cps.size
    omega
  · rintro H i v H' s hi ⟨e, c, hc, rfl⟩
    refine ⟨e, .str ⟨#[c]⟩, ?_, .str _⟩
    simp [signsD, List.getElem?_map, hc]
  · intro H s
    show x.cps.size ≤ (signsD x).length
    omega
theorem Walk.range {H1 : Hp} {lo : Int} {n : Nat} : Walk (Itr lo n) H1 ((List.range n).map fun (k : Nat) => PyData.int (lo + (k : Int))) := by
  constructor
  · intro H i s hi
    show i < n
    simpa using hi
  · rintro H i v H' s hi ⟨e, rfl⟩
    refine ⟨e, .int (lo + i), ?_, .int _⟩
    have : i < n := by simpa using hi
    simp [List.getElem?_map, List.getElem?_range this]
  · intro H s
    show n ≤ _
    simp
section
variable {K : PySem.W.Frag}
/-- a comprehension by a state of one's own: P j H' ys, behind j items -/
theorem lc_walk {J : It} {te : TE} {tt : TT} {g : TG} {vs : List Nat} {σ : L2.St} {H1 : Hp} {D : Addr} {n : Nat} {Qd : Hp → Prop} (P : Nat → Hp → Prop) (h0 : P 0 (upd H1 D (.lst [])))
    (hgo : ∀ i H, i < n → P i H → J.go i H) (hst : ∀ H, P n H → J.stop n H)
    (hs : ∀ i x H H', i < n → P i H → J.yld i H x H' → g x (wipe σ vs) H' fun σ2 H2 => wipe σ2 vs = wipe σ vs ∧ tt σ2 H2 fun b H3 =>
      if b = true then te σ2 H3 fun y H4 => ∃ acc, H4 D = some (.lst acc) ∧ acc.length < sizeLine ∧ P (i + 1) (upd H4 D (.lst (acc ++ [y]))) else P (i + 1) H3)
    (hd : ∀ H, P n H → Qd H) :
    ∃ W : Nat → Nat → Hp → Prop, (∃ m, W 0 m (upd H1 D (.lst []))) ∧ ∀ i' m H, W i' m H →
      (J.stop i' H ∧ Qd H) ∨ (J.go i' H ∧ ∃ Nx : Hp → Prop, (∀ H', Nx H' → ∃ m', m' < m ∧ W (i' + 1) m' H') ∧ ∀ x H', J.yld i' H x H' → g x (wipe σ vs) H' fun σ2 H2 => wipe σ2 vs = wipe σ vs ∧ tt σ2 H2 fun b H3 =>
        if b = true then te σ2 H3 fun y H4 => ∃ acc, H4 D = some (.lst acc) ∧ acc.length < sizeLine ∧ Nx (upd H4 D (.lst (acc ++ [y]))) else Nx H3) := by
  refine ⟨fun i m H => m + i = n ∧ P i H, ⟨n, by omega, h0⟩, ?_⟩
  rintro i m H ⟨e, p⟩
  by_cases hi : i < n
  · exact .inr ⟨hgo i H hi p, P (i + 1), fun H' p' => ⟨m - 1, by omega, by omega, p'⟩, fun x H' y => hs i x H H' hi p y⟩
  · have e2 : i = n := by omega
    subst e2
    exact .inl ⟨hst H p, hd H p⟩
theorem lc_dr {J : It} {te : TE} {vs : List Nat} {i : Nat} {σ : L2.St} {H1 : Hp} {D : Addr} {ds : List PyData} {Qd : Hp → Prop} (F : PyData → PyData) (W : Walk J H1 ds) (nD : H1 D = none) (hlen : ds.length ≤ lim)
    (hw : ∀ x, wipe ((wipe σ vs).set i (some x)) vs = wipe σ vs)
    (hs : ∀ (x : V) (d : PyData) (H2 : Hp) (Q : VK), d ∈ ds → Sm H1 H2 → Dr All H2 x d → (∀ y H3, Sm H2 H3 → Dr (fun b => b ≠ D) H3 y (F d) → Q y H3) → te ((wipe σ vs).set i (some x)) H2 Q)
    (hd : ∀ H2 ys, Sm H1 H2 → H2 D = some (.lst ys) → DrA (fun b => b ≠ D) H2 ys (ds.map F) → Qd H2) :
    ∃ W : Nat → Nat → Hp → Prop, (∃ m, W 0 m (upd H1 D (.lst []))) ∧ ∀ i' m H, W i' m H →
      (J.stop i' H ∧ Qd H) ∨ (J.go i' H ∧ ∃ Nx : Hp → Prop, (∀ H', Nx H' → ∃ m', m' < m ∧ W (i' + 1) m' H') ∧ ∀ x H', J.yld i' H x H' → gName i x (wipe σ vs) H' fun σ2 H2 => wipe σ2 vs = wipe σ vs ∧ tYes σ2 H2 fun b H3 =>
        if b = true then te σ2 H3 fun y H4 => ∃ acc, H4 D = some (.lst acc) ∧ acc.length < sizeLine ∧ Nx (upd H4 D (.lst (acc ++ [y]))) else Nx H3) := by
  refine lc_walk (n := ds.length) (fun j H2 => Sm H1 H2 ∧ ∃ ys, H2 D = some (.lst ys) ∧ ys.length = j ∧ DrA (fun b => b ≠ D) H2 ys ((ds.take j).map F)) ?_ ?_ ?_ ?_ ?_
  · exact ⟨Sm.new nD, [], upd_same, rfl, .nil⟩
  · rintro j H2 hj ⟨s, _⟩
    exact W.go _ _ s hj
  · rintro H2 ⟨s, _⟩
    exact W.stop _ s
  · rintro j x H2 H' hj ⟨s, ys, eD, hl, ry⟩ hy
    obtain ⟨rfl, d, hd', rd⟩ := W.yld _ _ _ _ s hj hy
    have hm : d ∈ ds := List.mem_of_getElem? hd'
    refine ⟨hw x, ?_⟩
    dsimp only [tYes]
    rw [if_pos rfl]
    refine hs x d H' _ hm s rd fun y H3 s3 r3 => ?_
    have eD3 := s3 D _ eD
    refine ⟨ys, eD3, by rw [hl]; exact Nat.lt_of_lt_of_le hj (Nat.le_of_lt (Nat.lt_of_le_of_lt hlen lim_lt)), ?_⟩
    have s4 : Sm H1 (upd H3 D (.lst (ys ++ [y]))) := fun b o z => by
      rw [upd_ne (ne_of_none z nD)]
      exact s3 _ _ (s _ _ z)
    refine ⟨s4, ys ++ [y], upd_same, by rw [List.length_append, hl]; rfl, ?_⟩
    have et : (ds.take (j + 1)).map F = (ds.take j).map F ++ [F d] := by
      rw [List.take_succ, hd']
      simp
    rw [et]
    have s5 : Stays (fun b => b ≠ D) H3 (upd H3 D (.lst (ys ++ [y]))) := ⟨fun b o nb z => by rw [upd_ne nb]; exact z, fun b us z => by
      rw [upd_ne (fun q => by rw [q, eD3] at z; cases z)]
      exact z⟩
    exact ((ry.sm s3).append (.one r3)).mono (fun _ z => z) s5
  · rintro H2 ⟨s, ys, eD, hl, ry⟩
    refine hd H2 ys s eD ?_
    rw [List.take_length] at ry
    exact ry
/-- .. whose elements hold no list, no dict -/
theorem lc_fz {J : It} {te : TE} {vs : List Nat} {i : Nat} {σ : L2.St} {H1 : Hp} {D : Addr} {ds : List PyData} {Qd : Hp → Prop} (F : PyData → PyData) (W : Walk J H1 ds) (nD : H1 D = none) (hlen : ds.length ≤ lim)
    (hw : ∀ x, wipe ((wipe σ vs).set i (some x)) vs = wipe σ vs) (hf : ∀ d ∈ ds, fz (F d) = true)
    (hs : ∀ (x : V) (d : PyData) (H2 : Hp) (Q : VK), d ∈ ds → Sm H1 H2 → Dr All H2 x d → (∀ y H3, Sm H2 H3 → Dr All H3 y (F d) → Q y H3) → te ((wipe σ vs).set i (some x)) H2 Q)
    (hd : ∀ H2 ys, Sm H1 H2 → H2 D = some (.lst ys) → DrA All H2 ys (ds.map F) → Qd H2) :
    ∃ W : Nat → Nat → Hp → Prop, (∃ m, W 0 m (upd H1 D (.lst []))) ∧ ∀ i' m H, W i' m H →
      (J.stop i' H ∧ Qd H) ∨ (J.go i' H ∧ ∃ Nx : Hp → Prop, (∀ H', Nx H' → ∃ m', m' < m ∧ W (i' + 1) m' H') ∧ ∀ x H', J.yld i' H x H' → gName i x (wipe σ vs) H' fun σ2 H2 => wipe σ2 vs = wipe σ vs ∧ tYes σ2 H2 fun b H3 =>
        if b = true then te σ2 H3 fun y H4 => ∃ acc, H4 D = some (.lst acc) ∧ acc.length < sizeLine ∧ Nx (upd H4 D (.lst (acc ++ [y]))) else Nx H3) :=
  lc_dr F W nD hlen hw (fun x d H2 Q hm s rx q => hs x d H2 Q hm s rx fun y H3 s3 r3 => q y H3 s3 (r3.fz (hf d hm))) fun H2 ys s e rr => hd H2 ys s e rr.all
end
/-! ### all, any of a list of bools -/
theorem DrA.bls {N : Addr → Prop} {H : Hp} : ∀ {bs : List Bool} {vs : List V}, DrA N H vs (bs.map PyData.bool) → vs = bs.map V.bl
  | [], _, .nil => rfl
  | b :: bs, _, .cons r t => by
    cases r
    rw [DrA.bls t]
    rfl
theorem DrA.ints {N : Addr → Prop} {H : Hp} : ∀ {bs : List Int} {vs : List V}, DrA N H vs (bs.map PyData.int) → vs = bs.map V.int
  | [], _, .nil => rfl
  | b :: bs, _, .cons r t => by
    cases r
    rw [DrA.ints t]
    rfl
end WR

namespace WR
open PySem PySem.Spec PyProof.Rows L2
def likeD : PyData → List PyData → PyData
  | .list _, ys => .list ys
  | _, ys => .tuple ys
def cutA {α : Type} (xs : List α) (lo hi : Option Int) : List α := (xs.drop (HT.sIx xs.length 0 lo)).take (HT.sIx xs.length xs.length hi - HT.sIx xs.length 0 lo)
theorem cutA_from {α : Type} (xs : List α) (k : Nat) : cutA xs (some (k : Int)) none = xs.drop k := by
  unfold cutA
  rw [HT.sIx_nat, HT.sIx_none]
  by_cases h : k ≤ xs.length
  · rw [Nat.min_eq_left h, List.take_of_length_le (by rw [List.length_drop]; omega)]
  · rw [Nat.min_eq_right (by omega), List.drop_of_length_le (by omega), List.drop_of_length_le (by omega), List.take_nil]
theorem cutA_to {α : Type} (xs : List α) (k : Nat) : cutA xs none (some (k : Int)) = xs.take k := by
  unfold cutA
  rw [HT.sIx_nat, HT.sIx_none, List.drop_zero, Nat.sub_zero]
  by_cases h : k ≤ xs.length
  · rw [Nat.min_eq_left h]
  · rw [Nat.min_eq_right (by omega), List.take_of_length_le (by omega), List.take_of_length_le (by omega)]
theorem DrA.cut {N : Addr → Prop} {H : Hp} {vs : List V} {ds : List PyData} (r : DrA N H vs ds) (lo hi : Option Int) : DrA N H (cutV vs lo hi) (cutA ds lo hi) := by
  unfold cutV cutA
  rw [r.length]
  exact (r.drop _).take _
theorem its_like (d : PyData) (ys : List PyData) : its (likeD d ys) = ys := by cases d <;> rfl
theorem isL_like (d : PyData) (ys : List PyData) : isL (likeD d ys) = true := by cases d <;> rfl
theorem like_its {d : PyData} (h : isL d = true) : likeD d (its d) = d := by
  cases d with
  | list _ => rfl
  | tuple _ => rfl
  | _ => cases h
section
variable {X : Cx}
/-- x[lo:hi] of a list or a tuple -/
def rSlD : V → Option Int → Option Int → Hp → VK → Prop := fun x lo hi H Q => ∃ d, Dr All H x d ∧ isL d = true ∧ ∀ v H', Sm H H' → Dr All H' v (likeD d (cutA (its d) lo hi)) → Q v H'
theorem sl_D : SlR X rSlD := by
  intro pins s σ H x v vl vu lo hi sl Q I rx hs pl pu h
  obtain ⟨d, rd, hL, q⟩ := h
  cases rd with
  | lst _ e r =>
    refine sl_list pins s σ H _ v vl vu lo hi sl Q I rx hs pl pu ⟨_, _, rfl, SqL.of e, fun p np => q _ _ (Sm.new np) ?_⟩
    exact .lst trivial upd_same ((r.cut lo hi).sm (Sm.new np))
  | @tup a xs ds e r =>
    refine sl_tupA pins s σ H _ v vl vu lo hi sl Q I rx hs pl pu ⟨_, _, rfl, SqT.of e, fun hw => q _ _ Sm.rfl' ?_, fun _ p np => q _ _ (Sm.new np) ?_⟩
    · have ew : cutA ds lo hi = ds := by
        have hl := r.length
        unfold cutA
        rw [hl] at hw
        rw [hw.1, hw.2, List.drop_zero, Nat.sub_zero, List.take_length]
      show Dr All H _ (.tuple (cutA ds lo hi))
      rw [ew]
      exact .tup e r
    · exact .tup upd_same ((r.cut lo hi).sm (Sm.new np))
  | _ => cases hL
/-- x[j], j within a list or a tuple -/
def rIxD : R2 := fun x y H Q => ∃ d, ∃ j : Nat, ∃ e, Dr All H x d ∧ isL d = true ∧ y = .int (j : Int) ∧ (its d)[j]? = some e ∧ ∀ v, Dr All H v e → Q v H
theorem ix_D : IxR X rIxD := by
  intro value slice pins s σ H x y v u Q I rx ry h hs
  obtain ⟨d, j, e, rd, hL, rfl, he, q⟩ := h
  cases rd with
  | lst _ ea r =>
    obtain ⟨z, hz, rz⟩ := r.at_ he
    exact ix_list value slice pins s σ H _ _ v u Q I rx ry ⟨_, _, _, z, rfl, rfl, SqL.of ea, atI_nat hz, q _ rz⟩ hs
  | tup ea r =>
    obtain ⟨z, hz, rz⟩ := r.at_ he
    exact ix_tup value slice pins s σ H _ _ v u Q I rx ry ⟨_, _, _, z, rfl, rfl, SqT.of ea, atI_nat hz, q _ rz⟩ hs
  | _ => cases hL
/-- tuple(x) -/
theorem call_tupD : CallR X (.type "tuple") (fun xs H Q => ∃ v d, xs = [v] ∧ Dr All H v d ∧ isL d = true ∧ ∀ u H', Sm H H' → Dr All H' u (.tuple (its d)) → Q u H') := by
  intro pins s σ H xs us Q I r h
  obtain ⟨v, d, rfl, rd, hL, q⟩ := h
  cases rd with
  | lst _ e rr => exact call_tuple_of pins s σ H _ us Q I r ⟨_, _, rfl, .inl ⟨SqL.of e, fun p np => q _ _ (Sm.new np) (.tup upd_same (rr.sm (Sm.new np)))⟩⟩
  | tup e rr => exact call_tuple_of pins s σ H _ us Q I r ⟨_, _, rfl, .inr ⟨SqT.of e, q _ _ Sm.rfl' (.tup e rr)⟩⟩
  | _ => cases hL
/-- len(x) -/
theorem call_lenS : CallR X (.builtin "len") (fun xs H Q => ∃ v d, xs = [v] ∧ Dr All H v d ∧ isL d = true ∧ Q (.int ((its d).length : Nat)) H) := by
  intro pins s σ H xs us Q I r h
  obtain ⟨v, d, rfl, rd, hL, q⟩ := h
  cases rd with
  | lst _ e rr => exact call_len pins s σ H _ us Q I r ⟨_, _, rfl, .inl ⟨_, SqL.of e, rr.length.symm⟩, q⟩
  | tup e rr => exact call_len pins s σ H _ us Q I r ⟨_, _, rfl, .inr ⟨_, SqT.of e, rr.length.symm⟩, q⟩
  | _ => cases hL
/-- x == y, x != y of data without dicts, none deeper than 60 -/
def eqOk (d : PyData) : Prop := d.canLay0 = true ∧ d.depth ≤ 60
theorem eqOk.shaped {d : PyData} (h : eqOk d) : SeqAt.shaped d = true := by
  show (PyData.canLay0 d && decide (PyData.depth d ≤ 64)) = true
  rw [Bool.and_eq_true]
  exact ⟨h.1, decide_eq_true (by have := h.2; omega)⟩
theorem eqOk.dp {K : PySem.W.Frag} {N : Addr → Prop} {H : Hp} {v : V} {d : PyData} (h : eqOk d) (r : Dr N H v d) : Dp K H v d := r.dp (PyData.hasDict_of_canLay d h.1)
def rEqDr : R2 := fun x y H Q => ∃ d e, Dr All H x d ∧ Dr All H y e ∧ eqOk d ∧ eqOk e ∧ Q (.bl (PyData.eqv d e)) H
def rNeDr : R2 := fun x y H Q => ∃ d e, Dr All H x d ∧ Dr All H y e ∧ eqOk d ∧ eqOk e ∧ Q (.bl (!PyData.eqv d e)) H
theorem op_eqDr (hu : X.A.units + 64 < cLine) : OpR X (compareOp .Eq) rEqDr := by
  intro pins s σ H x y v u Q I rx ry h
  obtain ⟨d, e, rd, re, od, oe, q⟩ := h
  exact op_eqD hu pins s σ H x y v u Q I rx ry ⟨d, e, od.dp rd, oe.dp re, od.shaped, oe.shaped, q⟩
theorem op_neDr (hu : X.A.units + 64 < cLine) : OpR X (compareOp .NotEq) rNeDr := by
  intro pins s σ H x y v u Q I rx ry h
  obtain ⟨d, e, rd, re, od, oe, q⟩ := h
  exact op_neD hu pins s σ H x y v u Q I rx ry ⟨d, e, od.dp rd, oe.dp re, od.shaped, oe.shaped, q⟩
/-- x in y, y a list -/
def rInDr (b : Bool) : R2 := fun x y H Q => ∃ d ds, Dr All H x d ∧ Dr All H y (.list ds) ∧ eqOk d ∧ eqOk (.list ds) ∧ Q (.bl (if b then ds.any fun z => PyData.eqv z d else !ds.any fun z => PyData.eqv z d)) H
theorem op_inDr (hu : X.A.units + 65 < cLine) : OpR X (compareOp .In) (rInDr true) := by
  intro pins s σ H x y v u Q I rx ry h
  obtain ⟨d, e, rd, re, od, oe, q⟩ := h
  exact op_inD hu pins s σ H x y v u Q I rx ry ⟨d, e, od.dp rd, oe.dp re, od.shaped, oe.shaped, q⟩
theorem op_notInDr (hu : X.A.units + 65 < cLine) : OpR X (compareOp .NotIn) (rInDr false) := by
  intro pins s σ H x y v u Q I rx ry h
  obtain ⟨d, e, rd, re, od, oe, q⟩ := h
  exact op_notInD hu pins s σ H x y v u Q I rx ry ⟨d, e, od.dp rd, oe.dp re, od.shaped, oe.shaped, q⟩
end
end WR

/-! Dicts whose keys are nested tuples, over the layer. -/
namespace WR
open PySem PySem.Spec PyProof.Rows L2
mutual
/-- the data as a key -/
def nk : PyData → NestedKey
  | .none => .none
  | .bool b => .num (if b = true then 1 else 0)
  | .int i => .num i
  | .str x => .text x
  | .list _ => .none
  | .tuple xs => .tup (nkA xs)
  | .dict _ => .none
def nkA : List PyData → List NestedKey
  | [] => []
  | d :: ds => nk d :: nkA ds
end
section
variable {X : Cx} {pins : List (Addr × Obj)} {σ : L2.St} {N : Addr → Prop} {H : Hp} {s : Shared}
mutual
theorem Dr.key (I : Inv X pins σ H s) : ∀ {d : PyData} {v : V} {u : Value}, Dr N H v d → fz d = true → RelV v u → NestedIs s.heap (nk d) u
  | _, _, u, .non, _, r => by
    cases (show u = Value.none from r)
    exact .none
  | _, _, u, .bl b, _, r => by
    cases (show u = Value.bool b from r)
    exact .bool rfl
  | _, _, u, .int i, _, r => by
    obtain ⟨t, e⟩ := (show ∃ t, u = Value.int i t from r)
    subst e
    exact .int i t
  | _, _, u, .str x, _, r => by
    obtain ⟨t, e⟩ := (show ∃ t, u = Value.str x t from r)
    subst e
    exact .text x t
  | _, _, _, .lst _ _ _, h, _ => by simp [fz] at h
  | _, _, u, .tup (a := a) e ra, h, r => by
    cases (show u = Value.ref a from r)
    obtain ⟨ws, rv, ⟨o, ho, hc, n, hd⟩, _⟩ := I.tuple (SqT.of e)
    exact .tup ho hc hd (DrA.key I ra (by simpa [fz] using h) rv)
  | _, _, _, .dct _ _ _, h, _ => by simp [fz] at h
theorem DrA.key (I : Inv X pins σ H s) : ∀ {ds : List PyData} {vs : List V} {us : List Value}, DrA N H vs ds → fzA ds = true → Vals vs us → NestedAll s.heap (nkA ds) us
  | _, _, _, .nil, _, .nil => .nil
  | _, _, _, .cons r t, h, .cons q p => by
    simp only [fzA, Bool.and_eq_true] at h
    exact .cons (Dr.key I r h.1 q) (DrA.key I t h.2 p)
end
end
/-- may be a key -/
structure Kd (d : PyData) : Prop where
  tup : isTup d = true
  fz : WR.fz d = true
  dp : (nk d).depth ≤ 8
abbrev Ent : Type := PyData × Addr × V
def nent (q : Ent) (p : NestedKey × Addr × Value) : Prop := p.1 = nk q.1 ∧ p.2.1 = q.2.1 ∧ RelV q.2.2 p.2.2
/-- at d: a dict of these keys and values, the keys' tuples where they stand -/
def rdO (P : Program) (w : World) (d : Addr) (xs : List Ent) : HO := .ext fun h => (d == sysModules) = false ∧ ∃ ys : List (NestedKey × Addr × Value), Paired nent xs ys ∧
  (∃ o es ep, h.get? d = some o ∧ o.ExactDict ∧ o.data = .dict es ep ∧ es.toList = ys.map (entryOfKey (nestedKind P w))) ∧ (ys.map (·.1)).Nodup
/-- such a dict stands at d -/
structure RD (P : Program) (w : World) (H : Hp) (d : Addr) (xs : List Ent) : Prop where
  at_ : (xs = [] ∧ H d = some (.dK [])) ∨ H d = some (rdO P w d xs)
  keys : ∀ q ∈ xs, Kd q.1 ∧ Dr All H (.ref q.2.1) q.1
def lookE (xs : List Ent) (k : PyData) : Option V := (xs.find? fun q => decide (nk q.1 = nk k)).map (·.2.2)
section
variable {X : Cx} {pins : List (Addr × Obj)} {σ : L2.St} {H : Hp} {s : Shared} {d : Addr} {xs : List Ent}
theorem Kd.is {k : PyData} {a : Addr} (I : Inv X pins σ H s) (h : Kd k) (r : Dr All H (.ref a) k) : (nestedKind X.prog X.w).is s.heap (nk k) a :=
  ⟨r.key I h.fz rfl, h.dp⟩
/-- the library's word of it -/
theorem RD.of (I : Inv X pins σ H s) (h : RD X.prog X.w H d xs) : (d == sysModules) = false ∧ ∃ ys, Paired nent xs ys ∧ s.heap.DictOfH (nestedKind X.prog X.w) d ys := by
  rcases h.at_ with ⟨rfl, e⟩ | e
  · obtain ⟨_, hs, vs, rel, o, es, ep, h1, h2, h3, h4, h5, h6⟩ := dk_of I.hok e
    cases rel
    have e0 : es.toList = [] := by
      have := h5.length
      simpa using this
    exact ⟨hs, [], .nil, o, es, ep, h1, h2, h3, by rw [e0]; rfl, (fun x hx => by cases hx), List.nodup_nil⟩
  · have x : ObjOk X.prog X.w H s.heap d (rdO X.prog X.w d xs) := I.hok d _ e
    obtain ⟨⟨hs, ys, pr, ⟨o, es, ep, h1, h2, h3, h4⟩, nd⟩, _, _⟩ := x
    refine ⟨hs, ys, pr, o, es, ep, h1, h2, h3, h4, fun y hy => ?_, nd⟩
    have key : ∀ {xs : List Ent} {ys : List (NestedKey × Addr × Value)}, Paired nent xs ys → (∀ q ∈ xs, Kd q.1 ∧ Dr All H (.ref q.2.1) q.1) → ∀ y ∈ ys, (nestedKind X.prog X.w).is s.heap y.1 y.2.1 := by
      intro xs ys pr
      induction pr with
      | nil => intro _ y hy; cases hy
      | cons r t ih =>
        intro hk y hy
        rcases List.mem_cons.mp hy with rfl | hy
        · obtain ⟨k1, k2⟩ := hk _ (List.mem_cons_self ..)
          rw [r.1, r.2.1]
          exact k1.is I k2
        · exact ih (fun q hq => hk q (List.mem_cons_of_mem _ hq)) y hy
    exact key pr h.keys y hy
theorem atKey_look {ys : List (NestedKey × Addr × Value)} (pr : Paired nent xs ys) (k : PyData) : RelO (lookE xs k) ((atKey ys (nk k)).map (·.2)) := by
  induction pr with
  | nil => exact trivial
  | @cons q p qs ps r t ih =>
    unfold lookE atKey
    rw [List.find?_cons, List.find?_cons]
    have e : p.1 = nk q.1 := r.1
    rw [e]
    by_cases h : nk q.1 = nk k
    · rw [decide_eq_true h]
      exact r.2.2
    · rw [decide_eq_false h]
      exact ih
theorem atKey_none {ys : List (NestedKey × Addr × Value)} (pr : Paired nent xs ys) (k : PyData) (h : lookE xs k = none) : atKey ys (nk k) = none := by
  have r := atKey_look pr k
  rw [h] at r
  cases z : atKey ys (nk k) with
  | none => rfl
  | some y =>
    rw [z] at r
    exact r.elim
theorem atKey_some {ys : List (NestedKey × Addr × Value)} (pr : Paired nent xs ys) (k : PyData) : (atKey ys (nk k)).isSome = (lookE xs k).isSome := by
  have r := atKey_look pr k
  cases z : atKey ys (nk k) with
  | none =>
    rw [z] at r
    cases y : lookE xs k with
    | none => rfl
    | some v => rw [y] at r; exact r.elim
  | some p =>
    rw [z] at r
    cases y : lookE xs k with
    | none => rw [y] at r; exact r.elim
    | some v => rfl
end
section
variable {X : Cx}
theorem roomK {A : Around} (hu : A.units + 64 < cLine) {P : Program} {w : World} : (nestedKind P w).room A.in1 := by
  show A.units + 1 + 8 < cLine
  omega
/-- k in d -/
def rInRD (P : Program) (w : World) : R2 := fun x y H Q => ∃ (a d : Addr) (k : PyData) (xs : List Ent), x = .ref a ∧ y = .ref d ∧ Dr All H (.ref a) k ∧ Kd k ∧ RD P w H d xs ∧ Q (.bl (lookE xs k).isSome) H
theorem op_inRD (hu : X.A.units + 64 < cLine) : OpR X (compareOp .In) (rInRD X.prog X.w) := by
  intro pins s σ H x y v u Q I rx ry h
  obtain ⟨a, d, k, xs, rfl, rfl, rk, hk, hd, q⟩ := h
  cases (show v = Value.ref a from rx)
  cases (show u = Value.ref d from ry)
  obtain ⟨hs, ys, pr, dd⟩ := hd.of I
  refine wpAny_in_heap (knd := nestedKind X.prog X.w) (roomK hu) (hk.is I rk) hs dd ?_
  rw [atKey_some pr]
  exact ⟨.bl _, H, I.tok _, rfl, q⟩
/-- d.get(k) -/
def tGetRD (P : Program) (w : World) (td tk : TE) : TE := fun σ H Q => td σ H fun x H1 => ∃ d, x = .ref d ∧ (∃ ys, RD P w H1 d ys) ∧ tk σ H1 fun y H2 => ∃ (a : Addr) (k : PyData) (xs : List Ent), y = .ref a ∧ Dr All H2 (.ref a) k ∧ Kd k ∧ RD P w H2 d xs ∧ Q ((lookE xs k).getD .non) H2
theorem pe_getRD {o e : Expr} {apos cpos : Pos} {td tk : TE} (hu : X.A.units + 64 < cLine) (ho : PE X o td) (he : PE X e tk) (m : M1 X o "get" apos e cpos) : PE X (.Call (.Attribute o "get" apos) [e] [] cpos) (tGetRD X.prog X.w td tk) := by
  constructor
  intro pins s σ H Q I h
  refine wpAny_Call_method m.base m.few m.line PySem.F.plainAttrs_dict PySem.F.slot_dict_get PySem.F.type_dict_get (thn (ho.run pins s σ H _ I h) ?_)
  rintro u s1 ⟨x, H1, I1, rx, d, rfl, ⟨ys0, hd0⟩, q1⟩
  cases (show u = Value.ref d from rx)
  obtain ⟨_, ys1, _, dd1⟩ := hd0.of I1
  refine ⟨dd1.typeIs, fun b q => ?_, ?_⟩
  · cases q
    obtain ⟨o, _, _, h1, h2, _⟩ := dd1
    exact ⟨o, h1, h2.2.1⟩
  rw [m.trees]
  refine Calls.callWith_builtin rfl (Calls.evalArgs_plain (Calls.spliced_cons (thn (he.run pins s1 σ H1 _ I1 q1) ?_)))
  rintro iv s2 ⟨y, H2, I2, ry, a, k, xs, rfl, rk, hk, hd, q2⟩
  cases (show iv = Value.ref a from ry)
  refine Calls.spliced_nil ?_
  obtain ⟨hs, ys, pr, dd⟩ := hd.of I2
  refine call_meetsIn PySem.F.slot_dict_get dd.typeIs PySem.F.entry_dict_get (PySem.F.args_dict_get_2 _ _) (meetsH_dict_get (nestedKind X.prog X.w) d a hs) ⟨roomK hu, nk k, ys, hk.is I2 rk, dd, ?_⟩
  have r := atKey_look pr k
  refine ⟨_, H2, I2.tok _, ?_, q2⟩
  cases z : (atKey ys (nk k)).map (·.2) with
  | none =>
    rw [z] at r
    cases y : lookE xs k with
    | none => rfl
    | some v => rw [y] at r; exact r.elim
  | some p =>
    rw [z] at r
    cases y : lookE xs k with
    | none => rw [y] at r; exact r.elim
    | some v => rw [y] at r; exact r
/-- d[k] = v, k new -/
def tSetRD (P : Program) (w : World) : TSet := fun x y v H Q => ∃ (d a : Addr) (k : PyData) (xs : List Ent), x = .ref d ∧ y = .ref a ∧ Dr All H (.ref a) k ∧ Kd k ∧ RD P w H d xs ∧ lookE xs k = none ∧ xs.length < sizeLine ∧ Q (upd H d (rdO P w d (xs ++ [(k, a, v)])))
theorem Paired.app1 {α β : Type} {F : α → β → Prop} {a : α} {b : β} (r : F a b) : ∀ {xs : List α} {ys : List β}, Paired F xs ys → Paired F (xs ++ [a]) (ys ++ [b])
  | _, _, .nil => .cons r .nil
  | _, _, .cons q t => .cons q (Paired.app1 r t)
theorem set_RD (hu : X.A.units + 64 < cLine) : PSet X (tSetRD X.prog X.w) := by
  intro pins s σ H x y z v u r Q I rx ry rz h
  obtain ⟨d, a, k, xs, rfl, rfl, rk, hk, hd, hl, hz, q⟩ := h
  cases (show v = Value.ref d from rx)
  cases (show u = Value.ref a from ry)
  obtain ⟨hs, ys, pr, dd⟩ := hd.of I
  have hzy : ys.length ≤ sizeLine := by
    rw [← Paired.length pr]
    omega
  refine wpAny_setItem_heap (knd := nestedKind X.prog X.w) (roomK hu) (hk.is I rk) dd (fun h' dd' sb => ?_) hzy
  rw [storedH_new (atKey_none pr k hl)] at dd'
  have mu : Mut (H d) := by
    rcases hd.at_ with ⟨_, e⟩ | e
    · rw [e]; exact trivial
    · rw [e]; exact trivial
  obtain ⟨o, es, ep, h1, h2, h3, h4, h5, h6⟩ := dd'
  refine ⟨_, d_write I mu sb ⟨o, h1⟩ ?_, q⟩
  refine ⟨⟨hs, ys ++ [(nk k, a, r)], Paired.app1 ⟨rfl, rfl, rz⟩ pr, ⟨o, es, ep, h1, h2, h3, h4⟩, h6⟩, ⟨o, h1⟩, fun h1' h2' z st => ?_⟩
  obtain ⟨z1, ys', z2, ⟨o', es', ep', g1, g2, g3, g4⟩, z3⟩ := z
  exact ⟨z1, ys', z2, ⟨o', es', ep', st _ g1, g2, g3, g4⟩, z3⟩
end
end WR

/-! enumerate of a list or a tuple. -/
namespace WR
open PySem PySem.Spec PyProof.Rows L2
/-- enumerate(v) makes its two cells -/
theorem enum_new1 {v : Value} {o : Obj} {Hv : Heap → Prop} (B : Begins v o Hv) :
    Meets (Builtin.«enumerate.__new__» ⟨[.type "enumerate", v], []⟩) (fun _ R s => Hv s.heap ∧
      R (.ok (.ret (.ref (s.heap.push o).objs.size))) { s with heap := (s.heap.push o).push { cls := .type "enumerate", data := .fields #[.none, .bool false, .ref s.heap.objs.size, rawInt 0, .none, .none] } }) :=
  .of_wp fun prog w A R s h => by
    obtain ⟨hv, h⟩ := h
    obtain ⟨hp, g, d, tk, os⟩ := s
    have below := sub_enumerate
    have start : ∀ {A' : Around} {E : Value → Shared → Prop} {Q : Value → Shared → Prop}, Q (.ref hp.objs.size) ⟨hp.push o, g, d, tk, os⟩ → wpAny (model prog w) A' (pyIter v) Q E ⟨hp, g, d, tk, os⟩ := fun q => B.iter prog w _ _ _ _ hv q
    wp_walk using start
    refine wpAny_stack_any fun st => wpAny_pure ?_
    split
    · rename_i c _ _ _ _ _
      cases (c == Value.type "enumerate") <;> (wp_walk using start; exact ⟨_, rfl, h⟩)
    · wp_walk using start
      exact ⟨_, rfl, h⟩
theorem enum_call1 {prog : Program} {w : World} {A : Around} {E : Value → Shared → Prop} {s : Shared} {v : Value} {o : Obj} {Hv : Heap → Prop} {Q : Value → Shared → Prop} (B : Begins v o Hv) (hv : Hv s.heap)
    (h : ∀ h', IsEnum h' (s.heap.objs.size + 1) s.heap.objs.size 0 .none → h'.get? s.heap.objs.size = some o → (∀ b u, s.heap.get? b = some u → h'.get? b = some u) → Q (.ref (s.heap.objs.size + 1)) { s with heap := h' }) :
    wpAny (model prog w) A (call (.type "enumerate") [v]) Q E s := by
  refine callType_new F.called_enumerate (by decide) (F.typeCall_enumerate_1 _) (F.newCall_enumerate_1 _) (fun obj => F.args_object_init_2 obj _) F.entry_enumerate_new (enum_new1 B) ⟨hv, ?_⟩
  have sz : (s.heap.push o).objs.size = s.heap.objs.size + 1 := Heap.size_push ..
  show _ ∧ _
  rw [sz]
  have top := Heap.get?_push_size (s.heap.push o) (o := { cls := .type "enumerate", data := .fields #[.none, .bool false, .ref s.heap.objs.size, rawInt 0, .none, .none] }) rfl
  rw [sz] at top
  exact ⟨⟨_, top, rfl⟩, h _ top (Heap.get?_push_of_some _ (Heap.get?_push_size _ B.free)) fun b u z => Heap.get?_push_of_some _ (Heap.get?_push_of_some _ z)⟩
/-- the tuple at a, its items in new pairs -/
def Itu (K : PySem.W.Frag) (a : Addr) : It :=
  ⟨fun i H => ∃ (xs : List V) (x : V), SqT K H a xs ∧ xs[i]? = some x, fun i H v H' => ∃ T x, v = .ref T ∧ H T = none ∧ H' = upd H T (.tup [.int (i : Nat), x]) ∧ ∀ xs, SqT K H a xs → xs[i]? = some x, fun i H => ∃ xs : List V, SqT K H a xs ∧ xs.length = i⟩
theorem turn_enumT {P : Program} {w : World} {K : PySem.W.Frag} {elts : List Expr} {kk : Nat} {tpos : Pos} (a e it : Addr) :
    Turn P w K (.Tuple elts kk tpos) (Itu K a) [e, it] e (fun i h => (∃ old, IsEnum h e it ((i : Nat) : Int) old) ∧ h.IsTupleIter it a i ∧ e ≠ it ∧ a ≠ it ∧ a ≠ e) where
  mem := List.mem_cons_self ..
  obj := fun i h st b hb => by
    obtain ⟨⟨old, he⟩, ⟨o, ho, hc, hd⟩, _⟩ := st
    rcases List.mem_cons.mp hb with z | hb
    · rw [z]
      exact ⟨_, he, fun v q => nomatch q⟩
    · rw [List.mem_singleton.mp hb]
      exact ⟨o, ho, fun v q => by rw [hd] at q; cases q⟩
  keep := fun i h h' st k => by
    obtain ⟨⟨old, he⟩, hi, hr⟩ := st
    exact ⟨⟨old, k e (by simp) _ he⟩, hi.at fun o q => k it (by simp) o q, hr⟩
  item := by
    intro X hP hw hK hc i pins s σ H E I hf st hg
    subst hP hw hK
    obtain ⟨⟨old, he⟩, hit, hne, h1, h2⟩ := st
    obtain ⟨xs, x, hq, hx⟩ := hg
    obtain ⟨its, rv, p, hz⟩ := I.tuple hq
    obtain ⟨u, hu, ru⟩ := rv.get hx
    have hi : i < its.toArray.size := by
      have := (List.getElem?_eq_some_iff.mp hu).1
      simpa using this
    have lts : ∀ b ∈ [e, it], b < s.heap.objs.size := by
      intro b hb
      obtain ⟨_, q, _⟩ := hit
      rcases List.mem_cons.mp hb with z | hb
      · rw [z]; exact Heap.lt_size he
      · rw [List.mem_singleton.mp hb]; exact Heap.lt_size q
    have hh : X.A.in1.handled = none := I.ok.hd hc
    have D := Draws.tuple (prog := X.prog) (w := X.w) hh it a h1 its.toArray
    have hit0 := hit
    refine wpAny_pyNext_enum_itemD D he ⟨hit, p⟩ hi hne (fun z => ?_) fun y h' tk hy ho st' hT hsz hk => ?_
    · rcases List.mem_cons.mp z with z | z
      · exact hne z
      · exact h2 (List.mem_singleton.mp z).symm
    have ey : y = u := by
      have e1 : its.toArray[i]? = some u := by simpa using hu
      rw [e1] at hy
      exact (Option.some.inj hy).symm
    subst ey
    refine ⟨_, rfl, wpAny_letOwnedTupleGo_enum (s := { s with heap := h', toks := tk + 1 }) ho fun h'' he' sb => ?_⟩
    have hel := lts e (by simp)
    have hil := lts it (by simp)
    have hT2 : h''.get? s.heap.objs.size = some { cls := .type "tuple", data := .seq #[.int i tk, y] } := (sb.2 _ (Nat.ne_of_gt hel)).trans hT
    have new : ObjOk X.prog X.w (upd H s.heap.objs.size (.tup [.int (i : Nat), x])) h'' s.heap.objs.size (.tup [.int (i : Nat), x]) :=
      ⟨by show 2 ≤ sizeLine; decide, [.int i tk, y], .cons ⟨_, rfl⟩ (.cons ru .nil), ⟨_, hT2, rfl, _, rfl⟩⟩
    have I1 : Inv X pins σ (upd H s.heap.objs.size (.tup [.int (i : Nat), x])) { s with heap := h'', toks := tk + 1 } :=
      I.turnedNew (ch := [e, it]) (fun b ob hb q => (sb.2 b (fun z => hb (by simp [z]))).trans (hk b ob (fun z => hb (by simp [z])) (fun z => hb (by simp [z])) q)) hf (Nat.le_refl _) new
    refine ⟨.ref s.heap.objs.size, _, I1, rfl, ⟨_, x, rfl, I.hok.fresh (Nat.le_refl _), rfl, fun ys hy => by rw [I.tuple_inj hy hq]; exact hx⟩, ⟨⟨y, ?_⟩, st'.1.at fun o q => (sb.2 it (Ne.symm hne)).trans q, hne, h1, h2⟩, fun b hb => ?_⟩
    · have e1 : ((i + 1 : Nat) : Int) = (i : Int) + 1 := by omega
      rw [e1]
      exact he'
    · rw [upd_ne (Nat.ne_of_lt (lts b hb))]
      exact (hf b hb).1
  done := by
    intro X hP hw hK hc i pins s σ H E I hf st hg
    subst hP hw hK
    obtain ⟨⟨old, he⟩, hit, hne, h1, h2⟩ := st
    obtain ⟨xs, hq, hx⟩ := hg
    obtain ⟨its, rv, p, hz⟩ := I.tuple hq
    have hh : X.A.in1.handled = none := I.ok.hd hc
    have el : i = its.toArray.size := by
      have := rv.length
      simp
      omega
    obtain ⟨f0, f1, f2, f3, f4, f5⟩ := hf it (by simp)
    subst el
    exact wpAny_pyNext_enum_endD (Draws.tuple (prog := X.prog) (w := X.w) hh it a h1 its.toArray) he ⟨hit, p⟩ fun h' eb => ⟨rfl, I.turned (t' := s.toks) (fun b o hb q => eb b o hb q) f0 f1 f3 f4 f5⟩
  self := fun A i s Q E st h => by
    obtain ⟨⟨_, he⟩, _⟩ := st
    exact wpAny_pyIter_enum he h
/-- the walk of enumerate(x): by x's kind -/
def ItN (K : PySem.W.Frag) (H : Hp) (a : Addr) (xs : List V) (J : It) : Prop := (J = Ite K a ∧ H a = some (.lst xs)) ∨ (J = Itu K a ∧ H a = some (.tup xs))
def iEnS (K : PySem.W.Frag) (ta : TA) : TI := fun σ H R => ta σ H fun vs H1 => ∃ a xs, vs = [.ref a] ∧ Sq H1 a xs ∧ ∀ J, ItN K H1 a xs J → R J H1
theorem pi_enS {X : Cx} {e : Expr} {ta : TA} {p pos tpos : Pos} {elts : List Expr} {kk : Nat} (hm : X.mg "enumerate" = none) (ha : PA X [e] ta) (hg : Gl X "enumerate" := by rfl) (hs : starEach [e] X.env = [(false, eval e X.env)] := by rfl) :
    PI X (.Tuple elts kk tpos) (.Call (.Name "enumerate" p) [e] [] pos) (iEnS X.K ta) := by
  constructor
  intro pins s σ H R I h
  refine Call_ (ld_blt I hg hm boot_enumerate (PyProof.Rows.callWith_type1 (thn (ha.run pos pins s σ H _ I h) ?_) hs rfl))
  rintro us s1 ⟨vs, H1, I1, r1, a, xs, rfl, hq, q⟩
  cases r1 with
  | @cons _ u _ _ ra rr =>
    cases rr
    cases (show u = Value.ref a from ra)
    have new : ∀ b ∈ [s1.heap.objs.size + 1, s1.heap.objs.size], FpOk X pins H1 b := by
      intro b hb
      have hle : s1.heap.objs.size ≤ b := by
        rcases List.mem_cons.mp hb with z | hb
        · rw [z]; exact Nat.le_succ _
        · rw [List.mem_singleton.mp hb]; exact Nat.le_refl _
      exact I1.fpOk hle (I1.hok.fresh hle)
    rcases hq with hq | hq
    · obtain ⟨ws, _, pl, _⟩ := I1.list (SqL.of hq)
      refine enum_call1 (begins_list a ws.toArray) pl.isList fun h' he hi hk => wpAny_pyIter_enum he ?_
      exact ⟨_, _, _, _, H1, rfl, I1.kept (t' := s1.toks) hk, turn_enum a _ _, ⟨⟨_, he⟩, ⟨_, hi, rfl, rfl⟩, Nat.succ_ne_self _⟩, new, q _ (.inl ⟨rfl, hq⟩)⟩
    · obtain ⟨ws, _, pt, _⟩ := I1.tuple (SqT.of hq)
      have pt' : s1.heap.IsTuple a ws.toArray := pt
      have lt : a < s1.heap.objs.size := I1.hok.lt hq
      refine enum_call1 (begins_tuple a ws.toArray) pt' fun h' he hi hk => wpAny_pyIter_enum he ?_
      exact ⟨_, _, _, _, H1, rfl, I1.kept (t' := s1.toks) hk, turn_enumT a _ _, ⟨⟨_, he⟩, ⟨_, hi, rfl, rfl⟩, Nat.succ_ne_self _, Nat.ne_of_lt lt, Nat.ne_of_lt (Nat.lt_succ_of_lt lt)⟩, new, q _ (.inr ⟨rfl, hq⟩)⟩
/-- for i, x in enumerate(..): by a state P, turn by turn -/
theorem for_enS {K : PySem.W.Frag} {J : It} {g : TG} {tb : TS} {D : Ends} {a : Addr} {xs : List V} {σ : L2.St} {H : Hp} (hJ : ItN K H a xs J) (P : Nat → L2.St → Hp → Prop) (h0 : P 0 σ H) (hl : ∀ i σ2 H2, P i σ2 H2 → H2 a = H a)
    (hs : ∀ i x σ H T, xs[i]? = some x → P i σ H → H T = none → g (.ref T) σ (upd H T (.tup [.int (i : Nat), x])) fun σ2 H2 => tb { D with nx := P (i + 1), ct := P (i + 1), bk := D.nx } σ2 H2) (hd : ∀ σ H, P xs.length σ H → D.nx σ H) :
    ∃ W : Nat → Nat → L2.St → Hp → Prop, (∃ m, W 0 m σ H) ∧ ∀ i m σ H, W i m σ H →
      (J.stop i H ∧ D.nx σ H) ∨ (J.go i H ∧ ∃ N : L2.St → Hp → Prop, (∀ σ' H', N σ' H' → ∃ m', m' < m ∧ W (i + 1) m' σ' H') ∧ ∀ x H', J.yld i H x H' → g x σ H' fun σ2 H2 => tb { D with nx := N, ct := N, bk := D.nx } σ2 H2) := by
  refine ⟨fun i m σ H => m + i = xs.length ∧ P i σ H, ⟨xs.length, by omega, h0⟩, ?_⟩
  rintro i m σ2 H2 ⟨e, p⟩
  have ea := hl i σ2 H2 p
  by_cases hi : i < xs.length
  · have hx : xs[i]? = some xs[i] := List.getElem?_eq_getElem hi
    refine .inr ⟨?_, P (i + 1), fun σ' H' p' => ⟨m - 1, by omega, by omega, p'⟩, fun v H' y => ?_⟩
    · rcases hJ with ⟨rfl, z⟩ | ⟨rfl, z⟩
      · exact ⟨xs, _, SqL.of (ea.trans z), hx⟩
      · exact ⟨xs, _, SqT.of (ea.trans z), hx⟩
    · have y' : ∃ T x, v = .ref T ∧ H2 T = none ∧ H' = upd H2 T (.tup [.int (i : Nat), x]) ∧ xs[i]? = some x := by
        rcases hJ with ⟨rfl, z⟩ | ⟨rfl, z⟩
        · obtain ⟨T, x, h1, h2, h3, h4⟩ := y
          exact ⟨T, x, h1, h2, h3, h4 xs (SqL.of (ea.trans z))⟩
        · obtain ⟨T, x, h1, h2, h3, h4⟩ := y
          exact ⟨T, x, h1, h2, h3, h4 xs (SqT.of (ea.trans z))⟩
      obtain ⟨T, x, rfl, nT, rfl, hx'⟩ := y'
      exact hs i x σ2 H2 T hx' p nT
  · have e2 : i = xs.length := by omega
    subst e2
    refine .inl ⟨?_, hd σ2 H2 p⟩
    rcases hJ with ⟨rfl, z⟩ | ⟨rfl, z⟩
    · exact ⟨xs, SqL.of (ea.trans z), Nat.le_refl _⟩
    · exact ⟨xs, SqT.of (ea.trans z), rfl⟩
end WR

/-! Further rules: d[k] as an index, extend by a tuple, sorted(d) of any number of ints. -/
namespace PySem.AutoSeq1
set_option maxRecDepth 8000 in
theorem ext_tup (l : Addr) (items : Array Value) (n : Nat) (b : Addr) (items2 : Array Value) (n2 : Nat) (dd : Option Addr) (sl : Array (Option Value)) (hs0 : ¬(!items.isEmpty && Builtin.List.listTooLong (items.size + items2.size)) = true) (hs1 : items.size ≤ sizeLine) (hs2 : items.size + items2.size ≤ sizeLine + 1) :
    Meets (Builtin.«list.extend» ⟨[.ref l, .ref b], []⟩) (fun _ R s => s.heap.get? l = some { cls := .type "list", dict := none, data := .seq items n, slots := #[] } ∧ s.heap.get? b = some { cls := .type "tuple", dict := dd, data := .seq items2 n2, slots := sl } ∧ R (.ok (.ret Value.none)) { s with heap := s.heap.update l (Obj.mapSeq fun x => x ++ items2), toks := s.toks }) :=
  .of_wp fun prog w A R s h => by
    obtain ⟨hp, g, d, tk, os⟩ := s; obtain ⟨hl, hb, h⟩ := h; have f1 := idx_int; have f2 := sub_tuple_tuple; have f3 := sub_list_list; have f4 := sub_tuple_list; have f5 := sub_list_tuple;
    have hz' : (items ++ items2).size ≤ sizeLine + 1 := by rw [Array.size_append]; exact hs2
    wp_walk using (wpAny_updateSeq hl rfl (hz := hs1) (_hz' := hz')), wpAny_loadPart' hl, wpAny_loadPart' hb; exact ⟨_, rfl, h⟩
end PySem.AutoSeq1
namespace WR
open PySem PySem.Spec PyProof.Rows L2
section
variable {X : Cx}
def rIxK : R2 := fun x y H Q => ∃ a v, x = .ref a ∧ DGet H a y (some v) ∧ Q v H
theorem ix_K (hu : X.A.units + 1 < cLine) : IxR X rIxK := by
  intro value slice pins s σ H x y v u Q I rx ry h hs
  obtain ⟨a, z, rfl, g, q⟩ := h
  obtain rfl : v = Value.ref a := rx
  have hT := dict_typeIs I g
  unfold subscriptTail
  refine wpAny_bind ?_
  rw [getitemInPython_of_ne hT.not_modules]
  refine wpAny_bind (wpAny_specialOf hT PySem.F.slot_dict_getitem.lookup ?_)
  have fin : wpAny (model X.prog X.w) X.A (subscripted slice false (.ref a) u) (fun r s₃ => wpAny (model X.prog X.w) X.A (letTemporaryGo value (.ref a) r >>= fun _ => pure r) (EP X pins σ Q) X.xe s₃) X.xe s := by
    rw [hs]
    exact wpAny_operating (wpAny_mono (d_getItem hu I g ry fun w' s3 I3 rw' => ⟨z, H, I3, rw', q⟩) (fun r s₃ h₃ => wpAny_bind (wpAny_letTemporaryGo (wpAny_pure h₃))) fun _ _ x => x)
  first
    | exact wpAny_pure (wpAny_bind fin)
    | exact wpAny_bind (wpAny_pure (wpAny_bind fin))
/-- numbers told of numbers: a list of them, or a dict -/
def Pl (H : Hp) (x : V) (f : Nat → Nat) (k : Nat) : Prop := (∃ ps : List Nat, Dr All H x (.list (ps.map fun (k : Nat) => PyData.int (k : Int))) ∧ ps[k]? = some (f k)) ∨ ∃ a kvs, x = .ref a ∧ H a = some (.dK kvs) ∧ valV kvs (Sum.inl (k : Int)) = some (.int (f k : Nat))
theorem Pl.sm {H H' : Hp} {x : V} {f : Nat → Nat} {k : Nat} (s : Sm H H') (h : Pl H x f k) : Pl H' x f k := by
  rcases h with ⟨ps, r, e⟩ | ⟨a, kvs, rfl, e, g⟩
  · exact .inl ⟨ps, r.sm s, e⟩
  · exact .inr ⟨a, kvs, rfl, s _ _ e, g⟩
def rIxP (f : Nat → Nat) : R2 := fun x y H Q => ∃ k : Nat, y = .int (k : Int) ∧ Pl H x f k ∧ Q (.int (f k : Nat)) H
theorem ix_P (hu : X.A.units + 1 < cLine) (f : Nat → Nat) : IxR X (rIxP f) := by
  intro value slice pins s σ H x y v u Q I rx ry h hs
  obtain ⟨k, rfl, p, q⟩ := h
  rcases p with ⟨ps, r, e⟩ | ⟨a, kvs, rfl, e, g⟩
  · exact ix_D value slice pins s σ H x _ v u Q I rx ry ⟨_, k, .int (f k : Nat), r, rfl, rfl, by show (ps.map _)[k]? = _; rw [List.getElem?_map, e]; rfl, fun v rv => by cases rv; exact q⟩ hs
  · refine ix_K hu value slice pins s σ H _ _ v u Q I rx ry ⟨a, _, rfl, ?_, q⟩ hs
    rw [← g]
    exact DGet.k (k := Sum.inl (k : Int)) e
/-- l.extend(xs), xs a list or a tuple -/
def rExtS : V → List V → Hp → VK → Prop := fun x vs H Q => ∃ l b xs zs, x = .ref l ∧ vs = [.ref b] ∧ H l = some (.lst xs) ∧ Sq H b zs ∧ xs.length + zs.length ≤ sizeLine ∧ Q .non (upd H l (.lst (xs ++ zs)))
theorem mt_extS : MtM X "list.extend" rExtS := by
  intro pins s σ H x vs v us Q I rx rv h
  obtain ⟨l, b, xs, zs, rfl, rfl, hH, hB, hz, q⟩ := h
  rcases hB with hB | hB
  · exact mt_extend pins s σ H _ _ v us Q I rx rv ⟨l, b, xs, zs, rfl, rfl, hH, hB, hz, q⟩
  cases rx
  obtain ⟨u, rfl, ru⟩ := rv.one
  cases ru
  obtain ⟨z, its, n, r, hl, e⟩ := I.lstM hH
  obtain ⟨its2, r2, ⟨o, ho, hc, n2, hd⟩, z2⟩ := I.tuple (SqT.of hB)
  have l1 := r.length
  have l2 := r2.length
  have hsz : its.toArray.size + its2.toArray.size ≤ sizeLine := by rw [List.size_toArray, List.size_toArray]; omega
  have hlong : ¬ (!its.toArray.isEmpty && Builtin.List.listTooLong (its.toArray.size + its2.toArray.size)) = true := by
    have : Builtin.List.listTooLong (its.toArray.size + its2.toArray.size) = false := by
      unfold Builtin.List.listTooLong
      exact decide_eq_false (by omega)
    rw [this, Bool.and_false]
    exact Bool.false_ne_true
  obtain ⟨oc, od, odt, osl⟩ := o
  cases hc
  cases hd
  refine call_meets F.slot_list_extend ⟨_, e, rfl⟩ F.entry_list_extend (F.args_list_extend_2 _ _)
    (AutoSeq1.ext_tup l its.toArray n b its2.toArray n2 od osl hlong (by rw [List.size_toArray]; omega) (by omega)) ⟨e, ho, ?_⟩
  refine ⟨.non, _, I.lset (its' := its ++ its2) hH e (by simp) (r.append r2) ?_, rfl, q⟩
  rw [List.length_append]
  omega
/-- sorted(d) of a dict whose keys are ints, any number of them -/
theorem call_sortedDL (hcalm : X.calm = true) : CallR X (.builtin "sorted") (fun xs H Q => ∃ (a : Addr) (kvs : List (Key × V)) (ks : List Int), xs = [.ref a] ∧ H a = some (.dK kvs) ∧ kvs.map (·.1) = ks.map Sum.inl ∧ ks.length ≤ sizeLine ∧
    ∀ (ys : List Int) (p : Addr), ys.Perm ks → ys.Pairwise (· ≤ ·) → H p = none → Q (.ref p) (upd H p (.lst (ys.map V.int)))) := by
  intro pins s σ H xs us Q I r q
  obtain ⟨a, kvs, ks, ex, hd, hks, h64, q⟩ := q
  subst ex
  obtain ⟨u, eu, rx⟩ := vals1 r
  subst eu
  cases rx
  obtain ⟨z, lo, vs, rel, dd⟩ := dk_rd I.hok (.inl hd)
  obtain ⟨ep, hat⟩ := dd.dictAt
  have hkeys : vs.map (·.1) = ks.map Sum.inl := rel.keys.symm.trans hks
  have hl : vs.length = ks.length := by
    have e := congrArg List.length hkeys
    rw [List.length_map, List.length_map] at e
    exact e
  have h16 : vs.length ≤ sizeLine := by rw [hl]; exact h64
  refine Calls.call_function_entry PyProof.Rows.kind_sorted PyProof.Rows.plain_sorted PyProof.Rows.entry_sorted (PyProof.Rows.args_sorted1 _) ?_
  unfold Builtin.«sorted»
  refine wpAny_bind (m := checkCount "sorted" 1 1 _) (wpAny_pure ?_)
  refine wpAny_bind (PySem.W.kdu_collect (A := X.A.in1) (PySem.W.kdl_dict (knd := mixKind X.prog X.w) (kvs := vs) (ep := ep) lo) (I.ok.hd hcalm) hat h16 fun h' tk acc hk hacc => ?_)
  have hal : acc.toList.length = ks.length := by rw [Array.length_toList, hacc.1, hl]
  have hS : IntsAre acc.toList ks := ints_each hal fun j v e => by
    obtain ⟨k, x, e1, e2⟩ := hacc.2 j v (by rw [← Array.getElem?_toList]; exact e)
    have e3 : (vs.map (·.1))[j]? = some k := by rw [List.getElem?_map, e1]; rfl
    rw [hkeys, List.getElem?_map] at e3
    cases e4 : ks[j]? with
    | none => rw [e4] at e3; cases e3
    | some y =>
      rw [e4] at e3
      have e5 : Sum.inl y = k := Option.some.inj e3
      subst e5
      rcases keyIs_shape (show keyIs (Sum.inl y) v = true from e2) with ⟨i, t, ek, ev⟩ | ⟨z, t, ek, ev⟩
      · cases ek
        exact ⟨y, t, rfl, ev⟩
      · cases ek
  have I1 : Inv X pins σ H { s with heap := h', toks := tk } := I.kept hk
  refine wpAny_bind (wpAny_newList ?_ (by rw [hal]; exact h64))
  have hoL : (h'.push (seqObj "list" acc.toList.toArray 0)).get? h'.objs.size = some (seqObj "list" acc.toList.toArray 0) := Heap.get?_push_size _ rfl
  show wpAny _ _ _ _ _ { s with heap := h'.push (seqObj "list" acc.toList.toArray 0), toks := tk }
  refine wpAny_bind (wpAny_holding (wpAny_call_entry PyProof.Rows.slot_list_sort ⟨_, hoL, rfl⟩ PyProof.Rows.entry_list_sort
    (SrtO.list_sort_ord (s := { s with heap := h'.push (seqObj "list" acc.toList.toArray 0), toks := tk }) SrtO.swo_int hoL (by rw [hal]; exact h64) (fun h2 => SrtO.ints_sortable hS h2) fun out h1 h2 => ⟨_, rfl, ?_⟩) (PyProof.Rows.args_list_sort _)))
  obtain ⟨k1, k2, k3⟩ := SrtO.ints_out hS h1 h2
  obtain ⟨e', he'⟩ := PyProof.Rows.sortedHeap_at (vs := acc.toList) (out := out.toArray) hoL
  have hlen : ((out.map SrtO.iv).map V.int).length ≤ sizeLine := by
    rw [List.length_map, k2.length_eq]
    exact h64
  refine wpAny_pure ⟨_, rfl, .ref h'.objs.size, upd H h'.objs.size (.lst ((out.map SrtO.iv).map V.int)), I1.laid (t' := tk) (fun b u e => ?_) (Nat.le_refl _)
    (show ObjOk X.prog X.w _ _ _ (.lst ((out.map SrtO.iv).map V.int)) from ⟨hlen, out, e', vals_of_ints k1, he'⟩), rfl, q _ _ k2 k3 (I1.hok.fresh (Nat.le_refl _))⟩
  have hb : b < h'.objs.size := Heap.lt_size e
  rw [PyProof.Rows.sortedHeap_old (Nat.ne_of_lt hb) (by rw [size_push']; exact Nat.lt_succ_of_lt hb)]
  exact Heap.get?_push_of_some _ e
end
end WR

namespace K8
open PySem PySem.Spec PyProof.Rows L2
def top (i : Nat) : Stmt := PySem.Challenge.pw_pagestrue_k10_whole_measured_and_decided.main.body.getD i (.Pass ⟨0, 0, 0, 0⟩)
abbrev sBadWeb_I : Stmt := inClass (top 2) 0
def dBadWeb_I : He.DefD := ⟨("BadWeb", some "__init__"), "__init__", "BadWeb.__init__", defArgs sBadWeb_I, defBody sBadWeb_I, defScope sBadWeb_I, [], []⟩
abbrev sBadPart_I : Stmt := inClass (top 3) 0
def dBadPart_I : He.DefD := ⟨("BadPart", some "__init__"), "__init__", "BadPart.__init__", defArgs sBadPart_I, defBody sBadPart_I, defScope sBadPart_I, [], []⟩
abbrev sBadTruths_I : Stmt := inClass (top 4) 0
def dBadTruths_I : He.DefD := ⟨("BadTruths", some "__init__"), "__init__", "BadTruths.__init__", defArgs sBadTruths_I, defBody sBadTruths_I, defScope sBadTruths_I, [], []⟩
abbrev sRowTable_I : Stmt := inClass (top 6) 0
def dRowTable_I : He.DefD := ⟨("RowTable", some "__init__"), "__init__", "RowTable.__init__", defArgs sRowTable_I, defBody sRowTable_I, defScope sRowTable_I, [], []⟩
abbrev sRowTable_put_in : Stmt := inClass (top 6) 1
def dRowTable_put_in : He.DefD := ⟨("RowTable", some "put_in"), "put_in", "RowTable.put_in", defArgs sRowTable_put_in, defBody sRowTable_put_in, defScope sRowTable_put_in, [], []⟩
abbrev snamed_rows : Stmt := top 7
def dnamed_rows : He.DefD := ⟨("named_rows", none), "named_rows", "named_rows", defArgs snamed_rows, defBody snamed_rows, defScope snamed_rows, [], []⟩
abbrev sled_row : Stmt := top 8
def dled_row : He.DefD := ⟨("led_row", none), "led_row", "led_row", defArgs sled_row, defBody sled_row, defScope sled_row, [], []⟩
abbrev scone_of : Stmt := top 9
def dcone_of : He.DefD := ⟨("cone_of", none), "cone_of", "cone_of", defArgs scone_of, defBody scone_of, defScope scone_of, [], []⟩
abbrev sis_list : Stmt := top 12
def dis_list : He.DefD := ⟨("is_list", none), "is_list", "is_list", defArgs sis_list, defBody sis_list, defScope sis_list, [], []⟩
abbrev sis_number : Stmt := top 13
def dis_number : He.DefD := ⟨("is_number", none), "is_number", "is_number", defArgs sis_number, defBody sis_number, defScope sis_number, [], []⟩
abbrev sare_numbers : Stmt := top 14
def dare_numbers : He.DefD := ⟨("are_numbers", none), "are_numbers", "are_numbers", defArgs sare_numbers, defBody sare_numbers, defScope sare_numbers, [], []⟩
abbrev sis_place : Stmt := top 15
def dis_place : He.DefD := ⟨("is_place", none), "is_place", "is_place", defArgs sis_place, defBody sis_place, defScope sis_place, [], []⟩
abbrev sis_letter : Stmt := top 16
def dis_letter : He.DefD := ⟨("is_letter", none), "is_letter", "is_letter", defArgs sis_letter, defBody sis_letter, defScope sis_letter, [], []⟩
abbrev sis_figure : Stmt := top 17
def dis_figure : He.DefD := ⟨("is_figure", none), "is_figure", "is_figure", defArgs sis_figure, defBody sis_figure, defScope sis_figure, [], []⟩
abbrev sbegins_name : Stmt := top 18
def dbegins_name : He.DefD := ⟨("begins_name", none), "begins_name", "begins_name", defArgs sbegins_name, defBody sbegins_name, defScope sbegins_name, [], []⟩
abbrev sis_name : Stmt := top 19
def dis_name : He.DefD := ⟨("is_name", none), "is_name", "is_name", defArgs sis_name, defBody sis_name, defScope sis_name, [], []⟩
abbrev srow_form : Stmt := top 21
def drow_form : He.DefD := ⟨("row_form", none), "row_form", "row_form", defArgs srow_form, defBody srow_form, defScope srow_form, [], []⟩
abbrev srow_why : Stmt := top 22
def drow_why : He.DefD := ⟨("row_why", none), "row_why", "row_why", defArgs srow_why, defBody srow_why, defScope srow_why, [], []⟩
abbrev sscanned_web : Stmt := top 23
def dscanned_web : He.DefD := ⟨("scanned_web", none), "scanned_web", "scanned_web", defArgs sscanned_web, defBody sscanned_web, defScope sscanned_web, [], []⟩
abbrev sjudged_web : Stmt := top 24
def djudged_web : He.DefD := ⟨("judged_web", none), "judged_web", "judged_web", defArgs sjudged_web, defBody sjudged_web, defScope sjudged_web, [], []⟩
abbrev sis_part : Stmt := top 25
def dis_part : He.DefD := ⟨("is_part", none), "is_part", "is_part", defArgs sis_part, defBody sis_part, defScope sis_part, [], []⟩
abbrev sjudged_part : Stmt := top 26
def djudged_part : He.DefD := ⟨("judged_part", none), "judged_part", "judged_part", defArgs sjudged_part, defBody sjudged_part, defScope sjudged_part, [], []⟩
abbrev sneeded : Stmt := top 28
def dneeded : He.DefD := ⟨("needed", none), "needed", "needed", defArgs sneeded, defBody sneeded, defScope sneeded, [], []⟩
abbrev sneeds_of : Stmt := top 29
def dneeds_of : He.DefD := ⟨("needs_of", none), "needs_of", "needs_of", defArgs sneeds_of, defBody sneeds_of, defScope sneeds_of, [], []⟩
abbrev ssteps_in : Stmt := top 30
def dsteps_in : He.DefD := ⟨("steps_in", none), "steps_in", "steps_in", defArgs ssteps_in, defBody ssteps_in, defScope ssteps_in, [], []⟩
abbrev stests_in : Stmt := top 31
def dtests_in : He.DefD := ⟨("tests_in", none), "tests_in", "tests_in", defArgs stests_in, defBody stests_in, defScope stests_in, [], []⟩
abbrev sdepth_of : Stmt := top 32
def ddepth_of : He.DefD := ⟨("depth_of", none), "depth_of", "depth_of", defArgs sdepth_of, defBody sdepth_of, defScope sdepth_of, [], []⟩
abbrev stree_of : Stmt := top 33
def dtree_of : He.DefD := ⟨("tree_of", none), "tree_of", "tree_of", defArgs stree_of, defBody stree_of, defScope stree_of, [], []⟩
abbrev sdecided : Stmt := top 34
def ddecided : He.DefD := ⟨("decided", none), "decided", "decided", defArgs sdecided, defBody sdecided, defScope sdecided, [], []⟩
abbrev sare_truths : Stmt := top 35
def dare_truths : He.DefD := ⟨("are_truths", none), "are_truths", "are_truths", defArgs sare_truths, defBody sare_truths, defScope sare_truths, [], []⟩
abbrev sis_asked : Stmt := top 36
def dis_asked : He.DefD := ⟨("is_asked", none), "is_asked", "is_asked", defArgs sis_asked, defBody sis_asked, defScope sis_asked, [], []⟩
abbrev sdecided_place : Stmt := top 37
def ddecided_place : He.DefD := ⟨("decided_place", none), "decided_place", "decided_place", defArgs sdecided_place, defBody sdecided_place, defScope sdecided_place, [], []⟩
abbrev s_law_well : Stmt := top 39
def d_law_well : He.DefD := ⟨("_law_well", none), "_law_well", "_law_well", defArgs s_law_well, defBody s_law_well, defScope s_law_well, [], []⟩
abbrev s_law_draw : Stmt := top 40
def d_law_draw : He.DefD := ⟨("_law_draw", none), "_law_draw", "_law_draw", defArgs s_law_draw, defBody s_law_draw, defScope s_law_draw, [], []⟩
abbrev s_law_pick : Stmt := top 41
def d_law_pick : He.DefD := ⟨("_law_pick", none), "_law_pick", "_law_pick", defArgs s_law_pick, defBody s_law_pick, defScope s_law_pick, [], []⟩
abbrev s_law_mixed : Stmt := top 42
def d_law_mixed : He.DefD := ⟨("_law_mixed", none), "_law_mixed", "_law_mixed", defArgs s_law_mixed, defBody s_law_mixed, defScope s_law_mixed, [], []⟩
abbrev s_law_same : Stmt := top 43
def d_law_same : He.DefD := ⟨("_law_same", none), "_law_same", "_law_same", defArgs s_law_same, defBody s_law_same, defScope s_law_same, [], []⟩
abbrev s_law_spoiled : Stmt := top 44
def d_law_spoiled : He.DefD := ⟨("_law_spoiled", none), "_law_spoiled", "_law_spoiled", defArgs s_law_spoiled, defBody s_law_spoiled, defScope s_law_spoiled, [], []⟩
abbrev s_law_k_needs : Stmt := top 45
def d_law_k_needs : He.DefD := ⟨("_law_k_needs", none), "_law_k_needs", "_law_k_needs", defArgs s_law_k_needs, defBody s_law_k_needs, defScope s_law_k_needs, [], []⟩
abbrev s_law_k_row : Stmt := top 46
def d_law_k_row : He.DefD := ⟨("_law_k_row", none), "_law_k_row", "_law_k_row", defArgs s_law_k_row, defBody s_law_k_row, defScope s_law_k_row, [], []⟩
abbrev s_law_k_web : Stmt := top 47
def d_law_k_web : He.DefD := ⟨("_law_k_web", none), "_law_k_web", "_law_k_web", defArgs s_law_k_web, defBody s_law_k_web, defScope s_law_k_web, [], []⟩
abbrev s_law_p_once : Stmt := top 48
def d_law_p_once : He.DefD := ⟨("_law_p_once", none), "_law_p_once", "_law_p_once", defArgs s_law_p_once, defBody s_law_p_once, defScope s_law_p_once, [], []⟩
abbrev s_law_p_loose : Stmt := top 49
def d_law_p_loose : He.DefD := ⟨("_law_p_loose", none), "_law_p_loose", "_law_p_loose", defArgs s_law_p_loose, defBody s_law_p_loose, defScope s_law_p_loose, [], []⟩
abbrev s_law_met : Stmt := top 50
def d_law_met : He.DefD := ⟨("_law_met", none), "_law_met", "_law_met", defArgs s_law_met, defBody s_law_met, defScope s_law_met, [], []⟩
abbrev s_law_under : Stmt := top 51
def d_law_under : He.DefD := ⟨("_law_under", none), "_law_under", "_law_under", defArgs s_law_under, defBody s_law_under, defScope s_law_under, [], []⟩
abbrev s_law_depths : Stmt := top 52
def d_law_depths : He.DefD := ⟨("_law_depths", none), "_law_depths", "_law_depths", defArgs s_law_depths, defBody s_law_depths, defScope s_law_depths, [], []⟩
abbrev s_law_trees : Stmt := top 53
def d_law_trees : He.DefD := ⟨("_law_trees", none), "_law_trees", "_law_trees", defArgs s_law_trees, defBody s_law_trees, defScope s_law_trees, [], []⟩
abbrev s_law_led : Stmt := top 54
def d_law_led : He.DefD := ⟨("_law_led", none), "_law_led", "_law_led", defArgs s_law_led, defBody s_law_led, defScope s_law_led, [], []⟩
abbrev s_law_decided : Stmt := top 55
def d_law_decided : He.DefD := ⟨("_law_decided", none), "_law_decided", "_law_decided", defArgs s_law_decided, defBody s_law_decided, defScope s_law_decided, [], []⟩
abbrev s_law_measured_right : Stmt := top 56
def d_law_measured_right : He.DefD := ⟨("_law_measured_right", none), "_law_measured_right", "_law_measured_right", defArgs s_law_measured_right, defBody s_law_measured_right, defScope s_law_measured_right, [], []⟩
abbrev s_law_decided_right : Stmt := top 57
def d_law_decided_right : He.DefD := ⟨("_law_decided_right", none), "_law_decided_right", "_law_decided_right", defArgs s_law_decided_right, defBody s_law_decided_right, defScope s_law_decided_right, [], []⟩
abbrev s_law_refused_right : Stmt := top 58
def d_law_refused_right : He.DefD := ⟨("_law_refused_right", none), "_law_refused_right", "_law_refused_right", defArgs s_law_refused_right, defBody s_law_refused_right, defScope s_law_refused_right, [], []⟩
abbrev slaw : Stmt := top 59
def dlaw : He.DefD := ⟨("law", none), "law", "law", defArgs slaw, defBody slaw, defScope slaw, [], []⟩
end K8

namespace K8
open PySem PySem.Spec PyProof.Rows L2 WR
/-- built-in names that the text leaves alone -/
structure Bt (mg : Str → Option Value) : Prop where
  isinstance : mg "isinstance" = none
  list : mg "list" = none
  tuple : mg "tuple" = none
  int : mg "int" = none
  bool : mg "bool" = none
  str : mg "str" = none
  dict : mg "dict" = none
  len : mg "len" = none
  all : mg "all" = none
  any : mg "any" = none
  range : mg "range" = none
  enumerate : mg "enumerate" = none
  zip : mg "zip" = none
  abs : mg "abs" = none
  sum : mg "sum" = none
  repr : mg "repr" = none
/-- the def's object -/
abbrev Fn (K : PySem.W.Frag) (mg : Str → Option Value) (d : He.DefD) : Prop := ∃ f fd, mg d.name = some (.ref f) ∧ FunD K d.name d.qual d.params d.body d.scope [] [] f fd
section
variable {P : Program} {w : World} {K : PySem.W.Frag} {mg : Str → Option Value} {base : Heap}
/-! ### is_list -/
theorem sc_is_list : FnScope ["thing"] ["thing"] (defScope sis_list) := ⟨rfl, rfl, rfl, by decide +kernel, rfl, by decide +kernel, by decide +kernel⟩
theorem ok_is_list (B : Bt mg) (F : Fn K mg dis_list) : Df P w K mg base CX0 1 "is_list" ["thing"] (spP 1 (fun _ => True) fun ds => .bool (isL (ds.headD .none))) := by
  obtain ⟨f, fd, hm, F⟩ := F
  refine ⟨f, fd, hm, F.kp, F.bindsN fun _ _ _ _ _ _ us hl => match us, hl with | [_], _ => rfl, ?_⟩
  refine F.ok sc_is_list (fun vs H Q E h => spP_len vs H Q E h) (fun cdv A outer s H vs Q E hr h => ?_)
  obtain ⟨v, d, rfl, rd, -, q⟩ := spP1 h
  refine ⟨_, PSs.nox (pss_one (ps_ret (pe_callB (call_isD2 kit_list kit_tuple isL_or) (by rfl) B.isinstance (by decide +kernel)
    (pa_cons (pv 0) (pa_cons (pe_tup (pa_cons (pe_ty "list" B.list (by decide +kernel)) (pa_cons (pe_ty "tuple" B.tuple (by decide +kernel)) pa_nil))) pa_nil))))), ?_⟩
  refine ⟨_, rfl, (by show 2 ≤ sizeLine; decide), fun t ht => ?_⟩
  refine ⟨v, t, d, rfl, upd_same, rd.sm (Sm.new ht), q _ _ (Sm.new ht) (.bl _)⟩
end
end K8

namespace K8
open PySem PySem.Spec PyProof.Rows L2 WR
/-! ### mirrors -/
def isNum : PyData → Bool
  | .int i => decide (0 ≤ i)
  | _ => false
def areNums (d : PyData) : Bool := isL d && (its d).all isNum
section
variable {P : Program} {w : World} {K : PySem.W.Frag} {mg : Str → Option Value} {base : Heap}
/-! ### is_number -/
theorem sc_is_number : FnScope ["thing"] ["thing"] (defScope sis_number) := ⟨rfl, rfl, rfl, by decide +kernel, rfl, by decide +kernel, by decide +kernel⟩
theorem ok_is_number (B : Bt mg) (F : Fn K mg dis_number) : Df P w K mg base CX0 1 "is_number" ["thing"] (spP 1 (fun _ => True) fun ds => .bool (isNum (ds.headD .none))) := by
  obtain ⟨f, fd, hm, F⟩ := F
  refine ⟨f, fd, hm, F.kp, F.bindsN fun _ _ _ _ _ _ us hl => match us, hl with | [_], _ => rfl, ?_⟩
  refine F.ok sc_is_number (fun vs H Q E h => spP_len vs H Q E h) (fun cdv A outer s H vs Q E hr h => ?_)
  obtain ⟨v, d, rfl, rd, -, q⟩ := spP1 h
  refine ⟨_, PSs.nox (pss_one (ps_ret (pe_and (pe_callB (call_isD kit_int) (by rfl) B.isinstance (by decide +kernel) (pa_cons (pv 0) (pa_cons (pe_ty "int" B.int (by decide +kernel)) pa_nil)))
    (pe_and (pe_not (pe_callB (call_isD kit_bool) (by rfl) B.isinstance (by decide +kernel) (pa_cons (pv 0) (pa_cons (pe_ty "bool" B.bool (by decide +kernel)) pa_nil))))
      (pe_one (pe_cmpR op_ge (pv 0) pe_int (nomark _))))))), ?_⟩
  refine ⟨_, rfl, v, d, rfl, rd, _, rfl, ?_⟩
  have fin : ∀ b, isNum d = b → Q (.bl b) H := fun b e => q _ _ Sm.rfl' (by rw [show isNum ([d].headD .none) = b from e]; exact .bl b)
  cases rd with
  | int i =>
    exact iteT ⟨_, rfl, _, _, rfl, .int i, _, rfl, _, rfl, iteT ⟨_, rfl, _, _, rfl, rfl, fin _ rfl⟩⟩
  | bl b => exact iteT ⟨_, rfl, _, _, rfl, .bl b, _, rfl, _, rfl, iteF (fin _ rfl)⟩
  | _ => exact iteF (fin _ rfl)
/-! ### are_numbers -/
theorem sc_are_numbers : FnScope ["thing", "one"] ["thing"] (defScope sare_numbers) := ⟨rfl, rfl, rfl, by decide +kernel, rfl, by decide +kernel, by decide +kernel⟩
theorem ok_are_numbers (B : Bt mg) (F : Fn K mg dare_numbers) (D1 : Df P w K mg base CX0 1 "is_list" ["thing"] (spP 1 (fun _ => True) fun ds => .bool (isL (ds.headD .none))))
    (D2 : Df P w K mg base CX0 1 "is_number" ["thing"] (spP 1 (fun _ => True) fun ds => .bool (isNum (ds.headD .none)))) :
    Df P w K mg base CX0 2 "are_numbers" ["thing"] (spP 1 (fun ds => wdA ds = true) fun ds => .bool (areNums (ds.headD .none))) := by
  obtain ⟨f, fd, hm, F⟩ := F
  refine ⟨f, fd, hm, F.kp, F.bindsN fun _ _ _ _ _ _ us hl => match us, hl with | [_], _ => rfl, ?_⟩
  refine F.ok sc_are_numbers (fun vs H Q E h => spP_len vs H Q E h) (fun cdv A outer s H vs Q E hr h => ?_)
  obtain ⟨v, d, rfl, rd, wdd, q⟩ := spP1 h
  refine ⟨_, PSs.nox (pss_one (ps_ret (pe_and (pe_df D1 hr pass0 (pa_cons (pv 0) pa_nil))
    (pe_one (pe_callB (cr_all rfl) (by rfl) B.all (by decide +kernel) (pa_cons (pe_lc (own := [("one", 1)]) (g := gName 1) (tt := tYes) rfl sc_are_numbers.nd (pi_seq (pv 0)) (blkOk_by (own := [("one", 1)]) (N := ["thing", "one"]) (sc := defScope sare_numbers) (by decide +kernel))
      (fun _ _ _ _ _ => pg_name (i := 1) sc_are_numbers.nd rfl (Or.inl rfl)) (fun _ _ _ _ _ => pts_nil) (fun _ _ _ _ _ => pe_df D2 (hr.mono (by decide)) pass0 (pa_cons (pv 1) pa_nil))) pa_nil)))))), ?_⟩
  refine ⟨_, rfl, spP1_of rd trivial fun u H1 s1 r1 => ?_⟩
  have e1 := r1.bl_inv
  subst e1
  refine ⟨_, rfl, ite2 (fun hL => ?_) (fun hL => ?_)⟩
  · have hL' : isL d = true := hL
    obtain ⟨a, xs, rfl, hq, rs⟩ := (rd.sm s1).seq hL'
    have ww := wd_its (d := d) (by simpa [wdA] using wdd) hL'
    refine ⟨_, rfl, a, xs, rfl, hq, fun J hJ D nD => ?_⟩
    refine lc_fz (fun d => .bool (isNum d)) (.seq hJ rs) nD ww.1 (fun _ => rfl) (fun _ _ => rfl) (fun x e H2 Q' he s2 rx q' => ?_) fun H2 ys s2 eD ry => ?_
    · exact ⟨_, rfl, spP1_of rx trivial q'⟩
    · have eb : (its d).map (fun d => PyData.bool (isNum d)) = ((its d).map isNum).map PyData.bool := by simp
      rw [eb] at ry
      have ey := ry.bls
      subst ey
      refine ⟨_, (its d).map isNum, rfl, SqL.of eD, q _ _ (s1.trans s2) ?_⟩
      have e : areNums ([d].headD .none) = (List.map isNum (its d)).all id := by
        simp [areNums, hL', List.all_map]
      rw [e]
      exact .bl _
  · have hL' : isL d = false := by
      cases z : isL d with
      | false => rfl
      | true => exact absurd z hL
    refine q _ _ s1 ?_
    rw [show areNums ([d].headD .none) = false by simp [areNums, hL']]
    exact .bl false
end
end K8

namespace K8
open PySem PySem.Spec PyProof.Rows L2 WR
/-! ### mirrors -/
def leS (x y : Str) : Bool := !decide (y.cps.toList < x.cps.toList)
def isLet (x : Str) : Bool := leS "a" x && leS x "z"
def isFig (x : Str) : Bool := leS "0" x && leS x "9"
def strOf : PyData → Str
  | .str x => x
  | _ => ""
def isPlace (t : PyData) (m : Int) : Bool := match t with
  | .int i => decide (0 ≤ i) && decide (i < m)
  | _ => false
def headS (x : Str) : Str := match x.cps.toList with
  | c :: _ => ⟨#[c]⟩
  | [] => ""
def begName (x : Str) : Bool := decide (x.length ≤ 8) && ((signsD x).all fun d => isLet (strOf d) || isFig (strOf d)) && (decide (x = "") || isLet (headS x))
def isName : PyData → Bool
  | .str x => !decide (x = "") && begName x
  | _ => false
def intOf : PyData → Int
  | .int i => i
  | _ => 0
section
variable {P : Program} {w : World} {K : PySem.W.Frag} {mg : Str → Option Value} {base : Heap}
/-! ### is_place -/
theorem sc_is_place : FnScope ["thing", "many"] ["thing", "many"] (defScope sis_place) := ⟨rfl, rfl, rfl, by decide +kernel, rfl, by decide +kernel, by decide +kernel⟩
theorem ok_is_place (F : Fn K mg dis_place) (D1 : Df P w K mg base CX0 1 "is_number" ["thing"] (spP 1 (fun _ => True) fun ds => .bool (isNum (ds.headD .none)))) :
    Df P w K mg base CX0 2 "is_place" ["thing", "many"] (spP 2 (fun ds => ∃ d m, ds = [d, .int m]) fun ds => .bool (isPlace (ds.headD .none) (intOf (ds.getD 1 .none)))) := by
  obtain ⟨f, fd, hm, F⟩ := F
  refine ⟨f, fd, hm, F.kp, F.bindsN fun _ _ _ _ _ _ us hl => match us, hl with | [_, _], _ => rfl, ?_⟩
  refine F.ok sc_is_place (fun vs H Q E h => spP_len vs H Q E h) (fun cdv A outer s H vs Q E hr h => ?_)
  obtain ⟨v, w', d, e, rfl, rd, re, ⟨_, m, z⟩, q⟩ := spP2 h
  cases z
  cases re.int_inv
  refine ⟨_, PSs.nox (pss_one (ps_ret (pe_and (pe_df D1 hr pass0 (pa_cons (pv 0) pa_nil)) (pe_one (pe_cmpR op_lt (pv 0) (pv 1) (nomark _)))))), ?_⟩
  refine ⟨_, rfl, spP1_of rd trivial fun u H1 s1 r1 => ?_⟩
  cases r1.bl_inv
  have fin : ∀ b, isPlace d m = b → Q (.bl b) H1 := fun b e => q _ _ s1 (by rw [show isPlace ([d, PyData.int m].headD .none) (intOf ([d, PyData.int m].getD 1 .none)) = b from e]; exact .bl b)
  refine ⟨_, rfl, ite2 (fun hL => ?_) (fun hL => fin _ ?_)⟩
  · cases rd with
    | int i =>
      have hi : decide (0 ≤ i) = true := hL
      refine ⟨_, rfl, _, rfl, _, _, rfl, rfl, fin _ ?_⟩
      show (decide (0 ≤ i) && decide (i < m)) = _
      rw [hi, Bool.true_and]
    | _ => cases hL
  · cases rd with
    | int i =>
      have hi : decide (0 ≤ i) = false := by
        cases z : decide (0 ≤ i) with
        | false => rfl
        | true => exact absurd z hL
      show (decide (0 ≤ i) && decide (i < m)) = _
      rw [hi]
      rfl
    | _ => rfl
/-! ### is_letter, is_figure -/
theorem sc_is_letter : FnScope ["sign"] ["sign"] (defScope sis_letter) := ⟨rfl, rfl, rfl, by decide +kernel, rfl, by decide +kernel, by decide +kernel⟩
theorem sc_is_figure : FnScope ["sign"] ["sign"] (defScope sis_figure) := ⟨rfl, rfl, rfl, by decide +kernel, rfl, by decide +kernel, by decide +kernel⟩
theorem ok_is_letter (F : Fn K mg dis_letter) : Df P w K mg base CX0 1 "is_letter" ["sign"] (spP 1 (fun ds => ∃ x, ds = [.str x]) fun ds => .bool (isLet (strOf (ds.headD .none)))) := by
  obtain ⟨f, fd, hm, F⟩ := F
  refine ⟨f, fd, hm, F.kp, F.bindsN fun _ _ _ _ _ _ us hl => match us, hl with | [_], _ => rfl, ?_⟩
  refine F.ok sc_is_letter (fun vs H Q E h => spP_len vs H Q E h) (fun cdv A outer s H vs Q E hr h => ?_)
  obtain ⟨v, d, rfl, rd, ⟨x, z⟩, q⟩ := spP1 h
  cases z
  cases rd.str_inv
  refine ⟨_, PSs.nox (pss_one (ps_ret (pe_chain op_le_str op_le_str pe_str (pv 0) pe_str))), ?_⟩
  have fin : ∀ b, isLet x = b → Q (.bl b) H := fun b e => q _ _ Sm.rfl' (by rw [show isLet (strOf ([PyData.str x].headD .none)) = b from e]; exact .bl b)
  refine ⟨_, rfl, _, _, rfl, rfl, _, rfl, ite2 (fun hL => ⟨_, _, rfl, rfl, fin _ ?_⟩) (fun hL => fin _ ?_)⟩
  · have : leS "a" x = true := hL
    show (leS "a" x && leS x "z") = _
    rw [this]
    rfl
  · have : leS "a" x = false := by
      cases z : leS "a" x with
      | false => rfl
      | true => exact absurd z hL
    show (leS "a" x && leS x "z") = _
    rw [this]
    rfl
theorem ok_is_figure (F : Fn K mg dis_figure) : Df P w K mg base CX0 1 "is_figure" ["sign"] (spP 1 (fun ds => ∃ x, ds = [.str x]) fun ds => .bool (isFig (strOf (ds.headD .none)))) := by
  obtain ⟨f, fd, hm, F⟩ := F
  refine ⟨f, fd, hm, F.kp, F.bindsN fun _ _ _ _ _ _ us hl => match us, hl with | [_], _ => rfl, ?_⟩
  refine F.ok sc_is_figure (fun vs H Q E h => spP_len vs H Q E h) (fun cdv A outer s H vs Q E hr h => ?_)
  obtain ⟨v, d, rfl, rd, ⟨x, z⟩, q⟩ := spP1 h
  cases z
  cases rd.str_inv
  refine ⟨_, PSs.nox (pss_one (ps_ret (pe_chain op_le_str op_le_str pe_str (pv 0) pe_str))), ?_⟩
  have fin : ∀ b, isFig x = b → Q (.bl b) H := fun b e => q _ _ Sm.rfl' (by rw [show isFig (strOf ([PyData.str x].headD .none)) = b from e]; exact .bl b)
  refine ⟨_, rfl, _, _, rfl, rfl, _, rfl, ite2 (fun hL => ⟨_, _, rfl, rfl, fin _ ?_⟩) (fun hL => fin _ ?_)⟩
  · have : leS "0" x = true := hL
    show (leS "0" x && leS x "9") = _
    rw [this]
    rfl
  · have : leS "0" x = false := by
      cases z : leS "0" x with
      | false => rfl
      | true => exact absurd z hL
    show (leS "0" x && leS x "9") = _
    rw [this]
    rfl
/-! ### begins_name -/
theorem sc_begins_name : FnScope ["text", "sign"] ["text"] (defScope sbegins_name) := ⟨rfl, rfl, rfl, by decide +kernel, rfl, by decide +kernel, by decide +kernel⟩
abbrev Mk8 (mg : Str → Option Value) : Prop := ∃ t, mg "LONGEST_NAME" = some (.int 8 t)
theorem headS_at {x : Str} (h : x ≠ "") : ∃ c, x.cps[0]? = some c ∧ headS x = ⟨#[c]⟩ ∧ 0 < x.length := by
  obtain ⟨⟨l⟩⟩ := x
  cases l with
  | nil => exact absurd rfl h
  | cons c r => exact ⟨c, rfl, rfl, by simp [Str.length]⟩
theorem ok_begins_name (B : Bt mg) (M : Mk8 mg) (F : Fn K mg dbegins_name) (D1 : Df P w K mg base CX0 1 "is_letter" ["sign"] (spP 1 (fun ds => ∃ x, ds = [.str x]) fun ds => .bool (isLet (strOf (ds.headD .none)))))
    (D2 : Df P w K mg base CX0 1 "is_figure" ["sign"] (spP 1 (fun ds => ∃ x, ds = [.str x]) fun ds => .bool (isFig (strOf (ds.headD .none))))) :
    Df P w K mg base CX0 2 "begins_name" ["text"] (spP 1 (fun ds => ∃ x : Str, ds = [.str x] ∧ x.length ≤ lim) fun ds => .bool (begName (strOf (ds.headD .none)))) := by
  obtain ⟨f, fd, hm, F⟩ := F
  obtain ⟨tk, M⟩ := M
  refine ⟨f, fd, hm, F.kp, F.bindsN fun _ _ _ _ _ _ us hl => match us, hl with | [_], _ => rfl, ?_⟩
  refine F.ok sc_begins_name (fun vs H Q E h => spP_len vs H Q E h) (fun cdv A outer s H vs Q E hr h => ?_)
  obtain ⟨v, d, rfl, rd, ⟨x, z, hz⟩, q⟩ := spP1 h
  cases z
  cases rd.str_inv
  have hl2 := lim_lt
  refine ⟨_, PSs.nox (pss_cons (ps_if (PW.pt (pw_or (pt_cmpR op_gt (pe_callB call_len_str (by rfl) B.len (by decide +kernel) (pa_cons (pv 0) pa_nil)) (pe_glob (v := .int 8) (by rfl) M ⟨_, rfl⟩) (nomark _))
      (pw_or1 (pt_not (pt_val (pe_callB (cr_all rfl) (by rfl) B.all (by decide +kernel) (pa_cons (pe_lc (own := [("sign", 1)]) (g := gName 1) (tt := tYes) rfl sc_begins_name.nd (pi_str (pv 0))
        (blkOk_by (own := [("sign", 1)]) (N := ["text", "sign"]) (sc := defScope sbegins_name) (by decide +kernel))
        (fun _ _ _ _ _ => pg_name (i := 1) sc_begins_name.nd rfl (Or.inl rfl)) (fun _ _ _ _ _ => pts_nil)
        (fun _ _ _ _ _ => pe_or (pe_df D1 (hr.mono (by decide)) pass0 (pa_cons (pv 1) pa_nil)) (pe_one (pe_df D2 (hr.mono (by decide)) pass0 (pa_cons (pv 1) pa_nil))))) pa_nil))))))) (pss_one (ps_ret pe_bl)) pss_nil)
    (pss_one (ps_ret (pe_or (pe_cmpR op_eq (pv 0) pe_str (nomark _)) (pe_one (pe_df D1 hr pass0 (pa_cons (pe_item_str (pv 0) pe_int (fun _ _ => rfl)) pa_nil))))))), ?_⟩
  refine ⟨_, rfl, _, rfl, by omega, _, _, rfl, rfl, _, rfl, ?_⟩
  have fin : ∀ b H1, Sm H H1 → begName x = b → Q (.bl b) H1 := fun b H1 s1 e => q _ _ s1 (by rw [show begName (strOf ([PyData.str x].headD .none)) = b from e]; exact .bl b)
  refine ite2 (fun hL => ?_) (fun hL => ?_)
  · have h8 : decide (x.length ≤ 8) = false := by
      have := of_decide_eq_true hL
      exact decide_eq_false (by omega)
    exact iteT (fin _ _ Sm.rfl' (by simp only [begName, h8, Bool.false_and]))
  · have h8 : decide (x.length ≤ 8) = true := by
      have : ¬ ((8 : Int) < x.length) := fun q => hL (decide_eq_true q)
      exact decide_eq_true (by omega)
    refine ⟨_, rfl, _, rfl, fun D nD => ?_⟩
    refine lc_fz (fun d => .bool (isLet (strOf d) || isFig (strOf d))) (.str (x := x)) nD (by rw [signsD_len]; exact hz) (fun _ => rfl) (fun _ _ => rfl) (fun y e H2 Q' he s2 ry q' => ?_) fun H2 ys s2 eD ry => ?_
    · obtain ⟨c, _, rfl⟩ := List.mem_map.mp he
      cases ry.str_inv
      refine ⟨_, rfl, spP1_of ry ⟨_, rfl⟩ fun u H3 s3 r3 => ?_⟩
      cases r3.bl_inv
      refine ⟨_, rfl, ite2 (fun hl => ?_) (fun hl => ?_)⟩
      · refine q' _ _ s3 ?_
        rw [show isLet (strOf (.str ⟨#[c]⟩)) = true from hl]
        exact .bl _
      · refine ⟨_, rfl, spP1_of (ry.sm s3) ⟨_, rfl⟩ fun u H4 s4 r4 => q' _ _ (s3.trans s4) ?_⟩
        have hl' : isLet (strOf (.str ⟨#[c]⟩)) = false := by
          cases z : isLet (strOf (.str ⟨#[c]⟩)) with
          | false => rfl
          | true => exact absurd z hl
        rw [hl', Bool.false_or]
        exact r4
    · have eb : (signsD x).map (fun d => PyData.bool (isLet (strOf d) || isFig (strOf d))) = ((signsD x).map fun d => isLet (strOf d) || isFig (strOf d)).map PyData.bool := by simp
      rw [eb] at ry
      have ey := ry.bls
      subst ey
      refine ⟨_, _, rfl, SqL.of eD, _, rfl, ?_⟩
      have ea : (((signsD x).map fun d => isLet (strOf d) || isFig (strOf d)).all id) = (signsD x).all fun d => isLet (strOf d) || isFig (strOf d) := by rw [List.all_map]; rfl
      rw [ea]
      cases hA : ((signsD x).all fun d => isLet (strOf d) || isFig (strOf d)) with
      | false => exact iteT (fin _ _ s2 (by simp only [begName, h8, hA, Bool.true_and, Bool.false_and]))
      | true =>
        refine iteF ⟨_, rfl, rfl, _, rfl, ite2 (fun he => ?_) (fun he => ?_)⟩
        · have ex : x = "" := by
            have := of_decide_eq_true he
            injection this
          exact fin _ _ s2 (by simp only [begName, h8, hA, decide_eq_true ex, Bool.true_and, Bool.true_or])
        · have ex : x ≠ "" := fun z => he (decide_eq_true (by rw [z]))
          obtain ⟨c, h1, h2, h3⟩ := headS_at ex
          refine ⟨_, rfl, _, _, _, rfl, rfl, by decide, by decide, by omega, h1, ?_⟩
          refine spP1_of (.str _) ⟨_, rfl⟩ fun u H4 s4 r4 => ?_
          cases r4.bl_inv
          refine fin _ _ (s2.trans s4) ?_
          simp only [begName, h8, hA, decide_eq_false ex, Bool.true_and, Bool.false_or, h2]
          rfl
/-! ### is_name -/
theorem sc_is_name : FnScope ["thing"] ["thing"] (defScope sis_name) := ⟨rfl, rfl, rfl, by decide +kernel, rfl, by decide +kernel, by decide +kernel⟩
theorem ok_is_name (B : Bt mg) (F : Fn K mg dis_name) (D1 : Df P w K mg base CX0 2 "begins_name" ["text"] (spP 1 (fun ds => ∃ x : Str, ds = [.str x] ∧ x.length ≤ lim) fun ds => .bool (begName (strOf (ds.headD .none))))) :
    Df P w K mg base CX0 3 "is_name" ["thing"] (spP 1 (fun ds => wdA ds = true) fun ds => .bool (isName (ds.headD .none))) := by
  obtain ⟨f, fd, hm, F⟩ := F
  refine ⟨f, fd, hm, F.kp, F.bindsN fun _ _ _ _ _ _ us hl => match us, hl with | [_], _ => rfl, ?_⟩
  refine F.ok sc_is_name (fun vs H Q E h => spP_len vs H Q E h) (fun cdv A outer s H vs Q E hr h => ?_)
  obtain ⟨v, d, rfl, rd, wdd, q⟩ := spP1 h
  refine ⟨_, PSs.nox (pss_one (ps_ret (pe_and (pe_callB (call_isD kit_str) (by rfl) B.isinstance (by decide +kernel) (pa_cons (pv 0) (pa_cons (pe_ty "str" B.str (by decide +kernel)) pa_nil)))
    (pe_and (pe_cmpR op_ne (pv 0) pe_str (nomark _)) (pe_one (pe_df D1 hr pass0 (pa_cons (pv 0) pa_nil))))))), ?_⟩
  refine ⟨_, rfl, v, d, rfl, rd, _, rfl, ?_⟩
  have fin : ∀ b H1, Sm H H1 → isName d = b → Q (.bl b) H1 := fun b H1 s1 e => q _ _ s1 (by rw [show isName ([d].headD .none) = b from e]; exact .bl b)
  cases rd with
  | str x =>
    refine iteT ⟨_, rfl, rfl, _, rfl, ?_⟩
    by_cases ex : x = ""
    · subst ex
      exact iteF (fin _ _ Sm.rfl' rfl)
    · have e1 : decide (V.str x = V.str "") = false := decide_eq_false fun z => ex (by injection z)
      rw [e1]
      refine iteT ⟨_, rfl, spP1_of (.str x) ⟨x, rfl, ?_⟩ fun u H3 s3 r3 => ?_⟩
      · simpa [wdA, wd] using wdd
      · cases r3.bl_inv
        refine fin _ _ s3 ?_
        simp only [isName, decide_eq_false ex, Bool.not_false, Bool.true_and]
        rfl
  | _ => exact iteF (fin _ _ Sm.rfl' rfl)
end
end K8

namespace K8
open PySem PySem.Spec PyProof.Rows L2 WR
/-! ### mirrors -/
def nth (d : PyData) (i : Nat) : PyData := (its d).getD i .none
def rowForm2 (d : PyData) : PyData :=
  if (strOf (nth d 0) = "made" ∨ strOf (nth d 0) = "asked") ∧ (its d).length = 3 then
    (if (isName (nth d 1) && areNums (nth d 2)) = true then .tuple [nth d 0, nth d 1, .tuple (its (nth d 2))] else .none)
  else if strOf (nth d 0) = "either" ∧ (its d).length = 4 ∧ ((its d).drop 1).all isNum = true then .tuple [nth d 0, nth d 1, nth d 2, nth d 3]
  else if strOf (nth d 0) = "given" ∧ (its d).length = 2 ∧ ((its d).drop 1).all isNum = true then .tuple [nth d 0, nth d 1]
  else .none
def rowForm (d : PyData) : PyData := if isL d = true ∧ (its d).length ≠ 0 ∧ isS (nth d 0) = true then rowForm2 d else .none
theorem nth_at {d : PyData} {i : Nat} (h : i < (its d).length) : (its d)[i]? = some (nth d i) := by
  unfold nth
  rw [List.getD_eq_getElem?_getD, List.getElem?_eq_getElem h]
  rfl
theorem nth_wd {d : PyData} {i : Nat} (w : wd d = true) (hL : isL d = true) (h : i < (its d).length) : wd (nth d i) = true :=
  wdA_mem (wd_its w hL).2 (List.mem_of_getElem? (nth_at h))
theorem str_of {d : PyData} (h : isS d = true) : d = .str (strOf d) := by
  cases d with
  | str x => rfl
  | _ => cases h
theorem wdA_drop : ∀ {ds : List PyData} (k : Nat), wdA ds = true → wdA (ds.drop k) = true := fun k w => wdA_of fun d hd => wdA_mem w (List.mem_of_mem_drop hd)
theorem wd_drop {d : PyData} (k : Nat) (w : wd d = true) (hL : isL d = true) : wd (likeD d ((its d).drop k)) = true := by
  obtain ⟨h1, h2⟩ := wd_its w hL
  have h3 := wdA_drop k h2
  have h4 : ((its d).drop k).length ≤ lim := by
    rw [List.length_drop]
    omega
  cases d with
  | list xs => simp only [likeD, wd, Bool.and_eq_true, decide_eq_true_eq]; exact ⟨h4, h3⟩
  | tuple xs => simp only [likeD, wd, Bool.and_eq_true, decide_eq_true_eq]; exact ⟨h4, h3⟩
  | _ => cases hL
abbrev spIsList : Sp := spP 1 (fun _ => True) fun ds => .bool (isL (ds.headD .none))
abbrev spIsName : Sp := spP 1 (fun ds => wdA ds = true) fun ds => .bool (isName (ds.headD .none))
abbrev spAreNums : Sp := spP 1 (fun ds => wdA ds = true) fun ds => .bool (areNums (ds.headD .none))
abbrev spRowForm : Sp := spP 1 (fun ds => wdA ds = true) fun ds => rowForm (ds.headD .none)
theorem inV2 (x a b : Str) : inV (.str x) [.str a, .str b] = decide (x = a ∨ x = b) := by
  simp only [inV, List.any_cons, List.any_nil, eqV, Bool.or_false]
  rw [Bool.eq_iff_iff]
  simp only [Bool.or_eq_true, beq_iff_eq, decide_eq_true_eq]
  exact ⟨fun h => h.elim (fun z => .inl z.symm) (fun z => .inr z.symm), fun h => h.elim (fun z => .inl z.symm) (fun z => .inr z.symm)⟩
section
variable {P : Program} {w : World} {K : PySem.W.Frag} {mg : Str → Option Value} {base : Heap}
theorem sc_row_form : FnScope ["thing", "word", "is_right"] ["thing"] (defScope srow_form) := ⟨rfl, rfl, rfl, by decide +kernel, rfl, by decide +kernel, by decide +kernel⟩
theorem ok_row_form (B : Bt mg) (F : Fn K mg drow_form) (D1 : Df P w K mg base CX0 1 "is_list" ["thing"] spIsList) (D2 : Df P w K mg base CX0 3 "is_name" ["thing"] spIsName) (D3 : Df P w K mg base CX0 2 "are_numbers" ["thing"] spAreNums) :
    Df P w K mg base CX0 4 "row_form" ["thing"] spRowForm := by
  obtain ⟨f, fd, hm, F⟩ := F
  refine ⟨f, fd, hm, F.kp, F.bindsN fun _ _ _ _ _ _ us hl => match us, hl with | [_], _ => rfl, ?_⟩
  refine F.ok sc_row_form (fun vs H Q E h => spP_len vs H Q E h) (fun cdv A outer s H vs Q E hr h => ?_)
  obtain ⟨v, d, rfl, rd, wdd, q⟩ := spP1 h
  have wd0 : wd d = true := by simpa [wdA] using wdd
  have hr1 := hr.mono (show 1 ≤ 3 by decide)
  have hr2 := hr.mono (show 2 ≤ 3 by decide)
  refine ⟨_, PSs.nox (pss_cons (ps_if (PW.pt (pw_or (pt_not (pt_val (pe_df D1 hr1 pass0 (pa_cons (pv 0) pa_nil)))) (pw_or (pt_cmpR op_eq (pe_callB call_lenS (by rfl) B.len (by decide +kernel) (pa_cons (pv 0) pa_nil)) pe_int (nomark _)) (pw_or1 (pt_not (pt_val (pe_callB (call_isD kit_str) (by rfl) B.isinstance (by decide +kernel) (pa_cons (pe_ix ix_D (pv 0) pe_int (fun _ _ => rfl)) (pa_cons (pe_ty "str" B.str (by decide +kernel)) pa_nil))))))))) (pss_one (ps_ret pe_non)) pss_nil)
      (pss_cons (ps_set (i := 1) sc_row_form.nd rfl (by first | exact Or.inl rfl | exact Or.inr rfl) (pe_ix ix_D (pv 0) pe_int (fun _ _ => rfl)))
      (C8.pss_cut (ps_if (PW.pt (pw_and (pt_cmpR op_in_seq (pv 1) (pe_tup (pa_cons pe_str (pa_cons pe_str pa_nil))) (by rfl)) (pw_and1 (pt_cmpR op_eq (pe_callB call_lenS (by rfl) B.len (by decide +kernel) (pa_cons (pv 0) pa_nil)) pe_int (nomark _))))) (pss_cons (ps_set (i := 2) sc_row_form.nd rfl (by first | exact Or.inl rfl | exact Or.inr rfl) (pe_and (pe_df D2 hr pass0 (pa_cons (pe_ix ix_D (pv 0) pe_int (fun _ _ => rfl)) pa_nil)) (pe_one (pe_df D3 hr2 pass0 (pa_cons (pe_ix ix_D (pv 0) pe_int (fun _ _ => rfl)) pa_nil)))))
      (pss_one (ps_ret (pe_ifExp (pt_val (pv 2)) (pe_tup (pa_cons (pv 1) (pa_cons (pe_ix ix_D (pv 0) pe_int (fun _ _ => rfl)) (pa_cons (pe_callTy call_tupD (by rfl) B.tuple (by decide +kernel) (pa_cons (pe_ix ix_D (pv 0) pe_int (fun _ _ => rfl)) pa_nil)) pa_nil)))) pe_non)))) pss_nil)
      (C8.pss_cut (ps_if (PW.pt (pw_and (pt_cmpR op_eq (pv 1) pe_str (nomark _)) (pw_and (pt_cmpR op_eq (pe_callB call_lenS (by rfl) B.len (by decide +kernel) (pa_cons (pv 0) pa_nil)) pe_int (nomark _)) (pw_and1 (pt_val (pe_df D3 hr2 pass0 (pa_cons (pe_slice sl_D (pv 0) (po_some pe_int) po_none) pa_nil))))))) (pss_one (ps_ret (pe_tup (pa_cons (pv 1) (pa_cons (pe_ix ix_D (pv 0) pe_int (fun _ _ => rfl)) (pa_cons (pe_ix ix_D (pv 0) pe_int (fun _ _ => rfl)) (pa_cons (pe_ix ix_D (pv 0) pe_int (fun _ _ => rfl)) pa_nil))))))) pss_nil)
      (pss_cons (ps_if (PW.pt (pw_and (pt_cmpR op_eq (pv 1) pe_str (nomark _)) (pw_and (pt_cmpR op_eq (pe_callB call_lenS (by rfl) B.len (by decide +kernel) (pa_cons (pv 0) pa_nil)) pe_int (nomark _)) (pw_and1 (pt_val (pe_df D3 hr2 pass0 (pa_cons (pe_slice sl_D (pv 0) (po_some pe_int) po_none) pa_nil))))))) (pss_one (ps_ret (pe_tup (pa_cons (pv 1) (pa_cons (pe_ix ix_D (pv 0) pe_int (fun _ _ => rfl)) pa_nil))))) pss_nil)
      (pss_one (ps_ret pe_non))))))), ?_⟩
  have fin : ∀ u H1, Sm H H1 → Dr All H1 u (rowForm d) → Q u H1 := fun u H1 s1 r => q _ _ s1 r
  have nope : ∀ H1, Sm H H1 → rowForm d = .none → Q .non H1 := fun H1 s1 e => fin _ _ s1 (by rw [e]; exact .non)
  -- not is_list(thing) or len(thing) == 0 or not isinstance(thing[0], str)
  refine ⟨_, rfl, spP1_of rd trivial fun u H1 s1 r1 => ?_⟩
  cases r1.bl_inv
  refine ⟨_, rfl, ite2 (fun hL => ?_) (fun hL => ?_)⟩
  · have hL' : isL d = false := by simpa using hL
    refine iteT (nope _ s1 ?_)
    unfold rowForm
    rw [if_neg (fun z => by rw [hL'] at z; cases z.1)]
  have hL' : isL d = true := by simpa using hL
  have rd1 := rd.sm s1
  refine ⟨_, rfl, v, d, rfl, rd1, hL', rfl, _, rfl, ite2 (fun h0 => ?_) (fun h0 => ?_)⟩
  · have e0 : (its d).length = 0 := by
      have := of_decide_eq_true h0
      injection this with this
      omega
    refine iteT (nope _ s1 ?_)
    unfold rowForm
    rw [if_neg (fun z => z.2.1 e0)]
  have l0 : (its d).length ≠ 0 := fun z => h0 (decide_eq_true (by rw [z]; rfl))
  have l0' : 0 < (its d).length := by omega
  refine ⟨_, rfl, d, 0, _, rd1, hL', rfl, nth_at l0', fun v0 r0 => ?_⟩
  refine ⟨v0, _, rfl, r0, _, rfl, ite2 (fun hS => ?_) (fun hS => ?_)⟩
  · have hS' : isS (nth d 0) = false := by simpa using hS
    refine nope _ s1 ?_
    unfold rowForm
    rw [if_neg (fun z => by rw [hS'] at z; cases z.2.2)]
  have hS' : isS (nth d 0) = true := by simpa using hS
  have es := str_of hS'
  have top : rowForm d = rowForm2 d := if_pos ⟨hL', l0, hS'⟩
  -- word = thing[0]
  refine ⟨_, rfl, d, 0, _, rd1, hL', rfl, nth_at l0', fun v1 r1 => ?_⟩
  obtain ⟨wd1, ew⟩ : ∃ y, nth d 0 = .str y := ⟨_, es⟩
  rw [ew] at r1
  cases r1.str_inv
  have eso : strOf (nth d 0) = wd1 := by rw [ew]; rfl
  have areD : areNums (likeD d ((its d).drop 1)) = ((its d).drop 1).all isNum := by
    unfold areNums
    rw [isL_like, its_like, Bool.true_and]
  have c1 : cutA (its d) (some 1) none = (its d).drop 1 := cutA_from (its d) 1
  have wdd1 : wdA [likeD d ((its d).drop 1)] = true := by simpa [wdA] using wd_drop 1 wd0 hL'
  -- word in ('made', 'asked') and len(thing) == 3
  by_cases hc : (wd1 = "made" ∨ wd1 = "asked") ∧ (its d).length = 3
  · refine ⟨fun _ _ => False, ⟨_, rfl, (by show 2 ≤ sizeLine; decide), fun t ht => ?_⟩, fun _ _ z => z.elim⟩
    have s2 : Sm H (upd H1 t (.tup [.str "made", .str "asked"])) := s1.trans (Sm.new ht)
    have rd2 := rd.sm s2
    refine ⟨t, _, rfl, .inr (SqT.of upd_same), rfl, rfl, _, rfl, ?_⟩
    rw [if_neg Bool.false_ne_true, inV2]
    have e3 := hc.2
    have n1 := nth_at (d := d) (i := 1) (by omega)
    have n2 := nth_at (d := d) (i := 2) (by omega)
    have t2 : rowForm d = if (isName (nth d 1) && areNums (nth d 2)) = true then .tuple [nth d 0, nth d 1, .tuple (its (nth d 2))] else .none := by
      rw [top]
      exact if_pos ⟨by rw [eso]; exact hc.1, e3⟩
    refine ite2 (fun hw => ?_) (fun hw => absurd (decide_eq_true hc.1) hw)
    refine ⟨_, rfl, v, d, rfl, rd2, hL', rfl, _, rfl, ite2 (fun h3 => ?_) (fun h3 => absurd (decide_eq_true (by rw [e3]; rfl)) h3)⟩
    -- is_right
    refine ⟨_, rfl, d, 1, _, rd2, hL', rfl, n1, fun v1 r1 => ?_⟩
    refine spP1_of r1 (by simpa [wdA] using nth_wd wd0 hL' (show 1 < (its d).length by omega)) fun u H3 s3 r3 => ?_
    cases r3.bl_inv
    refine ⟨_, rfl, ite2 (fun hn => ?_) (fun hn => ?_)⟩
    · have hn' : isName (nth d 1) = true := hn
      refine ⟨_, rfl, d, 2, _, rd2.sm s3, hL', rfl, n2, fun v2 r2 => ?_⟩
      refine spP1_of r2 (by simpa [wdA] using nth_wd wd0 hL' (show 2 < (its d).length by omega)) fun u H4 s4 r4 => ?_
      cases r4.bl_inv
      have s5 := s3.trans s4
      refine ⟨_, rfl, _, rfl, ite2 (fun ha => ?_) (fun ha => ?_)⟩
      · have ha' : areNums (nth d 2) = true := ha
        have hl2 : isL (nth d 2) = true := by
          unfold areNums at ha'
          exact (Bool.and_eq_true_iff.mp ha').1
        rw [hn', ha'] at t2
        refine ⟨_, rfl, _, rfl, d, 1, _, rd2.sm s5, hL', rfl, n1, fun v1' r1' => ?_⟩
        refine ⟨_, rfl, d, 2, _, rd2.sm s5, hL', rfl, n2, fun v2' r2' => ?_⟩
        refine ⟨_, _, rfl, r2', hl2, fun v3 H5 s6 r6 => ⟨(by show 3 ≤ sizeLine; decide), fun t3 ht3 => ?_⟩⟩
        refine fin _ _ ((s2.trans s5).trans (s6.trans (Sm.new ht3))) ?_
        rw [t2, ew]
        exact .tup upd_same (.cons (.str _) (.cons ((r1'.sm s6).sm (Sm.new ht3)) (.one (r6.sm (Sm.new ht3)))))
      · have ha' : areNums (nth d 2) = false := by simpa using ha
        refine nope _ (s2.trans s5) ?_
        rw [t2, ha', Bool.and_false]
        rfl
    · have hn' : isName (nth d 1) = false := by simpa using hn
      refine ⟨_, rfl, _, rfl, iteF (nope _ (s2.trans s3) ?_)⟩
      rw [t2, hn', Bool.false_and]
      rfl
  refine ⟨fun σ' H' => σ' = [some v, some (.str wd1), none] ∧ Sm H H', ⟨_, rfl, (by show 2 ≤ sizeLine; decide), fun t ht => ?_⟩, ?_⟩
  · have s2 : Sm H (upd H1 t (.tup [.str "made", .str "asked"])) := s1.trans (Sm.new ht)
    refine ⟨t, _, rfl, .inr (SqT.of upd_same), rfl, rfl, _, rfl, ?_⟩
    rw [if_neg Bool.false_ne_true, inV2]
    refine ite2 (fun hw => ?_) (fun hw => iteF ⟨rfl, s2⟩)
    refine ⟨_, rfl, v, d, rfl, rd.sm s2, hL', rfl, _, rfl, ite2 (fun h3 => absurd ⟨of_decide_eq_true hw, ?_⟩ hc) (fun h3 => ⟨rfl, s2⟩)⟩
    have := of_decide_eq_true h3
    injection this with this
    omega
  rintro σ' H2 ⟨rfl, s2⟩
  have rd2 := rd.sm s2
  have t3 : rowForm d = if strOf (nth d 0) = "either" ∧ (its d).length = 4 ∧ ((its d).drop 1).all isNum = true then .tuple [nth d 0, nth d 1, nth d 2, nth d 3]
      else if strOf (nth d 0) = "given" ∧ (its d).length = 2 ∧ ((its d).drop 1).all isNum = true then .tuple [nth d 0, nth d 1] else .none := by
    rw [top]
    exact if_neg (by rw [eso]; exact hc)
  by_cases hc2 : wd1 = "either" ∧ (its d).length = 4 ∧ ((its d).drop 1).all isNum = true
  · obtain ⟨e1, e4, ea⟩ := id hc2
    have t4 : rowForm d = .tuple [nth d 0, nth d 1, nth d 2, nth d 3] := by
      rw [t3]
      exact if_pos (by rw [eso]; exact hc2)
    refine ⟨fun _ _ => False, ⟨_, rfl, rfl, _, rfl, ite2 (fun _ => ?_) (fun z => absurd (decide_eq_true (by rw [e1])) z)⟩, fun _ _ z => z.elim⟩
    refine ⟨_, rfl, v, d, rfl, rd2, hL', rfl, _, rfl, ite2 (fun _ => ?_) (fun z => absurd (decide_eq_true (by rw [e4]; rfl)) z)⟩
    refine ⟨_, rfl, _, rfl, d, rd2, hL', fun v1 H3 s3 r3 => ?_⟩
    rw [c1] at r3
    refine spP1_of r3 wdd1 fun u H4 s4 r4 => ?_
    cases r4.bl_inv
    have s5 := s3.trans s4
    have rd5 := rd2.sm s5
    refine ⟨_, rfl, ite2 (fun _ => ?_) (fun z => absurd (show areNums (likeD d ((its d).drop 1)) = true by rw [areD]; exact ea) z)⟩
    refine ⟨_, rfl, _, rfl, d, 1, _, rd5, hL', rfl, nth_at (by omega), fun v1 r1 => ⟨_, rfl, d, 2, _, rd5, hL', rfl, nth_at (by omega), fun v2 r2 => ⟨_, rfl, d, 3, _, rd5, hL', rfl, nth_at (by omega), fun v3 r3 => ⟨(by show 4 ≤ sizeLine; decide), fun t4' ht4 => ?_⟩⟩⟩⟩
    refine fin _ _ ((s2.trans s5).trans (Sm.new ht4)) ?_
    rw [t4, ew]
    exact .tup upd_same (.cons (.str _) (.cons (r1.sm (Sm.new ht4)) (.cons (r2.sm (Sm.new ht4)) (.one (r3.sm (Sm.new ht4))))))
  have t5 : rowForm d = if strOf (nth d 0) = "given" ∧ (its d).length = 2 ∧ ((its d).drop 1).all isNum = true then .tuple [nth d 0, nth d 1] else .none := by
    rw [t3]
    exact if_neg (by rw [eso]; exact hc2)
  have lenEq : ∀ n : Nat, decide (V.int ((its d).length : Nat) = V.int (n : Int)) = true → (its d).length = n := fun n z => by
    have := of_decide_eq_true z
    injection this with this
    omega
  have strEq : ∀ y : Str, decide (V.str wd1 = V.str y) = true → wd1 = y := fun y z => by
    have := of_decide_eq_true z
    injection this
  refine ⟨fun σ' H' => σ' = [some v, some (.str wd1), none] ∧ Sm H H', ⟨_, rfl, rfl, _, rfl, ite2 (fun h1 => ?_) (fun _ => iteF ⟨rfl, s2⟩)⟩, ?_⟩
  · refine ⟨_, rfl, v, d, rfl, rd2, hL', rfl, _, rfl, ite2 (fun h4 => ?_) (fun _ => iteF ⟨rfl, s2⟩)⟩
    refine ⟨_, rfl, _, rfl, d, rd2, hL', fun v1 H3 s3 r3 => ?_⟩
    rw [c1] at r3
    refine spP1_of r3 wdd1 fun u H4 s4 r4 => ?_
    cases r4.bl_inv
    refine ⟨_, rfl, ite2 (fun z => absurd ⟨strEq _ h1, lenEq 4 h4, ?_⟩ hc2) (fun _ => ⟨rfl, s2.trans (s3.trans s4)⟩)⟩
    rw [← areD]
    exact z
  rintro σ' H3 ⟨rfl, s3⟩
  have rd3 := rd.sm s3
  refine ⟨_, rfl, rfl, _, rfl, ite2 (fun h1 => ?_) (fun h1 => iteF (nope _ s3 ?_))⟩
  · refine ⟨_, rfl, v, d, rfl, rd3, hL', rfl, _, rfl, ite2 (fun h2 => ?_) (fun h2 => iteF (nope _ s3 ?_))⟩
    · refine ⟨_, rfl, _, rfl, d, rd3, hL', fun v1 H4 s4 r4 => ?_⟩
      rw [c1] at r4
      refine spP1_of r4 wdd1 fun u H5 s5 r5 => ?_
      cases r5.bl_inv
      have s6 := s4.trans s5
      have l2 := lenEq 2 h2
      refine ⟨_, rfl, ite2 (fun ha => ?_) (fun ha => nope _ (s3.trans s6) ?_)⟩
      · have ha' : ((its d).drop 1).all isNum = true := by rw [← areD]; exact ha
        refine ⟨_, rfl, _, rfl, d, 1, _, rd3.sm s6, hL', rfl, nth_at (by omega), fun v1 r1 => ⟨(by show 2 ≤ sizeLine; decide), fun t4' ht4 => ?_⟩⟩
        refine fin _ _ ((s3.trans s6).trans (Sm.new ht4)) ?_
        rw [t5, if_pos ⟨by rw [eso]; exact strEq _ h1, l2, ha'⟩, ew]
        exact .tup upd_same (.cons (.str _) (.one (r1.sm (Sm.new ht4))))
      · rw [t5, if_neg (fun z => ha (by show areNums (likeD d ((its d).drop 1)) = true; rw [areD]; exact z.2.2))]
    · rw [t5, if_neg (fun z => h2 (decide_eq_true (by rw [z.2.1]; rfl)))]
  · rw [t5, if_neg (fun z => h1 (decide_eq_true (by rw [← eso, z.1])))]
end
end K8

namespace K8
open PySem PySem.Spec PyProof.Rows L2 WR
/-! ### rows -/
inductive Row where
  | made (n : Str) (ks : List Nat)
  | asked (n : Str) (ks : List Nat)
  | either (a i j : Nat)
  | given (k : Nat)
  deriving DecidableEq
def nums (ks : List Nat) : List PyData := ks.map fun (k : Nat) => PyData.int (k : Int)
def Row.d : Row → PyData
  | .made n ks => .tuple [.str "made", .str n, .tuple (nums ks)]
  | .asked n ks => .tuple [.str "asked", .str n, .tuple (nums ks)]
  | .either a i j => .tuple [.str "either", .int (a : Nat), .int (i : Nat), .int (j : Nat)]
  | .given k => .tuple [.str "given", .int (k : Nat)]
def Row.ok : Row → Prop
  | .made n ks => isName (.str n) = true ∧ ks.length ≤ lim
  | .asked n ks => isName (.str n) = true ∧ ks.length ≤ lim
  | _ => True
def Row.named : Row → List Nat
  | .made _ ks => ks
  | .asked _ ks => ks
  | .either a i j => [a, i, j]
  | .given _ => []
def Row.isAsked : Row → Bool
  | .asked _ _ => true
  | _ => false
theorem nums_of : ∀ {ds : List PyData}, ds.all isNum = true → ∃ ks, ds = nums ks
  | [], _ => ⟨[], rfl⟩
  | d :: ds, h => by
    simp only [List.all_cons, Bool.and_eq_true] at h
    obtain ⟨ks, e⟩ := nums_of h.2
    cases d with
    | int i =>
      have hi : 0 ≤ i := of_decide_eq_true h.1
      refine ⟨i.toNat :: ks, ?_⟩
      show _ = PyData.int (i.toNat : Int) :: nums ks
      rw [Int.toNat_of_nonneg hi, ← e]
    | _ => cases h.1
theorem fz_nums (ks : List Nat) : fzA (nums ks) = true := by
  induction ks with
  | nil => simp [nums, fzA]
  | cons k ks ih => simp only [nums, List.map_cons, fzA, fz, Bool.true_and]; exact ih
theorem Row.fz (r : Row) : WR.fz r.d = true := by
  cases r with
  | made n ks => simp [Row.d, WR.fz, fzA, fz_nums]
  | asked n ks => simp [Row.d, WR.fz, fzA, fz_nums]
  | either a i j => simp [Row.d, WR.fz, fzA]
  | given k => simp [Row.d, WR.fz, fzA]
theorem its_len_of {d : PyData} {n : Nat} (h : (its d).length = n) : ∀ i, i < n → ∃ e, (its d)[i]? = some e := fun i hi => ⟨_, List.getElem?_eq_getElem (by omega)⟩
theorem nth_cons (d : PyData) (x : PyData) (xs : List PyData) (h : its d = x :: xs) (i : Nat) : nth d (i + 1) = xs.getD i .none := by
  unfold nth
  rw [h]
  rfl
/-- what a row's form comes to -/
theorem rowForm_row {d : PyData} (w : wd d = true) : rowForm d = .none ∨ ∃ r : Row, rowForm d = r.d ∧ r.ok := by
  unfold rowForm
  by_cases h0 : isL d = true ∧ (its d).length ≠ 0 ∧ isS (nth d 0) = true
  · rw [if_pos h0]
    obtain ⟨hL, hl, hS⟩ := h0
    have es := str_of hS
    unfold rowForm2
    by_cases h1 : (strOf (nth d 0) = "made" ∨ strOf (nth d 0) = "asked") ∧ (its d).length = 3
    · rw [if_pos h1]
      by_cases h2 : (isName (nth d 1) && areNums (nth d 2)) = true
      · rw [if_pos h2]
        simp only [Bool.and_eq_true] at h2
        obtain ⟨hn, ha⟩ := h2
        unfold areNums at ha
        simp only [Bool.and_eq_true] at ha
        obtain ⟨ks, ek⟩ := nums_of ha.2
        have w2 := nth_wd w hL (show 2 < (its d).length by omega)
        have lk : ks.length ≤ lim := by
          have := (wd_its w2 ha.1).1
          rw [ek] at this
          simpa [nums] using this
        obtain ⟨n, en⟩ : ∃ n, nth d 1 = .str n := by
          cases z : nth d 1 with
          | str n => exact ⟨n, rfl⟩
          | _ => rw [z] at hn; cases hn
        rw [ek, es, en]
        rw [en] at hn
        rcases h1.1 with h | h
        · exact .inr ⟨.made n ks, by rw [h]; rfl, hn, lk⟩
        · exact .inr ⟨.asked n ks, by rw [h]; rfl, hn, lk⟩
      · rw [if_neg h2]
        exact .inl rfl
    · rw [if_neg h1]
      by_cases h2 : strOf (nth d 0) = "either" ∧ (its d).length = 4 ∧ ((its d).drop 1).all isNum = true
      · rw [if_pos h2]
        obtain ⟨ks, ek⟩ := nums_of h2.2.2
        have lk : ks.length = 3 := by
          have e := congrArg List.length ek
          rw [List.length_drop] at e
          simp only [nums, List.length_map] at e
          omega
        match ks, lk with
        | [a, i, j], _ =>
          have g : ∀ m, nth d (m + 1) = (nums [a, i, j]).getD m .none := fun m => by
            unfold nth
            rw [← ek, List.getD_eq_getElem?_getD, List.getD_eq_getElem?_getD, List.getElem?_drop, Nat.add_comm]
          rw [es, h2.1, g 0, g 1, g 2]
          exact .inr ⟨.either a i j, rfl, trivial⟩
      · rw [if_neg h2]
        by_cases h3 : strOf (nth d 0) = "given" ∧ (its d).length = 2 ∧ ((its d).drop 1).all isNum = true
        · rw [if_pos h3]
          obtain ⟨ks, ek⟩ := nums_of h3.2.2
          have lk : ks.length = 1 := by
            have e := congrArg List.length ek
            rw [List.length_drop] at e
            simp only [nums, List.length_map] at e
            omega
          match ks, lk with
          | [k], _ =>
            have g : ∀ m, nth d (m + 1) = (nums [k]).getD m .none := fun m => by
              unfold nth
              rw [← ek, List.getD_eq_getElem?_getD, List.getD_eq_getElem?_getD, List.getElem?_drop, Nat.add_comm]
            rw [es, h3.1, g 0]
            exact .inr ⟨.given k, rfl, trivial⟩
        · rw [if_neg h3]
          exact .inl rfl
  · rw [if_neg h0]
    exact .inl rfl
/-! ### named_rows -/
abbrev spNamed : Sp := fun vs H Q _ => ∃ (v : V) (r : Row), vs = [v] ∧ Dr All H v r.d ∧ ∀ u H', Sm H H' → Dr All H' u (.tuple (nums r.named)) → Q u H'
section
variable {P : Program} {w : World} {K : PySem.W.Frag} {mg : Str → Option Value} {base : Heap}
theorem sc_named_rows : FnScope ["row"] ["row"] (defScope snamed_rows) := ⟨rfl, rfl, rfl, by decide +kernel, rfl, by decide +kernel, by decide +kernel⟩
theorem ok_named_rows (F : Fn K mg dnamed_rows) : Df P w K mg base CX0 1 "named_rows" ["row"] spNamed := by
  obtain ⟨f, fd, hm, F⟩ := F
  refine ⟨f, fd, hm, F.kp, F.bindsN fun _ _ _ _ _ _ us hl => match us, hl with | [_], _ => rfl, ?_⟩
  refine F.ok sc_named_rows (fun vs H Q E h => by obtain ⟨v, r, rfl, _⟩ := h; rfl) (fun cdv A outer s H vs Q E hr h => ?_)
  obtain ⟨v, r, rfl, rd, q⟩ := h
  refine ⟨_, PSs.nox (pss_cons (ps_if (pt_cmpR op_eq (pe_ix ix_D (pv 0) pe_int (fun _ _ => rfl)) pe_str (nomark _)) (pss_one (ps_ret (pe_tup pa_nil))) pss_nil)
      (pss_one (ps_ret (pe_ifExp (pt_cmpR op_eq (pe_ix ix_D (pv 0) pe_int (fun _ _ => rfl)) pe_str (nomark _)) (pe_slice sl_D (pv 0) (po_some pe_int) po_none) (pe_ix ix_D (pv 0) pe_int (fun _ _ => rfl)))))), ?_⟩
  cases r with
  | given k =>
    refine ⟨_, rfl, _, 0, _, rd, rfl, rfl, rfl, fun x0 r0 => ?_⟩
    cases r0.str_inv
    refine ⟨rfl, _, rfl, ite2 (fun _ => ?_) (fun z => absurd (decide_eq_true rfl) z)⟩
    refine ⟨(by show 0 ≤ sizeLine; decide), fun t ht => q _ _ (Sm.new ht) (.tup upd_same .nil)⟩
  | either a i j =>
    refine ⟨_, rfl, _, 0, _, rd, rfl, rfl, rfl, fun x0 r0 => ?_⟩
    cases r0.str_inv
    refine ⟨rfl, _, rfl, ite2 (fun z => absurd z (by decide +kernel)) (fun _ => ?_)⟩
    refine ⟨_, rfl, _, 0, _, rd, rfl, rfl, rfl, fun x0 r0 => ?_⟩
    cases r0.str_inv
    refine ⟨rfl, _, rfl, ite2 (fun _ => ?_) (fun z => absurd (decide_eq_true rfl) z)⟩
    refine ⟨_, rfl, _, rfl, _, rd, rfl, fun v1 H3 s3 r3 => q _ _ s3 ?_⟩
    exact r3
  | made n ks =>
    refine ⟨_, rfl, _, 0, _, rd, rfl, rfl, rfl, fun x0 r0 => ?_⟩
    cases r0.str_inv
    refine ⟨rfl, _, rfl, ite2 (fun z => absurd z (by decide +kernel)) (fun _ => ?_)⟩
    refine ⟨_, rfl, _, 0, _, rd, rfl, rfl, rfl, fun x0 r0 => ?_⟩
    cases r0.str_inv
    refine ⟨rfl, _, rfl, ite2 (fun z => absurd z (by decide +kernel)) (fun _ => ?_)⟩
    exact ⟨_, rfl, _, 2, _, rd, rfl, rfl, rfl, fun x0 r0 => q _ _ Sm.rfl' r0⟩
  | asked n ks =>
    refine ⟨_, rfl, _, 0, _, rd, rfl, rfl, rfl, fun x0 r0 => ?_⟩
    cases r0.str_inv
    refine ⟨rfl, _, rfl, ite2 (fun z => absurd z (by decide +kernel)) (fun _ => ?_)⟩
    refine ⟨_, rfl, _, 0, _, rd, rfl, rfl, rfl, fun x0 r0 => ?_⟩
    cases r0.str_inv
    refine ⟨rfl, _, rfl, ite2 (fun z => absurd z (by decide +kernel)) (fun _ => ?_)⟩
    exact ⟨_, rfl, _, 2, _, rd, rfl, rfl, rfl, fun x0 r0 => q _ _ Sm.rfl' r0⟩
end
end K8

namespace K8
open PySem PySem.Spec PyProof.Rows L2 WR
def rowsD (R : List Row) : PyData := .list (R.map Row.d)
def rowAt (R : List Row) (k : Nat) : Row := R.getD k (.given 0)
def isPart (R : List Row) (k : Nat) : Bool := decide (k < R.length) && !(rowAt R k).isAsked
def Row.parts : Row → List Nat
  | .either _ i j => [i, j]
  | r => r.named
def Row.badTest (R : List Row) : Row → Bool
  | .either a _ _ => !(rowAt R a).isAsked
  | _ => false
def Row.like : Row → Bool
  | .either _ i j => decide (i = j)
  | _ => false
def why4 (r : Row) : Option Str := if r.like = true then some "alike" else none
def why3 (R : List Row) (r : Row) : Option Str := if (r.parts.all (isPart R)) = false then some "kind" else why4 r
def why2 (R : List Row) (r : Row) : Option Str := if r.badTest R = true then some "kind" else why3 R r
def why (R : List Row) (r : Row) : Option Str := if (r.named.all fun k => decide (k < R.length)) = false then some "ahead" else why2 R r
def whyD : Option Str → PyData
  | none => .none
  | some x => .str x
theorem rowAt_at {R : List Row} {k : Nat} (h : k < R.length) : (R.map Row.d)[k]? = some (rowAt R k).d := by
  unfold rowAt
  rw [List.getElem?_map, List.getElem?_eq_getElem h, List.getD_eq_getElem?_getD, List.getElem?_eq_getElem h]
  rfl
/-- the row's word -/
def Row.word : Row → Str
  | .made _ _ => "made"
  | .asked _ _ => "asked"
  | .either _ _ _ => "either"
  | .given _ => "given"
theorem Row.word_at (r : Row) : (its r.d)[0]? = some (.str r.word) := by cases r <;> rfl
theorem Row.seqD (r : Row) : isL r.d = true := by cases r <;> rfl
theorem neS {x y : Str} (h : ¬ x = y) : decide (V.str x = V.str y) = false := decide_eq_false fun z => h (by injection z)
theorem Row.askedW : ∀ r : Row, (!decide (V.str r.word = V.str "asked")) = !r.isAsked
  | .made _ _ => congrArg (fun b => !b) (neS (show ¬ ("made" : Str) = "asked" by decide +kernel))
  | .asked _ _ => by rw [decide_eq_true (show V.str (Row.asked _ _).word = V.str "asked" from rfl)]; rfl
  | .either _ _ _ => congrArg (fun b => !b) (neS (show ¬ ("either" : Str) = "asked" by decide +kernel))
  | .given _ => congrArg (fun b => !b) (neS (show ¬ ("given" : Str) = "asked" by decide +kernel))
def Row.isEither : Row → Bool
  | .either _ _ _ => true
  | _ => false
theorem Row.eitherW : ∀ r : Row, decide (V.str r.word = V.str "either") = r.isEither
  | .made _ _ => neS (show ¬ ("made" : Str) = "either" by decide +kernel)
  | .asked _ _ => neS (show ¬ ("asked" : Str) = "either" by decide +kernel)
  | .either _ _ _ => decide_eq_true rfl
  | .given _ => neS (show ¬ ("given" : Str) = "either" by decide +kernel)
abbrev spIsPart : Sp := fun vs H Q _ => ∃ (v : V) (R : List Row) (k : Nat), vs = [v, .int (k : Int)] ∧ Dr All H v (rowsD R) ∧ ∀ H', Sm H H' → Q (.bl (isPart R k)) H'
abbrev spIsPlace : Sp := spP 2 (fun ds => ∃ d m, ds = [d, .int m]) fun ds => .bool (isPlace (ds.headD .none) (intOf (ds.getD 1 .none)))
abbrev spRowWhy : Sp := fun vs H Q _ => ∃ (v u : V) (R : List Row) (r : Row), vs = [v, u] ∧ Dr All H v (rowsD R) ∧ Dr All H u r.d ∧ r.ok ∧ ∀ x H', Sm H H' → Dr All H' x (whyD (why R r)) → Q x H'
section
variable {P : Program} {w : World} {K : PySem.W.Frag} {mg : Str → Option Value} {base : Heap}
/-! ### is_part -/
theorem sc_is_part : FnScope ["rows", "thing"] ["rows", "thing"] (defScope sis_part) := ⟨rfl, rfl, rfl, by decide +kernel, rfl, by decide +kernel, by decide +kernel⟩
theorem ok_is_part (B : Bt mg) (F : Fn K mg dis_part) (D1 : Df P w K mg base CX0 2 "is_place" ["thing", "many"] spIsPlace) : Df P w K mg base CX0 3 "is_part" ["rows", "thing"] spIsPart := by
  obtain ⟨f, fd, hm, F⟩ := F
  refine ⟨f, fd, hm, F.kp, F.bindsN fun _ _ _ _ _ _ us hl => match us, hl with | [_, _], _ => rfl, ?_⟩
  refine F.ok sc_is_part (fun vs H Q E h => by obtain ⟨v, R, k, rfl, _⟩ := h; rfl) (fun cdv A outer s H vs Q E hr h => ?_)
  obtain ⟨v, R, k, rfl, rd, q⟩ := h
  refine ⟨_, PSs.nox (pss_one (ps_ret (pe_and (pe_df D1 hr pass0 (pa_cons (pv 1) (pa_cons (pe_callB call_lenS (by rfl) B.len (by decide +kernel) (pa_cons (pv 0) pa_nil)) pa_nil))) (pe_one (pe_cmpR op_ne (pe_ix ix_D (pe_ix ix_D (pv 0) (pv 1) (fun _ _ => rfl)) pe_int (fun _ _ => rfl)) pe_str (nomark _)))))), ?_⟩
  refine ⟨_, rfl, _, rfl, v, _, rfl, rd, rfl, ?_⟩
  refine spP2_of (.int _) (.int _) ⟨_, _, rfl⟩ fun u H1 s1 r1 => ?_
  cases r1.bl_inv
  have e0 : isPlace (.int (k : Int)) ((its (rowsD R)).length : Nat) = decide (k < R.length) := by
    have el : (its (rowsD R)).length = R.length := by simp [rowsD, its]
    show (decide ((0 : Int) ≤ k) && decide ((k : Int) < ((its (rowsD R)).length : Nat))) = _
    rw [el, decide_eq_true (Int.natCast_nonneg k), Bool.true_and]
    exact decide_eq_decide.mpr (by omega)
  refine ⟨_, rfl, ite2 (fun hp => ?_) (fun hp => ?_)⟩
  · have hk : k < R.length := of_decide_eq_true (by rw [← e0]; exact hp)
    refine ⟨_, rfl, _, rfl, _, k, _, rd.sm s1, rfl, rfl, rowAt_at hk, fun x0 r0 => ?_⟩
    refine ⟨_, 0, _, r0, Row.seqD _, rfl, Row.word_at _, fun x1 r1 => ?_⟩
    cases r1.str_inv
    refine ⟨rfl, ?_⟩
    rw [Row.askedW]
    have := q H1 s1
    unfold isPart at this
    rw [decide_eq_true hk, Bool.true_and] at this
    exact this
  · have hk : decide (k < R.length) = false := by
      rw [← e0]
      exact eq_false_of_ne_true hp
    have := q H1 s1
    unfold isPart at this
    rw [hk, Bool.false_and] at this
    exact this
/-! ### row_why -/
theorem sc_row_why : FnScope ["rows", "row", "parts", "at"] ["rows", "row"] (defScope srow_why) := ⟨rfl, rfl, rfl, by decide +kernel, rfl, by decide +kernel, by decide +kernel⟩
theorem ok_row_why (B : Bt mg) (F : Fn K mg drow_why) (D1 : Df P w K mg base CX0 1 "named_rows" ["row"] spNamed) (D2 : Df P w K mg base CX0 3 "is_part" ["rows", "thing"] spIsPart) :
    Df P w K mg base CX0 4 "row_why" ["rows", "row"] spRowWhy := by
  obtain ⟨f, fd, hm, F⟩ := F
  refine ⟨f, fd, hm, F.kp, F.bindsN fun _ _ _ _ _ _ us hl => match us, hl with | [_, _], _ => rfl, ?_⟩
  refine F.ok sc_row_why (fun vs H Q E h => by obtain ⟨v, u, R, r, rfl, _⟩ := h; rfl) (fun cdv A outer s H vs Q E hr h => ?_)
  obtain ⟨v, u, R, r, rfl, rd, rr, hok, q⟩ := h
  have hr1 := hr.mono (show 1 ≤ 3 by decide)
  refine ⟨_, PSs.nox (pss_cons (ps_if (pt_not (pt_val (pe_callB (cr_all rfl) (by rfl) B.all (by decide +kernel) (pa_cons (pe_lc (own := [("at", 3)]) (g := gName 3) (tt := tYes) rfl sc_row_why.nd (pi_seq (pe_df D1 hr1 pass0 (pa_cons (pv 1) pa_nil))) (blkOk_by (own := [("at", 3)]) (N := ["rows", "row", "parts", "at"]) (sc := defScope srow_why) (by decide +kernel)) (fun _ _ _ _ _ => pg_name (i := 3) sc_row_why.nd rfl (by first | exact Or.inl rfl | exact Or.inr rfl)) (fun _ _ _ _ _ => pts_nil) (fun _ _ _ _ _ => (pe_cmpR op_lt (pv 3) (pe_callB call_lenS (by rfl) B.len (by decide +kernel) (pa_cons (pv 0) pa_nil)) (nomark _)))) pa_nil)))) (pss_one (ps_ret pe_str)) pss_nil)
      (pss_cons (ps_set (i := 2) sc_row_why.nd rfl (by first | exact Or.inl rfl | exact Or.inr rfl) (pe_df D1 hr1 pass0 (pa_cons (pv 1) pa_nil)))
      (C8.pss_cut (ps_if (pt_cmpR op_eq (pe_ix ix_D (pv 1) pe_int (fun _ _ => rfl)) pe_str (nomark _)) (pss_cons (ps_if (pt_cmpR op_ne (pe_ix ix_D (pe_ix ix_D (pv 0) (pe_ix ix_D (pv 1) pe_int (fun _ _ => rfl)) (fun _ _ => rfl)) pe_int (fun _ _ => rfl)) pe_str (nomark _)) (pss_one (ps_ret pe_str)) pss_nil)
      (pss_one (ps_set (i := 2) sc_row_why.nd rfl (by first | exact Or.inl rfl | exact Or.inr rfl) (pe_slice sl_D (pv 1) (po_some pe_int) po_none)))) pss_nil)
      (pss_cons (ps_if (pt_not (pt_val (pe_callB (cr_all rfl) (by rfl) B.all (by decide +kernel) (pa_cons (pe_lc (own := [("at", 3)]) (g := gName 3) (tt := tYes) rfl sc_row_why.nd (pi_seq (pv 2)) (blkOk_by (own := [("at", 3)]) (N := ["rows", "row", "parts", "at"]) (sc := defScope srow_why) (by decide +kernel)) (fun _ _ _ _ _ => pg_name (i := 3) sc_row_why.nd rfl (by first | exact Or.inl rfl | exact Or.inr rfl)) (fun _ _ _ _ _ => pts_nil) (fun _ _ _ _ _ => (pe_df D2 hr pass0 (pa_cons (pv 0) (pa_cons (pv 3) pa_nil))))) pa_nil)))) (pss_one (ps_ret pe_str)) pss_nil)
      (pss_cons (ps_if (PW.pt (pw_and (pt_cmpR op_eq (pe_ix ix_D (pv 1) pe_int (fun _ _ => rfl)) pe_str (nomark _)) (pw_and1 (pt_cmpR op_eq (pe_ix ix_D (pv 1) pe_int (fun _ _ => rfl)) (pe_ix ix_D (pv 1) pe_int (fun _ _ => rfl)) (nomark _))))) (pss_one (ps_ret pe_str)) pss_nil)
      (pss_one (ps_ret pe_non))))))), ?_⟩
  have lenR : (its (rowsD R)).length = R.length := by simp [rowsD, its]
  have hnl : r.named.length ≤ lim := by
    cases r with
    | made n ks => exact hok.2
    | asked n ks => exact hok.2
    | either a i j => show 3 ≤ lim; decide
    | given k => show 0 ≤ lim; decide
  have fin : ∀ x H1, Sm H H1 → Dr All H1 x (whyD (why R r)) → Q x H1 := fun x H1 s1 z => q _ _ s1 z
  -- not all([at < len(rows) for at in named_rows(row)])
  refine ⟨_, rfl, u, r, rfl, rr, fun y H1 s1 r1 => ?_⟩
  obtain ⟨a, xs, rfl, hq, rs⟩ := r1.seq rfl
  refine ⟨a, xs, rfl, hq, fun J hJ D nD => ?_⟩
  refine lc_fz (fun d => .bool (decide (intOf d < R.length))) (.seq hJ rs) nD (by simpa [its, nums] using hnl) (fun _ => rfl) (fun _ _ => rfl) (fun x e H2 Q' he s2 rx q' => ?_) fun H2 ys s2 eD ry => ?_
  · obtain ⟨k, _, rfl⟩ := List.mem_map.mp he
    cases rx.int_inv
    refine ⟨_, rfl, _, rfl, v, _, rfl, rd.sm (s1.trans s2), rfl, _, _, rfl, rfl, q' _ _ Sm.rfl' ?_⟩
    rw [lenR]
    exact .bl _
  have eb : (its (.tuple (nums r.named))).map (fun d => PyData.bool (decide (intOf d < R.length))) = (r.named.map fun k => decide (k < R.length)).map PyData.bool := by
    simp only [its, nums, List.map_map]
    refine List.map_congr_left fun k _ => ?_
    show PyData.bool (decide ((k : Int) < (R.length : Int))) = PyData.bool (decide (k < R.length))
    rw [decide_eq_decide.mpr (show (k : Int) < (R.length : Int) ↔ k < R.length by omega)]
  rw [eb] at ry
  have ey := ry.bls
  subst ey
  refine ⟨_, _, rfl, SqL.of eD, _, rfl, ?_⟩
  have ea : ((r.named.map fun k => decide (k < R.length)).all id) = r.named.all fun k => decide (k < R.length) := by rw [List.all_map]; rfl
  rw [ea]
  have s2' := s1.trans s2
  refine ite2 (fun hA => ?_) (fun hA => ?_)
  · have hA' : (r.named.all fun k => decide (k < R.length)) = false := by simpa using hA
    refine fin _ _ s2' ?_
    rw [show why R r = some "ahead" from if_pos hA']
    exact .str _
  have hA' : (r.named.all fun k => decide (k < R.length)) = true := by simpa using hA
  have w1 : why R r = why2 R r := if_neg (by rw [hA']; exact Bool.noConfusion)
  -- parts = named_rows(row)
  refine ⟨_, rfl, u, r, rfl, rr.sm s2', fun y3 H3 s3 r3 => ?_⟩
  have s3' := s2'.trans s3
  obtain ⟨a3, xs3, rfl, hq3, rs3⟩ := r3.seq rfl
  have rr3 := rr.sm s3'
  have rd3 := rd.sm s3'
  -- row[0] == 'either': the test's kind; parts
  by_cases hbt : r.badTest R = true
  · have wk : why R r = some "kind" := by rw [w1]; exact if_pos hbt
    obtain ⟨a', i', j', rfl⟩ : ∃ a i j, r = .either a i j := by
      cases r with
      | either a i j => exact ⟨a, i, j, rfl⟩
      | _ => cases hbt
    have ha : a' < R.length := by
      simp only [Row.named, List.all_cons, Bool.and_eq_true, decide_eq_true_eq] at hA'
      exact hA'.1
    refine ⟨fun _ _ => False, ⟨_, rfl, _, 0, _, rr3, rfl, rfl, rfl, fun x0 r0 => ?_⟩, fun _ _ z => z.elim⟩
    cases r0.str_inv
    refine ⟨rfl, _, rfl, ite2 (fun _ => ?_) (fun z => absurd (decide_eq_true rfl) z)⟩
    refine ⟨_, rfl, _, rfl, _, 1, _, rr3, rfl, rfl, rfl, fun x1 r1 => ?_⟩
    cases r1.int_inv
    refine ⟨_, a', _, rd3, rfl, rfl, rowAt_at ha, fun x2 r2 => ?_⟩
    refine ⟨_, 0, _, r2, Row.seqD _, rfl, Row.word_at _, fun x3 r3 => ?_⟩
    cases r3.str_inv
    refine ⟨rfl, _, rfl, ite2 (fun _ => ?_) (fun z => absurd ?_ z)⟩
    · refine fin _ _ s3' ?_
      rw [wk]
      exact .str _
    · rw [Row.askedW]
      exact hbt
  have w2 : why R r = why3 R r := by rw [w1]; exact if_neg hbt
  have hpl : r.parts.length ≤ lim := by
    cases r with
    | either a i j => show 2 ≤ lim; decide
    | _ => exact hnl
  refine ⟨fun σ' H' => ∃ (x : V), σ' = [some v, some u, some x, none] ∧ Sm H H' ∧ Dr All H' x (.tuple (nums r.parts)), ⟨_, rfl, _, 0, _, rr3, Row.seqD r, rfl, Row.word_at r, fun x0 r0 => ?_⟩, ?_⟩
  · cases r0.str_inv
    refine ⟨rfl, ?_⟩
    rw [Row.eitherW]
    cases r with
    | either a' i' j' =>
      have ha : a' < R.length := by
        simp only [Row.named, List.all_cons, Bool.and_eq_true, decide_eq_true_eq] at hA'
        exact hA'.1
      refine ⟨_, rfl, iteT ?_⟩
      refine ⟨_, rfl, _, rfl, _, 1, _, rr3, rfl, rfl, rfl, fun x1 r1 => ?_⟩
      cases r1.int_inv
      refine ⟨_, a', _, rd3, rfl, rfl, rowAt_at ha, fun x2 r2 => ?_⟩
      refine ⟨_, 0, _, r2, Row.seqD _, rfl, Row.word_at _, fun x3 r3 => ?_⟩
      cases r3.str_inv
      refine ⟨rfl, _, rfl, ite2 (fun z => absurd (by rw [Row.askedW] at z; exact z) hbt) (fun _ => ?_)⟩
      -- parts = row[2:]
      refine ⟨_, rfl, _, rfl, _, rr3, rfl, fun x4 H4 s4 r4 => ⟨x4, rfl, s3'.trans s4, r4⟩⟩
    | made n ks => exact ⟨_, rfl, iteF ⟨_, rfl, s3', r3⟩⟩
    | asked n ks => exact ⟨_, rfl, iteF ⟨_, rfl, s3', r3⟩⟩
    | given k => exact ⟨_, rfl, iteF ⟨_, rfl, s3', r3⟩⟩
  rintro σ' H4 ⟨x4, rfl, s4, r4⟩
  have rr4 := rr.sm s4
  have rd4 := rd.sm s4
  obtain ⟨a4, xs4, rfl, hq4, rs4⟩ := r4.seq rfl
  -- not all([is_part(rows, at) for at in parts])
  refine ⟨_, rfl, a4, xs4, rfl, hq4, fun J hJ D nD => ?_⟩
  refine lc_fz (fun d => .bool (isPart R (intOf d).toNat)) (.seq hJ rs4) nD (by simpa [its, nums] using hpl) (fun _ => rfl) (fun _ _ => rfl) (fun x e H2 Q' he s2 rx q' => ?_) fun H5 ys s5 eD ry => ?_
  · obtain ⟨k, _, rfl⟩ := List.mem_map.mp he
    cases rx.int_inv
    refine ⟨_, rfl, _, rfl, v, R, k, rfl, rd4.sm s2, fun H' s' => q' _ _ s' ?_⟩
    show Dr All H' (V.bl (isPart R k)) (PyData.bool (isPart R (k : Int).toNat))
    rw [Int.toNat_natCast]
    exact .bl _
  have eb : (its (.tuple (nums r.parts))).map (fun d => PyData.bool (isPart R (intOf d).toNat)) = (r.parts.map (isPart R)).map PyData.bool := by
    simp only [its, nums, List.map_map]
    refine List.map_congr_left fun k _ => ?_
    show PyData.bool (isPart R (k : Int).toNat) = PyData.bool (isPart R k)
    rw [Int.toNat_natCast]
  rw [eb] at ry
  have ey := ry.bls
  subst ey
  refine ⟨_, _, rfl, SqL.of eD, _, rfl, ?_⟩
  have ea : ((r.parts.map (isPart R)).all id) = r.parts.all (isPart R) := by rw [List.all_map]; rfl
  rw [ea]
  have s5' := s4.trans s5
  refine ite2 (fun hP => ?_) (fun hP => ?_)
  · have hP' : (r.parts.all (isPart R)) = false := by simpa using hP
    refine fin _ _ s5' ?_
    rw [w2, show why3 R r = some "kind" from if_pos hP']
    exact .str _
  have hP' : (r.parts.all (isPart R)) = true := by simpa using hP
  have w3 : why R r = why4 r := by
    rw [w2]
    exact if_neg (by rw [hP']; exact Bool.noConfusion)
  -- row[0] == 'either' and row[2] == row[3]
  have rr5 := rr.sm s5'
  refine ⟨_, rfl, _, 0, _, rr5, Row.seqD r, rfl, Row.word_at r, fun x0 r0 => ?_⟩
  cases r0.str_inv
  refine ⟨rfl, ?_⟩
  rw [Row.eitherW]
  have nope : r.like = false → Q .non H5 := fun hl => fin _ _ s5' (by rw [w3, show why4 r = none from if_neg (by rw [hl]; exact Bool.noConfusion)]; exact .non)
  cases r with
  | either a' i' j' =>
    refine ⟨_, rfl, iteT ?_⟩
    refine ⟨_, rfl, _, 2, _, rr5, rfl, rfl, rfl, fun x2 r2 => ?_⟩
    cases r2.int_inv
    refine ⟨_, rfl, _, 3, _, rr5, rfl, rfl, rfl, fun x3 r3 => ?_⟩
    cases r3.int_inv
    refine ⟨rfl, _, rfl, ite2 (fun z => ?_) (fun z => nope (decide_eq_false fun e => z (decide_eq_true (by rw [e]))))⟩
    have e : i' = j' := by
      have := of_decide_eq_true z
      injection this with this
      omega
    refine fin _ _ s5' ?_
    rw [w3, show why4 (Row.either a' i' j') = some "alike" from if_pos (decide_eq_true e)]
    exact .str _
  | made n ks => exact ⟨_, rfl, iteF (iteF (nope rfl))⟩
  | asked n ks => exact ⟨_, rfl, iteF (iteF (nope rfl))⟩
  | given k => exact ⟨_, rfl, iteF (iteF (nope rfl))⟩
end
end K8

namespace K8
open PySem PySem.Spec PyProof.Rows L2 WR
/-! ### the table: its object, its list, its dict -/
theorem kw : ¬ (("rows" : Str) = "where") := by decide +kernel
def flds (l d : Addr) : List (Str × V) := putF "where" (.ref d) (putF "rows" (.ref l) [])
theorem flds_rows (l d : Addr) : (flds l d).lookup ("rows" : Str) = some (.ref l) := by
  unfold flds
  rw [lookup_putF, if_neg kw, lookup_putF, if_pos rfl]
theorem flds_where (l d : Addr) : (flds l d).lookup ("where" : Str) = some (.ref d) := by
  unfold flds
  rw [lookup_putF, if_pos rfl]
theorem flds_no (l d : Addr) {m : Str} (h1 : ¬ m = "where") (h2 : ¬ m = "rows") : (flds l d).lookup m = none := by
  unfold flds
  rw [lookup_putF, if_neg h1, lookup_putF, if_neg h2]
  all_goals rfl
abbrev No : Addr → Prop := fun _ => False
def ents : List Row → List Addr → Nat → List Ent
  | r :: R, a :: as, n => (r.d, a, .int (n : Nat)) :: ents R as (n + 1)
  | _, _, _ => []
theorem ents_app (r : Row) (a : Addr) : ∀ (R : List Row) (as : List Addr) (n : Nat), as.length = R.length → ents (R ++ [r]) (as ++ [a]) n = ents R as n ++ [(r.d, a, .int ((n + R.length : Nat) : Int))]
  | [], [], n, _ => rfl
  | r' :: R, a' :: as, n, h => by
    show (r'.d, a', V.int (n : Nat)) :: ents (R ++ [r]) (as ++ [a]) (n + 1) = _
    rw [ents_app r a R as (n + 1) (by simpa using h)]
    have e : n + 1 + R.length = n + (r' :: R).length := by simp; omega
    rw [e]
    rfl
  | [], _ :: _, _, h => by simp at h
  | _ :: _, [], _, h => by simp at h
theorem nums_inj : ∀ {ks js : List Nat}, nkA (nums ks) = nkA (nums js) → ks = js
  | [], [], _ => rfl
  | k :: ks, j :: js, h => by
    simp only [nums, List.map_cons, nkA, nk, List.cons.injEq, NestedKey.num.injEq] at h
    rw [nums_inj (ks := ks) (js := js) h.2, show k = j by have := h.1; omega]
  | [], _ :: _, h => by simp [nums, nkA] at h
  | _ :: _, [], h => by simp [nums, nkA] at h
theorem txt_ne {x y : Str} (h : ¬ x = y) (z : NestedKey.text x = NestedKey.text y) : False := h (by injection z)
theorem Row.nk_inj {r s : Row} (h : nk r.d = nk s.d) : r = s := by
  cases r with
  | made n ks => cases s with
    | made m js =>
      simp only [Row.d, nk, nkA, NestedKey.tup.injEq, List.cons.injEq, NestedKey.text.injEq] at h
      rw [h.2.1, nums_inj h.2.2.1]
    | asked m js =>
      simp only [Row.d, nk, nkA, NestedKey.tup.injEq, List.cons.injEq] at h
      exact (txt_ne (by decide +kernel) h.1).elim
    | either a i j => simp [Row.d, nk, nkA] at h
    | given k => simp [Row.d, nk, nkA] at h
  | asked n ks => cases s with
    | asked m js =>
      simp only [Row.d, nk, nkA, NestedKey.tup.injEq, List.cons.injEq, NestedKey.text.injEq] at h
      rw [h.2.1, nums_inj h.2.2.1]
    | made m js =>
      simp only [Row.d, nk, nkA, NestedKey.tup.injEq, List.cons.injEq] at h
      exact (txt_ne (by decide +kernel) h.1).elim
    | either a i j => simp [Row.d, nk, nkA] at h
    | given k => simp [Row.d, nk, nkA] at h
  | either a i j => cases s with
    | either a' i' j' =>
      simp only [Row.d, nk, nkA, NestedKey.tup.injEq, List.cons.injEq, NestedKey.num.injEq] at h
      obtain ⟨_, h1, h2, h3, _⟩ := h
      rw [show a = a' by omega, show i = i' by omega, show j = j' by omega]
    | made m js => simp [Row.d, nk, nkA] at h
    | asked m js => simp [Row.d, nk, nkA] at h
    | given k => simp [Row.d, nk, nkA] at h
  | given k => cases s with
    | given k' =>
      simp only [Row.d, nk, nkA, NestedKey.tup.injEq, List.cons.injEq, NestedKey.num.injEq] at h
      rw [show k = k' by omega]
    | made m js => simp [Row.d, nk, nkA] at h
    | asked m js => simp [Row.d, nk, nkA] at h
    | either a i j => simp [Row.d, nk, nkA] at h
theorem nums_depth (ks : List Nat) : NestedKey.depthAll (nkA (nums ks)) = 0 := by
  induction ks with
  | nil => rfl
  | cons k ks ih =>
    show max (NestedKey.depth (nk (.int (k : Int)))) (NestedKey.depthAll (nkA (nums ks))) = 0
    rw [ih]
    rfl
theorem Row.kd (r : Row) : Kd r.d := by
  refine ⟨by cases r <;> rfl, Row.fz r, ?_⟩
  cases r with
  | made n ks => simp [Row.d, nk, nkA, NestedKey.depth, NestedKey.depthAll, nums_depth]
  | asked n ks => simp [Row.d, nk, nkA, NestedKey.depth, NestedKey.depthAll, nums_depth]
  | either a i j => simp [Row.d, nk, nkA, NestedKey.depth, NestedKey.depthAll]
  | given k => simp [Row.d, nk, nkA, NestedKey.depth, NestedKey.depthAll]
/-- the place of a row -/
def placeOf : List Row → Row → Nat → Option Nat
  | [], _, _ => none
  | r' :: R, r, n => if r' = r then some n else placeOf R r (n + 1)
theorem look_ents (r : Row) : ∀ (R : List Row) (as : List Addr) (n : Nat), as.length = R.length → lookE (ents R as n) r.d = (placeOf R r n).map fun k => V.int (k : Nat)
  | [], [], _, _ => rfl
  | r' :: R, a :: as, n, h => by
    have ih := look_ents r R as (n + 1) (by simpa using h)
    unfold lookE at ih ⊢
    show ((((r'.d, a, V.int (n : Nat)) :: ents R as (n + 1)).find? fun q => decide (nk q.1 = nk r.d)).map (·.2.2)) = _
    rw [List.find?_cons]
    unfold placeOf
    by_cases e : r' = r
    · rw [if_pos e, e, decide_eq_true rfl]
      rfl
    · rw [if_neg e, decide_eq_false fun z => e (Row.nk_inj z)]
      exact ih
  | [], _ :: _, _, h => by simp at h
  | _ :: _, [], _, h => by simp at h
theorem placeOf_none {r : Row} : ∀ {R : List Row} {n : Nat}, r ∉ R → placeOf R r n = none
  | [], _, _ => rfl
  | r' :: R, n, h => by
    unfold placeOf
    rw [if_neg fun e => h (by rw [e]; exact List.mem_cons_self ..)]
    exact placeOf_none fun z => h (List.mem_cons_of_mem _ z)
theorem placeOf_some {r : Row} : ∀ {R : List Row} {n : Nat}, r ∈ R → ∃ k, placeOf R r n = some k
  | [], _, h => by cases h
  | r' :: R, n, h => by
    unfold placeOf
    by_cases e : r' = r
    · exact ⟨n, if_pos e⟩
    · rw [if_neg e]
      rcases List.mem_cons.mp h with z | z
      · exact absurd z.symm e
      · exact placeOf_some z
structure Tb (P : Program) (w : World) (C : Addr) (H : Hp) (t l d : Addr) (R : List Row) (as : List Addr) : Prop where
  ob : ∃ dx, H t = some (.ins C dx (flds l d))
  len : as.length = R.length
  ls : H l = some (.lst (as.map V.ref))
  rs : DrA No H (as.map V.ref) (R.map Row.d)
  rd : RD P w H d (ents R as 0)
  ok : ∀ r ∈ R, r.ok
  nd : R.Nodup
section
variable {P : Program} {w : World} {C : Addr} {H H' : Hp} {t l d : Addr} {R : List Row} {as : List Addr}
theorem RD.sm {xs : List Ent} (s : Sm H H') (h : RD P w H d xs) : RD P w H' d xs := by
  refine ⟨?_, fun q hq => ⟨(h.keys q hq).1, (h.keys q hq).2.sm s⟩⟩
  rcases h.at_ with ⟨e, z⟩ | z
  · exact .inl ⟨e, s _ _ z⟩
  · exact .inr (s _ _ z)
theorem Tb.sm (s : Sm H H') (T : Tb P w C H t l d R as) : Tb P w C H' t l d R as := by
  obtain ⟨dx, e⟩ := T.ob
  exact ⟨⟨dx, s _ _ e⟩, T.len, s _ _ T.ls, T.rs.sm s, RD.sm s T.rd, T.ok, T.nd⟩
theorem Tb.rows (T : Tb P w C H t l d R as) : Dr All H (.ref l) (rowsD R) := .lst trivial T.ls T.rs.all
theorem Tb.dne (T : Tb P w C H t l d R as) : H d ≠ some (.lst (as.map V.ref)) ∧ (∀ C' dx fs, H d ≠ some (.ins C' dx fs)) ∧ (∀ xs, H d ≠ some (.tup xs)) ∧ H d ≠ none := by
  rcases T.rd.at_ with ⟨_, z⟩ | z
  · rw [z]
    exact ⟨(fun q => nomatch q), (fun _ _ _ q => nomatch q), (fun _ q => nomatch q), (fun q => nomatch q)⟩
  · rw [z]
    unfold rdO
    exact ⟨(fun q => nomatch q), (fun _ _ _ q => nomatch q), (fun _ q => nomatch q), (fun q => nomatch q)⟩
/-- what is known of the class -/
structure RT (P : Program) (w : World) (K : PySem.W.Frag) (mg : Str → Option Value) (base : Heap) (C : Addr) : Prop where
  cl : Cls K C
  nR : NoAttr K C "rows"
  nW : NoAttr K C "where"
  gC : mg "RowTable" = some (.ref C)
abbrev spTI (C : Addr) : Sp := fun vs H Q _ => ∃ (p dx rl : Addr), vs = [.ref p, .ref rl] ∧ H p = some (.ins C dx []) ∧ H rl = some (.lst []) ∧
  ∀ (l d : Addr) (H' : Hp), H l = none → H d = none → l ≠ d → (∀ b o, H b = some o → b ≠ p → H' b = some o) → H' p = some (.ins C dx (flds l d)) → H' l = some (.lst []) → H' d = some (.dK []) → Q .non H'
abbrev spPut (P : Program) (w : World) (C : Addr) : Sp := fun vs H Q _ => ∃ (t l d a : Addr) (R : List Row) (as : List Addr) (r : Row), vs = [.ref t, .ref a] ∧ Tb P w C H t l d R as ∧ Dr All H (.ref a) r.d ∧ r.ok ∧ R.length ≤ lim ∧
  (∀ k, placeOf R r 0 = some k → Q (.int (k : Nat)) H) ∧
  (r ∉ R → ∀ H', (∀ b o, b ≠ l → b ≠ d → H b = some o → H' b = some o) → Tb P w C H' t l d (R ++ [r]) (as ++ [a]) → Q (.int (R.length : Nat)) H')
section
variable {P : Program} {w : World} {K : PySem.W.Frag} {mg : Str → Option Value} {base : Heap} {C : Addr}
theorem sc_RowTable_I : FnScope ["self", "rows", "at", "row"] ["self", "rows"] (defScope sRowTable_I) := ⟨rfl, rfl, rfl, by decide +kernel, rfl, by decide +kernel, by decide +kernel⟩
theorem ok_RowTable_I (B : Bt mg) (T : RT P w K mg base C) {f : Addr} {fd : FuncData} (F : FunD K dRowTable_I.name dRowTable_I.qual dRowTable_I.params dRowTable_I.body dRowTable_I.scope [] [] f fd) :
    FnOk P w K mg base CX0 1 f fd ["self", "rows"] (spTI C) := by
  refine F.ok sc_RowTable_I (fun vs H Q E h => by obtain ⟨p, dx, rl, rfl, _⟩ := h; rfl) (fun cdv A outer s H vs Q E hr h => ?_)
  obtain ⟨p, dx, rl, rfl, hp, hl, q⟩ := h
  refine ⟨_, PSs.nox (pss_cons (ps_fld (pv 0) (pe_callTy call_list_of (by rfl) B.list (by decide +kernel) (pa_cons (pv 1) pa_nil)) rfl)
      (pss_one (ps_fld (pv 0) (pe_dc (own := [("at", 2), ("row", 3)]) (g := gTup K 2 (gCons (gName 2) (gCons (gName 3) gNil))) (tt := tYes) rfl sc_RowTable_I.nd (pi_enS B.enumerate (pa_cons (pe_fld (pv 0) rfl) pa_nil)) (blkOk_by (own := [("at", 2), ("row", 3)]) (N := ["self", "rows", "at", "row"]) (sc := defScope sRowTable_I) (by decide +kernel)) (fun _ _ _ _ _ => pg_tup rfl (pgs_cons (pg_name (i := 2) sc_RowTable_I.nd rfl (Or.inl rfl)) (pgs_cons (pg_name (i := 3) sc_RowTable_I.nd rfl (Or.inl rfl)) pgs_nil))) (fun _ _ _ _ _ => pts_nil) (fun _ _ _ _ _ => pv 3) (fun _ _ _ _ _ => pv 2)) rfl))), ?_⟩
  -- self.rows = list(rows)
  refine ⟨_, rfl, rl, _, rfl, .inl (SqL.of hl), fun l nl => ?_⟩
  have npl : p ≠ l := ne_of_none hp nl
  refine ⟨_, rfl, p, C, dx, [], rfl, (by rw [upd_ne npl]; exact hp), T.cl, T.nR, (by show 0 < 1000; decide), ?_⟩
  -- self.where = {..}
  refine ⟨_, rfl, p, C, dx, _, _, rfl, upd_same, T.cl, T.nR, ?_, l, [], rfl, .inl (by rw [upd_ne npl.symm]; exact upd_same), fun J hJ D nD => ?_⟩
  · rw [lookup_putF, if_pos rfl]
  have npD : p ≠ D := ne_of_none upd_same nD
  have nlD : l ≠ D := by
    refine ne_of_none (o := .lst []) ?_ nD
    rw [upd_ne npl.symm]
    exact upd_same
  have nDl : H D = none := by
    rw [upd_ne npD.symm, upd_ne nlD.symm] at nD
    exact nD
  refine ⟨fun i m H2 => m = 0 ∧ i = 0 ∧ H2 = upd (upd (upd H l (.lst [])) p (.ins C dx (putF "rows" (.ref l) []))) D (.dK []), ⟨0, rfl, rfl, rfl⟩, ?_⟩
  rintro i m H2 ⟨rfl, rfl, rfl⟩
  refine .inl ⟨?_, ?_⟩
  · have e : upd (upd (upd H l (.lst [])) p (.ins C dx (putF "rows" (.ref l) []))) D (.dK []) l = some (.lst []) := by
      rw [upd_ne nlD, upd_ne npl.symm]
      exact upd_same
    rcases hJ with ⟨rfl, z⟩ | ⟨rfl, z⟩
    · exact ⟨[], SqL.of e, Nat.le_refl _⟩
    · rw [upd_ne npl.symm, upd_same] at z
      cases z
  refine ⟨_, rfl, p, C, dx, _, rfl, (by rw [upd_ne npD]; exact upd_same), T.cl, T.nW, (by show 1 < 1000; decide), ?_⟩
  refine q l D _ nl nDl nlD (fun b o e hb => ?_) upd_same ?_ ?_
  · rw [upd_ne hb, upd_ne (ne_of_none e nDl), upd_ne hb, upd_ne (ne_of_none e nl)]
    exact e
  · rw [upd_ne npl.symm, upd_ne nlD, upd_ne npl.symm]
    exact upd_same
  · rw [upd_ne npD.symm]
    exact upd_same
theorem sc_RowTable_put_in : FnScope ["self", "row", "at"] ["self", "row"] (defScope sRowTable_put_in) := ⟨rfl, rfl, rfl, by decide +kernel, rfl, by decide +kernel, by decide +kernel⟩
theorem ok_RowTable_put_in (B : Bt mg) (T : RT P w K mg base C) {f : Addr} {fd : FuncData} (F : FunD K dRowTable_put_in.name dRowTable_put_in.qual dRowTable_put_in.params dRowTable_put_in.body dRowTable_put_in.scope [] [] f fd) :
    FnOk P w K mg base CX0 1 f fd ["self", "row"] (spPut P w C) := by
  refine F.ok sc_RowTable_put_in (fun vs H Q E h => by obtain ⟨t, l, d, a, R, as, r, rfl, _⟩ := h; rfl) (fun cdv A outer s H vs Q E hr h => ?_)
  obtain ⟨t, l, d, a, R, as, r, rfl, tb, rr, hok, hlen, q1, q2⟩ := h
  have hu := hr.units
  refine ⟨_, PSs.nox (pss_cons (ps_set (i := 2) sc_RowTable_put_in.nd rfl (by first | exact Or.inl rfl | exact Or.inr rfl) (pe_getRD hu (pe_fld (pv 0) rfl) (pv 1) ⟨rfl, rfl, rfl, rfl⟩))
      (pss_cons (ps_if (pt_cmpR op_isN (pv 2) pe_non (nomark _)) (pss_cons (ps_set (i := 2) sc_RowTable_put_in.nd rfl (by first | exact Or.inl rfl | exact Or.inr rfl) (pe_callB call_lenS (by rfl) B.len (by decide +kernel) (pa_cons (pe_fld (pv 0) rfl) pa_nil)))
      (pss_cons (ps_expr (pe_bm PySem.F.plainAttrs_list PySem.F.slot_list_append PySem.F.type_list_append mt_append (pe_fld (pv 0) rfl) (pa_cons (pv 1) pa_nil)))
      (pss_one (ps_asg (pv 2) (pg_sub (pe_fld (pv 0) rfl) (pv 1) (set_RD hu)))))) pss_nil)
      (pss_one (ps_ret (pv 2))))), ?_⟩
  obtain ⟨dx, ob⟩ := id tb.ob
  -- at = self.where.get(row)
  refine ⟨_, rfl, t, C, dx, _, _, rfl, ob, T.cl, T.nW, flds_where l d, d, rfl, ⟨_, tb.rd⟩, _, rfl, a, r.d, _, rfl, rr, Row.kd r, tb.rd, ?_⟩
  rw [look_ents r R as 0 tb.len]
  by_cases hm : r ∈ R
  · obtain ⟨k, ek⟩ := placeOf_some (n := 0) hm
    rw [ek]
    refine ⟨_, rfl, rfl, _, rfl, iteF ⟨_, rfl, q1 k ek⟩⟩
  · rw [placeOf_none hm]
    refine ⟨_, rfl, rfl, _, rfl, iteT ?_⟩
    have hl2 := lim_lt
    obtain ⟨e1, e2, e3, e4⟩ := tb.dne
    have ntl : t ≠ l := fun z => by
      rw [z, tb.ls] at ob
      cases ob
    have ntd : t ≠ d := fun z => e2 _ _ _ (by rw [← z]; exact ob)
    have nld : l ≠ d := fun z => e1 (by rw [← z]; exact tb.ls)
    have elen : (its (rowsD R)).length = R.length := by simp [rowsD, its]
    have hal : a ≠ l := fun z => by
      rw [z] at rr
      cases r <;> (cases rr with | tup e _ => rw [tb.ls] at e; cases e)
    have had : a ≠ d := fun z => by
      rw [z] at rr
      cases r <;> (cases rr with | tup e _ => exact e3 _ e)
    -- at = len(self.rows)
    refine ⟨_, rfl, t, C, dx, _, _, rfl, ob, T.cl, T.nR, flds_rows l d, _, rowsD R, rfl, tb.rows, rfl, ?_⟩
    rw [elen]
    -- self.rows.append(row)
    refine ⟨_, rfl, t, C, dx, _, _, rfl, ob, T.cl, T.nR, flds_rows l d, .inl ⟨rfl, _, SqL.of tb.ls⟩, _, rfl, l, _, _, rfl, rfl, tb.ls, (by rw [List.length_map, tb.len]; omega), ?_⟩
    -- self.where[row] = at
    have eR : List.map V.ref as ++ [V.ref a] = List.map V.ref (as ++ [a]) := by simp
    have ob1 : upd H l (.lst (List.map V.ref as ++ [V.ref a])) t = some (.ins C dx (flds l d)) := by rw [upd_ne ntl]; exact ob
    have st1 : Stays No H (upd H l (.lst (List.map V.ref as ++ [V.ref a]))) := ⟨fun _ _ z => z.elim, fun b xs z => by
      rw [upd_ne fun q => by rw [q, tb.ls] at z; cases z]
      exact z⟩
    have rr1 : Dr No (upd H l (.lst (List.map V.ref as ++ [V.ref a]))) (.ref a) r.d := (rr.fz (M := No) (Row.fz r)).mono (fun _ z => z) st1
    have rd1 : RD P w (upd H l (.lst (List.map V.ref as ++ [V.ref a]))) d (ents R as 0) := by
      refine ⟨?_, fun q hq => ⟨(tb.rd.keys q hq).1, (((tb.rd.keys q hq).2.fz (M := No) (tb.rd.keys q hq).1.fz).mono (fun _ z => z) st1).all⟩⟩
      rcases tb.rd.at_ with ⟨z1, z2⟩ | z
      · exact .inl ⟨z1, by rw [upd_ne nld.symm]; exact z2⟩
      · exact .inr (by rw [upd_ne nld.symm]; exact z)
    have elE : (ents R as 0).length < sizeLine := by
      have : ∀ (R : List Row) (as : List Addr) (n : Nat), (ents R as n).length ≤ R.length := by
        intro R
        induction R with
        | nil => intro as n; cases as <;> simp [ents]
        | cons r R ih => intro as n; cases as with
          | nil => simp [ents]
          | cons a as => simpa [ents] using ih as (n + 1)
      have := this R as 0
      omega
    refine ⟨_, rfl, _, rfl, t, C, dx, _, _, rfl, ob1, T.cl, T.nW, flds_where l d, _, rfl, d, a, r.d, _, rfl, rfl, rr1.all, Row.kd r, rd1, (by rw [look_ents r R as 0 tb.len, placeOf_none hm]; rfl), elE, ?_⟩
    -- return at
    have st2 : ∀ o, Stays No (upd H l (.lst (List.map V.ref as ++ [V.ref a]))) (upd (upd H l (.lst (List.map V.ref as ++ [V.ref a]))) d o) := fun o => ⟨fun _ _ z => z.elim, fun b xs z => by
      rw [upd_ne fun q => by rw [q, upd_ne nld.symm] at z; exact e3 _ z]
      exact z⟩
    refine ⟨_, rfl, q2 hm _ (fun b o h1 h2 z => ?_) ⟨⟨dx, ?_⟩, ?_, ?_, ?_, ⟨.inr ?_, fun q hq => ?_⟩, ?_, ?_⟩⟩
    · rw [upd_ne h2, upd_ne h1]
      exact z
    · rw [upd_ne ntd]
      exact ob1
    · simp [tb.len]
    · rw [upd_ne nld, upd_same, eR]
    · have e5 : (R ++ [r]).map Row.d = R.map Row.d ++ [r.d] := by simp
      rw [← eR, e5]
      exact (((tb.rs.mono (fun _ z => z) st1).append (.one rr1)).mono (fun _ z => z) (st2 _))
    · rw [ents_app r a R as 0 tb.len, Nat.zero_add]
      exact upd_same
    · rw [ents_app r a R as 0 tb.len] at hq
      rcases List.mem_append.mp hq with hq | hq
      · obtain ⟨k1, k2⟩ := rd1.keys q hq
        exact ⟨k1, ((k2.fz (M := No) k1.fz).mono (fun _ z => z) (st2 _)).all⟩
      · rw [List.mem_singleton.mp hq]
        exact ⟨Row.kd r, (rr1.mono (fun _ z => z) (st2 _)).all⟩
    · intro s hs
      rcases List.mem_append.mp hs with hs | hs
      · exact tb.ok s hs
      · rw [List.mem_singleton.mp hs]
        exact hok
    · refine List.nodup_append.mpr ⟨tb.nd, by simp, fun x hx y hy => ?_⟩
      rw [List.mem_singleton.mp hy]
      exact fun e => hm (e ▸ hx)
end
end
end K8

namespace K8
open PySem PySem.Spec PyProof.Rows L2 WR
def faultD (n : Nat) (x : Str) : PyData := .tuple [.int (n : Nat), .str x]
/-- what a scan of the things comes to: the rows ahead of the first wrong one, its fault -/
inductive Scan : List Row → Nat → List PyData → List Row → PyData → Prop where
  | done {R : List Row} {n : Nat} : Scan R n [] R .none
  | form {R : List Row} {n : Nat} {d : PyData} {ds : List PyData} : rowForm d = .none → Scan R n (d :: ds) R (faultD n "form")
  | why {R : List Row} {n : Nat} {d : PyData} {ds : List PyData} {r : Row} {x : Str} : rowForm d = r.d → why R r = some x → Scan R n (d :: ds) R (faultD n x)
  | twice {R : List Row} {n : Nat} {d : PyData} {ds : List PyData} {r : Row} : rowForm d = r.d → why R r = none → r ∈ R → Scan R n (d :: ds) R (faultD n "twice")
  | next {R R' : List Row} {n : Nat} {d f : PyData} {ds : List PyData} {r : Row} : rowForm d = r.d → why R r = none → r ∉ R → Scan (R ++ [r]) (n + 1) ds R' f → Scan R n (d :: ds) R' f
def ScanOf (d : PyData) (R : List Row) (f : PyData) : Prop := (isL d = true ∧ Scan [] 0 (its d) R f) ∨ (isL d = false ∧ R = [] ∧ f = faultD 0 "form")
theorem Row.d_ne (r : Row) : r.d ≠ .none := by cases r <;> exact fun z => nomatch z
abbrev spScan (P : Program) (w : World) (C : Addr) : Sp := fun vs H Q _ => ∃ (v : V) (d : PyData), vs = [v] ∧ Dr All H v d ∧ wd d = true ∧
  ∀ (p t l dd : Addr) (R : List Row) (as : List Addr) (f : PyData) (fv : V) (H' : Hp), Sm H H' → H p = none → H t = none → H l = none → H dd = none → Tb P w C H' t l dd R as → H' p = some (.tup [.ref t, fv]) → Dr All H' fv f → ScanOf d R f → Q (.ref p) H'
section
variable {P : Program} {w : World} {K : PySem.W.Frag} {mg : Str → Option Value} {base : Heap} {C fI fP : Addr} {fdI fdP : FuncData}
theorem sc_scanned_web : FnScope ["thing", "table", "at", "one", "row", "why"] ["thing"] (defScope sscanned_web) := ⟨rfl, rfl, rfl, by decide +kernel, rfl, by decide +kernel, by decide +kernel⟩
theorem ok_scanned_web (B : Bt mg) (T : RT P w K mg base C) (M : Mk K C fI) (mP : Meth K C "put_in" fP) (GI : FnOk P w K mg base CX0 1 fI fdI ["self", "rows"] (spTI C)) (bI : Binds K fdI ["self", "rows"] []) (GP : FnOk P w K mg base CX0 1 fP fdP ["self", "row"] (spPut P w C)) (bP : Binds K fdP ["self", "row"] [])
    (F : Fn K mg dscanned_web) (D1 : Df P w K mg base CX0 1 "is_list" ["thing"] spIsList) (D2 : Df P w K mg base CX0 4 "row_form" ["thing"] spRowForm) (D3 : Df P w K mg base CX0 4 "row_why" ["rows", "row"] spRowWhy) :
    Df P w K mg base CX0 5 "scanned_web" ["thing"] (spScan P w C) := by
  obtain ⟨f, fd, hm, F⟩ := F
  refine ⟨f, fd, hm, F.kp, F.bindsN fun _ _ _ _ _ _ us hl => match us, hl with | [_], _ => rfl, ?_⟩
  refine F.ok sc_scanned_web (fun vs H Q E h => by obtain ⟨v, d, rfl, _⟩ := h; rfl) (fun cdv A outer s H vs Q E hr h => ?_)
  obtain ⟨v, d, rfl, rd, wdd, q⟩ := h
  have hu := hr.units
  have hr1 := hr.mono (show 1 ≤ 4 by decide)
  have hr2 := hr.mono (show 2 ≤ 4 by decide)
  refine ⟨_, PSs.nox (pss_cons (ps_set (i := 1) sc_scanned_web.nd rfl (by first | exact Or.inl rfl | exact Or.inr rfl) (pe_make M GI hr2 (by rfl) T.gC bI .nil pass0 (pa_cons (pe_lst pa_nil) pa_nil)))
      (pss_cons (ps_if (pt_not (pt_val (pe_df D1 hr1 pass0 (pa_cons (pv 0) pa_nil)))) (pss_one (ps_ret (pe_tup (pa_cons (pv 1) (pa_cons (pe_tup (pa_cons pe_int (pa_cons pe_str pa_nil))) pa_nil))))) pss_nil)
      (pss_cons (ps_for PassesOwn.never rfl (pi_enS B.enumerate (pa_cons (pv 0) pa_nil)) (pg_tup rfl (pgs_cons (pg_name (i := 2) sc_scanned_web.nd rfl (by first | exact Or.inl rfl | exact Or.inr rfl)) (pgs_cons (pg_name (i := 3) sc_scanned_web.nd rfl (by first | exact Or.inl rfl | exact Or.inr rfl)) pgs_nil))) (pss_cons (ps_set (i := 4) sc_scanned_web.nd rfl (by first | exact Or.inl rfl | exact Or.inr rfl) (pe_df D2 hr pass0 (pa_cons (pv 3) pa_nil)))
      (C8.pss_cut (ps_set (i := 5) sc_scanned_web.nd rfl (by first | exact Or.inl rfl | exact Or.inr rfl) (pe_ifExp (pt_cmpR op_isN (pv 4) pe_non (nomark _)) pe_str (pe_df D3 hr pass0 (pa_cons (pe_fld (pv 1) rfl) (pa_cons (pv 4) pa_nil)))))
      (C8.pss_cut (ps_if (PW.pt (pw_and (pt_cmpR op_isN (pv 5) pe_non (nomark _)) (pw_and1 (pt_cmpR (op_inRD hu) (pv 4) (pe_fld (pv 1) rfl) (by rfl))))) (pss_one (ps_set (i := 5) sc_scanned_web.nd rfl (by first | exact Or.inl rfl | exact Or.inr rfl) pe_str)) pss_nil)
      (pss_cons (ps_if (pt_cmpR op_notN (pv 5) pe_non (nomark _)) (pss_one (ps_ret (pe_tup (pa_cons (pv 1) (pa_cons (pe_tup (pa_cons (pv 2) (pa_cons (pv 5) pa_nil))) pa_nil))))) pss_nil)
      (pss_one (ps_expr (pe_meth (pv 1) T.cl mP GP hr1 bP .nil pass0 (pa_cons (pv 4) pa_nil)))))))))
      (pss_one (ps_ret (pe_tup (pa_cons (pv 1) (pa_cons pe_non pa_nil)))))))), ?_⟩
  -- table = RowTable([])
  refine ⟨(by show 0 ≤ sizeLine; decide), fun rl nrl t dx nt ndx ndt => ?_⟩
  have nrl' : rl ≠ t := ne_of_none (o := .lst []) upd_same nt
  have nrd : rl ≠ dx := ne_of_none (o := .lst []) upd_same ndx
  have htn : H t = none := by rw [upd_ne nrl'.symm] at nt; exact nt
  have hdn : H dx = none := by rw [upd_ne nrd.symm] at ndx; exact ndx
  refine ⟨t, dx, rl, rfl, upd_same, by rw [upd_ne nrl', upd_ne nrd]; exact upd_same, fun l dd H1 nl ndd nldd kp ht hl hd => ⟨rfl, ?_⟩⟩
  have s1 : Sm H H1 := fun b o e => kp b o (by rw [upd_ne (ne_of_none e htn), upd_ne (ne_of_none e hdn), upd_ne (ne_of_none e nrl)]; exact e) (ne_of_none e htn)
  have nl' : H l = none := by
    cases z : H l with
    | none => rfl
    | some o =>
      have := kp l o (by rw [upd_ne (ne_of_none z htn), upd_ne (ne_of_none z hdn), upd_ne (ne_of_none z nrl)]; exact z) (ne_of_none z htn)
      have e2 : upd (upd (upd H rl (.lst [])) dx (.own t)) t (.ins C dx []) l = some o := by rw [upd_ne (ne_of_none z htn), upd_ne (ne_of_none z hdn), upd_ne (ne_of_none z nrl)]; exact z
      rw [nl] at e2
      cases e2
  have ndd' : H dd = none := by
    cases z : H dd with
    | none => rfl
    | some o =>
      have e2 : upd (upd (upd H rl (.lst [])) dx (.own t)) t (.ins C dx []) dd = some o := by rw [upd_ne (ne_of_none z htn), upd_ne (ne_of_none z hdn), upd_ne (ne_of_none z nrl)]; exact z
      rw [ndd] at e2
      cases e2
  have tb : Tb P w C H1 t l dd [] [] := ⟨⟨dx, ht⟩, rfl, hl, .nil, ⟨.inl ⟨rfl, hd⟩, (fun _ hq => nomatch hq)⟩, (fun _ hr => nomatch hr), List.nodup_nil⟩
  have rd1 := rd.sm s1
  -- not is_list(thing)
  refine ⟨_, rfl, spP1_of rd1 trivial fun u H2 s2 r2 => ?_⟩
  cases r2.bl_inv
  have s2' := s1.trans s2
  refine ⟨_, rfl, ite2 (fun hL => ?_) (fun hL => ?_)⟩
  · have hL' : isL d = false := by simpa using hL
    refine ⟨_, rfl, (by show 2 ≤ sizeLine; decide), fun p1 np1 => ⟨(by show 2 ≤ sizeLine; decide), fun p2 np2 => ?_⟩⟩
    have s3 : Sm H2 (upd (upd H2 p1 (.tup [.int 0, .str "form"])) p2 (.tup [.ref t, .ref p1])) := (Sm.new np1).trans (Sm.new np2)
    refine q p2 t l dd [] [] (faultD 0 "form") (.ref p1) _ (s2'.trans s3) ((s2'.trans (Sm.new np1)).free np2) htn nl' ndd' ((tb.sm s2).sm s3) upd_same ?_ (.inr ⟨hL', rfl, rfl⟩)
    exact .tup (by rw [upd_ne (ne_of_none upd_same np2)]; exact upd_same) (.cons (.int 0) (.one (.str _)))
  have hL' : isL d = true := by simpa using hL
  obtain ⟨a, xs, rfl, hq0, rs⟩ := rd.seq hL'
  obtain ⟨hdl, hdw⟩ := wd_its wdd hL'
  have lxs : xs.length = (its d).length := rs.length
  obtain ⟨oa, hoa⟩ : ∃ o, H a = some o := by
    rcases hq0 with z | z
    · exact ⟨_, z⟩
    · exact ⟨_, z⟩
  have hq : Sq H2 a xs := by
    rcases hq0 with z | z
    · exact .inl (s2' _ _ z)
    · exact .inr (s2' _ _ z)
  refine ⟨_, rfl, a, xs, rfl, hq, fun J hJ => ?_⟩
  refine for_enS hJ (fun i σ3 H3 => ∃ x2 x3 x4 x5 R as, σ3 = [some (.ref a), some (.ref t), x2, x3, x4, x5] ∧ Sm H H3 ∧ Tb P w C H3 t l dd R as ∧ R.length ≤ i ∧ (∀ R' f, Scan R i ((its d).drop i) R' f → Scan [] 0 (its d) R' f)) ?_ ?_ ?_ ?_
  · exact ⟨none, none, none, none, [], [], rfl, s2', tb.sm s2, Nat.le_refl _, fun R' f z => z⟩
  · rintro i σ3 H3 ⟨_, _, _, _, _, _, _, s, _⟩
    rw [s _ _ hoa, s2' _ _ hoa]
  · rintro i x σ3 H3 T0 hx ⟨x2, x3, x4, x5, R, as, rfl, s3, tb3, hRi, sc3⟩ nT
    obtain ⟨e, he, re⟩ := (rs.sm s3).get hx
    have hi : i < (its d).length := (List.getElem?_eq_some_iff.mp he).1
    have wde : wd e = true := wdA_mem hdw (List.mem_of_getElem? he)
    have ed : (its d).drop i = e :: (its d).drop (i + 1) := by
      rw [List.drop_eq_getElem_cons hi]
      rw [List.getElem?_eq_getElem hi] at he
      rw [Option.some.inj he]
    rw [ed] at sc3
    have sT : Sm H3 (upd H3 T0 (.tup [.int (i : Nat), x])) := Sm.new nT
    have s4 := s3.trans sT
    refine ⟨T0, _, rfl, SqT.of upd_same, rfl, _, _, rfl, _, _, rfl, rfl, ?_⟩
    -- row = row_form(one)
    refine ⟨_, rfl, spP1_of (re.sm sT) (by simpa [wdA] using wde) fun u H5 s5 r5 => ?_⟩
    have s5' := s4.trans s5
    have tb5 := (tb3.sm sT).sm s5
    have r5' : Dr All H5 u (rowForm e) := r5
    obtain ⟨dx5, ob5⟩ := tb5.ob
    -- why = ..
    refine ⟨fun σ6 H6 => ∃ (y : V), σ6 = [some (.ref a), some (.ref t), some (.int (i : Nat)), some x, some u, some y] ∧ Sm H H6 ∧ Tb P w C H6 t l dd R as ∧ Dr All H6 u (rowForm e) ∧
      ((rowForm e = .none ∧ y = .str "form") ∨ ∃ r : Row, rowForm e = r.d ∧ r.ok ∧ Dr All H6 y (whyD (why R r))), ?_, ?_⟩
    · rcases rowForm_row wde with ef | ⟨r, ef, rok⟩
      · rw [ef] at r5'
        cases r5'.non_inv
        exact ⟨_, rfl, rfl, _, rfl, iteT ⟨_, rfl, s5', tb5, by rw [ef]; exact .non, .inl ⟨ef, rfl⟩⟩⟩
      · rw [ef] at r5'
        have hun : decide (u = V.non) = false := by
          refine decide_eq_false fun z => ?_
          rw [z] at r5'
          cases r <;> cases r5'
        refine ⟨_, rfl, rfl, ?_⟩
        rw [hun]
        refine ⟨_, rfl, iteF ?_⟩
        refine ⟨_, rfl, t, C, dx5, _, _, rfl, ob5, T.cl, T.nR, flds_rows l dd, _, rfl, .ref l, u, R, r, rfl, tb5.rows, r5', rok, fun y H6 s6 r6 => ?_⟩
        exact ⟨y, rfl, s5'.trans s6, tb5.sm s6, by rw [ef]; exact r5'.sm s6, .inr ⟨r, ef, rok, r6⟩⟩
    rintro σ6 H6 ⟨y, rfl, s6, tb6, ru6, hy⟩
    obtain ⟨dx6, ob6⟩ := tb6.ob
    -- if why is None and row in table.where: why = 'twice'
    refine ⟨fun σ7 H7 => ∃ (y : V) (z : PyData), σ7 = [some (.ref a), some (.ref t), some (.int (i : Nat)), some x, some u, some y] ∧ Sm H H7 ∧ Tb P w C H7 t l dd R as ∧ Dr All H7 u (rowForm e) ∧ Dr All H7 y z ∧
      ((z = .none ∧ ∃ r : Row, rowForm e = r.d ∧ r.ok ∧ why R r = none ∧ r ∉ R) ∨ ∃ m : Str, z = .str m ∧ Scan R i (e :: (its d).drop (i + 1)) R (faultD i m)), ?_, ?_⟩
    · rcases hy with ⟨ef, rfl⟩ | ⟨r, ef, rok, ry⟩
      · exact ⟨_, rfl, rfl, _, rfl, iteF (iteF ⟨_, .str "form", rfl, s6, tb6, ru6, .str _, .inr ⟨_, rfl, .form ef⟩⟩)⟩
      · cases ew : why R r with
        | some m =>
          rw [ew] at ry
          cases ry.str_inv
          exact ⟨_, rfl, rfl, _, rfl, iteF (iteF ⟨_, .str m, rfl, s6, tb6, ru6, .str _, .inr ⟨_, rfl, .why ef ew⟩⟩)⟩
        | none =>
          rw [ew] at ry
          cases ry.non_inv
          rw [ef] at ru6
          obtain ⟨ua, rfl⟩ : ∃ ua, u = .ref ua := by
            cases r <;> (cases ru6; exact ⟨_, rfl⟩)
          refine ⟨_, rfl, rfl, _, rfl, iteT ?_⟩
          refine ⟨_, rfl, _, rfl, t, C, dx6, _, _, rfl, ob6, T.cl, T.nW, flds_where l dd, ua, dd, r.d, _, rfl, rfl, ru6, Row.kd r, tb6.rd, ?_⟩
          rw [look_ents r R as 0 tb6.len]
          by_cases hmem : r ∈ R
          · obtain ⟨k, ek⟩ := placeOf_some (n := 0) hmem
            rw [ek]
            exact ⟨_, rfl, iteT ⟨_, .str "twice", rfl, s6, tb6, by rw [ef]; exact ru6, .str _, .inr ⟨_, rfl, .twice ef ew hmem⟩⟩⟩
          · rw [placeOf_none hmem]
            exact ⟨_, rfl, iteF ⟨_, .none, rfl, s6, tb6, by rw [ef]; exact ru6, .non, .inl ⟨rfl, r, ef, rok, ew, hmem⟩⟩⟩
    rintro σ7 H7 ⟨y7, z7, rfl, s7, tb7, ru7, ry7, hz⟩
    rcases hz with ⟨rfl, r, ef, rok, ew, hmem⟩ | ⟨m, rfl, sc⟩
    · -- table.put_in(row)
      cases ry7.non_inv
      rw [ef] at ru7
      obtain ⟨ua, rfl⟩ : ∃ ua, u = .ref ua := by
        cases r <;> (cases ru7; exact ⟨_, rfl⟩)
      obtain ⟨dx7, ob7⟩ := tb7.ob
      refine ⟨_, rfl, rfl, _, rfl, iteF ?_⟩
      refine ⟨_, rfl, t, dx7, _, rfl, ob7, flds_no l dd (by decide +kernel) (by decide +kernel), _, rfl, t, l, dd, ua, R, as, r, rfl, tb7, ru7, rok, by omega, (fun k ek => by rw [placeOf_none hmem] at ek; cases ek), fun _ H8 fr tb8 => ?_⟩
      refine ⟨_, _, _, _, R ++ [r], as ++ [ua], rfl, fun b o z => ?_, tb8, by simp; omega, fun R' f' z => sc3 R' f' (.next ef ew hmem z)⟩
      exact fr b o (ne_of_none z nl') (ne_of_none z ndd') (s7 b o z)
    · -- return (table, (at, why))
      cases ry7.str_inv
      refine ⟨_, rfl, rfl, _, rfl, iteT ?_⟩
      refine ⟨_, rfl, _, rfl, _, rfl, (by show 2 ≤ sizeLine; decide), fun p1 np1 => ⟨(by show 2 ≤ sizeLine; decide), fun p2 np2 => ?_⟩⟩
      have s9 : Sm H7 (upd (upd H7 p1 (.tup [.int (i : Nat), .str m])) p2 (.tup [.ref t, .ref p1])) := (Sm.new np1).trans (Sm.new np2)
      refine q p2 t l dd R as (faultD i m) (.ref p1) _ (s7.trans s9) ((s7.trans (Sm.new np1)).free np2) htn nl' ndd' (tb7.sm s9) upd_same ?_ (.inl ⟨hL', sc3 R _ sc⟩)
      exact .tup (by rw [upd_ne (ne_of_none upd_same np2)]; exact upd_same) (.cons (.int _) (.one (.str _)))
  · rintro σ3 H3 ⟨x2, x3, x4, x5, R, as, rfl, s3, tb3, hRi, sc3⟩
    refine ⟨_, rfl, (by show 2 ≤ sizeLine; decide), fun p2 np2 => ?_⟩
    refine q p2 t l dd R as .none .non _ (s3.trans (Sm.new np2)) (s3.free np2) htn nl' ndd' (tb3.sm (Sm.new np2)) upd_same .non (.inl ⟨hL', sc3 R .none ?_⟩)
    rw [lxs, List.drop_length]
    exact .done
end
end K8

namespace K8
open PySem PySem.Spec PyProof.Rows L2 WR
/-- what is known of PageError -/
structure PgE (K : PySem.W.Frag) (mg : Str → Option Value) (B : Addr) : Prop where
  gB : mg "PageError" = some (.ref B)
  hs : PySem.W.specialIn K (.ref B) "__getattribute__" = some (some (.builtin "type.__getattribute__"))
  ty : PySem.W.typeIn K (.ref B) = some (.type "type")
  rd : PySem.W.readsIn K B (.type "type") = true
  vV : PySem.W.findCls K (.ref B) (.type "type") "__init__" = some (.val (.builtin "ValueError.__init__"))
/-- what is known of an error beneath it, which keeps f -/
structure ErC (K : PySem.W.Frag) (mg : Str → Option Value) (x f : Str) (C fI : Addr) : Prop where
  oex : OexC K C
  iC : PySem.W.findIn K (.ref C) "__init__" = some (some (.ref fI))
  tI : PySem.W.typeIn K (.ref fI) = some (.type "function")
  gC : mg x = some (.ref C)
  nf : PySem.W.findIn K (.ref C) f = some none
abbrev spEI (C : Addr) (f : Str) : Sp := fun vs H Q _ => ∃ (a : Addr) (v : V), vs = [.ref a, v] ∧ H a = some (exo a C none) ∧ ∀ dx, H dx = none → dx ≠ a → Q .non (upd (upd H dx (exd dx [(f, v)])) a (exo a C (some dx)))
section
variable {P : Program} {w : World} {K : PySem.W.Frag} {mg : Str → Option Value} {base : Heap} {C B fI fP CW fW CR fR : Addr} {fdI fdP fdW fdR : FuncData}
theorem sc_BadWeb_I : FnScope ["self", "index"] ["self", "index"] (defScope sBadWeb_I) := ⟨rfl, rfl, rfl, by decide +kernel, rfl, by decide +kernel, by decide +kernel⟩
theorem ok_BadWeb_I (G : PgE K mg B) (T : ErC K mg "BadWeb" "index" C fI) {f : Addr} {fd : FuncData} (F : FunD K dBadWeb_I.name dBadWeb_I.qual dBadWeb_I.params dBadWeb_I.body dBadWeb_I.scope [] [] f fd) :
    FnOk P w K mg base CX0 1 f fd ["self", "index"] (spEI C "index") := by
  refine F.ok sc_BadWeb_I (fun vs H Q E h => by obtain ⟨p, dx, rfl, _⟩ := h; rfl) (fun cdv A outer s H vs Q E hr h => ?_)
  obtain ⟨a, v, rfl, ha, q⟩ := h
  refine ⟨_, PSs.nox (pss_cons (ps_expr (pe_ownInit (by rfl) G.gB G.hs G.ty G.rd G.vV (pa_cons (pv 0) (pa_cons pe_str pa_nil)))) (pss_one (ps_ost (pv 0) (pv 1)))), ?_⟩
  exact ⟨_, rfl, a, C, _, rfl, (by show 1 ≤ 1000; decide), T.oex, ha, _, rfl, _, rfl, a, C, rfl, T.oex, T.nf, .inl ⟨ha, fun dx n ne => q dx n ne⟩⟩
theorem sc_BadPart_I : FnScope ["self", "part"] ["self", "part"] (defScope sBadPart_I) := ⟨rfl, rfl, rfl, by decide +kernel, rfl, by decide +kernel, by decide +kernel⟩
theorem ok_BadPart_I (G : PgE K mg B) (T : ErC K mg "BadPart" "part" C fI) {f : Addr} {fd : FuncData} (F : FunD K dBadPart_I.name dBadPart_I.qual dBadPart_I.params dBadPart_I.body dBadPart_I.scope [] [] f fd) :
    FnOk P w K mg base CX0 1 f fd ["self", "part"] (spEI C "part") := by
  refine F.ok sc_BadPart_I (fun vs H Q E h => by obtain ⟨p, dx, rfl, _⟩ := h; rfl) (fun cdv A outer s H vs Q E hr h => ?_)
  obtain ⟨a, v, rfl, ha, q⟩ := h
  refine ⟨_, PSs.nox (pss_cons (ps_expr (pe_ownInit (by rfl) G.gB G.hs G.ty G.rd G.vV (pa_cons (pv 0) (pa_cons pe_str pa_nil)))) (pss_one (ps_ost (pv 0) (pv 1)))), ?_⟩
  exact ⟨_, rfl, a, C, _, rfl, (by show 1 ≤ 1000; decide), T.oex, ha, _, rfl, _, rfl, a, C, rfl, T.oex, T.nf, .inl ⟨ha, fun dx n ne => q dx n ne⟩⟩
theorem sc_BadTruths_I : FnScope ["self", "truths"] ["self", "truths"] (defScope sBadTruths_I) := ⟨rfl, rfl, rfl, by decide +kernel, rfl, by decide +kernel, by decide +kernel⟩
theorem ok_BadTruths_I (G : PgE K mg B) (T : ErC K mg "BadTruths" "truths" C fI) {f : Addr} {fd : FuncData} (F : FunD K dBadTruths_I.name dBadTruths_I.qual dBadTruths_I.params dBadTruths_I.body dBadTruths_I.scope [] [] f fd) :
    FnOk P w K mg base CX0 1 f fd ["self", "truths"] (spEI C "truths") := by
  refine F.ok sc_BadTruths_I (fun vs H Q E h => by obtain ⟨p, dx, rfl, _⟩ := h; rfl) (fun cdv A outer s H vs Q E hr h => ?_)
  obtain ⟨a, v, rfl, ha, q⟩ := h
  refine ⟨_, PSs.nox (pss_cons (ps_expr (pe_ownInit (by rfl) G.gB G.hs G.ty G.rd G.vV (pa_cons (pv 0) (pa_cons pe_str pa_nil)))) (pss_one (ps_ost (pv 0) (pv 1)))), ?_⟩
  exact ⟨_, rfl, a, C, _, rfl, (by show 1 ≤ 1000; decide), T.oex, ha, _, rfl, _, rfl, a, C, rfl, T.oex, T.nf, .inl ⟨ha, fun dx n ne => q dx n ne⟩⟩
theorem Scan.res {R R' : List Row} {n : Nat} {ds : List PyData} {f : PyData} (h : Scan R n ds R' f) : f = .none ∨ ∃ m x, f = faultD m x := by
  induction h with
  | done => exact .inl rfl
  | form _ => exact .inr ⟨_, _, rfl⟩
  | why _ _ => exact .inr ⟨_, _, rfl⟩
  | twice _ _ _ => exact .inr ⟨_, _, rfl⟩
  | next _ _ _ _ ih => exact ih
theorem Scan.len {R R' : List Row} {n : Nat} {ds : List PyData} {f : PyData} (h : Scan R n ds R' f) : R'.length ≤ R.length + ds.length := by
  induction h with
  | next _ _ _ _ ih => simp at ih ⊢; omega
  | _ => simp
theorem ScanOf.res {d : PyData} {R : List Row} {f : PyData} (h : ScanOf d R f) : f = .none ∨ ∃ m x, f = faultD m x := by
  rcases h with ⟨_, h⟩ | ⟨_, _, rfl⟩
  · exact h.res
  · exact .inr ⟨_, _, rfl⟩
theorem ScanOf.len {d : PyData} {R : List Row} {f : PyData} (h : ScanOf d R f) (wdd : wd d = true) : R.length ≤ lim := by
  rcases h with ⟨hL, h⟩ | ⟨_, rfl, rfl⟩
  · have := h.len
    have := (wd_its wdd hL).1
    simp at *
    omega
  · exact Nat.zero_le _
/-- C(v) is raised: what stands behind -/
theorem raise_own {C : Addr} {f : Str} {v : V} {H : Hp} {E : XK} (q : ∀ dx H', Sm H H' → H dx = none → H' dx = some (.xd [(f, v)]) → E (.ref C) (some dx) H') :
    ∀ a, H a = none → spEI C f (.ref a :: ([v] ++ [])) (upd H a (exo a C none))
      (fun v H2 => v = .non ∧ ∃ (d : Addr) (fs : List (Str × V)), H2 a = some (exo a C (some d)) ∧ H2 d = some (exd d fs) ∧ H d = none ∧ E (.ref C) (some d) (upd (del H2 a) d (.xd fs))) (fun _ _ _ => False) := fun a na => by
  refine ⟨a, v, rfl, upd_same, fun dx nd ne => ⟨rfl, dx, [(f, v)], upd_same, ?_, ?_, ?_⟩⟩
  · rw [upd_ne ne]
    exact upd_same
  · rw [upd_ne ne] at nd
    exact nd
  · rw [upd_ne ne] at nd
    refine q dx _ (fun b o e => ?_) nd upd_same
    have hb : b ≠ dx := ne_of_none e nd
    have ha : b ≠ a := ne_of_none e na
    rw [upd_ne hb, del_ne ha, upd_ne ha, upd_ne hb, upd_ne ha]
    exact e
theorem faultD_ne {H : Hp} {v : V} {n : Nat} {x : Str} (r : Dr All H v (faultD n x)) : decide (v = V.non) = false := by
  cases r
  rfl
abbrev spJudge (P : Program) (w : World) (C CW : Addr) : Sp := fun vs H Q E => ∃ (v : V) (d : PyData), vs = [v] ∧ Dr All H v d ∧ wd d = true ∧
  (∀ (t l dd : Addr) (R : List Row) (as : List Addr) (H' : Hp), ScanOf d R .none → Sm H H' → H t = none → H l = none → H dd = none → Tb P w C H' t l dd R as → Q (.ref t) H') ∧
  (∀ (R : List Row) (n : Nat) (x : Str) (dx : Addr) (H' : Hp), ScanOf d R (faultD n x) → Sm H H' → H dx = none → H' dx = some (.xd [("index", .int (n : Nat))]) → E (.ref CW) (some dx) H')
theorem sc_judged_web : FnScope ["web", "table", "fault"] ["web"] (defScope sjudged_web) := ⟨rfl, rfl, rfl, by decide +kernel, rfl, by decide +kernel, by decide +kernel⟩
theorem ok_judged_web (TW : ErC K mg "BadWeb" "index" CW fW) (GW : FnOk P w K mg base CX0 1 fW fdW ["self", "index"] (spEI CW "index")) (bW : Binds K fdW ["self", "index"] [])
    (F : Fn K mg djudged_web) (D1 : Df P w K mg base CX0 5 "scanned_web" ["thing"] (spScan P w C)) :
    Df P w K mg base (L2.CX P w) 6 "judged_web" ["web"] (spJudge P w C CW) := by
  obtain ⟨f, fd, hm, F⟩ := F
  refine ⟨f, fd, hm, F.kp, F.bindsN fun _ _ _ _ _ _ us hl => match us, hl with | [_], _ => rfl, ?_⟩
  refine F.ok sc_judged_web (fun vs H Q E h => by obtain ⟨v, d, rfl, _⟩ := h; rfl) (fun cdv A outer s H vs Q E hr h => ?_)
  obtain ⟨v, d, rfl, rd, wdd, q1, q2⟩ := h
  have hr2 := hr.mono (show 2 ≤ 5 by decide)
  refine ⟨_, (pss_cons (ps_asg (pe_df D1 hr pass0 (pa_cons (pv 0) pa_nil)) (pg_tup rfl (pgs_cons (pg_name (i := 1) sc_judged_web.nd rfl (by first | exact Or.inl rfl | exact Or.inr rfl)) (pgs_cons (pg_name (i := 2) sc_judged_web.nd rfl (by first | exact Or.inl rfl | exact Or.inr rfl)) pgs_nil))))
      (pss_cons (ps_if (pt_cmpR op_notN (pv 2) pe_non (nomark _)) (pss_one (ps_raise rfl (takes_of rfl rfl rfl rfl) (pmk_oex TW.oex TW.iC TW.tI GW hr2 bW .nil pass0 (by rfl) TW.gC (pa_cons (pe_ix ix_D (pv 2) pe_int (fun _ _ => rfl)) pa_nil)))) pss_nil)
      (pss_one (ps_ret (pv 1))))), ?_⟩
  refine ⟨_, rfl, v, d, rfl, rd, wdd, fun p t l dd R as f fv H1 s1 np nt nl nd tb hp rf sc => ?_⟩
  refine ⟨p, _, rfl, SqT.of hp, rfl, _, _, rfl, _, _, rfl, rfl, ?_⟩
  rcases sc.res with rfl | ⟨m, x, rfl⟩
  · cases rf.non_inv
    exact ⟨_, rfl, rfl, _, rfl, iteF ⟨_, rfl, q1 t l dd R as H1 sc s1 nt nl nd tb⟩⟩
  · refine ⟨_, rfl, rfl, _, rfl, ?_⟩
    rw [faultD_ne rf]
    refine iteT ?_
    refine ⟨_, rfl, _, 0, _, rf, rfl, rfl, rfl, fun y ry => ?_⟩
    cases ry.int_inv
    refine ⟨(by show 1 ≤ 1000; decide), raise_own fun dx H' s2 nd2 hx => q2 R m x dx H' sc (s1.trans s2) (s1.free nd2) hx⟩
/-- such a def, the very object told -/
structure DfF (P : Program) (w : World) (K : PySem.W.Frag) (mg : Str → Option Value) (base : Heap) (CX : CXT) (k : Nat) (x : Str) (ps : List Str) (sp : Sp) (d : He.DefD) : Prop where
  ex : ∃ f fd, mg x = some (.ref f) ∧ FunD K d.name d.qual d.params d.body d.scope [] [] f fd ∧ Binds K fd ps [] ∧ FnOk P w K mg base CX k f fd ps sp
theorem DfF.df {P : Program} {w : World} {K : PySem.W.Frag} {mg : Str → Option Value} {base : Heap} {CX : CXT} {k : Nat} {x : Str} {ps : List Str} {sp : Sp} {d : He.DefD} (D : DfF P w K mg base CX k x ps sp d) : Df P w K mg base CX k x ps sp := by
  obtain ⟨f, fd, hm, F, b, G⟩ := D.ex
  exact ⟨f, fd, hm, F.kp, b, G⟩
abbrev spFault : Sp := fun vs H Q _ => ∃ (v : V) (d : PyData), vs = [v] ∧ Dr All H v d ∧ wd d = true ∧ ∀ (R : List Row) (f : PyData) (fv : V) (H' : Hp), ScanOf d R f → Sm H H' → Dr All H' fv f → Q fv H'
def noneB : PyData → Bool
  | .none => true
  | _ => false
/-! ### put_row -/
def newRows (R : List Row) (r : Row) : List Row := if r ∈ R then R else R ++ [r]
def NewAt (R : List Row) (r : Row) (k : Nat) : Prop := if r ∈ R then placeOf R r 0 = some k else k = R.length
def RowBad (R : List Row) (e : PyData) : Prop := rowForm e = .none ∨ ∃ r x, rowForm e = r.d ∧ why R r = some x
end
end K8

namespace K8
open PySem PySem.Spec PyProof.Rows L2 WR
/-! ### the law's well -/
def top0 : Nat := 1000000000000
structure Wl (H : Hp) (w : Addr) (n : Nat) : Prop where
  ex : ∃ a b c : Int, H w = some (.lst [.int a, .int b, .int c]) ∧ 0 ≤ b ∧ b < 5000000000 ∧ 0 ≤ c ∧ c ≤ n
theorem Wl.mono {H : Hp} {w : Addr} {n m : Nat} (h : Wl H w n) (l : n ≤ m) : Wl H w m := by
  obtain ⟨a, b, c, e, h1, h2, h3, h4⟩ := h
  exact ⟨a, b, c, e, h1, h2, h3, by omega⟩
/-- all but what stands at w stays -/
def Gw (w : Addr) (H H' : Hp) : Prop := ∀ b o, b ≠ w → H b = some o → H' b = some o
def Ne (w : Addr) : Addr → Prop := fun a => a ≠ w
theorem Gw.of {w : Addr} {H H' : Hp} (s : Sm H H') : Gw w H H' := fun b o _ e => s b o e
theorem Gw.trans {w : Addr} {H H1 H2 : Hp} (s : Gw w H H1) (t : Gw w H1 H2) : Gw w H H2 := fun b o h e => t b o h (s b o h e)
theorem Gw.stays {w : Addr} {n : Nat} {H H' : Hp} (hw : Wl H w n) (g : Gw w H H') : Stays (Ne w) H H' := by
  obtain ⟨a, b, c, e, _⟩ := hw
  refine ⟨fun a o h z => g a o h z, fun a xs z => g a _ (fun y => ?_) z⟩
  rw [y, e] at z
  cases z
theorem Gw.free {w p : Addr} {n : Nat} {H H' : Hp} (hw : Wl H' w n) (g : Gw w H H') (h : H' p = none) : H p = none := by
  obtain ⟨a, b, c, e, _⟩ := hw
  have hp : p ≠ w := fun z => by
    rw [z, e] at h
    cases h
  cases z : H p with
  | none => rfl
  | some o =>
    rw [g p o hp z] at h
    cases h
theorem Wl.sm {w : Addr} {n : Nat} {H H' : Hp} (hw : Wl H w n) (s : Sm H H') : Wl H' w n := by
  obtain ⟨a, b, c, e, r⟩ := hw
  exact ⟨a, b, c, s _ _ e, r⟩
theorem Wl.ne {w p : Addr} {n : Nat} {H : Hp} (hw : Wl H w n) (h : H p = none) : p ≠ w := fun z => by
  obtain ⟨a, b, c, e, r⟩ := hw
  rw [z, e] at h
  cases h
theorem Dr.gw {w : Addr} {n : Nat} {H H' : Hp} {v : V} {d : PyData} (r : Dr (Ne w) H v d) (hw : Wl H w n) (g : Gw w H H') : Dr (Ne w) H' v d := r.mono (fun _ z => z) (g.stays hw)
theorem DrA.gw {w : Addr} {n : Nat} {H H' : Hp} {v : List V} {d : List PyData} (r : DrA (Ne w) H v d) (hw : Wl H w n) (g : Gw w H H') : DrA (Ne w) H' v d := r.mono (fun _ z => z) (g.stays hw)
def intsD (xs : List Int) : List PyData := xs.map PyData.int
theorem ints_dr {N : Addr → Prop} {H : Hp} : ∀ xs : List Int, DrA N H (xs.map V.int) (intsD xs)
  | [] => .nil
  | x :: xs => .cons (.int x) (ints_dr xs)
theorem sqlSm {K : PySem.W.Frag} {a : Addr} {xs : List V} {H H' : Hp} (s : Sm H H') (h : SqL K H a xs) : SqL K H' a xs := h.elim (fun r => .inl (r.elim (fun e => .inl (s _ _ e)) fun ⟨o, e⟩ => .inr ⟨o, s _ _ e⟩)) .inr
/-- for i, x in enumerate(a list that may be frozen): by a state P, turn by turn -/
theorem for_enL {K : PySem.W.Frag} {g : TG} {tb : TS} {D : Ends} {a : Addr} {xs : List V} {σ : L2.St} {H : Hp} (P : Nat → L2.St → Hp → Prop) (h0 : P 0 σ H) (hl : ∀ i σ2 H2, P i σ2 H2 → SqL K H2 a xs)
    (hs : ∀ i x σ H T, xs[i]? = some x → P i σ H → H T = none → g (.ref T) σ (upd H T (.tup [.int (i : Nat), x])) fun σ2 H2 => tb { D with nx := P (i + 1), ct := P (i + 1), bk := D.nx } σ2 H2) (hd : ∀ σ H, P xs.length σ H → D.nx σ H) :
    ∃ W : Nat → Nat → L2.St → Hp → Prop, (∃ m, W 0 m σ H) ∧ ∀ i m σ H, W i m σ H →
      ((Ite K a).stop i H ∧ D.nx σ H) ∨ ((Ite K a).go i H ∧ ∃ N : L2.St → Hp → Prop, (∀ σ' H', N σ' H' → ∃ m', m' < m ∧ W (i + 1) m' σ' H') ∧ ∀ x H', (Ite K a).yld i H x H' → g x σ H' fun σ2 H2 => tb { D with nx := N, ct := N, bk := D.nx } σ2 H2) := by
  refine ⟨fun i m σ H => m + i = xs.length ∧ P i σ H, ⟨xs.length, by omega, h0⟩, ?_⟩
  rintro i m σ2 H2 ⟨e, p⟩
  have ea := hl i σ2 H2 p
  by_cases hi : i < xs.length
  · have hx : xs[i]? = some xs[i] := List.getElem?_eq_getElem hi
    refine .inr ⟨⟨xs, _, ea, hx⟩, P (i + 1), fun σ' H' p' => ⟨m - 1, by omega, by omega, p'⟩, fun v H' y => ?_⟩
    obtain ⟨T, x, rfl, nT, rfl, hx'⟩ := y
    exact hs i x σ2 H2 T (hx' xs ea) p nT
  · have e2 : i = xs.length := by omega
    subst e2
    exact .inl ⟨⟨xs, ea, Nat.le_refl _⟩, hd σ2 H2 p⟩
abbrev spWell (K : PySem.W.Frag) : Sp := fun vs H Q _ => ∃ (s : Addr) (xs : List Int) (p : Nat), vs = [.ref s, .int (p : Nat)] ∧ SqL K H s (xs.map V.int) ∧ xs.length ≤ 100 ∧ p ≤ 100 ∧ ∀ (w : Addr) (H' : Hp), Sm H H' → H w = none → Wl H' w 0 → Q (.ref w) H'
abbrev spDraw : Sp := fun vs H Q _ => ∃ (w : Addr) (m n : Nat), vs = [.ref w, .int (m : Nat)] ∧ 1 ≤ m ∧ m ≤ 1000000 ∧ Wl H w n ∧ n < top0 ∧ ∀ (k : Nat) (H' : Hp), k < m → Gw w H H' → Wl H' w (n + 1) → Q (.int (k : Nat)) H'
section
variable {P : Program} {w : World} {K : PySem.W.Frag} {mg : Str → Option Value} {base : Heap}
theorem sc__law_draw : FnScope ["well", "many", "digit", "spread"] ["well", "many"] (defScope s_law_draw) := ⟨rfl, rfl, rfl, by decide +kernel, rfl, by decide +kernel, by decide +kernel⟩
theorem ok__law_draw (B : Bt mg) (F : Fn K mg d_law_draw) : Df P w K mg base CX0 1 "_law_draw" ["well", "many"] spDraw := by
  obtain ⟨f, fd, hm, F⟩ := F
  refine ⟨f, fd, hm, F.kp, F.bindsN fun _ _ _ _ _ _ us hl => match us, hl with | [_, _], _ => rfl, ?_⟩
  refine F.ok sc__law_draw (fun vs H Q E h => by obtain ⟨w, m, n, rfl, _⟩ := h; rfl) (fun cdv A outer s H vs Q E hr h => ?_)
  obtain ⟨wa, m, n, rfl, hm1, hm2, hw, hn, q⟩ := h
  refine ⟨_, PSs.nox (pss_cons (ps_if (pt_cmpR op_gt (pe_ix ix_list (pv 0) pe_int (fun _ _ => rfl)) pe_int (nomark _)) (pss_cons (ps_set (i := 2) sc__law_draw.nd rfl (by first | exact Or.inl rfl | exact Or.inr rfl) (pe_op op_modN (pe_callTy call_int1 (by rfl) B.int (by decide +kernel) (pa_cons (pe_ix ix_list (pv 0) pe_int (fun _ _ => rfl)) pa_nil)) (pv 1)))
      (pss_cons (ps_asg (pe_op op_fdivN (pe_ix ix_list (pv 0) pe_int (fun _ _ => rfl)) (pv 1)) (pg_sub (pv 0) pe_int set_list))
      (pss_one (ps_ret (pv 2))))) pss_nil)
      (pss_cons (ps_asg (pe_op op_add (pe_ix ix_list (pv 0) pe_int (fun _ _ => rfl)) pe_int) (pg_sub (pv 0) pe_int set_list))
      (pss_cons (ps_set (i := 3) sc__law_draw.nd rfl (by first | exact Or.inl rfl | exact Or.inr rfl) (pe_op op_modN (pe_op op_pow (pe_callTy call_int1 (by rfl) B.int (by decide +kernel) (pa_cons (pe_op op_add (pe_op op_add (pe_ix ix_list (pv 0) pe_int (fun _ _ => rfl)) (pe_op op_mul pe_int (pe_ix ix_list (pv 0) pe_int (fun _ _ => rfl)))) pe_int) pa_nil)) pe_int) pe_int))
      (pss_one (ps_ret (pe_op op_modN (pe_op op_fdivN (pe_op op_modN (pe_callTy call_int1 (by rfl) B.int (by decide +kernel) (pa_cons (pe_op op_mul (pe_op op_add (pv 3) (pe_op op_mul pe_int (pe_ix ix_list (pv 0) pe_int (fun _ _ => rfl)))) pe_int) pa_nil)) pe_int) pe_int) (pv 1))))))), ?_⟩
  obtain ⟨a, b, c, ew, hb1, hb2, hc1, hc2⟩ := hw
  have gw : ∀ o, Gw wa H (upd H wa o) := fun o x z hx e => by
    rw [upd_ne hx]
    exact e
  have lk : ∀ {x y z : V} {H' : Hp}, H' wa = some (.lst [x, y, z]) → SqL K H' wa [x, y, z] := fun e => SqL.of e
  have hmi : (m : Int) ≠ 0 := by omega
  have md : ∀ i : Int, ∃ k : Nat, k < m ∧ i.fmod (m : Int) = (k : Int) := fun i => by
    have h1 := Int.fmod_nonneg_of_pos i (show (0 : Int) < m by omega)
    have h2 := Int.fmod_lt_of_pos i (show (0 : Int) < m by omega)
    exact ⟨(i.fmod m).toNat, by omega, by omega⟩
  have hms : (m : Int).natAbs < 1073741824 := by omega
  refine ⟨_, rfl, wa, _, 0, _, rfl, rfl, lk ew, rfl, _, _, rfl, rfl, _, rfl, ite2 (fun _ => ?_) (fun _ => ?_)⟩
  · obtain ⟨k, hk, ek⟩ := md a
    refine ⟨_, rfl, wa, _, 0, _, rfl, rfl, lk ew, rfl, .inl ⟨a, rfl, _, rfl, _, _, rfl, rfl, hmi, ?_⟩⟩
    refine ⟨_, rfl, wa, _, 0, _, rfl, rfl, lk ew, rfl, _, rfl, _, _, rfl, rfl, ⟨hmi, hms⟩, _, rfl, wa, _, 0, 0, rfl, rfl, ew, rfl, _, rfl, ?_⟩
    show Q (.int (a.fmod (m : Int))) _
    rw [ek]
    exact q k _ hk (gw _) ⟨_, _, _, upd_same, hb1, hb2, hc1, by omega⟩
  · refine ⟨_, rfl, wa, _, 2, _, rfl, rfl, lk ew, rfl, _, _, rfl, rfl, _, rfl, wa, _, 2, 2, rfl, rfl, ew, rfl, ?_⟩
    have e2 : upd H wa (.lst [.int a, .int b, .int (c + 1)]) wa = some (.lst [.int a, .int b, .int (c + 1)]) := upd_same
    have htop : top0 = 1000000000000 := rfl
    refine ⟨_, rfl, wa, _, 1, _, rfl, rfl, lk e2, rfl, _, rfl, wa, _, 2, _, rfl, rfl, lk e2, rfl, _, _, rfl, rfl, .inl (by constructor <;> decide), _, _, rfl, rfl, _, _, rfl, rfl, .inl ⟨_, rfl, _, _, rfl, rfl, ⟨by decide, by decide, by omega⟩, _, _, rfl, rfl, (by show (2147483647 : Int) ≠ 0; decide), ?_⟩⟩
    refine ⟨_, rfl, _, rfl, wa, _, 2, _, rfl, rfl, lk e2, rfl, _, _, rfl, rfl, .inl (by constructor <;> decide), _, _, rfl, rfl, _, _, rfl, rfl, .inr (by constructor <;> decide), .inl ⟨_, rfl, _, _, rfl, rfl, (by show (2147483629 : Int) ≠ 0; decide), _, _, rfl, rfl, ⟨by decide, by decide⟩, ?_⟩⟩
    have fin : ∀ z : Int, Q (.int (z.fmod (m : Int))) (upd H wa (.lst [.int a, .int b, .int (c + 1)])) := fun z => by
      obtain ⟨k, hk, ek⟩ := md z
      rw [ek]
      exact q k _ hk (gw _) ⟨_, _, _, upd_same, hb1, hb2, by omega, by omega⟩
    exact ⟨_, rfl, _, _, rfl, rfl, hmi, fin _⟩
theorem sc__law_well : FnScope ["script", "place", "cell", "mixed", "at", "one"] ["script", "place"] (defScope s_law_well) := ⟨rfl, rfl, rfl, by decide +kernel, rfl, by decide +kernel, by decide +kernel⟩
theorem ok__law_well (B : Bt mg) (F : Fn K mg d_law_well) : Df P w K mg base CX0 1 "_law_well" ["script", "place"] (spWell K) := by
  obtain ⟨f, fd, hm, F⟩ := F
  refine ⟨f, fd, hm, F.kp, F.bindsN fun _ _ _ _ _ _ us hl => match us, hl with | [_, _], _ => rfl, ?_⟩
  refine F.ok sc__law_well (fun vs H Q E h => by obtain ⟨w, m, n, rfl, _⟩ := h; rfl) (fun cdv A outer s H vs Q E hr h => ?_)
  obtain ⟨sa, xs, p, rfl, hs, hx, hp, q⟩ := h
  refine ⟨_, PSs.nox (C8.pss_cut (ps_set (i := 2) sc__law_well.nd rfl (by first | exact Or.inl rfl | exact Or.inr rfl) (pe_ifExp (pt_cmpR op_lt (pv 1) (pe_callB call_len (by rfl) B.len (by decide +kernel) (pa_cons (pv 0) pa_nil)) (nomark _)) (pe_ix ix_list (pv 0) (pv 1) (fun _ _ => rfl)) (pe_op op_add (pe_op op_add (pe_op op_modN (pe_callTy call_int1 (by rfl) B.int (by decide +kernel) (pa_cons (pe_callB (cr_sum rfl) (by rfl) B.sum (by decide +kernel) (pa_cons (pe_slice sl_list (pv 0) po_none (po_some pe_int)) pa_nil)) pa_nil)) pe_int) (pe_op op_mul pe_int (pv 1))) pe_int)))
      (pss_cons (ps_set (i := 3) sc__law_well.nd rfl (by first | exact Or.inl rfl | exact Or.inr rfl) pe_int)
      (pss_cons (ps_for PassesOwn.never rfl (pi_enum (by rfl) B.enumerate (pa_cons (pv 0) pa_nil)) (pg_tup rfl (pgs_cons (pg_name (i := 4) sc__law_well.nd rfl (by first | exact Or.inl rfl | exact Or.inr rfl)) (pgs_cons (pg_name (i := 5) sc__law_well.nd rfl (by first | exact Or.inl rfl | exact Or.inr rfl)) pgs_nil))) (pss_one (ps_set (i := 3) sc__law_well.nd rfl (by first | exact Or.inl rfl | exact Or.inr rfl) (pe_op op_modN (pe_callTy call_int1 (by rfl) B.int (by decide +kernel) (pa_cons (pe_op op_add (pe_op op_add (pe_op op_mul (pv 3) pe_int) (pe_callB call_abs (by rfl) B.abs (by decide +kernel) (pa_cons (pv 5) pa_nil))) (pv 4)) pa_nil)) pe_int))))
      (pss_one (ps_ret (pe_lst (pa_cons (pe_ifExp (pt_cmpR op_ge (pv 2) (pe_op op_pow pe_int pe_int) (nomark _)) (pv 2) pe_int) (pa_cons (pe_op op_add (pe_op op_modN (pe_callTy call_int1 (by rfl) B.int (by decide +kernel) (pa_cons (pe_op op_add (pe_callB call_abs (by rfl) B.abs (by decide +kernel) (pa_cons (pv 2) pa_nil)) (pe_op op_mul pe_int (pv 3))) pa_nil)) pe_int) (pe_op op_mul pe_int (pv 1))) (pa_cons pe_int pa_nil))))))))), ?_⟩
  -- cell
  refine ⟨fun σ' H' => ∃ i : Int, σ' = [some (.ref sa), some (.int (p : Nat)), some (.int i), none, none, none] ∧ Sm H H', ⟨_, rfl, _, rfl, _, _, rfl, Or.inl ⟨_, hs, rfl⟩, ?_⟩, ?_⟩
  · refine ⟨_, _, rfl, rfl, _, rfl, ite2 (fun hA => ?_) (fun _ => ?_)⟩
    · have hp2 : p < xs.length := by
        have := of_decide_eq_true hA
        rw [List.length_map] at this
        omega
      have e1 : (xs.map V.int)[p]? = some (V.int xs[p]) := by simp [hp2]
      exact ⟨_, rfl, _, rfl, sa, _, _, _, rfl, rfl, hs, atI_nat e1, _, rfl, Sm.rfl'⟩
    · obtain ⟨ys, ey⟩ : ∃ ys : List Int, cutV (xs.map V.int) none (some 1) = ys.map V.int := by
        unfold cutV
        rw [← List.map_drop, ← List.map_take]
        exact ⟨_, rfl⟩
      refine ⟨_, rfl, 1, rfl, sa, _, rfl, hs, fun l nl => ?_⟩
      refine ⟨l, ys, rfl, SqL.of (by rw [← ey]; exact upd_same), .inl ⟨_, rfl, _, _, rfl, rfl, (by show (999983 : Int) ≠ 0; decide), _, rfl, _, _, rfl, rfl, .inl (by constructor <;> decide), _, _, rfl, rfl, _, _, rfl, rfl, _, rfl, Sm.new nl⟩⟩
  rintro σ1 H1 ⟨i, rfl, s1⟩
  -- mixed
  refine ⟨_, rfl, sa, _, rfl, sqlSm s1 hs, ?_⟩
  refine for_enL (xs := xs.map V.int) (fun _ σ3 H3 => ∃ (m : Int) (x4 x5 : Option V), σ3 = [some (.ref sa), some (.int (p : Nat)), some (.int i), some (.int m), x4, x5] ∧ 0 ≤ m ∧ m < 2147483629 ∧ Sm H H3) ⟨0, none, none, rfl, Int.le_refl _, by decide, s1⟩ ?_ ?_ ?_
  · rintro k σ3 H3 ⟨_, _, _, _, _, _, s⟩
    exact sqlSm s hs
  · rintro k x σ3 H3 T hx3 ⟨m, x4, x5, rfl, m1, m2, s3⟩ nT
    obtain ⟨y, rfl⟩ : ∃ y : Int, x = .int y := by
      have := List.mem_of_getElem? hx3
      obtain ⟨y, _, rfl⟩ := List.mem_map.mp this
      exact ⟨y, rfl⟩
    refine ⟨T, _, rfl, SqT.of upd_same, rfl, _, _, rfl, _, _, rfl, rfl, ?_⟩
    have s4 := s3.trans (Sm.new (o := .tup [.int (k : Nat), .int y]) nT)
    refine ⟨_, rfl, _, _, rfl, rfl, .inl ⟨by omega, by omega⟩, _, rfl, _, rfl, _, _, rfl, rfl, _, rfl, _, _, rfl, rfl, .inl ⟨_, rfl, _, _, rfl, rfl, (by show (2147483629 : Int) ≠ 0; decide), ?_⟩⟩
    exact ⟨_, _, _, rfl, Int.fmod_nonneg_of_pos _ (by decide), Int.fmod_lt_of_pos _ (by decide), s4⟩
  · rintro σ3 H3 ⟨m, x4, x5, rfl, m1, m2, s3⟩
    have fin : ∀ c z : Int, 0 ≤ z → z < 2147483629 → ∀ a, H3 a = none → Q (.ref a) (upd H3 a (.lst [.int c, .int (z + 17 * (p : Int)), .int 0])) := fun c z z1 z2 a na =>
      q a _ (s3.trans (Sm.new na)) (s3.free na) ⟨c, _, _, upd_same, by omega, by omega, Int.le_refl _, Int.le_refl _⟩
    have last : ∀ c : Int, tCons
        (tOp (rI0 fun i j => V.int (i + j))
          (tOp (rI (fun _ j => j ≠ 0) fun i j => V.int (i.fmod j))
            (tCB (fun xs H Q => (∃ i, xs = [V.int i] ∧ Q (V.int i) H) ∨ ∃ k, xs = [V.bl k] ∧ Q (V.int (if k = true then 1 else 0)) H)
              (tCons (tOp (rI0 fun i j => V.int (i + j)) (tCB (fun xs H Q => ∃ i, xs = [V.int i] ∧ Q (V.int (if i < 0 then -i else i)) H) (tCons (tVar 2) tNil)) (tOp (rI CMul fun i j => V.int (i * j)) (tC (V.int 31)) (tVar 3))) tNil))
            (tC (V.int 2147483629)))
          (tOp (rI CMul fun i j => V.int (i * j)) (tC (V.int 17)) (tVar 1)))
        (tCons (tC (V.int 0)) tNil) [some (.ref sa), some (.int (p : Nat)), some (.int i), some (.int m), x4, x5] H3 fun vs H' => vs.length + 1 ≤ sizeLine ∧ ∀ a, H' a = none → Q (.ref a) (upd H' a (.lst (.int c :: vs))) := fun c => by
      refine ⟨_, rfl, _, rfl, _, rfl, _, _, rfl, rfl, .inl (by constructor <;> decide), _, _, rfl, rfl, .inl ⟨_, rfl, _, _, rfl, rfl, (by show (2147483629 : Int) ≠ 0; decide), _, rfl, _, _, rfl, rfl, .inl (by constructor <;> decide), _, _, rfl, rfl, (by show 3 ≤ sizeLine; decide), fun a na => ?_⟩⟩
      exact fin c _ (Int.fmod_nonneg_of_pos _ (by decide)) (Int.fmod_lt_of_pos _ (by decide)) a na
    exact ⟨_, rfl, _, _, rfl, rfl, ⟨by decide, by decide, by decide⟩, _, _, rfl, rfl, _, rfl, ite2 (fun _ => ⟨_, rfl, last i⟩) (fun _ => last 0)⟩
end
end K8

namespace WR
open PySem PySem.Spec PyProof.Rows L2
mutual
theorem Dr.live {N : Addr → Prop} {H : Hp} : ∀ {d : PyData} {v : V}, Dr N H v d → Dr (fun a => N a ∧ H a ≠ none) H v d
  | _, _, .non => .non
  | _, _, .bl b => .bl b
  | _, _, .int i => .int i
  | _, _, .str x => .str x
  | _, _, .lst n e r => .lst ⟨n, fun z => by rw [e] at z; cases z⟩ e (DrA.live r)
  | _, _, .tup e r => .tup e (DrA.live r)
  | _, _, .dct n e r => .dct ⟨n, fun z => by rw [e] at z; cases z⟩ e (DrK.live r)
theorem DrA.live {N : Addr → Prop} {H : Hp} : ∀ {ds : List PyData} {vs : List V}, DrA N H vs ds → DrA (fun a => N a ∧ H a ≠ none) H vs ds
  | _, _, .nil => .nil
  | _, _, .cons r t => .cons (Dr.live r) (DrA.live t)
theorem DrK.live {N : Addr → Prop} {H : Hp} : ∀ {ps : List (PyData × PyData)} {kvs : List (Key × V)}, DrK N H kvs ps → DrK (fun a => N a ∧ H a ≠ none) H kvs ps
  | _, _, .nil => .nil
  | _, _, .cons r t => .cons (Dr.live r) (DrK.live t)
end
end WR
namespace K8
open PySem PySem.Spec PyProof.Rows L2 WR
/-- N lets no well in -/
def Off (w : Addr) (N : Addr → Prop) : Prop := ∀ a, N a → a ≠ w
def Fr (N : Addr → Prop) (H : Hp) : Addr → Prop := fun a => N a ∨ H a = none
theorem Gw.stN {w : Addr} {n : Nat} {H H' : Hp} {N : Addr → Prop} (o : Off w N) (hw : Wl H w n) (g : Gw w H H') : Stays N H H' := by
  have := g.stays hw
  exact ⟨fun a u h z => this.at_ a u (o a h) z, this.tup⟩
theorem _root_.WR.Dr.gn {w : Addr} {n : Nat} {N : Addr → Prop} {H H' : Hp} {v : V} {d : PyData} (r : Dr N H v d) (o : Off w N) (hw : Wl H w n) (g : Gw w H H') : Dr N H' v d := r.mono (fun _ z => z) (g.stN o hw)
theorem _root_.WR.DrA.gn {w : Addr} {n : Nat} {N : Addr → Prop} {H H' : Hp} {v : List V} {d : List PyData} (r : DrA N H v d) (o : Off w N) (hw : Wl H w n) (g : Gw w H H') : DrA N H' v d := r.mono (fun _ z => z) (g.stN o hw)
theorem _root_.WR.Dr.wide {N M : Addr → Prop} {H : Hp} {v : V} {d : PyData} (r : Dr N H v d) (h : ∀ a, N a → M a) : Dr M H v d := r.mono h (Stays.of Sm.rfl')
theorem _root_.WR.DrA.wide {N M : Addr → Prop} {H : Hp} {v : List V} {d : List PyData} (r : DrA N H v d) (h : ∀ a, N a → M a) : DrA M H v d := r.mono h (Stays.of Sm.rfl')
section
variable {X : Cx}
/-- x[j], j within a list or a tuple -/
def rIxN (N : Addr → Prop) : R2 := fun x y H Q => ∃ d, ∃ j : Nat, ∃ e, Dr N H x d ∧ isL d = true ∧ y = .int (j : Int) ∧ (its d)[j]? = some e ∧ ∀ v, Dr N H v e → Q v H
theorem ix_N (N : Addr → Prop) : IxR X (rIxN N) := by
  intro value slice pins s σ H x y v u Q I rx ry h hs
  obtain ⟨d, j, e, rd, hL, rfl, he, q⟩ := h
  cases rd with
  | lst _ ea r =>
    obtain ⟨z, hz, rz⟩ := r.at_ he
    exact ix_list value slice pins s σ H _ _ v u Q I rx ry ⟨_, _, _, z, rfl, rfl, SqL.of ea, atI_nat hz, q _ rz⟩ hs
  | tup ea r =>
    obtain ⟨z, hz, rz⟩ := r.at_ he
    exact ix_tup value slice pins s σ H _ _ v u Q I rx ry ⟨_, _, _, z, rfl, rfl, SqT.of ea, atI_nat hz, q _ rz⟩ hs
  | _ => cases hL
/-- x[lo:hi] of a list or a tuple -/
def rSlN (N : Addr → Prop) : V → Option Int → Option Int → Hp → VK → Prop := fun x lo hi H Q => ∃ d, Dr N H x d ∧ isL d = true ∧ ∀ v H', Sm H H' → Dr (Fr N H) H' v (likeD d (cutA (its d) lo hi)) → Q v H'
theorem sl_N (N : Addr → Prop) : SlR X (rSlN N) := by
  intro pins s σ H x v vl vu lo hi sl Q I rx hs pl pu h
  obtain ⟨d, rd, hL, q⟩ := h
  cases rd with
  | lst _ e r =>
    refine sl_list pins s σ H _ v vl vu lo hi sl Q I rx hs pl pu ⟨_, _, rfl, SqL.of e, fun p np => q _ _ (Sm.new np) ?_⟩
    exact .lst (.inr np) upd_same (((r.cut lo hi).sm (Sm.new np)).wide fun _ z => .inl z)
  | @tup a xs ds e r =>
    refine sl_tupA pins s σ H _ v vl vu lo hi sl Q I rx hs pl pu ⟨_, _, rfl, SqT.of e, fun hw => q _ _ Sm.rfl' ?_, fun _ p np => q _ _ (Sm.new np) ?_⟩
    · have ew : cutA ds lo hi = ds := by
        have hl := r.length
        unfold cutA
        rw [hl] at hw
        rw [hw.1, hw.2, List.drop_zero, Nat.sub_zero, List.take_length]
      show Dr _ H _ (.tuple (cutA ds lo hi))
      rw [ew]
      exact .tup e (r.wide fun _ z => .inl z)
    · exact .tup upd_same (((r.cut lo hi).sm (Sm.new np)).wide fun _ z => .inl z)
  | _ => cases hL
/-- list(x) -/
theorem call_listN (N : Addr → Prop) : CallR X (.type "list") (fun xs H Q => ∃ v d, xs = [v] ∧ Dr N H v d ∧ isL d = true ∧ ∀ l ys, H l = none → DrA N H ys (its d) → Q (.ref l) (upd H l (.lst ys))) := by
  intro pins s σ H xs us Q I r h
  obtain ⟨v, d, rfl, rd, hL, q⟩ := h
  cases rd with
  | lst _ e rr => exact call_list_of pins s σ H _ us Q I r ⟨_, _, rfl, .inl (SqL.of e), fun l nl => q l _ nl rr⟩
  | tup e rr => exact call_list_of pins s σ H _ us Q I r ⟨_, _, rfl, .inr (SqT.of e), fun l nl => q l _ nl rr⟩
  | _ => cases hL
/-- tuple(x) -/
theorem call_tupN (N : Addr → Prop) : CallR X (.type "tuple") (fun xs H Q => ∃ v d, xs = [v] ∧ Dr N H v d ∧ isL d = true ∧ ∀ u H', Sm H H' → Dr N H' u (.tuple (its d)) → Q u H') := by
  intro pins s σ H xs us Q I r h
  obtain ⟨v, d, rfl, rd, hL, q⟩ := h
  cases rd with
  | lst _ e rr => exact call_tuple_of pins s σ H _ us Q I r ⟨_, _, rfl, .inl ⟨SqL.of e, fun p np => q _ _ (Sm.new np) (.tup upd_same (rr.sm (Sm.new np)))⟩⟩
  | tup e rr => exact call_tuple_of pins s σ H _ us Q I r ⟨_, _, rfl, .inr ⟨SqT.of e, q _ _ Sm.rfl' (.tup e rr)⟩⟩
  | _ => cases hL
end
theorem erase_perm {α : Type} : ∀ (l : List α) (k : Nat) (h : k < l.length), (l[k] :: l.eraseIdx k).Perm l
  | a :: l, 0, _ => List.Perm.refl _
  | a :: l, k + 1, h => by
    have ih := erase_perm l k (by simpa using h)
    exact (List.Perm.swap a _ _).trans (ih.cons a)
theorem ixN_nat {n k : Nat} (h : k < n) : ixN n (k : Int) = some k := by
  unfold ixN
  rw [if_pos (by omega), if_pos (by omega)]
  rfl
/-- what N lets in stays when another one is written -/
theorem stays_upd {N : Addr → Prop} {H : Hp} {a : Addr} {o : HO} (h : ∀ b, N b → b ≠ a) (ht : ∀ xs, H a ≠ some (.tup xs)) : Stays N H (upd H a o) :=
  ⟨fun b u n e => by rw [upd_ne (h b n)]; exact e, fun b xs e => by rw [upd_ne (fun z => ht xs (by rw [← z]; exact e))]; exact e⟩
/-- o.name(e, ..) in a block: K told apart -/
theorem pe_bmB {X : Cx} {K1 : PySem.W.Frag} {o e : Expr} {es : List Expr} {to : TE} {t : TA} {name : Str} {apos cpos : Pos} {T id : String} {r : V → List V → Hp → VK → Prop} (hK : X.K = K1) (pa : PlainAttrs T) (slot : Slot T name id) (hty : typeOf (.builtin id) = pure (.type "method_descriptor"))
    (hm : MtR X id r) (ho : PE X o to) (ha : PA X (e :: es) t) (b1 : attributeBase o name X.env (eval o X.env) = eval o X.env := by rfl)
    (b2 : ((backTo cpos (starEach (e :: es) X.env)).all (fun x => !x.1) && (backToKw cpos (keywordEach [] X.env)).all (fun x => x.1.isSome) && decide ((e :: es).length + ([] : List Keyword).length + (if ([] : List Keyword).isEmpty then 0 else 1) < 30)) = true := by rfl)
    (b3 : (apos.endLine == cpos.line) = true := by rfl) (b4 : starEach (e :: es) X.env = (false, eval e X.env) :: starEach es X.env := by rfl) (b5 : (backTo cpos (starEach es X.env)).any (·.1) = false := by rfl) : PE X (.Call (.Attribute o name apos) (e :: es) [] cpos) (tBM K1 T r to t) := by
  subst hK
  exact pe_bm pa slot hty hm ho ha b1 b2 b3 b4 b5
/-! ### comprehensions that draw -/
/-- J walks the data ds, whatever is drawn meanwhile -/
structure WalkW (w : Addr) (N : Addr → Prop) (J : It) (H1 : Hp) (ds : List PyData) : Prop where
  go : ∀ H i, Gw w H1 H → i < ds.length → J.go i H
  yld : ∀ H i x H', Gw w H1 H → i < ds.length → J.yld i H x H' → H' = H ∧ ∃ d, ds[i]? = some d ∧ Dr N H x d
  stop : ∀ H, Gw w H1 H → J.stop ds.length H
theorem WalkW.seq {K : PySem.W.Frag} {w : Addr} {n : Nat} {N : Addr → Prop} {H1 : Hp} {a : Addr} {xs : List V} {ds : List PyData} {J : It} (hJ : ItS K H1 a xs J) (na : a ≠ w) (o : Off w N) (hw : Wl H1 w n) (r : DrA N H1 xs ds) : WalkW w N J H1 ds := by
  have hl := r.length
  constructor
  · intro H i s hi
    have hx : xs[i]? = some xs[i] := List.getElem?_eq_getElem (by omega)
    rcases hJ with ⟨rfl, e⟩ | ⟨rfl, e⟩
    · exact ⟨xs, _, SqL.of (s _ _ na e), hx⟩
    · exact ⟨xs, _, SqT.of (s _ _ na e), hx⟩
  · intro H i x H' s hi y
    have hx : H' = H ∧ xs[i]? = some x := by
      rcases hJ with ⟨rfl, e⟩ | ⟨rfl, e⟩
      · exact ⟨y.1, y.2 xs (SqL.of (s _ _ na e))⟩
      · exact ⟨y.1, y.2 xs (SqT.of (s _ _ na e))⟩
    obtain ⟨d, h1, h2⟩ := r.get hx.2
    exact ⟨hx.1, d, h1, h2.gn o hw s⟩
  · intro H s
    rcases hJ with ⟨rfl, e⟩ | ⟨rfl, e⟩
    · exact ⟨xs, SqL.of (s _ _ na e), by omega⟩
    · exact ⟨xs, SqT.of (s _ _ na e), by omega⟩
theorem WalkW.range {w : Addr} {N : Addr → Prop} {H1 : Hp} {lo : Int} {n : Nat} : WalkW w N (Itr lo n) H1 ((List.range n).map fun (k : Nat) => PyData.int (lo + (k : Int))) := by
  constructor
  · intro H i s hi
    show i < n
    simpa using hi
  · rintro H i v H' s hi ⟨e, rfl⟩
    refine ⟨e, .int (lo + i), ?_, .int _⟩
    have : i < n := by simpa using hi
    simp [List.getElem?_map, List.getElem?_range this]
  · intro H s
    show n ≤ _
    simp
/-- pairwise -/
inductive All2 (R : PyData → PyData → Prop) : List PyData → List PyData → Prop
  | nil : All2 R [] []
  | cons {d e : PyData} {ds es : List PyData} : R d e → All2 R ds es → All2 R (d :: ds) (e :: es)
theorem All2.app {R : PyData → PyData → Prop} {d e : PyData} (h : R d e) : ∀ {ds es : List PyData}, All2 R ds es → All2 R (ds ++ [d]) (es ++ [e])
  | _, _, .nil => .cons h .nil
  | _, _, .cons a t => .cons a (t.app h)
theorem All2.len {R : PyData → PyData → Prop} : ∀ {ds es : List PyData}, All2 R ds es → es.length = ds.length
  | _, _, .nil => rfl
  | _, _, .cons _ t => by simp [t.len]
theorem lc_w {J : It} {te : TE} {vs : List Nat} {i : Nat} {σ : L2.St} {H1 : Hp} {D w : Addr} {n c : Nat} {M N : Addr → Prop} {ds : List PyData} {Qd : Hp → Prop} (R : PyData → PyData → Prop) (W : WalkW w M J H1 ds) (nD : H1 D = none) (hw0 : Wl H1 w n) (oN : Off w N)
    (hlen : ds.length ≤ lim)
    (hw : ∀ x, wipe ((wipe σ vs).set i (some x)) vs = wipe σ vs)
    (hs : ∀ (x : V) (d : PyData) (j : Nat) (H2 : Hp) (Q : VK), ds[j]? = some d → Gw w H1 H2 → Wl H2 w (n + c * j) → Dr M H2 x d →
      (∀ y e H3, Gw w H2 H3 → Wl H3 w (n + c * (j + 1)) → Dr (fun b => (N b ∨ H1 b = none) ∧ b ≠ D) H3 y e → R d e → Q y H3) → H2 D ≠ none → te ((wipe σ vs).set i (some x)) H2 Q)
    (hd : ∀ H2 ys es, Gw w H1 H2 → Wl H2 w (n + c * ds.length) → H2 D = some (.lst ys) → DrA (fun b => (N b ∨ H1 b = none) ∧ b ≠ D) H2 ys es → All2 R ds es → Qd H2) :
    ∃ W : Nat → Nat → Hp → Prop, (∃ m, W 0 m (upd H1 D (.lst []))) ∧ ∀ i' m H, W i' m H →
      (J.stop i' H ∧ Qd H) ∨ (J.go i' H ∧ ∃ Nx : Hp → Prop, (∀ H', Nx H' → ∃ m', m' < m ∧ W (i' + 1) m' H') ∧ ∀ x H', J.yld i' H x H' → gName i x (wipe σ vs) H' fun σ2 H2 => wipe σ2 vs = wipe σ vs ∧ tYes σ2 H2 fun b H3 =>
        if b = true then te σ2 H3 fun y H4 => ∃ acc, H4 D = some (.lst acc) ∧ acc.length < sizeLine ∧ Nx (upd H4 D (.lst (acc ++ [y]))) else Nx H3) := by
  have nDw : D ≠ w := hw0.ne nD
  have offM : Off w (fun b => (N b ∨ H1 b = none) ∧ b ≠ D) := fun a h => by
    rcases h.1 with z | z
    · exact oN a z
    · exact hw0.ne z
  refine lc_walk (n := ds.length) (fun j H2 => Gw w H1 H2 ∧ Wl H2 w (n + c * j) ∧ ∃ ys es, H2 D = some (.lst ys) ∧ ys.length = j ∧ DrA (fun b => (N b ∨ H1 b = none) ∧ b ≠ D) H2 ys es ∧ All2 R (ds.take j) es) ?_ ?_ ?_ ?_ ?_
  · exact ⟨Gw.of (Sm.new nD), by simpa using hw0.sm (Sm.new nD), [], [], upd_same, rfl, .nil, by simpa using All2.nil⟩
  · rintro j H2 hj ⟨s, _⟩
    exact W.go _ _ s hj
  · rintro H2 ⟨s, _⟩
    exact W.stop _ s
  · rintro j x H2 H' hj ⟨s, hw2, ys, es, eD, hl, ry, al⟩ hy
    obtain ⟨rfl, d, hd', rd⟩ := W.yld _ _ _ _ s hj hy
    refine ⟨hw x, ?_⟩
    dsimp only [tYes]
    rw [if_pos rfl]
    refine hs x d j H' _ hd' s hw2 rd (fun y e H3 s3 hw3 r3 hr => ?_) (by rw [eD]; exact fun z => nomatch z)
    have eD3 := s3 D _ nDw eD
    refine ⟨ys, eD3, by rw [hl]; exact Nat.lt_of_lt_of_le hj (Nat.le_of_lt (Nat.lt_of_le_of_lt hlen lim_lt)), ?_⟩
    have s4 : Gw w H1 (upd H3 D (.lst (ys ++ [y]))) := fun b o hb z => by
      rw [upd_ne (ne_of_none z nD)]
      exact s3 _ _ hb (s _ _ hb z)
    have hw4 : Wl (upd H3 D (.lst (ys ++ [y]))) w (n + c * (j + 1)) := by
      obtain ⟨a, b, c', e', h'⟩ := hw3
      exact ⟨a, b, c', by rw [upd_ne (Ne.symm nDw)]; exact e', h'⟩
    refine ⟨s4, hw4, ys ++ [y], es ++ [e], upd_same, by rw [List.length_append, hl]; rfl, ?_, ?_⟩
    · have s5 : Stays (fun b => (N b ∨ H1 b = none) ∧ b ≠ D) H3 (upd H3 D (.lst (ys ++ [y]))) := ⟨fun b o nb z => by rw [upd_ne nb.2]; exact z, fun b us z => by
        rw [upd_ne (fun q => by rw [q, eD3] at z; cases z)]
        exact z⟩
      exact ((ry.gn offM hw2 s3).append (.one r3)).mono (fun _ z => z) s5
    · rw [List.take_succ, hd']
      exact al.app hr
  · rintro H2 ⟨s, hw2, ys, es, eD, hl, ry, al⟩
    rw [List.take_length] at al
    exact hd H2 ys es s hw2 eD ry al
abbrev spPick : Sp := fun vs H Q _ => ∃ (w : Addr) (n : Nat) (N : Addr → Prop) (v : V) (d : PyData), vs = [.ref w, v] ∧ Off w N ∧ Wl H w n ∧ n < top0 ∧ Dr N H v d ∧ isL d = true ∧ its d ≠ [] ∧ (its d).length ≤ lim ∧
  ∀ e ∈ its d, ∀ u H', Gw w H H' → Wl H' w (n + 1) → Dr N H' u e → Q u H'
abbrev spMixed : Sp := fun vs H Q _ => ∃ (w : Addr) (n : Nat) (N : Addr → Prop) (v : V) (d : PyData), vs = [.ref w, v] ∧ Off w N ∧ Wl H w n ∧ n + lim < top0 ∧ Dr N H v d ∧ isL d = true ∧ (its d).length ≤ lim ∧
  ∀ (l : Addr) (ys : List V) (es : List PyData) (H' : Hp), H l = none → es.Perm (its d) → Gw w H H' → Wl H' w (n + (its d).length) → H' l = some (.lst ys) → DrA N H' ys es → Q (.ref l) H'
section
variable {P : Program} {w : World} {K : PySem.W.Frag} {mg : Str → Option Value} {base : Heap}
theorem sc__law_pick : FnScope ["well", "some"] ["well", "some"] (defScope s_law_pick) := ⟨rfl, rfl, rfl, by decide +kernel, rfl, by decide +kernel, by decide +kernel⟩
theorem ok__law_pick (B : Bt mg) (F : Fn K mg d_law_pick) (D1 : Df P w K mg base CX0 1 "_law_draw" ["well", "many"] spDraw) : Df P w K mg base CX0 2 "_law_pick" ["well", "some"] spPick := by
  obtain ⟨f, fd, hm, F⟩ := F
  refine ⟨f, fd, hm, F.kp, F.bindsN fun _ _ _ _ _ _ us hl => match us, hl with | [_, _], _ => rfl, ?_⟩
  refine F.ok sc__law_pick (fun vs H Q E h => by obtain ⟨w, n, N, v, d, rfl, _⟩ := h; rfl) (fun cdv A outer s H vs Q E hr h => ?_)
  obtain ⟨wa, n, N, v, d, rfl, oN, hw, hn, rd, hL, h0, hl, q⟩ := h
  refine ⟨_, PSs.nox (pss_one (ps_ret (pe_ix (ix_N N) (pv 1) (pe_df D1 hr pass0 (pa_cons (pv 0) (pa_cons (pe_callB call_lenS (by rfl) B.len (by decide +kernel) (pa_cons (pv 1) pa_nil)) pa_nil))) (fun _ _ => rfl)))), ?_⟩
  have hl1 : 1 ≤ (its d).length := by
    cases e : its d with
    | nil => exact absurd e h0
    | cons _ _ => simp
  have hlim : lim = 4000 := rfl
  refine ⟨_, rfl, _, rfl, _, rfl, v, d, rfl, rd.all, hL, ?_⟩
  refine ⟨wa, (its d).length, n, rfl, hl1, by omega, hw, hn, fun k H' hk g hw' => ?_⟩
  have e1 : (its d)[k]? = some (its d)[k] := List.getElem?_eq_getElem hk
  exact ⟨d, k, _, rd.gn oN hw g, hL, rfl, e1, fun u ru => q _ (List.getElem_mem hk) u H' g hw' ru⟩
theorem sc__law_mixed : FnScope ["well", "some", "left", "k"] ["well", "some"] (defScope s_law_mixed) := ⟨rfl, rfl, rfl, by decide +kernel, rfl, by decide +kernel, by decide +kernel⟩
theorem ok__law_mixed (B : Bt mg) (F : Fn K mg d_law_mixed) (D1 : Df P w K mg base CX0 1 "_law_draw" ["well", "many"] spDraw) : Df P w K mg base CX0 2 "_law_mixed" ["well", "some"] spMixed := by
  obtain ⟨f, fd, hm, F⟩ := F
  refine ⟨f, fd, hm, F.kp, F.bindsN fun _ _ _ _ _ _ us hl => match us, hl with | [_, _], _ => rfl, ?_⟩
  refine F.ok sc__law_mixed (fun vs H Q E h => by obtain ⟨w, n, N, v, d, rfl, _⟩ := h; rfl) (fun cdv A outer s H vs Q E hr h => ?_)
  obtain ⟨wa, n, N, v, d, rfl, oN, hw, hn, rd, hL, hl, q⟩ := h
  refine ⟨_, PSs.nox (pss_cons (ps_set (i := 2) sc__law_mixed.nd rfl (by first | exact Or.inl rfl | exact Or.inr rfl) (pe_callTy (call_listN N) (by rfl) B.list (by decide +kernel) (pa_cons (pv 1) pa_nil)))
      (pss_one (ps_ret (pe_lc (own := [("k", 3)]) (g := gName 3) (tt := tYes) rfl sc__law_mixed.nd (pi_range1 rfl B.range (pa_cons (pe_callB call_lenS (by rfl) B.len (by decide +kernel) (pa_cons (pv 2) pa_nil)) pa_nil)) (blkOk_by (own := [("k", 3)]) (N := ["well", "some", "left", "k"]) (sc := defScope s_law_mixed) (by decide +kernel)) (fun _ _ _ _ _ => pg_name (i := 3) sc__law_mixed.nd rfl (by first | exact Or.inl rfl | exact Or.inr rfl)) (fun _ _ _ _ _ => pts_nil) (fun _ _ _ _ _ => (by exact (pe_bmB (K1 := K) rfl PySem.F.plainAttrs_list PySem.F.slot_list_pop PySem.F.type_list_pop mt_popAt (pv 2) (pa_cons (pe_df D1 hr pass0 (pa_cons (pv 0) (pa_cons (pe_callB call_lenS (by rfl) B.len (by decide +kernel) (pa_cons (pv 2) pa_nil)) pa_nil))) pa_nil)))))))), ?_⟩
  have hlim : lim = 4000 := rfl
  refine ⟨_, rfl, v, d, rfl, rd, hL, fun l zs nl rz => ?_⟩
  have nlw : l ≠ wa := hw.ne nl
  have lz := rz.length
  have rz1 := rz.live
  have e0 : upd H l (.lst zs) l = some (.lst zs) := upd_same
  have hsl : 4000 < sizeLine := by rw [sizeLine_eq]; decide
  refine ⟨_, rfl, .ref l, .list (its d), rfl, .lst trivial upd_same ((rz.sm (Sm.new nl)).all), rfl, _, rfl, by omega, by simp [its] at *; omega, fun D nD => ?_⟩
  have nDl : D ≠ l := (ne_of_none e0 nD).symm
  have nD0 : H D = none := by
    rw [upd_ne nDl] at nD
    exact nD
  have nDw : D ≠ wa := hw.ne nD0
  have off : ∀ a, (N a ∧ H a ≠ none) → a ≠ wa ∧ a ≠ l ∧ a ≠ D := fun a h => ⟨oN a h.1, fun z => h.2 (by rw [z]; exact nl), fun z => h.2 (by rw [z]; exact nD0)⟩
  have off1 : Off wa (fun a => N a ∧ H a ≠ none) := fun a h => (off a h).1
  refine lc_walk (n := (its d).length) (fun j H2 => Gw wa H H2 ∧ Wl H2 wa (n + j) ∧ ∃ zs ds ys es, H2 l = some (.lst zs) ∧ zs.length + j = (its d).length ∧ DrA (fun a => N a ∧ H a ≠ none) H2 zs ds ∧ H2 D = some (.lst ys) ∧ ys.length = j ∧ DrA (fun a => N a ∧ H a ≠ none) H2 ys es ∧ (es ++ ds).Perm (its d)) ?_ ?_ ?_ ?_ ?_
  · refine ⟨Gw.of ((Sm.new nl).trans (Sm.new nD)), (hw.sm ((Sm.new nl).trans (Sm.new nD))), zs, its d, [], [], by rw [upd_ne nDl.symm]; exact upd_same, lz, rz1.sm ((Sm.new nl).trans (Sm.new nD)), upd_same, rfl, .nil, List.Perm.refl _⟩
  · intro j H2 hj _
    show j < _
    simpa [its] using hj
  · intro H2 _
    show _ ≤ _
    simp [its]
  · rintro j x H2 H' hj ⟨g, hw2, zs2, ds2, ys, es, el, hlz, rz2, eD, hly, ry, pm⟩ ⟨rfl, rfl⟩
    refine ⟨rfl, ?_⟩
    dsimp only [tYes]
    rw [if_pos rfl]
    have lz2 := rz2.length
    refine ⟨_, rfl, .inl ⟨rfl, _, SqL.of el⟩, _, rfl, _, rfl, .ref l, .list ds2, rfl, .lst trivial el rz2.all, rfl, wa, ds2.length, n + j, rfl, by omega, by omega, hw2, by omega, fun k H3 hk g3 hw3 => ?_⟩
    have el3 := g3 l _ nlw el
    have eD3 := g3 D _ nDw eD
    have hk2 : k < zs2.length := by omega
    have ey : zs2[k]? = some zs2[k] := List.getElem?_eq_getElem hk2
    obtain ⟨dk, edk, rk⟩ := (rz2.gn off1 hw2 g3).get ey
    refine ⟨l, zs2, (k : Int), k, zs2[k], rfl, rfl, el3, by omega, by omega, (ixN_seq (ixN_nat hk2)).1, ey, ys, by rw [upd_ne nDl]; exact eD3, by omega, ?_⟩
    have st1 : Stays (fun a => N a ∧ H a ≠ none) H3 (upd H3 l (.lst (zs2.eraseIdx k))) := stays_upd (fun b h => (off b h).2.1) (fun xs z => by rw [el3] at z; cases z)
    have st2 : Stays (fun a => N a ∧ H a ≠ none) (upd H3 l (.lst (zs2.eraseIdx k))) (upd (upd H3 l (.lst (zs2.eraseIdx k))) D (.lst (ys ++ [zs2[k]]))) := stays_upd (fun b h => (off b h).2.2) (fun xs z => by rw [upd_ne nDl, eD3] at z; cases z)
    have up : ∀ {us : List V} {fs : List PyData}, DrA (fun a => N a ∧ H a ≠ none) H3 us fs → DrA (fun a => N a ∧ H a ≠ none) (upd (upd H3 l (.lst (zs2.eraseIdx k))) D (.lst (ys ++ [zs2[k]]))) us fs := fun r => (r.mono (fun _ z => z) st1).mono (fun _ z => z) st2
    refine ⟨fun b o hb e => ?_, ?_, zs2.eraseIdx k, ds2.eraseIdx k, ys ++ [zs2[k]], es ++ [dk], ?_, ?_, ?_, upd_same, ?_, ?_, ?_⟩
    · rw [upd_ne (ne_of_none e nD0), upd_ne (ne_of_none e nl)]
      exact g3 b o hb (g b o hb e)
    · obtain ⟨a, b, c, e', r'⟩ := hw3
      exact ⟨a, b, c, by rw [upd_ne nDw.symm, upd_ne nlw.symm]; exact e', r'⟩
    · rw [upd_ne nDl.symm]
      exact upd_same
    · rw [List.length_eraseIdx_of_lt hk2]
      omega
    · exact up ((rz2.gn off1 hw2 g3).eraseIdx k)
    · rw [List.length_append, hly]
      rfl
    · exact up ((ry.gn off1 hw2 g3).append (.one rk))
    · have hk3 : k < ds2.length := hk
      have e5 : dk = ds2[k] := by
        rw [List.getElem?_eq_getElem hk3] at edk
        exact (Option.some.inj edk).symm
      have p1 : (dk :: ds2.eraseIdx k).Perm ds2 := by
        rw [e5]
        exact erase_perm ds2 k hk3
      rw [List.append_assoc]
      exact (List.Perm.append_left es p1).trans pm
  · rintro H2 ⟨g, hw2, zs2, ds2, ys, es, el, hlz, rz2, eD, hly, ry, pm⟩
    have e6 : ds2 = [] := by
      have := rz2.length
      exact List.length_eq_zero_iff.mp (by omega)
    subst e6
    rw [List.append_nil] at pm
    exact q D ys es H2 nD0 pm g hw2 eD (ry.wide fun _ z => z.1)
end
end K8

namespace K8
open PySem PySem.Spec PyProof.Rows L2 WR LiI RZ
mutual
/-- no deeper than n, no dict but {} -/
def fit : PyData → Nat → Bool
  | .list xs, n => decide (1 ≤ n) && decide (xs.length ≤ lim) && fitA xs (n - 1)
  | .tuple xs, n => decide (1 ≤ n) && decide (xs.length ≤ lim) && fitA xs (n - 1)
  | .dict ps, n => decide (2 ≤ n) && ps.isEmpty
  | .str x, _ => decide (x.length ≤ lim)
  | .int i, _ => decide (i.natAbs.log2 < 1000)
  | .bool _, _ => true
  | .none, _ => true
def fitA : List PyData → Nat → Bool
  | [], _ => true
  | d :: ds, n => fit d n && fitA ds n
end
theorem fitA_at : ∀ {ds : List PyData} {n i : Nat} {d : PyData}, fitA ds n = true → ds[i]? = some d → fit d n = true
  | [], n, i, d, _, e => by simp at e
  | x :: xs, n, 0, d, h, e => by
    simp only [fitA, Bool.and_eq_true] at h
    simp at e
    rw [← e]
    exact h.1
  | x :: xs, n, i + 1, d, h, e => by
    simp only [fitA, Bool.and_eq_true] at h
    exact fitA_at h.2 (by simpa using e)
theorem Df.off {P : Program} {w : World} {K : PySem.W.Frag} {mg : Str → Option Value} {base : Heap} {CX : CXT} {d : He.DefD} {ps : List Str} (F : Fn K mg d)
    (hb : ∀ f fd, FunD K d.name d.qual d.params d.body d.scope [] [] f fd → Binds K fd ps []) : Df P w K mg base CX 0 d.name ps (fun _ _ _ _ => False) := by
  obtain ⟨f, fd, hm, F⟩ := F
  exact ⟨f, fd, hm, F.kp, hb f fd F, ⟨fun _ _ _ _ z => z.elim, fun _ _ _ _ _ _ _ _ _ _ _ _ _ z => z.elim⟩⟩
section
variable {X : Cx}
def rIsD3 (c1 c2 c3 : String) (f : PyData → Bool) : List V → Hp → VK → Prop := fun xs H Q => ∃ x t d, xs = [x, .ref t] ∧ H t = some (.tup [.ty c1, .ty c2, .ty c3]) ∧ Dr All H x d ∧ Q (.bl (f d)) H
theorem call_isD3 {c1 c2 c3 : String} {f1 f2 f3 f : PyData → Bool} (h1 : ∀ d, kitB (tyD d) c1 = some (f1 d)) (h2 : ∀ d, kitB (tyD d) c2 = some (f2 d)) (h3 : ∀ d, kitB (tyD d) c3 = some (f3 d)) (hf : ∀ d, (f1 d || (f2 d || f3 d)) = f d) : CallR X (.builtin "isinstance") (rIsD3 c1 c2 c3 f) := by
  intro pins s σ H xs us Q I r h
  obtain ⟨x, t, d, rfl, ht, hd, q⟩ := h
  have k3 : PySem.W.kitAny X.K (.type (tyD d)) [.type c1, .type c2, .type c3] = some (f1 d || (f2 d || f3 d)) := by
    refine kitAny_cons (kit_ty (h1 d)) (fun e => ?_) (fun e => by rw [e]; rfl)
    rw [e, Bool.false_or]
    exact kit_any2 (h2 d) (h3 d)
  refine call_isiT pins s σ H _ us Q I r ⟨x, t, [.ty c1, .ty c2, .ty c3], _, [.type c1, .type c2, .type c3], _, rfl, ht, .cons (.ty c1) (.cons (.ty c2) (.cons (.ty c3) .nil)), hd.ty, k3, ?_⟩
  rw [hf d]
  exact q
end
def isDL : PyData → Bool
  | .list _ => true
  | .tuple _ => true
  | .dict _ => true
  | _ => false
theorem isDL_or (d : PyData) : (isD d || (isLst d || isTup d)) = isDL d := by cases d <;> rfl
/-- J walks two of the same data side by side -/
structure ZWalk (J : It) (H1 : Hp) (ds : List PyData) : Prop where
  go : ∀ H i, Sm H1 H → i < ds.length → J.go i H
  yld : ∀ H i x H', Sm H1 H → i < ds.length → J.yld i H x H' → ∃ T a b d, x = .ref T ∧ H T = none ∧ H' = upd H T (.tup [a, b]) ∧ ds[i]? = some d ∧ Dr All H a d ∧ Dr All H b d
  stop : ∀ H, Sm H1 H → J.stop ds.length H
theorem ZWalk.lists {K : PySem.W.Frag} {H1 : Hp} {a b : Addr} {xs ys : List V} {ds : List PyData} (ea : H1 a = some (.lst xs)) (eb : H1 b = some (.lst ys)) (ra : DrA All H1 xs ds) (rb : DrA All H1 ys ds) : ZWalk (Itz K a b) H1 ds := by
  have la := ra.length
  have lb := rb.length
  refine ⟨fun H i s hi => ⟨xs, ys, _, _, SqL.of (s _ _ ea), SqL.of (s _ _ eb), List.getElem?_eq_getElem (by omega), List.getElem?_eq_getElem (by omega)⟩, ?_, fun H s => ⟨xs, ys, SqL.of (s _ _ ea), SqL.of (s _ _ eb), .inl (by omega)⟩⟩
  rintro H i v H' s hi ⟨T, x, y, rfl, nT, rfl, hx, hy⟩
  obtain ⟨d, e1, r1⟩ := (ra.sm s).get (hx xs (SqL.of (s _ _ ea)))
  obtain ⟨d', e2, r2⟩ := (rb.sm s).get (hy ys (SqL.of (s _ _ eb)))
  rw [e1] at e2
  cases e2
  exact ⟨T, x, y, d, rfl, nT, rfl, e1, r1, r2⟩
theorem ZWalk.tups {K : PySem.W.Frag} {H1 : Hp} {a b : Addr} {xs ys : List V} {ds : List PyData} (ea : H1 a = some (.tup xs)) (eb : H1 b = some (.tup ys)) (ra : DrA All H1 xs ds) (rb : DrA All H1 ys ds) : ZWalk (ItzT K a b) H1 ds := by
  have la := ra.length
  have lb := rb.length
  refine ⟨fun H i s hi => ⟨xs, ys, _, _, SqT.of (s _ _ ea), SqT.of (s _ _ eb), List.getElem?_eq_getElem (by omega), List.getElem?_eq_getElem (by omega)⟩, ?_, fun H s => ⟨xs, ys, SqT.of (s _ _ ea), SqT.of (s _ _ eb), .inl (by omega)⟩⟩
  rintro H i v H' s hi ⟨T, x, y, rfl, nT, rfl, hx, hy⟩
  obtain ⟨d, e1, r1⟩ := (ra.sm s).get (hx xs (SqT.of (s _ _ ea)))
  obtain ⟨d', e2, r2⟩ := (rb.sm s).get (hy ys (SqT.of (s _ _ eb)))
  rw [e1] at e2
  cases e2
  exact ⟨T, x, y, d, rfl, nT, rfl, e1, r1, r2⟩
theorem fit_its {d : PyData} {n : Nat} (h : fit d n = true) (hL : isL d = true) : 1 ≤ n ∧ (its d).length ≤ lim ∧ fitA (its d) (n - 1) = true := by
  cases d with
  | list xs =>
    simp only [fit, Bool.and_eq_true, decide_eq_true_eq] at h
    exact ⟨h.1.1, h.1.2, h.2⟩
  | tuple xs =>
    simp only [fit, Bool.and_eq_true, decide_eq_true_eq] at h
    exact ⟨h.1.1, h.1.2, h.2⟩
  | _ => cases hL
/-- two of the same data: True -/
def spSame : Nat → Sp
  | 0 => fun _ _ _ _ => False
  | n + 1 => fun vs H Q _ => ∃ (u v : V) (d : PyData), vs = [u, v] ∧ Dr All H u d ∧ Dr All H v d ∧ fit d n = true ∧ ∀ H', Sm H H' → Q (.bl true) H'
theorem same_comp {K : PySem.W.Frag} {J : It} {H1 : Hp} {D : Addr} {ds : List PyData} {m : Nat} {x1 x2 : V} {Qd : Hp → Prop} (Z : ZWalk J H1 ds) (nD : H1 D = none) (hlen : ds.length ≤ lim) (hf : fitA ds m = true) (hd : ∀ H, Sm H1 H → H D = some (.lst ((List.replicate ds.length true).map V.bl)) → Qd H) :
    ∃ W : Nat → Nat → Hp → Prop, (∃ m, W 0 m (upd H1 D (.lst []))) ∧ ∀ i m' H, W i m' H → (J.stop i H ∧ Qd H) ∨ (J.go i H ∧ ∃ Nx : Hp → Prop, (∀ H', Nx H' → ∃ m'', m'' < m' ∧ W (i + 1) m'' H') ∧ ∀ x H', J.yld i H x H' → (gTup K 2 (gCons (gName 2) (gCons (gName 3) gNil))) x (wipe [some x1, some x2, none, none] [2, 3]) H' fun σ2 H2 => wipe σ2 [2, 3] = wipe [some x1, some x2, none, none] [2, 3] ∧ tYes σ2 H2 fun b H3 =>
      if b = true then (tCall (spSame (m + 1)) [] E0 (tCons (tVar 2) (tCons (tVar 3) tNil))) σ2 H3 fun y H4 => ∃ acc, H4 D = some (.lst acc) ∧ acc.length < sizeLine ∧ Nx (upd H4 D (.lst (acc ++ [y]))) else Nx H3) := by
  refine lc_walk (n := ds.length) (fun j H2 => Sm H1 H2 ∧ H2 D = some (.lst ((List.replicate j true).map V.bl))) ⟨Sm.new nD, upd_same⟩ (fun j H2 hj h => Z.go _ _ h.1 hj) (fun H2 h => Z.stop _ h.1) ?_ fun H2 h => hd H2 h.1 h.2
  rintro j x H2 H' hj ⟨s, eD⟩ hy
  obtain ⟨T, a, b, d, rfl, nT, rfl, ed, ra, rb⟩ := Z.yld _ _ _ _ s hj hy
  refine ⟨T, _, rfl, SqT.of upd_same, rfl, _, _, rfl, _, _, rfl, rfl, rfl, ?_⟩
  dsimp only [tYes]
  rw [if_pos rfl]
  have sT : Sm H2 (upd H2 T (.tup [a, b])) := Sm.new nT
  refine ⟨_, rfl, _, rfl, a, b, d, rfl, ra.sm sT, rb.sm sT, fitA_at hf ed, fun H3 s3 => ⟨_, s3 _ _ (sT _ _ eD), ?_, ?_, ?_⟩⟩
  · simp
    have := lim_lt
    omega
  · exact fun c o e => by
      rw [upd_ne (ne_of_none e nD)]
      exact s3 _ _ (sT _ _ (s _ _ e))
  · rw [upd_same, List.replicate_succ', List.map_append]
    rfl
section
variable {P : Program} {w : World} {K : PySem.W.Frag} {mg : Str → Option Value} {base : Heap}
theorem sc__law_same : FnScope ["found", "due", "one", "other"] ["found", "due"] (defScope s_law_same) := ⟨rfl, rfl, rfl, by decide +kernel, rfl, by decide +kernel, by decide +kernel⟩
theorem ok__law_same (B : Bt mg) (F0 : Fn K mg d_law_same) : ∀ n, Df P w K mg base CX0 n "_law_same" ["found", "due"] (spSame n)
  | 0 => Df.off F0 fun f fd F => F.bindsN fun _ _ _ _ _ _ us hl => match us, hl with | [_, _], _ => rfl
  | n + 1 => by
    have D1 : Df P w K mg base CX0 n "_law_same" ["found", "due"] (spSame n) := ok__law_same B F0 n
    obtain ⟨f, fd, hm, F⟩ := F0
    refine ⟨f, fd, hm, F.kp, F.bindsN fun _ _ _ _ _ _ us hl => match us, hl with | [_, _], _ => rfl, ?_⟩
    refine F.ok sc__law_same (fun vs H Q E h => by obtain ⟨w, n, N, rfl, _⟩ := h; rfl) (fun cdv A outer s H vs Q E hr h => ?_)
    obtain ⟨u, v, d, rfl, ru, rv, hf, q⟩ := h
    refine ⟨_, PSs.nox (pss_cons (ps_if (pt_val (pe_callB (call_isD kit_dict) (by rfl) B.isinstance (by decide +kernel) (pa_cons (pv 1) (pa_cons (pe_ty "dict" B.dict (by decide +kernel)) pa_nil)))) (pss_one (ps_ret (pe_and (pe_callB (call_isD kit_dict) (by rfl) B.isinstance (by decide +kernel) (pa_cons (pv 0) (pa_cons (pe_ty "dict" B.dict (by decide +kernel)) pa_nil))) (pe_one (pe_df D1 hr pass0 (pa_cons (pe_listItems rfl (pv 0) (by rfl) B.list (by decide +kernel)) (pa_cons (pe_listItems rfl (pv 1) (by rfl) B.list (by decide +kernel)) pa_nil))))))) pss_nil)
      (pss_cons (ps_if (pt_val (pe_callB (call_isD2 kit_list kit_tuple isL_or) (by rfl) B.isinstance (by decide +kernel) (pa_cons (pv 1) (pa_cons (pe_tup (pa_cons (pe_ty "list" B.list (by decide +kernel)) (pa_cons (pe_ty "tuple" B.tuple (by decide +kernel)) pa_nil))) pa_nil)))) (pss_cons (ps_if (PW.pt (pw_or (pt_cmpR op_ne (pe_callB (call_isD kit_list) (by rfl) B.isinstance (by decide +kernel) (pa_cons (pv 0) (pa_cons (pe_ty "list" B.list (by decide +kernel)) pa_nil))) (pe_callB (call_isD kit_list) (by rfl) B.isinstance (by decide +kernel) (pa_cons (pv 1) (pa_cons (pe_ty "list" B.list (by decide +kernel)) pa_nil))) (nomark _)) (pw_or1 (pt_cmpR op_ne (pe_callB (call_isD kit_tuple) (by rfl) B.isinstance (by decide +kernel) (pa_cons (pv 0) (pa_cons (pe_ty "tuple" B.tuple (by decide +kernel)) pa_nil))) (pe_callB (call_isD kit_tuple) (by rfl) B.isinstance (by decide +kernel) (pa_cons (pv 1) (pa_cons (pe_ty "tuple" B.tuple (by decide +kernel)) pa_nil))) (nomark _))))) (pss_one (ps_ret pe_bl)) pss_nil)
      (pss_one (ps_ret (pe_and (pe_cmpR op_eq (pe_callB call_lenS (by rfl) B.len (by decide +kernel) (pa_cons (pv 0) pa_nil)) (pe_callB call_lenS (by rfl) B.len (by decide +kernel) (pa_cons (pv 1) pa_nil)) (nomark _)) (pe_one (pe_callB (cr_all rfl) (by rfl) B.all (by decide +kernel) (pa_cons (pe_lc (own := [("one", 2), ("other", 3)]) (g := gTup K 2 (gCons (gName 2) (gCons (gName 3) gNil))) (tt := tYes) rfl sc__law_same.nd (pi_zipA (by rfl) B.zip (pa_cons (pv 0) (pa_cons (pv 1) pa_nil))) (blkOk_by (own := [("one", 2), ("other", 3)]) (N := ["found", "due", "one", "other"]) (sc := defScope s_law_same) (by decide +kernel)) (fun _ _ _ _ _ => pg_tup rfl (pgs_cons (pg_name (i := 2) sc__law_same.nd rfl (by first | exact Or.inl rfl | exact Or.inr rfl)) (pgs_cons (pg_name (i := 3) sc__law_same.nd rfl (by first | exact Or.inl rfl | exact Or.inr rfl)) pgs_nil))) (fun _ _ _ _ _ => pts_nil) (fun _ _ _ _ _ => (pe_df D1 hr pass0 (pa_cons (pv 2) (pa_cons (pv 3) pa_nil))))) pa_nil))))))) pss_nil)
      (pss_cons (ps_if (PW.pt (pw_or (pt_val (pe_callB (call_isD3 kit_dict kit_list kit_tuple isDL_or) (by rfl) B.isinstance (by decide +kernel) (pa_cons (pv 0) (pa_cons (pe_tup (pa_cons (pe_ty "dict" B.dict (by decide +kernel)) (pa_cons (pe_ty "list" B.list (by decide +kernel)) (pa_cons (pe_ty "tuple" B.tuple (by decide +kernel)) pa_nil)))) pa_nil)))) (pw_or1 (pt_cmpR op_ne (pe_callB (call_isD kit_bool) (by rfl) B.isinstance (by decide +kernel) (pa_cons (pv 0) (pa_cons (pe_ty "bool" B.bool (by decide +kernel)) pa_nil))) (pe_callB (call_isD kit_bool) (by rfl) B.isinstance (by decide +kernel) (pa_cons (pv 1) (pa_cons (pe_ty "bool" B.bool (by decide +kernel)) pa_nil))) (nomark _))))) (pss_one (ps_ret pe_bl)) pss_nil)
      (pss_one (ps_ret (pe_cmpR op_eq (pv 0) (pv 1) (nomark _))))))), ?_⟩
    have sz2 : ([V.ty "list", V.ty "tuple"] : List V).length ≤ sizeLine := by show 2 ≤ sizeLine; decide
    have sz3 : ([V.ty "dict", V.ty "list", V.ty "tuple"] : List V).length ≤ sizeLine := by show 3 ≤ sizeLine; decide
    have neB : ∀ b : Bool, (!decide (V.bl b = V.bl b)) = false := fun b => by simp
    by_cases hD : isDL d = true
    · by_cases hd : isD d = true
      · -- a dict
        obtain ⟨ps, rfl⟩ : ∃ ps, d = .dict ps := by
          cases d with
          | dict ps => exact ⟨ps, rfl⟩
          | _ => cases hd
        simp only [fit, Bool.and_eq_true, decide_eq_true_eq, List.isEmpty_iff] at hf
        obtain ⟨h2, rfl⟩ := hf
        obtain ⟨m, rfl⟩ : ∃ m, n = m + 1 := ⟨n - 1, by omega⟩
        cases ru with
        | dct _ ea ka =>
        cases rv with
        | dct _ eb kb =>
        cases ka
        cases kb
        refine ⟨_, rfl, _, .dict [], rfl, .dct trivial eb .nil, _, rfl, iteT ⟨_, rfl, _, .dict [], rfl, .dct trivial ea .nil, _, rfl, iteT ?_⟩⟩
        refine ⟨_, rfl, _, [], rfl, ea, fun G1 p1 t1 s1 n1 _ _ e1 pr1 => ?_⟩
        cases pr1
        refine ⟨_, rfl, _, [], rfl, s1 _ _ eb, fun G2 p2 t2 s2 n2 _ _ e2 pr2 => ?_⟩
        cases pr2
        refine ⟨_, _, .list [], rfl, .lst trivial (s2 _ _ e1) .nil, .lst trivial e2 .nil, ?_, fun H' s3 => q H' (Sm.trans (Sm.trans s1 s2) s3)⟩
        simp only [fit, fitA, Bool.and_eq_true, decide_eq_true_eq]
        exact ⟨⟨by omega, by show 0 ≤ lim; decide⟩, trivial⟩
      · have hL : isL d = true := by
          cases d with
          | dict _ => exact absurd rfl hd
          | list _ => rfl
          | tuple _ => rfl
          | _ => cases hD
        refine ⟨_, rfl, v, d, rfl, rv, _, rfl, ite2 (fun z => absurd z hd) (fun _ => ?_)⟩
        refine ⟨_, rfl, sz2, fun p1 np1 => ⟨v, p1, d, rfl, upd_same, rv.sm (Sm.new np1), _, rfl, ite2 (fun _ => ?_) (fun z => absurd hL z)⟩⟩
        have ru1 := ru.sm (Sm.new (o := .tup [.ty "list", .ty "tuple"]) np1)
        have rv1 := rv.sm (Sm.new (o := .tup [.ty "list", .ty "tuple"]) np1)
        refine ⟨_, rfl, u, d, rfl, ru1, _, rfl, v, d, rfl, rv1, rfl, _, rfl, ?_⟩
        rw [neB]
        refine iteF ⟨_, rfl, u, d, rfl, ru1, _, rfl, v, d, rfl, rv1, rfl, _, rfl, ?_⟩
        rw [neB]
        refine iteF ?_
        obtain ⟨hn1, hlen, hfA⟩ := fit_its hf hL
        obtain ⟨m, rfl⟩ : ∃ m, n = m + 1 := ⟨n - 1, by omega⟩
        generalize hH1 : upd H p1 (.tup [V.ty "list", V.ty "tuple"]) = H1 at ru1 rv1
        have s1 : Sm H H1 := by
          rw [← hH1]
          exact Sm.new np1
        refine ⟨_, rfl, u, d, rfl, ru1, hL, _, rfl, v, d, rfl, rv1, hL, rfl, _, rfl, ite2 (fun _ => ?_) (fun z => absurd (decide_eq_true rfl) z)⟩
        have hall : (List.replicate (its d).length true).all id = true := by simp
        cases d with
        | list ds =>
          cases ru1 with
          | lst _ ea ra =>
          cases rv1 with
          | lst _ eb rb =>
          refine ⟨_, rfl, _, rfl, _, _, _, _, rfl, .inl ⟨SqL.of ea, SqL.of eb, fun D nD => same_comp (.lists ea eb ra rb) nD hlen hfA fun H2 s2 e2 => ?_⟩⟩
          refine ⟨D, List.replicate ds.length true, rfl, SqL.of e2, ?_⟩
          show Q (.bl ((List.replicate ds.length true).all id)) H2
          rw [show (List.replicate ds.length true).all id = true from hall]
          exact q H2 (s1.trans s2)
        | tuple ds =>
          cases ru1 with
          | tup ea ra =>
          cases rv1 with
          | tup eb rb =>
          refine ⟨_, rfl, _, rfl, _, _, _, _, rfl, .inr ⟨SqT.of ea, SqT.of eb, fun D nD => same_comp (.tups ea eb ra rb) nD hlen hfA fun H2 s2 e2 => ?_⟩⟩
          refine ⟨D, List.replicate ds.length true, rfl, SqL.of e2, ?_⟩
          show Q (.bl ((List.replicate ds.length true).all id)) H2
          rw [show (List.replicate ds.length true).all id = true from hall]
          exact q H2 (s1.trans s2)
        | _ => cases hL
    · have hd : ¬ isD d = true := fun z => hD (by cases d <;> first | rfl | cases z)
      have hl : ¬ isL d = true := fun z => hD (by cases d <;> first | rfl | cases z)
      have e : u = v ∧ scal u v = true := by
        cases d with
        | none =>
          cases ru
          cases rv
          exact ⟨rfl, rfl⟩
        | bool b =>
          cases ru
          cases rv
          exact ⟨rfl, rfl⟩
        | int i =>
          cases ru
          cases rv
          exact ⟨rfl, rfl⟩
        | str x =>
          cases ru
          cases rv
          exact ⟨rfl, rfl⟩
        | _ => exact absurd rfl hD
      obtain ⟨rfl, hs⟩ := e
      refine ⟨_, rfl, u, d, rfl, rv, _, rfl, ite2 (fun z => absurd z hd) (fun _ => ?_)⟩
      refine ⟨_, rfl, sz2, fun p1 np1 => ⟨u, p1, d, rfl, upd_same, rv.sm (Sm.new np1), _, rfl, ite2 (fun z => absurd z hl) (fun _ => ?_)⟩⟩
      refine ⟨_, rfl, sz3, fun p2 np2 => ⟨u, p2, d, rfl, upd_same, (rv.sm (Sm.new np1)).sm (Sm.new np2), _, rfl, ite2 (fun z => absurd z hD) (fun _ => ?_)⟩⟩
      have ru2 := (rv.sm (Sm.new (o := .tup [.ty "list", .ty "tuple"]) np1)).sm (Sm.new (o := .tup [.ty "dict", .ty "list", .ty "tuple"]) np2)
      refine ⟨_, rfl, u, d, rfl, ru2, _, rfl, u, d, rfl, ru2, rfl, _, rfl, ?_⟩
      rw [neB]
      refine iteF ⟨_, rfl, _, rfl, hs, ?_⟩
      have := q _ ((Sm.new (o := .tup [.ty "list", .ty "tuple"]) np1).trans (Sm.new (o := .tup [.ty "dict", .ty "list", .ty "tuple"]) np2))
      rw [decide_eq_true rfl]
      exact this
end
end K8

namespace K8
open PySem PySem.Spec PyProof.Rows L2 WR
/-- a short text of known signs -/
def okStr (x : Str) : Bool := decide (x.length ≤ 12) && x.cps.toList.all fun c => decide (c < 4294967296)
/-- a dict of one text and one number -/
def okOne : List (PyData × PyData) → Bool
  | [(.str x, .int i)] => okStr x && decide (i.natAbs.log2 < 100)
  | _ => false
/-- so long a list may be, n levels from it on -/
def capT (n : Nat) : Nat := if n ≤ 2 then 8 else 40
theorem cap_le (n : Nat) : capT n ≤ 40 := by
  unfold capT
  split <;> omega
theorem cap_ge (n : Nat) : 8 ≤ capT n := by
  unfold capT
  split <;> omega
theorem cap_mono {n m : Nat} (h : n ≤ m) : capT n ≤ capT m := by
  unfold capT
  split <;> split <;> omega
mutual
/-- no deeper than n, no longer than it may be -/
def tame (b : Bool) : PyData → Nat → Bool
  | .list xs, n => decide (1 ≤ n) && decide (xs.length ≤ capT n) && tameA b xs (n - 1)
  | .tuple xs, n => decide (1 ≤ n) && decide (xs.length ≤ capT n) && tameA b xs (n - 1)
  | .dict ps, n => decide (2 ≤ n) && (ps.isEmpty || (b && okOne ps))
  | .str x, _ => okStr x
  | .int i, _ => decide (i.natAbs.log2 < 100)
  | .bool _, _ => true
  | .none, _ => true
def tameA (b : Bool) : List PyData → Nat → Bool
  | [], _ => true
  | d :: ds, n => tame b d n && tameA b ds n
end
theorem tameA_at {b : Bool} : ∀ {ds : List PyData} {n i : Nat} {d : PyData}, tameA b ds n = true → ds[i]? = some d → tame b d n = true
  | [], n, i, d, _, e => by simp at e
  | x :: xs, n, 0, d, h, e => by
    simp only [tameA, Bool.and_eq_true] at h
    simp at e
    rw [← e]
    exact h.1
  | x :: xs, n, i + 1, d, h, e => by
    simp only [tameA, Bool.and_eq_true] at h
    exact tameA_at h.2 (by simpa using e)
theorem tame_its {b : Bool} {d : PyData} {n : Nat} (h : tame b d n = true) (hL : isL d = true) : 1 ≤ n ∧ (its d).length ≤ 40 ∧ tameA b (its d) (n - 1) = true := by
  cases d with
  | list xs =>
    simp only [tame, Bool.and_eq_true, decide_eq_true_eq] at h
    exact ⟨h.1.1, Nat.le_trans h.1.2 (cap_le n), h.2⟩
  | tuple xs =>
    simp only [tame, Bool.and_eq_true, decide_eq_true_eq] at h
    exact ⟨h.1.1, Nat.le_trans h.1.2 (cap_le n), h.2⟩
  | _ => cases hL
mutual
inductive Lo : PyData → PyData → Prop
  | same {d : PyData} : isDL d = false → Lo d d
  | dct {ps : List (PyData × PyData)} : Lo (.dict ps) (.dict ps)
  | ll {xs ys : List PyData} : LoA xs ys → Lo (.list xs) (.list ys)
  | lt {xs ys : List PyData} : LoA xs ys → Lo (.list xs) (.tuple ys)
  | tl {xs ys : List PyData} : LoA xs ys → Lo (.tuple xs) (.list ys)
  | tt {xs ys : List PyData} : LoA xs ys → Lo (.tuple xs) (.tuple ys)
inductive LoA : List PyData → List PyData → Prop
  | nil : LoA [] []
  | cons {d e : PyData} {ds es : List PyData} : Lo d e → LoA ds es → LoA (d :: ds) (e :: es)
end
theorem All2.lo : ∀ {ds es : List PyData}, All2 Lo ds es → LoA ds es
  | _, _, .nil => .nil
  | _, _, .cons a t => .cons a t.lo
theorem Lo.list {d : PyData} {ys : List PyData} (h : isL d = true) (a : LoA (its d) ys) : Lo d (.list ys) := by
  cases d with
  | list _ => exact .ll a
  | tuple _ => exact .tl a
  | _ => cases h
theorem Lo.tuple {d : PyData} {ys : List PyData} (h : isL d = true) (a : LoA (its d) ys) : Lo d (.tuple ys) := by
  cases d with
  | list _ => exact .lt a
  | tuple _ => exact .tt a
  | _ => cases h
/-- what did not stand in H -/
def NwA (H : Hp) : Addr → Prop := fun a => H a = none
def spLoose : Nat → Sp
  | 0 => fun _ _ _ _ => False
  | n + 1 => fun vs H Q _ => ∃ (w : Addr) (m : Nat) (N : Addr → Prop) (v : V) (d : PyData), vs = [.ref w, v] ∧ Off w N ∧ Wl H w m ∧ m + 41 ^ n + 5000 < top0 ∧ Dr N H v d ∧ tame true d n = true ∧
    ∀ u e H', Gw w H H' → Wl H' w (m + 41 ^ n) → Dr (NwA H) H' u e → Lo d e → Q u H'
theorem dk_keys {N : Addr → Prop} {H : Hp} : ∀ {ps : List (PyData × PyData)} {kvs : List (Key × V)}, DrK N H kvs ps → DrA (fun _ => False) H (kvs.map fun kv => kV kv.1) (ps.map (·.1))
  | _, _, .nil => .nil
  | _, _, .cons r t => .cons (.str _) (dk_keys t)
end K8

namespace K8
open PySem PySem.Spec PyProof.Rows L2 WR
/-! ### what is the caller's alone: its lists, each once -/
mutual
inductive Ow (H : Hp) : V → PyData → List Addr → Prop
  | non : Ow H .non .none []
  | bl (b : Bool) : Ow H (.bl b) (.bool b) []
  | int (i : Int) : Ow H (.int i) (.int i) []
  | str (x : Str) : Ow H (.str x) (.str x) []
  | lst {a : Addr} {xs : List V} {ds : List PyData} {fs : List (List Addr)} : H a = some (.lst xs) → OwA H xs ds fs → Ow H (.ref a) (.list ds) (a :: fs.flatten)
  | tup {a : Addr} {xs : List V} {ds : List PyData} {fs : List (List Addr)} : H a = some (.tup xs) → OwA H xs ds fs → Ow H (.ref a) (.tuple ds) fs.flatten
inductive OwA (H : Hp) : List V → List PyData → List (List Addr) → Prop
  | nil : OwA H [] [] []
  | cons {v : V} {vs : List V} {d : PyData} {ds : List PyData} {f : List Addr} {fs : List (List Addr)} : Ow H v d f → OwA H vs ds fs → OwA H (v :: vs) (d :: ds) (f :: fs)
end
mutual
theorem Ow.dr {H : Hp} : ∀ {d : PyData} {v : V} {f : List Addr}, Ow H v d f → Dr All H v d
  | _, _, _, .non => .non
  | _, _, _, .bl b => .bl b
  | _, _, _, .int i => .int i
  | _, _, _, .str x => .str x
  | _, _, _, .lst e r => .lst trivial e (OwA.dr r)
  | _, _, _, .tup e r => .tup e (OwA.dr r)
theorem OwA.dr {H : Hp} : ∀ {ds : List PyData} {vs : List V} {fs : List (List Addr)}, OwA H vs ds fs → DrA All H vs ds
  | _, _, _, .nil => .nil
  | _, _, _, .cons r t => .cons (Ow.dr r) (OwA.dr t)
end
mutual
theorem Ow.keep {H H' : Hp} (ht : ∀ a xs, H a = some (.tup xs) → H' a = some (.tup xs)) : ∀ {d : PyData} {v : V} {f : List Addr}, Ow H v d f → (∀ b ∈ f, ∀ o, H b = some o → H' b = some o) → Ow H' v d f
  | _, _, _, .non, _ => .non
  | _, _, _, .bl b, _ => .bl b
  | _, _, _, .int i, _ => .int i
  | _, _, _, .str x, _ => .str x
  | _, _, _, .lst e r, k => .lst (k _ (List.mem_cons_self ..) _ e) (OwA.keep ht r fun b hb => k b (List.mem_cons_of_mem _ hb))
  | _, _, _, .tup e r, k => .tup (ht _ _ e) (OwA.keep ht r k)
theorem OwA.keep {H H' : Hp} (ht : ∀ a xs, H a = some (.tup xs) → H' a = some (.tup xs)) : ∀ {ds : List PyData} {vs : List V} {fs : List (List Addr)}, OwA H vs ds fs → (∀ b ∈ fs.flatten, ∀ o, H b = some o → H' b = some o) → OwA H' vs ds fs
  | _, _, _, .nil, _ => .nil
  | _, _, _, .cons r t, k => .cons (Ow.keep ht r fun b hb => k b (by simp only [List.flatten_cons, List.mem_append]; exact .inl hb)) (OwA.keep ht t fun b hb => k b (by simp only [List.flatten_cons, List.mem_append]; exact .inr hb))
end
mutual
/-- what it owns are lists -/
theorem Ow.lists {H : Hp} : ∀ {d : PyData} {v : V} {f : List Addr}, Ow H v d f → ∀ b ∈ f, ∃ xs, H b = some (.lst xs)
  | _, _, _, .non, b, hb => by cases hb
  | _, _, _, .bl _, b, hb => by cases hb
  | _, _, _, .int _, b, hb => by cases hb
  | _, _, _, .str _, b, hb => by cases hb
  | _, _, _, .lst e r, b, hb => by
    rcases List.mem_cons.mp hb with z | z
    · rw [z]
      exact ⟨_, e⟩
    · exact OwA.lists r b z
  | _, _, _, .tup e r, b, hb => OwA.lists r b hb
theorem OwA.lists {H : Hp} : ∀ {ds : List PyData} {vs : List V} {fs : List (List Addr)}, OwA H vs ds fs → ∀ b ∈ fs.flatten, ∃ xs, H b = some (.lst xs)
  | _, _, _, .nil, b, hb => by cases hb
  | _, _, _, .cons r t, b, hb => by
    simp only [List.flatten_cons, List.mem_append] at hb
    rcases hb with z | z
    · exact Ow.lists r b z
    · exact OwA.lists t b z
end
theorem OwA.get {H : Hp} : ∀ {ds : List PyData} {vs : List V} {fs : List (List Addr)} {i : Nat} {v : V}, OwA H vs ds fs → vs[i]? = some v → ∃ d f, ds[i]? = some d ∧ fs[i]? = some f ∧ Ow H v d f
  | _, _, _, i, v, .nil, e => by simp at e
  | _, _, _, 0, v, .cons r t, e => by
    simp at e
    subst e
    exact ⟨_, _, rfl, rfl, r⟩
  | _, _, _, i + 1, v, .cons r t, e => by
    obtain ⟨d, f, h1, h2, h3⟩ := OwA.get (i := i) (v := v) t (by simpa using e)
    exact ⟨d, f, by simpa using h1, by simpa using h2, h3⟩
theorem OwA.lenF {H : Hp} : ∀ {ds : List PyData} {vs : List V} {fs : List (List Addr)}, OwA H vs ds fs → vs.length = ds.length ∧ vs.length = fs.length
  | _, _, _, .nil => ⟨rfl, rfl⟩
  | _, _, _, .cons _ t => ⟨by simp [(OwA.lenF t).1], by simp [(OwA.lenF t).2]⟩
theorem flat_take {fs : List (List Addr)} {i : Nat} {f : List Addr} (e : fs[i]? = some f) : (fs.take (i + 1)).flatten = (fs.take i).flatten ++ f := by
  rw [List.take_succ, e]
  simp
theorem flat_apart {fs : List (List Addr)} {i : Nat} {f : List Addr} (e : fs[i]? = some f) (nd : fs.flatten.Nodup) : f.Nodup ∧ ∀ b ∈ f, b ∉ (fs.take i).flatten := by
  obtain ⟨hi, e'⟩ := List.getElem?_eq_some_iff.mp e
  have ed : fs.drop i = f :: fs.drop (i + 1) := by rw [List.drop_eq_getElem_cons hi, e']
  have ea : fs.flatten = (fs.take i).flatten ++ (f ++ (fs.drop (i + 1)).flatten) := by
    conv => lhs; rw [← List.take_append_drop i fs]
    rw [List.flatten_append, ed, List.flatten_cons]
  rw [ea] at nd
  obtain ⟨_, n2, n3⟩ := List.nodup_append.mp nd
  obtain ⟨n4, _, _⟩ := List.nodup_append.mp n2
  exact ⟨n4, fun b hb hc => n3 b hc b (List.mem_append_left _ hb) rfl⟩
theorem flat_sub {fs : List (List Addr)} {i : Nat} {b : Addr} (h : b ∈ (fs.take i).flatten) : b ∈ fs.flatten := by
  rw [← List.take_append_drop i fs, List.flatten_append]
  exact List.mem_append_left _ h
section
variable {X : Cx}
/-- isinstance(x, c) by x's type alone -/
def rIsTy (K : PySem.W.Frag) (c : String) (f : PyData → Bool) : List V → Hp → VK → Prop := fun xs H Q => ∃ x d, xs = [x, .ty c] ∧ TyX K H x (.type (tyD d)) ∧ Q (.bl (f d)) H
theorem call_isTy {c : String} {f : PyData → Bool} (hc : ∀ d, kitB (tyD d) c = some (f d)) : CallR X (.builtin "isinstance") (rIsTy X.K c f) := by
  intro pins s σ H xs us Q I r h
  obtain ⟨x, d, rfl, hd, q⟩ := h
  exact call_isi pins s σ H _ us Q I r ⟨x, .ty c, _, _, _, rfl, .ty c, hd, kit_ty (hc d), q⟩
end
/-- all but what is in f stays -/
def Bt1 (f : List Addr) (H H' : Hp) : Prop := ∀ b o, b ∉ f → H b = some o → H' b = some o
def spPoil : Nat → Sp
  | 0 => fun _ _ _ _ => False
  | n + 1 => fun vs H Q _ => ∃ (v : V) (d : PyData) (f : List Addr), vs = [v] ∧ Ow H v d f ∧ f.Nodup ∧ fit d n = true ∧ ∀ H', Bt1 f H H' → Q .non H'
section
variable {P : Program} {w : World} {K : PySem.W.Frag} {mg : Str → Option Value} {base : Heap}
theorem sc__law_spoiled : FnScope ["thing", "key", "part"] ["thing"] (defScope s_law_spoiled) := ⟨rfl, rfl, rfl, by decide +kernel, rfl, by decide +kernel, by decide +kernel⟩
theorem ok__law_spoiled (B : Bt mg) (F0 : Fn K mg d_law_spoiled) : ∀ n, Df P w K mg base CX0 n "_law_spoiled" ["thing"] (spPoil n)
  | 0 => Df.off F0 fun f fd F => F.bindsN fun _ _ _ _ _ _ us hl => match us, hl with | [_], _ => rfl
  | n + 1 => by
    have D1 : Df P w K mg base CX0 n "_law_spoiled" ["thing"] (spPoil n) := ok__law_spoiled B F0 n
    obtain ⟨f, fd, hm, F⟩ := F0
    refine ⟨f, fd, hm, F.kp, F.bindsN fun _ _ _ _ _ _ us hl => match us, hl with | [_], _ => rfl, ?_⟩
    refine F.ok sc__law_spoiled (fun vs H Q E h => by obtain ⟨v, d, f, rfl, _⟩ := h; rfl) (fun cdv A outer s H vs Q E hr h => ?_)
    obtain ⟨v, d, fp, rfl, ow, nd, hf, q⟩ := h
    have hu := hu_of hr
    refine ⟨_, PSs.nox (pss_one (ps_if (pt_val (pe_callB (call_isD kit_dict) (by rfl) B.isinstance (by decide +kernel) (pa_cons (pv 0) (pa_cons (pe_ty "dict" B.dict (by decide +kernel)) pa_nil)))) (pss_cons (ps_for PassesOwn.never rfl (pi_seq (pe_callTy (call_listD rfl) (by rfl) B.list (by decide +kernel) (pa_cons (pv 0) pa_nil))) (pg_name (i := 1) sc__law_spoiled.nd rfl (by first | exact Or.inl rfl | exact Or.inr rfl)) (pss_one (ps_expr (pe_df D1 hr pass0 (pa_cons (pe_dget hu (pv 0) (pv 1) (fun _ _ => rfl)) pa_nil)))))
      (pss_one (ps_asg pe_str (pg_sub (pv 0) pe_str (set_dict hu))))) (pss_one (ps_if (pt_val (pe_callB (call_isD2 kit_list kit_tuple isL_or) (by rfl) B.isinstance (by decide +kernel) (pa_cons (pv 0) (pa_cons (pe_tup (pa_cons (pe_ty "list" B.list (by decide +kernel)) (pa_cons (pe_ty "tuple" B.tuple (by decide +kernel)) pa_nil))) pa_nil)))) (pss_cons (ps_for PassesOwn.never rfl (pi_seq (pv 0)) (pg_name (i := 2) sc__law_spoiled.nd rfl (by first | exact Or.inl rfl | exact Or.inr rfl)) (pss_one (ps_expr (pe_df D1 hr pass0 (pa_cons (pv 2) pa_nil)))))
      (pss_one (ps_if (pt_val (pe_callB (call_isTy kit_list) (by rfl) B.isinstance (by decide +kernel) (pa_cons (pv 0) (pa_cons (pe_ty "list" B.list (by decide +kernel)) pa_nil)))) (pss_one (ps_expr (pe_bm PySem.F.plainAttrs_list PySem.F.slot_list_append PySem.F.type_list_append mt_append (pv 0) (pa_cons pe_str pa_nil)))) pss_nil))) pss_nil)))), ?_⟩
    have rd := ow.dr
    have sz2 : ([V.ty "list", V.ty "tuple"] : List V).length ≤ sizeLine := by show 2 ≤ sizeLine; decide
    have hnd : ¬ isD d = true := fun z => by cases ow <;> cases z
    refine ⟨_, rfl, v, d, rfl, rd, _, rfl, ite2 (fun z => absurd z hnd) (fun _ => ?_)⟩
    refine ⟨_, rfl, sz2, fun p1 np1 => ⟨v, p1, d, rfl, upd_same, rd.sm (Sm.new np1), _, rfl, ite2 (fun hL => ?_) (fun _ => ?_)⟩⟩
    · have hL' : isL d = true := hL
      have s1 : Sm H (upd H p1 (.tup [V.ty "list", V.ty "tuple"])) := Sm.new np1
      generalize hH1 : upd H p1 (.tup [V.ty "list", V.ty "tuple"]) = H1 at s1
      obtain ⟨hn1, hlen, hfA⟩ := fit_its hf hL'
      obtain ⟨m, rfl⟩ : ∃ m, n = m + 1 := ⟨n - 1, by omega⟩
      have hsl := lim_lt
      have bt1 : ∀ {f : List Addr} {H2 : Hp}, Bt1 f H1 H2 → Bt1 f H H2 := fun k b o hb e => k b o hb (s1 b o e)
      have loop : ∀ (a : Addr) (xs : List V) (ds : List PyData) (fs : List (List Addr)) (D : Ends), (H1 a = some (.lst xs) ∨ H1 a = some (.tup xs)) → OwA H1 xs ds fs → fs.flatten.Nodup → a ∉ fs.flatten → ds.length ≤ lim → fitA ds m = true →
          (∀ x H2, Bt1 fs.flatten H1 H2 → D.nx [some (.ref a), none, x] H2) → ∀ J, ItS K H1 a xs J →
          ∃ W : Nat → Nat → L2.St → Hp → Prop, (∃ m, W 0 m [some (.ref a), none, none] H1) ∧ ∀ i m' σ H2, W i m' σ H2 →
            (J.stop i H2 ∧ D.nx σ H2) ∨ (J.go i H2 ∧ ∃ N : L2.St → Hp → Prop, (∀ σ' H', N σ' H' → ∃ m'', m'' < m' ∧ W (i + 1) m'' σ' H') ∧ ∀ x H', J.yld i H2 x H' → gName 2 x σ H' fun σ2 H3 => (tDrop (tCall (spPoil (m + 1)) [] E0 (tCons (tVar 2) tNil))) { D with nx := N, ct := N, bk := D.nx } σ2 H3) := by
        intro a xs ds fs D ha oa ndf naf hl hfd hd J hJ
        have tups : ∀ {i : Nat} {H2 : Hp}, Bt1 (fs.take i).flatten H1 H2 → ∀ b ys, H1 b = some (.tup ys) → H2 b = some (.tup ys) := fun {i H2} k b ys e => k b _ (fun z => by
          obtain ⟨zs, ez⟩ := oa.lists b (flat_sub z)
          rw [e] at ez
          cases ez) e
        refine for_seq hJ (fun i σ H2 => ∃ x, σ = [some (.ref a), none, x] ∧ Bt1 (fs.take i).flatten H1 H2) ⟨none, rfl, fun b o _ e => e⟩ ?_ ?_ ?_
        · rintro i σ H2 _ ⟨x, _, k⟩
          rcases ha with e | e
          · rw [e]
            exact k a _ (fun z => naf (flat_sub z)) e
          · rw [e]
            exact k a _ (fun z => naf (flat_sub z)) e
        · rintro i x σ H2 hx ⟨x0, rfl, k⟩
          obtain ⟨d1, f1, e1, e2, o1⟩ := oa.get hx
          obtain ⟨nd1, ap1⟩ := flat_apart e2 ndf
          have o2 : Ow H2 x d1 f1 := o1.keep (tups k) fun b hb o e => k b o (ap1 b hb) e
          refine ⟨_, rfl, x, d1, f1, rfl, o2, nd1, fitA_at hfd e1, fun H3 k3 => ⟨some x, rfl, fun b o hb e => ?_⟩⟩
          rw [flat_take e2] at hb
          exact k3 b o (fun z => hb (List.mem_append_right _ z)) (k b o (fun z => hb (List.mem_append_left _ z)) e)
        · rintro σ H2 ⟨x, rfl, k⟩
          refine hd x H2 ?_
          rw [oa.lenF.2, List.take_length] at k
          exact k
      have ow1 : Ow H1 v d fp := ow.keep (fun a xs e => s1 a _ e) fun b _ o e => s1 b o e
      cases ow1 with
      | @lst a xs ds fs ea oa =>
        have nd' := List.nodup_cons.mp nd
        refine ⟨_, rfl, a, xs, rfl, .inl ea, fun J hJ => ?_⟩
        refine loop a xs ds fs _ (.inl ea) oa nd'.2 nd'.1 hlen hfA (fun x H2 k => ?_) J hJ
        have e2 : H2 a = some (.lst xs) := k a _ nd'.1 ea
        refine ⟨_, rfl, .ref a, .list [], rfl, .base (.lst e2), _, rfl, iteT ?_⟩
        have lx : xs.length = ds.length := oa.lenF.1
        have hl : ds.length ≤ lim := hlen
        refine ⟨_, rfl, .inl ⟨rfl, xs, SqL.of e2⟩, a, _, _, rfl, rfl, e2, by omega, ?_⟩
        refine q _ fun b o hb e => ?_
        rw [upd_ne (fun z => hb (by rw [z]; exact List.mem_cons_self ..))]
        exact k b o (fun z => hb (List.mem_cons_of_mem _ z)) (s1 b o e)
      | @tup a xs ds fs ea oa =>
        have na : a ∉ fs.flatten := fun z => by
          obtain ⟨zs, ez⟩ := oa.lists a z
          rw [ea] at ez
          cases ez
        refine ⟨_, rfl, a, xs, rfl, .inr ea, fun J hJ => ?_⟩
        refine loop a xs ds fs _ (.inr ea) oa nd na hlen hfA (fun x H2 k => ?_) J hJ
        have e2 : H2 a = some (.tup xs) := k a _ na ea
        refine ⟨_, rfl, .ref a, .tuple [], rfl, .base (.tup e2), _, rfl, iteF ?_⟩
        exact q _ fun b o hb e => k b o hb (s1 b o e)
      | _ => cases hL'
    · exact q _ (fun b o _ e => Sm.new np1 b o e)
end
end K8

/-! Webs, places, sizes: what is shared. -/
namespace K8
open PySem PySem.Spec PyProof.Rows L2 WR
theorem ei_ma : ¬ (("either" : Str) = "made" ∨ ("either" : Str) = "asked") := by decide +kernel
def Row.small : Row → Prop
  | .made _ ks => ks.length ≤ 3 ∧ ∀ k ∈ ks, k ≤ 100
  | .asked _ ks => ks.length ≤ 3 ∧ ∀ k ∈ ks, k ≤ 100
  | .either a i j => a ≤ 100 ∧ i ≤ 100 ∧ j ≤ 100
  | .given k => k ≤ 100
theorem gv_ma : ¬ (("given" : Str) = "made" ∨ ("given" : Str) = "asked") := by decide +kernel
theorem gv_ei : ¬ (("given" : Str) = "either") := by decide +kernel
/-! ### webs -/
/-- these rows are a web -/
structure Web (R : List Row) : Prop where
  ok : ∀ r ∈ R, r.ok
  fit : ∀ i (h : i < R.length), why (R.take i) R[i] = none ∧ R[i] ∉ R.take i
theorem Web.nil : Web [] := ⟨(fun _ h => nomatch h), fun i h => absurd h (Nat.not_lt_zero i)⟩
theorem Web.snoc {R : List Row} {r : Row} (W : Web R) (h1 : r.ok) (h2 : why R r = none) (h3 : r ∉ R) : Web (R ++ [r]) := by
  refine ⟨fun s hs => ?_, fun i h => ?_⟩
  · rcases List.mem_append.mp hs with hs | hs
    · exact W.ok s hs
    · rw [List.mem_singleton.mp hs]
      exact h1
  · by_cases hi : i < R.length
    · have e1 : (R ++ [r])[i] = R[i] := List.getElem_append_left hi
      have e2 : (R ++ [r]).take i = R.take i := List.take_append_of_le_length (by omega)
      rw [e1, e2]
      exact W.fit i hi
    · have e : i = R.length := by simp at h; omega
      subst e
      have e1 : (R ++ [r])[R.length] = r := by simp
      have e2 : (R ++ [r]).take R.length = R := by simp
      rw [e1, e2]
      exact ⟨h2, h3⟩
theorem nums_all (ks : List Nat) : (nums ks).all isNum = true := by
  rw [List.all_eq_true]
  intro d hd
  obtain ⟨k, _, rfl⟩ := List.mem_map.mp hd
  exact decide_eq_true (Int.natCast_nonneg k)
theorem rowForm_d {r : Row} (h : r.ok) : rowForm r.d = r.d := by
  cases r with
  | made n ks =>
    have e2 : (isName (.str n) && areNums (.tuple (nums ks))) = true := by
      rw [h.1, Bool.true_and]
      exact nums_all ks
    unfold rowForm
    rw [if_pos ⟨rfl, by simp [Row.d, its], rfl⟩]
    unfold rowForm2
    rw [if_pos ⟨.inl rfl, rfl⟩]
    exact if_pos e2
  | asked n ks =>
    have e2 : (isName (.str n) && areNums (.tuple (nums ks))) = true := by
      rw [h.1, Bool.true_and]
      exact nums_all ks
    unfold rowForm
    rw [if_pos ⟨rfl, by simp [Row.d, its], rfl⟩]
    unfold rowForm2
    rw [if_pos ⟨.inr rfl, rfl⟩]
    exact if_pos e2
  | either a i j =>
    unfold rowForm
    rw [if_pos ⟨rfl, by simp [Row.d, its], rfl⟩]
    unfold rowForm2
    rw [if_neg (fun z => ei_ma z.1), if_pos ⟨rfl, rfl, nums_all [a, i, j]⟩]
    rfl
  | given k =>
    unfold rowForm
    rw [if_pos ⟨rfl, by simp [Row.d, its], rfl⟩]
    unfold rowForm2
    rw [if_neg (fun z => gv_ma z.1), if_neg (fun z => gv_ei z.1), if_pos ⟨rfl, rfl, nums_all [k]⟩]
    rfl
theorem Web.scanFrom {R : List Row} (W : Web R) : ∀ (m i : Nat), m + i = R.length → Scan (R.take i) i ((R.drop i).map Row.d) R .none
  | 0, i, e => by
    have e' : i = R.length := by omega
    subst e'
    rw [List.take_length, List.drop_length]
    exact .done
  | m + 1, i, e => by
    have hi : i < R.length := by omega
    rw [List.drop_eq_getElem_cons hi, List.map_cons]
    have ih := W.scanFrom m (i + 1) (by omega)
    have et : R.take (i + 1) = R.take i ++ [R[i]] := by rw [List.take_succ, List.getElem?_eq_getElem hi]; rfl
    rw [et] at ih
    exact .next (rowForm_d (W.ok _ (List.getElem_mem hi))) (W.fit i hi).1 (W.fit i hi).2 ih
theorem Web.scan {R : List Row} (W : Web R) : ScanOf (rowsD R) R .none := .inl ⟨rfl, W.scanFrom R.length 0 (by omega)⟩
mutual
theorem tame_fit : ∀ {d : PyData} {n : Nat}, tame false d n = true → fit d n = true
  | .list xs, n, t => by
    simp only [tame, Bool.and_eq_true, decide_eq_true_eq] at t
    simp only [fit, Bool.and_eq_true, decide_eq_true_eq]
    exact ⟨⟨t.1.1, Nat.le_trans t.1.2 (Nat.le_trans (cap_le n) (by decide))⟩, tameA_fit t.2⟩
  | .tuple xs, n, t => by
    simp only [tame, Bool.and_eq_true, decide_eq_true_eq] at t
    simp only [fit, Bool.and_eq_true, decide_eq_true_eq]
    exact ⟨⟨t.1.1, Nat.le_trans t.1.2 (Nat.le_trans (cap_le n) (by decide))⟩, tameA_fit t.2⟩
  | .dict ps, n, t => by
    simp only [tame, Bool.and_eq_true, decide_eq_true_eq, Bool.false_and, Bool.or_false] at t
    simp only [fit, Bool.and_eq_true, decide_eq_true_eq]
    exact t
  | .str x, n, t => by
    simp only [tame, okStr, Bool.and_eq_true, decide_eq_true_eq] at t
    simp only [fit, decide_eq_true_eq]
    have l : lim = 4000 := rfl
    omega
  | .int i, n, t => by
    simp only [tame, decide_eq_true_eq] at t
    simp only [fit, decide_eq_true_eq]
    omega
  | .bool _, _, _ => rfl
  | .none, _, _ => rfl
theorem tameA_fit : ∀ {ds : List PyData} {n : Nat}, tameA false ds n = true → fitA ds n = true
  | [], _, _ => rfl
  | d :: ds, n, t => by
    simp only [tameA, Bool.and_eq_true] at t
    simp only [fitA, Bool.and_eq_true]
    exact ⟨tame_fit t.1, tameA_fit t.2⟩
end
theorem fitA_app {n : Nat} : ∀ {ds es : List PyData}, fitA ds n = true → fitA es n = true → fitA (ds ++ es) n = true
  | [], _, _, h => h
  | d :: ds, es, h, k => by
    simp only [fitA, List.cons_append, Bool.and_eq_true] at h ⊢
    exact ⟨h.1, fitA_app h.2 k⟩
/-- the tables stay where a list alone was written -/
theorem placeOf_at {R : List Row} {r : Row} : ∀ {S : List Row} {n k : Nat}, placeOf S r n = some k → ∃ j, k = n + j ∧ S[j]? = some r ∧ ∀ (m : Nat) (z : Row), m < j → S[m]? = some z → z ≠ r
  | [], n, k, h => by simp [placeOf] at h
  | s :: S, n, k, h => by
    unfold placeOf at h
    by_cases z : s = r
    · rw [if_pos z] at h
      cases h
      exact ⟨0, rfl, by rw [z]; rfl, fun m z hm => absurd hm (Nat.not_lt_zero m)⟩
    · rw [if_neg z] at h
      obtain ⟨j, e1, e2, e3⟩ := placeOf_at (R := R) h
      refine ⟨j + 1, by omega, by simpa using e2, fun m y hm hy => ?_⟩
      cases m with
      | zero =>
        simp at hy
        rw [← hy]
        exact z
      | succ m => exact e3 m y (by omega) (by simpa using hy)
theorem NewAt.det {R : List Row} {r : Row} {k j : Nat} (h : NewAt R r k) (h2 : NewAt R r j) : k = j := by
  unfold NewAt at h h2
  by_cases m : r ∈ R
  · rw [if_pos m] at h h2
    rw [h] at h2
    cases h2
    rfl
  · rw [if_neg m] at h h2
    rw [h, h2]
/-! ### told -/
mutual
/-- without lists: nothing of its own -/
theorem Ow.ofFz {N : Addr → Prop} {H : Hp} : ∀ {d : PyData} {v : V}, Dr N H v d → fz d = true → ∃ f, Ow H v d f ∧ f = []
  | _, _, .non, _ => ⟨_, .non, rfl⟩
  | _, _, .bl b, _ => ⟨_, .bl b, rfl⟩
  | _, _, .int i, _ => ⟨_, .int i, rfl⟩
  | _, _, .str y, _ => ⟨_, .str y, rfl⟩
  | _, _, .lst _ _ _, h => by cases h
  | _, _, .tup e r, h => by
    obtain ⟨fs, o, z⟩ := OwA.ofFz r (by simpa only [fz] using h)
    exact ⟨_, .tup e o, z⟩
  | _, _, .dct _ _ _, h => by cases h
theorem OwA.ofFz {N : Addr → Prop} {H : Hp} : ∀ {ds : List PyData} {vs : List V}, DrA N H vs ds → fzA ds = true → ∃ fs, OwA H vs ds fs ∧ fs.flatten = []
  | _, _, .nil, _ => ⟨[], .nil, rfl⟩
  | _, _, .cons r t, h => by
    simp only [fzA, Bool.and_eq_true] at h
    obtain ⟨f, o, rfl⟩ := Ow.ofFz r h.1
    obtain ⟨fs, os, z⟩ := OwA.ofFz t h.2
    exact ⟨_, .cons o os, by simpa using z⟩
end
/-- what put_row tells: the tuple, the rows' list -/
theorem NewAt.le {R : List Row} {r : Row} {k : Nat} (h : NewAt R r k) : k ≤ R.length := by
  unfold NewAt at h
  by_cases m : r ∈ R
  · rw [if_pos m] at h
    obtain ⟨j, e1, e2, _⟩ := placeOf_at (R := R) h
    have := (List.getElem?_eq_some_iff.mp e2).1
    omega
  · rw [if_neg m] at h
    omega
mutual
theorem fit_wd : ∀ {d : PyData} {n : Nat}, fit d n = true → wd d = true
  | .list xs, n, t => by
    simp only [fit, Bool.and_eq_true, decide_eq_true_eq] at t
    simp only [wd, Bool.and_eq_true, decide_eq_true_eq]
    exact ⟨t.1.2, fitA_wd t.2⟩
  | .tuple xs, n, t => by
    simp only [fit, Bool.and_eq_true, decide_eq_true_eq] at t
    simp only [wd, Bool.and_eq_true, decide_eq_true_eq]
    exact ⟨t.1.2, fitA_wd t.2⟩
  | .dict ps, n, t => by
    simp only [fit, Bool.and_eq_true, decide_eq_true_eq, List.isEmpty_iff] at t
    rw [t.2]
    rfl
  | .str x, n, t => by
    simp only [fit, decide_eq_true_eq] at t
    simp only [wd, decide_eq_true_eq]
    exact t
  | .int i, n, t => by
    simp only [fit, decide_eq_true_eq] at t
    simp only [wd, decide_eq_true_eq]
    exact t
  | .bool _, _, _ => rfl
  | .none, _, _ => rfl
theorem fitA_wd : ∀ {ds : List PyData} {n : Nat}, fitA ds n = true → wdA ds = true
  | [], _, _ => rfl
  | d :: ds, n, t => by
    simp only [fitA, Bool.and_eq_true] at t
    simp only [wdA, Bool.and_eq_true]
    exact ⟨fit_wd t.1, fitA_wd t.2⟩
end
end K8

namespace K8
open PySem PySem.Spec PyProof.Rows L2 WR
theorem lt_one (a b : Nat) : decide (([a] : List Nat) < [b]) = decide (a < b) := by
  refine decide_eq_decide.mpr ⟨fun h => ?_, fun h => List.Lex.rel h⟩
  cases h with
  | rel h => exact h
  | cons h => cases h
theorem leS_one (c : Nat) (k : Nat) : (!decide (([c] : List Nat) < [k])) = decide (k ≤ c) ∧ (!decide (([k] : List Nat) < [c])) = decide (c ≤ k) := by
  rw [lt_one, lt_one]
  constructor
  · rw [← decide_not]; exact decide_eq_decide.mpr (by omega)
  · rw [← decide_not]; exact decide_eq_decide.mpr (by omega)
theorem isLet_c (c : Nat) : isLet ⟨#[c]⟩ = decide (97 ≤ c ∧ c ≤ 122) := by
  have h1 : leS "a" ⟨#[c]⟩ = decide (97 ≤ c) := (leS_one c 97).1
  have h2 : leS ⟨#[c]⟩ "z" = decide (c ≤ 122) := (leS_one c 122).2
  unfold isLet
  rw [h1, h2, Bool.decide_and]
theorem isFig_c (c : Nat) : isFig ⟨#[c]⟩ = decide (48 ≤ c ∧ c ≤ 57) := by
  have h1 : leS "0" ⟨#[c]⟩ = decide (48 ≤ c) := (leS_one c 48).1
  have h2 : leS ⟨#[c]⟩ "9" = decide (c ≤ 57) := (leS_one c 57).2
  unfold isFig
  rw [h1, h2, Bool.decide_and]
/-! ### rows, held against one another -/
theorem eqv_nums : ∀ ks js : List Nat, PyData.eqvAll (nums ks) (nums js) = decide (ks = js)
  | [], [] => rfl
  | [], _ :: _ => by simp [nums, PyData.eqvAll]
  | _ :: _, [] => by simp [nums, PyData.eqvAll]
  | k :: ks, j :: js => by
    have ih := eqv_nums ks js
    simp only [nums, List.map_cons] at ih ⊢
    rw [PyData.eqvAll, ih, PyData.eqv]
    by_cases h : k = j
    · subst h
      simp
    · simp [h, show ¬ ((k : Int) = (j : Int)) by omega]
theorem eqv_bools : ∀ bs cs : List Bool, PyData.eqvAll (bs.map PyData.bool) (cs.map PyData.bool) = decide (bs = cs)
  | [], [] => rfl
  | [], _ :: _ => by simp [PyData.eqvAll]
  | _ :: _, [] => by simp [PyData.eqvAll]
  | b :: bs, c :: cs => by
    have ih := eqv_bools bs cs
    simp only [List.map_cons]
    rw [PyData.eqvAll, ih, PyData.eqv]
    cases b <;> cases c <;> simp
theorem w_ma : (("made" : Str) == ("asked" : Str)) = false := by decide +kernel
theorem w_am : (("asked" : Str) == ("made" : Str)) = false := by decide +kernel
theorem str_self (x : Str) : (x == x) = true := by simp
theorem Row.eqv (r s : Row) : PyData.eqv r.d s.d = decide (r = s) := by
  cases r with
  | made n ks => cases s with
    | made m js =>
      simp only [Row.d, PyData.eqv, PyData.eqvAll, eqv_nums, str_self, Bool.true_and, Bool.and_true]
      rw [Bool.eq_iff_iff]
      simp
    | asked m js =>
      simp only [Row.d, PyData.eqv, PyData.eqvAll, w_ma, Bool.false_and]
      exact (decide_eq_false (fun z => nomatch z)).symm
    | either a i j => simp [Row.d, PyData.eqv, PyData.eqvAll]
    | given k => simp [Row.d, PyData.eqv, PyData.eqvAll]
  | asked n ks => cases s with
    | made m js =>
      simp only [Row.d, PyData.eqv, PyData.eqvAll, w_am, Bool.false_and]
      exact (decide_eq_false (fun z => nomatch z)).symm
    | asked m js =>
      simp only [Row.d, PyData.eqv, PyData.eqvAll, eqv_nums, str_self, Bool.true_and, Bool.and_true]
      rw [Bool.eq_iff_iff]
      simp
    | either a i j => simp [Row.d, PyData.eqv, PyData.eqvAll]
    | given k => simp [Row.d, PyData.eqv, PyData.eqvAll]
  | either a i j => cases s with
    | either a' i' j' =>
      simp only [Row.d, PyData.eqv, PyData.eqvAll, str_self, Bool.true_and, Bool.and_true]
      rw [Bool.eq_iff_iff]
      simp only [Bool.and_eq_true, beq_iff_eq, decide_eq_true_eq, Row.either.injEq]
      omega
    | made m js => simp [Row.d, PyData.eqv, PyData.eqvAll]
    | asked m js => simp [Row.d, PyData.eqv, PyData.eqvAll]
    | given k => simp [Row.d, PyData.eqv, PyData.eqvAll]
  | given k => cases s with
    | given k' =>
      simp only [Row.d, PyData.eqv, PyData.eqvAll, str_self, Bool.true_and, Bool.and_true]
      rw [Bool.eq_iff_iff]
      simp only [beq_iff_eq, decide_eq_true_eq, Row.given.injEq]
      omega
    | made m js => simp [Row.d, PyData.eqv, PyData.eqvAll]
    | asked m js => simp [Row.d, PyData.eqv, PyData.eqvAll]
    | either a i j => simp [Row.d, PyData.eqv, PyData.eqvAll]
theorem lay_nums (ks : List Nat) : PyData.canLayAll0 (nums ks) = true := by
  induction ks with
  | nil => rfl
  | cons k ks ih => simp only [nums, List.map_cons, PyData.canLayAll0, PyData.canLay0, Bool.true_and]; exact ih
theorem dep_nums (ks : List Nat) : PyData.depthAll (nums ks) = 0 := by
  induction ks with
  | nil => rfl
  | cons k ks ih =>
    show max 0 (PyData.depthAll (nums ks)) = 0
    rw [ih]
    rfl
/-- a name's signs are signs of texts -/
theorem name_ok {n : Str} (h : isName (.str n) = true) : PyData.strOk n = true := by
  have h1 : begName n = true := by
    simp only [isName, Bool.and_eq_true] at h
    exact h.2
  simp only [begName, Bool.and_eq_true] at h1
  have h2 := h1.1.2
  unfold PyData.strOk
  rw [Array.all_eq_true]
  intro i hi
  have hm : PyData.str ⟨#[n.cps[i]]⟩ ∈ signsD n := List.mem_map.mpr ⟨n.cps[i], by simp, rfl⟩
  have h3 := List.all_eq_true.mp h2 _ hm
  rw [show strOf (PyData.str ⟨#[n.cps[i]]⟩) = ⟨#[n.cps[i]]⟩ from rfl, isLet_c, isFig_c] at h3
  simp only [Bool.or_eq_true, decide_eq_true_eq] at h3
  exact decide_eq_true (by omega)
theorem Row.lay {r : Row} (h : r.ok) : r.d.canLay0 = true := by
  cases r with
  | made n ks =>
    simp only [Row.d, PyData.canLay0, PyData.canLayAll0, lay_nums, name_ok h.1, Bool.and_true]
    exact (by decide +kernel : PyData.strOk "made" = true)
  | asked n ks =>
    simp only [Row.d, PyData.canLay0, PyData.canLayAll0, lay_nums, name_ok h.1, Bool.and_true]
    exact (by decide +kernel : PyData.strOk "asked" = true)
  | either a i j => simp only [Row.d, PyData.canLay0, PyData.canLayAll0, Bool.and_true]; decide +kernel
  | given k => simp only [Row.d, PyData.canLay0, PyData.canLayAll0, Bool.and_true]; decide +kernel
theorem Row.dep (r : Row) : r.d.depth ≤ 2 := by
  cases r with
  | made n ks => simp [Row.d, PyData.depth, PyData.depthAll, dep_nums]
  | asked n ks => simp [Row.d, PyData.depth, PyData.depthAll, dep_nums]
  | either a i j => simp [Row.d, PyData.depth, PyData.depthAll]
  | given k => simp [Row.d, PyData.depth, PyData.depthAll]
theorem Row.eqOk {r : Row} (h : r.ok) : eqOk r.d := ⟨Row.lay h, by have := Row.dep r; omega⟩
theorem rows_lay : ∀ {R : List Row}, (∀ r ∈ R, r.ok) → PyData.canLayAll0 (R.map Row.d) = true
  | [], _ => rfl
  | r :: R, h => by
    simp only [List.map_cons, PyData.canLayAll0, Row.lay (h r (List.mem_cons_self ..)), Bool.true_and]
    exact rows_lay fun s hs => h s (List.mem_cons_of_mem _ hs)
theorem rows_dep : ∀ R : List Row, PyData.depthAll (R.map Row.d) ≤ 2
  | [] => Nat.zero_le _
  | r :: R => by
    have h1 := Row.dep r
    have h2 := rows_dep R
    show max (PyData.depth r.d) (PyData.depthAll (R.map Row.d)) ≤ 2
    omega
theorem rows_eqOk {R : List Row} (h : ∀ r ∈ R, r.ok) : eqOk (rowsD R) := by
  refine ⟨?_, ?_⟩
  · show PyData.canLay0 (.list (R.map Row.d)) = true
    simp only [PyData.canLay0]
    exact rows_lay h
  · have := rows_dep R
    show PyData.depthAll (R.map Row.d) + 1 ≤ 60
    omega
theorem rows_any (R : List Row) (r : Row) : ((R.map Row.d).any fun z => PyData.eqv z r.d) = decide (r ∈ R) := by
  induction R with
  | nil => simp
  | cons s R ih =>
    rw [List.map_cons, List.any_cons, ih, Row.eqv, ← Bool.decide_or]
    refine decide_eq_decide.mpr ?_
    rw [List.mem_cons]
    exact or_congr eq_comm Iff.rfl
theorem Row.d_inj {r s : Row} (h : r.d = s.d) : r = s := by
  have e := Row.eqv r s
  rw [← h, Row.eqv r r, decide_eq_true rfl] at e
  exact of_decide_eq_true e.symm
theorem vints_dr {N : Addr → Prop} {H : Hp} : ∀ ks : List Nat, DrA N H (ks.map fun (k : Nat) => V.int (k : Int)) (nums ks)
  | [] => .nil
  | k :: ks => .cons (.int _) (vints_dr ks)
theorem nums_eqOk (ks : List Nat) : eqOk (.list (nums ks)) := by
  refine ⟨?_, ?_⟩
  · simp only [PyData.canLay0]
    exact lay_nums ks
  · show PyData.depthAll (nums ks) + 1 ≤ 60
    rw [dep_nums]
    decide
end K8

/-! Webs led over, joined, thinned: no Python here. -/
namespace K8
/-! ### a row led over -/
def Row.led (f : Nat → Nat) : Row → Row
  | .made n ks => .made n (ks.map f)
  | .asked n ks => .asked n (ks.map f)
  | .either a i j => .either (f a) (f i) (f j)
  | .given k => .given k
theorem Row.led_ok {r : Row} {f : Nat → Nat} (h : r.ok) : (r.led f).ok := by
  cases r with
  | made n ks => exact ⟨h.1, by rw [List.length_map]; exact h.2⟩
  | asked n ks => exact ⟨h.1, by rw [List.length_map]; exact h.2⟩
  | _ => trivial
theorem Row.led_asked (r : Row) (f : Nat → Nat) : (r.led f).isAsked = r.isAsked := by cases r <;> rfl
theorem Row.led_named (r : Row) (f : Nat → Nat) : (r.led f).named = r.named.map f := by cases r <;> rfl
theorem Row.led_congr {r : Row} {f g : Nat → Nat} (h : ∀ k ∈ r.named, f k = g k) : r.led f = r.led g := by
  cases r with
  | made n ks => simp only [Row.led, Row.made.injEq, true_and]; exact List.map_congr_left h
  | asked n ks => simp only [Row.led, Row.asked.injEq, true_and]; exact List.map_congr_left h
  | either a i j => simp only [Row.led, h a (by simp [Row.named]), h i (by simp [Row.named]), h j (by simp [Row.named])]
  | given k => rfl
theorem Row.led_self {r : Row} {f : Nat → Nat} (h : ∀ k ∈ r.named, f k = k) : r.led f = r := by
  cases r with
  | made n ks => simp only [Row.led, Row.made.injEq, true_and]; exact (List.map_congr_left h).trans (List.map_id' ks)
  | asked n ks => simp only [Row.led, Row.asked.injEq, true_and]; exact (List.map_congr_left h).trans (List.map_id' ks)
  | either a i j => simp only [Row.led, h a (by simp [Row.named]), h i (by simp [Row.named]), h j (by simp [Row.named])]
  | given k => rfl
theorem map_inj_on {f : Nat → Nat} : ∀ {ks js : List Nat}, (∀ a ∈ ks, ∀ b ∈ js, f a = f b → a = b) → ks.map f = js.map f → ks = js
  | [], [], _, _ => rfl
  | k :: ks, j :: js, h, e => by
    simp only [List.map_cons, List.cons.injEq] at e
    rw [h k (by simp) j (by simp) e.1, map_inj_on (fun a ha b hb => h a (by simp [ha]) b (by simp [hb])) e.2]
  | [], _ :: _, _, e => by simp at e
  | _ :: _, [], _, e => by simp at e
theorem Row.led_inj {r s : Row} {f : Nat → Nat} (h : ∀ a ∈ r.named, ∀ b ∈ s.named, f a = f b → a = b) (e : r.led f = s.led f) : r = s := by
  cases r with
  | made n ks => cases s with
    | made m js =>
      simp only [Row.led, Row.made.injEq] at e
      rw [e.1, map_inj_on (ks := ks) (js := js) h e.2]
    | _ => cases e
  | asked n ks => cases s with
    | asked m js =>
      simp only [Row.led, Row.asked.injEq] at e
      rw [e.1, map_inj_on (ks := ks) (js := js) h e.2]
    | _ => cases e
  | either a i j => cases s with
    | either b k l =>
      simp only [Row.led, Row.either.injEq] at e
      rw [h a (by simp [Row.named]) b (by simp [Row.named]) e.1, h i (by simp [Row.named]) k (by simp [Row.named]) e.2.1, h j (by simp [Row.named]) l (by simp [Row.named]) e.2.2]
    | _ => cases e
  | given k => cases s with
    | given l => exact e
    | _ => cases e
/-! ### what may stand -/
theorem why_none {R : List Row} {r : Row} : why R r = none ↔ (∀ k ∈ r.named, k < R.length) ∧ r.badTest R = false ∧ (∀ k ∈ r.parts, isPart R k = true) ∧ r.like = false := by
  unfold why why2 why3 why4
  by_cases h1 : (r.named.all fun k => decide (k < R.length)) = false
  · rw [if_pos h1]
    refine ⟨(fun z => nomatch z), fun z => ?_⟩
    have : (r.named.all fun k => decide (k < R.length)) = true := List.all_eq_true.mpr fun k hk => decide_eq_true (z.1 k hk)
    rw [h1] at this
    cases this
  rw [if_neg h1]
  have h1' : ∀ k ∈ r.named, k < R.length := fun k hk => of_decide_eq_true (List.all_eq_true.mp (eq_true_of_ne_false h1) k hk)
  by_cases h2 : r.badTest R = true
  · rw [if_pos h2]
    exact ⟨(fun z => nomatch z), fun z => by rw [z.2.1] at h2; cases h2⟩
  rw [if_neg h2]
  by_cases h3 : (r.parts.all (isPart R)) = false
  · rw [if_pos h3]
    refine ⟨(fun z => nomatch z), fun z => ?_⟩
    rw [List.all_eq_true.mpr z.2.2.1] at h3
    cases h3
  rw [if_neg h3]
  have h3' : ∀ k ∈ r.parts, isPart R k = true := List.all_eq_true.mp (eq_true_of_ne_false h3)
  by_cases h4 : r.like = true
  · rw [if_pos h4]
    exact ⟨(fun z => nomatch z), fun z => by rw [z.2.2.2] at h4; cases h4⟩
  · rw [if_neg h4]
    exact ⟨fun _ => ⟨h1', by simpa using h2, h3', by simpa using h4⟩, fun _ => rfl⟩
theorem Row.parts_named (r : Row) : ∀ k ∈ r.parts, k ∈ r.named := by
  cases r with
  | either a i j => intro k hk; simp only [Row.parts, Row.named, List.mem_cons, List.not_mem_nil, or_false] at hk ⊢; exact .inr hk
  | _ => exact fun k hk => hk
theorem why_led {X R : List Row} {r : Row} {f : Nat → Nat} (h : why X r = none) (h1 : ∀ k ∈ r.named, f k < R.length ∧ (rowAt R (f k)).isAsked = (rowAt X k).isAsked) (h2 : ∀ a ∈ r.named, ∀ b ∈ r.named, f a = f b → a = b) : why R (r.led f) = none := by
  obtain ⟨w1, w2, w3, w4⟩ := why_none.mp h
  refine why_none.mpr ⟨?_, ?_, ?_, ?_⟩
  · intro k hk
    rw [Row.led_named] at hk
    obtain ⟨j, hj, rfl⟩ := List.mem_map.mp hk
    exact (h1 j hj).1
  · cases r with
    | either a i j =>
      simp only [Row.badTest, Row.led] at w2 ⊢
      rw [(h1 a (by simp [Row.named])).2]
      exact w2
    | _ => rfl
  · have hp : (r.led f).parts = r.parts.map f := by cases r <;> rfl
    rw [hp]
    intro k hk
    obtain ⟨j, hj, rfl⟩ := List.mem_map.mp hk
    have hn := r.parts_named j hj
    have hw := w3 j hj
    unfold isPart at hw ⊢
    rw [decide_eq_true (h1 j hn).1, (h1 j hn).2, Bool.true_and]
    exact (Bool.and_eq_true_iff.mp hw).2
  · cases r with
    | either a i j =>
      simp only [Row.like, Row.led] at w4 ⊢
      exact decide_eq_false fun z => of_decide_eq_false w4 (h2 i (by simp [Row.named]) j (by simp [Row.named]) z)
    | _ => rfl
theorem rowAt_get {R : List Row} {k : Nat} (h : k < R.length) : rowAt R k = R[k] := by
  unfold rowAt
  rw [List.getD_eq_getElem?_getD, List.getElem?_eq_getElem h]
  rfl
theorem rowAt_app {R S : List Row} {k : Nat} (h : k < R.length) : rowAt (R ++ S) k = rowAt R k := by
  rw [rowAt_get h, rowAt_get (by simp; omega), List.getElem_append_left h]
theorem rowAt_last (R : List Row) (r : Row) : rowAt (R ++ [r]) R.length = r := by
  rw [rowAt_get (by simp)]
  simp
theorem rowAt_take {R : List Row} {k i : Nat} (h : k < i) : rowAt (R.take i) k = rowAt R k := by
  unfold rowAt
  rw [List.getD_eq_getElem?_getD, List.getD_eq_getElem?_getD, List.getElem?_take_of_lt h]
theorem Web.at_ {R : List Row} (W : Web R) {i : Nat} (h : i < R.length) : why (R.take i) (rowAt R i) = none ∧ rowAt R i ∉ R.take i ∧ (rowAt R i).ok := by
  rw [rowAt_get h]
  exact ⟨(W.fit i h).1, (W.fit i h).2, W.ok _ (List.getElem_mem h)⟩
theorem Web.ahead {R : List Row} (W : Web R) {i : Nat} (h : i < R.length) : ∀ k ∈ (rowAt R i).named, k < i := fun k hk => by
  have := (why_none.mp (W.at_ h).1).1 k hk
  rw [List.length_take] at this
  omega
theorem Web.init {R : List Row} {r : Row} (W : Web (R ++ [r])) : Web R ∧ why R r = none ∧ r ∉ R ∧ r.ok := by
  have hl : R.length < (R ++ [r]).length := by simp
  have hf := W.fit R.length hl
  have e1 : (R ++ [r])[R.length] = r := by simp
  have e2 : (R ++ [r]).take R.length = R := by simp
  rw [e1, e2] at hf
  refine ⟨⟨fun s hs => W.ok s (List.mem_append_left _ hs), fun i hi => ?_⟩, hf.1, hf.2, W.ok r (by simp)⟩
  have hf := W.fit i (by simp; omega)
  rw [List.getElem_append_left hi, List.take_append_of_le_length (by omega)] at hf
  exact hf
theorem Web.take {R : List Row} (W : Web R) (n : Nat) : Web (R.take n) := by
  refine ⟨fun r hr => W.ok r (List.mem_of_mem_take hr), fun i hi => ?_⟩
  rw [List.length_take] at hi
  have hf := W.fit i (by omega)
  have e : (R.take n).take i = R.take i := by rw [List.take_take, Nat.min_eq_left (by omega)]
  rw [e, List.getElem_take]
  exact hf
theorem Web.inj {R : List Row} (W : Web R) {i j : Nat} (hi : i < R.length) (hj : j < R.length) (e : rowAt R i = rowAt R j) : i = j := by
  rcases Nat.lt_trichotomy i j with h | h | h
  · exfalso
    refine (W.at_ hj).2.1 ?_
    rw [← e, rowAt_get hi]
    exact List.mem_take_iff_getElem.mpr ⟨i, by omega, rfl⟩
  · exact h
  · exfalso
    refine (W.at_ hi).2.1 ?_
    rw [e, rowAt_get hj]
    exact List.mem_take_iff_getElem.mpr ⟨j, by omega, rfl⟩
theorem rowAt_mem {R : List Row} {k : Nat} (h : k < R.length) : rowAt R k ∈ R := by
  rw [rowAt_get h]
  exact List.getElem_mem h
/-! ### the place of a row -/
def idxOf (R : List Row) (r : Row) : Nat := (placeOf R r 0).getD R.length
theorem idxOf_new {R : List Row} {r : Row} (h : r ∉ R) : idxOf R r = R.length := by
  unfold idxOf
  rw [placeOf_none h]
  rfl
theorem idxOf_at {R : List Row} {r : Row} (h : r ∈ R) : placeOf R r 0 = some (idxOf R r) ∧ idxOf R r < R.length ∧ rowAt R (idxOf R r) = r := by
  obtain ⟨k, e⟩ := placeOf_some (n := 0) h
  have ei : idxOf R r = k := by
    unfold idxOf
    rw [e]
    rfl
  obtain ⟨j, h1, h2, _⟩ := placeOf_at (R := []) e
  rw [ei]
  have hk : k = j := by omega
  subst hk
  obtain ⟨hj, he⟩ := List.getElem?_eq_some_iff.mp h2
  exact ⟨e, hj, by rw [rowAt_get hj]; exact he⟩
theorem idxOf_newAt (R : List Row) (r : Row) : NewAt R r (idxOf R r) := by
  unfold NewAt
  by_cases h : r ∈ R
  · rw [if_pos h]
    exact (idxOf_at h).1
  · rw [if_neg h]
    exact idxOf_new h
theorem newRows_at (R : List Row) (r : Row) : idxOf R r < (newRows R r).length ∧ rowAt (newRows R r) (idxOf R r) = r ∧ ∀ k, k < R.length → k < (newRows R r).length ∧ rowAt (newRows R r) k = rowAt R k := by
  unfold newRows
  by_cases h : r ∈ R
  · rw [if_pos h]
    exact ⟨(idxOf_at h).2.1, (idxOf_at h).2.2, fun k hk => ⟨hk, rfl⟩⟩
  · rw [if_neg h, idxOf_new h]
    exact ⟨by simp, rowAt_last R r, fun k hk => ⟨by simp; omega, rowAt_app hk⟩⟩
theorem newRows_len (R : List Row) (r : Row) : R.length ≤ (newRows R r).length ∧ (newRows R r).length ≤ R.length + 1 := by
  unfold newRows
  by_cases h : r ∈ R
  · rw [if_pos h]; omega
  · rw [if_neg h]; simp
/-! ### webs joined -/
def fL (ps : List Nat) : Nat → Nat := fun k => ps.getD k 0
theorem fL_app {ps qs : List Nat} {k : Nat} (h : k < ps.length) : fL (ps ++ qs) k = fL ps k := by
  unfold fL
  rw [List.getD_eq_getElem?_getD, List.getD_eq_getElem?_getD, List.getElem?_append_left h]
theorem fL_last (ps : List Nat) (q : Nat) : fL (ps ++ [q]) ps.length = q := by
  unfold fL
  simp [List.getD_eq_getElem?_getD]
def joinG (R : List Row) (ps : List Nat) : List Row → List Row × List Nat
  | [] => (R, ps)
  | r :: S => joinG (newRows R (r.led (fL ps))) (ps ++ [idxOf R (r.led (fL ps))]) S
theorem joinG_app : ∀ (S : List Row) (R : List Row) (ps : List Nat) (r : Row), joinG R ps (S ++ [r]) = (newRows (joinG R ps S).1 (r.led (fL (joinG R ps S).2)), (joinG R ps S).2 ++ [idxOf (joinG R ps S).1 (r.led (fL (joinG R ps S).2))])
  | [], R, ps, r => rfl
  | s :: S, R, ps, r => by
    rw [List.cons_append]
    unfold joinG
    exact joinG_app S _ _ r
structure Joined (R0 S R : List Row) (ps : List Nat) : Prop where
  web : Web R
  len : ps.length = S.length
  at_ : ∀ k, k < S.length → fL ps k < R.length ∧ rowAt R (fL ps k) = (rowAt S k).led (fL ps)
  inj : ∀ i j, i < S.length → j < S.length → fL ps i = fL ps j → i = j
  lo : R0.length ≤ R.length
  hi : R.length ≤ R0.length + S.length
  pre : ∀ k, k < R0.length → rowAt R k = rowAt R0 k
theorem Joined.nil {R : List Row} (W : Web R) : Joined R [] R [] := ⟨W, rfl, (fun _ h => absurd h (Nat.not_lt_zero _)), (fun _ _ h => absurd h (Nat.not_lt_zero _)), Nat.le_refl _, Nat.le_refl _, fun _ _ => rfl⟩
theorem Joined.named {R0 S R : List Row} {ps : List Nat} {r : Row} (J : Joined R0 S R ps) (W : Web (S ++ [r])) : ∀ k ∈ r.named, k < ps.length := fun k hk => by
  rw [J.len]
  exact (why_none.mp W.init.2.1).1 k hk
theorem Joined.snoc {R0 S R : List Row} {ps : List Nat} {r : Row} (J : Joined R0 S R ps) (W : Web (S ++ [r])) : Joined R0 (S ++ [r]) (newRows R (r.led (fL ps))) (ps ++ [idxOf R (r.led (fL ps))]) := by
  obtain ⟨W0, h1, h2, h3⟩ := W.init
  have hn : ∀ k ∈ r.named, k < S.length := (why_none.mp h1).1
  have hq : ∀ k, k < S.length → fL (ps ++ [idxOf R (r.led (fL ps))]) k = fL ps k := fun k hk => fL_app (by rw [J.len]; exact hk)
  have hl : fL (ps ++ [idxOf R (r.led (fL ps))]) S.length = idxOf R (r.led (fL ps)) := by rw [← J.len]; exact fL_last _ _
  have hlr : ∀ {x : Row}, (∀ k ∈ x.named, k < S.length) → x.led (fL (ps ++ [idxOf R (r.led (fL ps))])) = x.led (fL ps) := fun hx => Row.led_congr fun k hk => hq k (hx k hk)
  have hS : ∀ k, k < S.length → ∀ j ∈ (rowAt S k).named, j < S.length := fun k hk j hj => Nat.lt_trans (W0.ahead hk j hj) hk
  obtain ⟨n1, n2, n3⟩ := newRows_at R (r.led (fL ps))
  obtain ⟨l1, l2⟩ := newRows_len R (r.led (fL ps))
  have hwhy : why R (r.led (fL ps)) = none := why_led h1 (fun k hk => ⟨(J.at_ k (hn k hk)).1, by rw [(J.at_ k (hn k hk)).2, Row.led_asked]⟩) fun a ha b hb e => J.inj a b (hn a ha) (hn b hb) e
  have unlike : ∀ k, k < S.length → fL ps k = idxOf R (r.led (fL ps)) → False := fun k hk e => by
    have e2 : (rowAt S k).led (fL ps) = r.led (fL ps) := by
      rw [← (J.at_ k hk).2, e]
      have := n3 (idxOf R (r.led (fL ps))) (by rw [← e]; exact (J.at_ k hk).1)
      rw [← this.2]
      exact n2
    have e3 := Row.led_inj (fun a ha b hb z => J.inj a b (hS k hk a ha) (hn b hb) z) e2
    exact h2 (by rw [← e3]; exact rowAt_mem hk)
  constructor
  · unfold newRows
    by_cases hm : r.led (fL ps) ∈ R
    · rw [if_pos hm]
      exact J.web
    · rw [if_neg hm]
      exact J.web.snoc (Row.led_ok h3) hwhy hm
  · simp [J.len]
  · intro k hk
    by_cases hk' : k < S.length
    · rw [hq k hk', rowAt_app hk', hlr (hS k hk')]
      obtain ⟨a1, a2⟩ := J.at_ k hk'
      exact ⟨(n3 _ a1).1, by rw [(n3 _ a1).2]; exact a2⟩
    · have e : k = S.length := by simp at hk; omega
      subst e
      rw [hl, rowAt_last, hlr hn]
      exact ⟨n1, n2⟩
  · intro i j hi hj e
    by_cases hi' : i < S.length
    · by_cases hj' : j < S.length
      · rw [hq i hi', hq j hj'] at e
        exact J.inj i j hi' hj' e
      · have ej : j = S.length := by simp at hj; omega
        rw [ej, hq i hi', hl] at e
        exact (unlike i hi' e).elim
    · have ei : i = S.length := by simp at hi; omega
      by_cases hj' : j < S.length
      · rw [ei, hq j hj', hl] at e
        exact (unlike j hj' e.symm).elim
      · simp at hj
        omega
  · exact Nat.le_trans J.lo l1
  · have := J.hi
    simp
    omega
  · intro k hk
    rw [(n3 k (by have := J.lo; omega)).2]
    exact J.pre k hk
theorem joinG_joined {R0 : List Row} (W0 : Web R0) : ∀ (m : Nat) {S : List Row}, Web S → m ≤ S.length → Joined R0 (S.take m) (joinG R0 [] (S.take m)).1 (joinG R0 [] (S.take m)).2
  | 0, S, _, _ => by
    rw [List.take_zero]
    exact Joined.nil W0
  | m + 1, S, W, h => by
    have ih := joinG_joined W0 m W (by omega)
    have et : S.take (m + 1) = S.take m ++ [S[m]] := by rw [List.take_add_one, List.getElem?_eq_getElem (by omega)]; rfl
    rw [et, joinG_app]
    exact ih.snoc (by rw [← et]; exact W.take _)
theorem joined_of {R S : List Row} (W : Web R) (V : Web S) : Joined R S (joinG R [] S).1 (joinG R [] S).2 := by
  have := joinG_joined W S.length V (Nat.le_refl _)
  rwa [List.take_length] at this
/-- a web joined to itself -/
theorem join_self {R : List Row} (W : Web R) : joinG R [] R = (R, List.range R.length) := by
  have key : ∀ m, m ≤ R.length → joinG R [] (R.take m) = (R, List.range m) := by
    intro m
    induction m with
    | zero => intro _; rfl
    | succ m ih =>
      intro h
      have hm : m < R.length := by omega
      have et : R.take (m + 1) = R.take m ++ [R[m]] := by rw [List.take_add_one, List.getElem?_eq_getElem hm]; rfl
      rw [et, joinG_app, ih (by omega)]
      have er : R[m].led (fL (List.range m)) = R[m] := Row.led_self fun k hk => by
        rw [← rowAt_get hm] at hk
        have := W.ahead hm k hk
        unfold fL
        rw [List.getD_eq_getElem?_getD, List.getElem?_range this]
        rfl
      have hmem : R[m] ∈ R := List.getElem_mem hm
      obtain ⟨i1, i2, i3⟩ := idxOf_at hmem
      have hi : idxOf R R[m] = m := W.inj i2 hm (by rw [i3, rowAt_get hm])
      simp only [er, hi]
      rw [List.range_succ]
      unfold newRows
      rw [if_pos hmem]
  have := key R.length (Nat.le_refl _)
  rwa [List.take_length] at this
/-! ### what is needed -/
inductive Rch (R : List Row) (tips : List Nat) : Nat → Prop where
  | tip {k : Nat} : k ∈ tips → Rch R tips k
  | step {k j : Nat} : Rch R tips k → j ∈ (rowAt R k).named → Rch R tips j
structure IsCone (R : List Row) (tips ks : List Nat) : Prop where
  asc : ks.Pairwise (· < ·)
  mem : ∀ k, k ∈ ks ↔ Rch R tips k
theorem asc_ext : ∀ {ks js : List Nat}, ks.Pairwise (· < ·) → js.Pairwise (· < ·) → (∀ k, k ∈ ks ↔ k ∈ js) → ks = js
  | [], [], _, _, _ => rfl
  | [], j :: js, _, _, h => by simpa using (h j).mpr (by simp)
  | k :: ks, [], _, _, h => by simpa using (h k).mp (by simp)
  | k :: ks, j :: js, p, q, h => by
    rw [List.pairwise_cons] at p q
    have e : k = j := by
      have h1 := (h k).mp (by simp)
      have h2 := (h j).mpr (by simp)
      rcases List.mem_cons.mp h1 with z | z
      · exact z
      · rcases List.mem_cons.mp h2 with y | y
        · exact y.symm
        · have := q.1 k z
          have := p.1 j y
          omega
    subst e
    rw [asc_ext p.2 q.2 fun x => ?_]
    have hx := h x
    constructor
    · intro hm
      rcases List.mem_cons.mp (hx.mp (by simp [hm])) with z | z
      · have := p.1 x hm
        omega
      · exact z
    · intro hm
      rcases List.mem_cons.mp (hx.mpr (by simp [hm])) with z | z
      · have := q.1 x hm
        omega
      · exact z
theorem IsCone.uniq {R : List Row} {tips ks js : List Nat} (h : IsCone R tips ks) (g : IsCone R tips js) : ks = js := asc_ext h.asc g.asc fun k => (h.mem k).trans (g.mem k).symm
theorem Rch.lt {R : List Row} (W : Web R) {tips : List Nat} (ht : ∀ k ∈ tips, k < R.length) {k : Nat} (h : Rch R tips k) : k < R.length := by
  induction h with
  | tip h => exact ht _ h
  | step _ hj ih => exact Nat.lt_trans (W.ahead ih _ hj) ih
/-- a list that is closed, as it was gathered -/
structure Gath (R : List Row) (tips found left : List Nat) : Prop where
  from_ : ∀ k, k ∈ found ∨ k ∈ left → Rch R tips k
  tips : ∀ k ∈ tips, k ∈ found ∨ k ∈ left
  next : ∀ k ∈ found, ∀ j ∈ (rowAt R k).named, j ∈ found ∨ j ∈ left
  nd : found.Nodup
theorem Gath.start (R : List Row) (tips : List Nat) : Gath R tips [] tips := ⟨fun k h => h.elim (fun z => nomatch z) .tip, fun k h => .inr h, (fun _ h => nomatch h), List.nodup_nil⟩
theorem Gath.drop {R : List Row} {tips found left : List Nat} {o : Nat} (G : Gath R tips found (left ++ [o])) (h : o ∈ found) : Gath R tips found left := by
  have mv : ∀ k, k ∈ found ∨ k ∈ left ++ [o] → k ∈ found ∨ k ∈ left := fun k hk => hk.elim .inl fun z => by
    rcases List.mem_append.mp z with z | z
    · exact .inr z
    · rw [List.mem_singleton.mp z]
      exact .inl h
  exact ⟨fun k hk => G.from_ k (hk.elim .inl fun z => .inr (List.mem_append_left _ z)), fun k hk => mv k (G.tips k hk), fun k hk j hj => mv j (G.next k hk j hj), G.nd⟩
/-- one more, with some of what it names (those found may be left out) -/
theorem Gath.more {R : List Row} {tips found left js : List Nat} {o : Nat} (G : Gath R tips found (left ++ [o])) (h : o ∉ found) (h1 : ∀ j ∈ js, j ∈ (rowAt R o).named) (h2 : ∀ j ∈ (rowAt R o).named, j ∈ js ∨ j ∈ found ++ [o]) : Gath R tips (found ++ [o]) (left ++ js) := by
  have ro : Rch R tips o := G.from_ o (.inr (by simp))
  have mv : ∀ k, k ∈ found ∨ k ∈ left ++ [o] → k ∈ found ++ [o] ∨ k ∈ left ++ js := fun k hk => hk.elim (fun z => .inl (List.mem_append_left _ z)) fun z => by
    rcases List.mem_append.mp z with z | z
    · exact .inr (List.mem_append_left _ z)
    · exact .inl (List.mem_append_right _ z)
  refine ⟨fun k hk => ?_, fun k hk => mv k (G.tips k hk), fun k hk j hj => ?_, ?_⟩
  · rcases hk with z | z
    · rcases List.mem_append.mp z with z | z
      · exact G.from_ k (.inl z)
      · rw [List.mem_singleton.mp z]
        exact ro
    · rcases List.mem_append.mp z with z | z
      · exact G.from_ k (.inr (List.mem_append_left _ z))
      · exact .step ro (h1 k z)
  · rcases List.mem_append.mp hk with z | z
    · exact mv j (G.next k z j hj)
    · rw [List.mem_singleton.mp z] at hj
      rcases h2 j hj with y | y
      · exact .inr (List.mem_append_right _ y)
      · exact .inl y
  · rw [List.nodup_append]
    refine ⟨G.nd, by simp, fun a ha b hb e => ?_⟩
    rw [List.mem_singleton.mp hb] at e
    exact h (by rw [← e]; exact ha)
theorem Gath.done {R : List Row} {tips found : List Nat} (G : Gath R tips found []) : ∀ k, k ∈ found ↔ Rch R tips k := fun k => by
  refine ⟨fun h => G.from_ k (.inl h), fun h => ?_⟩
  induction h with
  | tip h => exact (G.tips _ h).elim id fun z => nomatch z
  | step _ hj ih => exact (G.next _ ih _ hj).elim id fun z => nomatch z
/-- found, sorted -/
theorem Gath.cone {R : List Row} {tips found ks : List Nat} (G : Gath R tips found []) (hp : ks.Perm found) (hs : ks.Pairwise (· ≤ ·)) : IsCone R tips ks := by
  refine ⟨?_, fun k => hp.mem_iff.trans (G.done k)⟩
  have hn : ks.Nodup := hp.nodup_iff.mpr G.nd
  exact (hs.and hn).imp fun {a b} h => Nat.lt_of_le_of_ne h.1 h.2
/-- how much is left to do -/
def sumN (R : List Row) (found : List Nat) : Nat := ((List.range R.length).map fun k => if k ∈ found then 0 else (rowAt R k).named.length).sum
theorem sum_snoc (g : Nat → Nat) {F : List Nat} {o : Nat} (ho : o ∉ F) : ∀ {l : List Nat}, l.Nodup → (l.map fun k => if k ∈ F ++ [o] then 0 else g k).sum + (if o ∈ l then g o else 0) = (l.map fun k => if k ∈ F then 0 else g k).sum
  | [], _ => by simp
  | x :: l, hn => by
    rw [List.nodup_cons] at hn
    have ih := sum_snoc g ho hn.2
    simp only [List.map_cons, List.sum_cons]
    by_cases hx : x = o
    · subst hx
      rw [if_pos (List.mem_append_right _ (List.mem_singleton.mpr rfl)), if_neg ho, if_pos (List.mem_cons_self ..)]
      rw [if_neg hn.1] at ih
      omega
    · have e1 : (x ∈ F ++ [o]) = (x ∈ F) := by simp [hx]
      have e2 : (o ∈ x :: l) = (o ∈ l) := by simp [Ne.symm hx]
      simp only [e1, e2]
      omega
theorem sumN_snoc {R : List Row} {found : List Nat} {o : Nat} (h : o ∉ found) (hl : o < R.length) : sumN R (found ++ [o]) + (rowAt R o).named.length = sumN R found := by
  have := sum_snoc (fun k => (rowAt R k).named.length) h (l := List.range R.length) List.nodup_range
  rw [if_pos (List.mem_range.mpr hl)] at this
  exact this
theorem sum_le {g : Nat → Nat} {c : Nat} : ∀ {l : List Nat}, (∀ k ∈ l, g k ≤ c) → (l.map g).sum ≤ c * l.length
  | [], _ => by simp
  | x :: l, h => by
    have ih := sum_le (g := g) (c := c) (l := l) fun k hk => h k (List.mem_cons_of_mem _ hk)
    have := h x (List.mem_cons_self ..)
    simp only [List.map_cons, List.sum_cons, List.length_cons, Nat.mul_succ]
    omega
theorem sumN_le {R : List Row} {c : Nat} (h : ∀ k, k < R.length → (rowAt R k).named.length ≤ c) (found : List Nat) : sumN R found ≤ c * R.length := by
  have := sum_le (g := fun k => if k ∈ found then 0 else (rowAt R k).named.length) (c := c) (l := List.range R.length) fun k hk => by
    by_cases z : k ∈ found
    · simp [z]
    · simp only [z, if_false]
      exact h k (List.mem_range.mp hk)
  simpa [sumN] using this
/-! ### webs thinned -/
/-- the place of a number in a list -/
def gI (ks : List Nat) : Nat → Nat := fun k => ks.idxOf k
theorem gI_lt {ks : List Nat} {k : Nat} (h : k ∈ ks) : gI ks k < ks.length := List.idxOf_lt_length_iff.mpr h
theorem gI_get {ks : List Nat} {k : Nat} (h : k ∈ ks) : ks[gI ks k]? = some k := by
  rw [List.getElem?_eq_getElem (gI_lt h)]
  exact congrArg some (List.getElem_idxOf (gI_lt h))
theorem gI_inj {ks : List Nat} {a b : Nat} (ha : a ∈ ks) (hb : b ∈ ks) (e : gI ks a = gI ks b) : a = b := by
  have h1 := gI_get ha
  have h2 := gI_get hb
  rw [e, h2] at h1
  exact (Option.some.inj h1).symm
def thin (R : List Row) (ks : List Nat) : List Row := ks.map fun k => (rowAt R k).led (gI ks)
/-- of a cone: what may be led over so far -/
structure Cone (R : List Row) (ks : List Nat) : Prop where
  web : Web R
  lt : ∀ k ∈ ks, k < R.length
  asc : ks.Pairwise (· < ·)
  clo : ∀ k ∈ ks, ∀ j ∈ (rowAt R k).named, j ∈ ks
theorem IsCone.cone {R : List Row} {tips ks : List Nat} (h : IsCone R tips ks) (W : Web R) (ht : ∀ k ∈ tips, k < R.length) : Cone R ks :=
  ⟨W, fun k hk => ((h.mem k).mp hk).lt W ht, h.asc, fun k hk j hj => (h.mem j).mpr (.step ((h.mem k).mp hk) hj)⟩
theorem asc_take {ks : List Nat} (h : ks.Pairwise (· < ·)) {m : Nat} (hm : m < ks.length) {j : Nat} (hj : j ∈ ks) (hl : j < ks[m]) : j ∈ ks.take m := by
  obtain ⟨i, hi, rfl⟩ := List.mem_iff_getElem.mp hj
  have : i < m := by
    rcases Nat.lt_or_ge i m with z | z
    · exact z
    · rcases Nat.lt_or_ge m i with y | y
      · have := List.pairwise_iff_getElem.mp h m i hm hi y
        omega
      · have e : i = m := by omega
        subst e
        omega
  exact List.mem_take_iff_getElem.mpr ⟨i, by omega, rfl⟩
theorem Cone.step {R : List Row} {ks : List Nat} (C : Cone R ks) {m : Nat} (hm : m < ks.length) : (∀ j ∈ (rowAt R ks[m]).named, j ∈ ks.take m) ∧ (rowAt R ks[m]).led (gI ks) ∉ (thin R ks).take m ∧ why ((thin R ks).take m) ((rowAt R ks[m]).led (gI ks)) = none ∧ ((rowAt R ks[m]).led (gI ks)).ok := by
  have hk : ks[m] ∈ ks := List.getElem_mem hm
  have hl := C.lt _ hk
  have n1 : ∀ j ∈ (rowAt R ks[m]).named, j ∈ ks := fun j hj => C.clo _ hk j hj
  have n2 : ∀ j ∈ (rowAt R ks[m]).named, j < ks[m] := fun j hj => C.web.ahead hl j hj
  have n3 : ∀ j ∈ (rowAt R ks[m]).named, j ∈ ks.take m := fun j hj => asc_take C.asc hm (n1 j hj) (n2 j hj)
  have n4 : ∀ j ∈ ks.take m, gI ks j < m ∧ rowAt ((thin R ks).take m) (gI ks j) = (rowAt R j).led (gI ks) := fun j hj => by
    have hjm : j ∈ ks := List.mem_of_mem_take hj
    obtain ⟨i, hi, e⟩ := List.mem_take_iff_getElem.mp hj
    have hi2 : i < ks.length := by omega
    have hg : gI ks j = i := by
      have nd : ks.Nodup := C.asc.imp fun h => Nat.ne_of_lt h
      have h1 := gI_get hjm
      have h2 : ks[i]? = some j := by rw [List.getElem?_eq_getElem hi2, e]
      exact (List.getElem?_inj (gI_lt hjm) nd).mp (h1.trans h2.symm)
    rw [hg]
    refine ⟨by omega, ?_⟩
    rw [rowAt_take (by omega), rowAt_get (by simp [thin]; omega)]
    simp only [thin, List.getElem_map]
    rw [e]
  refine ⟨n3, ?_, ?_, Row.led_ok (C.web.at_ hl).2.2⟩
  · intro hin
    obtain ⟨i, hi, e⟩ := List.mem_take_iff_getElem.mp hin
    have hi1 : i < m := by omega
    have hi2 : i < ks.length := by omega
    simp only [thin, List.getElem_map] at e
    have hki : ks[i] ∈ ks := List.getElem_mem hi2
    have e2 := Row.led_inj (fun a ha b hb z => gI_inj (C.clo _ hki a ha) (n1 b hb) z) e
    have e3 := C.web.inj (C.lt _ hki) hl e2
    have := List.pairwise_iff_getElem.mp C.asc i m hi2 hm hi1
    omega
  · refine why_led (X := R.take ks[m]) (C.web.at_ hl).1 (fun j hj => ?_) fun a ha b hb z => gI_inj (n1 a ha) (n1 b hb) z
    obtain ⟨h1, h2⟩ := n4 j (n3 j hj)
    refine ⟨by rw [List.length_take]; simp [thin]; omega, ?_⟩
    rw [h2, Row.led_asked, rowAt_take (n2 j hj)]
theorem Cone.web_thin {R : List Row} {ks : List Nat} (C : Cone R ks) : Web (thin R ks) := by
  have key : ∀ m, m ≤ ks.length → Web ((thin R ks).take m) := by
    intro m
    induction m with
    | zero => intro _; rw [List.take_zero]; exact Web.nil
    | succ m ih =>
      intro h
      have hm : m < ks.length := by omega
      obtain ⟨_, h2, h3, h4⟩ := C.step hm
      have hl : m < (thin R ks).length := by simp [thin]; omega
      have et : (thin R ks).take (m + 1) = (thin R ks).take m ++ [(rowAt R ks[m]).led (gI ks)] := by
        rw [List.take_add_one, List.getElem?_eq_getElem hl]
        simp [thin]
      rw [et]
      exact (ih (by omega)).snoc h4 h3 h2
  have := key ks.length (Nat.le_refl _)
  rwa [List.take_of_length_le (by simp [thin])] at this
theorem Row.led_small {r : Row} {f : Nat → Nat} (h : r.small) (hf : ∀ k ∈ r.named, f k ≤ 100) : (r.led f).small := by
  cases r with
  | made n ks =>
    refine ⟨by rw [List.length_map]; exact h.1, fun k hk => ?_⟩
    obtain ⟨j, hj, rfl⟩ := List.mem_map.mp hk
    exact hf j hj
  | asked n ks =>
    refine ⟨by rw [List.length_map]; exact h.1, fun k hk => ?_⟩
    obtain ⟨j, hj, rfl⟩ := List.mem_map.mp hk
    exact hf j hj
  | either a i j => exact ⟨hf a (by simp [Row.named]), hf i (by simp [Row.named]), hf j (by simp [Row.named])⟩
  | given k => exact h
theorem Row.small_named {r : Row} (h : r.small) : r.named.length ≤ 3 := by
  cases r with
  | made n ks => exact h.1
  | asked n ks => exact h.1
  | either a i j => exact Nat.le_refl _
  | given k => exact Nat.zero_le _
theorem thin_small {R : List Row} {ks : List Nat} (C : Cone R ks) (h : ∀ r ∈ R, r.small) (hl : ks.length ≤ 100) : ∀ r ∈ thin R ks, r.small := fun r hr => by
  obtain ⟨k, hk, rfl⟩ := List.mem_map.mp hr
  exact Row.led_small (h _ (rowAt_mem (C.lt k hk))) fun j hj => Nat.le_of_lt (Nat.lt_of_lt_of_le (gI_lt (C.clo k hk j hj)) hl)
theorem asc_len {n : Nat} : ∀ {ks : List Nat} {lo : Nat}, ks.Pairwise (· < ·) → (∀ k ∈ ks, lo ≤ k ∧ k < n) → ks.length ≤ n - lo
  | [], _, _, _ => Nat.zero_le _
  | k :: ks, lo, p, h => by
    rw [List.pairwise_cons] at p
    have ih := asc_len (lo := k + 1) p.2 fun j hj => ⟨p.1 j hj, (h j (List.mem_cons_of_mem _ hj)).2⟩
    have := h k (List.mem_cons_self ..)
    simp only [List.length_cons]
    omega
theorem cone_len {R : List Row} {ks : List Nat} (C : Cone R ks) : ks.length ≤ R.length := by
  have := asc_len (lo := 0) C.asc fun k hk => ⟨Nat.zero_le _, C.lt k hk⟩
  omega
end K8

/-! Webs decided: no Python here. -/
namespace K8
/-- where a row comes to stand by the truths alone -/
def decPlace (t : Nat → Option Bool) (ps : List Nat) : Row → Option Nat
  | .either a i j => match t a with
    | some b => some (fL ps (if b = true then i else j))
    | none => if fL ps i = fL ps j then some (fL ps i) else none
  | _ => none
theorem decPlace_either (t : Nat → Option Bool) (ps : List Nat) (a i j : Nat) : decPlace t ps (.either a i j) = match t a with
    | some b => some (fL ps (if b = true then i else j))
    | none => if fL ps i = fL ps j then some (fL ps i) else none := rfl
def decStep (t : Nat → Option Bool) (x : List Row × List Nat) (r : Row) : List Row × List Nat :=
  match decPlace t x.2 r with
  | some k => (x.1, x.2 ++ [k])
  | none => (newRows x.1 (r.led (fL x.2)), x.2 ++ [idxOf x.1 (r.led (fL x.2))])
def dec (t : Nat → Option Bool) (S : List Row) : List Row × List Nat := S.foldl (decStep t) ([], [])
theorem dec_snoc (t : Nat → Option Bool) (S : List Row) (r : Row) : dec t (S ++ [r]) = decStep t (dec t S) r := by
  unfold dec
  rw [List.foldl_append]
  rfl
theorem decStep_some {t : Nat → Option Bool} {x : List Row × List Nat} {r : Row} {k : Nat} (h : decPlace t x.2 r = some k) : decStep t x r = (x.1, x.2 ++ [k]) := by
  unfold decStep
  rw [h]
theorem decStep_none {t : Nat → Option Bool} {x : List Row × List Nat} {r : Row} (h : decPlace t x.2 r = none) : decStep t x r = (newRows x.1 (r.led (fL x.2)), x.2 ++ [idxOf x.1 (r.led (fL x.2))]) := by
  unfold decStep
  rw [h]
theorem decPlace_some {t : Nat → Option Bool} {ps : List Nat} {r : Row} {k : Nat} (h : decPlace t ps r = some k) : ∃ a i j, r = .either a i j ∧ (k = fL ps i ∨ k = fL ps j) := by
  cases r with
  | either a i j =>
    refine ⟨a, i, j, rfl, ?_⟩
    rw [decPlace_either] at h
    cases e : t a with
    | some b =>
      rw [e] at h
      have := Option.some.inj h
      cases b with
      | true => exact .inl (by rw [← this]; rfl)
      | false => exact .inr (by rw [← this]; rfl)
    | none =>
      rw [e] at h
      dsimp only at h
      by_cases hij : fL ps i = fL ps j
      · rw [if_pos hij] at h
        exact .inl (Option.some.inj h).symm
      · rw [if_neg hij] at h
        cases h
  | _ => cases h
theorem decPlace_none {t : Nat → Option Bool} {ps : List Nat} {a i j : Nat} (h : decPlace t ps (.either a i j) = none) : t a = none ∧ fL ps i ≠ fL ps j := by
  rw [decPlace_either] at h
  cases e : t a with
  | some b => rw [e] at h; cases h
  | none =>
    rw [e] at h
    dsimp only at h
    refine ⟨rfl, fun z => ?_⟩
    rw [if_pos z] at h
    cases h
theorem why_dec {X R : List Row} {r : Row} {f : Nat → Nat} (h : why X r = none) (h1 : ∀ k ∈ r.named, f k < R.length ∧ (rowAt R (f k)).isAsked = (rowAt X k).isAsked) (h2 : ∀ a i j, r = .either a i j → f i ≠ f j) : why R (r.led f) = none := by
  obtain ⟨w1, w2, w3, w4⟩ := why_none.mp h
  refine why_none.mpr ⟨?_, ?_, ?_, ?_⟩
  · intro k hk
    rw [Row.led_named] at hk
    obtain ⟨j, hj, rfl⟩ := List.mem_map.mp hk
    exact (h1 j hj).1
  · cases r with
    | either a i j =>
      simp only [Row.badTest, Row.led] at w2 ⊢
      rw [(h1 a (by simp [Row.named])).2]
      exact w2
    | _ => rfl
  · have hp : (r.led f).parts = r.parts.map f := by cases r <;> rfl
    rw [hp]
    intro k hk
    obtain ⟨j, hj, rfl⟩ := List.mem_map.mp hk
    have hn := r.parts_named j hj
    have hw := w3 j hj
    unfold isPart at hw ⊢
    rw [decide_eq_true (h1 j hn).1, (h1 j hn).2, Bool.true_and]
    exact (Bool.and_eq_true_iff.mp hw).2
  · cases r with
    | either a i j => exact decide_eq_false (h2 a i j rfl)
    | _ => rfl
/-- what is decided is a web; asked rows stay asked, parts parts -/
structure Decd (S R : List Row) (ps : List Nat) : Prop where
  web : Web R
  len : ps.length = S.length
  lt : ∀ k, k < S.length → fL ps k < R.length
  ask : ∀ k, k < S.length → (rowAt R (fL ps k)).isAsked = (rowAt S k).isAsked
  hi : R.length ≤ S.length
theorem Decd.snoc {t : Nat → Option Bool} {S R : List Row} {ps : List Nat} {r : Row} (J : Decd S R ps) (W : Web (S ++ [r])) : Decd (S ++ [r]) (decStep t (R, ps) r).1 (decStep t (R, ps) r).2 := by
  obtain ⟨W0, h1, h2, h3⟩ := W.init
  have hn : ∀ k ∈ r.named, k < S.length := (why_none.mp h1).1
  have hq : ∀ q k, k < S.length → fL (ps ++ [q]) k = fL ps k := fun q k hk => fL_app (by rw [J.len]; exact hk)
  have hl : ∀ q, fL (ps ++ [q]) S.length = q := fun q => by rw [← J.len]; exact fL_last _ _
  cases e : decPlace t ps r with
  | some q =>
    rw [decStep_some (x := (R, ps)) e]
    obtain ⟨a, i, j, rfl, hk⟩ := decPlace_some e
    have hp : ∀ z, z = i ∨ z = j → z < S.length ∧ (rowAt S z).isAsked = false := fun z hz => by
      have := (why_none.mp h1).2.2.1 z (by rcases hz with rfl | rfl <;> simp [Row.parts])
      unfold isPart at this
      simp only [Bool.and_eq_true, decide_eq_true_eq, Bool.not_eq_true'] at this
      exact this
    obtain ⟨z, hz, ez⟩ : ∃ z, (z = i ∨ z = j) ∧ q = fL ps z := hk.elim (fun y => ⟨i, .inl rfl, y⟩) fun y => ⟨j, .inr rfl, y⟩
    obtain ⟨p1, p2⟩ := hp z hz
    refine ⟨J.web, by simp [J.len], fun k hk => ?_, fun k hk => ?_, by have := J.hi; simp; omega⟩
    · by_cases hk' : k < S.length
      · rw [hq q k hk']
        exact J.lt k hk'
      · have : k = S.length := by simp at hk; omega
        rw [this, hl, ez]
        exact J.lt z p1
    · by_cases hk' : k < S.length
      · rw [hq q k hk', rowAt_app hk']
        exact J.ask k hk'
      · have : k = S.length := by simp at hk; omega
        rw [this, hl, ez, rowAt_last, J.ask z p1, p2]
        rfl
  | none =>
    rw [decStep_none (x := (R, ps)) e]
    obtain ⟨n1, n2, n3⟩ := newRows_at R (r.led (fL ps))
    obtain ⟨l1, l2⟩ := newRows_len R (r.led (fL ps))
    have hwhy : why R (r.led (fL ps)) = none := why_dec h1 (fun k hk => ⟨J.lt k (hn k hk), J.ask k (hn k hk)⟩) fun a i j er => by
      rw [er] at e
      exact (decPlace_none e).2
    refine ⟨?_, by simp [J.len], fun k hk => ?_, fun k hk => ?_, by have := J.hi; simp; omega⟩
    · unfold newRows
      by_cases hm : r.led (fL ps) ∈ R
      · rw [if_pos hm]
        exact J.web
      · rw [if_neg hm]
        exact J.web.snoc (Row.led_ok h3) hwhy hm
    · by_cases hk' : k < S.length
      · rw [hq _ k hk']
        exact (n3 _ (J.lt k hk')).1
      · have : k = S.length := by simp at hk; omega
        rw [this, hl]
        exact n1
    · by_cases hk' : k < S.length
      · rw [hq _ k hk', rowAt_app hk']
        show (rowAt (newRows R (r.led (fL ps))) (fL ps k)).isAsked = _
        rw [(n3 _ (J.lt k hk')).2]
        exact J.ask k hk'
      · have : k = S.length := by simp at hk; omega
        rw [this, hl, rowAt_last]
        show (rowAt (newRows R (r.led (fL ps))) _).isAsked = _
        rw [n2, Row.led_asked]
theorem take_snoc {S : List Row} {m : Nat} (h : m < S.length) : S.take (m + 1) = S.take m ++ [S[m]] := by
  rw [List.take_add_one, List.getElem?_eq_getElem h]
  rfl
theorem dec_take {t : Nat → Option Bool} {S : List Row} (W : Web S) : ∀ m, m ≤ S.length → Decd (S.take m) (dec t (S.take m)).1 (dec t (S.take m)).2
  | 0, _ => by
    rw [List.take_zero]
    exact ⟨Web.nil, rfl, (fun _ h => absurd h (Nat.not_lt_zero _)), (fun _ h => absurd h (Nat.not_lt_zero _)), Nat.le_refl _⟩
  | m + 1, h => by
    have ih := dec_take (t := t) W m (by omega)
    rw [take_snoc (by omega), dec_snoc]
    exact ih.snoc (by rw [← take_snoc (by omega)]; exact W.take _)
theorem dec_of {t : Nat → Option Bool} {S : List Row} (W : Web S) : Decd S (dec t S).1 (dec t S).2 := by
  have := dec_take (t := t) W S.length (Nat.le_refl _)
  rwa [List.take_length] at this
/-- no either is left where all tests are decided -/
theorem dec_plain {t : Nat → Option Bool} {S : List Row} (W : Web S) (ht : ∀ k, k < S.length → (rowAt S k).isAsked = true → t k ≠ none) : ∀ m, m ≤ S.length → ∀ r ∈ (dec t (S.take m)).1, r.isEither = false
  | 0, _ => by
    rw [List.take_zero]
    exact fun _ h => nomatch h
  | m + 1, h => by
    have ih := dec_plain W ht m (by omega)
    rw [take_snoc (by omega), dec_snoc]
    cases e : decPlace t (dec t (S.take m)).2 S[m] with
    | some q =>
      rw [decStep_some e]
      exact ih
    | none =>
      rw [decStep_none e]
      show ∀ r ∈ newRows _ _, _
      intro r hr
      unfold newRows at hr
      split at hr
      · exact ih r hr
      · rcases List.mem_append.mp hr with z | z
        · exact ih r z
        · rw [List.mem_singleton.mp z]
          cases er : S[m] with
          | either a i j =>
            exfalso
            rw [er] at e
            have hw := (W.at_ (show m < S.length by omega)).1
            rw [rowAt_get (by omega), er] at hw
            obtain ⟨w1, w2, _, _⟩ := why_none.mp hw
            have ha := w1 a (by simp [Row.named])
            rw [List.length_take] at ha
            simp only [Row.badTest, Bool.not_eq_false'] at w2
            rw [rowAt_take (by omega)] at w2
            exact ht a (by omega) w2 (decPlace_none e).1
          | _ => rfl
theorem fL_old {ps : List Nat} {q k : Nat} (h : k < ps.length) : fL (ps ++ [q]) k = fL ps k := fL_app h
/-- the place of a row by what stood ahead of it, whichever came behind -/
def Comes (t : Nat → Option Bool) (G : List Row) (q : List Nat) (F : List Row) (k : Nat) : Prop :=
  match decPlace t q (rowAt F k) with
  | some v => fL q k = v
  | none => fL q k < G.length ∧ rowAt G (fL q k) = (rowAt F k).led (fL q)
theorem decPlace_congr {t : Nat → Option Bool} {p q : List Nat} {r : Row} (h : ∀ k ∈ r.named, fL p k = fL q k) : decPlace t p r = decPlace t q r := by
  cases r with
  | either a i j =>
    rw [decPlace_either, decPlace_either, h i (by simp [Row.named]), h j (by simp [Row.named])]
    cases t a with
    | some b => cases b <;> simp [h i (by simp [Row.named]), h j (by simp [Row.named])]
    | none => rfl
  | _ => rfl
theorem comes {t : Nat → Option Bool} {F : List Row} (W : Web F) : ∀ m, m ≤ F.length → ∀ k, k < m → Comes t (dec t (F.take m)).1 (dec t (F.take m)).2 F k
  | 0, _, k, hk => absurd hk (Nat.not_lt_zero k)
  | m + 1, h, k, hk => by
    have J := dec_take (t := t) W m (by omega)
    have hl := J.len
    rw [List.length_take, Nat.min_eq_left (by omega)] at hl
    rw [take_snoc (by omega), dec_snoc]
    have ahead := fun j (hj : j < F.length) => W.ahead hj
    have en : ∀ (q : Nat) (j : Nat), j ≤ m → ∀ n ∈ (rowAt F j).named, fL ((dec t (F.take m)).2 ++ [q]) n = fL (dec t (F.take m)).2 n := fun q j hj n hn => fL_old (by have := ahead j (by omega) n hn; omega)
    have last : ∀ q, fL ((dec t (F.take m)).2 ++ [q]) m = q := fun q => by
      have := fL_last (dec t (F.take m)).2 q
      rwa [hl] at this
    have em : F[m] = rowAt F m := (rowAt_get (by omega)).symm
    rw [em]
    cases e : decPlace t (dec t (F.take m)).2 (rowAt F m) with
    | some q =>
      rw [decStep_some e]
      unfold Comes
      dsimp only
      by_cases hk' : k < m
      · have ih := comes (t := t) W m (by omega) k hk'
        unfold Comes at ih
        rw [decPlace_congr (en q k (by omega)), fL_old (by omega), Row.led_congr (en q k (by omega))]
        exact ih
      · have : k = m := by omega
        subst this
        rw [decPlace_congr (en q k (Nat.le_refl k)), e]
        exact last q
    | none =>
      rw [decStep_none e]
      obtain ⟨n1, n2, n3⟩ := newRows_at (dec t (F.take m)).1 ((rowAt F m).led (fL (dec t (F.take m)).2))
      unfold Comes
      dsimp only
      generalize hq : idxOf (dec t (F.take m)).1 ((rowAt F m).led (fL (dec t (F.take m)).2)) = q at *
      by_cases hk' : k < m
      · have ih := comes (t := t) W m (by omega) k hk'
        unfold Comes at ih
        rw [decPlace_congr (en q k (by omega)), fL_old (by omega), Row.led_congr (en q k (by omega))]
        cases e2 : decPlace t (dec t (F.take m)).2 (rowAt F k) with
        | some v => rw [e2] at ih; exact ih
        | none =>
          rw [e2] at ih
          obtain ⟨i1, i2⟩ := ih
          exact ⟨(n3 _ i1).1, by rw [(n3 _ i1).2]; exact i2⟩
      · have : k = m := by omega
        subst this
        rw [decPlace_congr (en q k (Nat.le_refl k)), e]
        dsimp only
        rw [last, Row.led_congr (en q k (Nat.le_refl k))]
        exact ⟨n1, n2⟩
theorem comes_all {t : Nat → Option Bool} {F : List Row} (W : Web F) {k : Nat} (hk : k < F.length) : Comes t (dec t F).1 (dec t F).2 F k := by
  have := comes (t := t) W F.length (Nat.le_refl _) k hk
  rwa [List.take_length] at this
theorem Row.led_led {r : Row} {f g h : Nat → Nat} (e : ∀ k ∈ r.named, g (f k) = h k) : (r.led f).led g = r.led h := by
  cases r with
  | made n ks => simp only [Row.led, List.map_map, Row.made.injEq, true_and]; exact List.map_congr_left e
  | asked n ks => simp only [Row.led, List.map_map, Row.asked.injEq, true_and]; exact List.map_congr_left e
  | either a i j => simp only [Row.led, e a (by simp [Row.named]), e i (by simp [Row.named]), e j (by simp [Row.named])]
  | given k => rfl
theorem idxOf_web {R : List Row} {r : Row} {k : Nat} (W : Web R) (hk : k < R.length) (e : rowAt R k = r) : newRows R r = R ∧ idxOf R r = k := by
  have hm : r ∈ R := by rw [← e]; exact rowAt_mem hk
  refine ⟨by unfold newRows; rw [if_pos hm], ?_⟩
  obtain ⟨_, h2, h3⟩ := idxOf_at hm
  exact W.inj h2 hk (h3.trans e.symm)
/-- some tests decided, then the others: as all at once -/
theorem dec_dec {t t1 t2 : Nat → Option Bool} {S : List Row} (W : Web S) (ht : ∀ a, a < S.length → (rowAt S a).isAsked = true → t a = (t1 a).or (t2 (fL (dec t1 S).2 a))) :
    ∀ m, m ≤ S.length → (dec t2 (dec t1 (S.take m)).1).1 = (dec t (S.take m)).1 ∧ ∀ k, k < m → fL (dec t2 (dec t1 (S.take m)).1).2 (fL (dec t1 (S.take m)).2 k) = fL (dec t (S.take m)).2 k := by
  have pre : ∀ m, m ≤ S.length → ∀ k, k < m → fL (dec t1 (S.take m)).2 k = fL (dec t1 S).2 k := by
    have step : ∀ m, m < S.length → ∀ k, k < m → fL (dec t1 (S.take (m + 1))).2 k = fL (dec t1 (S.take m)).2 k := fun m hm k hk => by
      have J := dec_take (t := t1) W m (by omega)
      have hl := J.len
      rw [List.length_take, Nat.min_eq_left (by omega)] at hl
      rw [take_snoc hm, dec_snoc]
      cases e : decPlace t1 (dec t1 (S.take m)).2 S[m] with
      | some q => rw [decStep_some e]; exact fL_old (by omega)
      | none => rw [decStep_none e]; exact fL_old (by omega)
    have up : ∀ d m, m + d ≤ S.length → ∀ k, k < m → fL (dec t1 (S.take (m + d))).2 k = fL (dec t1 (S.take m)).2 k := by
      intro d
      induction d with
      | zero => exact fun _ _ _ _ => rfl
      | succ d ih => exact fun m h k hk => (step (m + d) (by omega) k (by omega)).trans (ih m (by omega) k hk)
    intro m hm k hk
    have := up (S.length - m) m (by omega) k hk
    rw [show m + (S.length - m) = S.length by omega, List.take_length] at this
    exact this.symm
  intro m
  induction m with
  | zero =>
    intro _
    rw [List.take_zero]
    exact ⟨rfl, fun _ h => absurd h (Nat.not_lt_zero _)⟩
  | succ m ih =>
    intro hm
    obtain ⟨ih1, ih2⟩ := ih (by omega)
    have J1 := dec_take (t := t1) W m (by omega)
    have J := dec_take (t := t) W m (by omega)
    have l1 := J1.len
    have l := J.len
    rw [List.length_take, Nat.min_eq_left (by omega)] at l1 l
    have pm := pre m (by omega)
    have hrow := W.at_ (show m < S.length by omega)
    rw [rowAt_get (by omega)] at hrow
    have hnam : ∀ k ∈ (S[m]).named, k < m := fun k hk => by
      have := W.ahead (show m < S.length by omega)
      rw [rowAt_get (by omega)] at this
      exact this k hk
    rw [take_snoc (by omega), dec_snoc, dec_snoc]
    clear ih
    obtain ⟨F, p, e1⟩ : ∃ F p, dec t1 (S.take m) = (F, p) := ⟨_, _, rfl⟩
    obtain ⟨H, r, e0⟩ : ∃ H r, dec t (S.take m) = (H, r) := ⟨_, _, rfl⟩
    rw [e1] at pm J1 l1 ih1 ih2 ⊢
    rw [e0] at J l ih1 ih2 ⊢
    dsimp only at pm J1 l1 J l ih1 ih2
    have WF := J1.web
    have J2 := dec_of (t := t2) WF
    have l2 := J2.len
    have led2 : ∀ {x : Row}, (∀ k ∈ x.named, k < m) → (x.led (fL p)).led (fL (dec t2 F).2) = x.led (fL r) := fun hx => Row.led_led fun k hk => ih2 k (hx k hk)
    have tests : ∀ a i j, S[m] = .either a i j → t a = (t1 a).or (t2 (fL p a)) := fun a i j ea => by
      obtain ⟨w1, w2, _, _⟩ := why_none.mp hrow.1
      rw [ea] at w1 w2
      have ha := w1 a (by simp [Row.named])
      rw [List.length_take] at ha
      simp only [Row.badTest, Bool.not_eq_false'] at w2
      rw [rowAt_take (by omega)] at w2
      rw [ht a (by omega) w2, pm a (by omega)]
    have lastr : ∀ q, fL (r ++ [q]) m = q := fun q => by rw [← l]; exact fL_last _ _
    have lastp : ∀ q, fL (p ++ [q]) m = q := fun q => by rw [← l1]; exact fL_last _ _
    cases e : decPlace t1 p S[m] with
    | some k =>
      rw [decStep_some (x := (F, p)) e]
      obtain ⟨a, i, j, er, hk⟩ := decPlace_some e
      have hi := hnam i (by rw [er]; simp [Row.named])
      have hj := hnam j (by rw [er]; simp [Row.named])
      have key : decPlace t r S[m] = some (fL (dec t2 F).2 k) := by
        have e' := e
        rw [er, decPlace_either] at e' ⊢
        have ta := tests a i j er
        cases h1 : t1 a with
        | some b =>
          rw [h1] at e' ta
          have hta : t a = some b := ta
          rw [hta]
          have hk2 := Option.some.inj e'
          rw [← hk2]
          cases b with
          | true => exact congrArg some (ih2 i hi).symm
          | false => exact congrArg some (ih2 j hj).symm
        | none =>
          rw [h1] at e' ta
          dsimp only at e'
          have hta : t a = t2 (fL p a) := ta
          by_cases hij : fL p i = fL p j
          · rw [if_pos hij] at e'
            have hk2 := Option.some.inj e'
            have rij : fL r i = fL r j := by rw [← ih2 i hi, ← ih2 j hj, hij]
            rw [← hk2, ih2 i hi]
            cases t a with
            | some b => cases b <;> simp [rij]
            | none => simp [rij]
          · rw [if_neg hij] at e'
            cases e'
      rw [decStep_some (x := (H, r)) key]
      refine ⟨ih1, fun k' hk' => ?_⟩
      show fL (dec t2 F).2 (fL (p ++ [k]) k') = fL (r ++ [_]) k'
      by_cases h' : k' < m
      · rw [fL_old (by omega), fL_old (by omega)]
        exact ih2 k' h'
      · have : k' = m := by omega
        subst this
        rw [lastp, lastr]
    | none =>
      rw [decStep_none (x := (F, p)) e]
      have hled := led2 hnam
      -- the same way in both
      have same : decPlace t2 (dec t2 F).2 ((S[m]).led (fL p)) = decPlace t r S[m] := by
        cases er : S[m] with
        | either a i j =>
          have hi := hnam i (by rw [er]; simp [Row.named])
          have hj := hnam j (by rw [er]; simp [Row.named])
          rw [er] at e
          have ta := tests a i j er
          rw [(decPlace_none e).1] at ta
          have hta : t a = t2 (fL p a) := ta
          show decPlace t2 _ (.either (fL p a) (fL p i) (fL p j)) = _
          rw [decPlace_either, decPlace_either, hta, ← ih2 i hi, ← ih2 j hj]
          cases t2 (fL p a) with
          | some b => cases b <;> simp [ih2 i hi, ih2 j hj]
          | none => rfl
        | _ => rfl
      show (dec t2 (newRows F ((S[m]).led (fL p)))).1 = _ ∧ ∀ k, k < m + 1 → fL (dec t2 (newRows F ((S[m]).led (fL p)))).2 (fL (p ++ [idxOf F ((S[m]).led (fL p))]) k) = _
      by_cases hm1 : (S[m]).led (fL p) ∈ F
      · have eN : newRows F ((S[m]).led (fL p)) = F := by unfold newRows; rw [if_pos hm1]
        obtain ⟨_, k2, k3⟩ := idxOf_at hm1
        rw [eN]
        generalize hk : idxOf F ((S[m]).led (fL p)) = k at *
        have C := comes_all (t := t2) WF k2
        unfold Comes at C
        rw [k3, same] at C
        cases e3 : decPlace t r S[m] with
        | some v =>
          rw [e3] at C
          rw [decStep_some (x := (H, r)) e3]
          refine ⟨ih1, fun k' hk' => ?_⟩
          show _ = fL (r ++ [v]) k'
          by_cases h' : k' < m
          · rw [fL_old (by omega), fL_old (by omega)]
            exact ih2 k' h'
          · have : k' = m := by omega
            subst this
            rw [lastp, lastr]
            exact C
        | none =>
          rw [e3] at C
          dsimp only at C
          rw [hled, ih1] at C
          rw [decStep_none (x := (H, r)) e3]
          obtain ⟨x1, x2⟩ := idxOf_web J.web C.1 C.2
          refine ⟨ih1.trans x1.symm, fun k' hk' => ?_⟩
          show _ = fL (r ++ [idxOf H ((S[m]).led (fL r))]) k'
          rw [x2]
          by_cases h' : k' < m
          · rw [fL_old (by omega), fL_old (by omega)]
            exact ih2 k' h'
          · have : k' = m := by omega
            subst this
            rw [lastp, lastr]
      · have eN : newRows F ((S[m]).led (fL p)) = F ++ [(S[m]).led (fL p)] := by unfold newRows; rw [if_neg hm1]
        have eI : idxOf F ((S[m]).led (fL p)) = F.length := idxOf_new hm1
        rw [eN, eI, dec_snoc]
        have lastq : ∀ q, fL ((dec t2 F).2 ++ [q]) F.length = q := fun q => by rw [← l2]; exact fL_last _ _
        have oldq : ∀ q k', k' < m → fL ((dec t2 F).2 ++ [q]) (fL p k') = fL r k' := fun q k' hk' => by
          have := J1.lt k' (by rw [List.length_take]; omega)
          rw [fL_old (by omega)]
          exact ih2 k' hk'
        cases e3 : decPlace t r S[m] with
        | some v =>
          rw [e3] at same
          rw [decStep_some same, decStep_some (x := (H, r)) e3]
          refine ⟨ih1, fun k' hk' => ?_⟩
          show fL ((dec t2 F).2 ++ [v]) (fL (p ++ [F.length]) k') = fL (r ++ [v]) k'
          by_cases h' : k' < m
          · rw [fL_old (ps := p) (by omega), fL_old (ps := r) (by omega)]
            exact oldq v k' h'
          · have : k' = m := by omega
            subst this
            rw [lastp, lastr, lastq]
        | none =>
          rw [e3] at same
          rw [decStep_none same, decStep_none (x := (H, r)) e3]
          show newRows (dec t2 F).1 _ = newRows H _ ∧ _
          rw [hled, ih1]
          refine ⟨rfl, fun k' hk' => ?_⟩
          show fL ((dec t2 F).2 ++ [idxOf H ((S[m]).led (fL r))]) (fL (p ++ [F.length]) k') = fL (r ++ [idxOf H ((S[m]).led (fL r))]) k'
          by_cases h' : k' < m
          · rw [fL_old (ps := p) (by omega), fL_old (ps := r) (by omega)]
            exact oldq _ k' h'
          · have : k' = m := by omega
            subst this
            rw [lastp, lastr, lastq]
end K8

/-! Webs measured: no Python here. -/
namespace K8
def Row.isMade : Row → Bool
  | .made _ _ => true
  | _ => false
def Row.own (r : Row) : Nat := if r.isMade = true then 1 else 0
def maxL : List Nat → Nat
  | [] => 0
  | k :: ks => Nat.max k (maxL ks)
theorem maxL_le {ks : List Nat} {c : Nat} (h : ∀ k ∈ ks, k ≤ c) : maxL ks ≤ c := by
  induction ks with
  | nil => exact Nat.zero_le _
  | cons k ks ih => exact Nat.max_le.mpr ⟨h k (List.mem_cons_self ..), ih fun j hj => h j (List.mem_cons_of_mem _ hj)⟩
theorem le_maxL {ks : List Nat} {k : Nat} (h : k ∈ ks) : k ≤ maxL ks := by
  induction ks with
  | nil => cases h
  | cons j ks ih =>
    rcases List.mem_cons.mp h with rfl | z
    · exact Nat.le_max_left ..
    · exact Nat.le_trans (ih z) (Nat.le_max_right ..)
/-- row by row: its own, and f of what it names -/
def measG (f : List Nat → Nat) (R : List Row) : List Nat := R.foldl (fun ds r => ds ++ [r.own + f (r.named.map (fL ds))]) []
theorem meas_snoc (f : List Nat → Nat) (R : List Row) (r : Row) : measG f (R ++ [r]) = measG f R ++ [r.own + f (r.named.map (fL (measG f R)))] := by
  unfold measG
  rw [List.foldl_append]
  rfl
theorem meas_len (f : List Nat → Nat) (R : List Row) : ∀ m, m ≤ R.length → (measG f (R.take m)).length = m
  | 0, _ => by rw [List.take_zero]; rfl
  | m + 1, h => by
    rw [take_snoc (by omega), meas_snoc, List.length_append, meas_len f R m (by omega)]
    rfl
theorem meas_pre (f : List Nat → Nat) (R : List Row) {m : Nat} : ∀ d, m + d ≤ R.length → ∀ k, k < m → fL (measG f (R.take (m + d))) k = fL (measG f (R.take m)) k
  | 0, _, _, _ => rfl
  | d + 1, h, k, hk => by
    rw [← Nat.add_assoc, take_snoc (by omega), meas_snoc, fL_old (by rw [meas_len f R _ (by omega)]; omega)]
    exact meas_pre f R d (by omega) k hk
theorem meas_all (f : List Nat → Nat) (R : List Row) {m k : Nat} (hm : m ≤ R.length) (hk : k < m) : fL (measG f R) k = fL (measG f (R.take m)) k := by
  have := meas_pre f R (m := m) (R.length - m) (by omega) k hk
  rwa [show m + (R.length - m) = R.length by omega, List.take_length] at this
theorem meas_at {f : List Nat → Nat} {R : List Row} (W : Web R) {k : Nat} (hk : k < R.length) : fL (measG f R) k = (rowAt R k).own + f ((rowAt R k).named.map (fL (measG f R))) := by
  have e : (rowAt R k).named.map (fL (measG f (R.take k))) = (rowAt R k).named.map (fL (measG f R)) := List.map_congr_left fun j hj => (meas_all f R (by omega) (W.ahead hk j hj)).symm
  rw [meas_all f R (m := k + 1) (by omega) (by omega), take_snoc hk, meas_snoc, ← rowAt_get hk, e]
  have l := meas_len f R k (by omega)
  have := fL_last (measG f (R.take k)) ((rowAt R k).own + f ((rowAt R k).named.map (fL (measG f R))))
  rwa [l] at this
/-! ### made rows that are reached -/
open Classical in
noncomputable def ind (R : List Row) (k x : Nat) : Nat := if Rch R [k] x then (rowAt R x).own else 0
noncomputable def stepsOf (R : List Row) (k : Nat) : Nat := ((List.range R.length).map (ind R k)).sum
theorem rch_one {R : List Row} {k x : Nat} : Rch R [k] x ↔ x = k ∨ ∃ j ∈ (rowAt R k).named, Rch R [j] x := by
  constructor
  · intro h
    induction h with
    | tip h => exact .inl (List.mem_singleton.mp h)
    | step h1 h2 ih =>
      rename_i y z
      rcases ih with rfl | ⟨j, hj, hr⟩
      · exact .inr ⟨_, h2, .tip (List.mem_singleton.mpr rfl)⟩
      · exact .inr ⟨j, hj, .step hr h2⟩
  · rintro (rfl | ⟨j, hj, hr⟩)
    · exact .tip (List.mem_singleton.mpr rfl)
    · induction hr with
      | tip h =>
        have e := List.mem_singleton.mp h
        rw [e]
        exact Rch.step (k := k) (.tip (List.mem_singleton.mpr rfl)) hj
      | step _ h2 ih => exact .step ih h2
theorem rch_le {R : List Row} (W : Web R) {k x : Nat} (hk : k < R.length) (h : Rch R [k] x) : x ≤ k := by
  induction h with
  | tip h => rw [List.mem_singleton.mp h]; exact Nat.le_refl _
  | step h1 h2 ih => exact Nat.le_of_lt (Nat.lt_of_lt_of_le (W.ahead (by omega) _ h2) ih)
theorem sum_mono {f g : Nat → Nat} : ∀ {l : List Nat}, (∀ x ∈ l, f x ≤ g x) → (l.map f).sum ≤ (l.map g).sum
  | [], _ => Nat.le_refl _
  | a :: l, h => by
    simp only [List.map_cons, List.sum_cons]
    exact Nat.add_le_add (h a (List.mem_cons_self ..)) (sum_mono fun x hx => h x (List.mem_cons_of_mem _ hx))
theorem sum_add (f g : Nat → Nat) : ∀ l : List Nat, (l.map fun x => f x + g x).sum = (l.map f).sum + (l.map g).sum
  | [] => rfl
  | a :: l => by
    simp only [List.map_cons, List.sum_cons, sum_add f g l]
    omega
theorem sum_zero (l : List Nat) : (l.map fun _ => 0).sum = 0 := by
  induction l with
  | nil => rfl
  | cons a l ih => rw [List.map_cons, List.sum_cons, ih]
theorem sum_one {k c : Nat} : ∀ {l : List Nat}, l.Nodup → k ∈ l → (l.map fun x => if x = k then c else 0).sum = c
  | [], _, h => nomatch h
  | a :: l, n, h => by
    rw [List.nodup_cons] at n
    rw [List.map_cons, List.sum_cons]
    by_cases e : a = k
    · subst e
      rw [if_pos rfl]
      have : (l.map fun x => if x = a then c else 0) = l.map fun _ => 0 := List.map_congr_left fun x hx => if_neg fun z => n.1 (by rw [← z]; exact hx)
      rw [this, sum_zero]
      rfl
    · rw [if_neg e, sum_one n.2 ((List.mem_cons.mp h).resolve_left fun z => e z.symm), Nat.zero_add]
theorem sum_swap (f : Nat → Nat → Nat) (l : List Nat) : ∀ ks : List Nat, (l.map fun x => (ks.map fun j => f j x).sum).sum = (ks.map fun j => (l.map (f j)).sum).sum
  | [] => by simp only [List.map_nil, List.sum_nil]; exact sum_zero l
  | k :: ks => by
    simp only [List.map_cons, List.sum_cons]
    rw [sum_add (f k) (fun x => (ks.map fun j => f j x).sum) l, sum_swap f l ks]
theorem depth_steps {R : List Row} (W : Web R) : ∀ n k, k < n → k < R.length → fL (measG maxL R) k ≤ stepsOf R k
  | 0, _, h, _ => absurd h (Nat.not_lt_zero _)
  | n + 1, k, hn, hk => by
    rw [meas_at W hk]
    have one : ∀ c, c = 0 ∨ (∃ j ∈ (rowAt R k).named, c = fL (measG maxL R) j) → (rowAt R k).own + c ≤ stepsOf R k := by
      rintro c (rfl | ⟨j, hj, rfl⟩)
      · have := sum_mono (l := List.range R.length) (f := fun x => if x = k then (rowAt R k).own else 0) (g := ind R k) fun x _ => by
          by_cases e : x = k
          · subst e
            rw [if_pos rfl, ind, if_pos (.tip (List.mem_singleton.mpr rfl))]
            exact Nat.le_refl _
          · rw [if_neg e]
            exact Nat.zero_le _
        rw [sum_one List.nodup_range (List.mem_range.mpr hk)] at this
        exact this
      · have hjk := W.ahead hk j hj
        have ih := depth_steps W n j (by omega) (by omega)
        have := sum_mono (l := List.range R.length) (f := fun x => (if x = k then (rowAt R k).own else 0) + ind R j x) (g := ind R k) fun x _ => by
          by_cases e : x = k
          · subst e
            have i1 : ind R x x = (rowAt R x).own := if_pos (.tip (List.mem_singleton.mpr rfl))
            have i2 : ind R j x = 0 := if_neg fun z => by have := rch_le W (by omega) z; omega
            rw [if_pos rfl, i1, i2]
            exact Nat.le_refl _
          · rw [if_neg e, Nat.zero_add]
            unfold ind
            by_cases h : Rch R [j] x
            · rw [if_pos h, if_pos (rch_one.mpr (.inr ⟨j, hj, h⟩))]
              exact Nat.le_refl _
            · rw [if_neg h]
              exact Nat.zero_le _
        rw [sum_add, sum_one List.nodup_range (List.mem_range.mpr hk)] at this
        exact Nat.le_trans (Nat.add_le_add_left ih _) this
    have top : ∀ ks : List Nat, maxL ks = 0 ∨ maxL ks ∈ ks := by
      intro ks
      induction ks with
      | nil => exact .inl rfl
      | cons a ks ih =>
        show Nat.max a (maxL ks) = 0 ∨ Nat.max a (maxL ks) ∈ _
        rcases Nat.le_total a (maxL ks) with h | h
        · rw [show Nat.max a (maxL ks) = maxL ks from Nat.max_eq_right h]
          exact ih.imp id fun z => List.mem_cons_of_mem _ z
        · rw [show Nat.max a (maxL ks) = a from Nat.max_eq_left h]
          exact .inr (List.mem_cons_self ..)
    refine one _ ((top _).imp id fun z => ?_)
    obtain ⟨j, hj, e⟩ := List.mem_map.mp z
    exact ⟨j, hj, e.symm⟩
theorem steps_tree {R : List Row} (W : Web R) : ∀ n k, k < n → k < R.length → stepsOf R k ≤ fL (measG List.sum R) k
  | 0, _, h, _ => absurd h (Nat.not_lt_zero _)
  | n + 1, k, hn, hk => by
    rw [meas_at W hk]
    have h1 := sum_mono (l := List.range R.length) (f := ind R k) (g := fun x => (if x = k then (rowAt R k).own else 0) + ((rowAt R k).named.map fun j => ind R j x).sum) fun x _ => by
      by_cases h : Rch R [k] x
      · rw [ind, if_pos h]
        rcases rch_one.mp h with rfl | ⟨j, hj, hr⟩
        · rw [if_pos rfl]
          exact Nat.le_add_right ..
        · refine Nat.le_trans ?_ (Nat.le_add_left ..)
          have e : ind R j x = (rowAt R x).own := by rw [ind, if_pos hr]
          rw [← e]
          have : ∀ l : List Nat, j ∈ l → ind R j x ≤ (l.map fun j => ind R j x).sum := by
            intro l
            induction l with
            | nil => exact fun h => nomatch h
            | cons a l ih =>
              intro hl
              rw [List.map_cons, List.sum_cons]
              rcases List.mem_cons.mp hl with rfl | z
              · exact Nat.le_add_right ..
              · exact Nat.le_trans (ih z) (Nat.le_add_left ..)
          exact this _ hj
      · rw [ind, if_neg h]
        exact Nat.zero_le _
    rw [sum_add, sum_one List.nodup_range (List.mem_range.mpr hk), sum_swap (fun j x => ind R j x)] at h1
    refine Nat.le_trans h1 (Nat.add_le_add_left ?_ _)
    exact sum_mono fun j hj => steps_tree W n j (by have := W.ahead hk j hj; omega) (by have := W.ahead hk j hj; omega)
/-- made rows of a cone, counted -/
theorem steps_cone {R : List Row} (W : Web R) {k : Nat} (hk : k < R.length) {ks : List Nat} (C : IsCone R [k] ks) : (ks.filter fun j => (rowAt R j).isMade).length = stepsOf R k := by
  classical
  have e : ks = (List.range R.length).filter fun x => decide (Rch R [k] x) := C.uniq ⟨List.pairwise_lt_range.filter _, fun x => by
    rw [List.mem_filter, List.mem_range, decide_eq_true_eq]
    exact ⟨fun h => h.2, fun h => ⟨h.lt W fun z hz => by rw [List.mem_singleton.mp hz]; exact hk, h⟩⟩⟩
  rw [e, List.filter_filter]
  unfold stepsOf
  have key : ∀ l : List Nat, (l.filter fun x => (rowAt R x).isMade && decide (Rch R [k] x)).length = (l.map (ind R k)).sum := by
    intro l
    induction l with
    | nil => rfl
    | cons a l ih =>
      rw [List.filter_cons, List.map_cons, List.sum_cons, ← ih]
      unfold ind Row.own
      by_cases h1 : Rch R [k] a
      · by_cases h2 : (rowAt R a).isMade = true
        · rw [if_pos (by simp [h1, h2]), if_pos h1, if_pos h2, List.length_cons, Nat.add_comm]
        · rw [if_neg (by simp [h2]), if_pos h1, if_neg h2, Nat.zero_add]
      · rw [if_neg (by simp [h1]), if_neg h1, Nat.zero_add]
  exact key _
theorem steps_between {R : List Row} (W : Web R) {k : Nat} (hk : k < R.length) {ks : List Nat} (C : IsCone R [k] ks) :
    fL (measG maxL R) k ≤ (ks.filter fun j => (rowAt R j).isMade).length ∧ (ks.filter fun j => (rowAt R j).isMade).length ≤ fL (measG List.sum R) k := by
  rw [steps_cone W hk C]
  exact ⟨depth_steps W (k + 1) k (by omega) hk, steps_tree W (k + 1) k (by omega) hk⟩
/-- how great a tree gets: named at most c -/
theorem tree_le {R : List Row} (W : Web R) {c : Nat} (hc : ∀ k, k < R.length → (rowAt R k).named.length ≤ c) : ∀ n k, k < n → k < R.length → fL (measG List.sum R) k ≤ (c + 1) ^ k
  | 0, _, h, _ => absurd h (Nat.not_lt_zero _)
  | n + 1, k, hn, hk => by
    rw [meas_at W hk]
    have own1 : (rowAt R k).own ≤ 1 := by unfold Row.own; split <;> omega
    have hs : ∀ l : List Nat, (∀ j ∈ l, j < k) → (l.map (fL (measG List.sum R))).sum ≤ l.length * (c + 1) ^ (k - 1) := by
      intro l
      induction l with
      | nil => exact fun _ => Nat.zero_le _
      | cons a l ih =>
        intro h
        have ha := h a (List.mem_cons_self ..)
        have h1 := tree_le W hc n a (by omega) (by omega)
        have h2 := ih fun j hj => h j (List.mem_cons_of_mem _ hj)
        have h3 : (c + 1) ^ a ≤ (c + 1) ^ (k - 1) := Nat.pow_le_pow_right (by omega) (by omega)
        rw [List.map_cons, List.sum_cons, List.length_cons, Nat.succ_mul]
        omega
    have h4 := hs (rowAt R k).named fun j hj => W.ahead hk j hj
    have h5 := Nat.mul_le_mul_right ((c + 1) ^ (k - 1)) (hc k hk)
    cases k with
    | zero =>
      have : (rowAt R 0).named = [] := by
        cases e : (rowAt R 0).named with
        | nil => rfl
        | cons a l =>
          have := W.ahead hk a (by rw [e]; exact List.mem_cons_self ..)
          omega
      rw [this]
      simpa using own1
    | succ k =>
      rw [Nat.add_sub_cancel] at h4 h5
      have h6 : 0 < (c + 1) ^ k := Nat.pow_pos (by omega)
      have h7 : (c + 1) ^ (k + 1) = c * (c + 1) ^ k + (c + 1) ^ k := by rw [Nat.pow_succ, Nat.mul_comm, Nat.add_mul, Nat.one_mul]
      omega
end K8

/-! A row led over: led_row, _law_g_led. -/
namespace K8
open PySem PySem.Spec PyProof.Rows L2 WR
abbrev spLed : Sp := fun vs H Q _ => ∃ (v u : V) (r : Row) (f : Nat → Nat), vs = [v, u] ∧ Dr All H v r.d ∧ r.named.length ≤ lim ∧ (∀ k ∈ r.named, Pl H u f k) ∧ ∀ a H', Sm H H' → Dr All H' (.ref a) (r.led f).d → Q (.ref a) H'
theorem Row.d_ref {N : Addr → Prop} {H : Hp} {v : V} {r : Row} (h : Dr N H v r.d) : ∃ a, v = .ref a := by
  cases r <;> (cases h; exact ⟨_, rfl⟩)
theorem nums_map (f : Nat → Nat) (ks : List Nat) : (nums ks).map (fun d => PyData.int (f (intOf d).toNat : Nat)) = nums (ks.map f) := by
  simp only [nums, List.map_map]
  refine List.map_congr_left fun k _ => ?_
  show PyData.int (f ((k : Int).toNat) : Nat) = PyData.int (f k : Nat)
  rw [Int.toNat_natCast]
section
variable {P : Program} {w : World} {K : PySem.W.Frag} {mg : Str → Option Value} {base : Heap}
theorem sc_led_row : FnScope ["row", "places", "at"] ["row", "places"] (defScope sled_row) := ⟨rfl, rfl, rfl, by decide +kernel, rfl, by decide +kernel, by decide +kernel⟩
/-- the tuple of the numbers of numbers -/
theorem led_comp {J : It} {vs : List Nat} {i : Nat} {σ : L2.St} {H1 : Hp} {D : Addr} {ks : List Nat} {f : Nat → Nat} {pl : V} {Qd : Hp → Prop} {j : Nat} (W : Walk J H1 (nums ks)) (nD : H1 D = none) (hlen : ks.length ≤ lim)
    (hw : ∀ x, wipe ((wipe σ vs).set i (some x)) vs = wipe σ vs) (h1 : ∀ x, ((wipe σ vs).set i (some x))[j]? = some (some pl)) (h2 : ∀ x, ((wipe σ vs).set i (some x))[i]? = some (some x)) (hp : ∀ k ∈ ks, Pl H1 pl f k)
    (hd : ∀ H2 ys, Sm H1 H2 → H2 D = some (.lst ys) → DrA All H2 ys (nums (ks.map f)) → Qd H2) :
    ∃ W : Nat → Nat → Hp → Prop, (∃ m, W 0 m (upd H1 D (.lst []))) ∧ ∀ i' m H, W i' m H →
      (J.stop i' H ∧ Qd H) ∨ (J.go i' H ∧ ∃ Nx : Hp → Prop, (∀ H', Nx H' → ∃ m', m' < m ∧ W (i' + 1) m' H') ∧ ∀ x H', J.yld i' H x H' → gName i x (wipe σ vs) H' fun σ2 H2 => wipe σ2 vs = wipe σ vs ∧ tYes σ2 H2 fun b H3 =>
        if b = true then (tOp (rIxP f) (tVar j) (tVar i)) σ2 H3 fun y H4 => ∃ acc, H4 D = some (.lst acc) ∧ acc.length < sizeLine ∧ Nx (upd H4 D (.lst (acc ++ [y]))) else Nx H3) := by
  refine lc_fz (fun d => PyData.int (f (intOf d).toNat : Nat)) W nD (by simpa [nums] using hlen) hw (fun _ _ => rfl) (fun x d H2 Q' hd' s2 rx q' => ?_) fun H2 ys s2 e ry => hd H2 ys s2 e (by rw [← nums_map]; exact ry)
  obtain ⟨k, hk, rfl⟩ := List.mem_map.mp hd'
  cases rx
  refine ⟨_, h1 _, _, h2 _, k, rfl, (hp k hk).sm s2, q' _ _ Sm.rfl' ?_⟩
  show Dr All H2 _ (PyData.int (f ((k : Int).toNat) : Nat))
  rw [Int.toNat_natCast]
  exact .int _
theorem ok_led_row (B : Bt mg) (F : Fn K mg dled_row) : Df P w K mg base CX0 1 "led_row" ["row", "places"] spLed := by
  obtain ⟨f, fd, hm, F⟩ := F
  refine ⟨f, fd, hm, F.kp, F.bindsN fun _ _ _ _ _ _ us hl => match us, hl with | [_, _], _ => rfl, ?_⟩
  refine F.ok sc_led_row (fun vs H Q E h => by obtain ⟨v, u, r, f, rfl, _⟩ := h; rfl) (fun cdv A outer s H vs Q E hr h => ?_)
  obtain ⟨v, u, r, f, rfl, rr, hn, hp, q⟩ := h
  refine ⟨_, PSs.nox (pss_cons (ps_if (pt_cmpR op_eq (pe_ix ix_D (pv 0) pe_int (fun _ _ => rfl)) pe_str (nomark _)) (pss_one (ps_ret (pv 0))) pss_nil)
      (pss_cons (ps_if (pt_cmpR op_eq (pe_ix ix_D (pv 0) pe_int (fun _ _ => rfl)) pe_str (nomark _)) (pss_one (ps_ret (pe_tup (pa_cons pe_str (pa_cons (pe_ix (ix_P (hu_of hr) f) (pv 1) (pe_ix ix_D (pv 0) pe_int (fun _ _ => rfl)) (fun _ _ => rfl)) (pa_cons (pe_ix (ix_P (hu_of hr) f) (pv 1) (pe_ix ix_D (pv 0) pe_int (fun _ _ => rfl)) (fun _ _ => rfl)) (pa_cons (pe_ix (ix_P (hu_of hr) f) (pv 1) (pe_ix ix_D (pv 0) pe_int (fun _ _ => rfl)) (fun _ _ => rfl)) pa_nil))))))) pss_nil)
      (pss_one (ps_ret (pe_tup (pa_cons (pe_ix ix_D (pv 0) pe_int (fun _ _ => rfl)) (pa_cons (pe_ix ix_D (pv 0) pe_int (fun _ _ => rfl)) (pa_cons (pe_callTy call_tupD (by rfl) B.tuple (by decide +kernel) (pa_cons (pe_lc (own := [("at", 2)]) (g := gName 2) (tt := tYes) rfl sc_led_row.nd (pi_seq (pe_ix ix_D (pv 0) pe_int (fun _ _ => rfl))) (blkOk_by (own := [("at", 2)]) (N := ["row", "places", "at"]) (sc := defScope sled_row) (by decide +kernel)) (fun _ _ _ _ _ => pg_name (i := 2) sc_led_row.nd rfl (by first | exact Or.inl rfl | exact Or.inr rfl)) (fun _ _ _ _ _ => pts_nil) (fun _ _ _ _ _ => (pe_ix (ix_P (hu_of hr) f) (pv 1) (pv 2) (fun _ _ => rfl)))) pa_nil)) pa_nil)))))))), ?_⟩

  cases r with
  | given k =>
    refine ⟨_, rfl, _, 0, _, rr, rfl, rfl, rfl, fun x0 r0 => ?_⟩
    cases r0.str_inv
    refine ⟨rfl, _, rfl, ite2 (fun _ => ?_) (fun z => absurd (decide_eq_true rfl) z)⟩
    obtain ⟨a, rfl⟩ := Row.d_ref rr
    exact ⟨_, rfl, q a H Sm.rfl' rr⟩
  | either a i j =>
    refine ⟨_, rfl, _, 0, _, rr, rfl, rfl, rfl, fun x0 r0 => ?_⟩
    cases r0.str_inv
    refine ⟨rfl, _, rfl, ite2 (fun z => absurd z (by decide +kernel)) (fun _ => ?_)⟩
    refine ⟨_, rfl, _, 0, _, rr, rfl, rfl, rfl, fun x0 r0 => ?_⟩
    cases r0.str_inv
    refine ⟨rfl, _, rfl, ite2 (fun _ => ?_) (fun z => absurd (decide_eq_true rfl) z)⟩
    refine ⟨_, rfl, _, rfl, _, 1, _, rr, rfl, rfl, rfl, fun x1 r1 => ?_⟩
    cases r1.int_inv
    refine ⟨a, rfl, hp a (by simp [Row.named]), ?_⟩
    refine ⟨_, rfl, _, rfl, _, 2, _, rr, rfl, rfl, rfl, fun x1 r1 => ?_⟩
    cases r1.int_inv
    refine ⟨i, rfl, hp i (by simp [Row.named]), ?_⟩
    refine ⟨_, rfl, _, rfl, _, 3, _, rr, rfl, rfl, rfl, fun x1 r1 => ?_⟩
    cases r1.int_inv
    refine ⟨j, rfl, hp j (by simp [Row.named]), ?_⟩
    refine ⟨(by show 4 ≤ sizeLine; decide), fun t ht => q t _ (Sm.new ht) ?_⟩
    exact .tup upd_same (.cons (.str _) (.cons (.int _) (.cons (.int _) (.one (.int _)))))
  | made n ks =>
    refine ⟨_, rfl, _, 0, _, rr, rfl, rfl, rfl, fun x0 r0 => ?_⟩
    cases r0.str_inv
    refine ⟨rfl, _, rfl, ite2 (fun z => absurd z (by decide +kernel)) (fun _ => ?_)⟩
    refine ⟨_, rfl, _, 0, _, rr, rfl, rfl, rfl, fun x0 r0 => ?_⟩
    cases r0.str_inv
    refine ⟨rfl, _, rfl, ite2 (fun z => absurd z (by decide +kernel)) (fun _ => ?_)⟩
    refine ⟨_, rfl, _, 0, _, rr, rfl, rfl, rfl, fun x0 r0 => ?_⟩
    cases r0.str_inv
    refine ⟨_, rfl, _, 1, _, rr, rfl, rfl, rfl, fun x1 r1 => ?_⟩
    cases r1.str_inv
    refine ⟨_, rfl, _, 2, _, rr, rfl, rfl, rfl, fun x2 r2 => ?_⟩
    obtain ⟨a2, xs2, rfl, hq2, rs2⟩ := r2.seq rfl
    refine ⟨a2, xs2, rfl, hq2, fun J hJ D nD => ?_⟩
    refine led_comp (.seq hJ rs2) nD hn (fun _ => rfl) (fun _ => rfl) (fun _ => rfl) hp fun H2 ys s2 eD ry => ?_
    refine ⟨_, .list (nums (ks.map f)), rfl, .lst trivial eD ry, rfl, fun v3 H3 s3 r3 => ⟨(by show 3 ≤ sizeLine; decide), fun t ht => ?_⟩⟩
    exact q t _ ((s2.trans s3).trans (Sm.new ht)) (.tup upd_same (.cons (.str _) (.cons (.str _) (.one (r3.sm (Sm.new ht))))))
  | asked n ks =>
    refine ⟨_, rfl, _, 0, _, rr, rfl, rfl, rfl, fun x0 r0 => ?_⟩
    cases r0.str_inv
    refine ⟨rfl, _, rfl, ite2 (fun z => absurd z (by decide +kernel)) (fun _ => ?_)⟩
    refine ⟨_, rfl, _, 0, _, rr, rfl, rfl, rfl, fun x0 r0 => ?_⟩
    cases r0.str_inv
    refine ⟨rfl, _, rfl, ite2 (fun z => absurd z (by decide +kernel)) (fun _ => ?_)⟩
    refine ⟨_, rfl, _, 0, _, rr, rfl, rfl, rfl, fun x0 r0 => ?_⟩
    cases r0.str_inv
    refine ⟨_, rfl, _, 1, _, rr, rfl, rfl, rfl, fun x1 r1 => ?_⟩
    cases r1.str_inv
    refine ⟨_, rfl, _, 2, _, rr, rfl, rfl, rfl, fun x2 r2 => ?_⟩
    obtain ⟨a2, xs2, rfl, hq2, rs2⟩ := r2.seq rfl
    refine ⟨a2, xs2, rfl, hq2, fun J hJ D nD => ?_⟩
    refine led_comp (.seq hJ rs2) nD hn (fun _ => rfl) (fun _ => rfl) (fun _ => rfl) hp fun H2 ys s2 eD ry => ?_
    refine ⟨_, .list (nums (ks.map f)), rfl, .lst trivial eD ry, rfl, fun v3 H3 s3 r3 => ⟨(by show 3 ≤ sizeLine; decide), fun t ht => ?_⟩⟩
    exact q t _ ((s2.trans s3).trans (Sm.new ht)) (.tup upd_same (.cons (.str _) (.cons (.str _) (.one (r3.sm (Sm.new ht))))))
theorem sc__law_led : FnScope ["row", "places", "one"] ["row", "places"] (defScope s_law_led) := ⟨rfl, rfl, rfl, by decide +kernel, rfl, by decide +kernel, by decide +kernel⟩
theorem ok__law_led (B : Bt mg) (F : Fn K mg d_law_led) : Df P w K mg base CX0 1 "_law_led" ["row", "places"] spLed := by
  obtain ⟨f, fd, hm, F⟩ := F
  refine ⟨f, fd, hm, F.kp, F.bindsN fun _ _ _ _ _ _ us hl => match us, hl with | [_, _], _ => rfl, ?_⟩
  refine F.ok sc__law_led (fun vs H Q E h => by obtain ⟨v, u, r, f, rfl, _⟩ := h; rfl) (fun cdv A outer s H vs Q E hr h => ?_)
  obtain ⟨v, u, r, f, rfl, rr, hn, hp, q⟩ := h
  refine ⟨_, PSs.nox (pss_cons (ps_if (pt_cmpR op_eq (pe_ix ix_D (pv 0) pe_int (fun _ _ => rfl)) pe_str (nomark _)) (pss_one (ps_ret (pv 0))) pss_nil)
      (pss_cons (ps_if (pt_cmpR op_eq (pe_ix ix_D (pv 0) pe_int (fun _ _ => rfl)) pe_str (nomark _)) (pss_one (ps_ret (pe_tup (pa_cons pe_str (pa_cons (pe_ix (ix_P (hu_of hr) f) (pv 1) (pe_ix ix_D (pv 0) pe_int (fun _ _ => rfl)) (fun _ _ => rfl)) (pa_cons (pe_ix (ix_P (hu_of hr) f) (pv 1) (pe_ix ix_D (pv 0) pe_int (fun _ _ => rfl)) (fun _ _ => rfl)) (pa_cons (pe_ix (ix_P (hu_of hr) f) (pv 1) (pe_ix ix_D (pv 0) pe_int (fun _ _ => rfl)) (fun _ _ => rfl)) pa_nil))))))) pss_nil)
      (pss_one (ps_ret (pe_tup (pa_cons (pe_ix ix_D (pv 0) pe_int (fun _ _ => rfl)) (pa_cons (pe_ix ix_D (pv 0) pe_int (fun _ _ => rfl)) (pa_cons (pe_callTy call_tupD (by rfl) B.tuple (by decide +kernel) (pa_cons (pe_lc (own := [("one", 2)]) (g := gName 2) (tt := tYes) rfl sc__law_led.nd (pi_seq (pe_ix ix_D (pv 0) pe_int (fun _ _ => rfl))) (blkOk_by (own := [("one", 2)]) (N := ["row", "places", "one"]) (sc := defScope s_law_led) (by decide +kernel)) (fun _ _ _ _ _ => pg_name (i := 2) sc__law_led.nd rfl (by first | exact Or.inl rfl | exact Or.inr rfl)) (fun _ _ _ _ _ => pts_nil) (fun _ _ _ _ _ => (pe_ix (ix_P (hu_of hr) f) (pv 1) (pv 2) (fun _ _ => rfl)))) pa_nil)) pa_nil)))))))), ?_⟩

  cases r with
  | given k =>
    refine ⟨_, rfl, _, 0, _, rr, rfl, rfl, rfl, fun x0 r0 => ?_⟩
    cases r0.str_inv
    refine ⟨rfl, _, rfl, ite2 (fun _ => ?_) (fun z => absurd (decide_eq_true rfl) z)⟩
    obtain ⟨a, rfl⟩ := Row.d_ref rr
    exact ⟨_, rfl, q a H Sm.rfl' rr⟩
  | either a i j =>
    refine ⟨_, rfl, _, 0, _, rr, rfl, rfl, rfl, fun x0 r0 => ?_⟩
    cases r0.str_inv
    refine ⟨rfl, _, rfl, ite2 (fun z => absurd z (by decide +kernel)) (fun _ => ?_)⟩
    refine ⟨_, rfl, _, 0, _, rr, rfl, rfl, rfl, fun x0 r0 => ?_⟩
    cases r0.str_inv
    refine ⟨rfl, _, rfl, ite2 (fun _ => ?_) (fun z => absurd (decide_eq_true rfl) z)⟩
    refine ⟨_, rfl, _, rfl, _, 1, _, rr, rfl, rfl, rfl, fun x1 r1 => ?_⟩
    cases r1.int_inv
    refine ⟨a, rfl, hp a (by simp [Row.named]), ?_⟩
    refine ⟨_, rfl, _, rfl, _, 2, _, rr, rfl, rfl, rfl, fun x1 r1 => ?_⟩
    cases r1.int_inv
    refine ⟨i, rfl, hp i (by simp [Row.named]), ?_⟩
    refine ⟨_, rfl, _, rfl, _, 3, _, rr, rfl, rfl, rfl, fun x1 r1 => ?_⟩
    cases r1.int_inv
    refine ⟨j, rfl, hp j (by simp [Row.named]), ?_⟩
    refine ⟨(by show 4 ≤ sizeLine; decide), fun t ht => q t _ (Sm.new ht) ?_⟩
    exact .tup upd_same (.cons (.str _) (.cons (.int _) (.cons (.int _) (.one (.int _)))))
  | made n ks =>
    refine ⟨_, rfl, _, 0, _, rr, rfl, rfl, rfl, fun x0 r0 => ?_⟩
    cases r0.str_inv
    refine ⟨rfl, _, rfl, ite2 (fun z => absurd z (by decide +kernel)) (fun _ => ?_)⟩
    refine ⟨_, rfl, _, 0, _, rr, rfl, rfl, rfl, fun x0 r0 => ?_⟩
    cases r0.str_inv
    refine ⟨rfl, _, rfl, ite2 (fun z => absurd z (by decide +kernel)) (fun _ => ?_)⟩
    refine ⟨_, rfl, _, 0, _, rr, rfl, rfl, rfl, fun x0 r0 => ?_⟩
    cases r0.str_inv
    refine ⟨_, rfl, _, 1, _, rr, rfl, rfl, rfl, fun x1 r1 => ?_⟩
    cases r1.str_inv
    refine ⟨_, rfl, _, 2, _, rr, rfl, rfl, rfl, fun x2 r2 => ?_⟩
    obtain ⟨a2, xs2, rfl, hq2, rs2⟩ := r2.seq rfl
    refine ⟨a2, xs2, rfl, hq2, fun J hJ D nD => ?_⟩
    refine led_comp (.seq hJ rs2) nD hn (fun _ => rfl) (fun _ => rfl) (fun _ => rfl) hp fun H2 ys s2 eD ry => ?_
    refine ⟨_, .list (nums (ks.map f)), rfl, .lst trivial eD ry, rfl, fun v3 H3 s3 r3 => ⟨(by show 3 ≤ sizeLine; decide), fun t ht => ?_⟩⟩
    exact q t _ ((s2.trans s3).trans (Sm.new ht)) (.tup upd_same (.cons (.str _) (.cons (.str _) (.one (r3.sm (Sm.new ht))))))
  | asked n ks =>
    refine ⟨_, rfl, _, 0, _, rr, rfl, rfl, rfl, fun x0 r0 => ?_⟩
    cases r0.str_inv
    refine ⟨rfl, _, rfl, ite2 (fun z => absurd z (by decide +kernel)) (fun _ => ?_)⟩
    refine ⟨_, rfl, _, 0, _, rr, rfl, rfl, rfl, fun x0 r0 => ?_⟩
    cases r0.str_inv
    refine ⟨rfl, _, rfl, ite2 (fun z => absurd z (by decide +kernel)) (fun _ => ?_)⟩
    refine ⟨_, rfl, _, 0, _, rr, rfl, rfl, rfl, fun x0 r0 => ?_⟩
    cases r0.str_inv
    refine ⟨_, rfl, _, 1, _, rr, rfl, rfl, rfl, fun x1 r1 => ?_⟩
    cases r1.str_inv
    refine ⟨_, rfl, _, 2, _, rr, rfl, rfl, rfl, fun x2 r2 => ?_⟩
    obtain ⟨a2, xs2, rfl, hq2, rs2⟩ := r2.seq rfl
    refine ⟨a2, xs2, rfl, hq2, fun J hJ D nD => ?_⟩
    refine led_comp (.seq hJ rs2) nD hn (fun _ => rfl) (fun _ => rfl) (fun _ => rfl) hp fun H2 ys s2 eD ry => ?_
    refine ⟨_, .list (nums (ks.map f)), rfl, .lst trivial eD ry, rfl, fun v3 H3 s3 r3 => ⟨(by show 3 ≤ sizeLine; decide), fun t ht => ?_⟩⟩
    exact q t _ ((s2.trans s3).trans (Sm.new ht)) (.tup upd_same (.cons (.str _) (.cons (.str _) (.one (r3.sm (Sm.new ht))))))
end
end K8

/-! What is needed: cone_of. -/
namespace K8
open PySem PySem.Spec PyProof.Rows L2 WR
def fV (ks : List Nat) : List (Key × V) := ks.map fun (k : Nat) => ((Sum.inl (k : Int) : Key), V.bl true)
theorem fV_val (k : Nat) : ∀ ks : List Nat, valV (fV ks) (Sum.inl (k : Int)) = if k ∈ ks then some (.bl true) else none
  | [] => rfl
  | j :: ks => by
    have ih := fV_val k ks
    show valV (((Sum.inl (j : Int) : Key), V.bl true) :: fV ks) _ = _
    by_cases h : j = k
    · subst h
      rw [valV_pos rfl, if_pos (List.mem_cons_self ..)]
    · rw [valV_neg (fun z => h (by injection z with z; omega)), ih]
      have e : (k ∈ j :: ks) = (k ∈ ks) := by simp [Ne.symm h]
      simp only [e]
abbrev vN (ks : List Nat) : List V := ks.map fun (k : Nat) => V.int (k : Int)
theorem vN_ints (ks : List Nat) : vN ks = (ks.map fun (k : Nat) => (k : Int)).map V.int := by simp [vN]
theorem vN_of {N : Addr → Prop} {H : Hp} : ∀ {ks : List Nat} {ys : List V}, DrA N H ys (nums ks) → ys = vN ks
  | [], _, .nil => rfl
  | k :: ks, _, .cons r t => by
    cases r
    rw [vN_of t]
    rfl
theorem nodup_len : ∀ (n : Nat) {l : List Nat}, l.Nodup → (∀ k ∈ l, k < n) → l.length ≤ n
  | 0, l, _, h => by
    cases l with
    | nil => exact Nat.le_refl _
    | cons k l => exact absurd (h k (List.mem_cons_self ..)) (Nat.not_lt_zero _)
  | n + 1, l, nd, h => by
    by_cases hm : n ∈ l
    · have ih := nodup_len n (nd.erase n) fun k hk => by
        have h1 := (nd.mem_erase_iff).mp hk
        have := h k h1.2
        omega
      rw [List.length_erase_of_mem hm] at ih
      omega
    · have ih := nodup_len n nd fun k hk => by
        have := h k hk
        have : k ≠ n := fun z => hm (by rw [← z]; exact hk)
        omega
      omega
/-- ints ascending, told of naturals -/
theorem nat_back : ∀ {ys : List Int} {ks : List Nat}, ys.Perm (ks.map fun (k : Nat) => (k : Int)) → ys.Pairwise (· ≤ ·) → ∃ js : List Nat, ys = js.map (fun (k : Nat) => (k : Int)) ∧ js.Perm ks ∧ js.Pairwise (· ≤ ·) := by
  intro ys ks hp hs
  have hn : ∀ y ∈ ys, 0 ≤ y := fun y hy => by
    obtain ⟨k, _, rfl⟩ := List.mem_map.mp (hp.mem_iff.mp hy)
    exact Int.natCast_nonneg k
  have e : ys = (ys.map Int.toNat).map (fun (k : Nat) => (k : Int)) := by
    rw [List.map_map]
    refine (List.map_id' ys).symm.trans (List.map_congr_left fun y hy => ?_)
    exact (Int.toNat_of_nonneg (hn y hy)).symm
  refine ⟨ys.map Int.toNat, e, ?_, ?_⟩
  · have := hp.map Int.toNat
    rw [List.map_map] at this
    have e2 : (ks.map (Int.toNat ∘ fun (k : Nat) => (k : Int))) = ks := (List.map_congr_left fun k _ => Int.toNat_natCast k).trans (List.map_id' ks)
    rwa [e2] at this
  · rw [List.pairwise_map]
    exact hs.imp fun {a b} h => Int.toNat_le_toNat h
abbrev spCone : Sp := fun vs H Q _ => ∃ (v u : V) (R : List Row) (d : PyData) (ts : List Nat), vs = [v, u] ∧ Dr All H v (rowsD R) ∧ Dr All H u d ∧ isL d = true ∧ its d = nums ts ∧ Web R ∧ (∀ k ∈ ts, k < R.length) ∧ R.length ≤ lim ∧ ts.length + sumN R [] ≤ 1000000 ∧
  ∀ (ks : List Nat) (p : Addr) H', Sm H H' → H p = none → IsCone R ts ks → H' p = some (.lst (vN ks)) → Q (.ref p) H'
section
variable {P : Program} {w : World} {K : PySem.W.Frag} {mg : Str → Option Value} {base : Heap}
theorem sc_cone_of : FnScope ["rows", "tips", "found", "todo", "at"] ["rows", "tips"] (defScope scone_of) := ⟨rfl, rfl, rfl, by decide +kernel, rfl, by decide +kernel, by decide +kernel⟩
theorem ok_cone_of (B : Bt mg) (BS : mg "sorted" = none) (F : Fn K mg dcone_of) (D1 : Df P w K mg base CX0 1 "named_rows" ["row"] spNamed) : Df P w K mg base CX0 2 "cone_of" ["rows", "tips"] spCone := by
  obtain ⟨f, fd, hm, F⟩ := F
  refine ⟨f, fd, hm, F.kp, F.bindsN fun _ _ _ _ _ _ us hl => match us, hl with | [_, _], _ => rfl, ?_⟩
  refine F.ok sc_cone_of (fun vs H Q E h => by obtain ⟨v, u, R, d, ts, rfl, _⟩ := h; rfl) (fun cdv A outer s H vs Q E hr h => ?_)
  obtain ⟨v, u, R, d, ts, rfl, rd, ru, hL, ets, W, ht, hR, hsz, q⟩ := h
  have hu := hu_of hr
  refine ⟨_, PSs.nox (pss_cons (ps_set (i := 2) sc_cone_of.nd rfl (by first | exact Or.inl rfl | exact Or.inr rfl) pe_dnewK)
      (pss_cons (ps_set (i := 3) sc_cone_of.nd rfl (by first | exact Or.inl rfl | exact Or.inr rfl) (pe_callTy (call_listN All) (by rfl) B.list (by decide +kernel) (pa_cons (pv 1) pa_nil)))
      (pss_cons (ps_while PassesOwn.never (pt_truth (pv 3) (fun _ => rfl)) (pss_cons (ps_set (i := 4) sc_cone_of.nd rfl (by first | exact Or.inl rfl | exact Or.inr rfl) (pe_bm0 PySem.F.plainAttrs_list PySem.F.slot_list_pop PySem.F.type_list_pop mt_pop (pv 3)))
      (pss_one (ps_if (pt_cmp (pc_dnotin hu (pv 4) (pv 2))) (pss_cons (ps_dput hu (pv 2) (pv 4) pe_bl rfl)
      (pss_one (ps_expr (pe_bm PySem.F.plainAttrs_list PySem.F.slot_list_extend PySem.F.type_list_extend mt_extS (pv 3) (pa_cons (pe_df D1 hr pass0 (pa_cons (pe_ix ix_D (pv 0) (pv 4) (fun _ _ => rfl)) pa_nil)) pa_nil))))) pss_nil))))
      (pss_one (ps_ret (pe_callB (call_sortedDL rfl) (by rfl) BS (by decide +kernel) (pa_cons (pv 2) pa_nil))))))), ?_⟩
  -- found = {}; todo = list(tips)
  intro d0 nd0
  refine ⟨_, rfl, u, d, rfl, ru.sm (Sm.new nd0), hL, fun t ys nt ry => ?_⟩
  rw [ets] at ry
  have ey := vN_of ry
  subst ey
  have s0 : Sm H (upd (upd H d0 (.dK [])) t (.lst (vN ts))) := (Sm.new nd0).trans (Sm.new nt)
  have nt0 : H t = none := (Sm.new nd0).free nt
  have ntd : t ≠ d0 := fun z => by rw [z, upd_same] at nt; cases nt
  have e0 : upd (upd H d0 (.dK [])) t (.lst (vN ts)) d0 = some (.dK []) := by rw [upd_ne (Ne.symm ntd)]; exact upd_same
  -- the loop
  refine ⟨fun m σ' H2 => ∃ (x4 : Option V) (found left : List Nat), σ' = [some v, some u, some (.ref d0), some (.ref t), x4] ∧ Sm H H2 ∧ H2 d0 = some (.dK (fV found)) ∧ H2 t = some (.lst (vN left)) ∧ Gath R ts found left ∧ (∀ k, k ∈ found ∨ k ∈ left → k < R.length) ∧
    left.length + sumN R found ≤ 1000000 ∧ m = left.length + sumN R found, ⟨_, _, [], ts, rfl, s0, e0, upd_same, Gath.start R ts, fun k hk => hk.elim (fun z => nomatch z) (ht k), hsz, rfl⟩, ?_⟩
  rintro m σ' H2 ⟨x4, found, left, rfl, s2, ed, et, G, hlt, hsz2, rfl⟩
  have hsl : (1000000 : Nat) ≤ sizeLine := by decide
  refine ⟨_, rfl, !(vN left).isEmpty, .inl ⟨_, SqL.of et, rfl⟩, ite2 (fun hb => ?_) (fun hb => ?_)⟩
  · -- a turn
    obtain ⟨left', o, rfl⟩ : ∃ l' o, left = l' ++ [o] := by
      rcases List.eq_nil_or_concat left with z | ⟨l', o, z⟩
      · rw [z] at hb
        cases hb
      · exact ⟨l', o, by simpa using z⟩
    have ol : o < R.length := hlt o (.inr (by simp))
    refine ⟨fun σ' H' => ∃ (x4 : Option V) (found' left'' : List Nat), σ' = [some v, some u, some (.ref d0), some (.ref t), x4] ∧ Sm H H' ∧ H' d0 = some (.dK (fV found')) ∧ H' t = some (.lst (vN left'')) ∧ Gath R ts found' left'' ∧ (∀ k, k ∈ found' ∨ k ∈ left'' → k < R.length) ∧
      left''.length + sumN R found' < (left' ++ [o]).length + sumN R found, ?_, ?_⟩
    · rintro σ'' H' ⟨x4', f', l'', rfl, z1, z2, z3, z4, z5, z6⟩
      exact ⟨_, z6, x4', f', l'', rfl, z1, z2, z3, z4, z5, by omega, rfl⟩
    have evn : vN (left' ++ [o]) = vN left' ++ [V.int (o : Int)] := by simp [vN]
    rw [evn] at et
    refine ⟨_, rfl, .inl ⟨rfl, _, SqL.of et⟩, t, _, V.int (o : Int), rfl, rfl, et, by simp, ?_⟩
    rw [List.dropLast_concat]
    have st : Sm H (upd H2 t (.lst (vN left'))) := fun b x e => by
      rw [upd_ne (ne_of_none e nt0)]
      exact s2 _ _ e
    have ed' : upd H2 t (.lst (vN left')) d0 = some (.dK (fV found)) := by rw [upd_ne (Ne.symm ntd)]; exact ed
    have et' : upd H2 t (.lst (vN left')) t = some (.lst (vN left')) := upd_same
    generalize upd H2 t (.lst (vN left')) = H3 at st ed' et' ⊢
    refine ⟨_, rfl, _, rfl, d0, _, rfl, DGet.k (k := Sum.inl (o : Int)) ed', _, rfl, ?_⟩
    rw [fV_val]
    by_cases hm : o ∈ found
    · rw [if_pos hm]
      refine iteF ⟨_, found, left', rfl, st, ed', et', G.drop hm, fun k hk => hlt k (hk.elim .inl fun z => .inr (List.mem_append_left _ z)), by simp⟩
    · rw [if_neg hm]
      have lf : (fV found).length < sizeLine := by
        have : found.length ≤ R.length := nodup_len _ G.nd fun k hk => hlt k (.inl hk)
        have hl := lim_lt
        simp only [fV, List.length_map]
        omega
      refine iteT ⟨_, rfl, _, rfl, d0, _, rfl, DPut.k (k := Sum.inl (o : Int)) ed' lf, ?_⟩
      have ev : putK (fV found) (Sum.inl (o : Int)) (V.bl true) = fV (found ++ [o]) := by
        rw [putK_new _ (by rw [fV_val, if_neg hm])]
        simp [fV]
      rw [ev]
      have s4 : Sm H (upd H3 d0 (.dK (fV (found ++ [o])))) := fun b x e => by
        rw [upd_ne (ne_of_none e nd0)]
        exact st _ _ e
      have ed4 : upd H3 d0 (.dK (fV (found ++ [o]))) d0 = some (.dK (fV (found ++ [o]))) := upd_same
      have et4 : upd H3 d0 (.dK (fV (found ++ [o]))) t = some (.lst (vN left')) := by rw [upd_ne ntd]; exact et'
      generalize upd H3 d0 (.dK (fV (found ++ [o]))) = H4 at s4 ed4 et4 ⊢
      refine ⟨_, rfl, .inl ⟨rfl, _, SqL.of et4⟩, _, rfl, _, rfl, rowsD R, o, (rowAt R o).d, rd.sm s4, rfl, rfl, rowAt_at ol, fun x rx => ?_⟩
      refine ⟨x, rowAt R o, rfl, rx, fun y H5 s5 ry => ?_⟩
      obtain ⟨a, xs, rfl, hq, rs⟩ := ry.seq rfl
      have exs := vN_of (show DrA All H5 xs (nums (rowAt R o).named) from rs)
      subst exs
      have hsum := sumN_snoc hm ol
      refine ⟨t, a, _, _, rfl, rfl, s5 _ _ et4, hq, ?_, ?_⟩
      · simp only [vN, List.length_map]
        simp only [List.length_append, List.length_singleton] at hsz2
        omega
      have evn2 : vN left' ++ vN (rowAt R o).named = vN (left' ++ (rowAt R o).named) := by simp [vN]
      rw [evn2]
      refine ⟨_, found ++ [o], left' ++ (rowAt R o).named, rfl, fun b z e => ?_, ?_, upd_same, G.more hm (fun j hj => hj) (fun j hj => .inl hj), fun k hk => ?_, ?_⟩
      · rw [upd_ne (ne_of_none e nt0)]
        exact s5 _ _ (s4 _ _ e)
      · rw [upd_ne (Ne.symm ntd)]
        exact s5 _ _ ed4
      · rcases hk with z | z
        · rcases List.mem_append.mp z with z | z
          · exact hlt k (.inl z)
          · rw [List.mem_singleton.mp z]
            exact ol
        · rcases List.mem_append.mp z with z | z
          · exact hlt k (.inr (List.mem_append_left _ z))
          · exact Nat.lt_trans (W.ahead ol k z) ol
      · simp only [List.length_append, List.length_singleton]
        omega
  · -- behind it
    have el : left = [] := by
      cases left with
      | nil => rfl
      | cons k l => exact absurd rfl hb
    subst el
    have lf : found.length ≤ sizeLine := by
      have : found.length ≤ R.length := nodup_len _ G.nd fun k hk => hlt k (.inl hk)
      have hl := lim_lt
      omega
    refine ⟨_, rfl, d0, fV found, found.map fun (k : Nat) => (k : Int), rfl, ed, by simp [fV], by simpa using lf, fun ys p hp hs np => ?_⟩
    obtain ⟨js, rfl, h1, h2⟩ := nat_back hp hs
    refine q js p _ (s2.trans (Sm.new np)) (s2.free np) (G.cone h1 h2) ?_
    rw [vN_ints]
    exact upd_same
end
end K8

/-! first_wrong, is_part of any thing, judged_part, join_rows, joined_webs, same_part. -/
namespace K8
open PySem PySem.Spec PyProof.Rows L2 WR
def firstF : List Bool → Nat → Option Nat
  | [], _ => none
  | b :: bs, n => if b = false then some n else firstF bs (n + 1)
def natO : Option Nat → V
  | none => .non
  | some k => .int (k : Nat)
def isPartD (R : List Row) : PyData → Bool
  | .int i => decide (0 ≤ i) && (decide (i < (R.length : Int)) && !(rowAt R i.toNat).isAsked)
  | _ => false
theorem isPartD_nat (R : List Row) (k : Nat) : isPartD R (.int (k : Nat)) = isPart R k := by
  show (decide ((0 : Int) ≤ (k : Nat)) && (decide (((k : Nat) : Int) < (R.length : Int)) && !(rowAt R ((k : Nat) : Int).toNat).isAsked)) = (decide (k < R.length) && !(rowAt R k).isAsked)
  rw [decide_eq_true (Int.natCast_nonneg k), Bool.true_and, Int.toNat_natCast, decide_eq_decide.mpr (show ((k : Nat) : Int) < (R.length : Int) ↔ k < R.length by omega)]
theorem isPartD_int {R : List Row} {d : PyData} (h : isPartD R d = true) : ∃ k : Nat, d = .int (k : Nat) ∧ isPart R k = true ∧ k < R.length := by
  cases d with
  | int i =>
    have h' := h
    simp only [isPartD, Bool.and_eq_true, decide_eq_true_eq] at h'
    obtain ⟨k, rfl⟩ := Int.eq_ofNat_of_zero_le h'.1
    refine ⟨k, rfl, by rw [← isPartD_nat]; exact h, by omega⟩
  | _ => cases h
theorem Scan.web {R R' : List Row} {n : Nat} {ds : List PyData} {f : PyData} (h : Scan R n ds R' f) : wdA ds = true → Web R → Web R' := by
  induction h with
  | next e1 e2 e3 _ ih =>
    intro w W
    simp only [wdA, Bool.and_eq_true] at w
    refine ih w.2 (W.snoc ?_ e2 e3)
    rcases rowForm_row w.1 with z | ⟨r', z, ok⟩
    · exact absurd (e1.symm.trans z) (Row.d_ne _)
    · rw [Row.d_inj (e1.symm.trans z)]
      exact ok
  | _ => exact fun _ W => W
theorem ScanOf.web {d : PyData} {R : List Row} {f : PyData} (h : ScanOf d R f) (w : wd d = true) : Web R := by
  rcases h with ⟨hL, h⟩ | ⟨_, rfl, _⟩
  · exact h.web (wd_its w hL).2 Web.nil
  · exact Web.nil
theorem ScanOf.lenI {d : PyData} {R : List Row} {f : PyData} (h : ScanOf d R f) : R.length ≤ (its d).length := by
  rcases h with ⟨_, h⟩ | ⟨_, rfl, _⟩
  · have := h.len
    simpa using this
  · exact Nat.zero_le _
abbrev spFirst : Sp := fun vs H Q _ => ∃ (a : Addr) (bs : List Bool), vs = [.ref a] ∧ H a = some (.lst (bs.map V.bl)) ∧ ∀ H', Sm H H' → Q (natO (firstF bs 0)) H'
abbrev spIsPartD : Sp := fun vs H Q _ => ∃ (v u : V) (R : List Row) (d : PyData), vs = [v, u] ∧ Dr All H v (rowsD R) ∧ Dr All H u d ∧ ∀ H', Sm H H' → Q (.bl (isPartD R d)) H'
abbrev spJPart (CP : Addr) : Sp := fun vs H Q E => ∃ (v u : V) (R : List Row) (d : PyData), vs = [v, u] ∧ Dr All H v (rowsD R) ∧ Dr All H u d ∧ (isPartD R d = true → ∀ H', Sm H H' → Q u H') ∧
  (isPartD R d = false → ∀ (dx : Addr) H', Sm H H' → H dx = none → H' dx = some (.xd [("part", u)]) → E (.ref CP) (some dx) H')
/-- all but a table's list and dict stay -/
def FrT (l dd : Addr) (H H' : Hp) : Prop := ∀ b o, b ≠ l → b ≠ dd → H b = some o → H' b = some o
theorem FrT.of {l dd : Addr} {H H' : Hp} (s : Sm H H') : FrT l dd H H' := fun b o _ _ e => s b o e
theorem FrT.trans {l dd : Addr} {H H1 H2 : Hp} (s : FrT l dd H H1) (t : FrT l dd H1 H2) : FrT l dd H H2 := fun b o h1 h2 e => t b o h1 h2 (s b o h1 h2 e)
theorem FrT.new {l dd : Addr} {H0 H H' : Hp} (s : Sm H0 H) (nl : H0 l = none) (nd : H0 dd = none) (t : FrT l dd H H') : Sm H0 H' := fun b o e => t b o (ne_of_none e nl) (ne_of_none e nd) (s b o e)
/-- a list of another's is written -/
theorem Tb.list {P : Program} {w : World} {C : Addr} {H : Hp} {t l d q : Addr} {R : List Row} {as : List Addr} {xs ys : List V} (T : Tb P w C H t l d R as) (n1 : q ≠ l) (n2 : q ≠ d) (e : H q = some (.lst xs)) : Tb P w C (upd H q (.lst ys)) t l d R as := by
  obtain ⟨dx, ob⟩ := T.ob
  have st : Stays No H (upd H q (.lst ys)) := ⟨fun _ _ z => z.elim, fun b zs z => by
    rw [upd_ne fun y => by rw [y, e] at z; cases z]
    exact z⟩
  refine ⟨⟨dx, by rw [upd_ne fun y => by rw [y, e] at ob; cases ob]; exact ob⟩, T.len, by rw [upd_ne (Ne.symm n1)]; exact T.ls, T.rs.mono (fun _ z => z) st, ⟨?_, fun x hx => ⟨(T.rd.keys x hx).1, (((T.rd.keys x hx).2.fz (M := No) (T.rd.keys x hx).1.fz).mono (fun _ z => z) st).all⟩⟩, T.ok, T.nd⟩
  rw [upd_ne (Ne.symm n2)]
  exact T.rd.at_
abbrev spJoinRows (P : Program) (w : World) (C : Addr) : Sp := fun vs H Q _ => ∃ (t l dd a : Addr) (R S : List Row) (as : List Addr) (xs : List V), vs = [.ref t, .ref a] ∧ Tb P w C H t l dd R as ∧ Sq H a xs ∧ DrA No H xs (S.map Row.d) ∧ a ≠ l ∧ Web R ∧ Web S ∧ R.length + S.length ≤ lim ∧
  ∀ (p : Addr) (as' : List Addr) H', H p = none → FrT l dd H H' → Tb P w C H' t l dd (joinG R [] S).1 as' → H' p = some (.lst (vN (joinG R [] S).2)) → Q (.ref p) H'
section
variable {P : Program} {w : World} {K : PySem.W.Frag} {mg : Str → Option Value} {base : Heap}
theorem ok_is_partD (B : Bt mg) (F : Fn K mg dis_part) (D1 : Df P w K mg base CX0 2 "is_place" ["thing", "many"] spIsPlace) : Df P w K mg base CX0 3 "is_part" ["rows", "thing"] spIsPartD := by
  obtain ⟨f, fd, hm, F⟩ := F
  refine ⟨f, fd, hm, F.kp, F.bindsN fun _ _ _ _ _ _ us hl => match us, hl with | [_, _], _ => rfl, ?_⟩
  refine F.ok sc_is_part (fun vs H Q E h => by obtain ⟨v, u, R, d, rfl, _⟩ := h; rfl) (fun cdv A outer s H vs Q E hr h => ?_)
  obtain ⟨v, u, R, d, rfl, rd, ru, q⟩ := h
  refine ⟨_, PSs.nox (pss_one (ps_ret (pe_and (pe_df D1 hr pass0 (pa_cons (pv 1) (pa_cons (pe_callB call_lenS (by rfl) B.len (by decide +kernel) (pa_cons (pv 0) pa_nil)) pa_nil))) (pe_one (pe_cmpR op_ne (pe_ix ix_D (pe_ix ix_D (pv 0) (pv 1) (fun _ _ => rfl)) pe_int (fun _ _ => rfl)) pe_str (nomark _)))))), ?_⟩
  have el : (its (rowsD R)).length = R.length := by simp [rowsD, its]
  refine ⟨_, rfl, _, rfl, v, _, rfl, rd, rfl, ?_⟩
  refine spP2_of ru (.int _) ⟨_, _, rfl⟩ fun b H1 s1 r1 => ?_
  cases r1.bl_inv
  refine ⟨_, rfl, ite2 (fun hp => ?_) (fun hp => ?_)⟩
  · have hp' : isPlace d (R.length : Nat) = true := by rw [← el]; exact hp
    cases d with
    | int i =>
      simp only [isPlace, Bool.and_eq_true, decide_eq_true_eq] at hp'
      obtain ⟨k, rfl⟩ := Int.eq_ofNat_of_zero_le hp'.1
      have hk : k < R.length := by omega
      cases ru.int_inv
      refine ⟨_, rfl, _, rfl, _, k, _, rd.sm s1, rfl, rfl, rowAt_at hk, fun x0 r0 => ?_⟩
      refine ⟨_, 0, _, r0, Row.seqD _, rfl, Row.word_at _, fun x1 r1 => ?_⟩
      cases r1.str_inv
      refine ⟨rfl, ?_⟩
      rw [Row.askedW]
      have := q H1 s1
      rw [isPartD_nat] at this
      unfold isPart at this
      rw [decide_eq_true hk, Bool.true_and] at this
      exact this
    | _ => cases hp'
  · have hp' : isPlace d (R.length : Nat) = false := by rw [← el]; exact eq_false_of_ne_true hp
    have := q H1 s1
    have e : isPartD R d = false := by
      cases d with
      | int i =>
        show (decide (0 ≤ i) && (decide (i < (R.length : Int)) && !(rowAt R i.toNat).isAsked)) = false
        rw [← Bool.and_assoc, show (decide (0 ≤ i) && decide (i < (R.length : Int))) = false from hp', Bool.false_and]
      | _ => rfl
    rw [e] at this
    exact this
theorem sc_judged_part : FnScope ["rows", "part"] ["rows", "part"] (defScope sjudged_part) := ⟨rfl, rfl, rfl, by decide +kernel, rfl, by decide +kernel, by decide +kernel⟩
theorem ok_judged_part {CP fI : Addr} {fdI : FuncData} (TW : ErC K mg "BadPart" "part" CP fI) (GW : FnOk P w K mg base CX0 1 fI fdI ["self", "part"] (spEI CP "part")) (bW : Binds K fdI ["self", "part"] [])
    (F : Fn K mg djudged_part) (D1 : Df P w K mg base CX0 3 "is_part" ["rows", "thing"] spIsPartD) :
    Df P w K mg base (L2.CX P w) 4 "judged_part" ["rows", "part"] (spJPart CP) := by
  obtain ⟨f, fd, hm, F⟩ := F
  refine ⟨f, fd, hm, F.kp, F.bindsN fun _ _ _ _ _ _ us hl => match us, hl with | [_, _], _ => rfl, ?_⟩
  refine F.ok sc_judged_part (fun vs H Q E h => by obtain ⟨v, u, R, d, rfl, _⟩ := h; rfl) (fun cdv A outer s H vs Q E hr h => ?_)
  obtain ⟨v, u, R, d, rfl, rd, ru, q1, q2⟩ := h
  have hr2 := hr.mono (show 2 ≤ 3 by decide)
  refine ⟨_, (pss_cons (ps_if (pt_not (pt_val (pe_df D1 hr pass0 (pa_cons (pv 0) (pa_cons (pv 1) pa_nil))))) (pss_one (ps_raise rfl (takes_of rfl rfl rfl rfl) (pmk_oex TW.oex TW.iC TW.tI GW hr2 bW .nil pass0 (by rfl) TW.gC (pa_cons (pv 1) pa_nil)))) pss_nil)
      (pss_one (ps_ret (pv 1)))), ?_⟩
  refine ⟨_, rfl, _, rfl, v, u, R, d, rfl, rd, ru, fun H1 s1 => ⟨_, rfl, ?_⟩⟩
  cases e : isPartD R d with
  | true => exact iteF ⟨_, rfl, q1 e H1 s1⟩
  | false => exact iteT ⟨_, rfl, (by show 1 ≤ 1000; decide), raise_own fun dx H' s2 nd2 hx => q2 e dx H' (s1.trans s2) (s1.free nd2) hx⟩
section
variable {C fI fP : Addr} {fdI fdP : FuncData}
end
end
end K8

/-! joined_webs, same_part, needs_of. -/
namespace K8
open PySem PySem.Spec PyProof.Rows L2 WR
/-- a pair of rows and numbers, all of it new since H -/
def Told2 (H H' : Hp) (p : Addr) (R : List Row) (ps : List Nat) : Prop := ∃ (l pl : Addr) (as : List Addr), l ≠ pl ∧ H l = none ∧ H pl = none ∧ H p = none ∧ H' p = some (.tup [.ref l, .ref pl]) ∧ H' l = some (.lst (as.map V.ref)) ∧ DrA No H' (as.map V.ref) (R.map Row.d) ∧ H' pl = some (.lst (vN ps))
def pairD (R : List Row) (ps : List Nat) : PyData := .tuple [rowsD R, .list (nums ps)]
theorem Told2.dr {H H' : Hp} {p : Addr} {R : List Row} {ps : List Nat} (t : Told2 H H' p R ps) : Dr (fun a => H a = none) H' (.ref p) (pairD R ps) := by
  obtain ⟨l, pl, as, h1, h2, h3, _, h4, h5, h6, h7⟩ := t
  exact .tup h4 (.cons (.lst h2 h5 (h6.mono (fun _ z => z.elim) (Stays.of Sm.rfl'))) (.one (.lst h3 h7 (vints_dr ps))))
abbrev spJoined (CW CO : Addr) : Sp := fun vs H Q E => ∃ (v u : V) (d e : PyData), vs = [v, u] ∧ Dr All H v d ∧ wd d = true ∧ Dr All H u e ∧ wd e = true ∧ (its d).length + (its e).length ≤ lim ∧
  (∀ (R S : List Row) (p : Addr) (H' : Hp), ScanOf d R .none → ScanOf e S .none → Sm H H' → Told2 H H' p (joinG R [] S).1 (joinG R [] S).2 → Q (.ref p) H') ∧
  (∀ (R : List Row) (n : Nat) (x : Str) (dx : Addr) (H' : Hp), ScanOf d R (faultD n x) → Sm H H' → H dx = none → H' dx = some (.xd [("index", .int (n : Nat))]) → E (.ref CW) (some dx) H') ∧
  (∀ (R S : List Row) (n : Nat) (x : Str) (dx : Addr) (H' : Hp), ScanOf d R .none → ScanOf e S (faultD n x) → Sm H H' → H dx = none → H' dx = some (.xd [("index", .int (n : Nat))]) → E (.ref CO) (some dx) H')
abbrev spSame4 (CW CP CO CI : Addr) : Sp := fun vs H Q E => ∃ (v1 v2 v3 v4 : V) (d1 d2 d3 d4 : PyData), vs = [v1, v2, v3, v4] ∧ Dr All H v1 d1 ∧ wd d1 = true ∧ Dr All H v2 d2 ∧ Dr All H v3 d3 ∧ wd d3 = true ∧ Dr All H v4 d4 ∧ (its d1).length + (its d3).length ≤ lim ∧
  (∀ (R S : List Row) (k j : Nat) (H' : Hp), ScanOf d1 R .none → d2 = .int (k : Nat) → isPart R k = true → ScanOf d3 S .none → d4 = .int (j : Nat) → isPart S j = true → Sm H H' → Q (.bl (decide (fL (joinG R [] S).2 j = k))) H') ∧
  (∀ (R : List Row) (n : Nat) (x : Str) (dx : Addr) (H' : Hp), ScanOf d1 R (faultD n x) → Sm H H' → H dx = none → H' dx = some (.xd [("index", .int (n : Nat))]) → E (.ref CW) (some dx) H') ∧
  (∀ (R : List Row) (dx : Addr) (H' : Hp), ScanOf d1 R .none → isPartD R d2 = false → Sm H H' → H dx = none → H' dx = some (.xd [("part", v2)]) → E (.ref CP) (some dx) H') ∧
  (∀ (R S : List Row) (n : Nat) (x : Str) (dx : Addr) (H' : Hp), ScanOf d1 R .none → isPartD R d2 = true → ScanOf d3 S (faultD n x) → Sm H H' → H dx = none → H' dx = some (.xd [("index", .int (n : Nat))]) → E (.ref CO) (some dx) H') ∧
  (∀ (R S : List Row) (dx : Addr) (H' : Hp), ScanOf d1 R .none → isPartD R d2 = true → ScanOf d3 S .none → isPartD S d4 = false → Sm H H' → H dx = none → H' dx = some (.xd [("its", v4)]) → E (.ref CI) (some dx) H')
abbrev spNeedsWays (CW CP : Addr) (v u : V) (d e : PyData) (H : Hp) (E : XK) : Prop :=
  (∀ (R : List Row) (n : Nat) (x : Str) (dx : Addr) (H' : Hp), ScanOf d R (faultD n x) → Sm H H' → H dx = none → H' dx = some (.xd [("index", .int (n : Nat))]) → E (.ref CW) (some dx) H') ∧
  (∀ (R : List Row) (dx : Addr) (H' : Hp), ScanOf d R .none → isPartD R e = false → Sm H H' → H dx = none → H' dx = some (.xd [("part", u)]) → E (.ref CP) (some dx) H')
abbrev spNeeded (CW CP : Addr) : Sp := fun vs H Q E => ∃ (v u : V) (d e : PyData), vs = [v, u] ∧ Dr All H v d ∧ wd d = true ∧ Dr All H u e ∧ (∀ R, ScanOf d R .none → sumN R [] ≤ 900000) ∧
  (∀ (R : List Row) (k : Nat) (ks : List Nat) (p l c : Addr) (H' : Hp), ScanOf d R .none → e = .int (k : Nat) → isPart R k = true → Sm H H' → H c = none → IsCone R [k] ks → H' c = some (.lst (vN ks)) → Dr All H' (.ref l) (rowsD R) → H' p = some (.tup [.ref l, .ref c]) → Q (.ref p) H') ∧ spNeedsWays CW CP v u d e H E
abbrev spNeedsOf (CW CP : Addr) : Sp := fun vs H Q E => ∃ (v u : V) (d e : PyData), vs = [v, u] ∧ Dr All H v d ∧ wd d = true ∧ Dr All H u e ∧ (∀ R, ScanOf d R .none → sumN R [] ≤ 900000) ∧
  (∀ (R : List Row) (k : Nat) (ks : List Nat) (c : Addr) (H' : Hp), ScanOf d R .none → e = .int (k : Nat) → isPart R k = true → Sm H H' → H c = none → IsCone R [k] ks → H' c = some (.lst (vN ks)) → Q (.ref c) H') ∧ spNeedsWays CW CP v u d e H E
section
variable {P : Program} {w : World} {K : PySem.W.Frag} {mg : Str → Option Value} {base : Heap} {C CW CO CP CI fP fI : Addr} {fdP fdI : FuncData}
theorem sc_needed : FnScope ["web", "part", "rows"] ["web", "part"] (defScope sneeded) := ⟨rfl, rfl, rfl, by decide +kernel, rfl, by decide +kernel, by decide +kernel⟩
theorem ok_needed (T : RT P w K mg base C) (F : Fn K mg dneeded) (D1 : Df P w K mg base (L2.CX P w) 6 "judged_web" ["web"] (spJudge P w C CW)) (D4 : Df P w K mg base (L2.CX P w) 4 "judged_part" ["rows", "part"] (spJPart CP)) (D2 : Df P w K mg base CX0 2 "cone_of" ["rows", "tips"] spCone) :
    Df P w K mg base (L2.CX P w) 7 "needed" ["web", "part"] (spNeeded CW CP) := by
  obtain ⟨f, fd, hm, F⟩ := F
  refine ⟨f, fd, hm, F.kp, F.bindsN fun _ _ _ _ _ _ us hl => match us, hl with | [_, _], _ => rfl, ?_⟩
  refine F.ok sc_needed (fun vs H Q E h => by obtain ⟨v, u, d, e, rfl, _⟩ := h; rfl) (fun cdv A outer s H vs Q E hr h => ?_)
  obtain ⟨v, u, d, e, rfl, rd, wdd, re, hsz, q1, q2, q3⟩ := h
  have hr2 := hr.mono (show 2 ≤ 6 by decide)
  have hr4 := hr.mono (show 4 ≤ 6 by decide)
  refine ⟨_, (pss_cons (ps_set (i := 2) sc_needed.nd rfl (by first | exact Or.inl rfl | exact Or.inr rfl) (pe_fld (pe_df D1 hr (passes_call (takes_of rfl rfl rfl rfl) (fun _ _ _ _ z => z)) (pa_cons (pv 0) pa_nil)) rfl))
      (pss_one (ps_ret (pe_tup (pa_cons (pv 2) (pa_cons (pe_df D2 hr2 pass0 (pa_cons (pv 2) (pa_cons (pe_lst (pa_cons (pe_df D4 hr4 (passes_call (takes_of rfl rfl rfl rfl) (fun _ _ _ _ z => z)) (pa_cons (pv 2) (pa_cons (pv 1) pa_nil))) pa_nil)) pa_nil))) pa_nil)))))), ?_⟩
  refine ⟨_, rfl, v, d, rfl, rd, wdd, fun t l dd R as H1 sc s1 nt nl nd tb => ?_, fun R n x dx H' sc s nd hx => q2 R n x dx H' sc s nd hx⟩
  obtain ⟨dx1, ob1⟩ := tb.ob
  refine ⟨t, C, dx1, _, _, rfl, ob1, T.cl, T.nR, flds_rows l dd, ?_⟩
  have WR' := sc.web wdd
  refine ⟨_, rfl, _, rfl, _, rfl, _, rfl, .ref l, u, R, e, rfl, tb.rows, re.sm s1, fun hp2 H2 s2 => ?_, fun hp2 dx H' s nd hx => q3 R dx H' sc hp2 (s1.trans s) (s1.free nd) hx⟩
  obtain ⟨k, rfl, pk, lk⟩ := isPartD_int hp2
  cases re.int_inv
  refine ⟨(by show 1 ≤ sizeLine; decide), fun pt npt => ?_⟩
  have s3 := s2.trans (Sm.new (o := .lst [.int (k : Nat)]) npt)
  have tb3 := tb.sm s3
  have hl := sc.len wdd
  refine ⟨.ref l, .ref pt, R, .list (nums [k]), [k], rfl, tb3.rows, .lst trivial upd_same (.one (.int _)), rfl, rfl, WR', fun j hj => by rw [List.mem_singleton.mp hj]; exact lk, hl, by have := hsz R sc; simp; omega, fun ks c H4 s4 nc hc ec => ?_⟩
  refine ⟨(by show 2 ≤ sizeLine; decide), fun p np => ?_⟩
  have s14 := (s1.trans s3).trans s4
  refine q1 R k ks p l c _ sc rfl pk (s14.trans (Sm.new np)) ((s1.trans s3).free nc) hc ((Sm.new np) _ _ ec) ((tb3.sm (s4.trans (Sm.new np))).rows) upd_same
theorem sc_needs_of : FnScope ["web", "part"] ["web", "part"] (defScope sneeds_of) := ⟨rfl, rfl, rfl, by decide +kernel, rfl, by decide +kernel, by decide +kernel⟩
theorem okF_needs_of (F : Fn K mg dneeds_of) (D1 : Df P w K mg base (L2.CX P w) 7 "needed" ["web", "part"] (spNeeded CW CP)) : DfF P w K mg base (L2.CX P w) 8 "needs_of" ["web", "part"] (spNeedsOf CW CP) dneeds_of := by
  obtain ⟨f, fd, hm, F⟩ := F
  refine ⟨f, fd, hm, F, F.bindsN fun _ _ _ _ _ _ us hl => match us, hl with | [_, _], _ => rfl, ?_⟩
  refine F.ok sc_needs_of (fun vs H Q E h => by obtain ⟨v, u, d, e, rfl, _⟩ := h; rfl) (fun cdv A outer s H vs Q E hr h => ?_)
  obtain ⟨v, u, d, e, rfl, rd, wdd, re, hsz, q1, q2, q3⟩ := h
  refine ⟨_, (pss_one (ps_ret (pe_ix ix_tup (pe_df D1 hr (passes_call (takes_of rfl rfl rfl rfl) (fun _ _ _ _ z => z)) (pa_cons (pv 0) (pa_cons (pv 1) pa_nil))) pe_int (fun _ _ => rfl)))), ?_⟩
  refine ⟨_, rfl, _, rfl, v, u, d, e, rfl, rd, wdd, re, hsz, fun R k ks p l c H' sc ee pk s nc hc ec _ ep => ?_, q2, q3⟩
  exact ⟨p, _, 1, .ref c, rfl, rfl, SqT.of ep, rfl, q1 R k ks c H' sc ee pk s nc hc ec⟩
end
end K8

/-! steps_in, tests_in. -/
namespace K8
open PySem PySem.Spec PyProof.Rows L2 WR
/-- [x for x in some numbers if ..] -/
theorem fil_comp {J : It} {H1 : Hp} {D : Addr} {ks : List Nat} {tt : TT} {σ : L2.St} {vs : List Nat} {i : Nat} {Qd : Hp → Prop} (p : Nat → Bool) (W : Walk J H1 (nums ks)) (nD : H1 D = none) (hlen : ks.length ≤ lim)
    (hw : ∀ a, wipe ((wipe σ vs).set i (some a)) vs = wipe σ vs) (hi : ∀ a, ((wipe σ vs).set i (some a))[i]? = some (some a))
    (htt : ∀ (k : Nat) (H2 : Hp) (Q : Bool → Hp → Prop), k ∈ ks → Sm H1 H2 → Q (p k) H2 → tt ((wipe σ vs).set i (some (.int (k : Nat)))) H2 Q)
    (hd : ∀ H2, Sm H1 H2 → H2 D = some (.lst (vN (ks.filter p))) → Qd H2) :
    ∃ W : Nat → Nat → Hp → Prop, (∃ m, W 0 m (upd H1 D (.lst []))) ∧ ∀ i' m H, W i' m H →
      (J.stop i' H ∧ Qd H) ∨ (J.go i' H ∧ ∃ Nx : Hp → Prop, (∀ H', Nx H' → ∃ m', m' < m ∧ W (i' + 1) m' H') ∧ ∀ x H', J.yld i' H x H' → gName i x (wipe σ vs) H' fun σ2 H2 => wipe σ2 vs = wipe σ vs ∧ tt σ2 H2 fun b H3 =>
        if b = true then (tVar i) σ2 H3 fun y H4 => ∃ acc, H4 D = some (.lst acc) ∧ acc.length < sizeLine ∧ Nx (upd H4 D (.lst (acc ++ [y]))) else Nx H3) := by
  have hsl := lim_lt
  have hn : (nums ks).length = ks.length := by simp [nums]
  refine lc_walk (n := ks.length) (fun m H2 => Sm H1 H2 ∧ H2 D = some (.lst (vN ((ks.take m).filter p)))) ⟨Sm.new nD, upd_same⟩ (fun m H2 hm h => W.go _ _ h.1 (by omega)) (fun H2 h => by have := W.stop _ h.1; rw [hn] at this; exact this) (fun m x H2 H' hm h hy => ?_) fun H2 h => ?_
  · obtain ⟨s, eD⟩ := h
    obtain ⟨rfl, d, hd', rd⟩ := W.yld _ _ _ _ s (by omega) hy
    have hk : ks[m]? = some ks[m] := List.getElem?_eq_getElem hm
    rw [nums, List.getElem?_map, hk] at hd'
    cases hd'
    cases rd
    refine ⟨hw _, htt ks[m] H' _ (List.getElem_mem hm) s ?_⟩
    have et : ks.take (m + 1) = ks.take m ++ [ks[m]] := by rw [List.take_add_one, hk]; rfl
    refine ite2 (fun hp => ?_) (fun hp => ?_)
    · refine ⟨_, hi _, _, eD, ?_, ?_, ?_⟩
      · have := List.length_filter_le p (ks.take m)
        rw [List.length_take] at this
        simp only [vN, List.length_map]
        omega
      · exact fun c o e => by
          rw [upd_ne (ne_of_none e nD)]
          exact s _ _ e
      · rw [upd_same, et, List.filter_append]
        simp [vN, hp]
    · refine ⟨s, ?_⟩
      rw [et, List.filter_append]
      simpa [hp] using eD
  · have := h.2
    rw [List.take_length] at this
    exact hd H2 h.1 this
theorem Row.askedP (r : Row) : decide (V.str r.word = V.str "asked") = r.isAsked := by
  cases r with
  | made n ks => exact decide_eq_false (by simp only [Row.word, V.str.injEq]; decide +kernel)
  | asked n ks => exact decide_eq_true rfl
  | either a i j => exact decide_eq_false (by simp only [Row.word, V.str.injEq]; decide +kernel)
  | given k => exact decide_eq_false (by simp only [Row.word, V.str.injEq]; decide +kernel)
theorem Row.madeP (r : Row) : decide (V.str r.word = V.str "made") = r.isMade := by
  cases r with
  | made n ks => exact decide_eq_true rfl
  | asked n ks => exact decide_eq_false (by simp only [Row.word, V.str.injEq]; decide +kernel)
  | either a i j => exact decide_eq_false (by simp only [Row.word, V.str.injEq]; decide +kernel)
  | given k => exact decide_eq_false (by simp only [Row.word, V.str.injEq]; decide +kernel)
abbrev spSteps (CW CP : Addr) : Sp := fun vs H Q E => ∃ (v u : V) (d e : PyData), vs = [v, u] ∧ Dr All H v d ∧ wd d = true ∧ Dr All H u e ∧ (∀ R, ScanOf d R .none → sumN R [] ≤ 900000) ∧
  (∀ (R : List Row) (k : Nat) (ks : List Nat) (H' : Hp), ScanOf d R .none → e = .int (k : Nat) → isPart R k = true → Sm H H' → IsCone R [k] ks → Q (.int ((ks.filter fun j => (rowAt R j).isMade).length : Nat)) H') ∧ spNeedsWays CW CP v u d e H E
abbrev spTests (CW CP : Addr) : Sp := fun vs H Q E => ∃ (v u : V) (d e : PyData), vs = [v, u] ∧ Dr All H v d ∧ wd d = true ∧ Dr All H u e ∧ (∀ R, ScanOf d R .none → sumN R [] ≤ 900000) ∧
  (∀ (R : List Row) (k : Nat) (ks : List Nat) (c : Addr) (H' : Hp), ScanOf d R .none → e = .int (k : Nat) → isPart R k = true → Sm H H' → H c = none → IsCone R [k] ks → H' c = some (.lst (vN (ks.filter fun j => (rowAt R j).isAsked))) → Q (.ref c) H') ∧ spNeedsWays CW CP v u d e H E
theorem cone_lt {R : List Row} {ks : List Nat} {k : Nat} (W : Web R) (pk : isPart R k = true) (h : IsCone R [k] ks) : Cone R ks := h.cone W fun j hj => by
  rw [List.mem_singleton.mp hj]
  unfold isPart at pk
  simp only [Bool.and_eq_true, decide_eq_true_eq] at pk
  exact pk.1
section
variable {P : Program} {w : World} {K : PySem.W.Frag} {mg : Str → Option Value} {base : Heap} {CW CP : Addr}
theorem sc_steps_in : FnScope ["web", "part", "rows", "found", "at"] ["web", "part"] (defScope ssteps_in) := ⟨rfl, rfl, rfl, by decide +kernel, rfl, by decide +kernel, by decide +kernel⟩
theorem okF_steps_in (B : Bt mg) (F : Fn K mg dsteps_in) (D1 : Df P w K mg base (L2.CX P w) 7 "needed" ["web", "part"] (spNeeded CW CP)) : DfF P w K mg base (L2.CX P w) 8 "steps_in" ["web", "part"] (spSteps CW CP) dsteps_in := by
  obtain ⟨f, fd, hm, F⟩ := F
  refine ⟨f, fd, hm, F, F.bindsN fun _ _ _ _ _ _ us hl => match us, hl with | [_, _], _ => rfl, ?_⟩
  refine F.ok sc_steps_in (fun vs H Q E h => by obtain ⟨v, u, d, e, rfl, _⟩ := h; rfl) (fun cdv A outer s H vs Q E hr h => ?_)
  obtain ⟨v, u, d, e, rfl, rd, wdd, re, hsz, q1, q2, q3⟩ := h
  refine ⟨_, (pss_cons (ps_asg (pe_df D1 hr (passes_call (takes_of rfl rfl rfl rfl) (fun _ _ _ _ z => z)) (pa_cons (pv 0) (pa_cons (pv 1) pa_nil))) (pg_tup rfl (pgs_cons (pg_name (i := 2) sc_steps_in.nd rfl (by first | exact Or.inl rfl | exact Or.inr rfl)) (pgs_cons (pg_name (i := 3) sc_steps_in.nd rfl (by first | exact Or.inl rfl | exact Or.inr rfl)) pgs_nil))))
      (pss_one (ps_ret (pe_callB call_lenS (by rfl) B.len (by decide +kernel) (pa_cons (pe_lc (own := [("at", 4)]) (g := gName 4) (tt := _) rfl sc_steps_in.nd (pi_seq (pv 3)) (blkOk_by (own := [("at", 4)]) (N := ["web", "part", "rows", "found", "at"]) (sc := defScope ssteps_in) (by decide +kernel)) (fun _ _ _ _ _ => pg_name (i := 4) sc_steps_in.nd rfl (by first | exact Or.inl rfl | exact Or.inr rfl)) (fun _ _ _ _ _ => (pts_one (pt_cmpR op_eq (pe_ix ix_D (pe_ix ix_D (pv 2) (pv 4) (fun _ _ => rfl)) pe_int (fun _ _ => rfl)) pe_str (nomark _)))) (fun _ _ _ _ _ => (pv 4))) pa_nil))))), ?_⟩
  refine ⟨_, rfl, _, rfl, v, u, d, e, rfl, rd, wdd, re, hsz, fun R k ks p l c H' sc ee pk s nc hc ec rl ep => ?_, q2, q3⟩
  have W := sc.web wdd
  have Cn := cone_lt W pk hc
  have hlim := sc.len wdd
  have lks := cone_len Cn
  refine ⟨p, _, rfl, SqT.of ep, rfl, _, _, rfl, _, _, rfl, rfl, ?_⟩
  refine ⟨_, rfl, c, _, rfl, .inl ec, fun J hJ D nD => ?_⟩
  refine fil_comp (fun j => (rowAt R j).isMade) (.seq hJ (vints_dr ks)) nD (by omega) (fun _ => rfl) (fun _ => rfl) (fun j H2 Q' hj s2 q' => ?_) fun H2 s2 eD => ?_
  · have lj := Cn.lt j hj
    refine ⟨_, rfl, _, rfl, _, j, _, rl.sm s2, rfl, rfl, rowAt_at lj, fun x0 r0 => ⟨_, 0, _, r0, Row.seqD _, rfl, Row.word_at _, fun x1 r1 => ?_⟩⟩
    cases r1.str_inv
    refine ⟨rfl, _, rfl, ?_⟩
    rw [Row.madeP]
    exact q'
  · refine ⟨.ref D, .list (nums (ks.filter fun j => (rowAt R j).isMade)), rfl, .lst trivial eD (vints_dr _), rfl, ?_⟩
    rw [show (its (.list (nums (ks.filter fun j => (rowAt R j).isMade)))).length = (ks.filter fun j => (rowAt R j).isMade).length by simp [its, nums]]
    exact q1 R k ks H2 sc ee pk (s.trans s2) hc
theorem sc_tests_in : FnScope ["web", "part", "rows", "found", "at"] ["web", "part"] (defScope stests_in) := ⟨rfl, rfl, rfl, by decide +kernel, rfl, by decide +kernel, by decide +kernel⟩
theorem okF_tests_in (B : Bt mg) (F : Fn K mg dtests_in) (D1 : Df P w K mg base (L2.CX P w) 7 "needed" ["web", "part"] (spNeeded CW CP)) : DfF P w K mg base (L2.CX P w) 8 "tests_in" ["web", "part"] (spTests CW CP) dtests_in := by
  obtain ⟨f, fd, hm, F⟩ := F
  refine ⟨f, fd, hm, F, F.bindsN fun _ _ _ _ _ _ us hl => match us, hl with | [_, _], _ => rfl, ?_⟩
  refine F.ok sc_tests_in (fun vs H Q E h => by obtain ⟨v, u, d, e, rfl, _⟩ := h; rfl) (fun cdv A outer s H vs Q E hr h => ?_)
  obtain ⟨v, u, d, e, rfl, rd, wdd, re, hsz, q1, q2, q3⟩ := h
  refine ⟨_, (pss_cons (ps_asg (pe_df D1 hr (passes_call (takes_of rfl rfl rfl rfl) (fun _ _ _ _ z => z)) (pa_cons (pv 0) (pa_cons (pv 1) pa_nil))) (pg_tup rfl (pgs_cons (pg_name (i := 2) sc_tests_in.nd rfl (by first | exact Or.inl rfl | exact Or.inr rfl)) (pgs_cons (pg_name (i := 3) sc_tests_in.nd rfl (by first | exact Or.inl rfl | exact Or.inr rfl)) pgs_nil))))
      (pss_one (ps_ret (pe_lc (own := [("at", 4)]) (g := gName 4) (tt := _) rfl sc_tests_in.nd (pi_seq (pv 3)) (blkOk_by (own := [("at", 4)]) (N := ["web", "part", "rows", "found", "at"]) (sc := defScope stests_in) (by decide +kernel)) (fun _ _ _ _ _ => pg_name (i := 4) sc_tests_in.nd rfl (by first | exact Or.inl rfl | exact Or.inr rfl)) (fun _ _ _ _ _ => (pts_one (pt_cmpR op_eq (pe_ix ix_D (pe_ix ix_D (pv 2) (pv 4) (fun _ _ => rfl)) pe_int (fun _ _ => rfl)) pe_str (nomark _)))) (fun _ _ _ _ _ => (pv 4)))))), ?_⟩
  refine ⟨_, rfl, _, rfl, v, u, d, e, rfl, rd, wdd, re, hsz, fun R k ks p l c H' sc ee pk s nc hc ec rl ep => ?_, q2, q3⟩
  have W := sc.web wdd
  have Cn := cone_lt W pk hc
  have hlim := sc.len wdd
  have lks := cone_len Cn
  refine ⟨p, _, rfl, SqT.of ep, rfl, _, _, rfl, _, _, rfl, rfl, ?_⟩
  refine ⟨_, rfl, c, _, rfl, .inl ec, fun J hJ D nD => ?_⟩
  refine fil_comp (fun j => (rowAt R j).isAsked) (.seq hJ (vints_dr ks)) nD (by omega) (fun _ => rfl) (fun _ => rfl) (fun j H2 Q' hj s2 q' => ?_) fun H2 s2 eD => ?_
  · have lj := Cn.lt j hj
    refine ⟨_, rfl, _, rfl, _, j, _, rl.sm s2, rfl, rfl, rowAt_at lj, fun x0 r0 => ⟨_, 0, _, r0, Row.seqD _, rfl, Row.word_at _, fun x1 r1 => ?_⟩⟩
    cases r1.str_inv
    refine ⟨rfl, _, rfl, ?_⟩
    rw [Row.askedP]
    exact q'
  · exact q1 R k ks D H2 sc ee pk (s.trans s2) (s.free nD) hc eD
end
end K8

/-! tree_of, depth_of. -/
namespace K8
open PySem PySem.Spec PyProof.Rows L2 WR
def gV (g : Nat → Nat) (ks : List Nat) : List (Key × V) := ks.map fun (k : Nat) => ((Sum.inl (k : Int) : Key), V.int (g k : Nat))
theorem gV_val (g : Nat → Nat) (k : Nat) : ∀ ks : List Nat, valV (gV g ks) (Sum.inl (k : Int)) = if k ∈ ks then some (.int (g k : Nat)) else none
  | [] => rfl
  | j :: ks => by
    have ih := gV_val g k ks
    show valV (((Sum.inl (j : Int) : Key), V.int (g j : Nat)) :: gV g ks) _ = _
    by_cases h : j = k
    · subst h
      rw [valV_pos rfl, if_pos (List.mem_cons_self ..)]
    · rw [valV_neg (fun z => h (by injection z with z; omega)), ih]
      have e : (k ∈ j :: ks) = (k ∈ ks) := by simp [Ne.symm h]
      simp only [e]
theorem gV_put {g : Nat → Nat} {ks : List Nat} {k : Nat} (h : k ∉ ks) : putK (gV g ks) (Sum.inl (k : Int)) (V.int (g k : Nat)) = gV g (ks ++ [k]) := by
  rw [putK_new _ (by rw [gV_val, if_neg h])]
  simp [gV]
theorem gI_at {ks : List Nat} (nd : ks.Nodup) {i : Nat} (h : i < ks.length) : gI ks ks[i] = i := by
  have h1 := gI_get (List.getElem_mem h)
  have h2 : ks[i]? = some ks[i] := List.getElem?_eq_getElem h
  exact (List.getElem?_inj (gI_lt (List.getElem_mem h)) nd).mp (h1.trans h2.symm)
def rIxE : R2 := fun x y H Q => ∃ (f : Nat → Nat) (k : Nat), y = .int (k : Int) ∧ Pl H x f k ∧ Q (.int (f k : Nat)) H
theorem ix_E {X : Cx} (hu : X.A.units + 1 < cLine) : IxR X rIxE := by
  intro value slice pins s σ H x y v u Q I rx ry h hs
  obtain ⟨f, k, rfl, p, q⟩ := h
  exact ix_P hu f value slice pins s σ H x _ v u Q I rx ry ⟨k, rfl, p, q⟩ hs
/-- the tuple of the numbers of numbers -/
theorem led_compE {J : It} {vs : List Nat} {i : Nat} {σ : L2.St} {H1 : Hp} {D : Addr} {ks : List Nat} {f : Nat → Nat} {pl : V} {Qd : Hp → Prop} {j : Nat} (W : Walk J H1 (nums ks)) (nD : H1 D = none) (hlen : ks.length ≤ lim)
    (hw : ∀ x, wipe ((wipe σ vs).set i (some x)) vs = wipe σ vs) (h1 : ∀ x, ((wipe σ vs).set i (some x))[j]? = some (some pl)) (h2 : ∀ x, ((wipe σ vs).set i (some x))[i]? = some (some x)) (hp : ∀ k ∈ ks, Pl H1 pl f k)
    (hd : ∀ H2 ys, Sm H1 H2 → H2 D = some (.lst ys) → DrA All H2 ys (nums (ks.map f)) → Qd H2) :
    ∃ W : Nat → Nat → Hp → Prop, (∃ m, W 0 m (upd H1 D (.lst []))) ∧ ∀ i' m H, W i' m H →
      (J.stop i' H ∧ Qd H) ∨ (J.go i' H ∧ ∃ Nx : Hp → Prop, (∀ H', Nx H' → ∃ m', m' < m ∧ W (i' + 1) m' H') ∧ ∀ x H', J.yld i' H x H' → gName i x (wipe σ vs) H' fun σ2 H2 => wipe σ2 vs = wipe σ vs ∧ tYes σ2 H2 fun b H3 =>
        if b = true then (tOp rIxE (tVar j) (tVar i)) σ2 H3 fun y H4 => ∃ acc, H4 D = some (.lst acc) ∧ acc.length < sizeLine ∧ Nx (upd H4 D (.lst (acc ++ [y]))) else Nx H3) := by
  refine lc_fz (fun d => PyData.int (f (intOf d).toNat : Nat)) W nD (by simpa [nums] using hlen) hw (fun _ _ => rfl) (fun x d H2 Q' hd' s2 rx q' => ?_) fun H2 ys s2 e ry => hd H2 ys s2 e (by rw [← nums_map]; exact ry)
  obtain ⟨k, hk, rfl⟩ := List.mem_map.mp hd'
  cases rx
  refine ⟨_, h1 _, _, h2 _, f, k, rfl, (hp k hk).sm s2, q' _ _ Sm.rfl' ?_⟩
  show Dr All H2 _ (PyData.int (f ((k : Int).toNat) : Nat))
  rw [Int.toNat_natCast]
  exact .int _

abbrev spMeas (f : List Nat → Nat) (CW CP : Addr) : Sp := fun vs H Q E => ∃ (v u : V) (d e : PyData), vs = [v, u] ∧ Dr All H v d ∧ wd d = true ∧ Dr All H u e ∧ (∀ R, ScanOf d R .none → sumN R [] ≤ 900000) ∧
  (∀ (R : List Row) (k : Nat) (H' : Hp), ScanOf d R .none → e = .int (k : Nat) → isPart R k = true → Sm H H' → Q (.int (fL (measG f R) k : Nat)) H') ∧ spNeedsWays CW CP v u d e H E
theorem named_lim {R : List Row} {k : Nat} (W : Web R) (hk : k < R.length) : (rowAt R k).named.length ≤ lim := by
  have okr := (W.at_ hk).2.2
  cases e5 : rowAt R k with
  | made n js => rw [e5] at okr; exact okr.2
  | asked n js => rw [e5] at okr; exact okr.2
  | either a b j => show 3 ≤ lim; decide
  | given b => show 0 ≤ lim; decide
theorem if_c {c : Bool} {a b : V} {σ : L2.St} {H : Hp} {R : VK} (h : R (if c = true then a else b) H) : if c = true then tC a σ H R else tC b σ H R := by cases c <;> exact h
theorem own_if (r : Row) : (if r.isMade = true then V.int 1 else V.int 0) = V.int (r.own : Nat) := by
  unfold Row.own
  split <;> rfl
theorem sum_int : ∀ l : List Nat, (l.map fun (k : Nat) => (k : Int)).sum = (l.sum : Nat)
  | [] => rfl
  | a :: l => by
    rw [List.map_cons, List.sum_cons, List.sum_cons, sum_int l]
    omega
section
variable {P : Program} {w : World} {K : PySem.W.Frag} {mg : Str → Option Value} {base : Heap} {CW CP : Addr}
theorem sc_tree_of : FnScope ["web", "part", "rows", "found", "sizes", "at", "own", "its"] ["web", "part"] (defScope stree_of) := ⟨rfl, rfl, rfl, by decide +kernel, rfl, by decide +kernel, by decide +kernel⟩
theorem okF_tree_of (B : Bt mg) (F : Fn K mg dtree_of) (D1 : Df P w K mg base (L2.CX P w) 7 "needed" ["web", "part"] (spNeeded CW CP)) (D2 : Df P w K mg base CX0 1 "named_rows" ["row"] spNamed) : DfF P w K mg base (L2.CX P w) 8 "tree_of" ["web", "part"] (spMeas List.sum CW CP) dtree_of := by
  obtain ⟨f, fd, hm, F⟩ := F
  refine ⟨f, fd, hm, F, F.bindsN fun _ _ _ _ _ _ us hl => match us, hl with | [_, _], _ => rfl, ?_⟩
  refine F.ok sc_tree_of (fun vs H Q E h => by obtain ⟨v, u, d, e, rfl, _⟩ := h; rfl) (fun cdv A outer s H vs Q E hr h => ?_)
  obtain ⟨v, u, d, e, rfl, rd, wdd, re, hsz, q1, q2, q3⟩ := h
  have hr1 := hr.mono (show 1 ≤ 7 by decide)
  have hu := hu_of hr
  refine ⟨_, (pss_cons (ps_asg (pe_df D1 hr (passes_call (takes_of rfl rfl rfl rfl) (fun _ _ _ _ z => z)) (pa_cons (pv 0) (pa_cons (pv 1) pa_nil))) (pg_tup rfl (pgs_cons (pg_name (i := 2) sc_tree_of.nd rfl (by first | exact Or.inl rfl | exact Or.inr rfl)) (pgs_cons (pg_name (i := 3) sc_tree_of.nd rfl (by first | exact Or.inl rfl | exact Or.inr rfl)) pgs_nil))))
      (PSs.nox (pss_cons (ps_set (i := 4) sc_tree_of.nd rfl (by first | exact Or.inl rfl | exact Or.inr rfl) pe_dnewK)
      (pss_cons (ps_for PassesOwn.never rfl (pi_seq (pv 3)) (pg_name (i := 5) sc_tree_of.nd rfl (by first | exact Or.inl rfl | exact Or.inr rfl)) (pss_cons (ps_set (i := 6) sc_tree_of.nd rfl (by first | exact Or.inl rfl | exact Or.inr rfl) (pe_ifExp (pt_cmpR op_eq (pe_ix ix_D (pe_ix ix_D (pv 2) (pv 5) (fun _ _ => rfl)) pe_int (fun _ _ => rfl)) pe_str (nomark _)) pe_int pe_int))
      (pss_one (ps_dput hu (pv 4) (pv 5) (pe_op op_add (pv 6) (pe_callB (cr_sum rfl) (by rfl) B.sum (by decide +kernel) (pa_cons (pe_lc (own := [("its", 7)]) (g := gName 7) (tt := tYes) rfl sc_tree_of.nd (pi_seq (pe_df D2 hr1 pass0 (pa_cons (pe_ix ix_D (pv 2) (pv 5) (fun _ _ => rfl)) pa_nil))) (blkOk_by (own := [("its", 7)]) (N := ["web", "part", "rows", "found", "sizes", "at", "own", "its"]) (sc := defScope stree_of) (by decide +kernel)) (fun _ _ _ _ _ => pg_name (i := 7) sc_tree_of.nd rfl (by first | exact Or.inl rfl | exact Or.inr rfl)) (fun _ _ _ _ _ => pts_nil) (fun _ _ _ _ _ => (pe_ix (ix_E hu) (pv 4) (pv 7) (fun _ _ => rfl)))) pa_nil))) rfl))))
      (pss_one (ps_ret (pe_ix (ix_E hu) (pv 4) (pv 1) (fun _ _ => rfl)))))))), ?_⟩
  refine ⟨_, rfl, _, rfl, v, u, d, e, rfl, rd, wdd, re, hsz, fun R k ks p l c H6 sc ee pk s nc hc ec rl ep => ?_, q2, q3⟩
  have W := sc.web wdd
  have Cn := cone_lt W pk hc
  have hlim := sc.len wdd
  have lks := cone_len Cn
  have nd : ks.Nodup := Cn.asc.imp fun h => Nat.ne_of_lt h
  have hsl := lim_lt
  refine ⟨p, _, rfl, SqT.of ep, rfl, _, _, rfl, _, _, rfl, rfl, ?_⟩
  intro pd npd
  have s6 : Sm H6 (upd H6 pd (.dK [])) := Sm.new npd
  have epd : upd H6 pd (.dK []) pd = some (.dK []) := upd_same
  have ecp := s6 _ _ ec
  have ncp : c ≠ pd := ne_of_none ec npd
  refine ⟨_, rfl, c, vN ks, rfl, .inl ecp, fun J hJ => ?_⟩
  refine for_seq hJ (fun i σ3 H3 => ∃ x5 x6, σ3 = [some v, some u, some (.ref l), some (.ref c), some (.ref pd), x5, x6, none] ∧ Sm H6 H3 ∧ H3 pd = some (.dK (gV (fL (measG List.sum R)) (ks.take i)))) ?_ ?_ ?_ ?_
  · exact ⟨_, _, rfl, s6, epd⟩
  · rintro i σ3 H3 _ ⟨_, _, _, fr, _⟩
    rw [fr _ _ ec, ecp]
  · rintro i x σ3 H3 hx ⟨x5, x6, rfl, fr, ep3⟩
    rw [List.getElem?_map] at hx
    obtain ⟨k', hk, rfl⟩ := Option.map_eq_some_iff.mp hx
    obtain ⟨hi, ek⟩ := List.getElem?_eq_some_iff.mp hk
    subst ek
    have hkR := Cn.lt _ (List.getElem_mem hi)
    have rr : Dr All H3 (.ref l) (rowsD R) := rl.sm fr
    have ahead := (Cn.step hi).1
    -- own
    refine ⟨_, rfl, _, rfl, _, ks[i], _, rr, rfl, rfl, rowAt_at hkR, fun x0 r0 => ⟨_, 0, _, r0, Row.seqD _, rfl, Row.word_at _, fun x1 r1 => ?_⟩⟩
    cases r1.str_inv
    refine ⟨rfl, _, rfl, ?_⟩
    rw [Row.madeP]
    refine if_c ?_
    rw [own_if]
    -- sizes[at] = ..
    refine ⟨_, rfl, _, rfl, _, rfl, rowsD R, ks[i], _, rr, rfl, rfl, rowAt_at hkR, fun y ry => ?_⟩
    refine ⟨y, rowAt R ks[i], rfl, ry, fun un H4 s4 rn => ?_⟩
    obtain ⟨na, nys, rfl, ena, rny⟩ : ∃ a ys, un = .ref a ∧ H4 a = some (.tup ys) ∧ DrA All H4 ys (nums (rowAt R ks[i]).named) := by
      cases rn with
      | tup e r => exact ⟨_, _, rfl, e, r⟩
    obtain rfl := vN_of rny
    have ep4 := s4 _ _ ep3
    refine ⟨na, _, rfl, .inr ena, fun J2 hJ2 D nD => ?_⟩
    refine led_compE (f := fL (measG List.sum R)) (.seq hJ2 (vints_dr _)) nD (named_lim W hkR) (fun _ => rfl) (fun _ => rfl) (fun _ => rfl) (fun j hj => .inr ⟨pd, _, rfl, ep4, by rw [gV_val, if_pos (ahead j hj)]⟩) fun H5 ys5 s5 eD ry5 => ?_
    obtain rfl := vN_of ry5
    refine ⟨D, ((rowAt R ks[i]).named.map (fL (measG List.sum R))).map fun (k : Nat) => (k : Int), rfl, SqL.of (by rw [List.map_map]; exact eD), ?_⟩
    refine ⟨_, _, rfl, rfl, ?_⟩
    have ep5 := s5 _ _ ep4
    refine ⟨_, rfl, _, rfl, pd, _, rfl, DPut.k (k := Sum.inl (ks[i] : Int)) ep5 (by simp only [gV, List.length_map, List.length_take]; omega), ?_⟩
    have hki : ks[i] ∉ ks.take i := fun z => by
      obtain ⟨j, hj, ej⟩ := List.mem_take_iff_getElem.mp z
      have := (List.getElem_inj nd).mp ej
      omega
    have ev : (((rowAt R ks[i]).own : Nat) : Int) + (((rowAt R ks[i]).named.map (fL (measG List.sum R))).map fun (k : Nat) => (k : Int)).sum = (fL (measG List.sum R) ks[i] : Nat) := by
      rw [sum_int, meas_at W hkR]
      omega
    have eput : putK (gV (fL (measG List.sum R)) (ks.take i)) (Sum.inl (ks[i] : Int)) (V.int (fL (measG List.sum R) ks[i] : Nat)) = gV (fL (measG List.sum R)) (ks.take i ++ [ks[i]]) := gV_put hki
    have et : ks.take (i + 1) = ks.take i ++ [ks[i]] := by rw [List.take_add_one, List.getElem?_eq_getElem hi]; rfl
    refine ⟨_, _, rfl, fun b o z => ?_, ?_⟩
    · rw [upd_ne (ne_of_none z npd)]
      exact s5 _ _ (s4 _ _ (fr _ _ z))
    · rw [et, ← eput, upd_same, ← ev]
  · rintro σ3 H3 ⟨x5, x6, rfl, fr, ep3⟩
    have ev : (vN ks).length = ks.length := by simp [vN]
    rw [ev, List.take_length] at ep3
    subst ee
    cases re.int_inv
    refine ⟨_, rfl, _, rfl, fL (measG List.sum R), k, rfl, .inr ⟨pd, _, rfl, ep3, by rw [gV_val, if_pos ((hc.mem k).mpr (.tip (List.mem_singleton.mpr rfl)))]⟩, ?_⟩
    exact q1 R k H3 sc rfl pk (s.trans fr)
end
end K8

/-! max(.., default=0); depth_of. -/
namespace K8
open PySem PySem.Spec PyProof.Rows L2 WR
def rMaxDf : List V → List V → Hp → VK → Prop := fun vs zs H Q => ∃ (a : Addr) (ns : List Nat), vs = [.ref a] ∧ zs = [.int 0] ∧ H a = some (.lst (vN ns)) ∧ Q (.int (maxL ns : Nat)) H
theorem fold_max : ∀ (l : List Nat) (n : Nat), (l.map fun (k : Nat) => (k : Int)).foldl max (n : Int) = ((Nat.max n (maxL l) : Nat) : Int)
  | [], n => by simp [maxL]
  | a :: l, n => by
    rw [List.map_cons, List.foldl_cons, show max (n : Int) (a : Int) = ((Nat.max n a : Nat) : Int) by simp [Nat.max_def, Int.max_def]; split <;> omega, fold_max l]
    show ((Nat.max (Nat.max n a) (maxL l) : Nat) : Int) = ((Nat.max n (Nat.max a (maxL l)) : Nat) : Int)
    rw [show Nat.max (Nat.max n a) (maxL l) = Nat.max n (Nat.max a (maxL l)) from Nat.max_assoc ..]
theorem depth_ints : ∀ l : List Int, PyData.depthAll (l.map PyData.int) = 0
  | [] => rfl
  | a :: l => by
    show max (PyData.depth (.int a)) (PyData.depthAll (l.map PyData.int)) = 0
    rw [depth_ints l]
    rfl
theorem alike_ints (l : List Int) : PySem.W.AlikeAll (l.map PyData.int) := by
  refine ⟨fun x hx y hy => ?_, fun x hx => ?_⟩
  · obtain ⟨a, _, rfl⟩ := List.mem_map.mp hx
    obtain ⟨b, _, rfl⟩ := List.mem_map.mp hy
    rfl
  · obtain ⟨a, _, rfl⟩ := List.mem_map.mp hx
    exact fun z => by cases z
theorem call_maxDf {X : Cx} (hc : X.calm = true) (hu : X.A.units + 1 < cLine) : CallRK X (.builtin "max") [Str.ofString "default"] rMaxDf := by
  intro pins s σ H xs zs us ws Q I rx rz h
  obtain ⟨a, ns, rfl, rfl, e, q⟩ := h
  have e' : H a = some (.lst ((ns.map fun (k : Nat) => (k : Int)).map V.int)) := by
    rw [e, List.map_map]
    rfl
  obtain ⟨its, rv, hl, _⟩ := I.list (SqL.of e')
  rw [Vals.ref1 rx]
  obtain ⟨w, rfl, rw1⟩ := rz.one
  refine PySem.W.max_list_default (I.ok.hd hc) hl.isList (ints_readAll _ rv.ints) (alike_ints _) (by rw [depth_ints]; exact hu) (fun h0 h' tk hk => ?_) fun y ys i v h' tk bs e2 hv rd hk => ?_
  · have : ns = [] := by simpa using h0
    subst this
    exact ⟨.int 0, H, I.kept hk, rw1, q⟩
  · cases ns with
    | nil => cases e2
    | cons n ns =>
      simp only [List.map_cons, List.cons.injEq] at e2
      obtain ⟨rfl, rfl⟩ := e2
      rw [PySem.W.maxD_ints, fold_max] at rd
      have : maxL (n :: ns) = Nat.max n (maxL ns) := rfl
      rw [← this] at rd
      cases rd
      exact ⟨.int _, H, I.kept hk, ⟨_, rfl⟩, q⟩
end K8

/-! depth_of. -/
namespace K8
open PySem PySem.Spec PyProof.Rows L2 WR
theorem if_add {c : Bool} {m : Nat} {σ : L2.St} {H : Hp} {R : VK} (hσ : σ[6]? = some (some (.int (m : Nat)))) (h : R (.int ((m + (if c = true then 1 else 0) : Nat) : Int)) H) : if c = true then tOp (rI0 fun i j => V.int (i + j)) (tVar 6) (tC (.int 1)) σ H R else tVar 6 σ H R := by
  cases c with
  | true =>
    refine ⟨_, hσ, _, _, rfl, rfl, ?_⟩
    exact h
  | false => exact ⟨_, hσ, h⟩
section
variable {P : Program} {w : World} {K : PySem.W.Frag} {mg : Str → Option Value} {base : Heap} {CW CP : Addr}
theorem sc_depth_of : FnScope ["web", "part", "rows", "found", "depths", "at", "deepest", "its"] ["web", "part"] (defScope sdepth_of) := ⟨rfl, rfl, rfl, by decide +kernel, rfl, by decide +kernel, by decide +kernel⟩
theorem okF_depth_of (B : Bt mg) (BM : mg "max" = none) (F : Fn K mg ddepth_of) (D1 : Df P w K mg base (L2.CX P w) 7 "needed" ["web", "part"] (spNeeded CW CP)) (D2 : Df P w K mg base CX0 1 "named_rows" ["row"] spNamed) : DfF P w K mg base (L2.CX P w) 8 "depth_of" ["web", "part"] (spMeas maxL CW CP) ddepth_of := by
  obtain ⟨f, fd, hm, F⟩ := F
  refine ⟨f, fd, hm, F, F.bindsN fun _ _ _ _ _ _ us hl => match us, hl with | [_, _], _ => rfl, ?_⟩
  refine F.ok sc_depth_of (fun vs H Q E h => by obtain ⟨v, u, d, e, rfl, _⟩ := h; rfl) (fun cdv A outer s H vs Q E hr h => ?_)
  obtain ⟨v, u, d, e, rfl, rd, wdd, re, hsz, q1, q2, q3⟩ := h
  have hr1 := hr.mono (show 1 ≤ 7 by decide)
  have hu := hu_of hr
  refine ⟨_, (pss_cons (ps_asg (pe_df D1 hr (passes_call (takes_of rfl rfl rfl rfl) (fun _ _ _ _ z => z)) (pa_cons (pv 0) (pa_cons (pv 1) pa_nil))) (pg_tup rfl (pgs_cons (pg_name (i := 2) sc_depth_of.nd rfl (by first | exact Or.inl rfl | exact Or.inr rfl)) (pgs_cons (pg_name (i := 3) sc_depth_of.nd rfl (by first | exact Or.inl rfl | exact Or.inr rfl)) pgs_nil))))
      (PSs.nox (pss_cons (ps_set (i := 4) sc_depth_of.nd rfl (by first | exact Or.inl rfl | exact Or.inr rfl) pe_dnewK)
      (pss_cons (ps_for PassesOwn.never rfl (pi_seq (pv 3)) (pg_name (i := 5) sc_depth_of.nd rfl (by first | exact Or.inl rfl | exact Or.inr rfl)) (pss_cons (ps_set (i := 6) sc_depth_of.nd rfl (by first | exact Or.inl rfl | exact Or.inr rfl) (pe_callBK (call_maxDf rfl hu) (by rfl) BM (by decide +kernel) (pa_cons (pe_lc (own := [("its", 7)]) (g := gName 7) (tt := tYes) rfl sc_depth_of.nd (pi_seq (pe_df D2 hr1 pass0 (pa_cons (pe_ix ix_D (pv 2) (pv 5) (fun _ _ => rfl)) pa_nil))) (blkOk_by (own := [("its", 7)]) (N := ["web", "part", "rows", "found", "depths", "at", "deepest", "its"]) (sc := defScope sdepth_of) (by decide +kernel)) (fun _ _ _ _ _ => pg_name (i := 7) sc_depth_of.nd rfl (by first | exact Or.inl rfl | exact Or.inr rfl)) (fun _ _ _ _ _ => pts_nil) (fun _ _ _ _ _ => (pe_ix (ix_E hu) (pv 4) (pv 7) (fun _ _ => rfl)))) pa_nil) (pk_cons pe_int pk_nil)))
      (pss_one (ps_dput hu (pv 4) (pv 5) (pe_ifExp (pt_cmpR op_eq (pe_ix ix_D (pe_ix ix_D (pv 2) (pv 5) (fun _ _ => rfl)) pe_int (fun _ _ => rfl)) pe_str (nomark _)) (pe_op op_add (pv 6) pe_int) (pv 6)) rfl))))
      (pss_one (ps_ret (pe_ix (ix_E hu) (pv 4) (pv 1) (fun _ _ => rfl)))))))), ?_⟩
  refine ⟨_, rfl, _, rfl, v, u, d, e, rfl, rd, wdd, re, hsz, fun R k ks p l c H6 sc ee pk s nc hc ec rl ep => ?_, q2, q3⟩
  have W := sc.web wdd
  have Cn := cone_lt W pk hc
  have hlim := sc.len wdd
  have lks := cone_len Cn
  have nd : ks.Nodup := Cn.asc.imp fun h => Nat.ne_of_lt h
  have hsl := lim_lt
  refine ⟨p, _, rfl, SqT.of ep, rfl, _, _, rfl, _, _, rfl, rfl, ?_⟩
  intro pd npd
  have s6 : Sm H6 (upd H6 pd (.dK [])) := Sm.new npd
  have epd : upd H6 pd (.dK []) pd = some (.dK []) := upd_same
  have ecp := s6 _ _ ec
  have ncp : c ≠ pd := ne_of_none ec npd
  refine ⟨_, rfl, c, vN ks, rfl, .inl ecp, fun J hJ => ?_⟩
  refine for_seq hJ (fun i σ3 H3 => ∃ x5 x6, σ3 = [some v, some u, some (.ref l), some (.ref c), some (.ref pd), x5, x6, none] ∧ Sm H6 H3 ∧ H3 pd = some (.dK (gV (fL (measG maxL R)) (ks.take i)))) ?_ ?_ ?_ ?_
  · exact ⟨_, _, rfl, s6, epd⟩
  · rintro i σ3 H3 _ ⟨_, _, _, fr, _⟩
    rw [fr _ _ ec, ecp]
  · rintro i x σ3 H3 hx ⟨x5, x6, rfl, fr, ep3⟩
    rw [List.getElem?_map] at hx
    obtain ⟨k', hk, rfl⟩ := Option.map_eq_some_iff.mp hx
    obtain ⟨hi, ek⟩ := List.getElem?_eq_some_iff.mp hk
    subst ek
    have hkR := Cn.lt _ (List.getElem_mem hi)
    have rr : Dr All H3 (.ref l) (rowsD R) := rl.sm fr
    have ahead := (Cn.step hi).1
    -- deepest
    refine ⟨_, rfl, _, rfl, rowsD R, ks[i], _, rr, rfl, rfl, rowAt_at hkR, fun y ry => ?_⟩
    refine ⟨y, rowAt R ks[i], rfl, ry, fun un H4 s4 rn => ?_⟩
    obtain ⟨na, nys, rfl, ena, rny⟩ : ∃ a ys, un = .ref a ∧ H4 a = some (.tup ys) ∧ DrA All H4 ys (nums (rowAt R ks[i]).named) := by
      cases rn with
      | tup e r => exact ⟨_, _, rfl, e, r⟩
    obtain rfl := vN_of rny
    have ep4 := s4 _ _ ep3
    refine ⟨na, _, rfl, .inr ena, fun J2 hJ2 D nD => ?_⟩
    refine led_compE (f := fL (measG maxL R)) (.seq hJ2 (vints_dr _)) nD (named_lim W hkR) (fun _ => rfl) (fun _ => rfl) (fun _ => rfl) (fun j hj => .inr ⟨pd, _, rfl, ep4, by rw [gV_val, if_pos (ahead j hj)]⟩) fun H5 ys5 s5 eD ry5 => ?_
    obtain rfl := vN_of ry5
    refine ⟨D, (rowAt R ks[i]).named.map (fL (measG maxL R)), rfl, rfl, eD, ?_⟩
    -- depths[at] = ..
    have ep5 := s5 _ _ ep4
    have rr5 := rr.sm (s4.trans s5)
    refine ⟨_, rfl, _, rfl, _, ks[i], _, rr5, rfl, rfl, rowAt_at hkR, fun x0 r0 => ⟨_, 0, _, r0, Row.seqD _, rfl, Row.word_at _, fun x1 r1 => ?_⟩⟩
    cases r1.str_inv
    refine ⟨rfl, _, rfl, ?_⟩
    rw [Row.madeP]
    refine if_add (m := maxL ((rowAt R ks[i]).named.map (fL (measG maxL R)))) rfl ?_
    rw [show (if (rowAt R ks[i]).isMade = true then 1 else 0) = (rowAt R ks[i]).own from rfl]
    refine ⟨_, rfl, _, rfl, pd, _, rfl, DPut.k (k := Sum.inl (ks[i] : Int)) ep5 (by simp only [gV, List.length_map, List.length_take]; omega), ?_⟩
    have hki : ks[i] ∉ ks.take i := fun z => by
      obtain ⟨j, hj, ej⟩ := List.mem_take_iff_getElem.mp z
      have := (List.getElem_inj nd).mp ej
      omega
    have ev : maxL ((rowAt R ks[i]).named.map (fL (measG maxL R))) + (rowAt R ks[i]).own = fL (measG maxL R) ks[i] := by
      rw [meas_at W hkR]
      omega
    have eput : putK (gV (fL (measG maxL R)) (ks.take i)) (Sum.inl (ks[i] : Int)) (V.int (fL (measG maxL R) ks[i] : Nat)) = gV (fL (measG maxL R)) (ks.take i ++ [ks[i]]) := gV_put hki
    have et : ks.take (i + 1) = ks.take i ++ [ks[i]] := by rw [List.take_add_one, List.getElem?_eq_getElem hi]; rfl
    refine ⟨_, _, rfl, fun b o z => ?_, ?_⟩
    · rw [upd_ne (ne_of_none z npd)]
      exact s5 _ _ (s4 _ _ (fr _ _ z))
    · rw [et, ← eput, upd_same, ← ev]
  · rintro σ3 H3 ⟨x5, x6, rfl, fr, ep3⟩
    have ev : (vN ks).length = ks.length := by simp [vN]
    rw [ev, List.take_length] at ep3
    subst ee
    cases re.int_inv
    refine ⟨_, rfl, _, rfl, fL (measG maxL R), k, rfl, .inr ⟨pd, _, rfl, ep3, by rw [gV_val, if_pos ((hc.mem k).mpr (.tip (List.mem_singleton.mpr rfl)))]⟩, ?_⟩
    exact q1 R k H3 sc rfl pk (s.trans fr)
end
end K8

/-! is_asked; _law_k_needs. -/
namespace K8
open PySem PySem.Spec PyProof.Rows L2 WR
def isAskedD (R : List Row) : PyData → Bool
  | .int i => decide (0 ≤ i) && (decide (i < (R.length : Int)) && (rowAt R i.toNat).isAsked)
  | _ => false
theorem isAskedD_nat (R : List Row) (k : Nat) : isAskedD R (.int (k : Nat)) = (decide (k < R.length) && (rowAt R k).isAsked) := by
  show (decide ((0 : Int) ≤ (k : Nat)) && (decide (((k : Nat) : Int) < (R.length : Int)) && (rowAt R ((k : Nat) : Int).toNat).isAsked)) = (decide (k < R.length) && (rowAt R k).isAsked)
  rw [decide_eq_true (Int.natCast_nonneg k), Bool.true_and, Int.toNat_natCast, decide_eq_decide.mpr (show ((k : Nat) : Int) < (R.length : Int) ↔ k < R.length by omega)]
abbrev spIsAsked : Sp := fun vs H Q _ => ∃ (v u : V) (R : List Row) (d : PyData), vs = [v, u] ∧ Dr All H v (rowsD R) ∧ Dr All H u d ∧ ∀ H', Sm H H' → Q (.bl (isAskedD R d)) H'
section
variable {P : Program} {w : World} {K : PySem.W.Frag} {mg : Str → Option Value} {base : Heap}
theorem sc_is_asked : FnScope ["rows", "thing"] ["rows", "thing"] (defScope sis_asked) := ⟨rfl, rfl, rfl, by decide +kernel, rfl, by decide +kernel, by decide +kernel⟩
theorem ok_is_asked (B : Bt mg) (F : Fn K mg dis_asked) (D1 : Df P w K mg base CX0 2 "is_place" ["thing", "many"] spIsPlace) : Df P w K mg base CX0 3 "is_asked" ["rows", "thing"] spIsAsked := by
  obtain ⟨f, fd, hm, F⟩ := F
  refine ⟨f, fd, hm, F.kp, F.bindsN fun _ _ _ _ _ _ us hl => match us, hl with | [_, _], _ => rfl, ?_⟩
  refine F.ok sc_is_asked (fun vs H Q E h => by obtain ⟨v, u, R, d, rfl, _⟩ := h; rfl) (fun cdv A outer s H vs Q E hr h => ?_)
  obtain ⟨v, u, R, d, rfl, rd, ru, q⟩ := h
  refine ⟨_, PSs.nox (pss_one (ps_ret (pe_and (pe_df D1 hr pass0 (pa_cons (pv 1) (pa_cons (pe_callB call_lenS (by rfl) B.len (by decide +kernel) (pa_cons (pv 0) pa_nil)) pa_nil))) (pe_one (pe_cmpR op_eq (pe_ix ix_D (pe_ix ix_D (pv 0) (pv 1) (fun _ _ => rfl)) pe_int (fun _ _ => rfl)) pe_str (nomark _)))))), ?_⟩
  have el : (its (rowsD R)).length = R.length := by simp [rowsD, its]
  refine ⟨_, rfl, _, rfl, v, _, rfl, rd, rfl, ?_⟩
  refine spP2_of ru (.int _) ⟨_, _, rfl⟩ fun b H1 s1 r1 => ?_
  cases r1.bl_inv
  refine ⟨_, rfl, ite2 (fun hp => ?_) (fun hp => ?_)⟩
  · have hp' : isPlace d (R.length : Nat) = true := by rw [← el]; exact hp
    cases d with
    | int i =>
      simp only [isPlace, Bool.and_eq_true, decide_eq_true_eq] at hp'
      obtain ⟨k, rfl⟩ := Int.eq_ofNat_of_zero_le hp'.1
      have hk : k < R.length := by omega
      cases ru.int_inv
      refine ⟨_, rfl, _, rfl, _, k, _, rd.sm s1, rfl, rfl, rowAt_at hk, fun x0 r0 => ?_⟩
      refine ⟨_, 0, _, r0, Row.seqD _, rfl, Row.word_at _, fun x1 r1 => ?_⟩
      cases r1.str_inv
      refine ⟨rfl, ?_⟩
      rw [Row.askedP]
      have := q H1 s1
      rw [isAskedD_nat, decide_eq_true hk, Bool.true_and] at this
      exact this
    | _ => cases hp'
  · have hp' : isPlace d (R.length : Nat) = false := by rw [← el]; exact eq_false_of_ne_true hp
    have := q H1 s1
    have e : isAskedD R d = false := by
      cases d with
      | int i =>
        show (decide (0 ≤ i) && (decide (i < (R.length : Int)) && (rowAt R i.toNat).isAsked)) = false
        rw [← Bool.and_assoc, show (decide (0 ≤ i) && decide (i < (R.length : Int))) = false from hp', Bool.false_and]
      | _ => rfl
    rw [e] at this
    exact this
end
end K8

/-! _law_k_needs, _law_trees, _law_depths. -/
namespace K8
open PySem PySem.Spec PyProof.Rows L2 WR
abbrev spKNeeds : Sp := fun vs H Q _ => ∃ (v : V) (r : Row), vs = [v] ∧ Dr All H v r.d ∧ ∀ (l : Addr) H', Sm H H' → H l = none → H' l = some (.lst (vN r.named)) → Q (.ref l) H'
section
variable {P : Program} {w : World} {K : PySem.W.Frag} {mg : Str → Option Value} {base : Heap}
theorem sc__law_k_needs : FnScope ["row"] ["row"] (defScope s_law_k_needs) := ⟨rfl, rfl, rfl, by decide +kernel, rfl, by decide +kernel, by decide +kernel⟩
theorem ok__law_k_needs (B : Bt mg) (F : Fn K mg d_law_k_needs) : Df P w K mg base CX0 1 "_law_k_needs" ["row"] spKNeeds := by
  obtain ⟨f, fd, hm, F⟩ := F
  refine ⟨f, fd, hm, F.kp, F.bindsN fun _ _ _ _ _ _ us hl => match us, hl with | [_], _ => rfl, ?_⟩
  refine F.ok sc__law_k_needs (fun vs H Q E h => by obtain ⟨v, r, rfl, _⟩ := h; rfl) (fun cdv A outer s H vs Q E hr h => ?_)
  obtain ⟨v, r, rfl, rd, q⟩ := h
  refine ⟨_, PSs.nox (pss_cons (ps_if (pt_cmpR op_eq (pe_ix ix_D (pv 0) pe_int (fun _ _ => rfl)) pe_str (nomark _)) (pss_one (ps_ret (pe_lst pa_nil))) pss_nil)
      (pss_one (ps_ret (pe_ifExp (pt_cmpR op_eq (pe_ix ix_D (pv 0) pe_int (fun _ _ => rfl)) pe_str (nomark _)) (pe_callTy (call_listN All) (by rfl) B.list (by decide +kernel) (pa_cons (pe_slice sl_D (pv 0) (po_some pe_int) po_none) pa_nil)) (pe_callTy (call_listN All) (by rfl) B.list (by decide +kernel) (pa_cons (pe_ix ix_D (pv 0) pe_int (fun _ _ => rfl)) pa_nil)))))), ?_⟩
  cases r with
  | given k =>
    refine ⟨_, rfl, _, 0, _, rd, rfl, rfl, rfl, fun x0 r0 => ?_⟩
    cases r0.str_inv
    refine ⟨rfl, _, rfl, ite2 (fun _ => ?_) (fun z => absurd (decide_eq_true rfl) z)⟩
    exact ⟨(by show 0 ≤ sizeLine; decide), fun t ht => q t _ (Sm.new ht) ht upd_same⟩
  | either a i j =>
    refine ⟨_, rfl, _, 0, _, rd, rfl, rfl, rfl, fun x0 r0 => ?_⟩
    cases r0.str_inv
    refine ⟨rfl, _, rfl, ite2 (fun z => absurd z (by decide +kernel)) (fun _ => ?_)⟩
    refine ⟨_, rfl, _, 0, _, rd, rfl, rfl, rfl, fun x0 r0 => ?_⟩
    cases r0.str_inv
    refine ⟨rfl, _, rfl, ite2 (fun _ => ?_) (fun z => absurd (decide_eq_true rfl) z)⟩
    refine ⟨_, rfl, _, rfl, _, rd, rfl, fun v1 H3 s3 r3 => ⟨_, _, rfl, r3, rfl, fun l ys nl ry => q l _ (s3.trans (Sm.new nl)) (s3.free nl) ?_⟩⟩
    rw [upd_same, vN_of (show DrA _ _ ys (nums [a, i, j]) from ry)]
    rfl
  | made n ks =>
    refine ⟨_, rfl, _, 0, _, rd, rfl, rfl, rfl, fun x0 r0 => ?_⟩
    cases r0.str_inv
    refine ⟨rfl, _, rfl, ite2 (fun z => absurd z (by decide +kernel)) (fun _ => ?_)⟩
    refine ⟨_, rfl, _, 0, _, rd, rfl, rfl, rfl, fun x0 r0 => ?_⟩
    cases r0.str_inv
    refine ⟨rfl, _, rfl, ite2 (fun z => absurd z (by decide +kernel)) (fun _ => ?_)⟩
    refine ⟨_, rfl, _, 2, _, rd, rfl, rfl, rfl, fun x0 r0 => ⟨_, _, rfl, r0, rfl, fun l ys nl ry => q l _ (Sm.new nl) nl ?_⟩⟩
    rw [upd_same, vN_of (show DrA _ _ ys (nums ks) from ry)]
    rfl
  | asked n ks =>
    refine ⟨_, rfl, _, 0, _, rd, rfl, rfl, rfl, fun x0 r0 => ?_⟩
    cases r0.str_inv
    refine ⟨rfl, _, rfl, ite2 (fun z => absurd z (by decide +kernel)) (fun _ => ?_)⟩
    refine ⟨_, rfl, _, 0, _, rd, rfl, rfl, rfl, fun x0 r0 => ?_⟩
    cases r0.str_inv
    refine ⟨rfl, _, rfl, ite2 (fun z => absurd z (by decide +kernel)) (fun _ => ?_)⟩
    refine ⟨_, rfl, _, 2, _, rd, rfl, rfl, rfl, fun x0 r0 => ⟨_, _, rfl, r0, rfl, fun l ys nl ry => q l _ (Sm.new nl) nl ?_⟩⟩
    rw [upd_same, vN_of (show DrA _ _ ys (nums ks) from ry)]
    rfl
end
end K8

/-! _law_trees, _law_depths. -/
namespace K8
open PySem PySem.Spec PyProof.Rows L2 WR
abbrev spKMeas (f : List Nat → Nat) : Sp := fun vs H Q _ => ∃ (v : V) (R : List Row), vs = [v] ∧ Dr All H v (rowsD R) ∧ Web R ∧ R.length ≤ lim ∧ ∀ (l : Addr) H', Sm H H' → H l = none → H' l = some (.lst (vN (measG f R))) → Q (.ref l) H'
theorem fL_get {ps : List Nat} {k : Nat} (h : k < ps.length) : ps[k]? = some (fL ps k) := by
  unfold fL
  rw [List.getD_eq_getElem?_getD, List.getElem?_eq_getElem h]
  rfl
section
variable {P : Program} {w : World} {K : PySem.W.Frag} {mg : Str → Option Value} {base : Heap}
theorem sc__law_trees : FnScope ["rows", "found", "row", "one"] ["rows"] (defScope s_law_trees) := ⟨rfl, rfl, rfl, by decide +kernel, rfl, by decide +kernel, by decide +kernel⟩
theorem ok__law_trees (B : Bt mg) (F : Fn K mg d_law_trees) (D1 : Df P w K mg base CX0 1 "_law_k_needs" ["row"] spKNeeds) : Df P w K mg base CX0 2 "_law_trees" ["rows"] (spKMeas List.sum) := by
  obtain ⟨f, fd, hm, F⟩ := F
  refine ⟨f, fd, hm, F.kp, F.bindsN fun _ _ _ _ _ _ us hl => match us, hl with | [_], _ => rfl, ?_⟩
  refine F.ok sc__law_trees (fun vs H Q E h => by obtain ⟨v, R, rfl, _⟩ := h; rfl) (fun cdv A outer s H vs Q E hr h => ?_)
  obtain ⟨v, R, rfl, rd, W, hR, q⟩ := h
  have hsl := lim_lt
  have hu := hu_of hr
  refine ⟨_, PSs.nox (pss_cons (ps_set (i := 1) sc__law_trees.nd rfl (by first | exact Or.inl rfl | exact Or.inr rfl) (pe_lst pa_nil))
      (pss_cons (ps_for PassesOwn.never rfl (pi_seq (pv 0)) (pg_name (i := 2) sc__law_trees.nd rfl (by first | exact Or.inl rfl | exact Or.inr rfl)) (pss_one (ps_expr (pe_bm PySem.F.plainAttrs_list PySem.F.slot_list_append PySem.F.type_list_append mt_append (pv 1) (pa_cons (pe_op op_add (pe_callTy call_int1 (by rfl) B.int (by decide +kernel) (pa_cons (pe_cmpR op_eq (pe_ix ix_D (pv 2) pe_int (fun _ _ => rfl)) pe_str (nomark _)) pa_nil)) (pe_callB (cr_sum rfl) (by rfl) B.sum (by decide +kernel) (pa_cons (pe_lc (own := [("one", 3)]) (g := gName 3) (tt := tYes) rfl sc__law_trees.nd (pi_seq (pe_df D1 hr pass0 (pa_cons (pv 2) pa_nil))) (blkOk_by (own := [("one", 3)]) (N := ["rows", "found", "row", "one"]) (sc := defScope s_law_trees) (by decide +kernel)) (fun _ _ _ _ _ => pg_name (i := 3) sc__law_trees.nd rfl (by first | exact Or.inl rfl | exact Or.inr rfl)) (fun _ _ _ _ _ => pts_nil) (fun _ _ _ _ _ => (pe_ix (ix_E hu) (pv 1) (pv 3) (fun _ _ => rfl)))) pa_nil))) pa_nil)))))
      (pss_one (ps_ret (pv 1))))), ?_⟩
  refine ⟨(by show 0 ≤ sizeLine; decide), fun l nl => ?_⟩
  obtain ⟨va, vxs, rfl, eva, rva⟩ : ∃ va vxs, v = .ref va ∧ H va = some (.lst vxs) ∧ DrA All H vxs (R.map Row.d) := by
    cases rd with
    | lst _ e r => exact ⟨_, _, rfl, e, r⟩
  have lvx : vxs.length = R.length := by rw [rva.length, List.length_map]
  have s0 := Sm.new (o := .lst []) nl
  refine ⟨_, rfl, va, vxs, rfl, .inl (s0 _ _ eva), fun J hJ => for_seq hJ (fun i σ3 H3 => ∃ x2, σ3 = [some (.ref va), some (.ref l), x2, none] ∧ Sm H H3 ∧ H3 l = some (.lst (vN (measG List.sum (R.take i))))) ?_ ?_ ?_ ?_⟩
  · exact ⟨_, rfl, s0, upd_same⟩
  · rintro i σ3 H3 _ ⟨_, _, fr, _⟩
    rw [fr _ _ eva, s0 _ _ eva]
  · rintro i x σ3 H3 hx ⟨x2, rfl, fr, el⟩
    obtain ⟨d, ed, rx⟩ := rva.get hx
    rw [List.getElem?_map] at ed
    obtain ⟨r, er, rfl⟩ := Option.map_eq_some_iff.mp ed
    obtain ⟨hi, eri⟩ := List.getElem?_eq_some_iff.mp er
    have rx3 := rx.sm fr
    have hR' : rowAt R i = r := by rw [rowAt_get hi, eri]
    have ahead := W.ahead hi
    have lm := meas_len List.sum R i (by omega)
    refine ⟨_, rfl, .inl ⟨rfl, _, SqL.of el⟩, ?_⟩
    refine ⟨_, rfl, _, 0, _, rx3, Row.seqD _, rfl, Row.word_at _, fun x1 r1 => ?_⟩
    cases r1.str_inv
    refine ⟨rfl, .inr ⟨_, rfl, ?_⟩⟩
    rw [Row.madeP]
    refine ⟨_, rfl, x, r, rfl, rx3, fun na H4 s4 nna ena => ?_⟩
    refine ⟨na, _, rfl, .inl ena, fun J2 hJ2 D nD => ?_⟩
    have el4 := s4 _ _ el
    refine led_compE (f := fL (measG List.sum (R.take i))) (.seq hJ2 (vints_dr _)) nD (by rw [← hR']; exact named_lim W hi) (fun _ => rfl) (fun _ => rfl) (fun _ => rfl) (fun j hj => .inl ⟨measG List.sum (R.take i), .lst trivial el4 (vints_dr _), fL_get (by rw [lm]; exact ahead j (by rw [hR']; exact hj))⟩) fun H5 ys5 s5 eD ry5 => ?_
    obtain rfl := vN_of ry5
    refine ⟨D, (r.named.map (fL (measG List.sum (R.take i)))).map fun (k : Nat) => (k : Int), rfl, SqL.of (by rw [List.map_map]; exact eD), ?_⟩
    refine ⟨_, _, rfl, rfl, ?_⟩
    have el5 := s5 _ _ el4
    refine ⟨l, _, _, rfl, rfl, el5, by simp only [vN, List.length_map]; omega, ?_⟩
    have ev : (V.int ((if r.isMade = true then 1 else 0) + ((r.named.map (fL (measG List.sum (R.take i)))).map fun (k : Nat) => (k : Int)).sum)) = V.int ((r.own + (r.named.map (fL (measG List.sum (R.take i)))).sum : Nat) : Int) := by
      rw [sum_int]
      unfold Row.own
      split <;> congr 1
    refine ⟨_, rfl, fun b o z => ?_, ?_⟩
    · rw [upd_ne (ne_of_none z nl)]
      exact s5 _ _ (s4 _ _ (fr _ _ z))
    · rw [upd_same, take_snoc hi, eri, meas_snoc]
      dsimp only
      rw [ev]
      simp [vN]
  · rintro σ3 H3 ⟨x2, rfl, fr, el⟩
    rw [lvx, List.take_length] at el
    exact ⟨_, rfl, q l H3 fr nl el⟩
theorem max_is {l : List Nat} {m : Int} (hm : m ∈ (0 :: l).map fun (k : Nat) => (k : Int)) (hle : ∀ y, y ∈ ((0 :: l).map fun (k : Nat) => (k : Int)) → y ≤ m) : m = (maxL l : Nat) := by
  obtain ⟨k, hk, rfl⟩ := List.mem_map.mp hm
  have h1 : maxL l ≤ k := maxL_le fun j hj => by
    have := hle (j : Nat) (List.mem_map.mpr ⟨j, List.mem_cons_of_mem _ hj, rfl⟩)
    omega
  rcases List.mem_cons.mp hk with rfl | z
  · have : maxL l = 0 := by omega
    rw [this]
  · have := le_maxL z
    have : k = maxL l := by omega
    rw [this]
theorem sc__law_depths : FnScope ["rows", "found", "row", "one"] ["rows"] (defScope s_law_depths) := ⟨rfl, rfl, rfl, by decide +kernel, rfl, by decide +kernel, by decide +kernel⟩
theorem ok__law_depths (B : Bt mg) (BM : mg "max" = none) (F : Fn K mg d_law_depths) (D1 : Df P w K mg base CX0 1 "_law_k_needs" ["row"] spKNeeds) : Df P w K mg base CX0 2 "_law_depths" ["rows"] (spKMeas maxL) := by
  obtain ⟨f, fd, hm, F⟩ := F
  refine ⟨f, fd, hm, F.kp, F.bindsN fun _ _ _ _ _ _ us hl => match us, hl with | [_], _ => rfl, ?_⟩
  refine F.ok sc__law_depths (fun vs H Q E h => by obtain ⟨v, R, rfl, _⟩ := h; rfl) (fun cdv A outer s H vs Q E hr h => ?_)
  obtain ⟨v, R, rfl, rd, W, hR, q⟩ := h
  have hsl := lim_lt
  have hu := hu_of hr
  refine ⟨_, PSs.nox (pss_cons (ps_set (i := 1) sc__law_depths.nd rfl (by first | exact Or.inl rfl | exact Or.inr rfl) (pe_lst pa_nil))
      (pss_cons (ps_for PassesOwn.never rfl (pi_seq (pv 0)) (pg_name (i := 2) sc__law_depths.nd rfl (by first | exact Or.inl rfl | exact Or.inr rfl)) (pss_one (ps_expr (pe_bm PySem.F.plainAttrs_list PySem.F.slot_list_append PySem.F.type_list_append mt_append (pv 1) (pa_cons (pe_op op_add (pe_callTy call_int1 (by rfl) B.int (by decide +kernel) (pa_cons (pe_cmpR op_eq (pe_ix ix_D (pv 2) pe_int (fun _ _ => rfl)) pe_str (nomark _)) pa_nil)) (pe_callB (cr_max rfl) (by rfl) BM (by decide +kernel) (pa_cons (pe_op op_cat (pe_lst (pa_cons pe_int pa_nil)) (pe_lc (own := [("one", 3)]) (g := gName 3) (tt := tYes) rfl sc__law_depths.nd (pi_seq (pe_df D1 hr pass0 (pa_cons (pv 2) pa_nil))) (blkOk_by (own := [("one", 3)]) (N := ["rows", "found", "row", "one"]) (sc := defScope s_law_depths) (by decide +kernel)) (fun _ _ _ _ _ => pg_name (i := 3) sc__law_depths.nd rfl (by first | exact Or.inl rfl | exact Or.inr rfl)) (fun _ _ _ _ _ => pts_nil) (fun _ _ _ _ _ => (pe_ix (ix_E hu) (pv 1) (pv 3) (fun _ _ => rfl))))) pa_nil))) pa_nil)))))
      (pss_one (ps_ret (pv 1))))), ?_⟩
  refine ⟨(by show 0 ≤ sizeLine; decide), fun l nl => ?_⟩
  obtain ⟨va, vxs, rfl, eva, rva⟩ : ∃ va vxs, v = .ref va ∧ H va = some (.lst vxs) ∧ DrA All H vxs (R.map Row.d) := by
    cases rd with
    | lst _ e r => exact ⟨_, _, rfl, e, r⟩
  have lvx : vxs.length = R.length := by rw [rva.length, List.length_map]
  have s0 := Sm.new (o := .lst []) nl
  refine ⟨_, rfl, va, vxs, rfl, .inl (s0 _ _ eva), fun J hJ => for_seq hJ (fun i σ3 H3 => ∃ x2, σ3 = [some (.ref va), some (.ref l), x2, none] ∧ Sm H H3 ∧ H3 l = some (.lst (vN (measG maxL (R.take i))))) ?_ ?_ ?_ ?_⟩
  · exact ⟨_, rfl, s0, upd_same⟩
  · rintro i σ3 H3 _ ⟨_, _, fr, _⟩
    rw [fr _ _ eva, s0 _ _ eva]
  · rintro i x σ3 H3 hx ⟨x2, rfl, fr, el⟩
    obtain ⟨d, ed, rx⟩ := rva.get hx
    rw [List.getElem?_map] at ed
    obtain ⟨r, er, rfl⟩ := Option.map_eq_some_iff.mp ed
    obtain ⟨hi, eri⟩ := List.getElem?_eq_some_iff.mp er
    have rx3 := rx.sm fr
    have hR' : rowAt R i = r := by rw [rowAt_get hi, eri]
    have ahead := W.ahead hi
    have lm := meas_len maxL R i (by omega)
    refine ⟨_, rfl, .inl ⟨rfl, _, SqL.of el⟩, ?_⟩
    refine ⟨_, rfl, _, 0, _, rx3, Row.seqD _, rfl, Row.word_at _, fun x1 r1 => ?_⟩
    cases r1.str_inv
    refine ⟨rfl, .inr ⟨_, rfl, ?_⟩⟩
    rw [Row.madeP]
    refine ⟨(by show 1 ≤ sizeLine; decide), fun l0 nl0 => ?_⟩
    have s40 := Sm.new (o := .lst [V.int 0]) nl0
    refine ⟨_, rfl, x, r, rfl, rx3.sm s40, fun na H4 s4' nna ena => ?_⟩
    have s4 := s40.trans s4'
    have el0 := s4' _ _ (upd_same (H := H3) (a := l0) (o := .lst [V.int 0]))
    refine ⟨na, _, rfl, .inl ena, fun J2 hJ2 D nD => ?_⟩
    have el4 := s4 _ _ el
    refine led_compE (f := fL (measG maxL (R.take i))) (.seq hJ2 (vints_dr _)) nD (by rw [← hR']; exact named_lim W hi) (fun _ => rfl) (fun _ => rfl) (fun _ => rfl) (fun j hj => .inl ⟨measG maxL (R.take i), .lst trivial el4 (vints_dr _), fL_get (by rw [lm]; exact ahead j (by rw [hR']; exact hj))⟩) fun H5 ys5 s5 eD ry5 => ?_
    obtain rfl := vN_of ry5
    refine ⟨l0, D, _, _, rfl, rfl, s5 _ _ el0, eD, (by simp only [vN, List.length_map, List.length_cons, List.length_nil]; have := named_lim W hi; rw [hR'] at this; omega), fun l3 nl3 => ?_⟩
    have s6 := Sm.new (o := .lst ([V.int 0] ++ vN (r.named.map (fL (measG maxL (R.take i)))))) nl3
    refine ⟨l3, ((0 :: r.named.map (fL (measG maxL (R.take i)))).map fun (k : Nat) => (k : Int)), rfl, SqL.of (by rw [List.map_map]; exact upd_same), by simp, fun m hm hle => ?_⟩
    obtain rfl := max_is hm hle
    refine ⟨_, _, rfl, rfl, ?_⟩
    have el5 := s6 _ _ (s5 _ _ el4)
    refine ⟨l, _, _, rfl, rfl, el5, by simp only [vN, List.length_map]; omega, ?_⟩
    have ev : (V.int ((if r.isMade = true then 1 else 0) + ((maxL (r.named.map (fL (measG maxL (R.take i)))) : Nat) : Int))) = V.int ((r.own + maxL (r.named.map (fL (measG maxL (R.take i)))) : Nat) : Int) := by
      unfold Row.own
      split <;> congr 1
    refine ⟨_, rfl, fun b o z => ?_, ?_⟩
    · rw [upd_ne (ne_of_none z nl)]
      exact s6 _ _ (s5 _ _ (s4 _ _ (fr _ _ z)))
    · rw [upd_same, take_snoc hi, eri, meas_snoc]
      dsimp only
      rw [ev]
      simp [vN]
  · rintro σ3 H3 ⟨x2, rfl, fr, el⟩
    rw [lvx, List.take_length] at el
    exact ⟨_, rfl, q l H3 fr nl el⟩
end
end K8

/-! _law_under. -/
namespace K8
open PySem PySem.Spec PyProof.Rows L2 WR
abbrev spKUnder : Sp := fun vs H Q _ => ∃ (v : V) (R : List Row) (k : Nat), vs = [v, .int (k : Nat)] ∧ Dr All H v (rowsD R) ∧ Web R ∧ R.length ≤ lim ∧ k < R.length ∧ ∀ (ks : List Nat) (c : Addr) H', Sm H H' → H c = none → IsCone R [k] ks → H' c = some (.lst (vN ks)) → Q (.ref c) H'
/-- what is marked when the rows above k - i have been gone through -/
def Mark (R : List Row) (k i x : Nat) : Prop := x = k ∨ ∃ j, k < j + i ∧ j ≤ k ∧ Rch R [k] j ∧ x ∈ (rowAt R j).named
theorem mark_end {R : List Row} (W : Web R) {k : Nat} (hk : k < R.length) (x : Nat) : Mark R k (k + 1) x ↔ Rch R [k] x := by
  constructor
  · rintro (rfl | ⟨j, _, _, h, hx⟩)
    · exact .tip (List.mem_singleton.mpr rfl)
    · exact .step h hx
  · intro h
    cases h with
    | tip h => exact .inl (List.mem_singleton.mp h)
    | step h hx => exact .inr ⟨_, by omega, rch_le W hk h, h, hx⟩
theorem mark_at {R : List Row} (W : Web R) {k i : Nat} (hk : k < R.length) (hi : i ≤ k) : Mark R k i (k - i) ↔ Rch R [k] (k - i) := by
  constructor
  · rintro (e | ⟨j, _, _, h, hx⟩)
    · rw [e]
      exact .tip (List.mem_singleton.mpr rfl)
    · exact .step h hx
  · intro h
    cases h with
    | tip h => exact .inl (List.mem_singleton.mp h)
    | step h hx =>
      rename_i j
      have := rch_le W hk h
      have := W.ahead (show j < R.length by omega) _ hx
      exact .inr ⟨j, by omega, by omega, h, hx⟩
theorem mark_next {R : List Row} (W : Web R) {k i x : Nat} (hk : k < R.length) (hi : i ≤ k) : Mark R k (i + 1) x ↔ Mark R k i x ∨ (Rch R [k] (k - i) ∧ x ∈ (rowAt R (k - i)).named) := by
  constructor
  · rintro (e | ⟨j, h1, h2, h, hx⟩)
    · exact .inl (.inl e)
    · by_cases hj : k < j + i
      · exact .inl (.inr ⟨j, hj, h2, h, hx⟩)
      · have : j = k - i := by omega
        subst this
        exact .inr ⟨h, hx⟩
  · rintro ((e | ⟨j, h1, h2, h, hx⟩) | ⟨h, hx⟩)
    · exact .inl e
    · exact .inr ⟨j, by omega, h2, h, hx⟩
    · exact .inr ⟨k - i, by omega, by omega, h, hx⟩
theorem lenD10 (R : List Row) : (its (rowsD R)).length = R.length := by simp [rowsD, its]
def gB (bs : List Bool) (x : Nat) : Bool := bs.getD x false
theorem gB_set {bs : List Bool} {j x : Nat} (hj : j < bs.length) : gB (bs.set j true) x = (gB bs x || decide (x = j)) := by
  unfold gB
  rw [List.getD_eq_getElem?_getD, List.getD_eq_getElem?_getD, List.getElem?_set]
  by_cases h : j = x
  · subst h
    rw [if_pos rfl, if_pos hj]
    simp
  · rw [if_neg h, decide_eq_false (fun z => h z.symm), Bool.or_false]
theorem bls_dr {N : Addr → Prop} {H : Hp} : ∀ bs : List Bool, DrA N H (bs.map V.bl) (bs.map PyData.bool)
  | [] => .nil
  | b :: bs => .cons (.bl b) (bls_dr bs)
theorem gB_get {bs : List Bool} {x : Nat} (h : x < bs.length) : (bs.map PyData.bool)[x]? = some (.bool (gB bs x)) := by
  unfold gB
  rw [List.getElem?_map, List.getD_eq_getElem?_getD, List.getElem?_eq_getElem h]
  rfl
theorem gB_start {n k x : Nat} (h : x < n) : gB ((List.range n).map fun j => decide (j = k)) x = decide (x = k) := by
  unfold gB
  rw [List.getD_eq_getElem?_getD, List.getElem?_map, List.getElem?_range h]
  rfl
theorem needs_or {c : Bool} {v : V} {R : List Row} {j : Nat} {σ : L2.St} {H : Hp} {Q : VK} (h0 : σ[0]? = some (some v)) (h3 : σ[3]? = some (some (.int (j : Nat)))) (rr : Dr All H v (rowsD R)) (hj : j < R.length)
    (q : ∀ (na : Addr) (L : List Nat) (H4 : Hp), Sm H H4 → H na = none → H4 na = some (.lst (vN L)) → L = (if c = true then (rowAt R j).named else []) → Q (.ref na) H4) :
    if c = true then tCall spKNeeds [] E0 (tCons (tOp WR.rIxD (tVar 0) (tVar 3)) tNil) σ H Q else tLst tNil σ H Q := by
  refine ite2 (fun hc => ?_) (fun hc => ⟨(by show 0 ≤ sizeLine; decide), fun p np => q p [] _ (Sm.new np) np upd_same (by rw [if_neg hc])⟩)
  refine ⟨_, h0, _, h3, rowsD R, j, _, rr, rfl, rfl, rowAt_at hj, fun y ry => ?_⟩
  exact ⟨y, rowAt R j, rfl, ry, fun na H4 s4 nna ena => q na _ H4 s4 nna ena (by rw [if_pos hc])⟩
section
variable {P : Program} {w : World} {K : PySem.W.Frag} {mg : Str → Option Value} {base : Heap}
theorem sc__law_under : FnScope ["rows", "part", "found", "at", "one"] ["rows", "part"] (defScope s_law_under) := ⟨rfl, rfl, rfl, by decide +kernel, rfl, by decide +kernel, by decide +kernel⟩
theorem ok__law_under (B : Bt mg) (F : Fn K mg d_law_under) (D1 : Df P w K mg base CX0 1 "_law_k_needs" ["row"] spKNeeds) : Df P w K mg base CX0 2 "_law_under" ["rows", "part"] spKUnder := by
  obtain ⟨f, fd, hm, F⟩ := F
  refine ⟨f, fd, hm, F.kp, F.bindsN fun _ _ _ _ _ _ us hl => match us, hl with | [_, _], _ => rfl, ?_⟩
  refine F.ok sc__law_under (fun vs H Q E h => by obtain ⟨v, R, k, rfl, _⟩ := h; rfl) (fun cdv A outer s H vs Q E hr h => ?_)
  obtain ⟨v, R, k, rfl, rd, W, hR, hk, q⟩ := h
  have hsl := lim_lt
  have hlim : lim = 4000 := rfl
  have hu := hu_of hr
  refine ⟨_, PSs.nox (pss_cons (ps_set (i := 2) sc__law_under.nd rfl (by first | exact Or.inl rfl | exact Or.inr rfl) (pe_lc (own := [("at", 3)]) (g := gName 3) (tt := tYes) rfl sc__law_under.nd (pi_range1 rfl B.range (pa_cons (pe_callB call_lenS (by rfl) B.len (by decide +kernel) (pa_cons (pv 0) pa_nil)) pa_nil)) (blkOk_by (own := [("at", 3)]) (N := ["rows", "part", "found", "at", "one"]) (sc := defScope s_law_under) (by decide +kernel)) (fun _ _ _ _ _ => pg_name (i := 3) sc__law_under.nd rfl (by first | exact Or.inl rfl | exact Or.inr rfl)) (fun _ _ _ _ _ => pts_nil) (fun _ _ _ _ _ => (pe_cmpR op_eq (pv 3) (pv 1) (nomark _)))))
      (pss_cons (ps_for PassesOwn.never rfl (pi_range3 (by rfl) B.range (pa_cons (pv 1) (pa_cons (pe_un un_neg pe_int) (pa_cons (pe_un un_neg pe_int) pa_nil)))) (pg_name (i := 3) sc__law_under.nd rfl (by first | exact Or.inl rfl | exact Or.inr rfl)) (pss_one (ps_for PassesOwn.never rfl (pi_seq (pe_ifExp (pt_val (pe_ix ix_D (pv 2) (pv 3) (fun _ _ => rfl))) (pe_df D1 hr pass0 (pa_cons (pe_ix ix_D (pv 0) (pv 3) (fun _ _ => rfl)) pa_nil)) (pe_lst pa_nil))) (pg_name (i := 4) sc__law_under.nd rfl (by first | exact Or.inl rfl | exact Or.inr rfl)) (pss_one (ps_asg pe_bl (pg_sub (pv 2) (pv 4) set_list))))))
      (pss_one (ps_ret (pe_lc (own := [("at", 3)]) (g := gName 3) (tt := _) rfl sc__law_under.nd (pi_range1 rfl B.range (pa_cons (pe_callB call_lenS (by rfl) B.len (by decide +kernel) (pa_cons (pv 0) pa_nil)) pa_nil)) (blkOk_by (own := [("at", 3)]) (N := ["rows", "part", "found", "at", "one"]) (sc := defScope s_law_under) (by decide +kernel)) (fun _ _ _ _ _ => pg_name (i := 3) sc__law_under.nd rfl (by first | exact Or.inl rfl | exact Or.inr rfl)) (fun _ _ _ _ _ => (pts_one (pt_val (pe_ix ix_D (pv 2) (pv 3) (fun _ _ => rfl))))) (fun _ _ _ _ _ => (pv 3))))))), ?_⟩
  refine ⟨_, rfl, v, rowsD R, rfl, rd, rfl, _, rfl, by rw [lenD10]; omega, by rw [lenD10]; omega, fun l nl => ?_⟩
  rw [lenD10, Int.toNat_natCast]
  refine lc_fz (fun d => .bool (decide (intOf d = (k : Int)))) (.range (lo := 0)) nl (by simp; omega) (fun _ => rfl) (fun _ _ => rfl) (fun x d H2 Q' hd s2 rx q' => ?_) fun H2 ys s2 el ry => ?_
  · obtain ⟨j, _, rfl⟩ := List.mem_map.mp hd
    cases rx.int_inv
    refine ⟨_, rfl, _, rfl, rfl, ?_⟩
    have := q' (.bl (decide ((0 : Int) + (j : Int) = (k : Int)))) H2 Sm.rfl' (.bl _)
    rw [show decide (V.int (0 + (j : Int)) = V.int (k : Nat)) = decide ((0 : Int) + (j : Int) = (k : Int)) from decide_eq_decide.mpr ⟨fun z => by injection z, fun z => by rw [z]⟩]
    exact this
  have eys := DrA.bls (bs := (List.range R.length).map fun j => decide (j = k)) (N := All) (H := H2) (vs := ys) (by
    have e : ((List.range R.length).map fun j => decide (j = k)).map PyData.bool = ((List.range R.length).map fun (j : Nat) => PyData.int (0 + (j : Int))).map fun d => PyData.bool (decide (intOf d = (k : Int))) := by
      rw [List.map_map, List.map_map]
      refine List.map_congr_left fun j _ => ?_
      show PyData.bool (decide (j = k)) = PyData.bool (decide ((0 : Int) + (j : Int) = (k : Int)))
      rw [decide_eq_decide.mpr (show j = k ↔ (0 : Int) + (j : Int) = (k : Int) by omega)]
    rw [e]
    exact ry)
  subst eys
  -- for at in range(part, -1, -1)
  refine ⟨_, rfl, _, rfl, _, rfl, _, _, -1, k + 1, rfl, ?_, ?_⟩
  · have := RgC.neg (i := (k : Int)) (j := -1) (by omega) (by omega) (by omega) (by omega)
    rwa [show ((k : Int) - -1).toNat = k + 1 by omega] at this
  have hv : ∃ va, v = .ref va := by cases rd; exact ⟨_, rfl⟩
  refine for_rangeC (fun i σ3 H3 => ∃ (x3 x4 : Option V) (bs : List Bool), σ3 = [some v, some (.int (k : Nat)), some (.ref l), x3, x4] ∧ Sm H H3 ∧ H3 l = some (.lst (bs.map V.bl)) ∧ bs.length = R.length ∧ ∀ x, x < R.length → (gB bs x = true ↔ Mark R k i x)) ?_ ?_ ?_
  · refine ⟨_, _, _, rfl, s2, el, by simp, fun x hx => ?_⟩
    rw [gB_start hx, decide_eq_true_iff]
    constructor
    · intro z
      exact Or.inl z
    · intro z
      rcases z with z | ⟨j, h1, h2, _⟩
      · exact z
      · omega
  · rintro i σ3 H3 hi ⟨x3, x4, bs, rfl, fr, eb, lb, mb⟩
    have hi' : i ≤ k := by omega
    have hj : k - i < R.length := by omega
    rw [show ((k : Int) + (i : Nat) * (-1)) = ((k - i : Nat) : Int) by omega]
    refine ⟨_, rfl, _, rfl, .list (bs.map PyData.bool), k - i, .bool (gB bs (k - i)), .lst trivial eb (bls_dr bs), rfl, rfl, gB_get (by omega), fun y ry => ?_⟩
    cases ry.bl_inv
    refine ⟨_, rfl, needs_or (R := R) (j := k - i) rfl rfl (rd.sm fr) hj fun na L H4 s4 nna ena eL => ?_⟩
    have mk : ∀ x, x < R.length → ((gB bs x = true ∨ x ∈ L) ↔ Mark R k (i + 1) x) := fun x hx => by
      rw [mark_next W hk hi', ← mb x hx, ← mark_at W hk hi', ← mb (k - i) hj, eL]
      by_cases hc : gB bs (k - i) = true
      · rw [if_pos hc]
        exact ⟨fun z => z.imp id fun y => ⟨hc, y⟩, fun z => z.imp id fun y => y.2⟩
      · rw [if_neg hc]
        exact ⟨fun z => z.elim .inl fun y => (nomatch y), fun z => z.elim .inl fun y => absurd y.1 hc⟩
    have hL : ∀ x ∈ L, x < R.length := fun x hx => by
      rw [eL] at hx
      split at hx
      · have := W.ahead hj x hx
        omega
      · cases hx
    have nal : na ≠ l := fun z => by rw [z, eb] at nna; cases nna
    have eb4 := s4 _ _ eb
    refine ⟨na, _, rfl, .inl ena, fun J2 hJ2 => for_seq hJ2 (fun j σ4 H5 => ∃ (x4 : Option V) (bs' : List Bool), σ4 = [some v, some (.int (k : Nat)), some (.ref l), some (.int ((k - i : Nat) : Int)), x4] ∧ Sm H H5 ∧ (∀ b o, b ≠ l → H4 b = some o → H5 b = some o) ∧ H5 l = some (.lst (bs'.map V.bl)) ∧ bs'.length = R.length ∧ ∀ x, x < R.length → (gB bs' x = true ↔ gB bs x = true ∨ x ∈ L.take j)) ?_ ?_ ?_ ?_⟩
    · exact ⟨_, bs, rfl, fr.trans s4, fun b o _ z => z, eb4, lb, fun x _ => by simp⟩
    · rintro j σ4 H5 _ ⟨_, _, _, _, fr5, _⟩
      rw [fr5 _ _ nal ena, ena]
    · rintro j x σ4 H5 hx ⟨y4, bs', rfl, f5, fr5, eb5, lb5, mb5⟩
      rw [List.getElem?_map] at hx
      obtain ⟨o, eo, rfl⟩ := Option.map_eq_some_iff.mp hx
      have ho := hL o (List.mem_of_getElem? eo)
      refine ⟨_, rfl, _, rfl, l, bs'.map V.bl, (o : Int), o, rfl, rfl, eb5, by simp [ixN]; omega, ?_⟩
      refine ⟨_, bs'.set o true, rfl, fun b z e => ?_, fun b z hb e => ?_, ?_, by simpa using lb5, fun x hx' => ?_⟩
      · rw [upd_ne (ne_of_none e nl)]
        exact f5 _ _ e
      · rw [upd_ne hb]
        exact fr5 _ _ hb e
      · rw [upd_same, List.map_set]
      · have et : L.take (j + 1) = L.take j ++ [o] := by rw [List.take_add_one, eo]; rfl
        rw [gB_set (by omega), Bool.or_eq_true, decide_eq_true_iff, mb5 x hx', et, List.mem_append, List.mem_singleton, or_assoc]
    · rintro σ4 H5 ⟨y4, bs', rfl, f5, fr5, eb5, lb5, mb5⟩
      rw [show (vN L).length = L.length by simp [vN], List.take_length] at mb5
      exact ⟨_, _, bs', rfl, f5, eb5, lb5, fun x hx => (mb5 x hx).trans (mk x hx)⟩
  · rintro σ3 H3 ⟨x3, x4, bs, rfl, fr, eb, lb, mb⟩
    refine ⟨_, rfl, v, rowsD R, rfl, rd.sm fr, rfl, _, rfl, by rw [lenD10]; omega, by rw [lenD10]; omega, fun D nD => ?_⟩
    rw [lenD10, Int.toNat_natCast]
    have wk : Walk (Itr 0 R.length) H3 (nums (List.range R.length)) := by
      have e : nums (List.range R.length) = (List.range R.length).map fun (j : Nat) => PyData.int (0 + (j : Int)) := List.map_congr_left fun j _ => by rw [Int.zero_add]
      rw [e]
      exact .range (lo := 0)
    refine fil_comp (fun j => gB bs j) wk nD (by rw [List.length_range]; omega) (fun _ => rfl) (fun _ => rfl) (fun j H5 Q' hj s5 q' => ?_) fun H5 s5 eD => ?_
    · have hj' := List.mem_range.mp hj
      refine ⟨_, rfl, _, rfl, .list (bs.map PyData.bool), j, .bool (gB bs j), .lst trivial (s5 _ _ eb) (bls_dr bs), rfl, rfl, gB_get (by omega), fun y ry => ?_⟩
      cases ry.bl_inv
      exact ⟨_, rfl, q'⟩
    · refine q ((List.range R.length).filter fun j => gB bs j) D H5 (fr.trans s5) (fr.free nD) ⟨List.pairwise_lt_range.filter _, fun x => ?_⟩ eD
      rw [List.mem_filter, List.mem_range]
      refine ⟨fun z => (mark_end W hk x).mp ((mb x z.1).mp z.2), fun z => ?_⟩
      have hx : x < R.length := by have := rch_le W hk z; omega
      exact ⟨hx, (mb x hx).mpr ((mark_end W hk x).mpr z)⟩
end
end K8

/-! _law_k_web. -/
namespace K8
open PySem PySem.Spec PyProof.Rows L2 WR
abbrev spKRow : Sp := fun vs H Q _ => ∃ (w : Addr) (n : Nat) (v : V) (R : List Row), vs = [.ref w, v] ∧ Wl H w n ∧ n + 5000 < top0 ∧ Dr (Ne w) H v (rowsD R) ∧ R.length ≤ 40 ∧
  ∀ (r : Row) u H', r.ok → r.small → why R r = none → Gw w H H' → Wl H' w (n + 60) → Dr No H' u r.d → Q u H'
abbrev spKWeb : Sp := fun vs H Q _ => ∃ (w : Addr) (n m : Nat), vs = [.ref w, .int (m : Nat)] ∧ m ≤ 16 ∧ Wl H w n ∧ n + 10000 < top0 ∧
  ∀ (l : Addr) (ys : List V) (R : List Row) H', H l = none → Web R → (∀ r ∈ R, r.small) → R.length ≤ m → Gw w H H' → Wl H' w (n + 1000) → H' l = some (.lst ys) → DrA No H' ys (R.map Row.d) → Q (.ref l) H'
section
variable {P : Program} {w : World} {K : PySem.W.Frag} {mg : Str → Option Value} {base : Heap}
theorem sc__law_k_web : FnScope ["well", "many", "rows", "turn", "row"] ["well", "many"] (defScope s_law_k_web) := ⟨rfl, rfl, rfl, by decide +kernel, rfl, by decide +kernel, by decide +kernel⟩
theorem ok__law_k_web (B : Bt mg) (F : Fn K mg d_law_k_web) (D2 : Df P w K mg base CX0 3 "_law_k_row" ["well", "rows"] spKRow) :
    Df P w K mg base CX0 4 "_law_k_web" ["well", "many"] spKWeb := by
  obtain ⟨f, fd, hm, F⟩ := F
  refine ⟨f, fd, hm, F.kp, F.bindsN fun _ _ _ _ _ _ us hl => match us, hl with | [_, _], _ => rfl, ?_⟩
  refine F.ok sc__law_k_web (fun vs H Q E h => by obtain ⟨w, n, m, rfl, _⟩ := h; rfl) (fun cdv A outer s H vs Q E hr h => ?_)
  obtain ⟨wa, n, m, rfl, hm14, hw, hn, q⟩ := h
  have hr1 := hr.mono (show 1 ≤ 3 by decide)
  have hu := hr.un
  have hu65 : (A.deeper (envOfC d_law_k_web.qual d_law_k_web.scope s.heap.objs.size f cdv)).units + 65 < cLine := by omega
  refine ⟨_, PSs.nox (pss_cons (ps_set (i := 2) sc__law_k_web.nd rfl (by first | exact Or.inl rfl | exact Or.inr rfl) (pe_lst pa_nil))
      (pss_cons (ps_for PassesOwn.never rfl (pi_range1 rfl B.range (pa_cons (pv 1) pa_nil)) (pg_name (i := 3) sc__law_k_web.nd rfl (by first | exact Or.inl rfl | exact Or.inr rfl)) (pss_cons (ps_set (i := 4) sc__law_k_web.nd rfl (by first | exact Or.inl rfl | exact Or.inr rfl) (pe_df D2 hr pass0 (pa_cons (pv 0) (pa_cons (pv 2) pa_nil))))
      (pss_one (ps_expr (pe_bm PySem.F.plainAttrs_list PySem.F.slot_list_extend PySem.F.type_list_extend mt_extend (pv 2) (pa_cons (pe_ifExp (pt_cmpR (op_notInDr hu65) (pv 4) (pv 2) (by rfl)) (pe_lst (pa_cons (pv 4) pa_nil)) (pe_lst pa_nil)) pa_nil))))))
      (pss_one (ps_ret (pv 2))))), ?_⟩
  have hsl := lim_lt
  have hlim : lim = 4000 := rfl
  have htop : top0 = 1000000000000 := rfl
  -- rows = []
  refine ⟨(by show 0 ≤ sizeLine; decide), fun l nl => ?_⟩
  have nlw : l ≠ wa := hw.ne nl
  -- range(_law_draw(well, most + 1))
  refine ⟨_, rfl, _, rfl, by omega, by omega, ?_⟩
  rw [Int.toNat_natCast]
  have g1 : Gw wa H (upd H l (.lst [])) := Gw.of (Sm.new nl)
  have hw1 := hw.sm (Sm.new (o := .lst []) nl)
  refine for_range (fun i σ' H2 => ∃ x3 x4 R ys, σ' = [some (.ref wa), some (.int (m : Nat)), some (.ref l), x3, x4] ∧ Gw wa H H2 ∧ Wl H2 wa (n + 60 * i) ∧ H2 l = some (.lst ys) ∧ DrA No H2 ys (R.map Row.d) ∧ R.length ≤ i ∧ Web R ∧ ∀ r ∈ R, r.small) ?_ ?_ ?_
  · exact ⟨none, none, [], [], rfl, g1, hw1.mono (by omega), upd_same, .nil, Nat.le_refl _, Web.nil, (fun _ h => nomatch h)⟩
  · rintro i σ' H2 hi ⟨x3, x4, R, ys, rfl, g2, hw2, el2, ry2, hR, W, sms⟩
    have rl2 : Dr (Ne wa) H2 (.ref l) (rowsD R) := .lst nlw el2 (ry2.mono (fun _ z => z.elim) (Stays.of Sm.rfl'))
    have lys : ys.length = R.length := by rw [ry2.length, List.length_map]
    refine ⟨_, rfl, _, rfl, wa, _, .ref l, R, rfl, hw2, by omega, rl2, by omega, fun r u H3 rok rsm hy g3 hw3 ru => ?_⟩
    have rl3 := rl2.gn (fun _ h => h) hw2 g3
    have ry3 : DrA No H3 ys (R.map Row.d) := (ry2.gn (fun _ h => h.elim) hw2 g3)
    have el3 := g3 l _ nlw el2
    have keepL : ∀ {H4 : Hp}, Sm H3 H4 → ∀ o, H4 l = some (.lst o) → Stays No H4 (upd H4 l (.lst (o ++ [u]))) := fun _ o e => ⟨fun _ _ z => z.elim, fun b xs z => by
      rw [upd_ne fun q => by rw [q, e] at z; cases z]
      exact z⟩
    -- rows.extend([row] if row not in rows else [])
    refine ⟨_, rfl, .inl ⟨rfl, ys, SqL.of el3⟩, _, rfl, _, rfl, r.d, R.map Row.d, ru.all, rl3.all, Row.eqOk rok, rows_eqOk W.ok, _, rfl, ?_⟩
    rw [if_neg Bool.false_ne_true, rows_any]
    refine ite2 (fun hn => ?_) (fun hn => ?_)
    · have hnm : r ∉ R := fun z => by
        rw [decide_eq_true z] at hn
        cases hn
      refine ⟨_, rfl, (by show 1 ≤ sizeLine; decide), fun p np => ?_⟩
      have sp : Sm H3 (upd H3 p (.lst [u])) := Sm.new np
      have elp := sp _ _ el3
      refine ⟨l, p, ys, [u], rfl, rfl, elp, upd_same, by simp; omega, ?_⟩
      have st := keepL sp ys elp
      refine ⟨_, _, R ++ [r], ys ++ [u], rfl, fun b o hb z => ?_, ?_, upd_same, ?_, by simp; omega, W.snoc rok hy hnm, fun s hs => ?_⟩
      · rw [upd_ne (ne_of_none z nl)]
        exact sp _ _ (g3 b o hb (g2 b o hb z))
      · obtain ⟨a', b', c', e', h'⟩ := hw3.sm sp
        exact ⟨a', b', c', by rw [upd_ne (Ne.symm nlw)]; exact e', by omega⟩
      · rw [show (R ++ [r]).map Row.d = R.map Row.d ++ [r.d] by simp]
        exact ((ry3.sm sp).append (.one (ru.sm sp))).mono (fun _ z => z) st
      · rcases List.mem_append.mp hs with hs | hs
        · exact sms s hs
        · rw [List.mem_singleton.mp hs]
          exact rsm
    · refine ⟨(by show 0 ≤ sizeLine; decide), fun p np => ?_⟩
      have sp : Sm H3 (upd H3 p (.lst [])) := Sm.new np
      have elp := sp _ _ el3
      refine ⟨l, p, ys, [], rfl, rfl, elp, upd_same, by simp; omega, ?_⟩
      have st : Stays No (upd H3 p (.lst [])) (upd (upd H3 p (.lst [])) l (.lst (ys ++ []))) := ⟨fun _ _ z => z.elim, fun b xs z => by
        rw [upd_ne fun q => by rw [q, elp] at z; cases z]
        exact z⟩
      refine ⟨_, _, R, ys ++ [], rfl, fun b o hb z => ?_, ?_, upd_same, ?_, by omega, W, sms⟩
      · rw [upd_ne (ne_of_none z nl)]
        exact sp _ _ (g3 b o hb (g2 b o hb z))
      · obtain ⟨a', b', c', e', h'⟩ := hw3.sm sp
        exact ⟨a', b', c', by rw [upd_ne (Ne.symm nlw)]; exact e', by omega⟩
      · rw [List.append_nil] at st ⊢
        exact (ry3.sm sp).mono (fun _ z => z) st
  · rintro σ' H2 ⟨x3, x4, R, ys, rfl, g2, hw2, el2, ry2, hR, W, sms⟩
    exact ⟨_, rfl, q l ys R H2 nl W sms (by omega) g2 (hw2.mono (by omega)) el2 ry2⟩
end
end K8

/-! {None: b}; is it a dict; its keys, its values, one by one. -/
namespace WR
open PySem PySem.Spec PyProof.Rows L2
/-- {None: b} at d -/
def ndO (P : Program) (w : World) (d : Addr) (b : Bool) : HO := .ext fun h => (d == sysModules) = false ∧ ∃ ep, h.DictAt (leafKind P w) d [(Leaf.none, Value.bool b)] ep
theorem ndOk {P : Program} {w : World} {H : Hp} {h : Heap} {d : Addr} {b : Bool} {ep : Nat} (h1 : (d == sysModules) = false) (h2 : h.DictAt (leafKind P w) d [(Leaf.none, Value.bool b)] ep) : ObjOk P w H h d (ndO P w d b) := by
  refine ⟨⟨h1, ep, h2⟩, ?_, fun g1 g2 z st => ?_⟩
  · obtain ⟨o, es, e, _⟩ := h2
    exact ⟨o, e⟩
  · obtain ⟨z1, ep', o, es, e, r⟩ := z
    exact ⟨z1, ep', o, es, st _ e, r⟩
theorem nd_key {P : Program} {w : World} {h : Heap} {d : Addr} {b : Bool} {ep : Nat} (x : h.DictAt (leafKind P w) d [(Leaf.none, Value.bool b)] ep) : ∃ o en, h.get? d = some o ∧ o.ExactDict ∧ o.data = .dict #[en] ep ∧ en.key = Value.none := by
  obtain ⟨o, es, e, ex, hd, _, ps, _⟩ := x
  cases hs : es.toList with
  | nil => rw [hs] at ps; cases ps
  | cons en r =>
    rw [hs] at ps
    cases ps with
    | cons k1 k2 t =>
      cases t
      have e2 : es = #[en] := by
        rw [← Array.toArray_toList (xs := es), hs]
      rw [e2] at hd
      refine ⟨o, en, e, ex, hd, ?_⟩
      cases hk : en.key with
      | none => rfl
      | _ => rw [hk] at k1; exact absurd k1 Bool.false_ne_true
section
variable {X : Cx} {pins : List (Addr × Obj)} {σ : L2.St} {H : Hp} {s : Shared} {d : Addr}
theorem nd_of {b : Bool} (I : Inv X pins σ H s) (h : H d = some (ndO X.prog X.w d b)) : (d == sysModules) = false ∧ ∃ ep, s.heap.DictAt (leafKind X.prog X.w) d [(Leaf.none, Value.bool b)] ep := (I.hok d _ h).1
theorem nd_frz {b : Bool} {o : Obj} (I : Inv X pins σ H s) (h : H d = some (.frz o (ndO X.prog X.w d b))) : (d == sysModules) = false ∧ s.heap.get? d = some o ∧ o.ExactDict ∧ ∃ (en : DictEntry) (ep : Nat), o.data = .dict #[en] ep ∧ en.key = Value.none := by
  obtain ⟨hd, ⟨h1, ep, h2⟩, _⟩ := I.hok d _ h
  obtain ⟨o', en, e, ex, dt, k⟩ := nd_key h2
  rw [hd] at e
  cases e
  exact ⟨h1, hd, ex, en, ep, dt, k⟩
end
/-! ### isinstance -/
/-- is x of the built-in class c: data, a dict of ints and texts, {None: b} -/
def KofX (P : Program) (w : World) (c : String) (H : Hp) (x : V) (b : Bool) : Prop := (∃ d, Dr All H x d ∧ kitB (tyD d) c = some b) ∨ (∃ a kvs, x = .ref a ∧ H a = some (.dK kvs) ∧ kitB "dict" c = some b) ∨ ∃ a y, x = .ref a ∧ H a = some (ndO P w a y) ∧ kitB "dict" c = some b
def rIsX (P : Program) (w : World) : List V → Hp → VK → Prop := fun xs H Q => ∃ (x : V) (c : String) (b : Bool), xs = [x, .ty c] ∧ KofX P w c H x b ∧ Q (.bl b) H
theorem call_isX {X : Cx} : CallR X (.builtin "isinstance") (rIsX X.prog X.w) := by
  intro pins s σ H xs us Q I r h
  obtain ⟨x, c, b, rfl, k, q⟩ := h
  rcases k with ⟨d, rd, hk⟩ | ⟨a, kvs, rfl, e, hk⟩ | ⟨a, y, rfl, e, hk⟩
  · exact call_isi pins s σ H _ us Q I r ⟨x, .ty c, _, _, _, rfl, .ty c, rd.ty, kit_ty hk, q⟩
  · exact call_isi pins s σ H _ us Q I r ⟨_, .ty c, _, _, _, rfl, .ty c, .base (.dK e), kit_ty hk, q⟩
  · obtain ⟨u1, u2, rfl, r1, r2⟩ := vals2 r
    cases (show u1 = Value.ref a from r1)
    cases (show u2 = Value.type c from r2)
    obtain ⟨_, ep, o, es, eo, ex, _⟩ := nd_of I e
    exact PySem.W.kia_one PySem.W.kitx_dict I.kIn ⟨o, eo, ex.1⟩ (kit_ty hk) (fun z => nomatch z) fun tk => ⟨.bl b, H, I.tok tk, rfl, q⟩
/-! ### the keys -/
/-- the one key of the locked {None: b} at d -/
def Itn (P : Program) (w : World) (d : Addr) (o : Obj) (b : Bool) : It :=
  ⟨fun i H => H d = some (.frz o (ndO P w d b)) ∧ i < 1, fun i H x H' => H' = H ∧ x = .non, fun i H => H d = some (.frz o (ndO P w d b)) ∧ 1 ≤ i⟩
theorem turn_keysN {P : Program} {w : World} {K : PySem.W.Frag} {tg : Expr} {d : Addr} {o : Obj} {es : Array DictEntry} {ep : Nat} {b : Bool} (it : Addr) (hod : o.data = .dict es ep) : Turn P w K tg (Itn P w d o b) [it] it (fun i h => h.IsKeyIter it d i 1 ep) where
  mem := by simp
  obj := fun i h st b hb => by
    have e : b = it := by simpa using hb
    subst e
    obtain ⟨oi, e, c, dd⟩ := st
    exact ⟨oi, e, fun v z => by rw [dd] at z; cases z⟩
  keep := fun i h h' st k => st.at fun oi e => k it (by simp) oi e
  item := by
    intro X hP hw hK hc i pins s σ H E I hf st hg
    subst hP hw hK
    obtain ⟨hd, hi⟩ := hg
    obtain ⟨f0, f1, f2, f3, f4, f5⟩ := hf it (by simp)
    obtain ⟨hs, hgd, hx, en, ep', hdt, hk⟩ := nd_frz I hd
    obtain ⟨rfl, rfl⟩ := dict_ep hod hdt
    have e0 : i = 0 := by omega
    subst e0
    refine next_key_item st hgd hdt (by rfl) (show (#[en] : Array DictEntry)[0]? = some en from rfl) fun h' st' sb => ?_
    have I1 : Inv X pins σ H { s with heap := h' } := I.turned (t' := s.toks) (fun b ob hb e => (sb.2 b hb).trans e) f0 f1 f3 f4 f5
    obtain ⟨oi, e, c, dd⟩ := id st'
    exact ⟨en.key, rfl, go_of (s := { s with heap := h' }) e c dd (by decide) ⟨.non, H, I1, hk, ⟨rfl, rfl⟩, st', fun b hb => (hf b hb).1⟩⟩
  done := by
    intro X hP hw hK hc i pins s σ H E I hf st hg
    subst hP hw hK
    obtain ⟨hd, hi⟩ := hg
    obtain ⟨f0, f1, f2, f3, f4, f5⟩ := hf it (by simp)
    obtain ⟨hs, hgd, hx, en, ep', hdt, hk⟩ := nd_frz I hd
    obtain ⟨rfl, rfl⟩ := dict_ep hod hdt
    exact next_key_end (I.ok.hd hc) st hgd hdt (by rfl) hi fun h' eb => ⟨rfl, I.turned (t' := s.toks) (fun b ob hb e => eb b ob hb e) f0 f1 f3 f4 f5⟩
  self := fun A i s Q E st h => by
    refine wpAny_pyIter_slot st.typeIs F.slot_dict_keyiterator_iter (wpAny_call_entry F.slot_dict_keyiterator_iter st.typeIs F.entry_dict_keyiterator_iter ?_ (F.args_dict_keyiterator_iter_1 _))
    show wpAny _ _ (ret (.ref it)) _ _ s
    exact wpAny_pure ⟨_, rfl, "dict_keyiterator", _, st.typeIs, F.slot_dict_keyiterator_next.lookup, h⟩
def iKeysU (P : Program) (w : World) (td : TE) : TI := fun σ H R => td σ H fun x H1 => ∃ d o, x = .ref d ∧ ((∃ kvs, H1 d = some (.frz o (.dK kvs)) ∧ R (Itk d o kvs) H1) ∨ ∃ b, H1 d = some (.frz o (ndO P w d b)) ∧ R (Itn P w d o b) H1)
theorem pi_keysU {X : Cx} {tg e : Expr} {td : TE} (he : PE X e td) : PI X tg e (iKeysU X.prog X.w td) := by
  refine ⟨fun pins s σ H R I h => ?_⟩
  refine thn (he.run pins s σ H _ I h) fun u s1 ⟨x, H1, I1, rx, d, o, ex, q⟩ => ?_
  subst ex
  obtain rfl : u = Value.ref d := rx
  rcases q with ⟨kvs, hd, q⟩ | ⟨b, hd, q⟩
  · obtain ⟨hs, hgd, hx, es, ep, vs, hdt, hsz, kv, hm⟩ := I1.frzK hd
    refine iter_keys hs hgd hx hdt (pi_one (tk := s1.toks) I1 _ (turn_keys _ hdt) ⟨_, Heap.get?_push_size _ rfl, rfl, ?_⟩ q)
    rw [hsz] <;> rfl
  · obtain ⟨hs, hgd, hx, en, ep, hdt, hk⟩ := nd_frz I1 hd
    exact iter_keys hs hgd hx hdt (pi_one (tk := s1.toks) I1 _ (turn_keysN _ hdt) ⟨_, Heap.get?_push_size _ rfl, rfl, rfl⟩ q)
/-! ### the display -/
def tDispN (P : Program) (w : World) (trs : List (TE × TE)) : TE := fun σ H Q => ∀ p, H p = none → tPairs trs σ (upd H p (.dK [])) fun ps H2 => H2 p = some (.dK []) ∧ ∃ b, ps = [(.non, .bl b)] ∧ Q (.ref p) (upd H2 p (ndO P w p b))
theorem pe_dispN {X : Cx} {pos : Pos} {keys : List (Option Expr)} {values : List Expr} {trs : List (TE × TE)} (h : PPs X pos keys values trs) (hall : keys.all (·.isSome) = true) (hl : keys.length = values.length) (h0 : keys ≠ [])
    (h15 : keys.length ≤ 15) : PE X (.Dict keys values pos) (tDispN X.prog X.w trs) := by
  refine ⟨fun pins s σ H Q I q => ?_⟩
  have hn := I.hok.fresh (Nat.le_refl s.heap.objs.size)
  have I1 := I.laid (a := s.heap.objs.size) (o := .dK []) (h' := s.heap.push { cls := .type "dict", data := .dict #[] }) (t' := s.toks) (fun _ _ q => Heap.get?_push_of_some _ q) (Nat.le_refl _) (dk_empty s.heap I.big)
  refine wpAny_Dict_walk (knd := leafKind X.prog X.w) hall hl h0 h15 (thn (h.run pins _ σ _ _ I1 (q _ hn)) fun ws s2 ⟨ps, H2, I2, rel, e, b, ep, q2⟩ => ?_)
  subst ep
  obtain ⟨⟨k, v⟩, rfl, r1, r2⟩ : ∃ kv : Value × Value, ws = [kv] ∧ RelV .non kv.1 ∧ RelV (.bl b) kv.2 := by
    cases rel with
    | cons r t =>
      cases t
      exact ⟨_, rfl, r.1, r.2⟩
  cases (show k = Value.none from r1)
  cases (show v = Value.bool b from r2)
  obtain ⟨z, hd, vs0, r0, o, es, ep, g1, g2, g3, g4, g5, g6⟩ := dk_of I2.hok e
  cases r0
  have e0 : es.toList = [] := by
    have := g5.length
    simpa using this
  have none0 : PySem.KeysOf (leafKind X.prog X.w) es := fun x hx => by
    have h2 : x ∈ es.toList := by simpa using hx
    rw [e0] at h2
    cases h2
  refine ⟨[(Leaf.none, .bool b)], ⟨rfl, rfl, True.intro⟩, ⟨o, es, ep, g1, g2, g3, none0, by rw [e0]; exact .nil, List.nodup_nil⟩, fun h' dd' hs => ⟨.ref s.heap.objs.size, _, ?_, rfl, q2⟩⟩
  have dd2 : h'.DictOf (leafKind X.prog X.w) s.heap.objs.size [(Leaf.none, Value.bool b)] := dd'
  obtain ⟨ep', da⟩ := dd2.dictAt
  have he : ∃ q, h'.get? s.heap.objs.size = some q := let ⟨q, _, hq, _⟩ := da; ⟨q, hq⟩
  exact d_write I2 (by rw [e]; exact True.intro) hs he (ndOk hd da)
end WR

/-! are_truths. -/
namespace K8
open PySem PySem.Spec PyProof.Rows L2 WR
def keyD : Key → PyData
  | .inl i => .int i
  | .inr x => .str x
theorem keyD_dr {N : Addr → Prop} {H : Hp} (k : Key) : Dr N H (kV k) (keyD k) := by
  cases k with
  | inl i => exact .int i
  | inr x => exact .str x
/-- a plain value, as data -/
def plD : V → Option PyData
  | .non => some .none
  | .bl b => some (.bool b)
  | .int i => some (.int i)
  | _ => none
theorem plD_dr {N : Addr → Prop} {H : Hp} {v : V} {d : PyData} (h : plD v = some d) : Dr N H v d := by
  cases v with
  | non => cases h; exact .non
  | bl b => cases h; exact .bl b
  | int i => cases h; exact .int i
  | _ => cases h
def isBV : V → Bool
  | .bl _ => true
  | _ => false
theorem plD_b {v : V} {d : PyData} (h : plD v = some d) : isB d = isBV v := by
  cases v with
  | non => cases h; rfl
  | bl b => cases h; rfl
  | int i => cases h; rfl
  | _ => cases h
/-- u may be truths of the asked rows of R: are they -/
def TrOf (P : Program) (w : World) (R : List Row) (H : Hp) (u : V) (b : Bool) : Prop :=
  (∃ d, Dr All H u d ∧ isD d = false ∧ b = false) ∨
  (∃ a kvs, u = .ref a ∧ H a = some (.dK kvs) ∧ kvs.length ≤ lim ∧ (∀ p ∈ kvs, ∃ d, plD p.2 = some d) ∧ b = ((kvs.all fun p => isAskedD R (keyD p.1)) && kvs.all fun p => isBV p.2)) ∨
  ∃ a y, u = .ref a ∧ H a = some (ndO P w a y) ∧ b = false
theorem rowsFz : ∀ R : List Row, fzA (R.map Row.d) = true
  | [] => rfl
  | r :: R => by
    simp only [List.map_cons, fzA, Row.fz, Bool.true_and]
    exact rowsFz R
/-- rows stay when another thing is locked, or written -/
theorem rows_upd {H : Hp} {v : V} {R : List Row} {a : Addr} {u o : HO} (r : Dr All H v (rowsD R)) (e : H a = some u) (h1 : ∀ xs, u ≠ .lst xs) (h2 : ∀ xs, u ≠ .tup xs) : Dr All (upd H a o) v (rowsD R) := by
  cases r with
  | @lst b xs _ n eb ra =>
    have hab : b ≠ a := fun z => by rw [z, e] at eb; exact h1 _ (Option.some.inj eb)
    refine .lst trivial (by rw [upd_ne hab]; exact eb) ((ra.fz (M := No) (rowsFz R)).mono (fun _ z => z.elim) ⟨fun _ _ z => z.elim, fun c ys z => ?_⟩)
    rw [upd_ne fun q => by rw [q, e] at z; exact h2 _ (Option.some.inj z)]
    exact z
/-- back from the lock: all that stood stands -/
theorem sm_unlock {H H1 : Hp} {a : Addr} {u : HO} {o : Obj} (e : H a = some u) (s : Sm (upd H a (.frz o u)) H1) : Sm H (upd H1 a u) := fun b x z => by
  by_cases hb : b = a
  · rw [hb, upd_same]
    rw [hb, e] at z
    exact z
  · rw [upd_ne hb]
    exact s b x (by rw [upd_ne hb]; exact z)
section
variable {P : Program} {w : World} {K : PySem.W.Frag} {mg : Str → Option Value} {base : Heap}
abbrev spTruths (P : Program) (w : World) : Sp := fun vs H Q _ => ∃ (v u : V) (R : List Row) (b : Bool), vs = [v, u] ∧ Dr All H v (rowsD R) ∧ TrOf P w R H u b ∧ ∀ H', Sm H H' → Q (.bl b) H'
/-- [f(k) for k in d] of a locked dict: a list of bools -/
theorem lcb {J : It} {te : TE} {vs : List Nat} {i : Nat} {σ : L2.St} {H1 : Hp} {D : Addr} {Qd : Hp → Prop} {n : Nat} (f : Nat → Bool) (nD : H1 D = none) (hlen : n ≤ lim)
    (hgo : ∀ j H, Sm H1 H → j < n → J.go j H) (hst : ∀ H, Sm H1 H → J.stop n H)
    (hw : ∀ x, wipe ((wipe σ vs).set i (some x)) vs = wipe σ vs)
    (hs : ∀ (j : Nat) (x : V) (H2 H' : Hp) (Q : VK), j < n → Sm H1 H2 → J.yld j H2 x H' → (∀ H3, Sm H2 H3 → Q (.bl (f j)) H3) → te ((wipe σ vs).set i (some x)) H' Q)
    (hd : ∀ H2, Sm H1 H2 → H2 D = some (.lst (((List.range n).map f).map V.bl)) → Qd H2) :
    ∃ W : Nat → Nat → Hp → Prop, (∃ m, W 0 m (upd H1 D (.lst []))) ∧ ∀ i' m H, W i' m H →
      (J.stop i' H ∧ Qd H) ∨ (J.go i' H ∧ ∃ Nx : Hp → Prop, (∀ H', Nx H' → ∃ m', m' < m ∧ W (i' + 1) m' H') ∧ ∀ x H', J.yld i' H x H' → gName i x (wipe σ vs) H' fun σ2 H2 => wipe σ2 vs = wipe σ vs ∧ tYes σ2 H2 fun b H3 =>
        if b = true then te σ2 H3 fun y H4 => ∃ acc, H4 D = some (.lst acc) ∧ acc.length < sizeLine ∧ Nx (upd H4 D (.lst (acc ++ [y]))) else Nx H3) := by
  have hsl := lim_lt
  refine lc_walk (n := n) (fun m H2 => Sm H1 H2 ∧ H2 D = some (.lst (((List.range m).map f).map V.bl))) ⟨Sm.new nD, upd_same⟩ (fun m H2 hm h => hgo _ _ h.1 hm) (fun H2 h => hst _ h.1) (fun m x H2 H' hm h hy => ?_) fun H2 h => hd H2 h.1 h.2
  obtain ⟨s, eD⟩ := h
  refine ⟨hw _, ?_⟩
  dsimp only [tYes]
  rw [if_pos rfl]
  refine hs m x H2 H' _ hm s hy fun H3 s3 => ⟨_, s3 _ _ eD, by simp; omega, fun b o z => ?_, ?_⟩
  · rw [upd_ne (ne_of_none z nD)]
    exact s3 _ _ (s _ _ z)
  · rw [upd_same, List.range_succ, List.map_append, List.map_append]
    rfl
theorem all_range {α : Type} (g : α → Bool) (l : List α) (d : α) : ((List.range l.length).map fun j => g (l.getD j d)).all id = l.all g := by
  have e : (List.range l.length).map (fun j => l.getD j d) = l := by
    refine List.ext_getElem (by simp) fun j h1 h2 => ?_
    simp [List.getD_eq_getElem?_getD, List.getElem?_eq_getElem h2]
  rw [show ((List.range l.length).map fun j => g (l.getD j d)) = ((List.range l.length).map (fun j => l.getD j d)).map g by rw [List.map_map]; rfl, e, List.all_map]
  rfl
theorem sc_are_truths : FnScope ["rows", "thing", "at", "truth"] ["rows", "thing"] (defScope sare_truths) := ⟨rfl, rfl, rfl, by decide +kernel, rfl, by decide +kernel, by decide +kernel⟩
theorem ok_are_truths (B : Bt mg) (F : Fn K mg dare_truths) (D1 : Df P w K mg base CX0 3 "is_asked" ["rows", "thing"] spIsAsked) : Df P w K mg base CX0 4 "are_truths" ["rows", "thing"] (spTruths P w) := by
  obtain ⟨f, fd, hm, F⟩ := F
  refine ⟨f, fd, hm, F.kp, F.bindsN fun _ _ _ _ _ _ us hl => match us, hl with | [_, _], _ => rfl, ?_⟩
  refine F.ok sc_are_truths (fun vs H Q E h => by obtain ⟨v, u, R, b, rfl, _⟩ := h; rfl) (fun cdv A outer s H vs Q E hr h => ?_)
  obtain ⟨v, u, R, b, rfl, rd, tr, q⟩ := h
  refine ⟨_, PSs.nox (pss_cons (ps_if (PW.pt (pw_or (pt_not (pt_val (pe_callB call_isX (by rfl) B.isinstance (by decide +kernel) (pa_cons (pv 1) (pa_cons (pe_ty "dict" B.dict (by decide +kernel)) pa_nil))))) (pw_or1 (pt_not (pt_val (pe_callB (cr_all rfl) (by rfl) B.all (by decide +kernel) (pa_cons (pe_lock (pe_lc (own := [("at", 2)]) (g := gName 2) (tt := tYes) rfl sc_are_truths.nd (pi_keysU (pv 1)) (blkOk_by (own := [("at", 2)]) (N := ["rows", "thing", "at", "truth"]) (sc := defScope sare_truths) (by decide +kernel)) (fun _ _ _ _ _ => pg_name (i := 2) sc_are_truths.nd rfl (by first | exact Or.inl rfl | exact Or.inr rfl)) (fun _ _ _ _ _ => pts_nil) (fun _ _ _ _ _ => (pe_df D1 hr pass0 (pa_cons (pv 0) (pa_cons (pv 2) pa_nil)))))) pa_nil))))))) (pss_one (ps_ret pe_bl)) pss_nil)
      (pss_one (ps_ret (pe_callB (cr_all rfl) (by rfl) B.all (by decide +kernel) (pa_cons (pe_lock (pe_lc (own := [("truth", 3)]) (g := gName 3) (tt := tYes) rfl sc_are_truths.nd (pi_values (pv 1)) (blkOk_by (own := [("truth", 3)]) (N := ["rows", "thing", "at", "truth"]) (sc := defScope sare_truths) (by decide +kernel)) (fun _ _ _ _ _ => pg_name (i := 3) sc_are_truths.nd rfl (by first | exact Or.inl rfl | exact Or.inr rfl)) (fun _ _ _ _ _ => pts_nil) (fun _ _ _ _ _ => (pe_callB (call_isD kit_bool) (by rfl) B.isinstance (by decide +kernel) (pa_cons (pv 3) (pa_cons (pe_ty "bool" B.bool (by decide +kernel)) pa_nil)))))) pa_nil))))), ?_⟩
  have hsl := lim_lt
  rcases tr with ⟨d, ru, hd, rfl⟩ | ⟨a, kvs, rfl, e, hl, hv, rfl⟩ | ⟨a, y, rfl, e, rfl⟩
  · -- no dict
    refine ⟨_, rfl, u, "dict", false, rfl, .inl ⟨d, ru, by rw [kit_dict, hd]⟩, _, rfl, ?_⟩
    exact iteT (iteT (q H Sm.rfl'))
  · -- a dict of ints and texts
    refine ⟨_, rfl, .ref a, "dict", true, rfl, .inr (.inl ⟨a, kvs, rfl, e, by decide +kernel⟩), _, rfl, ?_⟩
    refine iteF ?_
    have nl : ∀ xs, HO.dK kvs ≠ .lst xs := fun _ z => nomatch z
    have nt : ∀ xs, HO.dK kvs ≠ .tup xs := fun _ z => nomatch z
    refine ⟨a, .dK kvs, e, trivial, fun od => ⟨_, rfl, a, od, rfl, .inl ⟨kvs, upd_same, fun D nD => ?_⟩⟩⟩
    have eL : upd H a (.frz od (.dK kvs)) a = some (.frz od (.dK kvs)) := upd_same
    have rL := rows_upd (o := .frz od (.dK kvs)) rd e nl nt
    have naD : a ≠ D := ne_of_none eL nD
    refine lcb (n := kvs.length) (fun j => isAskedD R (keyD (kvs.getD j (.inl 0, .non)).1)) nD hl (fun j H2 s2 hj => ⟨s2 _ _ eL, hj⟩) (fun H2 s2 => ⟨s2 _ _ eL, Nat.le_refl _⟩) (fun _ => rfl) (fun j x H2 H' Q' hj s2 hy q' => ?_) fun H2 s2 eD => ?_
    · obtain ⟨rfl, k, x2, ek, rfl⟩ := hy
      refine ⟨_, rfl, _, rfl, v, kV k, R, keyD k, rfl, rL.sm s2, keyD_dr k, fun H3 s3 => ?_⟩
      have := q' H3 s3
      rw [List.getD_eq_getElem?_getD, ek] at this
      exact this
    refine ⟨s2 _ _ eL, ?_⟩
    have s3 := sm_unlock e s2
    have e3 : upd H2 a (.dK kvs) a = some (.dK kvs) := upd_same
    refine ⟨D, _, rfl, SqL.of (by rw [upd_ne naD.symm]; exact eD), _, rfl, ?_⟩
    have ea := all_range (fun p : Key × V => isAskedD R (keyD p.1)) kvs (.inl 0, .non)
    rw [ea]
    generalize upd H2 a (.dK kvs) = H4 at s3 e3 ⊢
    cases hA : kvs.all fun p => isAskedD R (keyD p.1) with
    | false =>
      rw [hA] at q
      exact iteT (q H4 s3)
    | true =>
      rw [hA] at q
      refine iteF ?_
      refine ⟨a, .dK kvs, e3, trivial, fun od2 => ⟨_, rfl, a, od2, kvs, rfl, upd_same, fun D2 nD2 => ?_⟩⟩
      have eL2 : upd H4 a (.frz od2 (.dK kvs)) a = some (.frz od2 (.dK kvs)) := upd_same
      have naD2 : a ≠ D2 := ne_of_none eL2 nD2
      refine lcb (n := kvs.length) (fun j => isBV (kvs.getD j (.inl 0, .non)).2) nD2 hl (fun j H2 s2 hj => ⟨s2 _ _ eL2, hj⟩) (fun H2 s2 => ⟨s2 _ _ eL2, Nat.le_refl _⟩) (fun _ => rfl) (fun j x H2 H' Q' hj s2 hy q' => ?_) fun H2 s2 eD2 => ?_
      · obtain ⟨rfl, k, ek⟩ := hy
        obtain ⟨d, hd⟩ := hv _ (List.mem_of_getElem? ek)
        refine ⟨_, rfl, x, d, rfl, plD_dr hd, ?_⟩
        have := q' H' Sm.rfl'
        rw [List.getD_eq_getElem?_getD, ek] at this
        rw [plD_b hd]
        exact this
      refine ⟨s2 _ _ eL2, ?_⟩
      have s5 := sm_unlock e3 s2
      refine ⟨D2, _, rfl, SqL.of (by rw [upd_ne naD2.symm]; exact eD2), ?_⟩
      have eb := all_range (fun p : Key × V => isBV p.2) kvs (.inl 0, .non)
      rw [eb]
      exact q _ (s3.trans s5)
  · refine ⟨_, rfl, .ref a, "dict", true, rfl, .inr (.inr ⟨a, y, rfl, e, by decide +kernel⟩), _, rfl, ?_⟩
    refine iteF ?_
    have nl : ∀ xs, ndO P w a y ≠ .lst xs := fun _ z => nomatch z
    have nt : ∀ xs, ndO P w a y ≠ .tup xs := fun _ z => nomatch z
    refine ⟨a, ndO P w a y, e, trivial, fun od => ⟨_, rfl, a, od, rfl, .inr ⟨y, upd_same, fun D nD => ?_⟩⟩⟩
    have eL : upd H a (.frz od (ndO P w a y)) a = some (.frz od (ndO P w a y)) := upd_same
    have rL := rows_upd (o := .frz od (ndO P w a y)) rd e nl nt
    have naD : a ≠ D := ne_of_none eL nD
    refine lcb (n := 1) (fun j => false) nD (by decide) (fun j H2 s2 hj => ⟨s2 _ _ eL, hj⟩) (fun H2 s2 => ⟨s2 _ _ eL, Nat.le_refl _⟩) (fun _ => rfl) (fun j x H2 H' Q' hj s2 hy q' => ?_) fun H2 s2 eD => ?_
    · obtain ⟨rfl, rfl⟩ := hy
      exact ⟨_, rfl, _, rfl, v, .non, R, .none, rfl, rL.sm s2, .non, fun H3 s3 => q' H3 s3⟩
    refine ⟨s2 _ _ eL, ?_⟩
    have s3 := sm_unlock e s2
    refine ⟨D, _, rfl, SqL.of (by rw [upd_ne naD.symm]; exact eD), _, rfl, ?_⟩
    exact iteT (q _ s3)
end
end K8

/-! decided_place. -/
namespace K8
open PySem PySem.Spec PyProof.Rows L2 WR
/-- truths of asked rows: the dict's entries, by index -/
def tV (ts : List (Nat × Bool)) : List (Key × V) := ts.map fun p => ((Sum.inl (p.1 : Int) : Key), V.bl p.2)
def tF : List (Nat × Bool) → Nat → Option Bool
  | [], _ => none
  | p :: ts, k => if p.1 = k then some p.2 else tF ts k
theorem tV_val (k : Nat) : ∀ ts : List (Nat × Bool), valV (tV ts) (Sum.inl (k : Int)) = (tF ts k).map V.bl
  | [] => rfl
  | p :: ts => by
    have ih := tV_val k ts
    show valV (((Sum.inl (p.1 : Int) : Key), V.bl p.2) :: tV ts) _ = _
    unfold tF
    by_cases h : p.1 = k
    · subst h
      rw [valV_pos rfl, if_pos rfl]
      rfl
    · rw [valV_neg (fun z => h (by injection z with z; omega)), ih, if_neg h]
/-- the row's place by the truths, else it is put in -/
abbrev spDPlace (P : Program) (w : World) (C : Addr) : Sp := fun vs H Q _ => ∃ (t l dd pl a : Addr) (v : V) (R : List Row) (as : List Addr) (r : Row) (ps : List Nat) (ts : List (Nat × Bool)), vs = [.ref t, v, .ref pl, .ref a] ∧ Tb P w C H t l dd R as ∧ Dr All H v r.d ∧ r.ok ∧ R.length ≤ lim ∧
  H pl = some (.lst (vN ps)) ∧ H a = some (.dK (tV ts)) ∧ (∀ k ∈ r.named, k < ps.length) ∧
  (∀ k H', decPlace (tF ts) ps r = some k → Sm H H' → Q (.int (k : Nat)) H') ∧
  (∀ (as' : List Addr) H', decPlace (tF ts) ps r = none → FrT l dd H H' → Tb P w C H' t l dd (newRows R (r.led (fL ps))) as' → Q (.int (idxOf R (r.led (fL ps)) : Nat)) H')
theorem fL_at {ps : List Nat} {k : Nat} (h : k < ps.length) : ps[k]? = some (fL ps k) := by
  unfold fL
  rw [List.getD_eq_getElem?_getD, List.getElem?_eq_getElem h]
  rfl
section
variable {P : Program} {w : World} {K : PySem.W.Frag} {mg : Str → Option Value} {base : Heap} {C fP : Addr} {fdP : FuncData}
theorem sc_decided_place : FnScope ["table", "row", "places", "truths"] ["table", "row", "places", "truths"] (defScope sdecided_place) := ⟨rfl, rfl, rfl, by decide +kernel, rfl, by decide +kernel, by decide +kernel⟩
theorem ok_decided_place (B : Bt mg) (T : RT P w K mg base C) (mP : Meth K C "put_in" fP) (GP : FnOk P w K mg base CX0 1 fP fdP ["self", "row"] (spPut P w C)) (bP : Binds K fdP ["self", "row"] [])
    (F : Fn K mg ddecided_place) (D1 : Df P w K mg base CX0 1 "led_row" ["row", "places"] spLed) : Df P w K mg base CX0 2 "decided_place" ["table", "row", "places", "truths"] (spDPlace P w C) := by
  obtain ⟨f, fd, hm, F⟩ := F
  refine ⟨f, fd, hm, F.kp, F.bindsN fun _ _ _ _ _ _ us hl => match us, hl with | [_, _, _, _], _ => rfl, ?_⟩
  refine F.ok sc_decided_place (fun vs H Q E h => by obtain ⟨t, l, dd, pl, a, v, R, as, r, ps, ts, rfl, _⟩ := h; rfl) (fun cdv A outer s H vs Q E hr h => ?_)
  obtain ⟨t, l, dd, pl, a, v, R, as, r, ps, ts, rfl, tb, rr, hok, hlen, epl, ea, hn, q1, q2⟩ := h
  have hu := hu_of hr
  refine ⟨_, PSs.nox (pss_cons (ps_if (pt_cmpR op_eq (pe_ix ix_D (pv 1) pe_int (fun _ _ => rfl)) pe_str (nomark _)) (pss_cons (ps_if (pt_cmp (pc_din hu (pe_ix ix_D (pv 1) pe_int (fun _ _ => rfl)) (pv 3))) (pss_one (ps_ret (pe_ix (ix_E hu) (pv 2) (pe_ifExp (pt_val (pe_ix (ix_K hu) (pv 3) (pe_ix ix_D (pv 1) pe_int (fun _ _ => rfl)) (fun _ _ => rfl))) (pe_ix ix_D (pv 1) pe_int (fun _ _ => rfl)) (pe_ix ix_D (pv 1) pe_int (fun _ _ => rfl))) (fun _ _ => rfl)))) pss_nil)
      (pss_one (ps_if (pt_cmpR op_eq (pe_ix (ix_E hu) (pv 2) (pe_ix ix_D (pv 1) pe_int (fun _ _ => rfl)) (fun _ _ => rfl)) (pe_ix (ix_E hu) (pv 2) (pe_ix ix_D (pv 1) pe_int (fun _ _ => rfl)) (fun _ _ => rfl)) (nomark _)) (pss_one (ps_ret (pe_ix (ix_E hu) (pv 2) (pe_ix ix_D (pv 1) pe_int (fun _ _ => rfl)) (fun _ _ => rfl)))) pss_nil))) pss_nil)
      (pss_one (ps_ret (pe_meth (pv 0) T.cl mP GP hr bP .nil pass0 (pa_cons (pe_df D1 hr pass0 (pa_cons (pv 1) (pa_cons (pv 2) pa_nil))) pa_nil))))), ?_⟩
  have hlim : lim = 4000 := rfl
  have hsl := lim_lt
  have okn : r.named.length ≤ lim := by
    cases r with
    | made n ks => exact hok.2
    | asked n ks => exact hok.2
    | either a i j => show 3 ≤ lim; decide
    | given k => show 0 ≤ lim; decide
  have pls : ∀ {H' : Hp}, Sm H H' → ∀ k ∈ r.named, Pl H' (.ref pl) (fL ps) k := fun s k hk => .inl ⟨ps, .lst trivial (s _ _ epl) (vints_dr _), fL_at (hn k hk)⟩
  -- the end: table.put_in(led_row(row, places))
  have fin : decPlace (tF ts) ps r = none → tRet (tMeth C (Str.ofString "put_in") (spPut P w C) [] E0 (tVar 0) (tCons (tCall spLed [] E0 (tCons (tVar 1) (tCons (tVar 2) tNil))) tNil)) { nx := fun x H' => Q V.non H', rt := Q }
      (L2.start [Str.ofString "table", Str.ofString "row", Str.ofString "places", Str.ofString "truths"] [V.ref t, v, V.ref pl, V.ref a]) H := fun hd => by
    obtain ⟨dx, ob⟩ := tb.ob
    refine ⟨_, rfl, t, dx, _, rfl, ob, flds_no l dd (by decide +kernel) (by decide +kernel), ?_⟩
    refine ⟨_, rfl, _, rfl, v, .ref pl, r, fL ps, rfl, rr, okn, pls Sm.rfl', fun ya H4 s4 ry => ?_⟩
    have tb4 := tb.sm s4
    refine ⟨t, l, dd, ya, R, as, r.led (fL ps), rfl, tb4, ry, Row.led_ok hok, hlen, fun k ek => ?_, fun hm H5 fr5 tb5 => ?_⟩
    · have hmem : r.led (fL ps) ∈ R := by
        by_cases z : r.led (fL ps) ∈ R
        · exact z
        · rw [placeOf_none z] at ek
          cases ek
      have ei : idxOf R (r.led (fL ps)) = k := by
        have := (idxOf_at hmem).1
        rw [ek] at this
        exact (Option.some.inj this).symm
      have := q2 as H4 hd (FrT.of s4) (by unfold newRows; rw [if_pos hmem]; exact tb4)
      rw [ei] at this
      exact this
    · have ei : idxOf R (r.led (fL ps)) = R.length := idxOf_new hm
      have := q2 (as ++ [ya]) H5 hd ((FrT.of s4).trans fr5) (by unfold newRows; rw [if_neg hm]; exact tb5)
      rw [ei] at this
      exact this
  refine ⟨_, rfl, _, 0, _, rr, Row.seqD _, rfl, Row.word_at _, fun x0 r0 => ?_⟩
  cases r0.str_inv
  refine ⟨rfl, _, rfl, ?_⟩
  rw [Row.eitherW]
  have plE : ∀ k ∈ r.named, Pl H (.ref pl) (fL ps) k := pls Sm.rfl'
  cases r with
  | either c i j =>
    refine iteT ?_
    refine ⟨_, rfl, _, 1, _, rr, rfl, rfl, rfl, fun x1 r1 => ?_⟩
    cases r1.int_inv
    refine ⟨_, rfl, a, _, rfl, DGet.k (k := Sum.inl (c : Int)) ea, _, rfl, ?_⟩
    rw [tV_val]
    cases ht : tF ts c with
    | some b =>
      refine iteT ?_
      have key : decPlace (tF ts) ps (.either c i j) = some (fL ps (if b = true then i else j)) := by rw [decPlace_either, ht]
      refine ⟨_, rfl, _, rfl, _, rfl, _, 1, _, rr, rfl, rfl, rfl, fun x2 r2 => ?_⟩
      cases r2.int_inv
      refine ⟨a, .bl b, rfl, ?_, _, rfl, ?_⟩
      · have := DGet.k (k := Sum.inl (c : Int)) ea
        rw [tV_val, ht] at this
        exact this
      · refine ite2 (fun hb => ?_) (fun hb => ?_)
        · refine ⟨_, rfl, _, 2, _, rr, rfl, rfl, rfl, fun x3 r3 => ?_⟩
          cases r3.int_inv
          exact ⟨fL ps, i, rfl, plE i (by simp [Row.named]), q1 _ H (by rw [key, if_pos hb]) Sm.rfl'⟩
        · refine ⟨_, rfl, _, 3, _, rr, rfl, rfl, rfl, fun x3 r3 => ?_⟩
          cases r3.int_inv
          exact ⟨fL ps, j, rfl, plE j (by simp [Row.named]), q1 _ H (by rw [key, if_neg hb]) Sm.rfl'⟩
    | none =>
      refine iteF ?_
      refine ⟨_, rfl, _, rfl, _, 2, _, rr, rfl, rfl, rfl, fun x3 r3 => ?_⟩
      cases r3.int_inv
      refine ⟨fL ps, i, rfl, plE i (by simp [Row.named]), ?_⟩
      refine ⟨_, rfl, _, rfl, _, 3, _, rr, rfl, rfl, rfl, fun x4 r4 => ?_⟩
      cases r4.int_inv
      refine ⟨fL ps, j, rfl, plE j (by simp [Row.named]), rfl, _, rfl, ?_⟩
      by_cases hij : fL ps i = fL ps j
      · rw [hij]
        refine ite2 (fun _ => ?_) (fun z => absurd (decide_eq_true rfl) z)
        refine ⟨_, rfl, _, rfl, _, 2, _, rr, rfl, rfl, rfl, fun x5 r5 => ?_⟩
        cases r5.int_inv
        exact ⟨fL ps, i, rfl, plE i (by simp [Row.named]), q1 _ H (by rw [decPlace_either, ht]; exact if_pos hij) Sm.rfl'⟩
      · refine ite2 (fun z => absurd (of_decide_eq_true z) (fun y => hij (by injection y with y; omega))) (fun _ => ?_)
        exact fin (by rw [decPlace_either, ht]; exact if_neg hij)
  | made n ks => exact iteF (fin rfl)
  | asked n ks => exact iteF (fin rfl)
  | given k => exact iteF (fin rfl)
end
end K8

/-! decided. -/
namespace K8
open PySem PySem.Spec PyProof.Rows L2 WR
theorem TrOf.sm {P : Program} {w : World} {R : List Row} {H H' : Hp} {u : V} {b : Bool} (s : Sm H H') (t : TrOf P w R H u b) : TrOf P w R H' u b := by
  rcases t with ⟨d, r, h1, h2⟩ | ⟨a, kvs, rfl, e, h⟩ | ⟨a, y, rfl, e, h⟩
  · exact .inl ⟨d, r.sm s, h1, h2⟩
  · exact .inr (.inl ⟨a, kvs, rfl, s _ _ e, h⟩)
  · exact .inr (.inr ⟨a, y, rfl, s _ _ e, h⟩)
/-- truths of asked rows of R -/
structure TsOk (R : List Row) (ts : List (Nat × Bool)) : Prop where
  len : ts.length ≤ lim
  at_ : ∀ p ∈ ts, p.1 < R.length ∧ (rowAt R p.1).isAsked = true
theorem TsOk.tr {P : Program} {w : World} {R : List Row} {H : Hp} {a : Addr} {ts : List (Nat × Bool)} (h : TsOk R ts) (e : H a = some (.dK (tV ts))) : TrOf P w R H (.ref a) true := by
  refine .inr (.inl ⟨a, _, rfl, e, by simpa [tV] using h.len, fun p hp => ?_, ?_⟩)
  · obtain ⟨q, _, rfl⟩ := List.mem_map.mp hp
    exact ⟨_, rfl⟩
  · symm
    rw [Bool.and_eq_true, List.all_eq_true, List.all_eq_true]
    refine ⟨fun p hp => ?_, fun p hp => ?_⟩
    · obtain ⟨q, hq, rfl⟩ := List.mem_map.mp hp
      obtain ⟨h1, h2⟩ := h.at_ q hq
      show isAskedD R (.int (q.1 : Int)) = true
      rw [isAskedD_nat, decide_eq_true h1, h2]
      rfl
    · obtain ⟨q, _, rfl⟩ := List.mem_map.mp hp
      rfl
abbrev spDecided (P : Program) (w : World) (CW CT : Addr) : Sp := fun vs H Q E => ∃ (v u : V) (d : PyData), vs = [v, u] ∧ Dr All H v d ∧ wd d = true ∧
  (∀ (R : List Row) (n : Nat) (x : Str) (dx : Addr) (H' : Hp), ScanOf d R (faultD n x) → Sm H H' → H dx = none → H' dx = some (.xd [("index", .int (n : Nat))]) → E (.ref CW) (some dx) H') ∧
  (∀ (R : List Row), ScanOf d R .none →
    (∃ (a : Addr) (ts : List (Nat × Bool)), u = .ref a ∧ H a = some (.dK (tV ts)) ∧ TsOk R ts ∧ ∀ (p : Addr) H', Sm H H' → Told2 H H' p (dec (tF ts) R).1 (dec (tF ts) R).2 → Q (.ref p) H') ∨
    (TrOf P w R H u false ∧ ∀ (dx : Addr) H', Sm H H' → H dx = none → H' dx = some (.xd [("truths", u)]) → E (.ref CT) (some dx) H'))
section
variable {P : Program} {w : World} {K : PySem.W.Frag} {mg : Str → Option Value} {base : Heap} {C CW CT fP fI fT : Addr} {fdP fdI fdT : FuncData}
theorem sc_decided : FnScope ["web", "truths", "rows", "table", "places", "row"] ["web", "truths"] (defScope sdecided) := ⟨rfl, rfl, rfl, by decide +kernel, rfl, by decide +kernel, by decide +kernel⟩
theorem okF_decided (B : Bt mg) (T : RT P w K mg base C) (M : Mk K C fT) (GT : FnOk P w K mg base CX0 1 fT fdT ["self", "rows"] (spTI C)) (bT : Binds K fdT ["self", "rows"] [])
    (TW : ErC K mg "BadTruths" "truths" CT fI) (GW : FnOk P w K mg base CX0 1 fI fdI ["self", "truths"] (spEI CT "truths")) (bW : Binds K fdI ["self", "truths"] [])
    (F : Fn K mg ddecided) (D1 : Df P w K mg base (L2.CX P w) 6 "judged_web" ["web"] (spJudge P w C CW)) (D2 : Df P w K mg base CX0 4 "are_truths" ["rows", "thing"] (spTruths P w))
    (D3 : Df P w K mg base CX0 2 "decided_place" ["table", "row", "places", "truths"] (spDPlace P w C)) :
    DfF P w K mg base (L2.CX P w) 7 "decided" ["web", "truths"] (spDecided P w CW CT) ddecided := by
  obtain ⟨f, fd, hm, F⟩ := F
  refine ⟨f, fd, hm, F, F.bindsN fun _ _ _ _ _ _ us hl => match us, hl with | [_, _], _ => rfl, ?_⟩
  refine F.ok sc_decided (fun vs H Q E h => by obtain ⟨v, u, d, rfl, _⟩ := h; rfl) (fun cdv A outer s H vs Q E hr h => ?_)
  obtain ⟨v, u, d, rfl, rd, wdd, q2, q1⟩ := h
  have hr2 := hr.mono (show 2 ≤ 6 by decide)
  have hr4 := hr.mono (show 4 ≤ 6 by decide)
  have hu := hu_of hr
  have hlim : lim = 4000 := rfl
  have hsl := lim_lt
  refine ⟨_, (pss_cons (ps_set (i := 2) sc_decided.nd rfl (by first | exact Or.inl rfl | exact Or.inr rfl) (pe_fld (pe_df D1 hr (passes_call (takes_of rfl rfl rfl rfl) (fun _ _ _ _ z => z)) (pa_cons (pv 0) pa_nil)) rfl))
      (pss_cons (ps_if (pt_not (pt_val (pe_df D2 hr4 pass0 (pa_cons (pv 2) (pa_cons (pv 1) pa_nil))))) (pss_one (ps_raise rfl (takes_of rfl rfl rfl rfl) (pmk_oex TW.oex TW.iC TW.tI GW hr2 bW .nil pass0 (by rfl) TW.gC (pa_cons (pv 1) pa_nil)))) pss_nil)
      (pss_cons (ps_set (i := 3) sc_decided.nd rfl (by first | exact Or.inl rfl | exact Or.inr rfl) (pe_make M GT hr2 (by rfl) T.gC bT .nil pass0 (pa_cons (pe_lst pa_nil) pa_nil)))
      (pss_cons (ps_set (i := 4) sc_decided.nd rfl (by first | exact Or.inl rfl | exact Or.inr rfl) (pe_lst pa_nil))
      (PSs.nox (pss_cons (ps_for PassesOwn.never rfl (pi_seq (pv 2)) (pg_name (i := 5) sc_decided.nd rfl (by first | exact Or.inl rfl | exact Or.inr rfl)) (pss_one (ps_expr (pe_bm PySem.F.plainAttrs_list PySem.F.slot_list_append PySem.F.type_list_append mt_append (pv 4) (pa_cons (pe_df D3 hr2 pass0 (pa_cons (pv 3) (pa_cons (pv 5) (pa_cons (pv 4) (pa_cons (pv 1) pa_nil))))) pa_nil)))))
      (pss_one (ps_ret (pe_tup (pa_cons (pe_fld (pv 3) rfl) (pa_cons (pv 4) pa_nil))))))))))), ?_⟩
  -- rows = judged_web(web).rows
  refine ⟨_, rfl, v, d, rfl, rd, wdd, fun t0 l0 dd0 R as0 H1 sc s1 nt0 nl0 nd0 tb0 => ?_, fun R n x dx H' sc s nd hx => q2 R n x dx H' sc s nd hx⟩
  obtain ⟨dx0, ob0⟩ := tb0.ob
  refine ⟨t0, C, dx0, _, _, rfl, ob0, T.cl, T.nR, flds_rows l0 dd0, ?_⟩
  have WR' := sc.web wdd
  have lR := sc.len wdd
  have rR := tb0.rows
  -- if not are_truths(rows, truths)
  rcases q1 R sc with ⟨a, ts, rfl, ea, tok, q1⟩ | ⟨tr, q1⟩
  · refine ⟨_, rfl, _, rfl, .ref l0, .ref a, R, true, rfl, rR, (tok.tr ea).sm s1, fun H4 s4' => ?_⟩
    refine ⟨_, rfl, iteF ?_⟩
    have s14 := s1.trans s4'
    have rR4 := rR.sm s4'
    have ea4 := s14 _ _ ea
    -- table = RowTable([])
    refine ⟨(by show 0 ≤ sizeLine; decide), fun rl nrl t dx nt ndx ndt => ?_⟩
    have nrl' : rl ≠ t := ne_of_none (o := .lst []) upd_same nt
    have nrd : rl ≠ dx := ne_of_none (o := .lst []) upd_same ndx
    have htn : H4 t = none := by rw [upd_ne nrl'.symm] at nt; exact nt
    have hdn : H4 dx = none := by rw [upd_ne nrd.symm] at ndx; exact ndx
    refine ⟨t, dx, rl, rfl, upd_same, by rw [upd_ne nrl', upd_ne nrd]; exact upd_same, fun l dd H5 nl ndd nldd kp ht hl hd => ⟨rfl, ?_⟩⟩
    have s5 : Sm H4 H5 := fun b o z => kp b o (by rw [upd_ne (ne_of_none z htn), upd_ne (ne_of_none z hdn), upd_ne (ne_of_none z nrl)]; exact z) (ne_of_none z htn)
    have back : ∀ b o, H4 b = some o → upd (upd (upd H4 rl (.lst [])) dx (.own t)) t (.ins C dx []) b = some o := fun b o z => by
      rw [upd_ne (ne_of_none z htn), upd_ne (ne_of_none z hdn), upd_ne (ne_of_none z nrl)]
      exact z
    have nl' : H4 l = none := by
      cases z : H4 l with
      | none => rfl
      | some o => rw [back _ _ z] at nl; cases nl
    have ndd' : H4 dd = none := by
      cases z : H4 dd with
      | none => rfl
      | some o => rw [back _ _ z] at ndd; cases ndd
    have tb : Tb P w C H5 t l dd [] [] := ⟨⟨dx, ht⟩, rfl, hl, .nil, ⟨.inl ⟨rfl, hd⟩, (fun _ hq => nomatch hq)⟩, (fun _ hr => nomatch hr), List.nodup_nil⟩
    -- places = []
    refine ⟨(by show 0 ≤ sizeLine; decide), fun pl npl => ?_⟩
    have s6 : Sm H5 (upd H5 pl (.lst [])) := Sm.new npl
    have epl : upd H5 pl (.lst []) pl = some (.lst []) := upd_same
    have tb6 := tb.sm s6
    have npll : pl ≠ l := fun z => by rw [z, tb.ls] at npl; cases npl
    have npdd : pl ≠ dd := fun z => by
      have := tb.dne.2.2.2
      rw [z] at npl
      exact this npl
    have s46 := s5.trans s6
    have els := s46 _ _ (s4' _ _ tb0.ls)
    have ers := tb0.rs.sm (s4'.trans s46)
    have ea6 := s46 _ _ ea4
    have npl4 : H4 pl = none := by
      cases z : H4 pl with
      | none => rfl
      | some o => rw [s5 _ _ z] at npl; cases npl
    generalize upd H5 pl (.lst []) = H6 at s6 epl tb6 s46 els ers ea6 ⊢
    have nl0l : l0 ≠ l := fun z => by rw [← z, s4' _ _ tb0.ls] at nl'; cases nl'
    have nl0d : l0 ≠ dd := fun z => by rw [← z, s4' _ _ tb0.ls] at ndd'; cases ndd'
    have nl0p : l0 ≠ pl := fun z => by rw [← z, s4' _ _ tb0.ls] at npl4; cases npl4
    have nal : a ≠ l := fun z => by rw [← z, ea4] at nl'; cases nl'
    have nad : a ≠ dd := fun z => by rw [← z, ea4] at ndd'; cases ndd'
    have nap : a ≠ pl := fun z => by rw [← z, ea4] at npl4; cases npl4
    have lxs : (as0.map V.ref).length = R.length := by rw [tb0.rs.length, List.length_map]
    -- for row in rows
    refine ⟨_, rfl, l0, as0.map V.ref, rfl, .inl els, fun J hJ => ?_⟩
    refine for_seq hJ (fun i σ3 H3 => ∃ x5 as, σ3 = [some v, some (.ref a), some (.ref l0), some (.ref t), some (.ref pl), x5] ∧ (∀ b o, b ≠ l → b ≠ dd → b ≠ pl → H6 b = some o → H3 b = some o) ∧ Tb P w C H3 t l dd (dec (tF ts) (R.take i)).1 as ∧ H3 pl = some (.lst (vN (dec (tF ts) (R.take i)).2))) ?_ ?_ ?_ ?_
    · exact ⟨_, [], rfl, fun b o _ _ _ z => z, tb6, epl⟩
    · rintro i σ3 H3 _ ⟨_, _, _, fr, _⟩
      rw [fr _ _ nl0l nl0d nl0p els, els]
    · rintro i x σ3 H3 hx ⟨x5, as, rfl, fr, tb3, ep3⟩
      obtain ⟨hi, exi⟩ := List.getElem?_eq_some_iff.mp hx
      have hiR : i < R.length := by omega
      have J0 := dec_take (t := tF ts) WR' i (by omega)
      have lps := J0.len
      rw [List.length_take, Nat.min_eq_left (by omega)] at lps
      have hhi := J0.hi
      rw [List.length_take, Nat.min_eq_left (by omega)] at hhi
      have st : Stays No H6 H3 := ⟨fun _ _ z => z.elim, fun b ys z => fr b _ (fun y => by rw [y, tb6.ls] at z; cases z) (fun y => tb6.dne.2.2.1 _ (by rw [← y]; exact z)) (fun y => by rw [y, epl] at z; cases z) z⟩
      have rx : Dr All H3 x (R[i]).d := by
        obtain ⟨d', hd', r⟩ := ers.get hx
        rw [List.getElem?_map, List.getElem?_eq_getElem hiR] at hd'
        cases hd'
        exact (r.mono (fun _ z => z) st).all
      have okR : (R[i]).ok := WR'.ok _ (List.getElem_mem hiR)
      have ea3 := fr _ _ nal nad nap ea6
      obtain ⟨dx3, ob3⟩ := tb3.ob
      have et := take_snoc hiR
      have edec : dec (tF ts) (R.take (i + 1)) = decStep (tF ts) (dec (tF ts) (R.take i)) R[i] := by rw [et, dec_snoc]
      refine ⟨_, rfl, .inl ⟨rfl, _, SqL.of ep3⟩, ?_⟩
      refine ⟨_, rfl, _, rfl, _, rfl, _, rfl, t, l, dd, pl, a, x, _, as, R[i], _, ts, rfl, tb3, rx, okR, by omega, ep3, ea3, fun k hk => ?_, fun k H4' hk s4 => ?_, fun as' H4' hk fr4 tb4 => ?_⟩
      · rw [lps]
        exact WR'.ahead hiR k (by rw [rowAt_get hiR]; exact hk)
      · have ep4 := s4 _ _ ep3
        refine ⟨pl, _, _, rfl, rfl, ep4, by simp only [vN, List.length_map, lps]; omega, ?_⟩
        rw [edec, decStep_some hk]
        refine ⟨_, as, rfl, fun b o h1 h2 h3 z => ?_, (tb3.sm s4).list npll npdd ep4, ?_⟩
        · rw [upd_ne h3]
          exact s4 _ _ (fr b o h1 h2 h3 z)
        · rw [upd_same]
          simp [vN]
      · have ep4 := fr4 _ _ npll npdd ep3
        refine ⟨pl, _, _, rfl, rfl, ep4, by simp only [vN, List.length_map, lps]; omega, ?_⟩
        rw [edec, decStep_none hk]
        refine ⟨_, as', rfl, fun b o h1 h2 h3 z => ?_, tb4.list npll npdd ep4, ?_⟩
        · rw [upd_ne h3]
          exact fr4 _ _ h1 h2 (fr b o h1 h2 h3 z)
        · rw [upd_same]
          simp [vN]
    · rintro σ3 H3 ⟨x5, as, rfl, fr, tb3, ep3⟩
      rw [lxs, List.take_length] at tb3 ep3
      obtain ⟨dx3, ob3⟩ := tb3.ob
      have s43 : Sm H4 H3 := fun b o z => fr b o (ne_of_none z nl') (ne_of_none z ndd') (ne_of_none z npl4) (s46 _ _ z)
      have s13 := s14.trans s43
      -- return (table.rows, places)
      refine ⟨_, rfl, t, C, dx3, _, _, rfl, ob3, T.cl, T.nR, flds_rows l dd, ?_⟩
      refine ⟨_, rfl, (by show 2 ≤ sizeLine; decide), fun p np => ?_⟩
      have sp := Sm.new (o := .tup [.ref l, .ref pl]) np
      exact q1 p _ (s13.trans sp) ⟨l, pl, as, npll.symm, s14.free nl', s14.free npl4, s13.free np, upd_same, sp _ _ tb3.ls, tb3.rs.sm sp, sp _ _ ep3⟩
  · refine ⟨_, rfl, _, rfl, .ref l0, u, R, false, rfl, rR, tr.sm s1, fun H4 s4' => ?_⟩
    refine ⟨_, rfl, iteT ⟨_, rfl, (by show 1 ≤ 1000; decide), raise_own fun dx H' s5 nd5 hx => ?_⟩⟩
    exact q1 dx H' ((s1.trans s4').trans s5) ((s1.trans s4').free nd5) hx
end
end K8

/-! _law_k_row. -/
namespace K8
open PySem PySem.Spec PyProof.Rows L2 WR
/-- the places of the rows that p takes -/
def atP (p : Row → Bool) : List Row → Nat → List Nat
  | [], _ => []
  | r :: R, n => if p r = true then n :: atP p R (n + 1) else atP p R (n + 1)
theorem atP_app (p : Row → Bool) (r : Row) : ∀ (R : List Row) (n : Nat), atP p (R ++ [r]) n = atP p R n ++ (if p r = true then [n + R.length] else [])
  | [], n => by simp [atP]
  | s :: R, n => by
    have ih := atP_app p r R (n + 1)
    simp only [List.cons_append, atP]
    rw [ih]
    by_cases h : p s = true
    · rw [if_pos h, if_pos h, List.cons_append, List.length_cons, show n + 1 + R.length = n + (R.length + 1) by omega]
    · rw [if_neg h, if_neg h, List.length_cons, show n + 1 + R.length = n + (R.length + 1) by omega]
theorem atP_mem {p : Row → Bool} {k : Nat} : ∀ {R : List Row} {n : Nat}, k ∈ atP p R n → n ≤ k ∧ k < n + R.length ∧ p (rowAt R (k - n)) = true
  | [], n, h => by simp [atP] at h
  | r :: R, n, h => by
    unfold atP at h
    have rest : k ∈ atP p R (n + 1) → n ≤ k ∧ k < n + (r :: R).length ∧ p (rowAt (r :: R) (k - n)) = true := fun h => by
      obtain ⟨h1, h2, h3⟩ := atP_mem h
      refine ⟨by omega, by simp; omega, ?_⟩
      have e : rowAt (r :: R) (k - n) = rowAt R (k - (n + 1)) := by
        unfold rowAt
        rw [show k - n = (k - (n + 1)) + 1 by omega]
        rfl
      rw [e]
      exact h3
    by_cases hp : p r = true
    · rw [if_pos hp] at h
      rcases List.mem_cons.mp h with rfl | h
      · refine ⟨Nat.le_refl _, by simp, ?_⟩
        rw [Nat.sub_self]
        exact hp
      · exact rest h
    · rw [if_neg hp] at h
      exact rest h
theorem atP_nodup {p : Row → Bool} : ∀ (R : List Row) (n : Nat), (atP p R n).Nodup
  | [], _ => List.nodup_nil
  | r :: R, n => by
    unfold atP
    have ih := atP_nodup (p := p) R (n + 1)
    by_cases hp : p r = true
    · rw [if_pos hp]
      exact List.nodup_cons.mpr ⟨fun z => by have := (atP_mem z).1; omega, ih⟩
    · rw [if_neg hp]
      exact ih
theorem atP_len {p : Row → Bool} : ∀ (R : List Row) (n : Nat), (atP p R n).length ≤ R.length
  | [], _ => Nat.le_refl _
  | r :: R, n => by
    unfold atP
    have ih := atP_len (p := p) R (n + 1)
    by_cases hp : p r = true
    · rw [if_pos hp]; simp; omega
    · rw [if_neg hp]; simp; omega
theorem nums_app (ks js : List Nat) : nums (ks ++ js) = nums ks ++ nums js := by simp [nums]
/-- [i for i, r in enumerate(rows) if p(r)] -/
theorem enum_comp {K : PySem.W.Frag} {J : It} {H1 : Hp} {D a : Addr} {xs : List V} {R : List Row} {tt : TT} {σ : L2.St} {vs : List Nat} {i j : Nat} {Qd : Hp → Prop} (p : Row → Bool) (hJ : ItN K H1 a xs J) (rs : DrA All H1 xs (R.map Row.d)) (nD : H1 D = none) (hlen : R.length ≤ lim)
    (hw : ∀ a b, wipe (((wipe σ vs).set i (some a)).set j (some b)) vs = wipe σ vs) (hi : ∀ a b, (((wipe σ vs).set i (some a)).set j (some b))[i]? = some (some a))
    (htt : ∀ (a b : V) (H2 : Hp) (r : Row) (Q : Bool → Hp → Prop), Dr All H2 b r.d → Q (p r) H2 → tt (((wipe σ vs).set i (some a)).set j (some b)) H2 Q)
    (hd : ∀ H2, Sm H1 H2 → H2 D = some (.lst ((atP p R 0).map fun (k : Nat) => V.int (k : Int))) → Qd H2) :
    ∃ W : Nat → Nat → Hp → Prop, (∃ m, W 0 m (upd H1 D (.lst []))) ∧ ∀ i' m H, W i' m H →
      (J.stop i' H ∧ Qd H) ∨ (J.go i' H ∧ ∃ Nx : Hp → Prop, (∀ H', Nx H' → ∃ m', m' < m ∧ W (i' + 1) m' H') ∧ ∀ x H', J.yld i' H x H' → (gTup K 2 (gCons (gName i) (gCons (gName j) gNil))) x (wipe σ vs) H' fun σ2 H2 => wipe σ2 vs = wipe σ vs ∧ tt σ2 H2 fun b H3 =>
        if b = true then (tVar i) σ2 H3 fun y H4 => ∃ acc, H4 D = some (.lst acc) ∧ acc.length < sizeLine ∧ Nx (upd H4 D (.lst (acc ++ [y]))) else Nx H3) := by
  have hl : xs.length = R.length := by rw [rs.length, List.length_map]
  have hsl := lim_lt
  refine lc_walk (n := R.length) (fun m H2 => Sm H1 H2 ∧ H2 D = some (.lst ((atP p (R.take m) 0).map fun (k : Nat) => V.int (k : Int)))) ⟨Sm.new nD, upd_same⟩ (fun m H2 hm h => ?_) (fun H2 h => ?_) (fun m x H2 H' hm h hy => ?_) fun H2 h => ?_
  · have hx : xs[m]? = some xs[m] := List.getElem?_eq_getElem (by omega)
    rcases hJ with ⟨rfl, e⟩ | ⟨rfl, e⟩
    · exact ⟨xs, _, SqL.of (h.1 _ _ e), hx⟩
    · exact ⟨xs, _, SqT.of (h.1 _ _ e), hx⟩
  · rcases hJ with ⟨rfl, e⟩ | ⟨rfl, e⟩
    · exact ⟨xs, SqL.of (h.1 _ _ e), by omega⟩
    · exact ⟨xs, SqT.of (h.1 _ _ e), by omega⟩
  · obtain ⟨s, eD⟩ := h
    obtain ⟨T, y, rfl, nT, rfl, hx⟩ : ∃ T y, x = .ref T ∧ H2 T = none ∧ H' = upd H2 T (.tup [.int (m : Nat), y]) ∧ xs[m]? = some y := by
      rcases hJ with ⟨rfl, e⟩ | ⟨rfl, e⟩
      · obtain ⟨T, y, h1, h2, h3, h4⟩ := hy
        exact ⟨T, y, h1, h2, h3, h4 xs (SqL.of (s _ _ e))⟩
      · obtain ⟨T, y, h1, h2, h3, h4⟩ := hy
        exact ⟨T, y, h1, h2, h3, h4 xs (SqT.of (s _ _ e))⟩
    obtain ⟨d, hd', rd⟩ := (rs.sm s).get hx
    have hr : R[m]? = some R[m] := List.getElem?_eq_getElem hm
    rw [List.getElem?_map, hr] at hd'
    cases hd'
    have sT : Sm H2 (upd H2 T (.tup [.int (m : Nat), y])) := Sm.new nT
    refine ⟨T, _, rfl, SqT.of upd_same, rfl, _, _, rfl, _, _, rfl, rfl, hw _ _, ?_⟩
    have et : R.take (m + 1) = R.take m ++ [R[m]] := by rw [List.take_succ, hr]; rfl
    have em : (R.take m).length = m := by rw [List.length_take]; omega
    have la := atP_len (p := p) (R.take m) 0
    refine htt _ _ _ R[m] _ (rd.sm sT) ?_
    refine ite2 (fun hp => ?_) (fun hp => ?_)
    · refine ⟨_, hi _ _, _, sT _ _ eD, ?_, ?_, ?_⟩
      · rw [List.length_map]
        omega
      · exact fun c o e => by
          rw [upd_ne (ne_of_none e nD)]
          exact sT _ _ (s _ _ e)
      · rw [upd_same, et, atP_app, if_pos hp, em, Nat.zero_add, List.map_append]
        rfl
    · refine ⟨s.trans sT, ?_⟩
      rw [et, atP_app, if_neg hp, List.append_nil]
      exact sT _ _ eD
  · have := h.2
    rw [List.take_length] at this
    exact hd H2 h.1 this
def isPa (r : Row) : Bool := !r.isAsked
theorem part_ok {R : List Row} {k : Nat} (h : k ∈ atP isPa R 0) : isPart R k = true ∧ k < R.length := by
  obtain ⟨_, h2, h3⟩ := atP_mem h
  rw [Nat.zero_add] at h2
  rw [Nat.sub_zero] at h3
  unfold isPart
  rw [decide_eq_true h2, Bool.true_and]
  exact ⟨h3, h2⟩
theorem asked_ok {R : List Row} {k : Nat} (h : k ∈ atP Row.isAsked R 0) : (rowAt R k).isAsked = true ∧ k < R.length := by
  obtain ⟨_, h2, h3⟩ := atP_mem h
  rw [Nat.zero_add] at h2
  rw [Nat.sub_zero] at h3
  exact ⟨h3, h2⟩
theorem why_either {R : List Row} {a i j : Nat} (ha : (rowAt R a).isAsked = true ∧ a < R.length) (hi : isPart R i = true ∧ i < R.length) (hj : isPart R j = true ∧ j < R.length) (hij : i ≠ j) : why R (.either a i j) = none := by
  unfold why why2 why3 why4
  simp only [Row.named, List.all_cons, List.all_nil, decide_eq_true ha.2, decide_eq_true hi.2, decide_eq_true hj.2, Row.badTest, ha.1, Row.parts, hi.1, hj.1, Row.like, decide_eq_false hij, Bool.and_self, Bool.not_true]
  rfl
theorem why_parts {R : List Row} {n : Str} {ks : List Nat} (h : ∀ k ∈ ks, isPart R k = true ∧ k < R.length) : why R (.made n ks) = none ∧ why R (.asked n ks) = none := by
  have h1 : (ks.all fun k => decide (k < R.length)) = true := List.all_eq_true.mpr fun k hk => decide_eq_true (h k hk).2
  have h2 : ks.all (isPart R) = true := List.all_eq_true.mpr fun k hk => (h k hk).1
  unfold why why2 why3 why4
  simp only [Row.named, h1, Row.badTest, Row.parts, h2, Row.like]
  exact ⟨rfl, rfl⟩
def fgh : List PyData := [.str "f", .str "g", .str "h"]
def ftu : List PyData := [.str "f", .str "t", .str "u"]
theorem fgh_ok : ∀ e ∈ fgh, ∃ x : Str, e = .str x ∧ isName (.str x) = true := by
  intro e he
  simp only [fgh, List.mem_cons, List.not_mem_nil, or_false] at he
  rcases he with rfl | rfl | rfl <;> exact ⟨_, rfl, by decide +kernel⟩
theorem ftu_ok : ∀ e ∈ ftu, ∃ x : Str, e = .str x ∧ isName (.str x) = true := by
  intro e he
  simp only [ftu, List.mem_cons, List.not_mem_nil, or_false] at he
  rcases he with rfl | rfl | rfl <;> exact ⟨_, rfl, by decide +kernel⟩
theorem All2.mem {R : PyData → PyData → Prop} : ∀ {ds es : List PyData}, All2 R ds es → ∀ e ∈ es, ∃ d ∈ ds, R d e
  | _, _, .nil, e, h => by cases h
  | _, _, .cons a t, e, h => by
    rcases List.mem_cons.mp h with rfl | h
    · exact ⟨_, List.mem_cons_self .., a⟩
    · obtain ⟨d, hd, r⟩ := All2.mem t e h
      exact ⟨d, List.mem_cons_of_mem _ hd, r⟩
theorem nums_back {p : Nat → Prop} : ∀ {es : List PyData}, (∀ e ∈ es, ∃ k, e = .int (k : Nat) ∧ p k) → ∃ ks, es = nums ks ∧ ∀ k ∈ ks, p k
  | [], _ => ⟨[], rfl, fun _ h => by cases h⟩
  | e :: es, h => by
    obtain ⟨k, rfl, hk⟩ := h e (List.mem_cons_self ..)
    obtain ⟨ks, rfl, hks⟩ := nums_back fun e he => h e (List.mem_cons_of_mem _ he)
    refine ⟨k :: ks, rfl, fun j hj => ?_⟩
    rcases List.mem_cons.mp hj with rfl | hj
    · exact hk
    · exact hks j hj
theorem nums_nd {ks : List Nat} (h : ks.Nodup) : (nums ks).Nodup := by
  induction ks with
  | nil => exact List.nodup_nil
  | cons k ks ih =>
    obtain ⟨h1, h2⟩ := List.nodup_cons.mp h
    refine List.nodup_cons.mpr ⟨fun z => ?_, ih h2⟩
    obtain ⟨j, hj, e⟩ := List.mem_map.mp z
    injection e with e
    exact h1 (by rw [show k = j by omega]; exact hj)
theorem if_draw {c : Bool} {wa : Addr} {n m : Nat} {σ : L2.St} {H : Hp} {R : VK} (h0 : σ[0]? = some (some (.ref wa))) (hw : Wl H wa n) (hm : 1 ≤ m) (hm2 : m ≤ 1000000) (hn : n < top0)
    (h : ∀ (many : Nat) (H' : Hp), (many = 0 ∨ (c = true ∧ many < m)) → Gw wa H H' → Wl H' wa (n + 1) → R (.int (many : Nat)) H') :
    if c = true then tCall spDraw [] E0 (tCons (tVar 0) (tCons (tC (V.int (m : Nat))) tNil)) σ H R else tC (V.int 0) σ H R := by
  refine ite2 (fun hc => ?_) (fun _ => ?_)
  · exact ⟨_, h0, wa, m, n, rfl, hm, hm2, hw, hn, fun many H' hk g hw' => h many H' (.inr ⟨hc, hk⟩) g hw'⟩
  · exact h 0 H (.inl rfl) (Gw.of Sm.rfl') (hw.mono (by omega))
section
variable {P : Program} {w : World} {K : PySem.W.Frag} {mg : Str → Option Value} {base : Heap}
theorem sc__law_k_row : FnScope ["well", "rows", "parts", "tests", "way", "both", "some", "at", "row", "k"] ["well", "rows"] (defScope s_law_k_row) := ⟨rfl, rfl, rfl, by decide +kernel, rfl, by decide +kernel, by decide +kernel⟩
theorem ok__law_k_row (B : Bt mg) (F : Fn K mg d_law_k_row) (D1 : Df P w K mg base CX0 1 "_law_draw" ["well", "many"] spDraw) (D2 : Df P w K mg base CX0 2 "_law_pick" ["well", "some"] spPick) (D3 : Df P w K mg base CX0 2 "_law_mixed" ["well", "some"] spMixed) :
    Df P w K mg base CX0 3 "_law_k_row" ["well", "rows"] spKRow := by
  obtain ⟨f, fd, hm, F⟩ := F
  refine ⟨f, fd, hm, F.kp, F.bindsN fun _ _ _ _ _ _ us hl => match us, hl with | [_, _], _ => rfl, ?_⟩
  refine F.ok sc__law_k_row (fun vs H Q E h => by obtain ⟨w, n, v, R, rfl, _⟩ := h; rfl) (fun cdv A outer s H vs Q E hr h => ?_)
  obtain ⟨wa, n, v, R, rfl, hw, hn, rd, hR, q⟩ := h
  have hr1 := hr.mono (show 1 ≤ 2 by decide)
  have hu := hr.units
  refine ⟨_, PSs.nox (pss_cons (ps_set (i := 2) sc__law_k_row.nd rfl (by first | exact Or.inl rfl | exact Or.inr rfl) (pe_lc (own := [("at", 7), ("row", 8)]) (g := gTup K 2 (gCons (gName 7) (gCons (gName 8) gNil))) (tt := _) rfl sc__law_k_row.nd (pi_enS B.enumerate (pa_cons (pv 1) pa_nil)) (blkOk_by (own := [("at", 7), ("row", 8)]) (N := ["well", "rows", "parts", "tests", "way", "both", "some", "at", "row", "k"]) (sc := defScope s_law_k_row) (by decide +kernel)) (fun _ _ _ _ _ => pg_tup rfl (pgs_cons (pg_name (i := 7) sc__law_k_row.nd rfl (by first | exact Or.inl rfl | exact Or.inr rfl)) (pgs_cons (pg_name (i := 8) sc__law_k_row.nd rfl (by first | exact Or.inl rfl | exact Or.inr rfl)) pgs_nil))) (fun _ _ _ _ _ => (pts_one (pt_cmpR op_ne (pe_ix ix_D (pv 8) pe_int (fun _ _ => rfl)) pe_str (nomark _)))) (fun _ _ _ _ _ => (pv 7))))
      (pss_cons (ps_setLc (i := 3) (own := [("at", 7), ("row", 8)]) (g := gTup K 2 (gCons (gName 7) (gCons (gName 8) gNil))) (tt := _) rfl sc__law_k_row.nd rfl rfl (sw_true rfl rfl rfl (by decide +kernel)) (pi_enS B.enumerate (pa_cons (pv 1) pa_nil)) (blkOk_by (own := [("at", 7), ("row", 8)]) (N := ["well", "rows", "parts", "tests", "way", "both", "some", "at", "row", "k"]) (sc := defScope s_law_k_row) (by decide +kernel)) (fun _ _ _ _ _ => pg_tup rfl (pgs_cons (pg_name (i := 7) sc__law_k_row.nd rfl (by first | exact Or.inl rfl | exact Or.inr rfl)) (pgs_cons (pg_name (i := 8) sc__law_k_row.nd rfl (by first | exact Or.inl rfl | exact Or.inr rfl)) pgs_nil))) (fun _ _ _ _ _ => (pts_one (pt_cmpR op_eq (pe_ix ix_D (pv 8) pe_int (fun _ _ => rfl)) pe_str (nomark _)))) (fun _ _ _ _ _ => (pv 7)))
      (pss_cons (ps_set (i := 4) sc__law_k_row.nd rfl (by first | exact Or.inl rfl | exact Or.inr rfl) (pe_df D1 hr1 pass0 (pa_cons (pv 0) (pa_cons pe_int pa_nil))))
      (C8.pss_cut (ps_if (PW.pt (pw_or (pt_cmpR op_eq (pv 4) pe_int (nomark _)) (pw_or1 (PW.pt (pw_and (pt_cmpR (op_eqDr hu) (pv 2) (pe_lst pa_nil) (nomark _)) (pw_and1 (pt_cmpR op_lt (pv 4) pe_int (nomark _)))))))) (pss_one (ps_ret (pe_ifExp (pt_cmpR op_eq (pv 4) pe_int (nomark _)) (pe_tup (pa_cons pe_str (pa_cons (pe_df D1 hr1 pass0 (pa_cons (pv 0) (pa_cons pe_int pa_nil))) pa_nil))) (pe_tup (pa_cons pe_str (pa_cons (pe_df D2 hr pass0 (pa_cons (pv 0) (pa_cons (pe_lst (pa_cons pe_str (pa_cons pe_str (pa_cons pe_str pa_nil)))) pa_nil))) (pa_cons (pe_tup pa_nil) pa_nil))))))) pss_nil)
      (C8.pss_cut (ps_if (PW.pt (pw_and (pt_cmpR op_eq (pv 4) pe_int (nomark _)) (pw_and (pt_cmpR (op_neDr hu) (pv 3) (pe_lst pa_nil) (nomark _)) (pw_and1 (pt_cmpR op_gt (pe_callB call_lenS (by rfl) B.len (by decide +kernel) (pa_cons (pv 2) pa_nil)) pe_int (nomark _)))))) (pss_cons (ps_set (i := 5) sc__law_k_row.nd rfl (by first | exact Or.inl rfl | exact Or.inr rfl) (pe_slice (sl_N (Ne wa)) (pe_df D3 hr pass0 (pa_cons (pv 0) (pa_cons (pv 2) pa_nil))) po_none (po_some pe_int)))
      (pss_one (ps_ret (pe_tup (pa_cons pe_str (pa_cons (pe_df D2 hr pass0 (pa_cons (pv 0) (pa_cons (pv 3) pa_nil))) (pa_cons (pe_ix ix_D (pv 5) pe_int (fun _ _ => rfl)) (pa_cons (pe_ix ix_D (pv 5) pe_int (fun _ _ => rfl)) pa_nil)))))))) pss_nil)
      (pss_cons (ps_set (i := 6) sc__law_k_row.nd rfl (by first | exact Or.inl rfl | exact Or.inr rfl) (pe_callTy call_tupD (by rfl) B.tuple (by decide +kernel) (pa_cons (pe_lc (own := [("k", 9)]) (g := gName 9) (tt := tYes) rfl sc__law_k_row.nd (pi_range1 rfl B.range (pa_cons (pe_ifExp (pt_cmpR (op_neDr hu) (pv 2) (pe_lst pa_nil) (nomark _)) (pe_df D1 hr1 pass0 (pa_cons (pv 0) (pa_cons pe_int pa_nil))) pe_int) pa_nil)) (blkOk_by (own := [("k", 9)]) (N := ["well", "rows", "parts", "tests", "way", "both", "some", "at", "row", "k"]) (sc := defScope s_law_k_row) (by decide +kernel)) (fun _ _ _ _ _ => pg_name (i := 9) sc__law_k_row.nd rfl (by first | exact Or.inl rfl | exact Or.inr rfl)) (fun _ _ _ _ _ => pts_nil) (fun _ _ _ _ _ => (pe_df D2 hr pass0 (pa_cons (pv 0) (pa_cons (pv 2) pa_nil))))) pa_nil)))
      (pss_cons (ps_if (pt_cmpR op_eq (pv 4) pe_int (nomark _)) (pss_one (ps_ret (pe_tup (pa_cons pe_str (pa_cons (pe_df D2 hr pass0 (pa_cons (pv 0) (pa_cons (pe_lst (pa_cons pe_str (pa_cons pe_str (pa_cons pe_str pa_nil)))) pa_nil))) (pa_cons (pv 6) pa_nil)))))) pss_nil)
      (pss_one (ps_ret (pe_tup (pa_cons pe_str (pa_cons (pe_df D2 hr pass0 (pa_cons (pv 0) (pa_cons (pe_lst (pa_cons pe_str (pa_cons pe_str (pa_cons pe_str pa_nil)))) pa_nil))) (pa_cons (pv 6) pa_nil))))))))))))), ?_⟩
  have hsl := lim_lt
  have htop : top0 = 1000000000000 := rfl
  have hlim : lim = 4000 := rfl
  -- parts
  obtain ⟨a, xs, rfl, hq, rs⟩ := rd.seq rfl
  refine ⟨_, rfl, a, xs, rfl, hq, fun J hJ l1 nl1 => ?_⟩
  refine enum_comp isPa hJ rs.all nl1 (by omega) (fun _ _ => rfl) (fun _ _ => rfl) (fun b c H2 r Q' rb q' => ?_) fun H1 s1 el1 => ?_
  · refine ⟨_, rfl, _, 0, _, rb, Row.seqD _, rfl, Row.word_at _, fun x0 r0 => ?_⟩
    cases r0.str_inv
    refine ⟨rfl, _, rfl, ?_⟩
    rw [Row.askedW]
    exact q'
  -- tests
  obtain ⟨xs1, hq1, rs1⟩ : ∃ xs1, Sq H1 a xs1 ∧ DrA (Ne wa) H1 xs1 (R.map Row.d) := ⟨xs, hq.imp (fun z => s1 _ _ z) (fun z => s1 _ _ z), rs.sm s1⟩
  refine ⟨_, rfl, a, xs1, rfl, hq1, fun J1 hJ1 D nD => ?_⟩
  refine enum_comp Row.isAsked hJ1 rs1.all nD (by omega) (fun _ _ => rfl) (fun _ _ => rfl) (fun b c H2 r Q' rb q' => ?_) fun H3 s2 eD3 => ?_
  · refine ⟨_, rfl, _, 0, _, rb, Row.seqD _, rfl, Row.word_at _, fun x0 r0 => ?_⟩
    cases r0.str_inv
    refine ⟨rfl, _, rfl, ?_⟩
    rw [Row.askedP]
    exact q'
  have s3 : Sm H H3 := s1.trans s2
  have el3 : H3 l1 = some (.lst ((atP isPa R 0).map fun (k : Nat) => V.int (k : Int))) := s2 _ _ el1
  have nl1w : l1 ≠ wa := hw.ne nl1
  have nDw : D ≠ wa := hw.ne (s1.free nD)
  have hP := atP_len (p := isPa) R 0
  have hA := atP_len (p := Row.isAsked) R 0
  have pok : ∀ k ∈ atP isPa R 0, isPart R k = true ∧ k < R.length := fun k h => part_ok h
  have aok : ∀ k ∈ atP Row.isAsked R 0, (rowAt R k).isAsked = true ∧ k < R.length := fun k h => asked_ok h
  have pnd := atP_nodup (p := isPa) R 0
  generalize atP isPa R 0 = ps at el3 hP pok pnd
  generalize atP Row.isAsked R 0 = as at eD3 hA aok
  have lps : (its (.list (nums ps))).length = ps.length := by simp [its, nums]
  have las : (its (.list (nums as))).length = as.length := by simp [its, nums]
  -- way
  refine ⟨_, rfl, wa, 9, n, rfl, by decide, by decide, hw.sm s3, by omega, fun way H4 hway g4 hw4 => ?_⟩
  have g4' : Gw wa H H4 := (Gw.of s3).trans g4
  have el4 := g4 l1 _ nl1w el3
  have eD4 := g4 D _ nDw eD3
  have rp : ∀ {H'}, Gw wa H4 H' → Dr (Ne wa) H' (.ref l1) (.list (nums ps)) := fun g => .lst nl1w (g l1 _ nl1w el4) (vints_dr _)
  have ra : ∀ {H'}, Gw wa H4 H' → Dr (Ne wa) H' (.ref D) (.list (nums as)) := fun g => .lst nDw (g D _ nDw eD4) (vints_dr _)
  have oNe : Off wa (Ne wa) := fun b h => h
  have fin : ∀ (r : Row) u H', r.ok → r.small → why R r = none → Gw wa H4 H' → Wl H' wa (n + 60) → Dr No H' u r.d → Q u H' := fun r u H' h1 h0 h2 g h3 h4 => q r u H' h1 h0 h2 (g4'.trans g) h3 h4
  -- if way == 0 or (parts == [] and way < 7)
  refine ⟨fun σ' H' => σ' = [some (.ref wa), some (.ref a), some (.ref l1), some (.ref D), some (.int (way : Nat)), none, none, none, none, none] ∧ Sm H4 H', ⟨_, rfl, rfl, _, rfl, ite2 (fun h0 => ?_) (fun h0 => ?_)⟩, ?_⟩
  · refine iteT ⟨_, rfl, rfl, _, rfl, ite2 (fun _ => ?_) (fun z => absurd h0 z)⟩
    refine ⟨_, rfl, wa, 3, n + 1, rfl, by decide, by decide, hw4, by omega, fun k H5 hk g5 hw5 => ⟨(by show 2 ≤ sizeLine; decide), fun t nt => ?_⟩⟩
    refine fin (.given k) _ _ trivial (by show k ≤ 100; omega) rfl (g5.trans (Gw.of (Sm.new nt))) ((hw5.sm (Sm.new nt)).mono (by omega)) ?_
    exact .tup upd_same (.cons (.str _) (.one (.int _)))
  · refine ⟨_, rfl, (by show 0 ≤ sizeLine; decide), fun p np => ?_⟩
    have sp : Sm H4 (upd H4 p (.lst [])) := Sm.new np
    refine ⟨.list (nums ps), .list [], (rp (Gw.of sp)).all, .lst trivial upd_same .nil, nums_eqOk _, nums_eqOk [], _, rfl, ?_⟩
    rw [show PyData.eqv (.list (nums ps)) (.list []) = decide (ps = []) by rw [PyData.eqv]; exact eqv_nums ps []]
    refine ite2 (fun hps => ?_) (fun _ => iteF ⟨rfl, sp⟩)
    refine ⟨_, rfl, _, _, rfl, rfl, _, rfl, ite2 (fun _ => ?_) (fun _ => ⟨rfl, sp⟩)⟩
    refine ⟨_, rfl, rfl, _, rfl, ite2 (fun z => absurd z h0) (fun _ => ?_)⟩
    generalize upd H4 p (.lst []) = H5 at sp
    refine ⟨_, rfl, (by show 3 ≤ sizeLine; decide), fun p2 np2 => ?_⟩
    have npw : p2 ≠ wa := (hw4.sm sp).ne np2
    refine ⟨wa, n + 1, Ne wa, .ref p2, .list fgh, rfl, oNe, (hw4.sm sp).sm (Sm.new np2), by omega, .lst npw upd_same (.cons (.str _) (.cons (.str _) (.one (.str _)))), rfl, (fun z => by cases z), (by show 3 ≤ lim; decide), fun e he u H6 g6 hw6 ru => ?_⟩
    obtain ⟨nm, rfl, hnm⟩ := fgh_ok e he
    cases ru.str_inv
    refine ⟨(by show 0 ≤ sizeLine; decide), fun t0 nt0 => ⟨(by show 3 ≤ sizeLine; decide), fun t nt => ?_⟩⟩
    have s0 := (Sm.new (o := .tup []) nt0)
    refine fin (.made nm []) _ _ ⟨hnm, by show 0 ≤ lim; decide⟩ ⟨by show 0 ≤ 3; decide, (fun _ h => nomatch h)⟩ (why_parts (n := nm) (ks := []) (fun _ h => nomatch h)).1 ((((Gw.of sp).trans (Gw.of (Sm.new np2))).trans g6).trans (Gw.of (s0.trans (Sm.new nt)))) ((hw6.sm (s0.trans (Sm.new nt))).mono (by omega)) ?_
    exact .tup upd_same (.cons (.str _) (.cons (.str _) (.one (.tup ((Sm.new nt) _ _ upd_same) .nil))))
  rintro σ' H' ⟨rfl, s4⟩
  have hw4' := hw4.sm s4
  -- if way == 8 and tests != [] and len(parts) > 1
  refine ⟨fun σ' H5 => σ' = [some (.ref wa), some (.ref a), some (.ref l1), some (.ref D), some (.int (way : Nat)), none, none, none, none, none] ∧ Sm H' H5, ⟨_, rfl, rfl, _, rfl, ite2 (fun _ => ?_) (fun _ => iteF ⟨rfl, Sm.rfl'⟩)⟩, ?_⟩
  · refine ⟨_, rfl, (by show 0 ≤ sizeLine; decide), fun p np => ?_⟩
    have sp : Sm H' (upd H' p (.lst [])) := Sm.new np
    refine ⟨.list (nums as), .list [], (ra (Gw.of (s4.trans sp))).all, .lst trivial upd_same .nil, nums_eqOk _, nums_eqOk [], _, rfl, ?_⟩
    rw [show PyData.eqv (.list (nums as)) (.list []) = decide (as = []) by rw [PyData.eqv]; exact eqv_nums as []]
    refine ite2 (fun ha => ?_) (fun _ => iteF ⟨rfl, sp⟩)
    have has : as ≠ [] := by
      intro z
      rw [z] at ha
      exact absurd ha (by decide)
    generalize upd H' p (.lst []) = H5 at sp
    refine ⟨_, rfl, .ref l1, _, rfl, (rp (Gw.of (s4.trans sp))).all, rfl, ?_⟩
    rw [lps]
    refine ⟨_, _, rfl, rfl, _, rfl, ite2 (fun h2 => ?_) (fun _ => ⟨rfl, sp⟩)⟩
    have hp2 : 2 ≤ ps.length := by
      have := of_decide_eq_true h2
      omega
    -- both
    have hw5 := hw4'.sm sp
    refine ⟨_, rfl, _, rfl, wa, n + 1, Ne wa, .ref l1, .list (nums ps), rfl, oNe, hw5, by omega, rp (Gw.of (s4.trans sp)), rfl, by rw [lps]; omega, fun l2 ys es H6 nl2 pm g6 hw6 el6 ry => ?_⟩
    have nl2w : l2 ≠ wa := hw5.ne nl2
    have g6' := (Gw.of (s4.trans sp)).trans g6
    rw [lps] at hw6
    refine ⟨_, rfl, .list es, .lst nl2w el6 ry, rfl, fun v7 H7 s7 r7 => ?_⟩
    have ces : cutA es none (some 2) = es.take 2 := cutA_to es 2
    rw [show its (.list es) = es from rfl, ces] at r7
    have les : es.length = ps.length := by rw [pm.length_eq]; simp [its, nums]
    match hes : es, les with
    | [], e => simp at e; omega
    | [_], e => simp at e; omega
    | e0 :: e1 :: rest, _ =>
    have hnd : (e0 :: e1 :: rest).Nodup := (pm.nodup_iff).mpr (nums_nd pnd)
    have m0 : e0 ∈ nums ps := pm.mem_iff.mp (List.mem_cons_self ..)
    have m1 : e1 ∈ nums ps := pm.mem_iff.mp (List.mem_cons_of_mem _ (List.mem_cons_self ..))
    obtain ⟨k0, hk0, rfl⟩ := List.mem_map.mp m0
    obtain ⟨k1, hk1, rfl⟩ := List.mem_map.mp m1
    have hk01 : k0 ≠ k1 := fun z => by
      rw [z] at hnd
      exact (List.nodup_cons.mp hnd).1 (List.mem_cons_self ..)
    have hw7 := hw6.sm s7
    have g7 := g6'.trans (Gw.of s7)
    have r7' : Dr (Ne wa) H7 v7 (.list [.int (k0 : Int), .int (k1 : Int)]) := r7.wide fun b z => z.elim id fun y => hw6.ne y
    -- ('either', _law_pick(well, tests), both[0], both[1])
    refine ⟨_, rfl, _, rfl, wa, _, Ne wa, .ref D, .list (nums as), rfl, oNe, hw7, by omega, ra g7, rfl, (fun z => has (by cases as with | nil => rfl | cons _ _ => cases z)), by rw [las]; omega, fun e he u H8 g8 hw8 ru => ?_⟩
    obtain ⟨ka, hka, rfl⟩ := List.mem_map.mp he
    cases ru.int_inv
    have r8 : Dr (Ne wa) H8 v7 (.list [.int (k0 : Int), .int (k1 : Int)]) := r7'.gn oNe hw7 g8
    refine ⟨_, rfl, _, 0, _, r8.all, rfl, rfl, rfl, fun x0 r0 => ?_⟩
    cases r0.int_inv
    refine ⟨_, rfl, _, 1, _, r8.all, rfl, rfl, rfl, fun x1 r1 => ?_⟩
    cases r1.int_inv
    refine ⟨(by show 4 ≤ sizeLine; decide), fun t nt => ?_⟩
    refine fin (.either ka k0 k1) _ _ trivial ⟨by have := (aok ka hka).2; omega, by have := (pok k0 hk0).2; omega, by have := (pok k1 hk1).2; omega⟩ (why_either (aok ka hka) (pok k0 hk0) (pok k1 hk1) hk01) ((g7.trans g8).trans (Gw.of (Sm.new nt))) ((hw8.sm (Sm.new nt)).mono (by omega)) ?_
    exact .tup upd_same (.cons (.str _) (.cons (.int _) (.cons (.int _) (.one (.int _)))))
  rintro σ' H5 ⟨rfl, s5⟩
  have hw5 := hw4'.sm s5
  have s45 := s4.trans s5
  -- some
  refine ⟨_, rfl, (by show 0 ≤ sizeLine; decide), fun p2 np2 => ?_⟩
  have sp2 : Sm H5 (upd H5 p2 (.lst [])) := Sm.new np2
  refine ⟨.list (nums ps), .list [], (rp (Gw.of (s45.trans sp2))).all, .lst trivial upd_same .nil, nums_eqOk _, nums_eqOk [], _, rfl, ?_⟩
  rw [show PyData.eqv (.list (nums ps)) (.list []) = decide (ps = []) by rw [PyData.eqv]; exact eqv_nums ps []]
  generalize upd H5 p2 (.lst []) = H7 at sp2
  have hw7 := hw5.sm sp2
  have g7 : Gw wa H4 H7 := Gw.of (s45.trans sp2)
  refine if_draw (m := 4) rfl hw7 (by decide) (by decide) (by omega) fun many H8 hmany g8' hw8 => ?_
  have g8 := g7.trans g8'
  have hm4 : many ≤ 3 := by rcases hmany with z | z <;> omega
  refine ⟨_, rfl, by omega, by omega, fun D8 nD8 => ?_⟩
  rw [Int.toNat_natCast]
  refine lc_w (c := 1) (n := n + 1 + 1) (N := No) (fun _ e => ∃ k : Nat, e = .int (k : Int) ∧ k ∈ ps) (WalkW.range (w := wa) (N := No) (lo := 0)) nD8 hw8 (fun b z => z.elim) (by simp; omega) (fun _ => rfl) (fun x d' j H9 Q' hd' g9 hw9 rx q' _ => ?_) (fun H9 ys es g9 hw9 eD9 ry al => ?_)
  · have hj : j < many := by
      have := (List.getElem?_eq_some_iff.mp hd').1
      simpa using this
    have hps : ps ≠ [] := by
      rcases hmany with z | z
      · omega
      · intro y
        have := z.1
        rw [y] at this
        exact absurd this (by decide)
    refine ⟨_, rfl, _, rfl, wa, _, Ne wa, .ref l1, .list (nums ps), rfl, oNe, hw9, by omega, rp (g8.trans g9), rfl, (fun z => hps (by cases ps with | nil => rfl | cons _ _ => cases z)), by rw [lps]; omega, fun e he u H10 g10 hw10 ru => ?_⟩
    obtain ⟨k, hk, rfl⟩ := List.mem_map.mp he
    cases ru.int_inv
    exact q' _ (.int (k : Int)) _ g10 (by rw [Nat.one_mul] at hw10 ⊢; exact hw10) (.int _) ⟨k, rfl, hk⟩
  obtain ⟨ks, rfl, hks⟩ := nums_back (p := fun k => k ∈ ps) (es := es) fun e he => by
    obtain ⟨_, _, h⟩ := al.mem e he
    exact h
  have lks : ks.length = many := by
    have := al.len
    simpa [nums] using this
  have lr : ((List.range many).map fun (k : Nat) => PyData.int (0 + (k : Int))).length = many := by simp
  rw [lr, Nat.one_mul] at hw9
  refine ⟨_, .list (nums ks), rfl, .lst trivial eD9 ry.all, rfl, fun u H10 s10 r10 => ?_⟩
  have r10' : Dr No H10 u (.tuple (nums ks)) := r10.fz (by simp only [WR.fz]; exact fz_nums ks)
  have hw10 := hw9.sm s10
  have g10 := (g8.trans g9).trans (Gw.of s10)
  have lk : ks.length ≤ lim := by omega
  have sm3 : ks.length ≤ 3 ∧ ∀ k ∈ ks, k ≤ 100 := ⟨by omega, fun k hk => by have := (pok k (hks k hk)).2; omega⟩
  refine ⟨_, rfl, rfl, _, rfl, ite2 (fun _ => ?_) (fun _ => ?_)⟩
  · refine ⟨_, rfl, (by show 3 ≤ sizeLine; decide), fun p np => ?_⟩
    have npw : p ≠ wa := hw10.ne np
    refine ⟨wa, _, Ne wa, .ref p, .list ftu, rfl, oNe, hw10.sm (Sm.new np), by omega, .lst npw upd_same (.cons (.str _) (.cons (.str _) (.one (.str _)))), rfl, (fun z => by cases z), (by show 3 ≤ lim; decide), fun e he u' H11 g11 hw11 ru => ?_⟩
    obtain ⟨nm, rfl, hnm⟩ := ftu_ok e he
    cases ru.str_inv
    have g1011 : Gw wa H10 H11 := (Gw.of (Sm.new np)).trans g11
    refine ⟨_, rfl, (by show 3 ≤ sizeLine; decide), fun t nt => ?_⟩
    refine fin (.asked nm ks) _ _ ⟨hnm, lk⟩ sm3 (why_parts (n := nm) fun k hk => pok k (hks k hk)).2 ((g10.trans g1011).trans (Gw.of (Sm.new nt))) ((hw11.sm (Sm.new nt)).mono (by omega)) ?_
    exact .tup upd_same (.cons (.str _) (.cons (.str _) (.one ((r10'.gn (fun _ z => z.elim) hw10 g1011).sm (Sm.new nt)))))
  · refine ⟨_, rfl, (by show 3 ≤ sizeLine; decide), fun p np => ?_⟩
    have npw : p ≠ wa := hw10.ne np
    refine ⟨wa, _, Ne wa, .ref p, .list fgh, rfl, oNe, hw10.sm (Sm.new np), by omega, .lst npw upd_same (.cons (.str _) (.cons (.str _) (.one (.str _)))), rfl, (fun z => by cases z), (by show 3 ≤ lim; decide), fun e he u' H11 g11 hw11 ru => ?_⟩
    obtain ⟨nm, rfl, hnm⟩ := fgh_ok e he
    cases ru.str_inv
    have g1011 : Gw wa H10 H11 := (Gw.of (Sm.new np)).trans g11
    refine ⟨_, rfl, (by show 3 ≤ sizeLine; decide), fun t nt => ?_⟩
    refine fin (.made nm ks) _ _ ⟨hnm, lk⟩ sm3 (why_parts (n := nm) fun k hk => pok k (hks k hk)).1 ((g10.trans g1011).trans (Gw.of (Sm.new nt))) ((hw11.sm (Sm.new nt)).mono (by omega)) ?_
    exact .tup upd_same (.cons (.str _) (.cons (.str _) (.one ((r10'.gn (fun _ z => z.elim) hw10 g1011).sm (Sm.new nt)))))
end
end K8

/-! _law_p_once, _law_p_loose. -/
namespace K8
open PySem PySem.Spec PyProof.Rows L2 WR
/-! ### each once -/
def onceS (fs : List Nat) (k : Nat) : List Nat := if k ∈ fs then fs else fs ++ [k]
def once (ks : List Nat) : List Nat := ks.foldl onceS []
theorem once_snoc (ks : List Nat) (k : Nat) : once (ks ++ [k]) = onceS (once ks) k := by
  unfold once
  rw [List.foldl_append]
  rfl
theorem once_take (ks : List Nat) : ∀ m, m ≤ ks.length → (once (ks.take m)).length ≤ m ∧ (∀ k, k ∈ once (ks.take m) ↔ k ∈ ks.take m) ∧ ((once (ks.take m)).length = m → (ks.take m).Nodup)
  | 0, _ => by
    rw [List.take_zero]
    exact ⟨Nat.le_refl _, fun _ => Iff.rfl, fun _ => List.nodup_nil⟩
  | m + 1, h => by
    obtain ⟨h1, h2, h3⟩ := once_take ks m (by omega)
    have et : ks.take (m + 1) = ks.take m ++ [ks[m]] := by rw [List.take_add_one, List.getElem?_eq_getElem h]; rfl
    rw [et, once_snoc]
    unfold onceS
    by_cases hm : ks[m] ∈ once (ks.take m)
    · rw [if_pos hm]
      refine ⟨by omega, fun k => ?_, fun z => by omega⟩
      rw [h2, List.mem_append, List.mem_singleton]
      refine ⟨.inl, fun z => z.elim id fun y => ?_⟩
      rw [y]
      exact (h2 _).mp hm
    · rw [if_neg hm]
      refine ⟨by simp; omega, fun k => ?_, fun z => ?_⟩
      · rw [List.mem_append, List.mem_append, h2]
      · refine List.nodup_append.mpr ⟨h3 (by simpa using z), by simp, fun x hx y hy => ?_⟩
        rw [List.mem_singleton.mp hy]
        exact fun e => hm ((h2 _).mpr (e ▸ hx))
theorem once_nodup {ks : List Nat} (h : (once ks).length = ks.length) : ks.Nodup := by
  have := (once_take ks ks.length (Nat.le_refl _)).2.2
  rw [List.take_length] at this
  exact this h
theorem once_le (ks : List Nat) : (once ks).length ≤ ks.length := by
  have := (once_take ks ks.length (Nat.le_refl _)).1
  rwa [List.take_length] at this
theorem nums_any (ks : List Nat) (k : Nat) : ((nums ks).any fun z => PyData.eqv z (.int (k : Int))) = decide (k ∈ ks) := by
  induction ks with
  | nil => simp [nums]
  | cons j ks ih =>
    rw [show nums (j :: ks) = .int (j : Int) :: nums ks from rfl, List.any_cons, ih, PyData.eqv, Bool.eq_iff_iff]
    simp only [Bool.or_eq_true, beq_iff_eq, decide_eq_true_eq, List.mem_cons]
    exact or_congr ⟨fun z => by omega, fun z => by omega⟩ Iff.rfl
abbrev spOnce : Sp := fun vs H Q _ => ∃ (a : Addr) (ks : List Nat), vs = [.ref a] ∧ H a = some (.lst (vN ks)) ∧ ks.length ≤ lim ∧ ∀ (l : Addr) H', Sm H H' → H' l = some (.lst (vN (once ks))) → Q (.ref l) H'
section
variable {P : Program} {w : World} {K : PySem.W.Frag} {mg : Str → Option Value} {base : Heap}
theorem sc__law_p_once : FnScope ["some", "found", "one"] ["some"] (defScope s_law_p_once) := ⟨rfl, rfl, rfl, by decide +kernel, rfl, by decide +kernel, by decide +kernel⟩
theorem ok__law_p_once (B : Bt mg) (F : Fn K mg d_law_p_once) : Df P w K mg base CX0 1 "_law_p_once" ["some"] spOnce := by
  obtain ⟨f, fd, hm, F⟩ := F
  refine ⟨f, fd, hm, F.kp, F.bindsN fun _ _ _ _ _ _ us hl => match us, hl with | [_], _ => rfl, ?_⟩
  refine F.ok sc__law_p_once (fun vs H Q E h => by obtain ⟨a, ks, rfl, _⟩ := h; rfl) (fun cdv A outer s H vs Q E hr h => ?_)
  obtain ⟨a, ks, rfl, ea, hl, q⟩ := h
  have hu := hr.un
  have hu65 : (A.deeper (envOfC d_law_p_once.qual d_law_p_once.scope s.heap.objs.size f cdv)).units + 65 < cLine := by omega
  refine ⟨_, PSs.nox (pss_cons (ps_set (i := 1) sc__law_p_once.nd rfl (by first | exact Or.inl rfl | exact Or.inr rfl) (pe_lst pa_nil))
      (pss_cons (ps_for PassesOwn.never rfl (pi_seq (pv 0)) (pg_name (i := 2) sc__law_p_once.nd rfl (by first | exact Or.inl rfl | exact Or.inr rfl)) (pss_one (ps_expr (pe_bm PySem.F.plainAttrs_list PySem.F.slot_list_extend PySem.F.type_list_extend mt_extend (pv 1) (pa_cons (pe_ifExp (pt_cmpR (op_notInDr hu65) (pv 2) (pv 1) (by rfl)) (pe_lst (pa_cons (pv 2) pa_nil)) (pe_lst pa_nil)) pa_nil)))))
      (pss_one (ps_ret (pv 1))))), ?_⟩
  have hsl := lim_lt
  refine ⟨(by show 0 ≤ sizeLine; decide), fun l nl => ?_⟩
  have s0 := Sm.new (o := .lst []) nl
  refine ⟨_, rfl, a, vN ks, rfl, .inl (s0 _ _ ea), fun J hJ => for_seq hJ (fun i σ3 H3 => ∃ x2, σ3 = [some (.ref a), some (.ref l), x2] ∧ Sm H H3 ∧ H3 l = some (.lst (vN (once (ks.take i))))) ?_ ?_ ?_ ?_⟩
  · exact ⟨_, rfl, s0, upd_same⟩
  · rintro i σ3 H3 _ ⟨_, _, fr, _⟩
    rw [fr _ _ ea, s0 _ _ ea]
  · rintro i x σ3 H3 hx ⟨x2, rfl, fr, el⟩
    rw [List.getElem?_map] at hx
    obtain ⟨k, hk, rfl⟩ := Option.map_eq_some_iff.mp hx
    obtain ⟨hi, ek⟩ := List.getElem?_eq_some_iff.mp hk
    have lo := (once_take ks i (by omega)).1
    have et : ks.take (i + 1) = ks.take i ++ [k] := by rw [List.take_add_one, hk]; rfl
    refine ⟨_, rfl, .inl ⟨rfl, _, SqL.of el⟩, ?_⟩
    refine ⟨_, rfl, _, rfl, .int (k : Int), nums (once (ks.take i)), .int _, .lst trivial el (vints_dr _), ⟨rfl, by simp [PyData.depth]⟩, nums_eqOk _, _, rfl, ?_⟩
    rw [if_neg Bool.false_ne_true, nums_any]
    refine ite2 (fun hn => ?_) (fun hn => ?_)
    · have hnm : k ∉ once (ks.take i) := fun z => by
        rw [decide_eq_true z] at hn
        cases hn
      refine ⟨_, rfl, (by show 1 ≤ sizeLine; decide), fun p np => ?_⟩
      have sp : Sm H3 (upd H3 p (.lst [.int (k : Nat)])) := Sm.new np
      refine ⟨l, p, _, [.int (k : Nat)], rfl, rfl, sp _ _ el, upd_same, by simp [vN]; omega, ?_⟩
      refine ⟨_, rfl, fun b o z => ?_, ?_⟩
      · rw [upd_ne (ne_of_none z nl)]
        exact sp _ _ (fr b o z)
      · rw [upd_same, et, once_snoc]
        unfold onceS
        rw [if_neg hnm]
        simp [vN]
    · have hm' : k ∈ once (ks.take i) := by
        by_cases z : k ∈ once (ks.take i)
        · exact z
        · rw [decide_eq_false z] at hn
          exact absurd rfl hn
      refine ⟨(by show 0 ≤ sizeLine; decide), fun p np => ?_⟩
      have sp : Sm H3 (upd H3 p (.lst [])) := Sm.new np
      refine ⟨l, p, _, [], rfl, rfl, sp _ _ el, upd_same, by simp [vN]; omega, ?_⟩
      refine ⟨_, rfl, fun b o z => ?_, ?_⟩
      · rw [upd_ne (ne_of_none z nl)]
        exact sp _ _ (fr b o z)
      · rw [upd_same, et, once_snoc]
        unfold onceS
        rw [if_pos hm', List.append_nil]
  · rintro σ3 H3 ⟨x2, rfl, fr, el⟩
    rw [show (vN ks).length = ks.length by simp [vN], List.take_length] at el
    exact ⟨_, rfl, q l H3 fr el⟩
/-! ### lists for tuples -/
theorem noDict_at : ∀ {ds : List PyData} {j : Nat} {d : PyData}, PyData.hasDictAll ds = false → ds[j]? = some d → d.hasDict = false
  | [], j, d, _, e => by simp at e
  | x :: xs, 0, d, h, e => by
    simp only [PyData.hasDictAll, Bool.or_eq_false_iff] at h
    simp at e
    rw [← e]
    exact h.1
  | x :: xs, j + 1, d, h, e => by
    simp only [PyData.hasDictAll, Bool.or_eq_false_iff] at h
    exact noDict_at h.2 (by simpa using e)
def spPLoose : Nat → Sp
  | 0 => fun _ _ _ _ => False
  | n + 1 => fun vs H Q _ => ∃ (w : Addr) (m : Nat) (N : Addr → Prop) (v : V) (d : PyData), vs = [.ref w, v] ∧ Off w N ∧ Wl H w m ∧ m + 41 ^ n + 5000 < top0 ∧ Dr N H v d ∧ tame true d n = true ∧ d.hasDict = false ∧
    ∀ u e H', Gw w H H' → Wl H' w (m + 41 ^ n) → Dr (NwA H) H' u e → Lo d e → Q u H'
theorem sc__law_p_loose : FnScope ["stream", "thing", "found", "part"] ["stream", "thing"] (defScope s_law_p_loose) := ⟨rfl, rfl, rfl, by decide +kernel, rfl, by decide +kernel, by decide +kernel⟩
theorem ok__law_p_loose (B : Bt mg) (F0 : Fn K mg d_law_p_loose) (D2 : Df P w K mg base CX0 1 "_law_draw" ["well", "many"] spDraw) : ∀ n, Df P w K mg base CX0 (n + 2) "_law_p_loose" ["stream", "thing"] (spPLoose n)
  | 0 => (Df.off F0 fun f fd F => F.bindsN fun _ _ _ _ _ _ us hl => match us, hl with | [_, _], _ => rfl).mono (by decide)
  | n + 1 => by
    have D1 : Df P w K mg base CX0 (n + 2) "_law_p_loose" ["stream", "thing"] (spPLoose n) := ok__law_p_loose B F0 D2 n
    obtain ⟨f, fd, hm, F⟩ := F0
    refine ⟨f, fd, hm, F.kp, F.bindsN fun _ _ _ _ _ _ us hl => match us, hl with | [_, _], _ => rfl, ?_⟩
    refine F.ok sc__law_p_loose (fun vs H Q E h => by obtain ⟨w, n, N, v, d, rfl, _⟩ := h; rfl) (fun cdv A outer s H vs Q E hr h => ?_)
    obtain ⟨wa, m, N, v, d, rfl, oN, hw, hm, rd, ht, hnd, q⟩ := h
    have hr1 := hr.mono (show 1 ≤ n + 2 by omega)
    refine ⟨_, PSs.nox (pss_cons (ps_if (pt_not (pt_val (pe_callB (call_isD2 kit_list kit_tuple isL_or) (by rfl) B.isinstance (by decide +kernel) (pa_cons (pv 1) (pa_cons (pe_tup (pa_cons (pe_ty "list" B.list (by decide +kernel)) (pa_cons (pe_ty "tuple" B.tuple (by decide +kernel)) pa_nil))) pa_nil))))) (pss_one (ps_ret (pv 1))) pss_nil)
      (pss_cons (ps_setLc (i := 2) (own := [("part", 3)]) (g := gName 3) (tt := tYes) rfl sc__law_p_loose.nd rfl rfl (sw_true rfl rfl rfl (by decide +kernel)) (pi_seq (pv 1)) (blkOk_by (own := [("part", 3)]) (N := ["stream", "thing", "found", "part"]) (sc := defScope s_law_p_loose) (by decide +kernel)) (fun _ _ _ _ _ => pg_name (i := 3) sc__law_p_loose.nd rfl (by first | exact Or.inl rfl | exact Or.inr rfl)) (fun _ _ _ _ _ => pts_nil) (fun _ _ _ _ _ => (pe_df D1 hr pass0 (pa_cons (pv 0) (pa_cons (pv 3) pa_nil)))))
      (pss_one (ps_ret (pe_ifExp (pt_cmpR op_gt (pe_df D2 hr1 pass0 (pa_cons (pv 0) (pa_cons pe_int pa_nil))) pe_int (nomark _)) (pv 2) (pe_callTy (call_tupN (NwA H)) (by rfl) B.tuple (by decide +kernel) (pa_cons (pv 2) pa_nil))))))), ?_⟩
    have sz2 : ([V.ty "list", V.ty "tuple"] : List V).length ≤ sizeLine := by show 2 ≤ sizeLine; decide
    have htop : top0 = 1000000000000 := rfl
    have hd : ¬ isD d = true := fun z => by
      cases d with
      | dict ps => simp [PyData.hasDict] at hnd
      | _ => cases z
    refine ⟨_, rfl, sz2, fun p1 np1 => ⟨v, p1, d, rfl, upd_same, (rd.sm (Sm.new np1)).all, _, rfl, ?_⟩⟩
    have s1 : Sm H (upd H p1 (.tup [.ty "list", .ty "tuple"])) := Sm.new np1
    refine ite2 (fun z0 => ?_) (fun z0 => ?_)
    · have hl : isL d = false := by simpa using z0
      have hf : WR.fz d = true := by cases d <;> first | rfl | exact absurd rfl hd | cases hl
      refine ⟨_, rfl, q v d _ (Gw.of s1) ((hw.sm s1).mono (Nat.le_add_right _ _)) ((rd.sm s1).fz hf) (.same ?_)⟩
      cases d <;> first | rfl | exact absurd rfl hd | cases hl
    have hL : isL d = true := by simpa using z0
    generalize hH1 : upd H p1 (.tup [V.ty "list", V.ty "tuple"]) = H1 at s1
    obtain ⟨hn1, hlen, hA⟩ := tame_its ht hL
    have hndA : PyData.hasDictAll (its d) = false := by
      cases d with
      | list ds => simpa [PyData.hasDict, its] using hnd
      | tuple ds => simpa [PyData.hasDict, its] using hnd
      | _ => cases hL
    obtain ⟨k, rfl⟩ : ∃ k, n = k + 1 := ⟨n - 1, by omega⟩
    have hw1 := hw.sm s1
    have rd1 := (rd.sm s1).live
    have off1 : Off wa (fun a => N a ∧ H1 a ≠ none) := fun a h => oN a h.1
    obtain ⟨a, xs, rfl, hq, rs⟩ := rd1.seq hL
    have naw : a ≠ wa := fun z => by
      obtain ⟨a', b', c', e', _⟩ := hw1
      have : Dr (fun a => N a ∧ H1 a ≠ none) H1 (.ref a) d := rd1
      rcases hq with e | e
      · cases d with
        | list ds => cases rd1 with | lst no e2 _ => exact off1 a no (by assumption)
        | tuple ds => cases rd1 with | tup e2 _ => rw [e] at e2; cases e2
        | _ => cases hL
      · rw [z, e'] at e
        cases e
    have c1 : 1 ≤ 41 ^ k := Nat.one_le_pow _ _ (by decide)
    have c41 : 41 ^ (k + 1) = 41 ^ k * 41 := Nat.pow_succ ..
    rw [c41] at hm q
    generalize hc : 41 ^ k = c at hm q c1
    refine ⟨_, rfl, a, xs, rfl, hq, fun J hJ D nD => ?_⟩
    have nD0 : H D = none := s1.free nD
    have nDw := hw1.ne nD
    have off2 : Off wa (fun b => (No b ∨ H1 b = none) ∧ b ≠ D) := fun b h => by
      rcases h.1 with z | z
      · exact z.elim
      · exact hw1.ne z
    have mulle : ∀ j, j ≤ 40 → c * j ≤ c * 40 := fun j hj => Nat.mul_le_mul_left c hj
    refine lc_w (c := c) (n := m) (N := No) Lo (WalkW.seq hJ naw off1 hw1 rs) nD hw1 (fun _ z => z.elim) (by have : lim = 4000 := rfl; omega) (fun _ => rfl) (fun x d' j H2 Q' hd' g2 hw2 rx q' nD2 => ?_) (fun H2 ys es g2 hw2 eD ry al => ?_)
    · have hj : j < (its d).length := (List.getElem?_eq_some_iff.mp hd').1
      have := mulle j (by omega)
      have e1 : c * (j + 1) = c * j + c := Nat.mul_succ c j
      have := mulle (j + 1) (by omega)
      refine ⟨_, rfl, _, rfl, wa, m + c * j, _, x, d', rfl, off1, hw2, by rw [hc]; omega, rx, tameA_at hA hd', noDict_at hndA hd', fun u e H3 g3 hw3 r3 lo => ?_⟩
      rw [hc] at hw3
      refine q' u e H3 g3 (by rw [e1, ← Nat.add_assoc]; exact hw3) (r3.wide fun b z => ?_) lo
      exact ⟨.inr (g2.free hw2 z), fun y => nD2 (by rw [← y]; exact z)⟩
    · have := mulle (its d).length hlen
      have lo := al.lo
      refine ⟨_, rfl, wa, 3, m + c * (its d).length, rfl, by decide, by decide, hw2, by omega, fun kk H3 hk g3 hw3 => ⟨_, _, rfl, rfl, _, rfl, ?_⟩⟩
      have gD : Dr (NwA H) H3 (.ref D) (.list es) := .lst nD0 (g3 D _ nDw eD) ((ry.gn off2 hw2 g3).wide fun b z => z.1.elim (fun y => y.elim) (fun y => s1.free y))
      have gg : Gw wa H H3 := ((Gw.of s1).trans g2).trans g3
      have hw4 := hw3.mono (show m + c * (its d).length + 1 ≤ m + c * 41 by omega)
      refine ite2 (fun _ => ⟨_, rfl, q _ (.list es) H3 gg hw4 gD (.list hL lo)⟩) (fun _ => ⟨_, rfl, _, .list es, rfl, gD, rfl, fun u H4 s4 r4 => ?_⟩)
      exact q u (.tuple es) H4 (gg.trans (Gw.of s4)) (hw4.sm s4) r4 (.tuple hL lo)
end
end K8

/-! Expressions that yield data, whatever stands around: C the state, N where their lists and dicts may stand. -/
namespace K8
open PySem PySem.Spec PyProof.Rows L2 WR
structure Cy (N : Addr → Prop) (C : Hp → Prop) : Prop where
  sm : ∀ H H', Sm H H' → C H → C H'
  new : ∀ H p, C H → H p = none → N p
def Yd (N : Addr → Prop) (C : Hp → Prop) (σ : L2.St) (te : TE) (d : PyData) : Prop := ∀ H Q, C H → (∀ v H', Sm H H' → Dr N H' v d → Q v H') → te σ H Q
def Ya (N : Addr → Prop) (C : Hp → Prop) (σ : L2.St) (ta : TA) (ds : List PyData) : Prop := ∀ H Q, C H → (∀ vs H', Sm H H' → DrA N H' vs ds → Q vs H') → ta σ H Q
def Yo (C : Hp → Prop) (σ : L2.St) (to : TO) (o : Option Int) : Prop := ∀ H Q, C H → (∀ H', Sm H H' → Q o H') → to σ H Q
section
variable {N : Addr → Prop} {C : Hp → Prop} {σ : L2.St} {K : PySem.W.Frag} {te tb : TE} {ta : TA} {d e : PyData} {ds es : List PyData}
theorem Yd.int (i : Int) : Yd N C σ (tC (.int i)) (.int i) := fun H Q _ q => q _ _ Sm.rfl' (.int i)
theorem Yd.str (x : Str) : Yd N C σ (tC (.str x)) (.str x) := fun H Q _ q => q _ _ Sm.rfl' (.str x)
theorem Yd.bl (b : Bool) : Yd N C σ (tC (.bl b)) (.bool b) := fun H Q _ q => q _ _ Sm.rfl' (.bl b)
theorem Yd.non : Yd N C σ (tC .non) .none := fun H Q _ q => q _ _ Sm.rfl' .non
theorem Yd.var {i : Nat} {v : V} (h : σ[i]? = some (some v)) (r : ∀ H, C H → Dr N H v d) : Yd N C σ (tVar i) d := fun H Q c q => ⟨v, h, q v H Sm.rfl' (r H c)⟩
theorem Ya.nil : Ya N C σ tNil [] := fun H Q _ q => q _ _ Sm.rfl' .nil
theorem Ya.cons (Y : Cy N C) (a : Yd N C σ te d) (b : Ya N C σ ta ds) : Ya N C σ (tCons te ta) (d :: ds) :=
  fun H Q c q => a H _ c fun v H1 s1 r1 => b H1 _ (Y.sm _ _ s1 c) fun vs H2 s2 r2 => q (v :: vs) H2 (s1.trans s2) (.cons (r1.sm s2) r2)
theorem Ya.one (Y : Cy N C) (a : Yd N C σ te d) : Ya N C σ (tCons te tNil) [d] := .cons Y a .nil
theorem Yd.tup (hl : ds.length ≤ 100) (a : Ya N C σ ta ds) : Yd N C σ (tTup ta) (.tuple ds) := fun H Q c q => a H _ c fun vs H1 s1 r1 => by
  refine ⟨by rw [r1.length, sizeLine_eq]; omega, fun p np => q _ _ (s1.trans (Sm.new np)) ?_⟩
  exact .tup upd_same (r1.sm (Sm.new np))
theorem Yd.lst (Y : Cy N C) (hl : ds.length ≤ 100) (a : Ya N C σ ta ds) : Yd N C σ (tLst ta) (.list ds) := fun H Q c q => a H _ c fun vs H1 s1 r1 => by
  refine ⟨by rw [r1.length, sizeLine_eq]; omega, fun p np => q _ _ (s1.trans (Sm.new np)) ?_⟩
  exact .lst (Y.new _ _ (Y.sm _ _ s1 c) np) upd_same (r1.sm (Sm.new np))
theorem Yd.dict0 (Y : Cy N C) : Yd N C σ tDNewK (.dict []) := fun H Q c q p np => q _ _ (Sm.new np) (.dct (Y.new _ _ c np) upd_same .nil)
theorem Yd.ix {i : Int} (j : Nat) (a : Yd N C σ te d) (hL : isL d = true) (hi : i = (j : Int)) (he : (its d)[j]? = some e) : Yd N C σ (tOp (rIxN N) te (tC (.int i))) e :=
  fun H Q c q => a H _ c fun v H1 s1 r1 => ⟨d, j, e, r1, hL, by rw [hi], he, fun u ru => q u H1 s1 ru⟩
theorem Yd.ixv (Y : Cy N C) {i k : Nat} (a : Yd N C σ te d) (hL : isL d = true) (hi : σ[i]? = some (some (.int (k : Int)))) (he : (its d)[k]? = some e) : Yd N C σ (tOp (rIxN N) te (tVar i)) e :=
  fun H Q c q => a H _ c fun v H1 s1 r1 => ⟨_, hi, d, k, e, r1, hL, rfl, he, fun u ru => q u H1 s1 ru⟩
theorem Yo.no : Yo C σ tNoPart none := fun H Q _ q => q H Sm.rfl'
theorem Yo.int (i : Int) : Yo C σ (tPart (tC (.int i))) (some i) := fun H Q _ q => ⟨i, rfl, q H Sm.rfl'⟩
theorem Yo.var {j : Nat} {i : Int} (h : σ[j]? = some (some (.int i))) : Yo C σ (tPart (tVar j)) (some i) := fun H Q _ q => ⟨_, h, i, rfl, q H Sm.rfl'⟩
theorem Yo.add1 {j : Nat} {i : Int} (h : σ[j]? = some (some (.int i))) : Yo C σ (tPart (tOp (rI0 fun i j => .int (i + j)) (tVar j) (tC (.int 1)))) (some (i + 1)) := fun H Q _ q => ⟨_, h, _, _, rfl, rfl, _, rfl, q H Sm.rfl'⟩
theorem Yd.sl (Y : Cy N C) {tl th : TO} {lo hi : Option Int} (a : Yd N C σ te d) (hL : isL d = true) (hl : Yo C σ tl lo) (hh : Yo C σ th hi) : Yd N C σ (tSl (rSlN N) te tl th) (likeD d (cutA (its d) lo hi)) :=
  fun H Q c q => a H _ c fun v H1 s1 r1 => hl H1 _ (Y.sm _ _ s1 c) fun H2 s2 => hh H2 _ (Y.sm _ _ (s1.trans s2) c) fun H3 s3 =>
    have c3 := Y.sm _ _ ((s1.trans s2).trans s3) c
    ⟨d, (r1.sm s2).sm s3, hL, fun u H4 s4 r4 => q u H4 (((s1.trans s2).trans s3).trans s4) (r4.wide fun b z => z.elim id fun y => Y.new _ _ c3 y)⟩
theorem Yd.listOf (Y : Cy N C) (a : Yd N C σ te d) (hL : isL d = true) : Yd N C σ (tCB (fun xs H Q => ∃ v d, xs = [v] ∧ Dr N H v d ∧ isL d = true ∧ ∀ l ys, H l = none → DrA N H ys (its d) → Q (.ref l) (upd H l (.lst ys))) (tCons te tNil)) (.list (its d)) :=
  fun H Q c q => a H _ c fun v H1 s1 r1 => ⟨v, d, rfl, r1, hL, fun l ys nl ry => q _ _ (s1.trans (Sm.new nl)) (.lst (Y.new _ _ (Y.sm _ _ s1 c) nl) upd_same (ry.sm (Sm.new nl)))⟩
theorem Yd.catT (Y : Cy N C) (a : Yd N C σ te (.tuple ds)) (b : Yd N C σ tb (.tuple es)) (hl : ds.length + es.length ≤ 1000) : Yd N C σ (tOp (rCatA K) te tb) (.tuple (ds ++ es)) :=
  fun H Q c q => a H _ c fun v H1 s1 r1 => b H1 _ (Y.sm _ _ s1 c) fun u H2 s2 r2 => by
    have r1' := r1.sm s2
    cases r1' with
    | tup e1 a1 =>
    cases r2 with
    | tup e2 a2 =>
    have l1 := a1.length
    have l2 := a2.length
    refine ⟨_, _, _, _, rfl, rfl, SqT.of e1, SqT.of e2, by rw [sizeLine_eq]; omega, fun z => ?_, fun z y => ?_, fun z y p np => ?_⟩
    · refine q _ _ (s1.trans s2) ?_
      rw [z] at l1
      have : ds = [] := List.length_eq_zero_iff.mp l1.symm
      subst this
      exact .tup e2 a2
    · refine q _ _ (s1.trans s2) ?_
      rw [y] at l2
      have : es = [] := List.length_eq_zero_iff.mp l2.symm
      subst this
      rw [List.append_nil]
      exact .tup e1 a1
    · exact q _ _ ((s1.trans s2).trans (Sm.new np)) (.tup upd_same ((a1.append a2).sm (Sm.new np)))
theorem Yd.catL (Y : Cy N C) (a : Yd N C σ te (.list ds)) (b : Yd N C σ tb (.list es)) (hl : ds.length + es.length ≤ 1000) : Yd N C σ (tOp rCat te tb) (.list (ds ++ es)) :=
  fun H Q c q => a H _ c fun v H1 s1 r1 => b H1 _ (Y.sm _ _ s1 c) fun u H2 s2 r2 => by
    have c2 := Y.sm _ _ (s1.trans s2) c
    have r1' := r1.sm s2
    cases r1' with
    | lst _ e1 a1 =>
    cases r2 with
    | lst _ e2 a2 =>
    have l1 := a1.length
    have l2 := a2.length
    refine ⟨_, _, _, _, rfl, rfl, e1, e2, by rw [sizeLine_eq]; omega, fun p np => ?_⟩
    exact q _ _ ((s1.trans s2).trans (Sm.new np)) (.lst (Y.new _ _ c2 np) upd_same ((a1.append a2).sm (Sm.new np)))
/-- one side of an if-expression -/
theorem Yd.ifE (Y : Cy N C) {tt : TT} (b : Bool) (ht : ∀ H Q, C H → (∀ H', Sm H H' → Q b H') → tt σ H Q) (a1 : b = true → Yd N C σ te d) (a2 : b = false → Yd N C σ tb d) : Yd N C σ (tIf tt te tb) d :=
  fun H Q c q => ht H _ c fun H1 s1 => by
    have c1 := Y.sm _ _ s1 c
    cases b with
    | true => exact (iteT (a1 rfl H1 _ c1 fun v H2 s2 r2 => q v H2 (s1.trans s2) r2))
    | false => exact (iteF (a2 rfl H1 _ c1 fun v H2 s2 r2 => q v H2 (s1.trans s2) r2))
/-- row[0] == word -/
theorem Yd.wordIs {r : Row} {x : Str} (a : Yd N C σ te r.d) : ∀ H Q, C H → (∀ H', Sm H H' → Q (decide (V.str r.word = V.str x)) H') → tTest (tOp rEq (tOp (rIxN N) te (tC (.int 0))) (tC (.str x))) σ H Q := fun H Q c q => by
  refine a H _ c fun v H1 s1 r1 => ⟨_, 0, _, r1, Row.seqD r, rfl, Row.word_at r, fun u ru => ?_⟩
  cases ru.str_inv
  exact ⟨rfl, _, rfl, q H1 s1⟩
end
end K8
namespace K8
open PySem PySem.Spec PyProof.Rows L2 WR
theorem Yd.toFz {N N' : Addr → Prop} {C : Hp → Prop} {σ : L2.St} {te : TE} {d : PyData} (a : Yd N' C σ te d) (h : fz d = true) : Yd N C σ te d := fun H Q c q => a H Q c fun v H' s r => q v H' s (r.fz h)
theorem Yd.listFz {N N' : Addr → Prop} {C : Hp → Prop} {σ : L2.St} {te : TE} {d : PyData} (Y : Cy N C) (a : Yd N' C σ te d) (hL : isL d = true) (hf : fzA (its d) = true) :
    Yd N C σ (tCB (fun xs H Q => ∃ v d, xs = [v] ∧ Dr N' H v d ∧ isL d = true ∧ ∀ l ys, H l = none → DrA N' H ys (its d) → Q (.ref l) (upd H l (.lst ys))) (tCons te tNil)) (.list (its d)) :=
  fun H Q c q => a H _ c fun v H1 s1 r1 => ⟨v, d, rfl, r1, hL, fun l ys nl ry => q _ _ (s1.trans (Sm.new nl)) (.lst (Y.new _ _ (Y.sm _ _ s1 c) nl) upd_same ((ry.fz hf).sm (Sm.new nl)))⟩
/-! ### tame -/
mutual
theorem tame_mono {b : Bool} : ∀ {d : PyData} {n m : Nat}, n ≤ m → tame b d n = true → tame b d m = true
  | .list xs, n, m, h, t => by
    simp only [tame, Bool.and_eq_true, decide_eq_true_eq] at t ⊢
    exact ⟨⟨by omega, Nat.le_trans t.1.2 (cap_mono h)⟩, tameA_mono (by omega) t.2⟩
  | .tuple xs, n, m, h, t => by
    simp only [tame, Bool.and_eq_true, decide_eq_true_eq] at t ⊢
    exact ⟨⟨by omega, Nat.le_trans t.1.2 (cap_mono h)⟩, tameA_mono (by omega) t.2⟩
  | .dict ps, n, m, h, t => by
    simp only [tame, Bool.and_eq_true, decide_eq_true_eq] at t ⊢
    exact ⟨by omega, t.2⟩
  | .str x, n, m, h, t => by simpa only [tame] using t
  | .int i, n, m, h, t => by simpa only [tame] using t
  | .bool _, n, m, h, t => by simp only [tame]
  | .none, n, m, h, t => by simp only [tame]
theorem tameA_mono {b : Bool} : ∀ {ds : List PyData} {n m : Nat}, n ≤ m → tameA b ds n = true → tameA b ds m = true
  | [], _, _, _, _ => rfl
  | d :: ds, n, m, h, t => by
    simp only [tameA, Bool.and_eq_true] at t ⊢
    exact ⟨tame_mono h t.1, tameA_mono h t.2⟩
end
mutual
theorem tame_wk : ∀ {d : PyData} {n : Nat}, tame false d n = true → tame true d n = true
  | .list xs, n, t => by
    simp only [tame, Bool.and_eq_true, decide_eq_true_eq] at t ⊢
    exact ⟨t.1, tameA_wk t.2⟩
  | .tuple xs, n, t => by
    simp only [tame, Bool.and_eq_true, decide_eq_true_eq] at t ⊢
    exact ⟨t.1, tameA_wk t.2⟩
  | .dict ps, n, t => by
    simp only [tame, Bool.and_eq_true, decide_eq_true_eq, Bool.false_and, Bool.or_false] at t ⊢
    exact ⟨t.1, by rw [t.2]; rfl⟩
  | .str x, n, t => by simpa only [tame] using t
  | .int i, n, t => by simpa only [tame] using t
  | .bool _, n, t => by simp only [tame]
  | .none, n, t => by simp only [tame]
theorem tameA_wk : ∀ {ds : List PyData} {n : Nat}, tameA false ds n = true → tameA true ds n = true
  | [], _, _ => rfl
  | d :: ds, n, t => by
    simp only [tameA, Bool.and_eq_true] at t ⊢
    exact ⟨tame_wk t.1, tameA_wk t.2⟩
end
theorem tameA_of {b : Bool} {n : Nat} : ∀ {ds : List PyData}, (∀ d ∈ ds, tame b d n = true) → tameA b ds n = true
  | [], _ => rfl
  | d :: ds, h => by
    simp only [tameA, Bool.and_eq_true]
    exact ⟨h d (List.mem_cons_self ..), tameA_of fun e he => h e (List.mem_cons_of_mem _ he)⟩
theorem tameA_mem {b : Bool} {n : Nat} {ds : List PyData} (h : tameA b ds n = true) {d : PyData} (hd : d ∈ ds) : tame b d n = true := by
  obtain ⟨i, e⟩ := List.getElem?_of_mem hd
  exact tameA_at h e
theorem tameA_app {b : Bool} {n : Nat} {ds es : List PyData} (h1 : tameA b ds n = true) (h2 : tameA b es n = true) : tameA b (ds ++ es) n = true :=
  tameA_of fun d hd => (List.mem_append.mp hd).elim (tameA_mem h1) (tameA_mem h2)
theorem tameA_take {b : Bool} {n k : Nat} {ds : List PyData} (h : tameA b ds n = true) : tameA b (ds.take k) n = true := tameA_of fun d hd => tameA_mem h (List.mem_of_mem_take hd)
theorem tameA_drop {b : Bool} {n k : Nat} {ds : List PyData} (h : tameA b ds n = true) : tameA b (ds.drop k) n = true := tameA_of fun d hd => tameA_mem h (List.mem_of_mem_drop hd)
theorem tame_tup {b : Bool} {n : Nat} {ds : List PyData} (h : tameA b ds n = true) (hl : ds.length ≤ 8) : tame b (.tuple ds) (n + 1) = true := by
  simp only [tame, Bool.and_eq_true, decide_eq_true_eq]
  exact ⟨⟨by omega, Nat.le_trans hl (cap_ge _)⟩, h⟩
theorem tame_lst {b : Bool} {n : Nat} {ds : List PyData} (h : tameA b ds n = true) (hl : ds.length ≤ 8) : tame b (.list ds) (n + 1) = true := by
  simp only [tame, Bool.and_eq_true, decide_eq_true_eq]
  exact ⟨⟨by omega, Nat.le_trans hl (cap_ge _)⟩, h⟩
theorem tame_lst3 {b : Bool} {n : Nat} {ds : List PyData} (h : tameA b ds n = true) (hl : ds.length ≤ 40) (hn : 2 ≤ n := by decide) : tame b (.list ds) (n + 1) = true := by
  simp only [tame, Bool.and_eq_true, decide_eq_true_eq]
  refine ⟨⟨by omega, ?_⟩, h⟩
  unfold capT
  rw [if_neg (by omega)]
  exact hl
theorem log_small {i : Int} (h : i.natAbs < 2 ^ 99) : i.natAbs.log2 < 100 := by
  by_cases z : i.natAbs = 0
  · rw [z]
    decide
  · have := (Nat.log2_lt z (k := 99)).mpr h
    omega
theorem int_tame {b : Bool} {i : Int} {n : Nat} (h : i.natAbs ≤ 1000) : tame b (.int i) n = true := by
  simp only [tame, decide_eq_true_eq]
  refine log_small (Nat.lt_of_le_of_lt h ?_)
  have : 2 ^ 10 ≤ 2 ^ 99 := Nat.pow_le_pow_right (by decide) (by decide)
  omega
theorem nums_tame {b : Bool} {ks : List Nat} {n : Nat} (h : ∀ k ∈ ks, k ≤ 100) : tameA b (nums ks) n = true := by
  refine tameA_of fun d hd => ?_
  obtain ⟨k, hk, rfl⟩ := List.mem_map.mp hd
  exact int_tame (by have := h k hk; omega)
theorem name_len {n : Str} (h : isName (.str n) = true) : n.length ≤ 8 := by
  simp only [isName, begName, Bool.and_eq_true, decide_eq_true_eq] at h
  exact h.2.1.1
theorem above_f {c k : Nat} {y : Str} (hy : y.cps.toList = [k]) (h : k < c) : leS ⟨#[c]⟩ y = false := by
  have e : y.cps.toList < [c] := by
    rw [hy]
    exact List.Lex.rel h
  unfold leS
  rw [show decide (y.cps.toList < (Str.mk #[c]).cps.toList) = true from decide_eq_true e]
  rfl
theorem name_okT {n : Str} (h : isName (.str n) = true) : okStr n = true := by
  have hl := name_len h
  simp only [isName, begName, Bool.and_eq_true, decide_eq_true_eq] at h
  have ha := h.2.1.2
  simp only [okStr, Bool.and_eq_true, decide_eq_true_eq, List.all_eq_true]
  refine ⟨by omega, fun c hc => ?_⟩
  have t := List.all_eq_true.mp ha (.str ⟨#[c]⟩) (List.mem_map.mpr ⟨c, hc, rfl⟩)
  by_cases z : c < 4294967296
  · exact z
  · exfalso
    rw [show strOf (.str ⟨#[c]⟩) = ⟨#[c]⟩ from rfl, isLet, isFig, above_f (k := 122) (y := "z") (by decide +kernel) (by omega), above_f (k := 57) (y := "9") (by decide +kernel) (by omega)] at t
    simp at t
theorem Row.tm {b : Bool} {r : Row} (h1 : r.ok) (h2 : r.small) : tameA b (its r.d) 1 = true ∧ (its r.d).length ≤ 4 ∧ 2 ≤ (its r.d).length ∧ r.d = .tuple (its r.d) ∧ fzA (its r.d) = true := by
  have hf : fzA (its r.d) = true := by
    have := Row.fz r
    cases r <;> simpa [Row.d, WR.fz, its] using this
  have hs : ∀ x : Str, okStr x = true → ∀ n, tame b (.str x) n = true := fun x h n => by simp only [tame]; exact h
  cases r with
  | made n ks =>
    refine ⟨?_, by simp [Row.d, its], by simp [Row.d, its], rfl, hf⟩
    have hn := name_okT h1.1
    simp only [Row.d, its, tameA, Bool.and_eq_true]
    exact ⟨hs _ (by decide +kernel) _, hs _ hn _, tame_tup (n := 0) (nums_tame h2.2) (by simp [nums]; have := h2.1; omega), trivial⟩
  | asked n ks =>
    refine ⟨?_, by simp [Row.d, its], by simp [Row.d, its], rfl, hf⟩
    have hn := name_okT h1.1
    simp only [Row.d, its, tameA, Bool.and_eq_true]
    exact ⟨hs _ (by decide +kernel) _, hs _ hn _, tame_tup (n := 0) (nums_tame h2.2) (by simp [nums]; have := h2.1; omega), trivial⟩
  | either a i j =>
    obtain ⟨x1, x2, x3⟩ := h2
    refine ⟨?_, by simp [Row.d, its], by simp [Row.d, its], rfl, hf⟩
    simp only [Row.d, its, tameA, Bool.and_eq_true]
    exact ⟨hs _ (by decide +kernel) _, int_tame (by omega), int_tame (by omega), int_tame (by omega), trivial⟩
  | given k =>
    have x1 : k ≤ 100 := h2
    refine ⟨?_, by simp [Row.d, its], by simp [Row.d, its], rfl, hf⟩
    simp only [Row.d, its, tameA, Bool.and_eq_true]
    exact ⟨hs _ (by decide +kernel) _, int_tame (by omega), trivial⟩
end K8
namespace K8
open PySem PySem.Spec PyProof.Rows L2 WR
section
variable {N : Addr → Prop} {C : Hp → Prop} {σ : L2.St} {te : TE} {ta : TA} {tt : TT} {d : PyData} {ds : List PyData} {D : Ends} {g : TG} {rest : TS} {H : Hp} {Q : VK}
theorem seq_asg (h : te σ H fun v H1 => g v σ H1 (rest D)) : tSeq (tAsg te g) rest D σ H := h
theorem run_lst (a : Ya N C σ ta ds) (c : C H) (k : ∀ vs H1, Sm H H1 → DrA N H1 vs ds → vs.length ≤ sizeLine ∧ ∀ p, H1 p = none → Q (.ref p) (upd H1 p (.lst vs))) : tLst ta σ H Q := a H _ c k
theorem ret_y (h : te σ H D.rt) : tRet te D σ H := h
/-- _law_pick(well, ..) -/
theorem pick_y {wa : Addr} {m : Nat} (h0 : σ[0]? = some (some (.ref wa))) (Y : Cy N C) (a : Yd N C σ te (.list ds)) (c : C H) (hC : ∀ H', C H' → Wl H' wa m) (off : Off wa N) (hm : m < top0) (ne : ds ≠ []) (hl : ds.length ≤ lim)
    (k : ∀ e ∈ ds, ∀ u H1 H', Sm H H1 → C H1 → Gw wa H1 H' → Wl H' wa (m + 1) → Dr N H' u e → Q u H') : tCall spPick [] E0 (tCons (tVar 0) (tCons te tNil)) σ H Q :=
  ⟨_, h0, a H _ c fun v H1 s1 r1 => ⟨wa, m, N, v, .list ds, rfl, off, hC _ (Y.sm _ _ s1 c), hm, r1, rfl, ne, hl, fun e he u H' g hw' ru => k e he u H1 H' s1 (Y.sm _ _ s1 c) g hw' ru⟩⟩
end
end K8
namespace K8
open PySem PySem.Spec PyProof.Rows L2 WR
section
variable {N : Addr → Prop} {C : Hp → Prop} {σ : L2.St} {te tb : TE} {ta : TA} {tt : TT} {d : PyData} {ds es : List PyData} {D : Ends} {g : TG} {rest t u : TS} {H : Hp} {Q : VK}
theorem Yd.neg (i : Int) : Yd N C σ (tUn (rU fun i => V.int (-i)) (tC (.int i))) (.int (-i)) := fun H Q _ q => ⟨_, rfl, q _ _ Sm.rfl' (.int (-i))⟩
theorem Yd.addv {i : Nat} {z y : Int} (h : σ[i]? = some (some (.int z))) : Yd N C σ (tOp (rI0 fun i j => V.int (i + j)) (tVar i) (tC (.int y))) (.int (z + y)) := fun H Q _ q => ⟨_, h, _, _, rfl, rfl, q _ _ Sm.rfl' (.int (z + y))⟩
theorem Yd.vint {i : Nat} {z : Int} (h : σ[i]? = some (some (.int z))) : Yd N C σ (tVar i) (.int z) := fun H Q _ q => ⟨_, h, q _ _ Sm.rfl' (.int z)⟩
theorem Yd.catOwn (Y : Cy N C) {i : Nat} {l : Addr} {xs : List V} (h : σ[i]? = some (some (.ref l))) (hc : ∀ H, C H → H l = some (.lst xs) ∧ DrA N H xs ds) (b : Yd N C σ tb (.list es)) (hl : ds.length + es.length ≤ 1000) : Yd N C σ (tOp rCat (tVar i) tb) (.list (ds ++ es)) :=
  fun H Q c q => ⟨_, h, b H _ c fun u H2 s2 r2 => by
    have c2 := Y.sm _ _ s2 c
    obtain ⟨e1, a1⟩ := hc _ c2
    cases r2 with
    | lst _ e2 a2 =>
    have l1 := a1.length
    have l2 := a2.length
    refine ⟨_, _, _, _, rfl, rfl, e1, e2, by rw [sizeLine_eq]; omega, fun p np => ?_⟩
    exact q _ _ (s2.trans (Sm.new np)) (.lst (Y.new _ _ c2 np) upd_same ((a1.append a2).sm (Sm.new np)))⟩
theorem ifS_word {r : Row} {x : Str} (a : Yd N C σ te r.d) (c : C H) (k : ∀ H1, Sm H H1 → if decide (V.str r.word = V.str x) = true then t D σ H1 else u D σ H1) : tIfS (tTest (tOp rEq (tOp (rIxN N) te (tC (.int 0))) (tC (.str x)))) t u D σ H :=
  Yd.wordIs a H _ c k
/-- some.extend([..]) -/
theorem ext_y {K : PySem.W.Frag} {ls : Addr} {xs : List V} (h5 : σ[5]? = some (some (.ref ls))) (Y : Cy N C) (hls : ∀ H, C H → H ls = some (.lst xs)) (nls : ¬ N ls) (a : Ya N C σ ta es) (c : C H) (rx : ∀ H, C H → DrA N H xs ds) (hl : xs.length + es.length ≤ 100)
    (k : ∀ zs H2, C H2 → Sm H H2 → zs.length = es.length → DrA N (upd H2 ls (.lst (xs ++ zs))) (xs ++ zs) (ds ++ es) → Stays N H2 (upd H2 ls (.lst (xs ++ zs))) → rest D σ (upd H2 ls (.lst (xs ++ zs)))) : tSeq (tDrop (tBM K "list" rExtend (tVar 5) (tCons (tLst ta) tNil))) rest D σ H := by
  refine ⟨_, h5, .inl ⟨rfl, xs, SqL.of (hls H c)⟩, a H _ c fun zs H1 s1 r1 => ⟨by rw [r1.length, sizeLine_eq]; omega, fun p np => ?_⟩⟩
  have c1 := Y.sm _ _ s1 c
  have s2 : Sm H (upd H1 p (.lst zs)) := s1.trans (Sm.new np)
  have c2 := Y.sm _ _ s2 c
  have e2 := hls _ c2
  have lz : zs.length = es.length := r1.length
  refine ⟨ls, p, xs, zs, rfl, rfl, e2, upd_same, by rw [sizeLine_eq]; omega, ?_⟩
  have st : Stays N (upd H1 p (.lst zs)) (upd (upd H1 p (.lst zs)) ls (.lst (xs ++ zs))) := ⟨fun b o nb z => by
    rw [upd_ne fun y => nls (by rw [← y]; exact nb)]
    exact z, fun b ys z => by
    rw [upd_ne fun y => by rw [y, e2] at z; cases z]
    exact z⟩
  refine k zs _ c2 s2 lz ?_ st
  exact ((rx _ c2).append (r1.sm (Sm.new np))).mono (fun _ z => z) st
end
end K8

/-! try with several clauses, each `except X as n`, one name n for all. -/
namespace WR
open PySem PySem.Spec PyProof.Rows L2
abbrev SuT := Addr → Value → Option Addr → TS
/-- the ends of a suite behind which slot i is empty -/
def endsAs (i : Nat) (D : Ends) : Ends := { nx := fun a b => D.nx (a.set i none) b, rt := D.rt, bk := fun a b => D.bk (a.set i none) b, ct := fun a b => D.ct (a.set i none) b }
def wAsMany (K : PySem.W.Frag) (i : Nat) (Wout : WX) (D : Ends) : List (Value × SuT) → WX
  | [] => Wout
  | q :: r => fun cls d σ H => ∃ b, PySem.W.exmOne K cls q.1 = some b ∧ (b = true → ∀ a, H a = none → q.2 a cls d (endsAs i D) (σ.set i (some (.ref a))) H) ∧ (b = false → wAsMany K i Wout D r cls d σ H)
inductive HdsAs (X : Cx) (n : Str) : List ExceptHandler → List (Value × SuT) → Prop
  | nil : HdsAs X n [] []
  | cons {x : Str} {c : Value} {ts : SuT} {b₀ : Stmt} {su : List Stmt} {p1 p2 : Pos} {hs : List ExceptHandler} {l : List (Value × SuT)} (hc : Names X x c)
      (hsu : ∀ (a : Addr) (oe : Obj) (cls : Value) (d : Option Addr) (pn : List (Addr × Obj)), Zc cls d oe → (∃ vs, oe.data = .fields vs) → PSs (X.suite a ((a, oe) :: pn)) (b₀ :: su) (ts a cls d)) (r : HdsAs X n hs l) :
      HdsAs X n (.ExceptHandler (some (.Name x p1)) (some n) (b₀ :: su) p2 :: hs) ((c, ts) :: l)
section
variable {X : Cx} {n : Str} {i : Nat} {body : List Stmt} {h₀ : ExceptHandler} {hds : List ExceptHandler} {l : List (Value × SuT)} {pos : Pos} {tb : WX → TS} {Wout : WX}
theorem ps_try_asMany (stk : X.stack = X.env :: X.outer) (frm : X.env.frame = some X.env.locals) (nod : X.N.Nodup) (at_ : X.N[i]? = some n) (knd : X.env.kindOf n = some .local) (tk : Takes X Wout)
    (hb : ∀ (W : WX) (pn : List (Addr × Obj)) (xe : Value → Shared → Prop), Takes (X.tr pn xe) W → PassesOwn (model X.prog X.w) X.A X.env xe → PSs (X.tr pn xe) body (tb W))
    (hh : HdsAs X n (h₀ :: hds) l) : PS X (.Try body (h₀ :: hds) [] [] pos) (fun D σ H => tb (wAsMany X.K i Wout D l) D σ H) := by
  refine ⟨fun pins s σ H D I0 hyp => ?_⟩
  have okX := I0.ok
  have frs0 : X.A.frames = some (X.env :: X.outer) := okX.frames.trans (congrArg some stk)
  refine wpAny_Try_except (wpAny_mono ((hb (wAsMany X.K i Wout D l) (X.pn ++ pins)
    (fun x t1 => wpAny (model X.prog X.w) X.A (noteFrame x X.env) (fun _ t2 => wpAny (model X.prog X.w) X.A (setFlight x none)
      (fun _ t3 => wpAny (model X.prog X.w) X.A (handleBy x X.env (h₀ :: hds)) (SP X pins D) X.xe t3) X.xe t2) X.xe t1)
    (fun u t caught => ?fall) PassesOwn.looking).run [] s σ H D (I0.toTry _) hyp) (fun fl t through => ?pass) (fun _ _ z => z))
  case pass =>
    cases fl with
    | ret u => exact let ⟨v, a, b, J, r, q⟩ := through; ⟨v, a, b, J.ofTry okX, r, q⟩
    | next => exact let ⟨a, b, J, q⟩ := through; wpAny_execs_nil ⟨a, b, J.ofTry okX, q⟩
    | brk => exact let ⟨a, b, J, q⟩ := through; ⟨a, b, J.ofTry okX, q⟩
    | cont => exact let ⟨a, b, J, q⟩ := through; ⟨a, b, J.ofTry okX, q⟩
  case fall =>
    obtain ⟨ad, base, sB, pinsB, σB, HB, kls, dct, rfl, JB, nbB, upB, skyB, freeB, osB, agB, wish⟩ := caught
    have JX : Inv X pins σB HB sB := JB.ofTry okX
    rw [stk] at skyB
    show wpAny (model X.prog X.w) X.A (noteFrame (.ref ad) X.env) _ _ _
    refine Sky.land Zc.steady frs0 frm skyB fun hp land up1 => ?_
    obtain ⟨ob, flds, obAt, obZ, obD⟩ := land.there
    have away : ad ∉ frs (X.env :: X.outer) := fun mem => by
      obtain ⟨_, ob', e1, nofields⟩ := land.2.2.1.mem mem
      rw [obAt] at e1
      cases e1
      exact nofields _ obD
    have awayL : ad ≠ X.env.locals := fun e => away (List.mem_filterMap.mpr ⟨X.env, List.mem_cons_self .., by rw [frm, e]⟩)
    have awayF : ad ∉ X.fs := fun mem => let ⟨en, h1, h2⟩ := List.mem_filterMap.mp mem; away (List.mem_filterMap.mpr ⟨en, List.mem_cons_of_mem _ h1, h2⟩)
    have JL : Inv X pins σB HB { t with heap := hp } := JX.landed nbB land.1 (upB.trans up1) osB agB
    have JS := JL.suite obAt obD freeB awayL awayF
    have clauses : ∀ {hs : List ExceptHandler} {m : List (Value × SuT)}, HdsAs X n hs m → wAsMany X.K i Wout D m kls dct σB HB →
        wpAny (model X.prog X.w) X.A (handleBy (.ref ad) X.env hs) (SP X pins D) X.xe { t with heap := hp } := by
      intro hs m ok
      induction ok with
      | nil =>
        intro out
        obtain ⟨_, _, _, o1, v1, T1, _, _, a1, _, a3, a4, _⟩ := id land
        refine wpAny_handleBy_nil ?_
        unfold PySem.passOn
        refine wpAny_bind (wpAny_field a1 a3 a4 ?_)
        rw [if_neg (show ¬ ((Value.ref T1 == Value.none) = true) from by simp)]
        have onward : wpAny (model X.prog X.w) X.A (setFlight (.ref ad) X.env.frame) (fun _ t4 => wpAny (model X.prog X.w) X.A (throw (.ref ad) : Sem Flow) (SP X pins D) X.xe t4) X.xe { t with heap := hp } := by
          rw [frm]
          refine HandSPX.setFlight_upZ land fun h4 sky4 up4 => wpAny_throw (tk _ _ ⟨ad, base, sB, pins, σB, HB, kls, dct, rfl, JX, nbB, (upB.trans up1).trans up4, ?_, freeB, osB, agB, out⟩)
          exact .inr (.inr (by rw [stk]; exact sky4))
        first
          | exact wpAny_bind (wpAny_pure (wpAny_bind onward))
          | exact wpAny_bind onward
      | @cons x c ts b₀ su p1 p2 hs m hc hsu r ih =>
        rintro ⟨b, yesno, yes, no⟩
        refine wpAny_handleBy_cons (codeAny_handlers_test ?_) (fun q => by cases q)
        have kind : PySem.W.Looks (model X.prog X.w) hp (typeOf (.ref ad)) kls := fun _ _ _ _ kp q => wpAny_typeOf_ref (kp _ _ obAt) (by rw [obZ.1]; exact q)
        have name : ∀ {Q E : Value → Shared → Prop}, Q c { t with heap := hp } → wpAny (model X.prog X.w) (X.A.mark (some (.ref ad))) (eval (.Name x p1) X.env) Q E { t with heap := hp } := fun {Q E} q => by
          obtain ⟨g1, g2, g3⟩ := hc
          rcases g3 with g3 | ⟨g3, g4, g5⟩
          · exact ld_glob (X := X.suite ad ((ad, ob) :: (X.pn ++ pins))) JS g1 g3 q g2
          · exact ld_blt (X := X.suite ad ((ad, ob) :: (X.pn ++ pins))) JS g1 g3 g4 q g5 g2
        refine name ((PySem.W.exm_one (M := model X.prog X.w) JL.kIn kind yesno).here ?_)
        cases b with
        | false => exact ih (no rfl)
        | true =>
          refine codeAny_handlers_suite_as (HandSPX.lands_againZ land fun h5 land5 up5 => ?_)
          obtain ⟨ob5, _, at5, z5, d5⟩ := land5.there
          have J5 : Inv X pins σB HB { t with heap := h5 } := JX.landed nbB land5.1 ((upB.trans up1).trans up5) osB agB
          refine store_ok (X := X.suite ad ((ad, ob5) :: (X.pn ++ pins))) (v := .ref ad) (J5.suite at5 d5 freeB awayL awayF) nod at_ (.inl knd) rfl (fun t6 J6 => ?_) (.inr knd)
          refine wpAny_mono ((hsu ad ob5 kls dct (X.pn ++ pins) z5 ⟨_, d5⟩).run [] t6 _ HB _ J6 (yes rfl ad freeB)) (fun fl t7 told => ?_) (fun _ _ z => z.elim)
          cases fl with
          | ret u => exact let ⟨v, a, b, J, rr, q⟩ := told; gone_ok (J.unsuite okX) nod at_ knd fun t8 J8 => ⟨v, _, b, J8, rr, q⟩
          | next => exact let ⟨a, b, J, q⟩ := told; gone_ok (J.unsuite okX) nod at_ knd fun t8 J8 => ⟨_, b, J8, q⟩
          | brk => exact let ⟨a, b, J, q⟩ := told; gone_ok (J.unsuite okX) nod at_ knd fun t8 J8 => ⟨_, b, J8, q⟩
          | cont => exact let ⟨a, b, J, q⟩ := told; gone_ok (J.unsuite okX) nod at_ knd fun t8 J8 => ⟨_, b, J8, q⟩
    exact clauses hh wish
end
end WR

/-! _law_met, with its five except clauses. -/
namespace K8
open PySem PySem.Spec PyProof.Rows L2 WR LamX
def MetF (f word : Str) (d : Option Addr) (H : Hp) (Q : VK) : Prop := ∃ (dd : Addr) (fs : List (Str × V)) (v : V), d = some dd ∧ H dd = some (.xd fs) ∧ fs.lookup f = some v ∧ ∀ p, H p = none → Q (.ref p) (upd H p (.lst [.str word, v]))
/-- what _law_met makes of what it asks -/
def MetX (CW CP CT : Addr) (Q : VK) : XK := fun cls d H =>
  (cls = .ref CW ∧ MetF "index" "web" d H Q) ∨ (cls = .ref CP ∧ MetF "part" "part" d H Q) ∨ (cls = .ref CT ∧ MetF "truths" "truths" d H Q)
def TMet (CW CP CT : Addr) : (XK → Hp → VK → Prop) → Hp → VK → Prop := fun tl H Q =>
  tl (MetX CW CP CT Q) H (fun v H' => ∀ p, H' p = none → Q (.ref p) (upd H' p (.lst [.str "told", v])))
/-- what is known of the classes in except clauses -/
structure Ex3 (K : PySem.W.Frag) (mg : Str → Option Value) (CW CP CT : Addr) : Prop where
  xW : XfC K CW
  xP : XfC K CP
  xT : XfC K CT
  nW : PySem.W.findIn K (.ref CW) "index" = some none
  nP : PySem.W.findIn K (.ref CP) "part" = some none
  nT : PySem.W.findIn K (.ref CT) "truths" = some none
  ww : PySem.W.exmOne K (.ref CW) (.ref CW) = some true
  pw : PySem.W.exmOne K (.ref CP) (.ref CW) = some false
  pp : PySem.W.exmOne K (.ref CP) (.ref CP) = some true
  tw : PySem.W.exmOne K (.ref CT) (.ref CW) = some false
  tp : PySem.W.exmOne K (.ref CT) (.ref CP) = some false
  tt : PySem.W.exmOne K (.ref CT) (.ref CT) = some true
  gW : mg "BadWeb" = some (.ref CW)
  gP : mg "BadPart" = some (.ref CP)
  gT : mg "BadTruths" = some (.ref CT)
theorem takes_len {X : Cx} {W : WX} (t : Takes X W) : Takes X (fun cls d σ H => σ.length = X.N.length → W cls d σ H) := fun u s' ⟨a, B, sI, pins, σ, H, cls, d, e, I, nb, up, sky, na, os, ag, w⟩ =>
  t u s' ⟨a, B, sI, pins, σ, H, cls, d, e, I, nb, up, sky, na, os, ag, w I.len⟩
theorem sc__law_met : FnScope ["ask", "e"] ["ask"] (defScope s_law_met) := ⟨rfl, rfl, rfl, by decide +kernel, rfl, by decide +kernel, by decide +kernel⟩
section
variable {X : Cx}
theorem met_gives {CW CP CT g : Addr} {cdg : Value} {q : Str} (E2 : Ex3 X.K X.mg CW CP CT) : GivesTo X ["ask", "e"] "_law_met" (defScope s_law_met) g cdg (defBody s_law_met) "ask" q (TMet CW CP CT) := by
  intro f c' s H Q tl act hc h
  refine ⟨_, pss_one (ps_try_asMany (X := (cxOf C8.CX0 X.prog X.w X.K X.mg X.base ["ask", "e"] "_law_met" (defScope s_law_met) g cdg X.A X.stack s H C8.E0).nox) (n := "e") (i := 1)
    (tb := fun W D σ H => ∃ Ech : XK, (∀ cls d σ' H', σ'.length = 2 → Ech cls d H' → W cls d σ' H') ∧ σ[0]? = some (some (.ref f)) ∧ H c' = some (CodeO c' q) ∧ tl Ech H (fun v H' => 2 ≤ sizeLine ∧ ∀ p, H' p = none → D.rt (.ref p) (upd H' p (.lst [.str "told", v]))))
    rfl rfl sc__law_met.nd rfl rfl LamX.takes0 (fun W pn xe tk _ => ?_)
    (.cons ⟨rfl, by decide, .inl E2.gW⟩ (fun a oe cls d pn hz hf => pss_one (ps_ret (pe_lst (pa_cons pe_str (pa_cons (pe_xf E2.xW E2.nW hz hf (pv 1)) pa_nil)))))
      (.cons ⟨rfl, by decide, .inl E2.gP⟩ (fun a oe cls d pn hz hf => pss_one (ps_ret (pe_lst (pa_cons pe_str (pa_cons (pe_xf E2.xP E2.nP hz hf (pv 1)) pa_nil)))))
      (.cons ⟨rfl, by decide, .inl E2.gT⟩ (fun a oe cls d pn hz hf => pss_one (ps_ret (pe_lst (pa_cons pe_str (pa_cons (pe_xf E2.xT E2.nT hz hf (pv 1)) pa_nil))))) .nil)))), ?_⟩
  · refine ⟨fun pins s' σ H' D I h' => ?_⟩
    obtain ⟨Ech, hW, h1, h2, h3⟩ := h'
    have hp := fun p1 p2 => act _ pn xe Ech p1 p2 (takes_len tk) fun cls d σ' H' e hl => hW cls d σ' H' hl e
    exact (pss_one (ps_ret (pe_lst (pa_cons pe_str (pa_cons (hp _ _) pa_nil))))).run pins s' σ H' D I ⟨h1, h2, h3⟩
  · refine ⟨MetX CW CP CT Q, fun cls d σ' H' hl e => ?_, rfl, hc, ?_⟩
    · have one : ∀ a : Addr, (σ'.set 1 (some (.ref a)))[1]? = some (some (.ref a)) := fun a => by
        rw [List.getElem?_set_self (by omega)]
      rcases e with ⟨rfl, dd, fs, v, rfl, e1, e2, k⟩ | ⟨rfl, dd, fs, v, rfl, e1, e2, k⟩ | ⟨rfl, dd, fs, v, rfl, e1, e2, k⟩
      · exact ⟨true, E2.ww, fun _ a na => ⟨_, one a, rfl, rfl, dd, fs, v, rfl, e1, e2, (by show 2 ≤ sizeLine; decide), fun p np => k p np⟩, fun z => nomatch z⟩
      · exact ⟨false, E2.pw, (fun z => nomatch z), fun _ => ⟨true, E2.pp, fun _ a na => ⟨_, one a, rfl, rfl, dd, fs, v, rfl, e1, e2, (by show 2 ≤ sizeLine; decide), fun p np => k p np⟩, fun z => nomatch z⟩⟩
      · exact ⟨false, E2.tw, (fun z => nomatch z), fun _ => ⟨false, E2.tp, (fun z => nomatch z), fun _ => ⟨true, E2.tt, fun _ a na => ⟨_, one a, rfl, rfl, dd, fs, v, rfl, e1, e2, (by show 2 ≤ sizeLine; decide), fun p np => k p np⟩, fun z => nomatch z⟩⟩⟩
    · have sz : 2 ≤ sizeLine := by decide
      simpa only [TMet, sz, true_and] using h
end
end K8

/-! Defs that ask repr: called where no repr is under way. -/
namespace WR
open PySem PySem.Spec PyProof.Rows L2
structure FnG (P : Program) (w : World) (K : PySem.W.Frag) (mg : Str → Option Value) (base : Heap) (CX : CXT) (k : Nat) (f : Addr) (fd : FuncData) (ps : List Str) (sp : Sp) : Prop where
  len : ∀ vs H Q E, sp vs H Q E → vs.length = ps.length
  run : ∀ (A : Around) (outer : List Env) (s : Shared) (H : Hp) (args : Args) (us : List Value) (vs : List V) (Q : VK) (E : XK), Room k A → A.guards = some [] → Env0 P w K mg base A outer s H → BindsTo s fd args (ps.zip us) → Vals vs us → sp vs H Q E →
    codeAny (model P w) A (.call (.ref f) args) (CR CX outer P w H s Q E) s
/-- a def by name, its code object and table known -/
structure DfG (P : Program) (w : World) (K : PySem.W.Frag) (mg : Str → Option Value) (base : Heap) (CX : CXT) (k : Nat) (x : Str) (ps : List Str) (sp : Sp) : Prop where
  ex : ∃ f fd, mg x = some (.ref f) ∧ PySem.W.keepIn K (.ref f) = true ∧ Binds K fd ps [] ∧ FnG P w K mg base CX k f fd ps sp
section
variable {P : Program} {w : World} {K : PySem.W.Frag} {mg : Str → Option Value} {base : Heap}
/-- from the def's place: its body's promise at one state -/
theorem fnG_of {CX : CXT} {k : Nat} {f : Addr} {name qual : Str} {params : Arguments} {body : List Stmt} {scope : Scope} {dV kV doc pm cdv ct oc : Value} {an od : Option Addr} {osl : Array (Option Value)} {N ps : List Str} {sp : Sp}
    (lk : K.lookup f = some ⟨oc, od, .func (PySem.W.fnOf name qual params body scope dV kV doc pm an cdv ct), osl⟩) (hcd : PySem.W.codeIn K cdv qual = true) (S : FnScope N ps scope) (len : ∀ vs H Q E, sp vs H Q E → vs.length = ps.length)
    (hbody : ∀ (A : Around) (outer : List Env) (s : Shared) (H : Hp) (vs : List V) (Q : VK) (E : XK), Room k (A.deeper (envOfC qual scope s.heap.objs.size f cdv)) → (A.deeper (envOfC qual scope s.heap.objs.size f cdv)).guards = some [] → sp vs H Q E →
      ∃ t, PSs (cxOf CX P w K mg base N qual scope f cdv A outer s H E) body t ∧ t { nx := fun _ H' => Q .non H', rt := Q } (L2.start N vs) H) :
    FnG P w K mg base CX (k + 1) f (PySem.W.fnOf name qual params body scope dV kV doc pm an cdv ct) ps sp :=
  ⟨len, fun A outer s H args us vs Q E hr hg e0 hb r hsp => LamX.run_ofS lk hcd S hr e0 hb r (len _ _ _ _ hsp) fun hr' => hbody A outer s H vs Q E hr' hg hsp⟩
theorem FnG.mono {CX : CXT} {j k : Nat} {f : Addr} {fd : FuncData} {ps : List Str} {sp : Sp} (F : FnG P w K mg base CX j f fd ps sp) (h : j ≤ k) : FnG P w K mg base CX k f fd ps sp :=
  ⟨F.len, fun A outer s H args us vs Q E hr => F.run A outer s H args us vs Q E (hr.mono h)⟩
end
section
variable {X : Cx} {CX : CXT} {x : Str} {ps : List Str} {sp : Sp} {k : Nat} {e : Expr} {es : List Expr} {ta : TA} {p pos : Pos} {E : XK}
/-- such a def called -/
theorem pe_dfG (D : DfG X.prog X.w X.K X.mg X.base CX k x ps sp) (room : Room k X.A) (free : X.A.guards = some []) (hx : Passes CX X E) (ha : PA X (e :: es) ta) (hg : Gl X x := by rfl) (hdb : (x == ("__debug__" : Str)) = false := by decide)
    (he : starEach (e :: es) X.env = (false, eval e X.env) :: starEach es X.env := by rfl) (hpl : (backTo pos (starEach es X.env)).any (·.1) = false := by rfl) : PE X (.Call (.Name x p) (e :: es) [] pos) (tCall sp [] E ta) := by
  obtain ⟨f, fd, named, kept, binds, G⟩ := D.ex
  constructor
  intro pins s σ H Q I0 want
  refine wpAny_Call_Name_kw (ld_glob I0 hg named (PySem.W.callWith_K (h₀ := X.base) I0.ok.mod.kin kept (thn (ha.run pos pins s σ H _ I0 want) ?_) he hpl) hdb)
  rintro us t ⟨vs, H1, I1, rel, want1⟩
  rw [List.append_nil] at want1
  have many : (us ++ []).length = ps.length := by rw [List.append_nil, ← rel.length]; exact G.len _ _ _ _ want1
  have bound := binds t us I1.kIn many
  rw [List.append_nil] at bound
  refine ⟨I1.kIn, wpAny_call (codeAny_mono (G.run X.A X.stack t H1 ⟨us, []⟩ us vs Q E room free I1.env0 bound rel want1) ?_)⟩
  intro r t2 told
  match r, told with
  | .error x, told => exact hx pins σ H1 t x t2 I1 told
  | .ok (.ret u), told => exact I1.after told
  | .ok .next, told => exact told.elim
  | .ok .brk, told => exact told.elim
  | .ok .cont, told => exact told.elim
end
/-! ### calls by keywords alone -/
section
variable {X : Cx} {CX : CXT} {x : Str} {ps ks : List Str} {sp : Sp} {k : Nat} {kws : List Keyword} {tk : TA} {p pos : Pos} {E : XK} {g : List Value → List Value → List Value} {gV : List V → List V → List V}
structure DfK (P : Program) (w : World) (K : PySem.W.Frag) (mg : Str → Option Value) (base : Heap) (CX : CXT) (k : Nat) (x : Str) (ps ks : List Str) (g : List Value → List Value → List Value) (gV : List V → List V → List V) (sp : Sp) : Prop where
  ex : ∃ f fd, mg x = some (.ref f) ∧ PySem.W.keepIn K (.ref f) = true ∧ KBn K fd ps 0 ks g gV ∧ FnOk P w K mg base CX k f fd ps sp
def tKw (n : Nat) (sp : Sp) (gV : List V → List V → List V) (E : XK) (tk : TA) : TE := fun σ H Q => tk σ H fun zs H2 => zs.length = n ∧ sp (gV [] zs) H2 Q E
theorem pe_dfK (D : DfK X.prog X.w X.K X.mg X.base CX k x ps ks g gV sp) (room : Room k X.A) (hx : Passes CX X E) (hkw : PK X kws tk) (hg : Gl X x := by rfl) (hall : (backToKw pos (keywordEach kws X.env)).all (·.1.isSome) = true := by rfl)
    (hks : (backToKw pos (keywordEach kws X.env)).filterMap (·.1) = ks := by rfl) (hdb : (x == ("__debug__" : Str)) = false := by decide)
    (hpl : ((backTo pos (starEach [] X.env)).any (·.1) || (backToKw pos (keywordEach kws X.env)).any (·.1.isNone)) = false := by rfl) : PE X (.Call (.Name x p) [] kws pos) (tKw ks.length sp gV E tk) := by
  obtain ⟨f, fd, named, kept, binds, G⟩ := D.ex
  constructor
  intro pins s σ H Q I0 want
  refine wpAny_Call_Name_kw (ld_glob I0 hg named (PySem.W.callWith_KW0 (h₀ := X.base) I0.ok.mod.kin kept hall (thn (hkw.run pos pins s σ H _ I0 want) ?_) hpl) hdb)
  rintro ws t ⟨zs, H1, I1, rel, len, want1⟩
  rw [hks]
  have rel2 := binds.rel (vs := []) (us := []) .nil rel
  have many : ws.length = ks.length := by rw [← rel.length]; exact len
  have bound := binds.to t [] ws I1.kIn rfl many
  refine ⟨I1.kIn, wpAny_call (codeAny_mono (G.run X.A X.stack t H1 ⟨[], ks.zip ws⟩ _ _ Q E room I1.env0 bound rel2 want1) ?_)⟩
  intro r t2 told
  match r, told with
  | .error x, told => exact hx pins σ H1 t x t2 I1 told
  | .ok (.ret u), told => exact I1.after told
  | .ok .next, told => exact told.elim
  | .ok .brk, told => exact told.elim
  | .ok .cont, told => exact told.elim
end
end WR

/-! repr of data, dicts too, where no repr is under way. -/
namespace K8
open PySem PySem.Spec PyProof.Rows L2 WR
section
variable {P : Program} {w : World} {H : Hp} {h : Heap}
mutual
theorem drReads (ok : HOk P w H h) : ∀ {d : PyData} {v : V} {u : Value}, Dr All H v d → RelV v u → ∃ as, Reads h u d as ∧ ∀ a ∈ as, H a ≠ none
  | _, _, _, .non, r => by
    cases r
    exact ⟨_, .none, by simp⟩
  | _, _, _, .bl b, r => by
    cases r
    exact ⟨_, .bool b, by simp⟩
  | _, _, _, .int i, r => by
    obtain ⟨t, rfl⟩ := r
    exact ⟨_, .int i t, by simp⟩
  | _, _, _, .str x, r => by
    obtain ⟨t, rfl⟩ := r
    exact ⟨_, .str x t, by simp⟩
  | _, _, _, .lst n e ra, r => by
    cases r
    obtain ⟨_, its, m, rv, g⟩ := (ok _ _ e)
    obtain ⟨as, hr, hn⟩ := drReadsA ok ra rv
    refine ⟨_, .list g rfl rfl hr, fun a ha => ?_⟩
    rcases List.mem_cons.mp ha with rfl | ha
    · rw [e]
      nofun
    · exact hn a ha
  | _, _, _, .tup e ra, r => by
    cases r
    obtain ⟨_, its, rv, o, ho, hc, n, hd⟩ := (ok _ _ e)
    obtain ⟨as, hr, hn⟩ := drReadsA ok ra rv
    exact ⟨_, .tuple ho hc hd hr, hn⟩
  | _, _, _, .dct n e rk, r => by
    cases r
    obtain ⟨_, _, vs, kv, o, es, ep, g, ex, hd, _, ps, _⟩ := (ok _ _ e)
    obtain ⟨as, bs, h1, h2, hn⟩ := drReadsK ok rk kv ps
    refine ⟨_, .dict g ex.1 hd h1 h2, fun a ha => ?_⟩
    rw [List.cons_append] at ha
    rcases List.mem_cons.mp ha with rfl | ha
    · rw [e]
      nofun
    · exact hn a ha
theorem drReadsA (ok : HOk P w H h) : ∀ {ds : List PyData} {vs : List V} {us : List Value}, DrA All H vs ds → Vals vs us → ∃ as, ReadsAll h us ds as ∧ ∀ a ∈ as, H a ≠ none
  | _, _, _, .nil, .nil => ⟨_, .nil, by simp⟩
  | _, _, _, .cons r1 t1, .cons r2 t2 => by
    obtain ⟨as, q1, n1⟩ := drReads ok r1 r2
    obtain ⟨bs, q2, n2⟩ := drReadsA ok t1 t2
    exact ⟨_, .cons q1 q2, fun a ha => (List.mem_append.mp ha).elim (n1 a) (n2 a)⟩
theorem drReadsK (ok : HOk P w H h) : ∀ {ps : List (PyData × PyData)} {kvs : List (Key × V)} {vs : List (Key × Value)} {es : List DictEntry}, DrK All H kvs ps → KV kvs vs → Pairs (mixKind P w) es vs →
    ∃ as bs, ReadsAll h (es.map (·.key)) (ps.map (·.1)) as ∧ ReadsAll h (es.map (·.val)) (ps.map (·.2)) bs ∧ ∀ a ∈ as ++ bs, H a ≠ none
  | _, _, _, _, .nil, .nil, .nil => ⟨_, _, .nil, .nil, by simp⟩
  | _, _, _, _, @DrK.cons _ _ x v d kvs ps r1 t1, @Paired.cons _ _ _ _ q _ _ r2 t2, @Pairs.cons _ _ _ _ _ e _ es _ k1 k2 p2 => by
    obtain ⟨as, bs, a1, a2, n1⟩ := drReadsK ok t1 t2 p2
    obtain ⟨cs, c1, n2⟩ := drReads ok r1 r2.2
    have hq : q.1 = Sum.inr x := r2.1.symm
    rw [hq] at k1
    have k1' : keyIs (Sum.inr x) e.key = true := k1
    rcases keyIs_shape k1' with ⟨i, t, z, _⟩ | ⟨y, t, z, ek⟩
    · cases z
    · cases z
      have c0 : Reads h e.key (.str x) [] := by
        rw [ek]
        exact .str x t
      have c2 : Reads h e.val d cs := by
        rw [k2]
        exact c1
      refine ⟨_, _, .cons c0 a1, .cons c2 a2, fun a ha => ?_⟩
      · simp only [List.nil_append, List.mem_append] at ha
        rcases ha with ha | ha | ha
        · exact n1 a (List.mem_append.mpr (.inl ha))
        · exact n2 a ha
        · exact n1 a (List.mem_append.mpr (.inr ha))
end
end
/-! ### how long it is -/
def tB : Nat → Nat
  | 0 => 122
  | n + 1 => capT (n + 1) * (tB n + 2) + 3
theorem tB_up (n : Nat) : tB n ≤ tB (n + 1) := by
  have := cap_ge (n + 1)
  show tB n ≤ capT (n + 1) * (tB n + 2) + 3
  have h2 : 8 * (tB n + 2) ≤ capT (n + 1) * (tB n + 2) := Nat.mul_le_mul_right _ this
  omega
theorem tB_mono {n m : Nat} (h : n ≤ m) : tB n ≤ tB m := by
  induction h with
  | refl => exact Nat.le_refl _
  | step _ ih => exact Nat.le_trans ih (tB_up _)
theorem tB_ge (n : Nat) : 122 ≤ tB n := tB_mono (Nat.zero_le n)
theorem shown_sum {B : Nat} : ∀ {ds : List PyData}, (∀ d ∈ ds, d.shown.length ≤ B) → ((PyData.shownAll ds).map (·.length)).sum ≤ ds.length * B
  | [], _ => by simp [PyData.shownAll]
  | d :: ds, h => by
    have h1 := h d (List.mem_cons_self ..)
    have h2 := shown_sum (B := B) (ds := ds) fun e he => h e (List.mem_cons_of_mem _ he)
    simp only [PyData.shownAll, List.map_cons, List.sum_cons, List.length_cons, Nat.add_mul, Nat.one_mul]
    omega
theorem shownAll_len : ∀ ds : List PyData, (PyData.shownAll ds).length = ds.length
  | [] => rfl
  | d :: ds => by simp [PyData.shownAll, shownAll_len ds]
theorem fit_seq {B c n : Nat} {ds : List PyData} (hl : ds.length ≤ c) (h : ∀ d ∈ ds, d.shown.length ≤ B) (hx : n ≤ ((PyData.shownAll ds).map (·.length)).sum + 2 * (PyData.shownAll ds).length + 3) : n ≤ c * (B + 2) + 3 := by
  have h1 := shown_sum h
  rw [shownAll_len] at hx
  have h2 : ds.length * (B + 2) ≤ c * (B + 2) := Nat.mul_le_mul_right _ hl
  rw [Nat.mul_add] at h2
  omega
theorem str_shown {x : Str} (h : okStr x = true) : (PyData.str x).shown.length ≤ 122 := by
  simp only [okStr, Bool.and_eq_true, decide_eq_true_eq, List.all_eq_true] at h
  have := PySem.StrLaws.reprText_len x fun c hc => h.2 c hc
  show (reprText x).length ≤ 122
  omega
theorem int_shown {i : Int} (h : i.natAbs.log2 < 100) : (PyData.int i).shown.length ≤ 101 := by
  have := int_text_length_le (a := i) (k := 100) (by decide) h
  show (Str.ofString (toString i)).length ≤ 101
  rw [PySem.ofString_length]
  exact this
mutual
theorem tame_shown : ∀ {d : PyData} {n : Nat}, tame true d n = true → d.shown.length ≤ tB n
  | .list xs, n, t => by
    simp only [tame, Bool.and_eq_true, decide_eq_true_eq] at t
    obtain ⟨m, rfl⟩ : ∃ m, n = m + 1 := ⟨n - 1, by omega⟩
    exact fit_seq t.1.2 (tameA_shown (n := m) t.2) (listText_len_le _)
  | .tuple xs, n, t => by
    simp only [tame, Bool.and_eq_true, decide_eq_true_eq] at t
    obtain ⟨m, rfl⟩ : ∃ m, n = m + 1 := ⟨n - 1, by omega⟩
    exact fit_seq t.1.2 (tameA_shown (n := m) t.2) (tupleText_len_le _)
  | .dict ps, n, t => by
    simp only [tame, Bool.and_eq_true, decide_eq_true_eq, Bool.or_eq_true, List.isEmpty_iff, Bool.true_and] at t
    have h2 : tB 2 ≤ tB n := tB_mono t.1
    have h3 : tB 2 = 7979 := by decide
    have hx := dictText_len_le (PyData.shownKv ps)
    show (dictText (PyData.shownKv ps)).length ≤ _
    rcases t.2 with rfl | h1
    · simp [PyData.shownKv] at hx ⊢
      omega
    · obtain ⟨x, i, rfl⟩ : ∃ x i, ps = [(.str x, .int i)] := by
        match ps, h1 with
        | [(.str x, .int i)], _ => exact ⟨x, i, rfl⟩
      simp only [okOne, Bool.and_eq_true, decide_eq_true_eq] at h1
      have e1 := str_shown h1.1
      have e2 := int_shown h1.2
      have e3 : ((": " : String) : Str).length = 2 := rfl
      simp only [PyData.shownKv, List.map_cons, List.map_nil, List.sum_cons, List.sum_nil, List.length_cons, List.length_nil, strLen_append, e3] at hx ⊢
      omega
  | .str x, n, t => by
    simp only [tame] at t
    exact Nat.le_trans (str_shown t) (tB_ge n)
  | .int i, n, t => by
    simp only [tame, decide_eq_true_eq] at t
    exact Nat.le_trans (int_shown t) (Nat.le_trans (by decide) (tB_ge n))
  | .bool b, n, _ => by
    have h1 : (PyData.bool b).shown.length ≤ 122 := by cases b <;> decide
    exact Nat.le_trans h1 (tB_ge n)
  | .none, n, _ => by
    have h1 : (PyData.none).shown.length ≤ 122 := by decide
    exact Nat.le_trans h1 (tB_ge n)
theorem tameA_shown : ∀ {ds : List PyData} {n : Nat}, tameA true ds n = true → ∀ d ∈ ds, d.shown.length ≤ tB n
  | [], _, _, d, hd => by cases hd
  | x :: xs, n, t, d, hd => by
    simp only [tameA, Bool.and_eq_true] at t
    have hx := tame_shown t.1
    rcases List.mem_cons.mp hd with e | hd
    · rw [e]
      exact hx
    · exact tameA_shown t.2 d hd
end
mutual
theorem tame_showable : ∀ {d : PyData} {n : Nat}, tame true d n = true → d.showable = true ∧ d.depth ≤ n + 1
  | .list xs, n, t => by
    simp only [tame, Bool.and_eq_true, decide_eq_true_eq] at t
    obtain ⟨m, rfl⟩ : ∃ m, n = m + 1 := ⟨n - 1, by omega⟩
    obtain ⟨h1, h2⟩ := tameA_showable (n := m) t.2
    exact ⟨by simpa [PyData.showable] using h1, by simp only [PyData.depth]; omega⟩
  | .tuple xs, n, t => by
    simp only [tame, Bool.and_eq_true, decide_eq_true_eq] at t
    obtain ⟨m, rfl⟩ : ∃ m, n = m + 1 := ⟨n - 1, by omega⟩
    obtain ⟨h1, h2⟩ := tameA_showable (n := m) t.2
    exact ⟨by simpa [PyData.showable] using h1, by simp only [PyData.depth]; omega⟩
  | .dict ps, n, t => by
    simp only [tame, Bool.and_eq_true, decide_eq_true_eq, Bool.or_eq_true, List.isEmpty_iff, Bool.true_and] at t
    rcases t.2 with rfl | h1
    · exact ⟨rfl, by simp [PyData.depth, PyData.depthKv]⟩
    · obtain ⟨x, i, rfl⟩ : ∃ x i, ps = [(.str x, .int i)] := by
        match ps, h1 with
        | [(.str x, .int i)], _ => exact ⟨x, i, rfl⟩
      simp only [okOne, Bool.and_eq_true, decide_eq_true_eq] at h1
      refine ⟨?_, by simp [PyData.depth, PyData.depthKv]⟩
      simp only [PyData.showable, PyData.showableKv, Bool.and_true, Bool.true_and, decide_eq_true_eq]
      have := h1.2
      omega
  | .str x, n, t => ⟨rfl, by simp [PyData.depth]⟩
  | .int i, n, t => by
    simp only [tame, decide_eq_true_eq] at t
    exact ⟨by simp only [PyData.showable, decide_eq_true_eq]; omega, by simp [PyData.depth]⟩
  | .bool b, n, _ => ⟨rfl, by simp [PyData.depth]⟩
  | .none, n, _ => ⟨rfl, by simp [PyData.depth]⟩
theorem tameA_showable : ∀ {ds : List PyData} {n : Nat}, tameA true ds n = true → PyData.showableAll ds = true ∧ PyData.depthAll ds ≤ n + 1
  | [], _, _ => ⟨rfl, by simp [PyData.depthAll]⟩
  | x :: xs, n, t => by
    simp only [tameA, Bool.and_eq_true] at t
    obtain ⟨h1, h2⟩ := tame_showable t.1
    obtain ⟨h3, h4⟩ := tameA_showable t.2
    exact ⟨by simp [PyData.showableAll, h1, h3], by simp only [PyData.depthAll]; omega⟩
end
/-- repr can be asked of it -/
def rprOk (d : PyData) : Prop := d.showable = true ∧ d.shown.length ≤ sizeLine ∧ d.depth ≤ 100
theorem rpr_tame {d : PyData} {n : Nat} (h : tame true d n = true) (hn : n ≤ 4) : rprOk d := by
  obtain ⟨h1, h2⟩ := tame_showable h
  refine ⟨h1, Nat.le_trans (tame_shown h) (Nat.le_trans (tB_mono hn) (by decide)), by omega⟩
theorem rpr_two {d e : PyData} (h1 : tame true d 3 = true) (h2 : tame true e 4 = true) : rprOk (.list [d, e]) := by
  obtain ⟨a1, a2⟩ := tame_showable h1
  obtain ⟨b1, b2⟩ := tame_showable h2
  have c1 := tame_shown h1
  have c2 := tame_shown h2
  have z := listText_len_le (PyData.shownAll [d, e])
  have t3 : tB 3 = 319243 := by decide
  have t4 : tB 4 = 12769803 := by decide
  refine ⟨by simp [PyData.showable, PyData.showableAll, a1, b1], ?_, by simp only [PyData.depth, PyData.depthAll]; omega⟩
  show (listText (PyData.shownAll [d, e])).length ≤ sizeLine
  simp only [PyData.shownAll, List.map_cons, List.map_nil, List.sum_cons, List.sum_nil, List.length_cons, List.length_nil] at z ⊢
  have sz : sizeLine = 16777216 := rfl
  omega
/-- repr(x) -/
def rReprD : List V → Hp → VK → Prop := fun xs H Q => ∃ x d, xs = [x] ∧ Dr All H x d ∧ rprOk d ∧ Q (.str d.shown) H
theorem call_reprD {X : Cx} {k : Nat} (room : Room k X.A) (free : X.A.guards = some []) (sm : ∃ o, X.base.get? sysModules = some o) : CallR X (.builtin "repr") rReprD := by
  intro pins s σ H xs us Q I r h
  obtain ⟨x, d, rfl, rd, ⟨k1, k2, k3⟩, q⟩ := h
  obtain ⟨u, rfl, rv⟩ := vals1 r
  obtain ⟨as, hr, hn⟩ := drReads I.hok rd rv
  have hu := room.un
  have hsm : d.hasDict = true → sysModules ∉ as := fun _ z => by
    obtain ⟨o, e⟩ := sm
    exact hn _ z (I.bs _ _ e).2
  cases hr with
  | none => exact PySem.P.repr_of_none ⟨.str _, H, I.tok _, ⟨_, rfl⟩, q⟩
  | bool b => exact PySem.P.repr_of_bool ⟨.str _, H, I.tok _, ⟨_, rfl⟩, q⟩
  | int i t =>
    simp only [PyData.showable, decide_eq_true_eq] at k1
    exact PySem.P.repr_of_int k1 ⟨.str _, H, I.tok _, ⟨_, rfl⟩, q⟩
  | str x t => exact PySem.P.repr_of_str ⟨.str _, H, I.tok _, ⟨_, rfl⟩, q⟩ k2
  | list h1 h2 h3 h4 => exact PySem.repr_of_reads' (.list h1 h2 h3 h4) k1 hsm free (by omega) (fun _ _ e => e) (fun h' u tk hk => ⟨.str _, H, I.kept hk, ⟨_, rfl⟩, q⟩) k2
  | tuple h1 h2 h3 h4 => exact PySem.repr_of_reads' (.tuple h1 h2 h3 h4) k1 hsm free (by omega) (fun _ _ e => e) (fun h' u tk hk => ⟨.str _, H, I.kept hk, ⟨_, rfl⟩, q⟩) k2
  | dict h1 h2 h3 h4 h5 => exact PySem.repr_of_reads' (.dict h1 h2 h3 h4 h5) k1 hsm free (by omega) (fun _ _ e => e) (fun h' u tk hk => ⟨.str _, H, I.kept hk, ⟨_, rfl⟩, q⟩) k2
end K8

/-! The defs that are called by keywords alone. -/
namespace K8
open PySem PySem.Spec PyProof.Rows L2 WR
section
variable {P : Program} {w : World} {K : PySem.W.Frag} {mg : Str → Option Value} {base : Heap} {CX : CXT} {k : Nat} {x : Str} {ps : List Str} {sp : Sp} {d : He.DefD}
theorem DfF.kw (D : DfF P w K mg base CX k x ps sp d) (ks : List Str) (g : {α : Type} → List α → List α) (hrel : ∀ {zs : List V} {ws : List Value}, Vals zs ws → Vals (g zs) (g ws))
    (h : ∀ (kV doc pm : Value) (an : Option Addr) (cdv ct : Value) (ws : List Value), ws.length = ks.length → bindArgs (PySem.W.fnOf d.name d.qual d.params d.body d.scope .none kV doc pm an cdv ct) ⟨[], ks.zip ws⟩ = pure (ps.zip (g ws))) :
    DfK P w K mg base CX k x ps ks (fun _ ws => g ws) (fun _ zs => g zs) sp := by
  obtain ⟨f, fd, hm, F, b, G⟩ := D.ex
  refine ⟨f, fd, hm, F.kp, ⟨fun s us ws X l1 l2 => ?_, fun r1 r2 => hrel r2⟩, G⟩
  obtain rfl : us = [] := List.eq_nil_of_length_eq_zero l1
  obtain ⟨oc, od, dV, kV, doc, pm, an, cdv, ct, osl, rfl, lk, hcd, hD, hK⟩ := F.ex
  rcases hD with ⟨_, rfl⟩ | ⟨e, _⟩
  · exact .of_eq (h kV doc pm an cdv ct ws l2)
  · exact absurd rfl e
theorem kw_needs_of (D : DfF P w K mg base CX k x ["web", "part"] sp dneeds_of) : DfK P w K mg base CX k x ["web", "part"] ["part", "web"] (fun _ ws => ws.reverse) (fun _ zs => zs.reverse) sp :=
  D.kw ["part", "web"] (fun l => l.reverse) (fun r => r.reverse) fun _ _ _ _ _ _ ws hl => match ws, hl with | [_, _], _ => rfl
theorem kw_tests_in (D : DfF P w K mg base CX k x ["web", "part"] sp dtests_in) : DfK P w K mg base CX k x ["web", "part"] ["part", "web"] (fun _ ws => ws.reverse) (fun _ zs => zs.reverse) sp :=
  D.kw ["part", "web"] (fun l => l.reverse) (fun r => r.reverse) fun _ _ _ _ _ _ ws hl => match ws, hl with | [_, _], _ => rfl
theorem kw_steps_in (D : DfF P w K mg base CX k x ["web", "part"] sp dsteps_in) : DfK P w K mg base CX k x ["web", "part"] ["part", "web"] (fun _ ws => ws.reverse) (fun _ zs => zs.reverse) sp :=
  D.kw ["part", "web"] (fun l => l.reverse) (fun r => r.reverse) fun _ _ _ _ _ _ ws hl => match ws, hl with | [_, _], _ => rfl
theorem kw_depth_of (D : DfF P w K mg base CX k x ["web", "part"] sp ddepth_of) : DfK P w K mg base CX k x ["web", "part"] ["part", "web"] (fun _ ws => ws.reverse) (fun _ zs => zs.reverse) sp :=
  D.kw ["part", "web"] (fun l => l.reverse) (fun r => r.reverse) fun _ _ _ _ _ _ ws hl => match ws, hl with | [_, _], _ => rfl
theorem kw_tree_of (D : DfF P w K mg base CX k x ["web", "part"] sp dtree_of) : DfK P w K mg base CX k x ["web", "part"] ["part", "web"] (fun _ ws => ws.reverse) (fun _ zs => zs.reverse) sp :=
  D.kw ["part", "web"] (fun l => l.reverse) (fun r => r.reverse) fun _ _ _ _ _ _ ws hl => match ws, hl with | [_, _], _ => rfl
theorem kw_decided (D : DfF P w K mg base CX k x ["web", "truths"] sp ddecided) : DfK P w K mg base CX k x ["web", "truths"] ["truths", "web"] (fun _ ws => ws.reverse) (fun _ zs => zs.reverse) sp :=
  D.kw ["truths", "web"] (fun l => l.reverse) (fun r => r.reverse) fun _ _ _ _ _ _ ws hl => match ws, hl with | [_, _], _ => rfl
end
end K8

/-! Lists for tuples: the same rows, the same faults. Two scans of one web tell the same. -/
namespace K8
open PySem PySem.Spec PyProof.Rows L2 WR
theorem Lo.scal {x y : PyData} (h : Lo x y) (z : isDL x = false) : y = x := by
  cases h with
  | same _ => rfl
  | dct => rfl
  | _ => cases z
theorem Lo.eqL {x y : PyData} (h : Lo x y) : isL x = isL y := by
  cases h <;> rfl
theorem Lo.eqDL {x y : PyData} (h : Lo x y) : isDL x = isDL y := by
  cases h <;> rfl
theorem LoA.length : ∀ {xs ys : List PyData}, LoA xs ys → xs.length = ys.length
  | _, _, .nil => rfl
  | _, _, .cons _ t => by simp [LoA.length t]
theorem Lo.items {x y : PyData} (h : Lo x y) : LoA (its x) (its y) := by
  cases h with
  | same z =>
    have e : its x = [] := by cases x <;> first | rfl | cases z
    rw [e]
    exact .nil
  | dct => exact .nil
  | ll a => exact a
  | lt a => exact a
  | tl a => exact a
  | tt a => exact a
theorem LoA.getD : ∀ {xs ys : List PyData} (i : Nat), LoA xs ys → Lo (xs.getD i .none) (ys.getD i .none)
  | _, _, i, .nil => by simpa using Lo.same (d := .none) rfl
  | _, _, 0, .cons a _ => by simpa using a
  | _, _, i + 1, .cons _ t => by simpa using LoA.getD i t
theorem LoA.drop : ∀ {xs ys : List PyData} (i : Nat), LoA xs ys → LoA (xs.drop i) (ys.drop i)
  | _, _, 0, h => h
  | _, _, i + 1, .nil => .nil
  | _, _, i + 1, .cons _ t => by simpa using LoA.drop i t
theorem Lo.nth {x y : PyData} (h : Lo x y) (i : Nat) : Lo (K8.nth x i) (K8.nth y i) := h.items.getD i
/-- of what tells true of plain things alone -/
theorem Lo.pred {f : PyData → Bool} (hf : ∀ d : PyData, K8.isDL d = true → f d = false) {x y : PyData} (h : Lo x y) : f x = f y ∧ (f x = true → x = y) := by
  cases hd : K8.isDL x with
  | false => rw [h.scal hd]; exact ⟨rfl, fun _ => rfl⟩
  | true =>
    have hy : K8.isDL y = true := by rw [← h.eqDL]; exact hd
    rw [hf x hd, hf y hy]
    exact ⟨rfl, fun z => nomatch z⟩
theorem dl_num (d : PyData) (h : isDL d = true) : isNum d = false := by cases d <;> first | rfl | cases h
theorem dl_s (d : PyData) (h : isDL d = true) : isS d = false := by cases d <;> first | rfl | cases h
theorem dl_name (d : PyData) (h : isDL d = true) : isName d = false := by cases d <;> first | rfl | cases h
theorem LoA.nums : ∀ {xs ys : List PyData}, LoA xs ys → xs.all isNum = ys.all isNum ∧ (xs.all isNum = true → xs = ys)
  | _, _, .nil => ⟨rfl, fun _ => rfl⟩
  | _, _, .cons (d := d) (e := e) (ds := ds) (es := es) a t => by
    obtain ⟨h1, h2⟩ := Lo.pred dl_num a
    obtain ⟨h3, h4⟩ := LoA.nums t
    refine ⟨by simp only [List.all_cons, h1, h3], fun z => ?_⟩
    simp only [List.all_cons, Bool.and_eq_true] at z
    rw [h2 z.1, h4 z.2]
theorem rowForm_lo {d e : PyData} (h : Lo d e) : rowForm d = rowForm e := by
  have hL := h.eqL
  have hl := h.items.length
  obtain ⟨s1, s2⟩ := Lo.pred dl_s (h.nth 0)
  unfold rowForm
  rw [← hL, ← hl, ← s1]
  by_cases c : isL d = true ∧ (its d).length ≠ 0 ∧ isS (nth d 0) = true
  · rw [if_pos c, if_pos c]
    have e0 := s2 c.2.2
    obtain ⟨n1, n2⟩ := Lo.pred dl_name (h.nth 1)
    obtain ⟨a1, a2⟩ := (h.nth 2).items.nums
    have a3 : areNums (nth d 2) = areNums (nth e 2) := by unfold areNums; rw [(h.nth 2).eqL, a1]
    obtain ⟨b1, b2⟩ := (h.items.drop 1).nums
    have at_ : ∀ i, nth d (i + 1) = ((its d).drop 1).getD i .none := fun i => by simp [nth, List.getD_eq_getElem?_getD, List.getElem?_drop, Nat.add_comm]
    have at2 : ∀ i, nth e (i + 1) = ((its e).drop 1).getD i .none := fun i => by simp [nth, List.getD_eq_getElem?_getD, List.getElem?_drop, Nat.add_comm]
    unfold rowForm2
    rw [← e0, ← hl, ← n1, ← a3, ← b1]
    by_cases c1 : (strOf (nth d 0) = "made" ∨ strOf (nth d 0) = "asked") ∧ (its d).length = 3
    · rw [if_pos c1, if_pos c1]
      by_cases c2 : (isName (nth d 1) && areNums (nth d 2)) = true
      · rw [if_pos c2, if_pos c2]
        simp only [Bool.and_eq_true] at c2
        have c3 := c2.2
        simp only [areNums, Bool.and_eq_true] at c3
        rw [← n2 c2.1, ← a2 c3.2]
      · rw [if_neg c2, if_neg c2]
    · rw [if_neg c1, if_neg c1]
      by_cases b : ((its d).drop 1).all isNum = true
      · have eb := b2 b
        rw [at_ 0, at_ 1, at_ 2, at2 0, at2 1, at2 2, ← eb]
      · have n1 : ¬ (strOf (nth d 0) = "either" ∧ (its d).length = 4 ∧ ((its d).drop 1).all isNum = true) := fun z => b z.2.2
        have n2 : ¬ (strOf (nth d 0) = "given" ∧ (its d).length = 2 ∧ ((its d).drop 1).all isNum = true) := fun z => b z.2.2
        rw [if_neg n1, if_neg n1, if_neg n2, if_neg n2]
  · rw [if_neg c, if_neg c]
theorem Scan.lo {R R' : List Row} {n : Nat} {ds : List PyData} {f : PyData} (h : Scan R n ds R' f) : ∀ {es : List PyData}, LoA ds es → Scan R n es R' f := by
  induction h with
  | done =>
    intro es a
    cases a
    exact .done
  | form e =>
    intro es a
    cases a with
    | cons a t => exact .form (by rw [← rowForm_lo a]; exact e)
  | why e1 e2 =>
    intro es a
    cases a with
    | cons a t => exact .why (by rw [← rowForm_lo a]; exact e1) e2
  | twice e1 e2 e3 =>
    intro es a
    cases a with
    | cons a t => exact .twice (by rw [← rowForm_lo a]; exact e1) e2 e3
  | next e1 e2 e3 _ ih =>
    intro es a
    cases a with
    | cons a t => exact .next (by rw [← rowForm_lo a]; exact e1) e2 e3 (ih t)
theorem ScanOf.lo {d e : PyData} {R : List Row} {f : PyData} (h : ScanOf d R f) (l : Lo d e) : ScanOf e R f := by
  rcases h with ⟨hL, h⟩ | ⟨hL, h⟩
  · exact .inl ⟨by rw [← l.eqL]; exact hL, h.lo l.items⟩
  · exact .inr ⟨by rw [← l.eqL]; exact hL, h⟩
theorem Scan.det {R R1 R2 : List Row} {n : Nat} {ds : List PyData} {f1 f2 : PyData} (h : Scan R n ds R1 f1) : Scan R n ds R2 f2 → R1 = R2 ∧ f1 = f2 := by
  induction h with
  | done =>
    intro k
    cases k
    exact ⟨rfl, rfl⟩
  | form e =>
    intro k
    cases k with
    | form _ => exact ⟨rfl, rfl⟩
    | why e1 _ => exact absurd (e1.symm.trans e) (Row.d_ne _)
    | twice e1 _ _ => exact absurd (e1.symm.trans e) (Row.d_ne _)
    | next e1 _ _ _ => exact absurd (e1.symm.trans e) (Row.d_ne _)
  | why e e2 =>
    intro k
    cases k with
    | form e1 => exact absurd (e.symm.trans e1) (Row.d_ne _)
    | why e1 e3 =>
      have := Row.d_inj (e.symm.trans e1)
      subst this
      rw [e2] at e3
      cases e3
      exact ⟨rfl, rfl⟩
    | twice e1 e3 _ =>
      have := Row.d_inj (e.symm.trans e1)
      subst this
      rw [e2] at e3
      cases e3
    | next e1 e3 _ _ =>
      have := Row.d_inj (e.symm.trans e1)
      subst this
      rw [e2] at e3
      cases e3
  | twice e e2 m =>
    intro k
    cases k with
    | form e1 => exact absurd (e.symm.trans e1) (Row.d_ne _)
    | why e1 e3 =>
      have := Row.d_inj (e.symm.trans e1)
      subst this
      rw [e2] at e3
      cases e3
    | twice e1 e3 _ => exact ⟨rfl, rfl⟩
    | next e1 e3 m2 _ =>
      have := Row.d_inj (e.symm.trans e1)
      subst this
      exact absurd m m2
  | next e e2 m _ ih =>
    intro k
    cases k with
    | form e1 => exact absurd (e.symm.trans e1) (Row.d_ne _)
    | why e1 e3 =>
      have := Row.d_inj (e.symm.trans e1)
      subst this
      rw [e2] at e3
      cases e3
    | twice e1 e3 m2 =>
      have := Row.d_inj (e.symm.trans e1)
      subst this
      exact absurd m2 m
    | next e1 e3 m2 k2 =>
      have := Row.d_inj (e.symm.trans e1)
      subst this
      exact ih k2
theorem ScanOf.det {d : PyData} {R1 R2 : List Row} {f1 f2 : PyData} (h : ScanOf d R1 f1) (k : ScanOf d R2 f2) : R1 = R2 ∧ f1 = f2 := by
  rcases h with ⟨hL, h⟩ | ⟨hL, h1, h2⟩ <;> rcases k with ⟨kL, k⟩ | ⟨kL, k1, k2⟩
  · exact h.det k
  · rw [hL] at kL; cases kL
  · rw [hL] at kL; cases kL
  · exact ⟨h1.trans k1.symm, h2.trans k2.symm⟩
mutual
theorem tame_lo {b : Bool} : ∀ {d e : PyData} {n : Nat}, Lo d e → tame b d n = true → tame b e n = true
  | _, _, _, .same _, t => t
  | _, _, _, .dct, t => t
  | _, _, _, .ll a, t => by
    simp only [tame, Bool.and_eq_true, decide_eq_true_eq] at t ⊢
    exact ⟨⟨t.1.1, by rw [← a.length]; exact t.1.2⟩, tameA_lo a t.2⟩
  | _, _, _, .lt a, t => by
    simp only [tame, Bool.and_eq_true, decide_eq_true_eq] at t ⊢
    exact ⟨⟨t.1.1, by rw [← a.length]; exact t.1.2⟩, tameA_lo a t.2⟩
  | _, _, _, .tl a, t => by
    simp only [tame, Bool.and_eq_true, decide_eq_true_eq] at t ⊢
    exact ⟨⟨t.1.1, by rw [← a.length]; exact t.1.2⟩, tameA_lo a t.2⟩
  | _, _, _, .tt a, t => by
    simp only [tame, Bool.and_eq_true, decide_eq_true_eq] at t ⊢
    exact ⟨⟨t.1.1, by rw [← a.length]; exact t.1.2⟩, tameA_lo a t.2⟩
theorem tameA_lo {b : Bool} : ∀ {ds es : List PyData} {n : Nat}, LoA ds es → tameA b ds n = true → tameA b es n = true
  | _, _, _, .nil, _ => rfl
  | _, _, _, .cons a t, h => by
    simp only [tameA, Bool.and_eq_true] at h ⊢
    exact ⟨tame_lo a h.1, tameA_lo t h.2⟩
end
mutual
theorem tame_wd : ∀ {d : PyData} {n : Nat}, tame true d n = true → wd d = true
  | .list xs, n, t => by
    simp only [tame, Bool.and_eq_true, decide_eq_true_eq] at t
    simp only [wd, Bool.and_eq_true, decide_eq_true_eq]
    exact ⟨Nat.le_trans t.1.2 (Nat.le_trans (cap_le n) (by decide)), tameA_wd t.2⟩
  | .tuple xs, n, t => by
    simp only [tame, Bool.and_eq_true, decide_eq_true_eq] at t
    simp only [wd, Bool.and_eq_true, decide_eq_true_eq]
    exact ⟨Nat.le_trans t.1.2 (Nat.le_trans (cap_le n) (by decide)), tameA_wd t.2⟩
  | .dict ps, n, t => by
    simp only [tame, Bool.and_eq_true, decide_eq_true_eq, Bool.or_eq_true, List.isEmpty_iff, Bool.true_and] at t
    rcases t.2 with rfl | h1
    · rfl
    · obtain ⟨x, i, rfl⟩ : ∃ x i, ps = [(.str x, .int i)] := by
        match ps, h1 with
        | [(.str x, .int i)], _ => exact ⟨x, i, rfl⟩
      simp only [okOne, okStr, Bool.and_eq_true, decide_eq_true_eq] at h1
      simp only [wd, wdK, Bool.and_eq_true, decide_eq_true_eq, List.length_cons, List.length_nil]
      have l : lim = 4000 := rfl
      exact ⟨by omega, ⟨by omega, by omega⟩, trivial⟩
  | .str x, n, t => by
    simp only [tame, okStr, Bool.and_eq_true, decide_eq_true_eq] at t
    simp only [wd, decide_eq_true_eq]
    have l : lim = 4000 := rfl
    omega
  | .int i, n, t => by
    simp only [tame, decide_eq_true_eq] at t
    simp only [wd, decide_eq_true_eq]
    omega
  | .bool _, _, _ => rfl
  | .none, _, _ => rfl
theorem tameA_wd : ∀ {ds : List PyData} {n : Nat}, tameA true ds n = true → wdA ds = true
  | [], _, _ => rfl
  | d :: ds, n, t => by
    simp only [tameA, Bool.and_eq_true] at t
    simp only [wdA, Bool.and_eq_true]
    exact ⟨tame_wd t.1, tameA_wd t.2⟩
end
end K8

/-! _law_judged_right. -/
namespace K8
open PySem PySem.Spec PyProof.Rows L2 WR LamX
/-- all but the well and the tables of code stay -/
def GwN (w : Addr) (H H' : Hp) : Prop := ∀ b o, b ≠ w → H b = some o → (∀ ps, o ≠ .tbl ps) → H' b = some o
theorem GwN.of {w : Addr} {H H' : Hp} (s : Gw w H H') : GwN w H H' := fun b o h e _ => s b o h e
theorem GwN.ext {w : Addr} {H H' : Hp} (s : ExtN H H') : GwN w H H' := fun b o _ e n => s b o e n
theorem GwN.trans {w : Addr} {H H1 H2 : Hp} (s : GwN w H H1) (t : GwN w H1 H2) : GwN w H H2 := fun b o h e n => t b o h (s b o h e n) n
theorem tabs_gw {T : List (Addr × Str)} {w : Addr} {n : Nat} {H H' : Hp} (t : Tabs T H) (hw : Wl H w n) (g : Gw w H H') : Tabs T H' := fun p hp => by
  obtain ⟨ps, h1, h2, h3⟩ := t p hp
  obtain ⟨a, b, c, ew, _⟩ := hw
  refine ⟨ps, g _ _ (fun z => ?_) h1, h2, fun pos cv hc => ?_⟩
  · rw [z, ew] at h1
    cases h1
  · obtain ⟨c0, e1, e2⟩ := h3 pos cv hc
    refine ⟨c0, e1, g _ _ (fun z => ?_) e2⟩
    rw [z, ew] at e2
    unfold CodeO at e2
    cases e2
mutual
theorem drX {N : Addr → Prop} {H H' : Hp} (x : ExtN H H') : ∀ {d : PyData} {v : V}, Dr N H v d → Dr N H' v d
  | _, _, .non => .non
  | _, _, .bl b => .bl b
  | _, _, .int i => .int i
  | _, _, .str y => .str y
  | _, _, .lst n e r => .lst n (x _ _ e fun _ z => nomatch z) (drXA x r)
  | _, _, .tup e r => .tup (x _ _ e fun _ z => nomatch z) (drXA x r)
  | _, _, .dct n e r => .dct n (x _ _ e fun _ z => nomatch z) (drXK x r)
theorem drXA {N : Addr → Prop} {H H' : Hp} (x : ExtN H H') : ∀ {ds : List PyData} {vs : List V}, DrA N H vs ds → DrA N H' vs ds
  | _, _, .nil => .nil
  | _, _, .cons r t => .cons (drX x r) (drXA x t)
theorem drXK {N : Addr → Prop} {H H' : Hp} (x : ExtN H H') : ∀ {ps : List (PyData × PyData)} {kvs : List (Key × V)}, DrK N H kvs ps → DrK N H' kvs ps
  | _, _, .nil => .nil
  | _, _, .cons r t => .cons (drX x r) (drXK x t)
end
/-- what the law's own functions that make lambdas promise of the tables -/
abbrev TabL : Type := List (Addr × Str)
abbrev spJR (T : TabL) : Sp := fun vs H Q _ => ∃ (w : Addr) (n : Nat) (v : V) (d : PyData), vs = [.ref w, v] ∧ Wl H w n ∧ n + 41 ^ 4 + 6000 < top0 ∧ Dr (Ne w) H v d ∧ tame true d 4 = true ∧ Tabs T H ∧
  ∀ H', GwN w H H' → Wl H' w (n + 41 ^ 4) → Tabs T H' → Q (.bl true) H'
theorem ScanOf.fz {d : PyData} {R : List Row} {f : PyData} (h : ScanOf d R f) : WR.fz f = true := by
  rcases h.res with rfl | ⟨m, x, rfl⟩ <;> rfl
theorem why_len {R : List Row} {r : Row} {x : Str} (h : why R r = some x) : x.length ≤ 10 := by
  unfold why at h
  split at h
  · cases h
    decide
  · unfold why2 at h
    split at h
    · cases h
      decide
    · unfold why3 at h
      split at h
      · cases h
        decide
      · unfold why4 at h
        split at h
        · cases h
          decide
        · cases h
theorem nat_log {n : Nat} (h : n ≤ 1000000) : ((n : Nat) : Int).natAbs.log2 < 100 := log_small (by
  have : (1000000 : Nat) < 2 ^ 99 := by decide
  have e : ((n : Nat) : Int).natAbs = n := Int.natAbs_natCast n
  omega)
theorem fault_fit {n : Nat} {x : Str} (hn : n ≤ 1000000) (hx : x.length ≤ 10) : fit (faultD n x) 1 = true := by
  have := nat_log hn
  have l : lim = 4000 := rfl
  simp only [faultD, fit, fitA, List.length_cons, List.length_nil, Bool.and_eq_true, decide_eq_true_eq, Bool.and_true]
  exact ⟨⟨by omega, by omega⟩, ⟨by omega, by omega⟩⟩
theorem Scan.fit {R R' : List Row} {n : Nat} {ds : List PyData} {f : PyData} (h : Scan R n ds R' f) : n + ds.length ≤ 1000000 → K8.fit f 1 = true := by
  induction h with
  | done => intro _; rfl
  | form _ => intro l; exact fault_fit (by simp at l; omega) (by decide)
  | why _ e => intro l; exact fault_fit (by simp at l; omega) (why_len e)
  | twice _ _ _ => intro l; exact fault_fit (by simp at l; omega) (by decide)
  | next _ _ _ _ ih => intro l; exact ih (by simp at l ⊢; omega)
theorem ScanOf.fit {d : PyData} {R : List Row} {f : PyData} (h : ScanOf d R f) (w : wd d = true) : K8.fit f 1 = true := by
  have l : lim = 4000 := rfl
  rcases h with ⟨hL, h⟩ | ⟨_, _, rfl⟩
  · exact h.fit (by have := (wd_its w hL).1; omega)
  · exact fault_fit (by omega) (by decide)
mutual
theorem fit_mono : ∀ {d : PyData} {n m : Nat}, n ≤ m → fit d n = true → fit d m = true
  | .list xs, n, m, h, t => by
    simp only [fit, Bool.and_eq_true, decide_eq_true_eq] at t ⊢
    exact ⟨⟨by omega, t.1.2⟩, fitA_mono (by omega) t.2⟩
  | .tuple xs, n, m, h, t => by
    simp only [fit, Bool.and_eq_true, decide_eq_true_eq] at t ⊢
    exact ⟨⟨by omega, t.1.2⟩, fitA_mono (by omega) t.2⟩
  | .dict ps, n, m, h, t => by
    simp only [fit, Bool.and_eq_true, decide_eq_true_eq] at t ⊢
    exact ⟨by omega, t.2⟩
  | .str x, n, m, h, t => by simpa only [fit] using t
  | .int i, n, m, h, t => by simpa only [fit] using t
  | .bool _, n, m, h, t => by simp only [fit]
  | .none, n, m, h, t => by simp only [fit]
theorem fitA_mono : ∀ {ds : List PyData} {n m : Nat}, n ≤ m → fitA ds n = true → fitA ds m = true
  | [], _, _, _, _ => rfl
  | d :: ds, n, m, h, t => by
    simp only [fitA, Bool.and_eq_true] at t ⊢
    exact ⟨fit_mono h t.1, fitA_mono h t.2⟩
end
theorem fit_two {d e : PyData} {n : Nat} (h : fit d n = true) (k : fit e n = true) : fit (.list [d, e]) (n + 1) = true := by
  have l : lim = 4000 := rfl
  simp only [fit, fitA, List.length_cons, List.length_nil, Bool.and_eq_true, decide_eq_true_eq, Nat.add_sub_cancel]
  exact ⟨⟨by omega, by omega⟩, h, k, trivial⟩
end K8

/-! What is shared with law_k09: places, sizes, what is new, calls that are not refused. -/
namespace K8
open PySem PySem.Spec PyProof.Rows L2 WR
theorem placeOf_snoc {r : Row} : ∀ {R : List Row} {n : Nat}, r ∉ R → placeOf (R ++ [r]) r n = some (n + R.length)
  | [], n, _ => by
    show (if r = r then some n else _) = _
    rw [if_pos rfl]
    rfl
  | s :: R, n, h => by
    show (if s = r then some n else placeOf (R ++ [r]) r (n + 1)) = _
    rw [if_neg fun e => h (by rw [e]; exact List.mem_cons_self ..), placeOf_snoc fun z => h (List.mem_cons_of_mem _ z)]
    simp only [List.length_cons]
    congr 1
    omega
theorem placeOf_new (R : List Row) (r : Row) : placeOf (newRows R r) r 0 = some (idxOf R r) := by
  unfold newRows
  by_cases h : r ∈ R
  · rw [if_pos h]
    exact (idxOf_at h).1
  · rw [if_neg h, placeOf_snoc h, idxOf_new h, Nat.zero_add]
theorem rows_refs {N : Addr → Prop} {H : Hp} : ∀ {R : List Row} {ys : List V}, DrA N H ys (R.map Row.d) → ∃ as : List Addr, ys = as.map V.ref
  | [], _, .nil => ⟨[], rfl⟩
  | r :: R, _, .cons q t => by
    obtain ⟨a, rfl⟩ := Row.d_ref q
    obtain ⟨as, rfl⟩ := rows_refs t
    exact ⟨a :: as, rfl⟩
theorem rows_no {N : Addr → Prop} {H : Hp} {R : List Row} {ys : List V} (r : DrA N H ys (R.map Row.d)) : DrA No H ys (R.map Row.d) := r.fz (rowsFz R)
/-- rows.index(row) -/
theorem index_r {X : Cx} {σ : L2.St} {H : Hp} {Q : VK} {i j : Nat} {a : Addr} {y : V} {R : List Row} {r : Row} {k : Nat} {xs : List V} (h1 : σ[i]? = some (some (.ref a))) (h10 : σ[j]? = some (some y)) (e : H a = some (.lst xs)) (ra : DrA No H xs (R.map Row.d)) (rr : Dr All H y r.d) (ok : ∀ r ∈ R, r.ok) (rok : r.ok)
    (hk : placeOf R r 0 = some k) (q : Q (.int (k : Nat)) H) : tBM X.K "list" (rIndexD X.K) (tVar i) (tCons (tVar j) tNil) σ H Q := by
  obtain ⟨m, e1, e2, e3⟩ := placeOf_at (R := R) hk
  have eqR : eqOk (rowsD R) := rows_eqOk ok
  have eqr : eqOk r.d := Row.eqOk rok
  have rd : Dr All H (.ref a) (rowsD R) := .lst trivial e ra.all
  refine ⟨_, h1, .inl ⟨rfl, xs, SqL.of e⟩, _, h10, a, y, r.d, R.map Row.d, m, r.d, rfl, rfl, eqR.dp rd, eqr.dp rr, eqR.shaped, eqr.shaped, by rw [List.getElem?_map, e2]; rfl, by rw [Row.eqv]; exact decide_eq_true rfl, fun m' z' hm' hz => ?_, ?_⟩
  · rw [List.getElem?_map] at hz
    cases eS : R[m']? with
    | none => rw [eS] at hz; cases hz
    | some s =>
      rw [eS] at hz
      cases hz
      rw [Row.eqv]
      exact decide_eq_false (e3 m' s hm' eS)
  · rw [show (m : Nat) = k by omega]
    exact q
theorem int_eqOk (k : Nat) (h : k ≤ 1000000) : eqOk (.int (k : Nat)) := by
  have := nums_eqOk [k]
  refine ⟨?_, ?_⟩
  · have h1 := this.1
    simp only [nums, List.map_cons, List.map_nil, PyData.canLay0, PyData.canLayAll0, Bool.and_eq_true] at h1 ⊢
  · show (0 : Nat) ≤ 60
    decide
theorem nums_eqv_nil (ks : List Nat) : PyData.eqv (.list (nums ks)) (.list []) = decide (ks = []) := by
  cases ks with
  | nil => rfl
  | cons k ks => simp [nums, PyData.eqv, PyData.eqvAll]
/-! ### sizes -/
def Row.base : Row → Prop
  | .made _ ks => ks.length ≤ 3
  | .asked _ ks => ks.length ≤ 3
  | .either _ _ _ => True
  | .given k => k ≤ 100
theorem Row.small_base {r : Row} (h : r.small) : r.base := by
  cases r with
  | made n ks => exact h.1
  | asked n ks => exact h.1
  | either a i j => trivial
  | given k => exact h
theorem Row.base_led {r : Row} {f : Nat → Nat} (h : r.base) : (r.led f).base := by
  cases r with
  | made n ks => show (ks.map f).length ≤ 3; rw [List.length_map]; exact h
  | asked n ks => show (ks.map f).length ≤ 3; rw [List.length_map]; exact h
  | either a i j => trivial
  | given k => exact h
theorem Row.base_named {r : Row} (h : r.base) : r.named.length ≤ 3 := by
  cases r with
  | made n ks => exact h
  | asked n ks => exact h
  | either a i j => exact Nat.le_refl _
  | given k => exact Nat.zero_le _
theorem int_fit {k n : Nat} (h : k ≤ 1000000) : fit (.int (k : Nat)) n = true := by
  have := nat_log h
  simp only [fit, decide_eq_true_eq]
  omega
theorem nums_fit {ks : List Nat} {n : Nat} (h : ∀ k ∈ ks, k ≤ 1000000) : fitA (nums ks) n = true := by
  induction ks with
  | nil => rfl
  | cons k ks ih =>
    simp only [nums, List.map_cons, fitA, Bool.and_eq_true]
    exact ⟨int_fit (h k (List.mem_cons_self ..)), ih fun j hj => h j (List.mem_cons_of_mem _ hj)⟩
theorem numsL_fit {ks : List Nat} {n : Nat} (h : ∀ k ∈ ks, k ≤ 1000000) (hl : ks.length ≤ lim) : fit (.list (nums ks)) (n + 1) = true := by
  simp only [fit, Bool.and_eq_true, decide_eq_true_eq, Nat.add_sub_cancel]
  exact ⟨⟨by omega, by simpa [nums] using hl⟩, nums_fit h⟩
theorem Row.fitB {r : Row} (h1 : r.ok) (h2 : r.base) (h3 : ∀ k ∈ r.named, k ≤ 1000000) {n : Nat} : fit r.d (n + 2) = true := by
  have l : lim = 4000 := rfl
  have nm : ∀ {x : Str}, isName (.str x) = true → fit (.str x) (n + 1) = true := fun h => by
    have := name_len h
    simp only [fit, decide_eq_true_eq]
    omega
  cases r with
  | made x ks =>
    have hk : ks.length ≤ 3 := h2
    simp only [Row.d, fit, fitA, List.length_cons, List.length_nil, Bool.and_eq_true, decide_eq_true_eq]
    refine ⟨⟨by omega, by omega⟩, by decide, ?_, ⟨⟨by omega, ?_⟩, nums_fit h3⟩, trivial⟩
    · simpa only [fit, decide_eq_true_eq] using nm h1.1
    · simp [nums]; omega
  | asked x ks =>
    have hk : ks.length ≤ 3 := h2
    simp only [Row.d, fit, fitA, List.length_cons, List.length_nil, Bool.and_eq_true, decide_eq_true_eq]
    refine ⟨⟨by omega, by omega⟩, by decide, ?_, ⟨⟨by omega, ?_⟩, nums_fit h3⟩, trivial⟩
    · simpa only [fit, decide_eq_true_eq] using nm h1.1
    · simp [nums]; omega
  | either a i j =>
    have e1 := nat_log (h3 a (by simp [Row.named]))
    have e2 := nat_log (h3 i (by simp [Row.named]))
    have e3 := nat_log (h3 j (by simp [Row.named]))
    simp only [Row.d, fit, fitA, List.length_cons, List.length_nil, Bool.and_eq_true, decide_eq_true_eq]
    exact ⟨⟨by omega, by omega⟩, by decide, by omega, by omega, by omega, trivial⟩
  | given k =>
    have hk : k ≤ 100 := h2
    have e1 := nat_log (n := k) (by omega)
    simp only [Row.d, fit, fitA, List.length_cons, List.length_nil, Bool.and_eq_true, decide_eq_true_eq]
    exact ⟨⟨by omega, by omega⟩, by decide, by omega, trivial⟩
theorem fitA_of {n : Nat} : ∀ {ds : List PyData}, (∀ d ∈ ds, fit d n = true) → fitA ds n = true
  | [], _ => rfl
  | d :: ds, h => by
    simp only [fitA, Bool.and_eq_true]
    exact ⟨h d (List.mem_cons_self ..), fitA_of fun e he => h e (List.mem_cons_of_mem _ he)⟩
theorem rows_fit {R : List Row} (W : Web R) (hb : ∀ r ∈ R, r.base) (hl : R.length ≤ 1000) {n : Nat} : fit (rowsD R) (n + 3) = true := by
  have l : lim = 4000 := rfl
  simp only [rowsD, fit, Bool.and_eq_true, decide_eq_true_eq]
  refine ⟨⟨by omega, by rw [List.length_map]; omega⟩, fitA_of fun d hd => ?_⟩
  obtain ⟨r, hr, rfl⟩ := List.mem_map.mp hd
  obtain ⟨i, hi, rfl⟩ := List.mem_iff_getElem.mp hr
  exact Row.fitB (n := n) (W.ok _ hr) (hb _ hr) fun k hk => by
    rw [← rowAt_get hi] at hk
    have := W.ahead hi k hk
    omega
theorem pair_fit {R : List Row} {ps : List Nat} (W : Web R) (hb : ∀ r ∈ R, r.base) (hl : R.length ≤ 1000) (hp : ∀ k ∈ ps, k ≤ 1000000) (hpl : ps.length ≤ lim) : fit (pairD R ps) 4 = true := by
  have l : lim = 4000 := rfl
  simp only [pairD, fit, fitA, List.length_cons, List.length_nil, Bool.and_eq_true, decide_eq_true_eq]
  exact ⟨⟨by omega, by omega⟩, rows_fit (n := 0) W hb hl, ⟨⟨by omega, by simpa [nums] using hpl⟩, nums_fit hp⟩, trivial⟩
/-! ### what is new -/
structure OwN (H H' : Hp) (v : V) (d : PyData) (f : List Addr) : Prop where
  ow : Ow H' v d f
  nd : f.Nodup
  nw : ∀ b ∈ f, H b = none
theorem Ow.sm {H H' : Hp} {v : V} {d : PyData} {f : List Addr} (o : Ow H v d f) (s : Sm H H') : Ow H' v d f := o.keep (fun a xs e => s _ _ e) fun b _ z e => s _ _ e
theorem OwN.sm {H H1 H' : Hp} {v : V} {d : PyData} {f : List Addr} (o : OwN H H1 v d f) (s : Sm H1 H') : OwN H H' v d f := ⟨o.ow.sm s, o.nd, o.nw⟩
theorem Told2.ow {H H' : Hp} {p : Addr} {R : List Row} {ps : List Nat} (t : Told2 H H' p R ps) : ∃ f, OwN H H' (.ref p) (pairD R ps) f := by
  obtain ⟨l, pl, as, h1, h2, h3, _, h4, h5, h6, h7⟩ := t
  obtain ⟨fs, o, z⟩ := OwA.ofFz h6 (rowsFz R)
  obtain ⟨gs, o2, z2⟩ := OwA.ofFz (N := No) (vints_dr (H := H') ps) (fz_nums ps)
  have h := Ow.tup h4 (.cons (Ow.lst h5 o) (.cons (Ow.lst h7 o2) .nil))
  rw [z, z2] at h
  exact ⟨_, h, by simp [h1], fun b hb => by
    simp at hb
    rcases hb with rfl | rfl
    · exact h2
    · exact h3⟩
theorem list_ow {H H' : Hp} {c : Addr} {ks : List Nat} (h : H c = none) (e : H' c = some (.lst (vN ks))) : OwN H H' (.ref c) (.list (nums ks)) [c] := by
  obtain ⟨gs, o2, z2⟩ := OwA.ofFz (N := No) (vints_dr (H := H') ks) (fz_nums ks)
  have h2 := Ow.lst e o2
  rw [z2] at h2
  exact ⟨h2, by simp, fun b hb => by rw [List.mem_singleton.mp hb]; exact h⟩
theorem two_ow {H H1 H2 : Hp} {v1 v2 : V} {d1 d2 : PyData} {f1 f2 : List Addr} {p : Addr} (o1 : OwN H H1 v1 d1 f1) (s1 : Sm H H1) (o2 : OwN H1 H2 v2 d2 f2) (s2 : Sm H1 H2) (np : H2 p = none) :
    OwN H (upd H2 p (.lst [v1, v2])) (.ref p) (.list [d1, d2]) (p :: [f1, f2].flatten) := by
  have sp := Sm.new (o := .lst [v1, v2]) np
  have l1 := o1.ow.lists
  have l2 := o2.ow.lists
  refine ⟨.lst upd_same (.cons ((o1.ow.sm s2).sm sp) (.cons (o2.ow.sm sp) .nil)), ?_, fun b hb => ?_⟩
  · rw [List.nodup_cons]
    refine ⟨fun hb => ?_, ?_⟩
    · simp only [List.flatten_cons, List.flatten_nil, List.append_nil, List.mem_append] at hb
      rcases hb with z | z
      · obtain ⟨zs, e⟩ := l1 p z
        rw [s2 _ _ e] at np
        cases np
      · obtain ⟨zs, e⟩ := l2 p z
        rw [e] at np
        cases np
    · simp only [List.flatten_cons, List.flatten_nil, List.append_nil]
      rw [List.nodup_append]
      refine ⟨o1.nd, o2.nd, fun a ha b hb e => ?_⟩
      obtain ⟨zs, e1⟩ := l1 a ha
      have e2 := o2.nw b hb
      rw [← e, e1] at e2
      cases e2
  · simp only [List.flatten_cons, List.flatten_nil, List.append_nil, List.mem_cons, List.mem_append] at hb
    rcases hb with rfl | z | z
    · exact (s1.trans s2).free np
    · exact o1.nw b z
    · exact s1.free (o2.nw b z)
theorem needs_call {CW CP : Addr} {v : V} {d : PyData} {k : Nat} {H : Hp} {Q : VK} {E : XK} {R : List Row} (rd : Dr All H v d) (wdd : wd d = true) (s1 : ScanOf d R .none) (hs : sumN R [] ≤ 900000) (pk : isPart R k = true)
    (q : ∀ (ks : List Nat) (c : Addr) (H' : Hp), Sm H H' → H c = none → IsCone R [k] ks → H' c = some (.lst (vN ks)) → Q (.ref c) H') : spNeedsOf CW CP [v, .int (k : Nat)] H Q E := by
  refine ⟨v, .int (k : Nat), d, .int (k : Nat), rfl, rd, wdd, .int _, fun R' z => ?_, fun R' k' ks c H' z1 e1 p1 s nc hc ec => ?_, fun R' n x dx H' z _ _ _ => ?_, fun R' dx H' z hp _ _ _ => ?_⟩
  · obtain ⟨rfl, _⟩ := s1.det z
    exact hs
  · obtain ⟨rfl, _⟩ := s1.det z1
    have : k = k' := by injection e1 with e1; omega
    subst this
    exact q ks c H' s nc hc ec
  · cases (s1.det z).2
  · obtain ⟨rfl, _⟩ := s1.det z
    rw [isPartD_nat, pk] at hp
    cases hp
theorem web_tame {R : List Row} (W : Web R) (hs : ∀ r ∈ R, r.small) (hl : R.length ≤ 40) : tame true (rowsD R) 3 = true := by
  refine tame_lst3 (n := 2) (tameA_of fun d hd => ?_) (by simp; omega)
  obtain ⟨r', hr', rfl⟩ := List.mem_map.mp hd
  obtain ⟨t1, t2, t3, t4, t5⟩ := Row.tm (b := true) (W.ok _ hr') (hs _ hr')
  rw [t4]
  exact tame_tup t1 (by omega)
theorem nf (n : Nat) (x : Str) : ¬ (PyData.none = faultD n x) := fun z => by cases z
theorem lenD (R : List Row) : (its (rowsD R)).length = R.length := by simp [rowsD, its]
theorem Lo.lenI {d e : PyData} (h : Lo d e) : (its d).length = (its e).length := h.items.length
end K8

/-! _law_decided. -/
namespace K8
open PySem PySem.Spec PyProof.Rows L2 WR
abbrev spKDec : Sp := fun vs H Q _ => ∃ (v : V) (a : Addr) (R : List Row) (ts : List (Nat × Bool)), vs = [v, .ref a] ∧ Dr All H v (rowsD R) ∧ Web R ∧ R.length ≤ 1000 ∧ H a = some (.dK (tV ts)) ∧
  ∀ (p : Addr) H', Sm H H' → Told2 H H' p (dec (tF ts) R).1 (dec (tF ts) R).2 → Q (.ref p) H'
theorem newRows_ok {R : List Row} {r : Row} (h : ∀ z ∈ R, z.ok) (hr : r.ok) : ∀ z ∈ newRows R r, z.ok := fun z hz => by
  unfold newRows at hz
  by_cases hmem : r ∈ R
  · rw [if_pos hmem] at hz
    exact h z hz
  · rw [if_neg hmem] at hz
    rcases List.mem_append.mp hz with y | y
    · exact h z y
    · rw [List.mem_singleton.mp y]
      exact hr
theorem cond_k {x ya : V} {a : Addr} {r0 : Row} {ps : List Nat} {ts : List (Nat × Bool)} {σ : L2.St} {H4 : Hp} {t u : TS} {D : Ends} (h4 : σ[4]? = some (some x)) (h5 : σ[5]? = some (some ya)) (h1 : σ[1]? = some (some (.ref a))) (rx : Dr All H4 x r0.d) (ry : Dr All H4 ya (r0.led (fL ps)).d) (ea : H4 a = some (.dK (tV ts)))
    (yes : ∀ c i j k, r0 = .either c i j → decPlace (tF ts) ps r0 = some k → t D σ H4) (no : decPlace (tF ts) ps r0 = none → u D σ H4) :
    tIfS (tAnd (tTest (tOp rEq (tOp WR.rIxD (tVar 4) (tC (V.int 0))) (tC (V.str (Str.ofString "either"))))) (tOr (L2.tB (tDIn (tOp WR.rIxD (tVar 4) (tC (V.int 1))) (tVar 1))) (tTest (tOp rEq (tOp WR.rIxD (tVar 5) (tC (V.int 2))) (tOp WR.rIxD (tVar 5) (tC (V.int 3))))))) t u D σ H4 := by
  refine ⟨_, h4, _, 0, _, rx, Row.seqD _, rfl, Row.word_at _, fun x0 r0' => ?_⟩
  cases r0'.str_inv
  refine ⟨rfl, _, rfl, ?_⟩
  rw [Row.eitherW]
  cases r0 with
  | either c i j =>
    refine iteT ?_
    refine ⟨_, h4, _, 1, _, rx, rfl, rfl, rfl, fun x1 r1 => ?_⟩
    cases r1.int_inv
    refine ⟨_, h1, a, _, rfl, DGet.k (k := Sum.inl (c : Int)) ea, _, rfl, ?_⟩
    rw [tV_val]
    cases ht : tF ts c with
    | some b => exact iteT (iteT (yes c i j _ rfl (by rw [decPlace_either, ht])))
    | none =>
      refine iteF ?_
      refine ⟨_, h5, _, 2, _, ry, rfl, rfl, rfl, fun x2 r2 => ?_⟩
      cases r2.int_inv
      refine ⟨_, h5, _, 3, _, ry, rfl, rfl, rfl, fun x3 r3 => ?_⟩
      cases r3.int_inv
      refine ⟨rfl, _, rfl, ?_⟩
      by_cases hij : fL ps i = fL ps j
      · rw [hij]
        refine ite2 (fun _ => ?_) (fun z => absurd (decide_eq_true rfl) z)
        exact yes c i j _ rfl (by rw [decPlace_either, ht]; exact if_pos hij)
      · refine ite2 (fun z => absurd (of_decide_eq_true z) (fun y => hij (by injection y with y; omega))) (fun _ => ?_)
        exact no (by rw [decPlace_either, ht]; exact if_neg hij)
  | made n ks => exact iteF (iteF (no rfl))
  | asked n ks => exact iteF (iteF (no rfl))
  | given k => exact iteF (iteF (no rfl))
section
variable {P : Program} {w : World} {K : PySem.W.Frag} {mg : Str → Option Value} {base : Heap}
theorem sc__law_decided : FnScope ["rows", "truths", "found", "places", "row", "later"] ["rows", "truths"] (defScope s_law_decided) := ⟨rfl, rfl, rfl, by decide +kernel, rfl, by decide +kernel, by decide +kernel⟩
theorem ok__law_decided (B : Bt mg) (F : Fn K mg d_law_decided) (D1 : Df P w K mg base CX0 1 "_law_led" ["row", "places"] spLed) : Df P w K mg base CX0 2 "_law_decided" ["rows", "truths"] spKDec := by
  obtain ⟨f, fd, hm, F⟩ := F
  refine ⟨f, fd, hm, F.kp, F.bindsN fun _ _ _ _ _ _ us hl => match us, hl with | [_, _], _ => rfl, ?_⟩
  refine F.ok sc__law_decided (fun vs H Q E h => by obtain ⟨v, a, R, ts, rfl, _⟩ := h; rfl) (fun cdv A outer s H vs Q E hr h => ?_)
  obtain ⟨v, a, R, ts, rfl, rd, WR', hlen, ea, q⟩ := h
  have hu := hr.un
  have hu1 := hu_of hr
  have hu65 : (A.deeper (envOfC d_law_decided.qual d_law_decided.scope s.heap.objs.size f cdv)).units + 65 < cLine := by omega
  have hsl := lim_lt
  have hlim : lim = 4000 := rfl
  refine ⟨_, PSs.nox (pss_cons (ps_par (i := 2) (j := 3) (by rfl) sc__law_decided.nd rfl rfl (by decide) rfl rfl (pa_cons (pe_lst pa_nil) (pa_cons (pe_lst pa_nil) pa_nil)) (by first | rfl | kernel_rfl))
      (pss_cons (ps_for PassesOwn.never rfl (pi_seq (pv 0)) (pg_name (i := 4) sc__law_decided.nd rfl (by first | exact Or.inl rfl | exact Or.inr rfl)) (pss_cons (ps_set (i := 5) sc__law_decided.nd rfl (by first | exact Or.inl rfl | exact Or.inr rfl) (pe_df D1 hr pass0 (pa_cons (pv 4) (pa_cons (pv 3) pa_nil))))
      (pss_one (ps_if (PW.pt (pw_and (pt_cmpR op_eq (pe_ix ix_D (pv 4) pe_int (fun _ _ => rfl)) pe_str (nomark _)) (pw_and1 (PW.pt (pw_or (pt_cmp (pc_din hu1 (pe_ix ix_D (pv 4) pe_int (fun _ _ => rfl)) (pv 1))) (pw_or1 (pt_cmpR op_eq (pe_ix ix_D (pv 5) pe_int (fun _ _ => rfl)) (pe_ix ix_D (pv 5) pe_int (fun _ _ => rfl)) (nomark _)))))))) (pss_one (ps_expr (pe_bm PySem.F.plainAttrs_list PySem.F.slot_list_append PySem.F.type_list_append mt_append (pv 3) (pa_cons (pe_ifExp (pt_val (pe_dget2 hu1 (pv 1) (pe_ix ix_D (pv 4) pe_int (fun _ _ => rfl)) pe_bl ⟨rfl, rfl, rfl, rfl⟩)) (pe_ix ix_D (pv 5) pe_int (fun _ _ => rfl)) (pe_ix ix_D (pv 5) pe_int (fun _ _ => rfl))) pa_nil)))) (C8.pss_cut (ps_expr (pe_bm PySem.F.plainAttrs_list PySem.F.slot_list_extend PySem.F.type_list_extend mt_extend (pv 2) (pa_cons (pe_ifExp (pt_cmpR (op_notInDr hu65) (pv 5) (pv 2) (by rfl)) (pe_lst (pa_cons (pv 5) pa_nil)) (pe_lst pa_nil)) pa_nil)))
      (pss_one (ps_expr (pe_bm PySem.F.plainAttrs_list PySem.F.slot_list_append PySem.F.type_list_append mt_append (pv 3) (pa_cons (pe_bm PySem.F.plainAttrs_list PySem.F.slot_list_index PySem.F.type_list_index (mt_indexD hu65) (pv 2) (pa_cons (pv 5) pa_nil)) pa_nil)))))))))
      (pss_one (ps_ret (pe_tup (pa_cons (pv 2) (pa_cons (pv 3) pa_nil))))))), ?_⟩
  -- found, places = ([], [])
  refine ⟨(by show 0 ≤ sizeLine; decide), fun fl nfl => ⟨(by show 0 ≤ sizeLine; decide), fun pl npl => ?_⟩⟩
  refine ⟨_, _, rfl, ?_⟩
  have s0 : Sm H (upd (upd H fl (.lst [])) pl (.lst [])) := (Sm.new nfl).trans (Sm.new npl)
  have nplf : pl ≠ fl := fun z => by rw [z, upd_same] at npl; cases npl
  have npl0 : H pl = none := (Sm.new nfl).free npl
  have efl : upd (upd H fl (.lst [])) pl (.lst []) fl = some (.lst []) := by rw [upd_ne (Ne.symm nplf)]; exact upd_same
  obtain ⟨va, xs, rfl, eva, rs⟩ : ∃ a xs, v = .ref a ∧ H a = some (.lst xs) ∧ DrA All H xs (R.map Row.d) := by
    cases rd with
    | lst _ e r => exact ⟨_, _, rfl, e, r⟩
  have lxs : xs.length = R.length := by rw [rs.length, List.length_map]
  refine ⟨_, rfl, va, xs, rfl, .inl (s0 _ _ eva), fun J hJ => ?_⟩
  refine for_seq hJ (fun i σ3 H3 => ∃ x4 x5 ys, σ3 = [some (.ref va), some (.ref a), some (.ref fl), some (.ref pl), x4, x5] ∧ Sm H H3 ∧ H3 fl = some (.lst ys) ∧ DrA No H3 ys ((dec (tF ts) (R.take i)).1.map Row.d) ∧ H3 pl = some (.lst (vN (dec (tF ts) (R.take i)).2))) ?_ ?_ ?_ ?_
  · exact ⟨_, _, [], rfl, s0, efl, .nil, upd_same⟩
  · rintro i σ3 H3 _ ⟨_, _, _, _, s3, _⟩
    rw [s3 _ _ eva, s0 _ _ eva]
  · rintro i x σ3 H3 hx ⟨x4, x5, ys, rfl, s3, ef3, ry3, ep3⟩
    obtain ⟨hi, exi⟩ := List.getElem?_eq_some_iff.mp hx
    have hiR : i < R.length := by omega
    have J0 := dec_take (t := tF ts) WR' i (by omega)
    have et := take_snoc hiR
    have edec : dec (tF ts) (R.take (i + 1)) = decStep (tF ts) (dec (tF ts) (R.take i)) R[i] := by rw [et, dec_snoc]
    have rx : Dr All H3 x (R[i]).d := by
      obtain ⟨d, hd, r⟩ := rs.get hx
      rw [List.getElem?_map, List.getElem?_eq_getElem hiR] at hd
      cases hd
      exact r.sm s3
    have okR : (R[i]).ok := WR'.ok _ (List.getElem_mem hiR)
    have lps := J0.len
    rw [List.length_take, Nat.min_eq_left (by omega)] at lps
    have hn : ∀ k ∈ (R[i]).named, k < (dec (tF ts) (R.take i)).2.length := fun k hk => by
      rw [lps]
      exact WR'.ahead hiR k (by rw [rowAt_get hiR]; exact hk)
    have hnl : (R[i]).named.length ≤ lim := by
      have := named_lim WR' hiR
      rwa [rowAt_get hiR] at this
    have hhi := J0.hi
    rw [List.length_take, Nat.min_eq_left (by omega)] at hhi
    have okF := J0.web.ok
    -- later = _law_led(row, places)
    refine ⟨_, rfl, _, rfl, x, .ref pl, R[i], fL (dec (tF ts) (R.take i)).2, rfl, rx, hnl, fun k hk => .inl ⟨(dec (tF ts) (R.take i)).2, .lst trivial ep3 (vints_dr _), fL_at (hn k hk)⟩, fun ya H4 s4 ry => ?_⟩
    have okr : ((R[i]).led (fL (dec (tF ts) (R.take i)).2)).ok := Row.led_ok okR
    rw [edec]
    generalize hr0 : R[i] = r0 at *
    generalize hF : (dec (tF ts) (R.take i)).1 = Fd at *
    generalize hps : (dec (tF ts) (R.take i)).2 = ps at *
    have edp : dec (tF ts) (R.take i) = (Fd, ps) := by rw [← hF, ← hps]
    rw [edp]
    generalize hr' : r0.led (fL ps) = r' at *
    have s34 := s3.trans s4
    have ef4 := s4 _ _ ef3
    have ep4 := s4 _ _ ep3
    have ry4 := ry3.sm s4
    have rx4 := rx.sm s4
    have ea4 := s34 _ _ ea
    have lys : ys.length = Fd.length := by rw [ry3.length, List.length_map]
    have rfd : Dr All H4 (.ref fl) (rowsD Fd) := .lst trivial ef4 ry4.all
    refine cond_k (ps := ps) (ts := ts) (r0 := r0) rfl rfl rfl rx4 (by rw [hr']; exact ry) ea4 (fun c i j k er hk => ?_) (fun hd => ?_)
    · -- places.append(later[2] if .. else later[3])
      subst er
      subst hr'
      refine ⟨_, rfl, .inl ⟨rfl, _, SqL.of ep4⟩, ?_⟩
      refine ⟨_, rfl, a, rfl, .inl ⟨_, .inl ea4⟩, _, rfl, _, 1, _, rx4, rfl, rfl, rfl, fun x1 r1 => ?_⟩
      cases r1.int_inv
      refine ⟨_, DGet.k (k := Sum.inl (c : Int)) ea4, ?_⟩
      rw [tV_val, decStep_some hk]
      have room : (vN ps).length < sizeLine := by simp only [vN, List.length_map, lps]; omega
      have nx : ∃ x4 x5 ys, ([some (.ref va), some (.ref a), some (.ref fl), some (.ref pl), some x, some (.ref ya)] : L2.St) = [some (.ref va), some (.ref a), some (.ref fl), some (.ref pl), x4, x5] ∧ Sm H (upd H4 pl (.lst (vN ps ++ [V.int (k : Nat)]))) ∧ upd H4 pl (.lst (vN ps ++ [V.int (k : Nat)])) fl = some (.lst ys) ∧ DrA No (upd H4 pl (.lst (vN ps ++ [V.int (k : Nat)]))) ys (Fd.map Row.d) ∧ upd H4 pl (.lst (vN ps ++ [V.int (k : Nat)])) pl = some (.lst (vN (ps ++ [k]))) := by
        have st : Stays No H4 (upd H4 pl (.lst (vN ps ++ [V.int (k : Nat)]))) := ⟨fun _ _ z => z.elim, fun b zs e => by
          rw [upd_ne fun z => by rw [z, ep4] at e; cases e]
          exact e⟩
        refine ⟨_, _, ys, rfl, fun b o z => ?_, ?_, ry4.mono (fun _ z => z) st, ?_⟩
        · rw [upd_ne (ne_of_none z npl0)]
          exact s34 _ _ z
        · rw [upd_ne (Ne.symm nplf)]
          exact ef4
        · rw [upd_same]
          simp [vN]
      have pick : ∀ (n : Nat) (m : Nat), (n = 2 ∧ fL ps i = m ∨ n = 3 ∧ fL ps j = m) → ∀ {R' : VK}, R' (.int (m : Nat)) H4 → (tOp WR.rIxD (tVar 5) (tC (V.int (n : Nat)))) [some (.ref va), some (.ref a), some (.ref fl), some (.ref pl), some x, some (.ref ya)] H4 R' := fun n m hn R' q' => by
        rcases hn with ⟨rfl, rfl⟩ | ⟨rfl, rfl⟩
        · refine ⟨_, rfl, _, 2, _, ry, rfl, rfl, rfl, fun x2 r2 => ?_⟩
          cases r2.int_inv
          exact q'
        · refine ⟨_, rfl, _, 3, _, ry, rfl, rfl, rfl, fun x2 r2 => ?_⟩
          cases r2.int_inv
          exact q'
      rw [decPlace_either] at hk
      cases ht : tF ts c with
      | some b =>
        rw [ht] at hk
        have hk2 := Option.some.inj hk
        refine ⟨b, rfl, ?_⟩
        cases b with
        | true => exact iteT (pick 2 k (.inl ⟨rfl, hk2⟩) ⟨pl, _, _, rfl, rfl, ep4, room, nx⟩)
        | false => exact iteF (pick 3 k (.inr ⟨rfl, hk2⟩) ⟨pl, _, _, rfl, rfl, ep4, room, nx⟩)
      | none =>
        rw [ht] at hk
        dsimp only at hk
        by_cases hij : fL ps i = fL ps j
        · rw [if_pos hij] at hk
          exact ⟨true, rfl, iteT (pick 2 k (.inl ⟨rfl, Option.some.inj hk⟩) ⟨pl, _, _, rfl, rfl, ep4, room, nx⟩)⟩
        · rw [if_neg hij] at hk
          cases hk
    · -- found.extend(..)
      rw [decStep_none hd]
      show _
      have hr2 : r0.led (fL (Fd, ps).2) = r' := hr'
      rw [hr2]
      refine ⟨fun σ6 H6 => ∃ ys', σ6 = [some (.ref va), some (.ref a), some (.ref fl), some (.ref pl), some x, some (.ref ya)] ∧ Sm H H6 ∧ H6 fl = some (.lst ys') ∧ DrA No H6 ys' ((newRows Fd r').map Row.d) ∧ H6 pl = some (.lst (vN ps)) ∧ Dr All H6 (.ref ya) r'.d, ?_, ?_⟩
      · refine ⟨_, rfl, .inl ⟨rfl, ys, SqL.of ef4⟩, _, rfl, _, rfl, r'.d, Fd.map Row.d, ry, rfd, Row.eqOk okr, rows_eqOk okF, _, rfl, ?_⟩
        rw [if_neg Bool.false_ne_true, rows_any]
        unfold newRows
        have keep : ∀ {H5 : Hp} {zs' : List V}, Sm H4 H5 → (∀ b xs, H5 b = some (.tup xs) → upd H5 fl (.lst zs') b = some (.tup xs)) := fun s5 b zs e => by
          rw [upd_ne fun z => by rw [z, s5 _ _ ef4] at e; cases e]
          exact e
        by_cases hmem : r' ∈ Fd
        · rw [if_pos hmem, decide_eq_true hmem]
          refine iteF ⟨(by show 0 ≤ sizeLine; decide), fun p np => ?_⟩
          have sp : Sm H4 (upd H4 p (.lst [])) := Sm.new np
          refine ⟨fl, p, ys, [], rfl, rfl, sp _ _ ef4, upd_same, by simp; omega, ?_⟩
          rw [List.append_nil]
          have st : Stays No (upd H4 p (.lst [])) (upd (upd H4 p (.lst [])) fl (.lst ys)) := ⟨fun _ _ z => z.elim, keep sp⟩
          refine ⟨ys, rfl, fun b o z => ?_, upd_same, (ry4.sm sp).mono (fun _ z => z) st, ?_, ((ry.sm sp).fz (M := No) (Row.fz _)).mono (fun _ z => z.elim) st⟩
          · rw [upd_ne (ne_of_none z nfl)]
            exact sp _ _ (s34 _ _ z)
          · rw [upd_ne nplf]
            exact sp _ _ ep4
        · rw [if_neg hmem, decide_eq_false hmem]
          refine iteT ⟨_, rfl, (by show 1 ≤ sizeLine; decide), fun p np => ?_⟩
          have sp : Sm H4 (upd H4 p (.lst [.ref ya])) := Sm.new np
          refine ⟨fl, p, ys, [.ref ya], rfl, rfl, sp _ _ ef4, upd_same, by simp; omega, ?_⟩
          have st : Stays No (upd H4 p (.lst [.ref ya])) (upd (upd H4 p (.lst [.ref ya])) fl (.lst (ys ++ [.ref ya]))) := ⟨fun _ _ z => z.elim, keep sp⟩
          refine ⟨ys ++ [.ref ya], rfl, fun b o z => ?_, upd_same, ?_, ?_, ((ry.sm sp).fz (M := No) (Row.fz _)).mono (fun _ z => z.elim) st⟩
          · rw [upd_ne (ne_of_none z nfl)]
            exact sp _ _ (s34 _ _ z)
          · rw [List.map_append]
            exact ((ry4.sm sp).append (.one ((ry.sm sp).fz (M := No) (Row.fz _)))).mono (fun _ z => z) st
          · rw [upd_ne nplf]
            exact sp _ _ ep4
      rintro σ6 H6 ⟨ys', rfl, s6, ef6, ry6, ep6, rl6⟩
      -- places.append(found.index(later))
      refine ⟨_, rfl, .inl ⟨rfl, _, SqL.of ep6⟩, index_r rfl rfl ef6 ry6 rl6 (newRows_ok okF okr) okr (placeOf_new Fd r') ⟨pl, _, _, rfl, rfl, ep6, by simp only [vN, List.length_map, lps]; omega, ?_⟩⟩
      have st : Stays No H6 (upd H6 pl (.lst (vN ps ++ [V.int (idxOf Fd r' : Nat)]))) := ⟨fun _ _ z => z.elim, fun b zs e => by
        rw [upd_ne fun z => by rw [z, ep6] at e; cases e]
        exact e⟩
      refine ⟨_, _, ys', rfl, fun b o z => ?_, ?_, ?_, ?_⟩
      · rw [upd_ne (ne_of_none z npl0)]
        exact s6 _ _ z
      · rw [upd_ne (Ne.symm nplf)]
        exact ef6
      · exact ry6.mono (fun _ z => z) st
      · rw [upd_same]
        simp [vN]
  · rintro σ3 H3 ⟨x4, x5, ys, rfl, s3, ef3, ry3, ep3⟩
    rw [lxs, List.take_length] at ry3 ep3
    obtain ⟨as, rfl⟩ := rows_refs ry3
    refine ⟨_, rfl, _, rfl, (by show 2 ≤ sizeLine; decide), fun p np => q p _ (s3.trans (Sm.new np)) ?_⟩
    have sp := Sm.new (o := .tup [.ref fl, .ref pl]) np
    exact ⟨fl, pl, as, nplf.symm, nfl, npl0, s3.free np, upd_same, sp _ _ ef3, ry3.sm sp, sp _ _ ep3⟩
end
end K8

/-! _law_measured_right. -/
namespace K8
open PySem PySem.Spec PyProof.Rows L2 WR
abbrev spMeasR : Sp := fun vs H Q _ => ∃ (w : Addr) (n : Nat) (v u : V) (R : List Row) (e : PyData), vs = [.ref w, v, u] ∧ Wl H w n ∧ n + 1000 < top0 ∧ Dr (Ne w) H v (rowsD R) ∧ Dr (Ne w) H u e ∧ Lo (rowsD R) e ∧ Web R ∧ (∀ r ∈ R, r.small) ∧ R.length ≤ 16 ∧
  ∀ H', Gw w H H' → Wl H' w (n + 16) → Q (.bl true) H'
theorem ways_no {CW CP : Addr} {v : V} {d : PyData} {k : Nat} {H : Hp} {E : XK} {R : List Row} (s1 : ScanOf d R .none) (pk : isPart R k = true) : spNeedsWays CW CP v (.int (k : Nat)) d (.int (k : Nat)) H E := by
  refine ⟨fun R' n x dx H' z _ _ _ => ?_, fun R' dx H' z hp _ _ _ => ?_⟩
  · cases (s1.det z).2
  · obtain ⟨rfl, _⟩ := s1.det z
    rw [isPartD_nat, pk] at hp
    cases hp
theorem tests_call {CW CP : Addr} {v : V} {d : PyData} {k : Nat} {H : Hp} {Q : VK} {E : XK} {R : List Row} (rd : Dr All H v d) (wdd : wd d = true) (s1 : ScanOf d R .none) (hs : sumN R [] ≤ 900000) (pk : isPart R k = true)
    (q : ∀ (ks : List Nat) (c : Addr) (H' : Hp), Sm H H' → H c = none → IsCone R [k] ks → H' c = some (.lst (vN (ks.filter fun j => (rowAt R j).isAsked))) → Q (.ref c) H') : spTests CW CP [v, .int (k : Nat)] H Q E := by
  refine ⟨v, .int (k : Nat), d, .int (k : Nat), rfl, rd, wdd, .int _, fun R' z => ?_, fun R' k' ks c H' z1 e1 p1 s nc hc ec => ?_, ways_no s1 pk⟩
  · obtain ⟨rfl, _⟩ := s1.det z
    exact hs
  · obtain ⟨rfl, _⟩ := s1.det z1
    have : k = k' := by injection e1 with e1; omega
    subst this
    exact q ks c H' s nc hc ec
theorem steps_call {CW CP : Addr} {v : V} {d : PyData} {k : Nat} {H : Hp} {Q : VK} {E : XK} {R : List Row} (rd : Dr All H v d) (wdd : wd d = true) (s1 : ScanOf d R .none) (hs : sumN R [] ≤ 900000) (pk : isPart R k = true)
    (q : ∀ (ks : List Nat) (H' : Hp), Sm H H' → IsCone R [k] ks → Q (.int ((ks.filter fun j => (rowAt R j).isMade).length : Nat)) H') : spSteps CW CP [v, .int (k : Nat)] H Q E := by
  refine ⟨v, .int (k : Nat), d, .int (k : Nat), rfl, rd, wdd, .int _, fun R' z => ?_, fun R' k' ks H' z1 e1 p1 s hc => ?_, ways_no s1 pk⟩
  · obtain ⟨rfl, _⟩ := s1.det z
    exact hs
  · obtain ⟨rfl, _⟩ := s1.det z1
    have : k = k' := by injection e1 with e1; omega
    subst this
    exact q ks H' s hc
theorem meas_call {f : List Nat → Nat} {CW CP : Addr} {v : V} {d : PyData} {k : Nat} {H : Hp} {Q : VK} {E : XK} {R : List Row} (rd : Dr All H v d) (wdd : wd d = true) (s1 : ScanOf d R .none) (hs : sumN R [] ≤ 900000) (pk : isPart R k = true)
    (q : ∀ (H' : Hp), Sm H H' → Q (.int (fL (measG f R) k : Nat)) H') : spMeas f CW CP [v, .int (k : Nat)] H Q E := by
  refine ⟨v, .int (k : Nat), d, .int (k : Nat), rfl, rd, wdd, .int _, fun R' z => ?_, fun R' k' H' z1 e1 p1 s => ?_, ways_no s1 pk⟩
  · obtain ⟨rfl, _⟩ := s1.det z
    exact hs
  · obtain ⟨rfl, _⟩ := s1.det z1
    have : k = k' := by injection e1 with e1; omega
    subst this
    exact q H' s
/-- four lists of numbers in a list, all new -/
theorem four_ow {H : Hp} {p c1 c2 c3 c4 : Addr} {k1 k2 k3 k4 : List Nat} (ep : H p = some (.lst [.ref c1, .ref c2, .ref c3, .ref c4])) (e1 : H c1 = some (.lst (vN k1))) (e2 : H c2 = some (.lst (vN k2))) (e3 : H c3 = some (.lst (vN k3))) (e4 : H c4 = some (.lst (vN k4))) :
    Ow H (.ref p) (.list [.list (nums k1), .list (nums k2), .list (nums k3), .list (nums k4)]) [p, c1, c2, c3, c4] := by
  have l : ∀ {c : Addr} {ks : List Nat}, H c = some (.lst (vN ks)) → Ow H (.ref c) (.list (nums ks)) [c] := fun {c ks} e => by
    obtain ⟨gs, o2, z2⟩ := OwA.ofFz (N := No) (vints_dr (H := H) ks) (fz_nums ks)
    have h2 := Ow.lst e o2
    rw [z2] at h2
    exact h2
  exact Ow.lst ep (.cons (l e1) (.cons (l e2) (.cons (l e3) (.cons (l e4) .nil))))
theorem big_fit {k n : Nat} (h : k ≤ 4 ^ 16) : fit (.int (k : Nat)) n = true := by
  simp only [fit, decide_eq_true_eq]
  have h1 : ((k : Nat) : Int).natAbs.log2 < 100 := log_small (by
    have : (4 : Nat) ^ 16 < 2 ^ 99 := by decide
    have e : ((k : Nat) : Int).natAbs = k := Int.natAbs_natCast k
    omega)
  omega
theorem cond_m {x : V} {va wa : Addr} {m i : Nat} {R : List Row} {σ : L2.St} {H4 : Hp} {t u : TS} {D : Ends} (h6 : σ[6]? = some (some x)) (h1 : σ[1]? = some (some (.ref va))) (h0 : σ[0]? = some (some (.ref wa))) (rx : Dr All H4 x (rowAt R i).d) (rr : Dr All H4 (.ref va) (rowsD R)) (hw : Wl H4 wa m) (hm : m < top0)
    (yes : (rowAt R i).isAsked = false → ∀ H5, Gw wa H4 H5 → Wl H5 wa (m + 1) → t D σ H5) (no : ∀ H5, Gw wa H4 H5 → Wl H5 wa (m + 1) → u D σ H5) :
    tIfS (tAnd (tTest (tOp rNe (tOp WR.rIxD (tVar 6) (tC (V.int 0))) (tC (V.str (Str.ofString "asked"))))) (tOr (tTest (tOp (rI0 fun i j => V.bl (decide (i < j))) (tCB (fun xs H Q => ∃ v d, xs = [v] ∧ Dr All H v d ∧ isL d = true ∧ Q (V.int ((its d).length : Nat)) H) (tCons (tVar 1) tNil)) (tC (V.int 9)))) (tTest (tOp rEq (tCall spDraw [] E0 (tCons (tVar 0) (tCons (tC (V.int 3)) tNil))) (tC (V.int 0)))))) t u D σ H4 := by
  have stay : Gw wa H4 H4 := Gw.of Sm.rfl'
  refine ⟨_, h6, _, 0, _, rx, Row.seqD _, rfl, Row.word_at _, fun x0 r0' => ?_⟩
  cases r0'.str_inv
  refine ⟨rfl, _, rfl, ?_⟩
  rw [Row.askedW]
  cases ha : (rowAt R i).isAsked with
  | true => exact iteF (no H4 stay (hw.mono (by omega)))
  | false =>
    refine iteT ?_
    refine ⟨_, h1, _, rowsD R, rfl, rr, rfl, _, _, rfl, rfl, _, rfl, ite2 (fun _ => iteT (yes ha H4 stay (hw.mono (by omega)))) (fun _ => ?_)⟩
    refine ⟨_, h0, wa, 3, m, rfl, by decide, by decide, hw, hm, fun kk H5 hk g5 hw5 => ⟨rfl, _, rfl, ite2 (fun _ => yes ha H5 g5 hw5) (fun _ => no H5 g5 hw5)⟩⟩
section
variable {P : Program} {w : World} {K : PySem.W.Frag} {mg : Str → Option Value} {base : Heap} {CW CP : Addr}
theorem sc__law_measured_right : FnScope ["well", "rows", "web", "depths", "trees", "part", "row", "under", "steps", "tests", "found", "at"] ["well", "rows", "web"] (defScope s_law_measured_right) := ⟨rfl, rfl, rfl, by decide +kernel, rfl, by decide +kernel, by decide +kernel⟩
theorem ok__law_measured_right (B : Bt mg) (F : Fn K mg d_law_measured_right) (D1 : Df P w K mg base CX0 2 "_law_depths" ["rows"] (spKMeas maxL)) (D2 : Df P w K mg base CX0 2 "_law_trees" ["rows"] (spKMeas List.sum)) (D3 : Df P w K mg base CX0 1 "_law_draw" ["well", "many"] spDraw)
    (D4 : Df P w K mg base CX0 2 "_law_under" ["rows", "part"] spKUnder) (D5 : Df P w K mg base CX0 7 "_law_same" ["found", "due"] (spSame 7)) (D6 : Df P w K mg base CX0 7 "_law_spoiled" ["thing"] (spPoil 7))
    (DN : DfF P w K mg base (L2.CX P w) 8 "needs_of" ["web", "part"] (spNeedsOf CW CP) dneeds_of) (DT : DfF P w K mg base (L2.CX P w) 8 "tests_in" ["web", "part"] (spTests CW CP) dtests_in) (DS : DfF P w K mg base (L2.CX P w) 8 "steps_in" ["web", "part"] (spSteps CW CP) dsteps_in)
    (DD : DfF P w K mg base (L2.CX P w) 8 "depth_of" ["web", "part"] (spMeas maxL CW CP) ddepth_of) (DR : DfF P w K mg base (L2.CX P w) 8 "tree_of" ["web", "part"] (spMeas List.sum CW CP) dtree_of) :
    Df P w K mg base CX0 9 "_law_measured_right" ["well", "rows", "web"] spMeasR := by
  obtain ⟨f, fd, hm, F⟩ := F
  refine ⟨f, fd, hm, F.kp, F.bindsN fun _ _ _ _ _ _ us hl => match us, hl with | [_, _, _], _ => rfl, ?_⟩
  refine F.ok sc__law_measured_right (fun vs H Q E h => by obtain ⟨w, n, v, u, R, e, rfl, _⟩ := h; rfl) (fun cdv A outer s H vs Q E hr h => ?_)
  obtain ⟨wa, n, v, u, R, ew, rfl, hw, hn, rd, ru, lo, W, sm, hR, q⟩ := h
  have hr1 := hr.mono (show 1 ≤ 8 by decide)
  have hr2 := hr.mono (show 2 ≤ 8 by decide)
  have hr7 := hr.mono (show 7 ≤ 8 by decide)
  have hsl := lim_lt
  have hlim : lim = 4000 := rfl
  have htop : top0 = 1000000000000 := rfl
  refine ⟨_, PSs.nox (pss_cons (ps_par (i := 3) (j := 4) (by rfl) sc__law_measured_right.nd rfl rfl (by decide) rfl rfl (pa_cons (pe_df D1 hr2 pass0 (pa_cons (pv 1) pa_nil)) (pa_cons (pe_df D2 hr2 pass0 (pa_cons (pv 1) pa_nil)) pa_nil)) (by first | rfl | kernel_rfl))
      (pss_cons (ps_for PassesOwn.never rfl (pi_enS B.enumerate (pa_cons (pv 1) pa_nil)) (pg_tup rfl (pgs_cons (pg_name (i := 5) sc__law_measured_right.nd rfl (by first | exact Or.inl rfl | exact Or.inr rfl)) (pgs_cons (pg_name (i := 6) sc__law_measured_right.nd rfl (by first | exact Or.inl rfl | exact Or.inr rfl)) pgs_nil))) (pss_one (ps_if (PW.pt (pw_and (pt_cmpR op_ne (pe_ix ix_D (pv 6) pe_int (fun _ _ => rfl)) pe_str (nomark _)) (pw_and1 (PW.pt (pw_or (pt_cmpR op_lt (pe_callB call_lenS (by rfl) B.len (by decide +kernel) (pa_cons (pv 1) pa_nil)) pe_int (nomark _)) (pw_or1 (pt_cmpR op_eq (pe_df D3 hr1 pass0 (pa_cons (pv 0) (pa_cons pe_int pa_nil))) pe_int (nomark _)))))))) (pss_cons (ps_set (i := 7) sc__law_measured_right.nd rfl (by first | exact Or.inl rfl | exact Or.inr rfl) (pe_df D4 hr2 pass0 (pa_cons (pv 1) (pa_cons (pv 5) pa_nil))))
      (pss_cons (ps_set (i := 8) sc__law_measured_right.nd rfl (by first | exact Or.inl rfl | exact Or.inr rfl) (pe_callB call_lenS (by rfl) B.len (by decide +kernel) (pa_cons (pe_lc (own := [("at", 11)]) (g := gName 11) (tt := _) rfl sc__law_measured_right.nd (pi_seq (pv 7)) (blkOk_by (own := [("at", 11)]) (N := ["well", "rows", "web", "depths", "trees", "part", "row", "under", "steps", "tests", "found", "at"]) (sc := defScope s_law_measured_right) (by decide +kernel)) (fun _ _ _ _ _ => pg_name (i := 11) sc__law_measured_right.nd rfl (by first | exact Or.inl rfl | exact Or.inr rfl)) (fun _ _ _ _ _ => (pts_one (pt_cmpR op_eq (pe_ix ix_D (pe_ix ix_D (pv 1) (pv 11) (fun _ _ => rfl)) pe_int (fun _ _ => rfl)) pe_str (nomark _)))) (fun _ _ _ _ _ => (pv 11))) pa_nil)))
      (pss_cons (ps_setLc (i := 9) (own := [("at", 11)]) (g := gName 11) (tt := _) rfl sc__law_measured_right.nd rfl rfl (sw_true rfl rfl rfl (by decide +kernel)) (pi_seq (pv 7)) (blkOk_by (own := [("at", 11)]) (N := ["well", "rows", "web", "depths", "trees", "part", "row", "under", "steps", "tests", "found", "at"]) (sc := defScope s_law_measured_right) (by decide +kernel)) (fun _ _ _ _ _ => pg_name (i := 11) sc__law_measured_right.nd rfl (by first | exact Or.inl rfl | exact Or.inr rfl)) (fun _ _ _ _ _ => (pts_one (pt_cmpR op_eq (pe_ix ix_D (pe_ix ix_D (pv 1) (pv 11) (fun _ _ => rfl)) pe_int (fun _ _ => rfl)) pe_str (nomark _)))) (fun _ _ _ _ _ => (pv 11)))
      (pss_cons (ps_set (i := 10) sc__law_measured_right.nd rfl (by first | exact Or.inl rfl | exact Or.inr rfl) (pe_lst (pa_cons (pe_df DN.df hr (passes_call LamX.takes0 (fun _ _ _ _ z => z)) (pa_cons (pv 2) (pa_cons (pv 5) pa_nil))) (pa_cons (pe_dfK (kw_needs_of DN) hr (passes_call LamX.takes0 (fun _ _ _ _ z => z)) (pk_cons (pv 5) (pk_cons (pv 2) pk_nil))) pa_nil))))
      (pss_cons (ps_expr (pe_bm PySem.F.plainAttrs_list PySem.F.slot_list_extend PySem.F.type_list_extend mt_extend (pv 10) (pa_cons (pe_lst (pa_cons (pe_df DT.df hr (passes_call LamX.takes0 (fun _ _ _ _ z => z)) (pa_cons (pv 2) (pa_cons (pv 5) pa_nil))) (pa_cons (pe_dfK (kw_tests_in DT) hr (passes_call LamX.takes0 (fun _ _ _ _ z => z)) (pk_cons (pv 5) (pk_cons (pv 2) pk_nil))) pa_nil))) pa_nil)))
      (pss_cons (ps_if (pt_not (pt_val (pe_df D5 hr7 pass0 (pa_cons (pv 10) (pa_cons (pe_lst (pa_cons (pv 7) (pa_cons (pv 7) (pa_cons (pv 9) (pa_cons (pv 9) pa_nil))))) pa_nil))))) (pss_one (ps_ret pe_bl)) pss_nil)
      (pss_cons (ps_expr (pe_df D6 hr7 pass0 (pa_cons (pv 10) pa_nil)))
      (pss_cons (ps_set (i := 10) sc__law_measured_right.nd rfl (by first | exact Or.inl rfl | exact Or.inr rfl) (pe_lst (pa_cons (pe_df DS.df hr (passes_call LamX.takes0 (fun _ _ _ _ z => z)) (pa_cons (pv 2) (pa_cons (pv 5) pa_nil))) (pa_cons (pe_dfK (kw_steps_in DS) hr (passes_call LamX.takes0 (fun _ _ _ _ z => z)) (pk_cons (pv 5) (pk_cons (pv 2) pk_nil))) pa_nil))))
      (pss_cons (ps_expr (pe_bm PySem.F.plainAttrs_list PySem.F.slot_list_extend PySem.F.type_list_extend mt_extend (pv 10) (pa_cons (pe_lst (pa_cons (pe_df DD.df hr (passes_call LamX.takes0 (fun _ _ _ _ z => z)) (pa_cons (pv 2) (pa_cons (pv 5) pa_nil))) (pa_cons (pe_dfK (kw_depth_of DD) hr (passes_call LamX.takes0 (fun _ _ _ _ z => z)) (pk_cons (pv 5) (pk_cons (pv 2) pk_nil))) pa_nil))) pa_nil)))
      (pss_cons (ps_expr (pe_bm PySem.F.plainAttrs_list PySem.F.slot_list_extend PySem.F.type_list_extend mt_extend (pv 10) (pa_cons (pe_lst (pa_cons (pe_df DR.df hr (passes_call LamX.takes0 (fun _ _ _ _ z => z)) (pa_cons (pv 2) (pa_cons (pv 5) pa_nil))) (pa_cons (pe_dfK (kw_tree_of DR) hr (passes_call LamX.takes0 (fun _ _ _ _ z => z)) (pk_cons (pv 5) (pk_cons (pv 2) pk_nil))) pa_nil))) pa_nil)))
      (pss_cons (ps_if (pt_not (pt_val (pe_df D5 hr7 pass0 (pa_cons (pv 10) (pa_cons (pe_lst (pa_cons (pv 8) (pa_cons (pv 8) (pa_cons (pe_ix ix_D (pv 3) (pv 5) (fun _ _ => rfl)) (pa_cons (pe_ix ix_D (pv 3) (pv 5) (fun _ _ => rfl)) (pa_cons (pe_ix ix_D (pv 4) (pv 5) (fun _ _ => rfl)) (pa_cons (pe_ix ix_D (pv 4) (pv 5) (fun _ _ => rfl)) pa_nil))))))) pa_nil))))) (pss_one (ps_ret pe_bl)) pss_nil)
      (pss_one (ps_if (PW.pt (pw_or (pt_not (pt_chain op_le op_le (pe_ix ix_D (pv 3) (pv 5) (fun _ _ => rfl)) (pv 8) (pe_ix ix_D (pv 4) (pv 5) (fun _ _ => rfl)))) (pw_or1 (pt_not (pt_val (pe_df D5 hr7 pass0 (pa_cons (pe_df DN.df hr (passes_call LamX.takes0 (fun _ _ _ _ z => z)) (pa_cons (pv 2) (pa_cons (pv 5) pa_nil))) (pa_cons (pv 7) pa_nil)))))))) (pss_one (ps_ret pe_bl)) pss_nil))))))))))))) pss_nil)))
      (pss_one (ps_ret pe_bl)))), ?_⟩
  have oN : Off wa (Ne wa) := fun a z => z
  have tR := web_tame W sm (by omega)
  have te : tame true ew 3 = true := tame_lo lo tR
  have wde := tame_wd te
  have sc : ScanOf ew R .none := W.scan.lo lo
  have hnm : ∀ k, k < R.length → (rowAt R k).named.length ≤ 3 := fun k hk => Row.small_named (sm _ (rowAt_mem hk))
  have hsum : sumN R [] ≤ 900000 := by have := sumN_le hnm []; omega
  -- depths, trees
  refine ⟨_, rfl, v, R, rfl, rd.all, W, by omega, fun dl H1 s1 ndl edl => ?_⟩
  refine ⟨_, rfl, v, R, rfl, (rd.sm s1).all, W, by omega, fun tl H2 s2 ntl etl => ?_⟩
  refine ⟨_, _, rfl, ?_⟩
  have ndw := hw.ne ndl
  have ntw := hw.ne (s1.free ntl)
  have edl2 := s2 _ _ edl
  have s12 := s1.trans s2
  have hw2 := hw.sm s12
  have rd2 := rd.sm s12
  have ru2 := ru.sm s12
  have g2 : Gw wa H H2 := Gw.of s12
  obtain ⟨va, xs, rfl, nva, eva, rs⟩ : ∃ a xs, v = .ref a ∧ a ≠ wa ∧ H2 a = some (.lst xs) ∧ DrA (Ne wa) H2 xs (R.map Row.d) := by
    cases rd2 with
    | lst n e r => exact ⟨_, _, rfl, n, e, r⟩
  have lxs : xs.length = R.length := by rw [rs.length, List.length_map]
  clear edl s1 s2 s12 hw
  refine ⟨_, rfl, va, xs, rfl, .inl eva, fun J hJ => ?_⟩
  refine for_enS hJ (fun i σ3 H3 => ∃ x5 x6 x7 x8 x9 x10, σ3 = [some (.ref wa), some (.ref va), some u, some (.ref dl), some (.ref tl), x5, x6, x7, x8, x9, x10, none] ∧ Gw wa H2 H3 ∧ Wl H3 wa (n + i)) ?_ ?_ ?_ ?_
  · exact ⟨_, _, _, _, _, _, rfl, Gw.of Sm.rfl', hw2⟩
  · rintro i σ3 H3 ⟨_, _, _, _, _, _, _, g3, _⟩
    rw [g3 _ _ nva eva, eva]
  · rintro i x σ3 H3 T0 hx ⟨x5, x6, x7, x8, x9, x10, rfl, g3, hw3⟩ nT
    obtain ⟨hi, exi⟩ := List.getElem?_eq_some_iff.mp hx
    have hiR : i < R.length := by omega
    have sT : Sm H3 (upd H3 T0 (.tup [.int (i : Nat), x])) := Sm.new nT
    refine ⟨T0, _, rfl, SqT.of upd_same, rfl, _, _, rfl, _, _, rfl, rfl, ?_⟩
    have g4 := g3.trans (Gw.of sT)
    have hw4 := hw3.sm sT
    have rx : Dr All (upd H3 T0 (.tup [.int (i : Nat), x])) x (rowAt R i).d := by
      obtain ⟨d, hd, r⟩ := rs.get hx
      rw [List.getElem?_map, List.getElem?_eq_getElem hiR] at hd
      cases hd
      rw [rowAt_get hiR]
      exact (r.gn oN hw2 g4).all
    generalize upd H3 T0 (.tup [.int (i : Nat), x]) = H4 at g4 hw4 rx
    clear sT nT g3 hw3
    have rr : ∀ {H'}, Gw wa H2 H' → Dr All H' (.ref va) (rowsD R) := fun g => (Dr.lst (N := Ne wa) nva (g _ _ nva eva) (rs.gn oN hw2 g)).all
    have hs' : ∀ R', ScanOf ew R' .none → sumN R' [] ≤ 900000 := fun R' z => by
      obtain ⟨rfl, _⟩ := sc.det z
      exact hsum
    refine cond_m (R := R) (i := i) rfl rfl rfl rx (rr g4) hw4 (by omega) (fun ha H5 g5 hw5 => ?_) (fun H5 g5 hw5 => ?_)
    rotate_left
    · exact ⟨_, _, _, _, _, _, rfl, g4.trans g5, hw5⟩
    have pk : isPart R i = true := by unfold isPart; rw [decide_eq_true hiR, ha]; rfl
    have gA := g4.trans g5
    have rw5 : Dr All H5 u ew := (ru2.gn oN hw2 gA).all
    have edl5 := gA _ _ ndw edl2
    have etl5 := gA _ _ ntw etl
    clear rx hw4 g4 g5
    -- under
    refine ⟨_, rfl, _, rfl, .ref va, R, i, rfl, rr gA, W, by omega, hiR, fun ks c H6 s6 nc hc ec => ?_⟩
    have Cn := cone_lt W pk hc
    have lks := cone_len Cn
    -- steps
    refine ⟨_, rfl, c, vN ks, rfl, .inl ec, fun J1 hJ1 D1' nD1 => ?_⟩
    refine fil_comp (fun j => (rowAt R j).isMade) (.seq hJ1 (vints_dr ks)) nD1 (by omega) (fun _ => rfl) (fun _ => rfl) (fun j H7 Q' hj s7 q' => ?_) fun H7 s7 eD1 => ?_
    · have lj := Cn.lt j hj
      refine ⟨_, rfl, _, rfl, _, j, _, (rr gA).sm (s6.trans s7), rfl, rfl, rowAt_at lj, fun x0 r0 => ⟨_, 0, _, r0, Row.seqD _, rfl, Row.word_at _, fun x1 r1 => ?_⟩⟩
      cases r1.str_inv
      refine ⟨rfl, _, rfl, ?_⟩
      rw [Row.madeP]
      exact q'
    refine ⟨.ref D1', .list (nums (ks.filter fun j => (rowAt R j).isMade)), rfl, .lst trivial eD1 (vints_dr _), rfl, ?_⟩
    rw [show (its (.list (nums (ks.filter fun j => (rowAt R j).isMade)))).length = (ks.filter fun j => (rowAt R j).isMade).length by simp [its, nums]]
    generalize hst : (ks.filter fun j => (rowAt R j).isMade).length = st
    -- tests
    have ec7 := s7 _ _ ec
    refine ⟨_, rfl, c, vN ks, rfl, .inl ec7, fun J2 hJ2 D2' nD2 => ?_⟩
    refine fil_comp (fun j => (rowAt R j).isAsked) (.seq hJ2 (vints_dr ks)) nD2 (by omega) (fun _ => rfl) (fun _ => rfl) (fun j H8 Q' hj s8 q' => ?_) fun H8 s8 eD2 => ?_
    · have lj := Cn.lt j hj
      refine ⟨_, rfl, _, rfl, _, j, _, (rr gA).sm ((s6.trans s7).trans s8), rfl, rfl, rowAt_at lj, fun x0 r0 => ⟨_, 0, _, r0, Row.seqD _, rfl, Row.word_at _, fun x1 r1 => ?_⟩⟩
      cases r1.str_inv
      refine ⟨rfl, _, rfl, ?_⟩
      rw [Row.askedP]
      exact q'
    generalize hqs : (ks.filter fun j => (rowAt R j).isAsked) = qs at eD2
    have s58 := (s6.trans s7).trans s8
    have ec8 := s8 _ _ ec7
    have rw8 := rw5.sm s58
    clear s6 s7 s8 eD1 nD1 nD2 hJ1 hJ2 ec7 ec nc
    -- found = [needs_of(..), needs_of(..)]
    refine ⟨_, rfl, _, rfl, u, .int (i : Nat), ew, .int (i : Nat), rfl, rw8, wde, .int _, hs', fun R' k' ks1 c1 H9 z1 e1 p1 s9 nc1 hc1 ec1 => ?_, ways_no sc pk⟩
    obtain ⟨rfl, _⟩ := sc.det z1
    obtain rfl : i = k' := by injection e1 with e1; omega
    obtain rfl := hc.uniq hc1
    refine ⟨_, rfl, _, rfl, rfl, u, .int (i : Nat), ew, .int (i : Nat), rfl, rw8.sm s9, wde, .int _, hs', fun R' k' ks2 c2 H10 z2 e2 p2 s10 nc2 hc2 ec2 => ?_, ways_no sc pk⟩
    obtain ⟨rfl, _⟩ := sc.det z2
    obtain rfl : i = k' := by injection e2 with e2; omega
    obtain rfl := hc.uniq hc2
    refine ⟨(by show 2 ≤ sizeLine; decide), fun fl nfl => ?_⟩
    have sf : Sm H10 (upd H10 fl (.lst [.ref c1, .ref c2])) := Sm.new nfl
    have efl : upd H10 fl (.lst [.ref c1, .ref c2]) fl = some (.lst [.ref c1, .ref c2]) := upd_same
    have s8f := (s9.trans s10).trans sf
    have ec1f := sf _ _ (s10 _ _ ec1)
    have ec2f := sf _ _ ec2
    have n12 : c1 ≠ c2 := ne_of_none ec1 nc2
    have nf1 : fl ≠ c1 := (ne_of_none (s10 _ _ ec1) nfl).symm
    have nf2 : fl ≠ c2 := (ne_of_none ec2 nfl).symm
    have nfl8 : H8 fl = none := (s9.trans s10).free nfl
    have nc28 : H8 c2 = none := s9.free nc2
    generalize upd H10 fl (.lst [.ref c1, .ref c2]) = H11 at sf efl s8f ec1f ec2f
    clear sf s9 s10 ec1 ec2 hc1 hc2 nfl nc2 z1 z2 e1 e2 p1 p2
    have rw11 := rw8.sm s8f
    -- found.extend([tests_in(..), tests_in(..)])
    refine ⟨_, rfl, .inl ⟨rfl, _, SqL.of efl⟩, ?_⟩
    refine ⟨_, rfl, _, rfl, u, .int (i : Nat), ew, .int (i : Nat), rfl, rw11, wde, .int _, hs', fun R' k' ks1 c3 H12 z1 e1 p1 s12 nc3 hc3 ec3 => ?_, ways_no sc pk⟩
    obtain ⟨rfl, _⟩ := sc.det z1
    obtain rfl : i = k' := by injection e1 with e1; omega
    obtain rfl := hc.uniq hc3
    rw [hqs] at ec3
    refine ⟨_, rfl, _, rfl, rfl, u, .int (i : Nat), ew, .int (i : Nat), rfl, rw11.sm s12, wde, .int _, hs', fun R' k' ks2 c4 H13 z2 e2 p2 s13 nc4 hc4 ec4 => ?_, ways_no sc pk⟩
    obtain ⟨rfl, _⟩ := sc.det z2
    obtain rfl : i = k' := by injection e2 with e2; omega
    obtain rfl := hc.uniq hc4
    rw [hqs] at ec4
    refine ⟨(by show 2 ≤ sizeLine; decide), fun p np => ?_⟩
    have sp : Sm H13 (upd H13 p (.lst [.ref c3, .ref c4])) := Sm.new np
    have sB := (s12.trans s13).trans sp
    have efp := sB _ _ efl
    refine ⟨fl, p, _, _, rfl, rfl, efp, upd_same, by simp only [List.length_cons, List.length_nil]; omega, ?_⟩
    have n3f : c3 ≠ fl := fun z => by rw [z, efl] at nc3; cases nc3
    have n31 : c3 ≠ c1 := fun z => by rw [z, ec1f] at nc3; cases nc3
    have n32 : c3 ≠ c2 := fun z => by rw [z, ec2f] at nc3; cases nc3
    have n4f : c4 ≠ fl := fun z => by rw [z, s12 _ _ efl] at nc4; cases nc4
    have n41 : c4 ≠ c1 := fun z => by rw [z, s12 _ _ ec1f] at nc4; cases nc4
    have n42 : c4 ≠ c2 := fun z => by rw [z, s12 _ _ ec2f] at nc4; cases nc4
    have n43 : c4 ≠ c3 := fun z => by rw [z, ec3] at nc4; cases nc4
    have nc38 : H8 c3 = none := s8f.free nc3
    have nc48 : H8 c4 = none := (s8f.trans s12).free nc4
    have f1 := (by rw [upd_ne nf1.symm]; exact sB _ _ ec1f : upd (upd H13 p (.lst [.ref c3, .ref c4])) fl (.lst ([.ref c1, .ref c2] ++ [.ref c3, .ref c4])) c1 = some (.lst (vN ks)))
    have f2 := (by rw [upd_ne nf2.symm]; exact sB _ _ ec2f : upd (upd H13 p (.lst [.ref c3, .ref c4])) fl (.lst ([.ref c1, .ref c2] ++ [.ref c3, .ref c4])) c2 = some (.lst (vN ks)))
    have f3 := (by rw [upd_ne n3f]; exact sp _ _ (s13 _ _ ec3) : upd (upd H13 p (.lst [.ref c3, .ref c4])) fl (.lst ([.ref c1, .ref c2] ++ [.ref c3, .ref c4])) c3 = some (.lst (vN qs)))
    have f4 := (by rw [upd_ne n4f]; exact sp _ _ ec4 : upd (upd H13 p (.lst [.ref c3, .ref c4])) fl (.lst ([.ref c1, .ref c2] ++ [.ref c3, .ref c4])) c4 = some (.lst (vN qs)))
    have ow := four_ow (show upd (upd H13 p (.lst [.ref c3, .ref c4])) fl (.lst ([.ref c1, .ref c2] ++ [.ref c3, .ref c4])) fl = some (.lst [.ref c1, .ref c2, .ref c3, .ref c4]) from upd_same) f1 f2 f3 f4
    have nd : [fl, c1, c2, c3, c4].Nodup := by
      simp only [List.nodup_cons, List.mem_cons, List.not_mem_nil, or_false, not_or, List.nodup_nil, not_false_eq_true, and_true]
      exact ⟨⟨nf1, nf2, n3f.symm, n4f.symm⟩, ⟨n12, n31.symm, n41.symm⟩, ⟨n32.symm, n42.symm⟩, n43.symm⟩
    have s8e : Sm H8 (upd (upd H13 p (.lst [.ref c3, .ref c4])) fl (.lst ([.ref c1, .ref c2] ++ [.ref c3, .ref c4]))) := fun b o z => by
      rw [upd_ne (ne_of_none z nfl8)]
      exact sB _ _ (s8f _ _ z)
    have none5 : ∀ b ∈ [fl, c1, c2, c3, c4], H8 b = none := fun b hb => by
      simp only [List.mem_cons, List.not_mem_nil, or_false] at hb
      rcases hb with rfl | rfl | rfl | rfl | rfl
      · exact nfl8
      · exact nc1
      · exact nc28
      · exact nc38
      · exact nc48
    generalize upd (upd H13 p (.lst [.ref c3, .ref c4])) fl (.lst ([.ref c1, .ref c2] ++ [.ref c3, .ref c4])) = H14 at ow s8e f1 f2 f3 f4 ⊢
    clear f1 f2 f3 f4 sp sB efp np s12 s13 nc3 nc4 ec3 ec4 hc3 hc4 z1 z2 e1 e2 p1 p2 efl ec1f ec2f s8f nc1 nfl8 nc28 nc38 nc48
    -- the first if
    have ec14 := s8e _ _ ec8
    have eD14 := s8e _ _ eD2
    have fk : fit (.list (nums ks)) 2 = true := numsL_fit (n := 1) (fun k hk => by have := Cn.lt k hk; omega) (by omega)
    have fq : fit (.list (nums qs)) 2 = true := by
      refine numsL_fit (n := 1) (fun k hk => ?_) ?_
      · rw [← hqs] at hk
        have := Cn.lt k (List.mem_filter.mp hk).1
        omega
      · rw [← hqs]
        have := List.length_filter_le (fun j => (rowAt R j).isAsked) ks
        omega
    have fD : fit (.list [.list (nums ks), .list (nums ks), .list (nums qs), .list (nums qs)]) 6 = true := by
      refine fit_mono (show 3 ≤ 6 by decide) ?_
      simp only [fit, fitA, List.length_cons, List.length_nil, Bool.and_eq_true, decide_eq_true_eq, Nat.add_sub_cancel] at fk fq ⊢
      exact ⟨⟨by omega, by omega⟩, fk, fk, fq, fq, trivial⟩
    refine ⟨_, rfl, _, rfl, _, rfl, _, rfl, _, rfl, (by show 4 ≤ sizeLine; decide), fun p8 np8 => ?_⟩
    have t8 := Sm.new (o := .lst [.ref c, .ref c, .ref D2', .ref D2']) np8
    refine ⟨_, _, .list [.list (nums ks), .list (nums ks), .list (nums qs), .list (nums qs)], rfl, (ow.sm t8).dr, .lst trivial upd_same (.cons (.lst trivial (t8 _ _ ec14) (vints_dr _)) (.cons (.lst trivial (t8 _ _ ec14) (vints_dr _)) (.cons (.lst trivial (t8 _ _ eD14) (vints_dr _)) (.one (.lst trivial (t8 _ _ eD14) (vints_dr _)))))), fD, fun H15 s15 => ?_⟩
    refine ⟨_, rfl, iteF ?_⟩
    have t15 := t8.trans s15
    -- _law_spoiled(found)
    refine ⟨_, rfl, .ref fl, _, _, rfl, ow.sm t15, nd, fD, fun H16 bt => ?_⟩
    have sC : Sm H8 H16 := fun b o z => bt b o (fun y => by rw [none5 b y] at z; cases z) (t15 _ _ (s8e _ _ z))
    clear bt t15 s15 t8 np8 ow nd none5 s8e ec14 eD14
    have rw16 := rw8.sm sC
    have ec16 := sC _ _ ec8
    have edl16 := sC _ _ (s58 _ _ edl5)
    have etl16 := sC _ _ (s58 _ _ etl5)
    -- found = [steps_in(..), steps_in(..)]
    refine ⟨_, rfl, _, rfl, u, .int (i : Nat), ew, .int (i : Nat), rfl, rw16, wde, .int _, hs', fun R' k' ks1 H17 z1 e1 p1 s17 hc1 => ?_, ways_no sc pk⟩
    obtain ⟨rfl, _⟩ := sc.det z1
    obtain rfl : i = k' := by injection e1 with e1; omega
    obtain rfl := hc.uniq hc1
    rw [hst]
    clear z1 e1 p1 hc1
    refine ⟨_, rfl, _, rfl, rfl, u, .int (i : Nat), ew, .int (i : Nat), rfl, (rw16.sm s17), wde, .int _, hs', fun R' k' ks1 H18 z1 e1 p1 s18 hc1 => ?_, ways_no sc pk⟩
    obtain ⟨rfl, _⟩ := sc.det z1
    obtain rfl : i = k' := by injection e1 with e1; omega
    obtain rfl := hc.uniq hc1
    rw [hst]
    clear z1 e1 p1 hc1
    refine ⟨(by show 2 ≤ sizeLine; decide), fun gl ngl => ?_⟩
    have sg : Sm H18 (upd H18 gl (.lst [.int (st : Nat), .int (st : Nat)])) := Sm.new ngl
    have ngl16 : H16 gl = none := (s17.trans s18).free ngl
    have s19 : Sm H16 (upd H18 gl (.lst [.int (st : Nat), .int (st : Nat)])) := (s17.trans s18).trans sg
    have egl : upd H18 gl (.lst [.int (st : Nat), .int (st : Nat)]) gl = some (.lst [.int (st : Nat), .int (st : Nat)]) := upd_same
    generalize upd H18 gl (.lst [.int (st : Nat), .int (st : Nat)]) = H19 at s19 egl ⊢
    clear sg s17 s18 ngl
    have rw19 := rw16.sm s19
    -- found.extend([depth_of(..), depth_of(..)])
    refine ⟨_, rfl, .inl ⟨rfl, _, SqL.of egl⟩, ?_⟩
    refine ⟨_, rfl, _, rfl, u, .int (i : Nat), ew, .int (i : Nat), rfl, rw19, wde, .int _, hs', fun R' k' H20 z1 e1 p1 s20 => ?_, ways_no sc pk⟩
    obtain ⟨rfl, _⟩ := sc.det z1
    obtain rfl : i = k' := by injection e1 with e1; omega
    clear z1 e1 p1
    refine ⟨_, rfl, _, rfl, rfl, u, .int (i : Nat), ew, .int (i : Nat), rfl, (rw19.sm s20), wde, .int _, hs', fun R' k' H21 z1 e1 p1 s21 => ?_, ways_no sc pk⟩
    obtain ⟨rfl, _⟩ := sc.det z1
    obtain rfl : i = k' := by injection e1 with e1; omega
    clear z1 e1 p1
    generalize hdp : fL (measG maxL R) i = dp
    refine ⟨(by show 2 ≤ sizeLine; decide), fun p2 np2 => ?_⟩
    have sp2 := (s20.trans s21).trans (Sm.new (o := .lst [.int (dp : Nat), .int (dp : Nat)]) np2)
    refine ⟨gl, p2, _, _, rfl, rfl, sp2 _ _ egl, upd_same, by simp only [List.length_cons, List.length_nil]; omega, ?_⟩
    have s22 : Sm H16 (upd (upd H21 p2 (.lst [.int (dp : Nat), .int (dp : Nat)])) gl (.lst ([.int (st : Nat), .int (st : Nat)] ++ [.int (dp : Nat), .int (dp : Nat)]))) := fun b o z => by
      rw [upd_ne (ne_of_none z ngl16)]
      exact sp2 _ _ (s19 _ _ z)
    have egl2 : upd (upd H21 p2 (.lst [.int (dp : Nat), .int (dp : Nat)])) gl (.lst ([.int (st : Nat), .int (st : Nat)] ++ [.int (dp : Nat), .int (dp : Nat)])) gl = some (.lst ([.int (st : Nat), .int (st : Nat)] ++ [.int (dp : Nat), .int (dp : Nat)])) := upd_same
    generalize upd (upd H21 p2 (.lst [.int (dp : Nat), .int (dp : Nat)])) gl (.lst ([.int (st : Nat), .int (st : Nat)] ++ [.int (dp : Nat), .int (dp : Nat)])) = H22 at s22 egl2 ⊢
    clear sp2 np2 s20 s21 egl s19 rw19
    have rw22 := rw16.sm s22
    -- found.extend([tree_of(..), tree_of(..)])
    refine ⟨_, rfl, .inl ⟨rfl, _, SqL.of egl2⟩, ?_⟩
    refine ⟨_, rfl, _, rfl, u, .int (i : Nat), ew, .int (i : Nat), rfl, rw22, wde, .int _, hs', fun R' k' H23 z1 e1 p1 s23 => ?_, ways_no sc pk⟩
    obtain ⟨rfl, _⟩ := sc.det z1
    obtain rfl : i = k' := by injection e1 with e1; omega
    clear z1 e1 p1
    refine ⟨_, rfl, _, rfl, rfl, u, .int (i : Nat), ew, .int (i : Nat), rfl, (rw22.sm s23), wde, .int _, hs', fun R' k' H24 z1 e1 p1 s24 => ?_, ways_no sc pk⟩
    obtain ⟨rfl, _⟩ := sc.det z1
    obtain rfl : i = k' := by injection e1 with e1; omega
    clear z1 e1 p1
    generalize htr : fL (measG List.sum R) i = tr
    refine ⟨(by show 2 ≤ sizeLine; decide), fun p3 np3 => ?_⟩
    have sp3 := (s23.trans s24).trans (Sm.new (o := .lst [.int (tr : Nat), .int (tr : Nat)]) np3)
    refine ⟨gl, p3, _, _, rfl, rfl, sp3 _ _ egl2, upd_same, by simp only [List.length_cons, List.length_nil, List.length_append]; omega, ?_⟩
    have s25 : Sm H16 (upd (upd H24 p3 (.lst [.int (tr : Nat), .int (tr : Nat)])) gl (.lst (([.int (st : Nat), .int (st : Nat)] ++ [.int (dp : Nat), .int (dp : Nat)]) ++ [.int (tr : Nat), .int (tr : Nat)]))) := fun b o z => by
      rw [upd_ne (ne_of_none z ngl16)]
      exact sp3 _ _ (s22 _ _ z)
    have egl3 : upd (upd H24 p3 (.lst [.int (tr : Nat), .int (tr : Nat)])) gl (.lst (([.int (st : Nat), .int (st : Nat)] ++ [.int (dp : Nat), .int (dp : Nat)]) ++ [.int (tr : Nat), .int (tr : Nat)])) gl = some (.lst [.int (st : Nat), .int (st : Nat), .int (dp : Nat), .int (dp : Nat), .int (tr : Nat), .int (tr : Nat)]) := upd_same
    generalize upd (upd H24 p3 (.lst [.int (tr : Nat), .int (tr : Nat)])) gl (.lst (([.int (st : Nat), .int (st : Nat)] ++ [.int (dp : Nat), .int (dp : Nat)]) ++ [.int (tr : Nat), .int (tr : Nat)])) = H25 at s25 egl3 ⊢
    clear sp3 np3 s23 s24 egl2 s22 rw22
    -- not _law_same(found, [steps, ..])
    have ldp : (measG maxL R)[i]? = some dp := by
      rw [← hdp]
      exact fL_get (by have := meas_len maxL R R.length (Nat.le_refl _); rw [List.take_length] at this; omega)
    have ltr : (measG List.sum R)[i]? = some tr := by
      rw [← htr]
      exact fL_get (by have := meas_len List.sum R R.length (Nat.le_refl _); rw [List.take_length] at this; omega)
    have gd : (its (.list (nums (measG maxL R))))[i]? = some (.int (dp : Nat)) := by
      show (nums (measG maxL R))[i]? = _
      rw [nums, List.getElem?_map, ldp]
      rfl
    have gt : (its (.list (nums (measG List.sum R))))[i]? = some (.int (tr : Nat)) := by
      show (nums (measG List.sum R))[i]? = _
      rw [nums, List.getElem?_map, ltr]
      rfl
    have rdl : ∀ {H'}, Sm H16 H' → Dr All H' (.ref dl) (.list (nums (measG maxL R))) := fun s => .lst trivial (s _ _ edl16) (vints_dr _)
    have rtl : ∀ {H'}, Sm H16 H' → Dr All H' (.ref tl) (.list (nums (measG List.sum R))) := fun s => .lst trivial (s _ _ etl16) (vints_dr _)
    obtain ⟨b1, b2⟩ := steps_between W hiR hc
    rw [hst, hdp] at b1
    rw [hst, htr] at b2
    have bst : st ≤ 16 := by
      rw [← hst]
      have := List.length_filter_le (fun j => (rowAt R j).isMade) ks
      omega
    have btr : tr ≤ 4 ^ 16 := by
      rw [← htr]
      have h1 := tree_le W hnm (i + 1) i (by omega) hiR
      have h2 : (3 + 1) ^ i ≤ 4 ^ 16 := Nat.pow_le_pow_right (by decide) (by omega)
      omega
    have fD2 : fit (.list [.int (st : Nat), .int (st : Nat), .int (dp : Nat), .int (dp : Nat), .int (tr : Nat), .int (tr : Nat)]) 6 = true := by
      have a1 : ∀ n, fit (.int (st : Nat)) n = true := fun n => int_fit (by omega)
      have a2 : ∀ n, fit (.int (dp : Nat)) n = true := fun n => int_fit (by omega)
      have a3 : ∀ n, fit (.int (tr : Nat)) n = true := fun n => big_fit btr
      rw [fit]
      simp only [fitA, List.length_cons, List.length_nil, Bool.and_eq_true, decide_eq_true_eq, a1, a2, a3, and_true]
      omega
    refine ⟨_, rfl, _, rfl, _, rfl, _, rfl, _, rfl, _, i, _, rdl s25, rfl, rfl, gd, fun y1 r1 => ?_⟩
    cases r1.int_inv
    refine ⟨_, rfl, _, rfl, _, i, _, rdl s25, rfl, rfl, gd, fun y2 r2 => ?_⟩
    cases r2.int_inv
    refine ⟨_, rfl, _, rfl, _, i, _, rtl s25, rfl, rfl, gt, fun y3 r3 => ?_⟩
    cases r3.int_inv
    refine ⟨_, rfl, _, rfl, _, i, _, rtl s25, rfl, rfl, gt, fun y4 r4 => ?_⟩
    cases r4.int_inv
    refine ⟨(by show 6 ≤ sizeLine; decide), fun p9 np9 => ?_⟩
    have t9 := Sm.new (o := .lst [.int (st : Nat), .int (st : Nat), .int (dp : Nat), .int (dp : Nat), .int (tr : Nat), .int (tr : Nat)]) np9
    have six : ∀ {H'}, DrA All H' [.int (st : Nat), .int (st : Nat), .int (dp : Nat), .int (dp : Nat), .int (tr : Nat), .int (tr : Nat)] [.int (st : Nat), .int (st : Nat), .int (dp : Nat), .int (dp : Nat), .int (tr : Nat), .int (tr : Nat)] := .cons (.int _) (.cons (.int _) (.cons (.int _) (.cons (.int _) (.cons (.int _) (.one (.int _))))))
    refine ⟨_, _, _, rfl, .lst trivial (t9 _ _ egl3) six, .lst trivial upd_same six, fD2, fun H26 s26 => ?_⟩
    refine ⟨_, rfl, iteF ?_⟩
    have sE := s25.trans (t9.trans s26)
    clear t9 s26 np9 s25
    -- not depths[part] <= steps <= trees[part] or not _law_same(needs_of(web, part), under)
    refine ⟨_, rfl, _, rfl, _, i, _, rdl sE, rfl, rfl, gd, fun y1 r1 => ?_⟩
    cases r1.int_inv
    refine ⟨_, rfl, _, _, rfl, rfl, _, rfl, ?_⟩
    rw [decide_eq_true (show ((dp : Nat) : Int) ≤ ((st : Nat) : Int) by omega)]
    refine iteT ⟨_, rfl, _, rfl, _, i, _, rtl sE, rfl, rfl, gt, fun y2 r2 => ?_⟩
    cases r2.int_inv
    refine ⟨_, _, rfl, rfl, _, rfl, ?_⟩
    rw [decide_eq_true (show ((st : Nat) : Int) ≤ ((tr : Nat) : Int) by omega)]
    refine iteF ?_
    refine ⟨_, rfl, _, rfl, u, .int (i : Nat), ew, .int (i : Nat), rfl, rw16.sm sE, wde, .int _, hs', fun R' k' ks1 c9 H27 z1 e1 p1 s27 nc9 hc9 ec9 => ?_, ways_no sc pk⟩
    obtain ⟨rfl, _⟩ := sc.det z1
    obtain rfl : i = k' := by injection e1 with e1; omega
    obtain rfl := hc.uniq hc9
    have sF := sE.trans s27
    refine ⟨_, rfl, _, _, .list (nums ks), rfl, .lst trivial ec9 (vints_dr _), .lst trivial (sF _ _ ec16) (vints_dr _), fit_mono (show 2 ≤ 6 by decide) fk, fun H28 s28 => ?_⟩
    refine ⟨_, rfl, iteF ?_⟩
    have sG := ((s58.trans sC).trans sF).trans s28
    exact ⟨_, _, _, _, _, _, rfl, gA.trans (Gw.of sG), hw5.sm sG⟩
  · rintro σ3 H3 ⟨x5, x6, x7, x8, x9, x10, rfl, g3, hw3⟩
    rw [lxs] at hw3
    exact q H3 (g2.trans g3) (hw3.mono (by omega))
end
end K8

/-! Truths: drawn, repr of them, some first and then the others. -/
namespace K8
open PySem PySem.Spec PyProof.Rows L2 WR
/-! ### dicts of truths -/
theorem putK_tV {qs : List (Nat × Bool)} {q : Nat × Bool} (h : q.1 ∉ qs.map (·.1)) : putK (tV qs) (Sum.inl (q.1 : Int)) (V.bl q.2) = tV (qs ++ [q]) := by
  have hn : tF qs q.1 = none := by
    induction qs with
    | nil => rfl
    | cons p qs ih =>
      simp only [List.map_cons, List.mem_cons, not_or] at h
      unfold tF
      rw [if_neg (Ne.symm h.1)]
      exact ih h.2
  rw [putK_new _ (by rw [tV_val, hn]; rfl)]
  simp [tV]
theorem merge_tV : ∀ (qs acc : List (Nat × Bool)), ((acc ++ qs).map (·.1)).Nodup → mergeK (tV acc) (tV qs) = tV (acc ++ qs)
  | [], acc, _ => by rw [List.append_nil]; rfl
  | q :: qs, acc, h => by
    have h1 : q.1 ∉ acc.map (·.1) := fun z => by
      rw [List.map_append, List.map_cons] at h
      exact (List.nodup_append.mp h).2.2 _ z _ (List.mem_cons_self ..) rfl
    show mergeK (putK (tV acc) (Sum.inl (q.1 : Int)) (V.bl q.2)) (tV qs) = _
    rw [putK_tV h1, merge_tV qs (acc ++ [q]) (by simpa using h)]
    simp
theorem tF_mem : ∀ {ts : List (Nat × Bool)} {p : Nat × Bool}, (ts.map (·.1)).Nodup → p ∈ ts → tF ts p.1 = some p.2
  | [], _, _, h => by cases h
  | q :: ts, p, nd, h => by
    simp only [List.map_cons, List.nodup_cons] at nd
    unfold tF
    rcases List.mem_cons.mp h with rfl | h
    · rw [if_pos rfl]
    · rw [if_neg fun e => nd.1 (by rw [e]; exact List.mem_map.mpr ⟨p, h, rfl⟩)]
      exact tF_mem nd.2 h
theorem tF_none : ∀ {ts : List (Nat × Bool)} {k : Nat}, tF ts k = none → k ∉ ts.map (·.1)
  | [], _, _ => by simp
  | q :: ts, k, h => by
    unfold tF at h
    by_cases e : q.1 = k
    · rw [if_pos e] at h
      cases h
    · rw [if_neg e] at h
      simp only [List.map_cons, List.mem_cons, not_or]
      exact ⟨fun z => e z.symm, tF_none h⟩
/-- the places of asked rows differ: what is decided later is found there -/
theorem tF_map {f : Nat → Nat} {A : List Nat} (inj : ∀ a ∈ A, ∀ b ∈ A, f a = f b → a = b) : ∀ {ts : List (Nat × Bool)}, (∀ p ∈ ts, p.1 ∈ A) → ∀ {a : Nat}, a ∈ A → tF (ts.map fun p => (f p.1, p.2)) (f a) = tF ts a
  | [], _, _, _ => rfl
  | q :: ts, h, a, ha => by
    have ih := tF_map inj (ts := ts) (fun p hp => h p (List.mem_cons_of_mem _ hp)) ha
    show (if f q.1 = f a then some q.2 else tF (ts.map fun p => (f p.1, p.2)) (f a)) = if q.1 = a then some q.2 else tF ts a
    rw [ih]
    by_cases e : q.1 = a
    · rw [if_pos e, if_pos (by rw [e])]
    · rw [if_neg e, if_neg fun z => e (inj _ (h q (List.mem_cons_self ..)) _ ha z)]
theorem tF_split {f : Nat → Nat} {A : List Nat} (inj : ∀ a ∈ A, ∀ b ∈ A, f a = f b → a = b) {ts : List (Nat × Bool)} (h : ∀ p ∈ ts, p.1 ∈ A) {a : Nat} (ha : a ∈ A) : tF ts a = (tF (ts.take 1) a).or (tF ((ts.drop 1).map fun p => (f p.1, p.2)) (f a)) := by
  cases ts with
  | nil => rfl
  | cons q ts =>
    have e := tF_map inj (ts := ts) (fun p hp => h p (List.mem_cons_of_mem _ hp)) ha
    show tF (q :: ts) a = (tF [q] a).or (tF (ts.map fun p => (f p.1, p.2)) (f a))
    rw [e]
    show (if q.1 = a then some q.2 else tF ts a) = (if q.1 = a then some q.2 else none).or (tF ts a)
    by_cases z : q.1 = a
    · rw [if_pos z, if_pos z]
      rfl
    · rw [if_neg z, if_neg z]
      rfl
theorem map_inj {f : Nat → Nat} : ∀ {A : List Nat}, (A.map f).Nodup → ∀ a ∈ A, ∀ b ∈ A, f a = f b → a = b
  | [], _, a, ha, _, _, _ => by cases ha
  | c :: A, nd, a, ha, b, hb, e => by
    simp only [List.map_cons, List.nodup_cons] at nd
    rcases List.mem_cons.mp ha with h1 | h1
    · rcases List.mem_cons.mp hb with h2 | h2
      · rw [h1, h2]
      · rw [h1] at e
        exact absurd (List.mem_map.mpr ⟨b, h2, e.symm⟩) nd.1
    · rcases List.mem_cons.mp hb with h2 | h2
      · rw [h2] at e
        exact absurd (List.mem_map.mpr ⟨a, h1, e⟩) nd.1
      · exact map_inj nd.2 a h1 b h2 e
/-- all are among some as many -/
theorem full_mem {ks js : List Nat} (nk : ks.Nodup) (sub : ∀ k ∈ ks, k ∈ js) (nj : js.Nodup) (hl : ks.length = js.length) : ∀ j ∈ js, j ∈ ks := by
  intro j hj
  by_cases h : j ∈ ks
  · exact h
  · exfalso
    have h1 : ∀ k ∈ ks, k ∈ js.erase j := fun k hk => (nj.mem_erase_iff).mpr ⟨fun z => h (by rw [← z]; exact hk), sub k hk⟩
    have h2 : ∀ {a b : List Nat}, a.Nodup → (∀ k ∈ a, k ∈ b) → a.length ≤ b.length := by
      intro a
      induction a with
      | nil => exact fun _ _ => Nat.zero_le _
      | cons x a ih =>
        intro b nd hs
        obtain ⟨n1, n2⟩ := List.nodup_cons.mp nd
        have hx := hs x (List.mem_cons_self ..)
        have := ih (b := b.erase x) n2 fun k hk => (List.mem_erase_of_ne (fun z => n1 (by rw [← z]; exact hk))).mpr (hs k (List.mem_cons_of_mem _ hk))
        rw [List.length_erase_of_mem hx] at this
        have hpos := List.length_pos_of_mem hx
        simp only [List.length_cons]
        omega
    have h3 := h2 nk h1
    rw [List.length_erase_of_mem hj] at h3
    have hpos := List.length_pos_of_mem hj
    omega
/-! ### a list of pairs, drawn -/
theorem lc_prs {J : It} {te : TE} {vs : List Nat} {i : Nat} {σ : L2.St} {H1 : Hp} {D wa : Addr} {n c : Nat} {M : Addr → Prop} {ks : List Nat} {Qd : Hp → Prop} (RR : Nat → Nat × Bool → Prop) (W : WalkW wa M J H1 (nums ks)) (nD : H1 D = none) (hw0 : Wl H1 wa n) (hlen : ks.length ≤ lim)
    (hw : ∀ x, wipe ((wipe σ vs).set i (some x)) vs = wipe σ vs)
    (hs : ∀ (k j : Nat) (H2 : Hp) (Q : VK), ks[j]? = some k → Gw wa H1 H2 → Wl H2 wa (n + c * j) →
      (∀ (T : Addr) (q : Nat × Bool) H3, Gw wa H2 H3 → Wl H3 wa (n + c * (j + 1)) → H3 T = some (.tup [.int (q.1 : Nat), .bl q.2]) → RR k q → Q (.ref T) H3) → te ((wipe σ vs).set i (some (.int (k : Nat)))) H2 Q)
    (hd : ∀ H2 (Ts : List Addr) (qs : List (Nat × Bool)), Gw wa H1 H2 → Wl H2 wa (n + c * ks.length) → H2 D = some (.lst (Ts.map V.ref)) → Paired (fun (T : Addr) (q : Nat × Bool) => H2 T = some (.tup [.int (q.1 : Nat), .bl q.2])) Ts qs → qs.length = ks.length → (∀ (j k : Nat), ks[j]? = some k → ∃ q, qs[j]? = some q ∧ RR k q) → Qd H2) :
    ∃ W : Nat → Nat → Hp → Prop, (∃ m, W 0 m (upd H1 D (.lst []))) ∧ ∀ i' m H, W i' m H →
      (J.stop i' H ∧ Qd H) ∨ (J.go i' H ∧ ∃ Nx : Hp → Prop, (∀ H', Nx H' → ∃ m', m' < m ∧ W (i' + 1) m' H') ∧ ∀ x H', J.yld i' H x H' → gName i x (wipe σ vs) H' fun σ2 H2 => wipe σ2 vs = wipe σ vs ∧ tYes σ2 H2 fun b H3 =>
        if b = true then te σ2 H3 fun y H4 => ∃ acc, H4 D = some (.lst acc) ∧ acc.length < sizeLine ∧ Nx (upd H4 D (.lst (acc ++ [y]))) else Nx H3) := by
  have nDw : D ≠ wa := hw0.ne nD
  have hsl := lim_lt
  have ln : (nums ks).length = ks.length := by simp [nums]
  refine lc_walk (n := ks.length) (fun j H2 => Gw wa H1 H2 ∧ Wl H2 wa (n + c * j) ∧ ∃ Ts qs, H2 D = some (.lst (Ts.map V.ref)) ∧ Paired (fun (T : Addr) (q : Nat × Bool) => H2 T = some (.tup [.int (q.1 : Nat), .bl q.2])) Ts qs ∧ qs.length = j ∧ (∀ (m k : Nat), m < j → ks[m]? = some k → ∃ q, qs[m]? = some q ∧ RR k q)) ?_ ?_ ?_ ?_ ?_
  · exact ⟨Gw.of (Sm.new nD), by simpa using hw0.sm (Sm.new nD), [], [], upd_same, .nil, rfl, fun m k h => absurd h (Nat.not_lt_zero m)⟩
  · rintro j H2 hj ⟨s, _⟩
    exact W.go _ _ s (by omega)
  · rintro H2 ⟨s, _⟩
    have := W.stop _ s
    rwa [ln] at this
  · rintro j x H2 H' hj ⟨s, hw2, Ts, qs, eD, pr, hl, al⟩ hy
    obtain ⟨rfl, d, hd', rd⟩ := W.yld _ _ _ _ s (by omega) hy
    have hk : ks[j]? = some ks[j] := List.getElem?_eq_getElem hj
    rw [nums, List.getElem?_map, hk] at hd'
    cases hd'
    cases rd
    refine ⟨hw _, ?_⟩
    dsimp only [tYes]
    rw [if_pos rfl]
    refine hs ks[j] j H' _ hk s hw2 fun T q H3 s3 hw3 eT rr => ?_
    have eD3 := s3 D _ nDw eD
    have lT : Ts.length = j := by rw [Paired.length pr, hl]
    refine ⟨Ts.map V.ref, eD3, by rw [List.length_map]; omega, ?_⟩
    have keep : ∀ b zs, H3 b = some (.tup zs) → upd H3 D (.lst (Ts.map V.ref ++ [V.ref T])) b = some (.tup zs) := fun b zs z => by
      rw [upd_ne fun y => by rw [y, eD3] at z; cases z]
      exact z
    obtain ⟨a', b', c', ew, _⟩ := hw2
    have tupw : ∀ b zs, H' b = some (.tup zs) → H3 b = some (.tup zs) := fun b zs z => s3 b _ (fun y => by rw [y, ew] at z; cases z) z
    refine ⟨fun b o hb z => ?_, ?_, Ts ++ [T], qs ++ [q], by rw [upd_same]; simp, ?_, by simp [hl], fun m k hm hk2 => ?_⟩
    · rw [upd_ne (ne_of_none z nD)]
      exact s3 _ _ hb (s _ _ hb z)
    · obtain ⟨a, b, c', e', h'⟩ := hw3
      exact ⟨a, b, c', by rw [upd_ne (Ne.symm nDw)]; exact e', h'⟩
    · have pr2 : Paired (fun (T' : Addr) (q' : Nat × Bool) => upd H3 D (.lst (Ts.map V.ref ++ [V.ref T])) T' = some (.tup [.int (q'.1 : Nat), .bl q'.2])) Ts qs := Paired.mapP pr fun T' q' z => keep T' _ (tupw T' _ z)
      exact Paired.app1 (F := fun (T' : Addr) (q' : Nat × Bool) => upd H3 D (.lst (Ts.map V.ref ++ [V.ref T])) T' = some (.tup [.int (q'.1 : Nat), .bl q'.2])) (keep T _ eT) pr2
    · by_cases hmj : m < j
      · obtain ⟨q', e1, e2⟩ := al m k hmj hk2
        exact ⟨q', by rw [List.getElem?_append_left (by omega)]; exact e1, e2⟩
      · have : m = j := by omega
        subst this
        rw [hk] at hk2
        cases hk2
        exact ⟨q, by rw [List.getElem?_append_right (by omega), hl, Nat.sub_self]; rfl, rr⟩
  · rintro H2 ⟨s, hw2, Ts, qs, eD, pr, hl, al⟩
    exact hd H2 Ts qs s hw2 eD pr hl fun j k e => al j k (List.getElem?_eq_some_iff.mp e).1 e
/-! ### repr([web, truths]) -/
def tD (ts : List (Nat × Bool)) : List (PyData × PyData) := ts.map fun p => (.int (p.1 : Int), .bool p.2)
section
variable {P : Program} {w : World} {H : Hp} {h : Heap}
theorem tReads : ∀ {ts : List (Nat × Bool)} {vs : List (Key × Value)} {es : List DictEntry}, KV (tV ts) vs → Pairs (mixKind P w) es vs → ReadsAll h (es.map (·.key)) ((tD ts).map (·.1)) [] ∧ ReadsAll h (es.map (·.val)) ((tD ts).map (·.2)) []
  | [], _, _, .nil, .nil => ⟨.nil, .nil⟩
  | p :: ts, _, _, @Paired.cons _ _ _ _ q _ _ r2 t2, @Pairs.cons _ _ _ _ _ e _ es _ k1 k2 p2 => by
    obtain ⟨a1, a2⟩ := tReads (ts := ts) t2 p2
    have hq : q.1 = Sum.inl (p.1 : Int) := r2.1.symm
    rw [hq] at k1
    have k1' : keyIs (Sum.inl (p.1 : Int)) e.key = true := k1
    have hb : q.2 = Value.bool p.2 := r2.2
    rcases keyIs_shape k1' with ⟨i, t, z, ek⟩ | ⟨y, t, z, ek⟩
    · cases z
      have c0 : Reads h e.key (.int (p.1 : Int)) [] := by rw [ek]; exact .int _ t
      have c1 : Reads h e.val (.bool p.2) [] := by rw [k2, hb]; exact .bool _
      have := ReadsAll.cons c0 a1
      have := ReadsAll.cons c1 a2
      exact ⟨by simpa [tD] using ReadsAll.cons c0 a1, by simpa [tD] using ReadsAll.cons c1 a2⟩
    · cases z
end
def rReprT : List V → Hp → VK → Prop := fun xs H Q => ∃ (l a : Addr) (v : V) (d : PyData) (ts : List (Nat × Bool)), xs = [.ref l] ∧ H l = some (.lst [v, .ref a]) ∧ Dr All H v d ∧ H a = some (.dK (tV ts)) ∧ rprOk (.list [d, .dict (tD ts)]) ∧ Q (.str (PyData.list [d, .dict (tD ts)]).shown) H
theorem call_reprT {X : Cx} {k : Nat} (room : Room k X.A) (free : X.A.guards = some []) (sm : ∃ o, X.base.get? sysModules = some o) : CallR X (.builtin "repr") rReprT := by
  intro pins s σ H xs us Q I r h
  obtain ⟨l, a, v, d, ts, rfl, el, rd, ea, ⟨k1, k2, k3⟩, q⟩ := h
  obtain ⟨u, rfl, rv⟩ := vals1 r
  cases (show u = Value.ref l from rv)
  obtain ⟨_, its, m, rvs, g⟩ := (show ObjOk X.prog X.w H s.heap l (.lst [v, .ref a]) from I.hok _ _ el)
  obtain ⟨u1, u2, rfl, r1, r2⟩ := vals2 rvs
  obtain ⟨as, hr, hn⟩ := drReads I.hok rd r1
  cases (show u2 = Value.ref a from r2)
  obtain ⟨_, _, vs, kv, o, es, ep, g2, ex, hd, _, ps, _⟩ := (show ObjOk X.prog X.w H s.heap a (.dK (tV ts)) from I.hok _ _ ea)
  obtain ⟨t1, t2⟩ := tReads (h := s.heap) kv ps
  have hu := room.un
  have hd' : Reads s.heap (.ref a) (.dict (tD ts)) _ := .dict g2 ex.1 hd t1 t2
  have hL : Reads s.heap (.ref l) (.list [d, .dict (tD ts)]) _ := .list g rfl rfl (.cons hr (.cons hd' .nil))
  refine PySem.repr_of_reads' hL k1 (fun _ z => ?_) free (by omega) (fun _ _ e => e) (fun h' u tk hk => ⟨.str _, H, I.kept hk, ⟨_, rfl⟩, q⟩) k2
  obtain ⟨o', e'⟩ := sm
  have hb := (I.bs _ _ e').2
  simp only [List.mem_cons, List.mem_append, List.append_nil, List.nil_append, List.not_mem_nil, or_false] at z
  rcases z with z | z | z
  · rw [z, el] at hb
    cases hb
  · exact hn _ z hb
  · rw [z, ea] at hb
    cases hb
end K8

/-! For _law_decided_right. -/
namespace K8
open PySem PySem.Spec PyProof.Rows L2 WR
/-- [f(k) for k in ks] -/
theorem map_comp {J : It} {te : TE} {vs : List Nat} {i : Nat} {σ : L2.St} {H1 : Hp} {D : Addr} {ks : List Nat} {Qd : Hp → Prop} (f : Nat → Nat) (W : Walk J H1 (nums ks)) (nD : H1 D = none) (hlen : ks.length ≤ lim)
    (hw : ∀ x, wipe ((wipe σ vs).set i (some x)) vs = wipe σ vs)
    (hs : ∀ (k : Nat) (H2 : Hp) (Q : VK), k ∈ ks → Sm H1 H2 → Q (.int (f k : Nat)) H2 → te ((wipe σ vs).set i (some (.int (k : Nat)))) H2 Q)
    (hd : ∀ H2, Sm H1 H2 → H2 D = some (.lst (vN (ks.map f))) → Qd H2) :
    ∃ W : Nat → Nat → Hp → Prop, (∃ m, W 0 m (upd H1 D (.lst []))) ∧ ∀ i' m H, W i' m H →
      (J.stop i' H ∧ Qd H) ∨ (J.go i' H ∧ ∃ Nx : Hp → Prop, (∀ H', Nx H' → ∃ m', m' < m ∧ W (i' + 1) m' H') ∧ ∀ x H', J.yld i' H x H' → gName i x (wipe σ vs) H' fun σ2 H2 => wipe σ2 vs = wipe σ vs ∧ tYes σ2 H2 fun b H3 =>
        if b = true then te σ2 H3 fun y H4 => ∃ acc, H4 D = some (.lst acc) ∧ acc.length < sizeLine ∧ Nx (upd H4 D (.lst (acc ++ [y]))) else Nx H3) := by
  have hsl := lim_lt
  have hn : (nums ks).length = ks.length := by simp [nums]
  refine lc_walk (n := ks.length) (fun m H2 => Sm H1 H2 ∧ H2 D = some (.lst (vN ((ks.take m).map f)))) ⟨Sm.new nD, upd_same⟩ (fun m H2 hm h => W.go _ _ h.1 (by omega)) (fun H2 h => by have := W.stop _ h.1; rw [hn] at this; exact this) (fun m x H2 H' hm h hy => ?_) fun H2 h => ?_
  · obtain ⟨s, eD⟩ := h
    obtain ⟨rfl, d, hd', rd⟩ := W.yld _ _ _ _ s (by omega) hy
    have hk : ks[m]? = some ks[m] := List.getElem?_eq_getElem hm
    rw [nums, List.getElem?_map, hk] at hd'
    cases hd'
    cases rd
    have et : ks.take (m + 1) = ks.take m ++ [ks[m]] := by rw [List.take_add_one, hk]; rfl
    refine ⟨hw _, ?_⟩
    dsimp only [tYes]
    rw [if_pos rfl]
    refine hs ks[m] H' _ (List.getElem_mem hm) s ⟨_, eD, ?_, ?_, ?_⟩
    · simp only [vN, List.length_map, List.length_take]
      omega
    · exact fun c o e => by
        rw [upd_ne (ne_of_none e nD)]
        exact s _ _ e
    · rw [upd_same, et, List.map_append]
      simp [vN]
  · have := h.2
    rw [List.take_length] at this
    exact hd H2 h.1 this
/-- what is decided is no bigger -/
theorem decStep_base {t : Nat → Option Bool} {x : List Row × List Nat} {r : Row} (h : ∀ z ∈ x.1, z.base) (hr : r.base) : ∀ z ∈ (decStep t x r).1, z.base := by
  cases e : decPlace t x.2 r with
  | some q =>
    rw [decStep_some e]
    exact h
  | none =>
    rw [decStep_none e]
    show ∀ z ∈ newRows _ _, _
    intro z hz
    unfold newRows at hz
    split at hz
    · exact h z hz
    · rcases List.mem_append.mp hz with y | y
      · exact h z y
      · rw [List.mem_singleton.mp y]
        exact Row.base_led hr
theorem dec_base {t : Nat → Option Bool} {S : List Row} (h : ∀ r ∈ S, r.base) : ∀ r ∈ (dec t S).1, r.base := by
  have go : ∀ (S : List Row) (x : List Row × List Nat), (∀ r ∈ S, r.base) → (∀ z ∈ x.1, z.base) → ∀ z ∈ (S.foldl (decStep t) x).1, z.base := by
    intro S
    induction S with
    | nil => exact fun x _ h => h
    | cons r S ih => exact fun x h1 h2 => ih _ (fun z hz => h1 z (List.mem_cons_of_mem _ hz)) (decStep_base h2 (h1 r (List.mem_cons_self ..)))
  exact go S _ h (fun _ hz => nomatch hz)
theorem Decd.ps {S R : List Row} {ps : List Nat} (J : Decd S R ps) : ∀ k ∈ ps, k < R.length := fun k hk => by
  obtain ⟨i, hi, rfl⟩ := List.mem_iff_getElem.mp hk
  have h1 := J.lt i (by rw [← J.len]; exact hi)
  have e : fL ps i = ps[i] := by
    unfold fL
    rw [List.getD_eq_getElem?_getD, List.getElem?_eq_getElem hi]
    rfl
  rwa [e] at h1
/-! ### sizes of truths -/
theorem tD_shown : ∀ {ts : List (Nat × Bool)}, (∀ p ∈ ts, p.1 ≤ 100) → PyData.showableKv (tD ts) = true ∧ PyData.depthKv (tD ts) = 0 ∧ ((PyData.shownKv (tD ts)).map (·.length)).sum ≤ 300 * ts.length ∧ (PyData.shownKv (tD ts)).length = ts.length
  | [], _ => ⟨rfl, rfl, Nat.le_refl _, rfl⟩
  | p :: ts, h => by
    obtain ⟨h1, h2, h3, h4⟩ := tD_shown (ts := ts) fun q hq => h q (List.mem_cons_of_mem _ hq)
    have hp := h p (List.mem_cons_self ..)
    have lg : ((p.1 : Int)).natAbs.log2 < 100 := by
      have := nat_log (n := p.1) (by omega)
      omega
    have e1 := int_shown lg
    have e2 : (PyData.bool p.2).shown.length ≤ 122 := by cases p.2 <;> decide
    have e3 : ((": " : String) : Str).length = 2 := rfl
    have sk : (PyData.int (p.1 : Int)).showable = true := by
      simp only [PyData.showable, decide_eq_true_eq]
      omega
    refine ⟨?_, ?_, ?_, ?_⟩
    · show PyData.showableKv ((PyData.int (p.1 : Int), PyData.bool p.2) :: tD ts) = true
      simp only [PyData.showableKv, Bool.and_eq_true]
      exact ⟨⟨sk, rfl⟩, h1⟩
    · show PyData.depthKv ((PyData.int (p.1 : Int), PyData.bool p.2) :: tD ts) = 0
      simp only [PyData.depthKv, h2]
      rfl
    · show ((PyData.shownKv ((PyData.int (p.1 : Int), PyData.bool p.2) :: tD ts)).map (·.length)).sum ≤ _
      simp only [PyData.shownKv, List.map_cons, List.sum_cons, strLen_append, e3, List.length_cons]
      omega
    · show (PyData.shownKv ((PyData.int (p.1 : Int), PyData.bool p.2) :: tD ts)).length = _
      simp only [PyData.shownKv, List.length_cons, h4]
theorem rpr_tD {d : PyData} {ts : List (Nat × Bool)} (h1 : tame true d 3 = true) (h2 : ∀ p ∈ ts, p.1 ≤ 100) (h3 : ts.length ≤ 100) : rprOk (.list [d, .dict (tD ts)]) := by
  obtain ⟨a1, a2⟩ := tame_showable h1
  have c1 := tame_shown h1
  obtain ⟨b1, b2, b3, b4⟩ := tD_shown h2
  have hx := dictText_len_le (PyData.shownKv (tD ts))
  have z := listText_len_le (PyData.shownAll [d, .dict (tD ts)])
  have t3 : tB 3 = 319243 := by decide
  have sz : sizeLine = 16777216 := rfl
  refine ⟨by simp only [PyData.showable, PyData.showableAll, a1, b1]; rfl, ?_, by simp only [PyData.depth, PyData.depthAll, b2]; omega⟩
  show (listText (PyData.shownAll [d, .dict (tD ts)])).length ≤ sizeLine
  have e : (PyData.dict (tD ts)).shown = dictText (PyData.shownKv (tD ts)) := rfl
  simp only [PyData.shownAll, List.map_cons, List.map_nil, List.sum_cons, List.sum_nil, List.length_cons, List.length_nil, e] at z ⊢
  omega
/-! ### words -/
theorem words_any {R : List Row} (h : ∀ r ∈ R, r.isEither = false) : ((R.map fun r => PyData.str r.word).any fun z => PyData.eqv z (.str "either")) = false := by
  rw [List.any_eq_false]
  intro d hd
  obtain ⟨r, hr, rfl⟩ := List.mem_map.mp hd
  have := h r hr
  rw [← Row.eitherW] at this
  simp only [PyData.eqv]
  intro z
  rw [beq_iff_eq] at z
  rw [z] at this
  exact absurd this (by simp)
theorem words_eqOk (R : List Row) : eqOk (.list (R.map fun r => PyData.str r.word)) := by
  have a : ∀ R : List Row, PyData.canLayAll0 (R.map fun r => PyData.str r.word) = true ∧ PyData.depthAll (R.map fun r => PyData.str r.word) = 0 := by
    intro R
    induction R with
    | nil => exact ⟨rfl, rfl⟩
    | cons r R ih =>
      have w : (PyData.str r.word).canLay0 = true := by
        cases r with
        | made n ks => exact (by decide +kernel : (PyData.str "made").canLay0 = true)
        | asked n ks => exact (by decide +kernel : (PyData.str "asked").canLay0 = true)
        | either a i j => exact (by decide +kernel : (PyData.str "either").canLay0 = true)
        | given k => exact (by decide +kernel : (PyData.str "given").canLay0 = true)
      exact ⟨by simp only [List.map_cons, PyData.canLayAll0, ih.1, w]; rfl, by simp only [List.map_cons, PyData.depthAll, ih.2]; rfl⟩
  refine ⟨by simp only [PyData.canLay0, (a R).1], ?_⟩
  show PyData.depth _ ≤ 60
  simp only [PyData.depth, (a R).2]
  decide
end K8

/-! _law_decided_right. -/
namespace K8
open PySem PySem.Spec PyProof.Rows L2 WR
abbrev spDecR : Sp := fun vs H Q _ => ∃ (w : Addr) (n : Nat) (v u : V) (R : List Row) (e : PyData), vs = [.ref w, v, u] ∧ Wl H w n ∧ n + 10000 < top0 ∧ Dr (Ne w) H v (rowsD R) ∧ Dr (Ne w) H u e ∧ Lo (rowsD R) e ∧ Web R ∧ (∀ r ∈ R, r.small) ∧ R.length ≤ 16 ∧
  ∀ H', Gw w H H' → Wl H' w (n + 200) → Q (.bl true) H'
theorem nums_perm {ks js : List Nat} (h : (nums ks).Perm (nums js)) : ks.Perm js := by
  have h2 := h.map fun d => (intOf d).toNat
  have e : ∀ l : List Nat, (nums l).map (fun d => (intOf d).toNat) = l := fun l => by
    induction l with
    | nil => rfl
    | cons k l ih =>
      simp only [nums, List.map_cons, List.map_map] at ih ⊢
      rw [ih]
      rfl
  rwa [e, e] at h2
theorem dra_nums {N : Addr → Prop} {H : Hp} : ∀ {ks : List Nat} {ys : List V}, DrA N H ys (nums ks) → ys = vN ks
  | [], _, .nil => rfl
  | k :: ks, _, .cons r t => by
    cases r.int_inv
    rw [dra_nums t]
    rfl
theorem pairs_tV {K : PySem.W.Frag} {H : Hp} : ∀ {Ts : List Addr} {qs : List (Nat × Bool)}, Paired (fun (T : Addr) (q : Nat × Bool) => H T = some (.tup [.int (q.1 : Nat), .bl q.2])) Ts qs → Paired (fun (p : Addr) (kv : Key × V) => SqT K H p [L2.kV kv.1, kv.2]) Ts (tV qs)
  | _, _, .nil => .nil
  | _, _, .cons e t => .cons (SqT.of e) (pairs_tV t)
theorem atP_in {p : Row → Bool} : ∀ {R : List Row} {n k : Nat}, k < R.length → p (rowAt R k) = true → n + k ∈ atP p R n
  | [], _, _, h, _ => absurd h (Nat.not_lt_zero _)
  | r :: R, n, k, h, hp => by
    unfold atP
    cases k with
    | zero =>
      have hp' : p r = true := hp
      rw [if_pos hp']
      exact List.mem_cons_self ..
    | succ k =>
      have e : rowAt (r :: R) (k + 1) = rowAt R k := rfl
      have ih := atP_in (R := R) (n := n + 1) (k := k) (by simpa using h) (by rw [← e]; exact hp)
      rw [show n + (k + 1) = n + 1 + k by omega]
      split
      · exact List.mem_cons_of_mem _ ih
      · exact ih
theorem atP_has {p : Row → Bool} {R : List Row} {k : Nat} (h : k < R.length) (hp : p (rowAt R k) = true) : k ∈ atP p R 0 := by
  have := atP_in (n := 0) h hp
  rwa [Nat.zero_add] at this
theorem qs_pick {f : Nat → Nat} {qs ps qs' : List (Nat × Bool)} (nd : (qs.map (·.1)).Nodup) (sub : ∀ p ∈ ps, p ∈ qs) (hl : qs'.length = ps.length)
    (al : ∀ (j k : Nat), (ps.map (·.1))[j]? = some k → ∃ q, qs'[j]? = some q ∧ q.1 = f k ∧ tF qs k = some q.2) : qs' = ps.map fun p => (f p.1, p.2) := by
  refine List.ext_getElem? fun j => ?_
  rw [List.getElem?_map]
  cases h : ps[j]? with
  | none => rw [List.getElem?_eq_none (by rw [List.getElem?_eq_none_iff] at h; omega)]; rfl
  | some p =>
    obtain ⟨q, e1, e2, e3⟩ := al j p.1 (by rw [List.getElem?_map, h]; rfl)
    rw [tF_mem nd (sub p (List.mem_of_getElem? h))] at e3
    rw [e1]
    show some q = some (f p.1, p.2)
    rw [← e2, Option.some.inj e3]
theorem nums_get {ps : List Nat} {k : Nat} (h : k < ps.length) : (its (.list (nums ps)))[k]? = some (.int (fL ps k : Nat)) := by
  show (nums ps)[k]? = _
  rw [nums, List.getElem?_map, List.getElem?_eq_getElem h]
  unfold fL
  rw [List.getD_eq_getElem?_getD, List.getElem?_eq_getElem h]
  rfl
theorem nodup_map {f : Nat → Nat} : ∀ {l : List Nat}, (∀ a ∈ l, ∀ b ∈ l, f a = f b → a = b) → l.Nodup → (l.map f).Nodup
  | [], _, _ => List.nodup_nil
  | a :: l, inj, nd => by
    obtain ⟨n1, n2⟩ := List.nodup_cons.mp nd
    rw [List.map_cons, List.nodup_cons]
    refine ⟨fun z => ?_, nodup_map (fun x hx y hy => inj x (List.mem_cons_of_mem _ hx) y (List.mem_cons_of_mem _ hy)) n2⟩
    obtain ⟨b, hb, e⟩ := List.mem_map.mp z
    have := inj b (List.mem_cons_of_mem _ hb) a (List.mem_cons_self ..) e
    rw [this] at hb
    exact n1 hb
theorem OwN.gw {H H1 H' : Hp} {v : V} {d : PyData} {f : List Addr} {wa : Addr} {n m : Nat} (o : OwN H H1 v d f) (hw0 : Wl H wa m) (hw : Wl H1 wa n) (g : Gw wa H1 H') : OwN H H' v d f := by
  obtain ⟨a, b, c', e', _⟩ := hw
  obtain ⟨a0, b0, c0, e0, _⟩ := hw0
  refine ⟨o.ow.keep (fun a xs e => g _ _ (fun z => by rw [z, e'] at e; cases e) e) fun b hb o' e => g _ _ (fun z => ?_) e, o.nd, o.nw⟩
  have := o.nw b hb
  rw [z, e0] at this
  cases this
section
variable {P : Program} {w : World} {K : PySem.W.Frag} {mg : Str → Option Value} {base : Heap} {CW CT : Addr}
theorem sc__law_decided_right : FnScope ["well", "rows", "web", "asked", "turn", "some", "truths", "due", "was", "found", "first", "rest", "is_plain", "then", "at", "row"] ["well", "rows", "web"] (defScope s_law_decided_right) := ⟨rfl, rfl, rfl, by decide +kernel, rfl, by decide +kernel, by decide +kernel⟩
theorem okG__law_decided_right (B : Bt mg) (SM : ∃ o, base.get? sysModules = some o) (F : Fn K mg d_law_decided_right)
    (D1 : Df P w K mg base CX0 1 "_law_draw" ["well", "many"] spDraw) (D2 : Df P w K mg base CX0 2 "_law_pick" ["well", "some"] spPick) (D3 : Df P w K mg base CX0 2 "_law_mixed" ["well", "some"] spMixed)
    (D4 : Df P w K mg base CX0 7 "_law_same" ["found", "due"] (spSame 7)) (D6 : Df P w K mg base CX0 7 "_law_spoiled" ["thing"] (spPoil 7)) (D7 : Df P w K mg base CX0 2 "_law_decided" ["rows", "truths"] spKDec)
    (D8 : Df P w K mg base CX0 1 "_law_p_once" ["some"] spOnce) (DD : DfF P w K mg base (L2.CX P w) 7 "decided" ["web", "truths"] (spDecided P w CW CT) ddecided) :
    DfG P w K mg base CX0 10 "_law_decided_right" ["well", "rows", "web"] spDecR := by
  obtain ⟨f, fd, hm, F⟩ := F
  have bb : L2.Binds K fd ["well", "rows", "web"] [] := F.bindsN fun _ _ _ _ _ _ us hl => match us, hl with | [_, _, _], _ => rfl
  have kp := F.kp
  obtain ⟨oc, od, dV, kV, doc, pm, an, cdv, ct, osl, rfl, lk, hcd, _, _⟩ := F.ex
  refine ⟨f, _, hm, kp, bb, fnG_of (N := ["well", "rows", "web", "asked", "turn", "some", "truths", "due", "was", "found", "first", "rest", "is_plain", "then", "at", "row"]) lk hcd sc__law_decided_right (fun vs H Q E h => by obtain ⟨w, n, v, u, R, e, rfl, _⟩ := h; rfl) (fun A outer s H vs Q E hr free h => ?_)⟩
  obtain ⟨wa, n, v, u, R, ew, rfl, hw, hn, rd, ru, lo, WR', sm, hR, q⟩ := h
  have hr1 := hr.mono (show 1 ≤ 9 by decide)
  have hr2 := hr.mono (show 2 ≤ 9 by decide)
  have hr7 := hr.mono (show 7 ≤ 9 by decide)
  have hu0 := hr.un
  have hu1 : (A.deeper (envOfC d_law_decided_right.qual d_law_decided_right.scope s.heap.objs.size f cdv)).units + 1 < cLine := by omega
  have hu65 : (A.deeper (envOfC d_law_decided_right.qual d_law_decided_right.scope s.heap.objs.size f cdv)).units + 65 < cLine := by omega
  refine ⟨_, PSs.nox (pss_cons (ps_setLc (i := 3) (own := [("at", 14), ("row", 15)]) (g := gTup K 2 (gCons (gName 14) (gCons (gName 15) gNil))) (tt := _) rfl sc__law_decided_right.nd rfl rfl (sw_true rfl rfl rfl (by decide +kernel)) (pi_enS B.enumerate (pa_cons (pv 1) pa_nil)) (blkOk_by (own := [("at", 14), ("row", 15)]) (N := ["well", "rows", "web", "asked", "turn", "some", "truths", "due", "was", "found", "first", "rest", "is_plain", "then", "at", "row"]) (sc := defScope s_law_decided_right) (by decide +kernel)) (fun _ _ _ _ _ => pg_tup rfl (pgs_cons (pg_name (i := 14) sc__law_decided_right.nd rfl (by first | exact Or.inl rfl | exact Or.inr rfl)) (pgs_cons (pg_name (i := 15) sc__law_decided_right.nd rfl (by first | exact Or.inl rfl | exact Or.inr rfl)) pgs_nil))) (fun _ _ _ _ _ => (pts_one (pt_cmpR op_eq (pe_ix ix_D (pv 15) pe_int (fun _ _ => rfl)) pe_str (nomark _)))) (fun _ _ _ _ _ => (pv 14)))
      (pss_cons (ps_for PassesOwn.never rfl (pi_range1 rfl B.range (pa_cons pe_int pa_nil)) (pg_name (i := 4) sc__law_decided_right.nd rfl (by first | exact Or.inl rfl | exact Or.inr rfl)) (pss_cons (ps_set (i := 5) sc__law_decided_right.nd rfl (by first | exact Or.inl rfl | exact Or.inr rfl) (pe_slice (sl_N (Ne wa)) (pe_df D3 hr2 pass0 (pa_cons (pv 0) (pa_cons (pv 3) pa_nil))) po_none (po_some (pe_df D2 hr2 pass0 (pa_cons (pv 0) (pa_cons (pe_lst (pa_cons (pe_callB call_lenS (by rfl) B.len (by decide +kernel) (pa_cons (pv 3) pa_nil)) (pa_cons (pe_callB call_lenS (by rfl) B.len (by decide +kernel) (pa_cons (pv 3) pa_nil)) (pa_cons (pe_df D1 hr1 pass0 (pa_cons (pv 0) (pa_cons (pe_op op_add (pe_callB call_lenS (by rfl) B.len (by decide +kernel) (pa_cons (pv 3) pa_nil)) pe_int) pa_nil))) pa_nil)))) pa_nil))))))
      (pss_cons (ps_set (i := 6) sc__law_decided_right.nd rfl (by first | exact Or.inl rfl | exact Or.inr rfl) (pe_callTy (call_dictP rfl) (by rfl) B.dict (by decide +kernel) (pa_cons (pe_lc (own := [("at", 14)]) (g := gName 14) (tt := tYes) rfl sc__law_decided_right.nd (pi_seq (pv 5)) (blkOk_by (own := [("at", 14)]) (N := ["well", "rows", "web", "asked", "turn", "some", "truths", "due", "was", "found", "first", "rest", "is_plain", "then", "at", "row"]) (sc := defScope s_law_decided_right) (by decide +kernel)) (fun _ _ _ _ _ => pg_name (i := 14) sc__law_decided_right.nd rfl (by first | exact Or.inl rfl | exact Or.inr rfl)) (fun _ _ _ _ _ => pts_nil) (fun _ _ _ _ _ => (pe_tup (pa_cons (pv 14) (pa_cons (pe_cmpR op_eq (pe_df D1 hr1 pass0 (pa_cons (pv 0) (pa_cons pe_int pa_nil))) pe_int (nomark _)) pa_nil))))) pa_nil)))
      (pss_cons (ps_par (i := 7) (j := 8) (by rfl) sc__law_decided_right.nd rfl rfl (by decide) rfl rfl (pa_cons (pe_df D7 hr2 pass0 (pa_cons (pv 1) (pa_cons (pv 6) pa_nil))) (pa_cons (pe_callB (call_reprT hr free SM) (by rfl) B.repr (by decide +kernel) (pa_cons (pe_lst (pa_cons (pv 2) (pa_cons (pv 6) pa_nil))) pa_nil)) pa_nil)) (by first | rfl | kernel_rfl))
      (pss_cons (ps_set (i := 9) sc__law_decided_right.nd rfl (by first | exact Or.inl rfl | exact Or.inr rfl) (pe_lst (pa_cons (pe_df DD.df hr7 (passes_call LamX.takes0 (fun _ _ _ _ z => z)) (pa_cons (pv 2) (pa_cons (pv 6) pa_nil))) (pa_cons (pe_dfK (kw_decided DD) hr7 (passes_call LamX.takes0 (fun _ _ _ _ z => z)) (pk_cons (pv 6) (pk_cons (pv 2) pk_nil))) pa_nil))))
      (pss_cons (ps_if (PW.pt (pw_or (pt_not (pt_val (pe_df D4 hr7 pass0 (pa_cons (pv 9) (pa_cons (pe_lst (pa_cons (pv 7) (pa_cons (pv 7) pa_nil))) pa_nil))))) (pw_or1 (pt_cmpR op_ne (pe_callB (call_reprT hr free SM) (by rfl) B.repr (by decide +kernel) (pa_cons (pe_lst (pa_cons (pv 2) (pa_cons (pv 6) pa_nil))) pa_nil)) (pv 8) (nomark _))))) (pss_one (ps_ret pe_bl)) pss_nil)
      (C8.pss_cut (ps_if (PW.pt (pw_and (pt_cmpR op_eq (pe_callB call_lenS (by rfl) B.len (by decide +kernel) (pa_cons (pv 5) pa_nil)) (pe_callB call_lenS (by rfl) B.len (by decide +kernel) (pa_cons (pv 3) pa_nil)) (nomark _)) (pw_and1 (pt_cmpR (op_inDr hu65) pe_str (pe_lc (own := [("row", 15)]) (g := gName 15) (tt := tYes) rfl sc__law_decided_right.nd (pi_seq (pe_ix ix_D (pe_ix ix_D (pv 9) pe_int (fun _ _ => rfl)) pe_int (fun _ _ => rfl))) (blkOk_by (own := [("row", 15)]) (N := ["well", "rows", "web", "asked", "turn", "some", "truths", "due", "was", "found", "first", "rest", "is_plain", "then", "at", "row"]) (sc := defScope s_law_decided_right) (by decide +kernel)) (fun _ _ _ _ _ => pg_name (i := 15) sc__law_decided_right.nd rfl (by first | exact Or.inl rfl | exact Or.inr rfl)) (fun _ _ _ _ _ => pts_nil) (fun _ _ _ _ _ => (pe_ix ix_D (pv 15) pe_int (fun _ _ => rfl)))) (by rfl))))) (pss_one (ps_ret pe_bl)) pss_nil)
      (pss_cons (ps_set (i := 10) sc__law_decided_right.nd rfl (by first | exact Or.inl rfl | exact Or.inr rfl) (pe_df DD.df hr7 (passes_call LamX.takes0 (fun _ _ _ _ z => z)) (pa_cons (pv 2) (pa_cons (pe_callTy (call_dictP rfl) (by rfl) B.dict (by decide +kernel) (pa_cons (pe_lc (own := [("at", 14)]) (g := gName 14) (tt := tYes) rfl sc__law_decided_right.nd (pi_seq (pe_slice (sl_N (Ne wa)) (pv 5) po_none (po_some pe_int))) (blkOk_by (own := [("at", 14)]) (N := ["well", "rows", "web", "asked", "turn", "some", "truths", "due", "was", "found", "first", "rest", "is_plain", "then", "at", "row"]) (sc := defScope s_law_decided_right) (by decide +kernel)) (fun _ _ _ _ _ => pg_name (i := 14) sc__law_decided_right.nd rfl (by first | exact Or.inl rfl | exact Or.inr rfl)) (fun _ _ _ _ _ => pts_nil) (fun _ _ _ _ _ => (pe_tup (pa_cons (pv 14) (pa_cons (pe_ix (ix_K hu1) (pv 6) (pv 14) (fun _ _ => rfl)) pa_nil))))) pa_nil)) pa_nil))))
      (pss_cons (ps_set (i := 11) sc__law_decided_right.nd rfl (by first | exact Or.inl rfl | exact Or.inr rfl) (pe_callTy (call_dictP rfl) (by rfl) B.dict (by decide +kernel) (pa_cons (pe_lc (own := [("at", 14)]) (g := gName 14) (tt := tYes) rfl sc__law_decided_right.nd (pi_seq (pe_slice (sl_N (Ne wa)) (pv 5) (po_some pe_int) po_none)) (blkOk_by (own := [("at", 14)]) (N := ["well", "rows", "web", "asked", "turn", "some", "truths", "due", "was", "found", "first", "rest", "is_plain", "then", "at", "row"]) (sc := defScope s_law_decided_right) (by decide +kernel)) (fun _ _ _ _ _ => pg_name (i := 14) sc__law_decided_right.nd rfl (by first | exact Or.inl rfl | exact Or.inr rfl)) (fun _ _ _ _ _ => pts_nil) (fun _ _ _ _ _ => (pe_tup (pa_cons (pe_ix ix_D (pe_ix ix_D (pv 10) pe_int (fun _ _ => rfl)) (pv 14) (fun _ _ => rfl)) (pa_cons (pe_ix (ix_K hu1) (pv 6) (pv 14) (fun _ _ => rfl)) pa_nil))))) pa_nil)))
      (pss_cons (ps_set (i := 12) sc__law_decided_right.nd rfl (by first | exact Or.inl rfl | exact Or.inr rfl) (pe_cmpR op_eq (pe_callB call_lenS (by rfl) B.len (by decide +kernel) (pa_cons (pe_df D8 hr1 pass0 (pa_cons (pe_lc (own := [("at", 14)]) (g := gName 14) (tt := tYes) rfl sc__law_decided_right.nd (pi_seq (pv 3)) (blkOk_by (own := [("at", 14)]) (N := ["well", "rows", "web", "asked", "turn", "some", "truths", "due", "was", "found", "first", "rest", "is_plain", "then", "at", "row"]) (sc := defScope s_law_decided_right) (by decide +kernel)) (fun _ _ _ _ _ => pg_name (i := 14) sc__law_decided_right.nd rfl (by first | exact Or.inl rfl | exact Or.inr rfl)) (fun _ _ _ _ _ => pts_nil) (fun _ _ _ _ _ => (pe_ix ix_D (pe_ix ix_D (pv 10) pe_int (fun _ _ => rfl)) (pv 14) (fun _ _ => rfl)))) pa_nil)) pa_nil)) (pe_callB call_lenS (by rfl) B.len (by decide +kernel) (pa_cons (pv 3) pa_nil)) (nomark _)))
      (pss_cons (ps_set (i := 13) sc__law_decided_right.nd rfl (by first | exact Or.inl rfl | exact Or.inr rfl) (pe_ifExp (pt_val (pv 12)) (pe_df DD.df hr7 (passes_call LamX.takes0 (fun _ _ _ _ z => z)) (pa_cons (pe_ix ix_D (pv 10) pe_int (fun _ _ => rfl)) (pa_cons (pv 11) pa_nil))) pe_non))
      (pss_cons (ps_if (PW.pt (pw_and (pt_val (pv 12)) (pw_and1 (pt_not (pt_val (pe_df D4 hr7 pass0 (pa_cons (pe_tup (pa_cons (pe_ix ix_D (pv 13) pe_int (fun _ _ => rfl)) (pa_cons (pe_lc (own := [("at", 14)]) (g := gName 14) (tt := tYes) rfl sc__law_decided_right.nd (pi_seq (pe_ix ix_D (pv 10) pe_int (fun _ _ => rfl))) (blkOk_by (own := [("at", 14)]) (N := ["well", "rows", "web", "asked", "turn", "some", "truths", "due", "was", "found", "first", "rest", "is_plain", "then", "at", "row"]) (sc := defScope s_law_decided_right) (by decide +kernel)) (fun _ _ _ _ _ => pg_name (i := 14) sc__law_decided_right.nd rfl (by first | exact Or.inl rfl | exact Or.inr rfl)) (fun _ _ _ _ _ => pts_nil) (fun _ _ _ _ _ => (pe_ix ix_D (pe_ix ix_D (pv 13) pe_int (fun _ _ => rfl)) (pv 14) (fun _ _ => rfl)))) pa_nil))) (pa_cons (pv 7) pa_nil)))))))) (pss_one (ps_ret pe_bl)) pss_nil)
      (pss_one (ps_expr (pe_df D6 hr7 pass0 (pa_cons (pv 9) pa_nil))))))))))))))))
      (pss_one (ps_ret pe_bl)))), ?_⟩
  have htop : top0 = 1000000000000 := rfl
  have hlim : lim = 4000 := rfl
  have hsl := lim_lt
  have oN : Off wa (Ne wa) := fun a z => z
  have tR := web_tame WR' sm (by omega)
  have te : tame true ew 3 = true := tame_lo lo tR
  have wde := tame_wd te
  have sc : ScanOf ew R .none := WR'.scan.lo lo
  have lA := atP_len (p := Row.isAsked) R 0
  have aok : ∀ k ∈ atP Row.isAsked R 0, (rowAt R k).isAsked = true ∧ k < R.length := fun k h => asked_ok h
  have and' := atP_nodup (p := Row.isAsked) R 0
  obtain ⟨va, xs, rfl, nva, eva, rs⟩ : ∃ a xs, v = .ref a ∧ a ≠ wa ∧ H a = some (.lst xs) ∧ DrA (Ne wa) H xs (R.map Row.d) := by
    cases rd with
    | lst n e r => exact ⟨_, _, rfl, n, e, r⟩
  refine ⟨_, rfl, va, xs, rfl, .inl eva, fun J hJ D0 nD0 => ?_⟩
  refine enum_comp Row.isAsked hJ rs.all nD0 (by omega) (fun _ _ => rfl) (fun _ _ => rfl) (fun b c H2 r Q' rb q' => ?_) fun H1 s1 eD1 => ?_
  · refine ⟨_, rfl, _, 0, _, rb, Row.seqD _, rfl, Row.word_at _, fun x0 r0 => ?_⟩
    cases r0.str_inv
    refine ⟨rfl, _, rfl, ?_⟩
    rw [Row.askedP]
    exact q'
  have nDw : D0 ≠ wa := hw.ne nD0
  have hw1 := hw.sm s1
  have rd1 := rd.sm s1
  have ru1 := ru.sm s1
  have g1 : Gw wa H H1 := Gw.of s1
  generalize hA : atP Row.isAsked R 0 = as at *
  refine ⟨_, rfl, by decide, by decide, ?_⟩
  refine for_range (n := 4) (fun i σ' H2 => ∃ x4 x5 x6 x7 x8 x9 x10 x11 x12 x13, σ' = [some (.ref wa), some (.ref va), some u, some (.ref D0), x4, x5, x6, x7, x8, x9, x10, x11, x12, x13, none, none] ∧ Gw wa H1 H2 ∧ Wl H2 wa (n + 40 * i)) ?_ ?_ ?_
  · exact ⟨_, _, _, _, _, _, _, _, _, _, rfl, Gw.of Sm.rfl', hw1⟩
  rotate_left
  · rintro σ' H2 ⟨x4, x5, x6, x7, x8, x9, x10, x11, x12, x13, rfl, g2, hw2⟩
    exact q _ (g1.trans g2) (hw2.mono (by omega))
  · rintro i σ' H2 hi ⟨x4, x5, x6, x7, x8, x9, x10, x11, x12, x13, rfl, g2, hw2⟩
    have eA2 := g2 _ _ nDw eD1
    have ra2 : Dr (Ne wa) H2 (.ref D0) (.list (nums as)) := .lst nDw eA2 (vints_dr _)
    have lN : (its (.list (nums as))).length = as.length := by simp [its, nums]
    refine ⟨_, rfl, _, rfl, wa, n + 40 * i, Ne wa, .ref D0, .list (nums as), rfl, oN, hw2, by omega, ra2, rfl, by rw [lN]; omega, fun ml ys es H3 nml pm g3 hw3 em ry => ?_⟩
    rw [lN] at hw3
    have g13 := g2.trans g3
    have eA3 := g13 _ _ nDw eD1
    have rA3 : Dr All H3 (.ref D0) (.list (nums as)) := .lst trivial eA3 (vints_dr _)
    refine ⟨_, rfl, _, rfl, .ref D0, _, rfl, rA3, rfl, ?_⟩
    rw [lN]
    refine ⟨_, rfl, .ref D0, _, rfl, rA3, rfl, ?_⟩
    rw [lN]
    refine ⟨_, rfl, _, rfl, .ref D0, _, rfl, rA3, rfl, ?_⟩
    rw [lN]
    refine ⟨_, _, rfl, rfl, wa, as.length + 1, n + 40 * i + as.length, rfl, by omega, by omega, hw3, by omega, fun k0 H4 hk0 g4 hw4 => ?_⟩
    refine ⟨(by show 3 ≤ sizeLine; decide), fun p np => ?_⟩
    have npw : p ≠ wa := hw4.ne np
    have s5 : Sm H4 (upd H4 p (.lst [.int (as.length : Nat), .int (as.length : Nat), .int (k0 : Nat)])) := Sm.new np
    refine ⟨wa, _, Ne wa, .ref p, .list [.int (as.length : Nat), .int (as.length : Nat), .int (k0 : Nat)], rfl, oN, hw4.sm s5, by omega, .lst npw upd_same (.cons (.int _) (.cons (.int _) (.one (.int _)))), rfl, (fun z => by cases z), (by show 3 ≤ lim; decide), fun e he u' H6 g6 hw6 rpk => ?_⟩
    obtain ⟨m, rfl, hm'⟩ : ∃ m : Nat, e = .int (m : Nat) ∧ m ≤ as.length := by
      simp only [its, List.mem_cons, List.not_mem_nil, or_false] at he
      rcases he with rfl | rfl | rfl
      · exact ⟨_, rfl, Nat.le_refl _⟩
      · exact ⟨_, rfl, Nat.le_refl _⟩
      · exact ⟨_, rfl, by omega⟩
    cases rpk.int_inv
    have g36 := (g4.trans (Gw.of s5)).trans g6
    have nmlw : ml ≠ wa := hw2.ne nml
    have em6 := g36 _ _ nmlw em
    have ry6 := ry.gn oN hw3 g36
    refine ⟨_, rfl, .list es, .lst nmlw em6 ry6, rfl, fun v7 H7 s7 r7 => ?_⟩
    have ces : cutA es none (some (m : Int)) = es.take m := cutA_to es m
    rw [show its (.list es) = es from rfl, ces] at r7
    obtain ⟨ms, rfl, pms⟩ : ∃ ms : List Nat, es = nums ms ∧ ms.Perm as := by
      obtain ⟨ms, rfl, _⟩ := nums_back (p := fun k => k ∈ as) (es := es) fun e he => by
        obtain ⟨k, hk, rfl⟩ := List.mem_map.mp (pm.mem_iff.mp he)
        exact ⟨k, rfl, hk⟩
      exact ⟨ms, rfl, nums_perm pm⟩
    rw [show (nums ms).take m = nums (ms.take m) by simp [nums, List.map_take]] at r7
    obtain ⟨sl, rfl, nslw, esl⟩ : ∃ a, v7 = .ref a ∧ a ≠ wa ∧ H7 a = some (.lst (vN (ms.take m))) := by
      cases r7 with
      | lst n' e r => exact ⟨_, rfl, n'.elim id fun y => hw6.ne y, by rw [e, dra_nums r]⟩
    have hw7 := hw6.sm s7
    have g7 : Gw wa H1 H7 := (g13.trans g36).trans (Gw.of s7)
    have ksub : ∀ k ∈ ms.take m, k ∈ as := fun k hk => pms.mem_iff.mp (List.mem_of_mem_take hk)
    have knd : (ms.take m).Nodup := List.Sublist.nodup (List.take_sublist _ _) (pms.nodup_iff.mpr and')
    have klen : (ms.take m).length = min m as.length := by rw [List.length_take, pms.length_eq]
    generalize ms.take m = ks at esl ksub knd klen
    clear r7 em6 ry6 em ry pm pms g36 rpk s5 s7 np nml npw nmlw ces rA3 eA3 g13 ra2 eA2 hw3 hw2 g2 g3 g4 g6 hw4 hw6
    refine ⟨_, rfl, sl, _, rfl, .inl esl, fun J1 hJ1 D1 nD1 => ?_⟩
    refine lc_prs (c := 1) (M := Ne wa) (fun k q => q.1 = k) (WalkW.seq hJ1 nslw oN hw7 (vints_dr _)) nD1 hw7 (by omega) (fun _ => rfl) (fun k j H8 Q' hk g8 hw8 q' => ?_) fun H8 Ts qs g8 hw8 eD1 pr lqs al => ?_
    · have hj := (List.getElem?_eq_some_iff.mp hk).1
      refine ⟨_, rfl, _, rfl, wa, 2, _, rfl, by decide, by decide, hw8, by omega, fun kk H9 hkk g9 hw9 => ⟨rfl, (by show 2 ≤ sizeLine; decide), fun T nT => ?_⟩⟩
      have sT := Sm.new (o := .tup [.int (k : Nat), .bl (decide ((V.int (kk : Nat)) = V.int 0))]) nT
      exact q' T (k, _) _ (g9.trans (Gw.of sT)) ((hw9.sm sT).mono (by omega)) upd_same rfl
    have eqs : qs.map (·.1) = ks := by
      refine List.ext_getElem? fun j => ?_
      rw [List.getElem?_map]
      cases hk : ks[j]? with
      | none => rw [List.getElem?_eq_none (by rw [List.getElem?_eq_none_iff] at hk; omega)]; rfl
      | some k =>
        obtain ⟨q1, e1, e2⟩ := al j k hk
        rw [e1, ← e2]
        rfl
    have qnd : (qs.map (·.1)).Nodup := by rw [eqs]; exact knd
    refine ⟨D1, Ts, tV qs, rfl, SqL.of eD1, pairs_tV pr, fun ta nta => ?_⟩
    have mt : mergeK [] (tV qs) = tV qs := by
      have := merge_tV qs [] (by simpa using qnd)
      simpa [tV] using this
    rw [mt]
    have st := Sm.new (o := .dK (tV qs)) nta
    have eta : upd H8 ta (.dK (tV qs)) ta = some (.dK (tV qs)) := upd_same
    have g9 : Gw wa H1 (upd H8 ta (.dK (tV qs))) := (g7.trans g8).trans (Gw.of st)
    have hw9 := hw8.sm st
    have esl9 := st _ _ (g8 _ _ nslw esl)
    have ntaw := hw8.ne nta
    generalize upd H8 ta (.dK (tV qs)) = H9 at st eta g9 hw9 esl9 ⊢
    clear st nta eD1 pr al nD1 hJ1 g8 hw8 Ts mt esl hw7 g7 H7
    have tok : TsOk R qs := ⟨by omega, fun p hp => by
      have := aok p.1 (ksub _ (by rw [← eqs]; exact List.mem_map.mpr ⟨p, hp, rfl⟩))
      exact ⟨this.2, this.1⟩⟩
    have rd9 := (rd1.gn oN hw1 g9).all
    have ru9 := (ru1.gn oN hw1 g9)
    -- due, was
    refine ⟨_, rfl, _, rfl, .ref va, ta, R, qs, rfl, rd9, WR', by omega, eta, fun dp H10 s10 tdue => ?_⟩
    refine ⟨_, rfl, _, rfl, (by show 2 ≤ sizeLine; decide), fun l1 nl1 => ?_⟩
    have s11 := Sm.new (o := .lst [u, .ref ta]) nl1
    have rok : rprOk (.list [ew, .dict (tD qs)]) := rpr_tD te (fun p hp => by have := (tok.at_ p hp).1; omega) (by omega)
    refine ⟨l1, ta, u, ew, qs, rfl, upd_same, ((ru9.sm s10).sm s11).all, s11 _ _ (s10 _ _ eta), rok, ?_⟩
    refine ⟨_, _, rfl, ?_⟩
    have s911 := s10.trans s11
    have J0 := dec_of (t := tF qs) WR'
    have fb : ∀ r ∈ (dec (tF qs) R).1, r.base := dec_base fun r hr => Row.small_base (sm r hr)
    have Dfit : K8.fit (pairD (dec (tF qs) R).1 (dec (tF qs) R).2) 4 = true := pair_fit J0.web fb (by have := J0.hi; omega) (fun k hk => by have := J0.ps k hk; have := J0.hi; omega) (by rw [J0.len]; omega)
    have fit5 : K8.fit (pairD (dec (tF qs) R).1 (dec (tF qs) R).2) 5 = true := fit_mono (by decide) Dfit
    have fit6 : K8.fit (pairD (dec (tF qs) R).1 (dec (tF qs) R).2) 6 = true := fit_mono (by decide) Dfit
    have fitT := fit_two fit5 fit5
    have rdue := (tdue.dr.sm s11).all
    have rdueN : Dr (Ne wa) (upd H10 l1 (.lst [u, .ref ta])) (.ref dp) _ := (tdue.dr.wide fun b z => hw9.ne z).sm s11
    generalize upd H10 l1 (.lst [u, .ref ta]) = H11 at s911 rdue rdueN ⊢
    clear tdue s11 s10 nl1
    -- found
    have eta11 := s911 _ _ eta
    have ru11 := ru9.sm s911
    refine ⟨_, rfl, _, rfl, u, .ref ta, ew, rfl, ru11.all, wde, (fun R' n' x dx H' z _ _ _ => absurd (sc.det z).2 (nf _ _)), fun R' z => ?_⟩
    obtain ⟨rfl, _⟩ := sc.det z
    refine .inl ⟨ta, qs, rfl, eta11, tok, fun q1 H12 s12 t1 => ?_⟩
    refine ⟨_, rfl, _, rfl, rfl, u, .ref ta, ew, rfl, (ru11.sm s12).all, wde, (fun R' n' x dx H' z _ _ _ => absurd (sc.det z).2 (nf _ _)), fun R' z => ?_⟩
    obtain ⟨rfl, _⟩ := sc.det z
    refine .inl ⟨ta, qs, rfl, s12 _ _ eta11, tok, fun q2 H13 s13 t2 => ?_⟩
    refine ⟨(by show 2 ≤ sizeLine; decide), fun fl nfl => ?_⟩
    obtain ⟨f1, o1⟩ := t1.ow
    obtain ⟨f2, o2⟩ := t2.ow
    have oT := two_ow o1 s12 o2 s13 nfl
    have s14 : Sm H11 (upd H13 fl (.lst [.ref q1, .ref q2])) := (s12.trans s13).trans (Sm.new nfl)
    generalize upd H13 fl (.lst [.ref q1, .ref q2]) = H14 at oT s14 ⊢
    generalize fl :: [f1, f2].flatten = fp at oT
    clear o1 o2 t1 t2 s12 s13 nfl
    generalize hDD : pairD (dec (tF qs) R).1 (dec (tF qs) R).2 = D at *
    -- the first if
    have due14 := rdue.sm s14
    refine ⟨_, rfl, _, rfl, _, rfl, (by show 2 ≤ sizeLine; decide), fun p8 np8 => ?_⟩
    have s8 := Sm.new (o := .lst [.ref dp, .ref dp]) np8
    refine ⟨_, _, .list [D, D], rfl, (oT.ow.sm s8).dr, .lst trivial upd_same (.cons (due14.sm s8) (.one (due14.sm s8))), fitT, fun H15 s15 => ?_⟩
    refine ⟨_, rfl, iteF ?_⟩
    have s145 := s8.trans s15
    refine ⟨_, rfl, _, rfl, (by show 2 ≤ sizeLine; decide), fun l2 nl2 => ?_⟩
    have s16 := Sm.new (o := .lst [u, .ref ta]) nl2
    have s146 := s145.trans s16
    have s116 := s14.trans s146
    refine ⟨l2, ta, u, ew, qs, rfl, upd_same, (ru11.sm s116).all, s116 _ _ eta11, rok, _, rfl, rfl, _, rfl, ?_⟩
    rw [show (!decide (V.str (PyData.list [ew, .dict (tD qs)]).shown = V.str (PyData.list [ew, .dict (tD qs)]).shown)) = false by simp]
    refine iteF ?_
    have oT16 := oT.sm s146
    generalize upd H15 l2 (.lst [u, .ref ta]) = H16 at s146 s116 oT16 ⊢
    clear s16 nl2 s145 s15 s8 np8 oT s14
    -- the second if
    have g16 : Gw wa H1 H16 := g9.trans (Gw.of (s911.trans s116))
    have hw16 := hw9.sm (s911.trans s116)
    have esl16 := s116 _ _ (s911 _ _ esl9)
    have eA16 := g16 _ _ nDw eD1
    have rs16 : Dr (Ne wa) H16 (.ref sl) (.list (nums ks)) := .lst nslw esl16 (vints_dr _)
    have rA16 : Dr (Ne wa) H16 (.ref D0) (.list (nums as)) := .lst nDw eA16 (vints_dr _)
    have lK : (its (.list (nums ks))).length = ks.length := by simp [its, nums]
    refine ⟨fun σ6 H6 => σ6 = [some (.ref wa), some (.ref va), some u, some (.ref D0), some (.int (0 + (i : Nat))), some (.ref sl), some (.ref ta), some (.ref dp), some (.str (PyData.list [ew, .dict (tD qs)]).shown), some (.ref fl), x10, x11, x12, x13, none, none] ∧ Sm H16 H6, ?_, ?_⟩
    · refine ⟨_, rfl, .ref sl, _, rfl, rs16.all, rfl, _, rfl, .ref D0, _, rfl, rA16.all, rfl, rfl, _, rfl, ?_⟩
      rw [lK, lN]
      refine ite2 (fun hl => ?_) (fun _ => ⟨rfl, Sm.rfl'⟩)
      have hl' : ks.length = as.length := by
        have := of_decide_eq_true hl
        injection this with this
        omega
      refine ⟨_, rfl, .list [D, D], 0, D, oT16.ow.dr, rfl, rfl, rfl, fun x1 rx1 => ⟨D, 0, rowsD (dec (tF qs) R).1, rx1, by rw [← hDD]; rfl, rfl, by rw [← hDD]; rfl, fun x2 rx2 => ?_⟩⟩
      obtain ⟨xa, xys, rfl, exa, rxs⟩ : ∃ a ys, x2 = .ref a ∧ H16 a = some (.lst ys) ∧ DrA All H16 ys ((dec (tF qs) R).1.map Row.d) := by
        cases rx2 with
        | lst _ e r => exact ⟨_, _, rfl, e, r⟩
      refine ⟨xa, xys, rfl, .inl exa, fun J2 hJ2 D2 nD2 => ?_⟩
      refine lc_fz (fun d => (its d).getD 0 .none) (.seq hJ2 rxs) nD2 (by rw [List.length_map]; have := J0.hi; omega) (fun _ => rfl) (fun d hd => ?_) (fun x d H17 Q' hd s17 rx q' => ?_) fun H17 ys s17 eD2 ry => ?_
      · obtain ⟨r, _, rfl⟩ := List.mem_map.mp hd
        cases r <;> rfl
      · obtain ⟨r, _, rfl⟩ := List.mem_map.mp hd
        refine ⟨_, rfl, _, 0, _, rx, Row.seqD _, rfl, Row.word_at _, fun x0 r0 => ?_⟩
        refine q' _ _ Sm.rfl' ?_
        have : (its r.d).getD 0 .none = .str r.word := by rw [List.getD_eq_getElem?_getD, Row.word_at]; rfl
        rw [this]
        exact r0
      rw [show ((dec (tF qs) R).1.map Row.d).map (fun d => (its d).getD 0 .none) = (dec (tF qs) R).1.map fun r => PyData.str r.word by
        rw [List.map_map]
        refine List.map_congr_left fun r _ => ?_
        show (its r.d).getD 0 .none = .str r.word
        rw [List.getD_eq_getElem?_getD, Row.word_at]; rfl] at ry
      refine ⟨.str "either", _, .str _, .lst trivial eD2 ry, ⟨by decide +kernel, by show (0 : Nat) ≤ 60; decide⟩, words_eqOk _, _, rfl, ?_⟩
      have no : ∀ r ∈ (dec (tF qs) R).1, r.isEither = false := by
        have := dec_plain (t := tF qs) WR' (fun k hk ha hz => by
          have h1 := tF_none hz
          rw [eqs] at h1
          refine h1 (full_mem knd ksub and' hl' k ?_)
          rw [← hA]
          exact atP_has hk ha) R.length (Nat.le_refl _)
        rwa [List.take_length] at this
      rw [if_pos rfl, words_any no]
      exact iteF ⟨rfl, s17⟩
    rintro σ6 H17 ⟨rfl, s17⟩
    have g17 : Gw wa H1 H17 := g16.trans (Gw.of s17)
    have hw17 := hw16.sm s17
    have oT17 := oT16.sm s17
    have s1117 := s116.trans s17
    have eta17 := s17 _ _ (s116 _ _ eta11)
    have esl17 := s17 _ _ esl16
    have ru17 := ru11.sm s1117
    have due17 := (rdueN.sm s1117)
    have ntaw' := ntaw
    have g11 : Gw wa H1 H11 := g9.trans (Gw.of s911)
    have hw11 := hw9.sm s911
    clear s146 s1117 s17 oT16 eta11 esl16 esl9 eta g16 hw16 rs16 rA16 eA16 ru11 rdue due14 s116 ru9 rd9 s911 g9 H16
    -- first
    have rs17 : Dr (Ne wa) H17 (.ref sl) (.list (nums ks)) := .lst nslw esl17 (vints_dr _)
    refine ⟨_, rfl, _, rfl, _, rfl, .list (nums ks), rs17, rfl, fun v18 H18 s18 r18 => ?_⟩
    rw [show its (.list (nums ks)) = nums ks from rfl, show cutA (nums ks) none (some 1) = nums (ks.take 1) by rw [show (1 : Int) = ((1 : Nat) : Int) from rfl, cutA_to]; simp [nums, List.map_take]] at r18
    obtain ⟨a18, rfl, na18, e18⟩ : ∃ a, v18 = .ref a ∧ a ≠ wa ∧ H18 a = some (.lst (vN (ks.take 1))) := by
      cases r18 with
      | lst n' e r => exact ⟨_, rfl, n'.elim id fun y => hw17.ne y, by rw [e, dra_nums r]⟩
    have hw18 := hw17.sm s18
    refine ⟨a18, _, rfl, .inl e18, fun J3 hJ3 D3 nD3 => ?_⟩
    refine lc_prs (c := 0) (M := Ne wa) (fun k q => q.1 = k ∧ tF qs k = some q.2) (WalkW.seq hJ3 na18 oN hw18 (vints_dr _)) nD3 hw18 (by rw [List.length_take]; omega) (fun _ => rfl) (fun k j H8 Q' hk g8 hw8 q' => ?_) fun H19 Ts1 qs1 g19 hw19 eD3 pr1 lqs1 al1 => ?_
    · have hkm : k ∈ ks := List.mem_of_mem_take (List.mem_of_getElem? hk)
      obtain ⟨b, hb⟩ : ∃ b, tF qs k = some b := by
        rw [← eqs] at hkm
        obtain ⟨p, hp, rfl⟩ := List.mem_map.mp hkm
        exact ⟨_, tF_mem qnd hp⟩
      have dg := DGet.k (k := Sum.inl (k : Int)) (g8 _ _ ntaw' (s18 _ _ eta17))
      rw [tV_val, hb] at dg
      refine ⟨_, rfl, _, rfl, _, rfl, ta, .bl b, rfl, dg, (by show 2 ≤ sizeLine; decide), fun T nT => ?_⟩
      have sT := Sm.new (o := .tup [.int (k : Nat), .bl b]) nT
      exact q' T (k, b) _ (Gw.of sT) (hw8.sm sT) upd_same ⟨rfl, hb⟩
    have e1 : qs1 = qs.take 1 := by
      have := qs_pick (f := id) (qs := qs) (ps := qs.take 1) (qs' := qs1) qnd (fun p hp => List.mem_of_mem_take hp) (by rw [lqs1, List.length_take, List.length_take, lqs]) (fun j k hk => by
        rw [List.map_take, eqs] at hk
        obtain ⟨q, h1, h2, h3⟩ := al1 j k hk
        exact ⟨q, h1, h2, h3⟩)
      rw [this]
      simp
    subst e1
    refine ⟨D3, Ts1, tV (qs.take 1), rfl, SqL.of eD3, pairs_tV pr1, fun tb ntb => ?_⟩
    have mt1 : mergeK [] (tV (qs.take 1)) = tV (qs.take 1) := by
      have := merge_tV (qs.take 1) [] (by rw [List.nil_append, List.map_take]; exact List.Sublist.nodup (List.take_sublist _ _) qnd)
      simpa [tV] using this
    rw [mt1]
    have stb := Sm.new (o := .dK (tV (qs.take 1))) ntb
    have etb : upd H19 tb (.dK (tV (qs.take 1))) tb = some (.dK (tV (qs.take 1))) := upd_same
    have gA : Gw wa H17 (upd H19 tb (.dK (tV (qs.take 1)))) := ((Gw.of s18).trans g19).trans (Gw.of stb)
    have hwA := hw19.sm stb
    generalize upd H19 tb (.dK (tV (qs.take 1))) = H20 at etb gA hwA ⊢
    clear stb ntb eD3 pr1 al1 lqs1 nD3 hJ3 g19 hw19 e18 r18 s18 hw18
    have tok1 : TsOk R (qs.take 1) := ⟨by rw [List.length_take]; omega, fun p hp => tok.at_ p (List.mem_of_mem_take hp)⟩
    refine ⟨u, .ref tb, ew, rfl, (ru17.gn oN hw17 gA).all, wde, (fun R' n' x dx H' z _ _ _ => absurd (sc.det z).2 (nf _ _)), fun R' z => ?_⟩
    obtain ⟨rfl, _⟩ := sc.det z
    refine .inl ⟨tb, qs.take 1, rfl, etb, tok1, fun q3 H21 s21 t3 => ?_⟩
    have J1 := dec_of (t := tF (qs.take 1)) WR'
    have f1b : ∀ r ∈ (dec (tF (qs.take 1)) R).1, r.base := dec_base fun r hr => Row.small_base (sm r hr)
    have lps1 : ∀ k, k < R.length → k < (dec (tF (qs.take 1)) R).2.length := fun k hk => by rw [J1.len]; exact hk
    have r3 : Dr (Ne wa) H21 (.ref q3) (pairD (dec (tF (qs.take 1)) R).1 (dec (tF (qs.take 1)) R).2) := t3.dr.wide fun b z => hwA.ne z
    have gB : Gw wa H17 H21 := gA.trans (Gw.of s21)
    have hwB := hwA.sm s21
    clear t3 gA hwA etb s21 mt1 H20
    generalize hF1 : (dec (tF (qs.take 1)) R).1 = F1 at *
    generalize hP1 : (dec (tF (qs.take 1)) R).2 = P1 at *
    -- rest
    have rs21 := rs17.gn oN hw17 gB
    refine ⟨_, rfl, _, rfl, .list (nums ks), rs21, rfl, fun v22 H22 s22 r22 => ?_⟩
    rw [show its (.list (nums ks)) = nums ks from rfl, show cutA (nums ks) (some 1) none = nums (ks.drop 1) by rw [show (1 : Int) = ((1 : Nat) : Int) from rfl, cutA_from]; simp [nums, List.map_drop]] at r22
    obtain ⟨a22, rfl, na22, e22⟩ : ∃ a, v22 = .ref a ∧ a ≠ wa ∧ H22 a = some (.lst (vN (ks.drop 1))) := by
      cases r22 with
      | lst n' e r => exact ⟨_, rfl, n'.elim id fun y => hwB.ne y, by rw [e, dra_nums r]⟩
    have hw22 := hwB.sm s22
    have r3' := r3.sm s22
    refine ⟨a22, _, rfl, .inl e22, fun J4 hJ4 D4 nD4 => ?_⟩
    refine lc_prs (c := 0) (M := Ne wa) (fun k q => q.1 = fL P1 k ∧ tF qs k = some q.2) (WalkW.seq hJ4 na22 oN hw22 (vints_dr _)) nD4 hw22 (by rw [List.length_drop]; omega) (fun _ => rfl) (fun k j H8 Q' hk g8 hw8 q' => ?_) fun H23 Ts2 qs2 g23 hw23 eD4 pr2 lqs2 al2 => ?_
    · have hkm : k ∈ ks := List.mem_of_mem_drop (List.mem_of_getElem? hk)
      have hkR := (aok k (ksub k hkm)).2
      obtain ⟨b, hb⟩ : ∃ b, tF qs k = some b := by
        rw [← eqs] at hkm
        obtain ⟨p, hp, rfl⟩ := List.mem_map.mp hkm
        exact ⟨_, tF_mem qnd hp⟩
      have dg := DGet.k (k := Sum.inl (k : Int)) (g8 _ _ ntaw' (s22 _ _ (gB _ _ ntaw' eta17)))
      rw [tV_val, hb] at dg
      refine ⟨_, rfl, pairD F1 P1, 1, .list (nums P1), (r3'.gn oN hw22 g8).all, rfl, rfl, rfl, fun x1 rx1 => ⟨_, rfl, .list (nums P1), k, .int (fL P1 k : Nat), rx1, rfl, rfl, nums_get (lps1 k hkR), fun x2 rx2 => ?_⟩⟩
      cases rx2.int_inv
      refine ⟨_, rfl, _, rfl, ta, .bl b, rfl, dg, (by show 2 ≤ sizeLine; decide), fun T nT => ?_⟩
      have sT := Sm.new (o := .tup [.int (fL P1 k : Nat), .bl b]) nT
      exact q' T (fL P1 k, b) _ (Gw.of sT) (hw8.sm sT) upd_same ⟨rfl, hb⟩
    have e2 : qs2 = (qs.drop 1).map fun p => (fL P1 p.1, p.2) := by
      refine qs_pick (qs := qs) qnd (fun p hp => List.mem_of_mem_drop hp) (by rw [lqs2, List.length_drop, List.length_drop, lqs]) (fun j k hk => ?_)
      rw [List.map_drop, eqs] at hk
      exact al2 j k hk
    refine ⟨D4, Ts2, tV qs2, rfl, SqL.of eD4, pairs_tV pr2, fun rt nrt => ?_⟩
    have str := Sm.new (o := .dK (mergeK [] (tV qs2))) nrt
    have ert : upd H23 rt (.dK (mergeK [] (tV qs2))) rt = some (.dK (mergeK [] (tV qs2))) := upd_same
    have gC : Gw wa H17 (upd H23 rt (.dK (mergeK [] (tV qs2)))) := ((gB.trans (Gw.of s22)).trans g23).trans (Gw.of str)
    have r3C : Dr (Ne wa) (upd H23 rt (.dK (mergeK [] (tV qs2)))) (.ref q3) (pairD F1 P1) := (r3'.gn oN hw22 g23).sm str
    have hwC := hw23.sm str
    generalize upd H23 rt (.dK (mergeK [] (tV qs2))) = H24 at ert gC r3C hwC ⊢
    clear str nrt eD4 pr2 al2 nD4 hJ4 g23 hw23 e22 r22 s22 hw22 r3' rs21 r3 hwB gB
    -- is_plain
    have eA24 := (g17.trans gC) _ _ nDw eD1
    refine ⟨_, rfl, D0, vN as, rfl, .inl eA24, fun J5 hJ5 D5 nD5 => ?_⟩
    refine map_comp (fL P1) (.seq hJ5 (vints_dr as)) nD5 (by omega) (fun _ => rfl) (fun k H8 Q' hk s8 q' => ?_) fun H25 s25 eD5 => ?_
    · refine ⟨_, rfl, pairD F1 P1, 1, .list (nums P1), (r3C.sm s8).all, rfl, rfl, rfl, fun x1 rx1 => ⟨_, rfl, .list (nums P1), k, .int (fL P1 k : Nat), rx1, rfl, rfl, nums_get (lps1 k (aok k hk).2), fun x2 rx2 => ?_⟩⟩
      cases rx2.int_inv
      exact q'
    refine ⟨D5, as.map (fL P1), rfl, eD5, by rw [List.length_map]; omega, fun ol H26 s26 eol => ?_⟩
    have s2426 := s25.trans s26
    have rol : Dr All H26 (.ref ol) (.list (nums (once (as.map (fL P1))))) := .lst trivial eol (vints_dr _)
    have rA26 : Dr All H26 (.ref D0) (.list (nums as)) := .lst trivial (s2426 _ _ eA24) (vints_dr _)
    refine ⟨.ref ol, _, rfl, rol, rfl, _, rfl, .ref D0, _, rfl, rA26, rfl, rfl, ?_⟩
    rw [lN, show (its (.list (nums (once (as.map (fL P1)))))).length = (once (as.map (fL P1))).length by simp [its, nums]]
    have g26 : Gw wa H17 H26 := gC.trans (Gw.of s2426)
    have hw26 := hwC.sm s2426
    have r326 := (r3C.sm s2426).all
    have ert26 := s2426 _ _ ert
    have oT26 : ∀ {H' : Hp}, Gw wa H17 H' → OwN H11 H' (.ref fl) (.list [D, D]) fp := fun g => oT17.gw hw11 hw17 g
    have ending : ∀ {H' H'' : Hp} {x10 x11 x12 x13 : Option V}, Gw wa H26 H' → Wl H' wa (n + 40 * i + 40) → (∀ b o, b ∉ fp → H' b = some o → H'' b = some o) → ∃ y4 y5 y6 y7 y8 y9 y10 y11 y12 y13, ([some (.ref wa), some (.ref va), some u, some (.ref D0), some (.int (0 + (i : Nat))), some (.ref sl), some (.ref ta), some (.ref dp), some (.str (PyData.list [ew, .dict (tD qs)]).shown), some (.ref fl), x10, x11, x12, x13, none, none] : L2.St) = [some (.ref wa), some (.ref va), some u, some (.ref D0), y4, y5, y6, y7, y8, y9, y10, y11, y12, y13, none, none] ∧ Gw wa H1 H'' ∧ Wl H'' wa (n + 40 * (i + 1)) := fun g hw' bt => by
      have nfp : wa ∉ fp := fun z => by
        have e := oT17.nw wa z
        obtain ⟨a, b, c', e', _⟩ := hw11
        rw [e'] at e
        cases e
      refine ⟨_, _, _, _, _, _, _, _, _, _, rfl, fun b o hb z => bt b o (fun y => ?_) ((((g17.trans g26).trans g)) _ _ hb z), ?_⟩
      · have := oT17.nw b y
        rw [g11 _ _ hb z] at this
        cases this
      · obtain ⟨a, b, c', e', h'⟩ := hw'.mono (show n + 40 * i + 40 ≤ n + 40 * (i + 1) by omega)
        exact ⟨a, b, c', bt _ _ nfp e', h'⟩
    by_cases hp : (once (as.map (fL P1))).length = as.length
    · rw [show decide (V.int ((once (as.map (fL P1))).length : Nat) = V.int (as.length : Nat)) = true by rw [hp]; exact decide_eq_true rfl]
      have nd1 : (as.map (fL P1)).Nodup := once_nodup (by rw [hp, List.length_map])
      have inj := map_inj nd1
      have nd2 : (qs2.map (·.1)).Nodup := by
        rw [e2, List.map_map, show ((fun x : Nat × Bool => x.1) ∘ fun p : Nat × Bool => (fL P1 p.1, p.2)) = (fL P1) ∘ (fun p : Nat × Bool => p.1) from rfl, ← List.map_map, List.map_drop, eqs]
        refine nodup_map (fun a ha b hb => inj a (ksub a (List.mem_of_mem_drop ha)) b (ksub b (List.mem_of_mem_drop hb))) (List.Sublist.nodup (List.drop_sublist _ _) knd)
      have mt2 : mergeK [] (tV qs2) = tV qs2 := by
        have := merge_tV qs2 [] (by simpa using nd2)
        simpa [tV] using this
      rw [mt2] at ert26
      have W1 : Web F1 := J1.web
      have l1 : F1.length ≤ 16 := by have := J1.hi; omega
      have wdF1 : WR.wd (rowsD F1) = true := fit_wd (rows_fit (n := 0) W1 f1b (by omega))
      have tok2 : TsOk F1 qs2 := ⟨by rw [e2, List.length_map, List.length_drop]; omega, fun p hp => by
        rw [e2] at hp
        obtain ⟨p0, h0, rfl⟩ := List.mem_map.mp hp
        obtain ⟨h1, h2⟩ := tok.at_ p0 (List.mem_of_mem_drop h0)
        exact ⟨J1.lt _ h1, by rw [J1.ask _ h1]; exact h2⟩⟩
      have two : ∀ a, a < R.length → (rowAt R a).isAsked = true → tF qs a = (tF (qs.take 1) a).or (tF qs2 (fL (dec (tF (qs.take 1)) R).2 a)) := fun a h1 h2 => by
        rw [hP1, e2]
        exact tF_split inj (fun p hp => ksub _ (by rw [← eqs]; exact List.mem_map.mpr ⟨p, hp, rfl⟩)) (by rw [← hA]; exact atP_has h1 h2)
      obtain ⟨c1, c2⟩ := dec_dec WR' two R.length (Nat.le_refl _)
      rw [List.take_length, hF1] at c1 c2
      rw [hP1] at c2
      have l12 : P1.length = R.length := J1.len
      have c3 : P1.map (fL (dec (tF qs2) F1).2) = (dec (tF qs) R).2 := by
        refine List.ext_getElem (by rw [List.length_map, l12, J0.len]) fun j h1 h2 => ?_
        rw [List.length_map] at h1
        have := c2 j (by omega)
        rw [List.getElem_map, show P1[j] = fL P1 j by unfold fL; rw [List.getD_eq_getElem?_getD, List.getElem?_eq_getElem h1]; rfl, this]
        unfold fL
        rw [List.getD_eq_getElem?_getD, List.getElem?_eq_getElem h2]
        rfl
      have J2 := dec_of (t := tF qs2) W1
      have lps2 : ∀ k, k ∈ P1 → k < (dec (tF qs2) F1).2.length := fun k hk => by rw [J2.len]; exact J1.ps k hk
      -- then
      refine ⟨_, rfl, _, rfl, iteT ?_⟩
      refine ⟨_, rfl, pairD F1 P1, 0, rowsD F1, r326, rfl, rfl, rfl, fun x rx => ⟨_, rfl, x, .ref rt, rowsD F1, rfl, rx, wdF1, (fun R' n' y dx H' z _ _ _ => absurd (W1.scan.det z).2 (nf _ _)), fun R' z => ?_⟩⟩
      obtain ⟨rfl, _⟩ := W1.scan.det z
      refine .inl ⟨rt, qs2, rfl, ert26, tok2, fun q5 H27 s27 t5 => ?_⟩
      have r5 := t5.dr.all
      have g27 : Gw wa H17 H27 := g26.trans (Gw.of s27)
      have due27 := (((due17.gn oN hw17 gC).sm s2426).sm s27).all
      have hw27 := hw26.sm s27
      clear t5 z
      -- the third if
      refine ⟨_, rfl, _, rfl, iteT ?_⟩
      have r327 := r326.sm s27
      refine ⟨_, rfl, pairD (dec (tF qs2) F1).1 (dec (tF qs2) F1).2, 0, rowsD (dec (tF qs2) F1).1, r5, rfl, rfl, rfl, fun y ry => ?_⟩
      refine ⟨_, rfl, pairD F1 P1, 1, .list (nums P1), r327, rfl, rfl, rfl, fun z rz => ?_⟩
      obtain ⟨az, rfl, eaz⟩ : ∃ a, z = .ref a ∧ H27 a = some (.lst (vN P1)) := by
        cases rz with
        | lst _ e r => exact ⟨_, rfl, by rw [e, dra_nums r]⟩
      refine ⟨az, _, rfl, .inl eaz, fun J6 hJ6 D6 nD6 => ?_⟩
      refine map_comp (fL (dec (tF qs2) F1).2) (.seq hJ6 (vints_dr P1)) nD6 (by omega) (fun _ => rfl) (fun k H8 Q' hk s8 q' => ?_) fun H28 s28 eD6 => ?_
      · refine ⟨_, rfl, pairD (dec (tF qs2) F1).1 (dec (tF qs2) F1).2, 1, .list (nums (dec (tF qs2) F1).2), r5.sm s8, rfl, rfl, rfl, fun x1 rx1 => ⟨_, rfl, .list (nums (dec (tF qs2) F1).2), k, .int (fL (dec (tF qs2) F1).2 k : Nat), rx1, rfl, rfl, nums_get (lps2 k hk), fun x2 rx2 => ?_⟩⟩
        cases rx2.int_inv
        exact q'
      refine ⟨(by show 2 ≤ sizeLine; decide), fun tp ntp => ?_⟩
      have s29 := Sm.new (o := .tup [y, .ref D6]) ntp
      have s279 := s28.trans s29
      have ry9 := ry.sm s279
      rw [c1] at ry9
      rw [c3] at eD6
      refine ⟨_, rfl, _, _, D, rfl, ?_, due27.sm s279, fit6, fun H30 s30 => ⟨_, rfl, iteF ?_⟩⟩
      · rw [← hDD]
        exact .tup upd_same (.cons ry9 (.one (.lst trivial (s29 _ _ eD6) (vints_dr _))))
      have s2630 := (s27.trans s279).trans s30
      refine ⟨_, rfl, .ref fl, _, _, rfl, (oT26 (g26.trans (Gw.of s2630))).ow, (oT26 g26).nd, fitT, fun H31 bt => ?_⟩
      exact ending (Gw.of s2630) ((hw26.sm s2630).mono (by omega)) bt
    · rw [show decide (V.int ((once (as.map (fL P1))).length : Nat) = V.int (as.length : Nat)) = false from decide_eq_false fun z => hp (by injection z with z; omega)]
      refine ⟨_, rfl, _, rfl, iteF ?_⟩
      refine ⟨_, rfl, _, rfl, iteF ?_⟩
      refine ⟨_, rfl, .ref fl, _, _, rfl, (oT26 g26).ow, (oT26 g26).nd, fitT, fun H27 bt => ?_⟩
      exact ending (Gw.of Sm.rfl') (hw26.mono (by omega)) bt
end
end K8

/-! _law_same of dicts of truths. -/
namespace K8
open PySem PySem.Spec PyProof.Rows L2 WR LiI RZ
/-- list(d.items()), {None: b} among them -/
def rItemsU (P : Program) (w : World) : V → Hp → VK → Prop := fun x H Q => LiI.rItemsL x H Q ∨ ∃ (d : Addr) (b : Bool), x = .ref d ∧ H d = some (ndO P w d b) ∧
  ∀ (H' : Hp) (l t : Addr), Sm H H' → H l = none → H t = none → l ≠ t → H' l = some (.lst [.ref t]) → H' t = some (.tup [.non, .bl b]) → Q (.ref l) H'
def tListItemsU (P : Program) (w : World) (te : TE) : TE := fun σ H Q => te σ H fun x H1 => rItemsU P w x H1 Q
section
variable {X : Cx} {e : Expr} {te : TE} {p apos cpos pos : Pos}
theorem nd_laid {pins : List (Addr × Obj)} {σ : L2.St} {H : Hp} {s : Shared} {h' : Heap} {tk : Nat} {b : Bool} {acc : Array Value} {c : Nat} {as : List Addr} (I : Inv X pins σ H s)
    (hk : ∀ b o, s.heap.get? b = some o → h'.get? b = some o) (hS : h'.get? s.heap.objs.size = some { cls := .type "list", dict := none, data := .seq acc c, slots := #[] }) (hl : as.length = 1) (hG : PySem.W.KdxG (leafKind X.prog X.w) [(Leaf.none, Value.bool b)] s.heap.objs.size h' as) (hacc : acc.toList = as.map Value.ref) :
    ∃ (H' : Hp) (t : Addr), Sm H H' ∧ H s.heap.objs.size = none ∧ H t = none ∧ s.heap.objs.size ≠ t ∧ H' s.heap.objs.size = some (.lst [.ref t]) ∧ H' t = some (.tup [.non, .bl b]) ∧ Inv X pins σ H' { s with heap := h', toks := tk } := by
  obtain ⟨t, rfl⟩ : ∃ t, as = [t] := by
    match as, hl with
    | [t], _ => exact ⟨t, rfl⟩
  have ab := hG.above t (List.mem_singleton_self t)
  have hSt : s.heap.objs.size ≠ t := Nat.ne_of_lt ab
  have newS : H s.heap.objs.size = none := I.hok.fresh (Nat.le_refl _)
  have newT : H t = none := I.hok.fresh (Nat.le_of_lt ab)
  have kp : ∀ b' u, H b' = some u → (upd (upd H s.heap.objs.size (.lst [.ref t])) t (.tup [.non, .bl b])) b' = some u := fun b' u e => by
    rw [upd_ne (ne_of_none e newT), upd_ne (ne_of_none e newS)]
    exact e
  have eS : upd (upd H s.heap.objs.size (.lst [.ref t])) t (.tup [.non, .bl b]) s.heap.objs.size = some (.lst [.ref t]) := by
    rw [upd_ne hSt]
    exact upd_same
  have low : ∀ b' o, s.heap.get? b' = some o → b' ≠ t ∧ b' ≠ s.heap.objs.size := fun b' o e => ⟨fun z => absurd (Heap.lt_size e) (by rw [z]; exact Nat.not_lt.mpr (Nat.le_of_lt ab)), Nat.ne_of_lt (Heap.lt_size e)⟩
  refine ⟨upd (upd H s.heap.objs.size (.lst [.ref t])) t (.tup [.non, .bl b]), t, kp, newS, newT, hSt, eS, upd_same, ?_⟩
  refine I.call' (ch := []) rfl ⟨fun b o q _ _ _ => hk b o q, fun b o q _ _ _ => ⟨o.slots, hk b o q⟩, fun b' o q n _ => ?_, fun b o q _ => ⟨o, hk b o q⟩, fun b xs q => kp b _ q, fun b o u q => kp b _ q, fun b ps q => ⟨#[], by rw [kp b _ q]; simp⟩⟩ (fun b' u q => ?_) I.bare fun b z => by simp at z
  · obtain ⟨z1, z2⟩ := low b' o q
    rw [upd_ne z1, upd_ne z2]
    exact n
  · by_cases hb : b' = t
    · subst hb
      rw [upd_same] at q
      cases q
      obtain ⟨key, k, x, f1, f2, f3⟩ := hG.pairs 0 b' rfl
      cases f1
      have hkey : key = Value.none := by
        cases hk2 : key with
        | none => rfl
        | _ => rw [hk2] at f2; exact absurd f2 Bool.false_ne_true
      subst hkey
      exact ⟨by show 2 ≤ sizeLine; decide, [Value.none, Value.bool b], .cons rfl (.cons rfl .nil), ⟨_, f3, rfl, _, rfl⟩⟩
    · by_cases hb2 : b' = s.heap.objs.size
      · rw [hb2] at q ⊢
        rw [eS] at q
        cases q
        refine ⟨by show 1 ≤ sizeLine; decide, acc.toList, c, by rw [hacc]; exact .cons rfl .nil, ?_⟩
        rw [Array.toArray_toList]
        exact hS
      · rw [upd_ne hb, upd_ne hb2] at q
        exact (I.hok b' u q).stay (fun d v _ y => hk d v y) (fun d y => kp d _ y) fun d xs y => kp d _ y
theorem pe_listItemsU (hc : X.calm = true) (he : PE X e te) (hg : Gl X "list") (hm : X.mg "list" = none) (hv : bootBuiltins "list" = some (.type "list")) (hbase : attributeBase e "items" X.env (eval e X.env) = eval e X.env := by rfl) (hline : (apos.endLine == cpos.line) = true := by rfl)
    (hs : starEach [.Call (.Attribute e "items" apos) [] [] cpos] X.env = (false, eval (.Call (.Attribute e "items" apos) [] [] cpos) X.env) :: starEach [] X.env := by rfl) :
    PE X (.Call (.Name "list" p) [.Call (.Attribute e "items" apos) [] [] cpos] [] pos) (tListItemsU X.prog X.w te) := by
  refine ⟨fun pins s σ H Q I hq => ?_⟩
  refine wpAny_Call_Name_kw (ld_blt I hg hm hv ?_)
  refine PyProof.Rows.callWith_type1 ?_ hs rfl
  rw [hs]
  show wpAny _ _ (spliced ((false, eval (.Call (.Attribute e "items" apos) [] [] cpos) X.env) :: backTo pos (starEach [] X.env))) _ _ s
  refine Calls.spliced_cons ?_
  refine wpAny_Call_method (T := "dict") (id := "dict.items") hbase rfl hline F.plainAttrs_dict F.slot_dict_items F.type_dict_items (thn (he.run pins s σ H _ I hq) fun u s1 ⟨x, H1, I1, rx, q0⟩ => ?_)
  have I2 : Inv X pins σ H1 { s1 with heap := s1.heap.push { cls := .type "dict_items", data := .fields #[u] } } := I1.kept (t' := s1.toks) fun b ob q => Heap.get?_push_of_some _ q
  rcases q0 with ⟨d, kvs, ex, hd, q⟩ | ⟨d, b, ex, hd, q⟩
  · subst ex
    obtain rfl : u = Value.ref d := rx
    obtain ⟨hz, hs0, vs, kv, hdo⟩ := I1.hok d _ hd
    obtain ⟨ep, hat⟩ := hdo.dictAt
    have lk : kvs.length = vs.length := Paired.length kv
    refine ⟨hdo.typeIs, hdo.mapOf.noDict, ?_⟩
    show wpAny _ _ (callWith cpos (.builtin "dict.items") [.ref d] [] []) _ X.xe s1
    refine method_meetsIn F.slot_dict_items F.entry_dict_items rfl (PySem.evalArgs_none ⟨rfl, hdo.typeIs, F.args_dict_items_1 _, _, meets_dict_items (mixKind X.prog X.w) d hs0, ⟨vs, hdo⟩, ?_⟩)
    refine Calls.spliced_nil ?_
    refine PySem.W.kdx_call (knd := mixKind X.prog X.w) (kvs := vs) (ep := ep) (I1.ok.hd hc) ⟨_, Heap.get?_push_size _ rfl, rfl, rfl⟩ (hat.push _) (by omega) fun h' tk acc c as hk hS hl hG hacc => ?_
    obtain ⟨H', k1, k2, k3, k4, k5, k6, J⟩ := LiI.items_laid (tk := tk) I2 hz kv hk hS hl hG hacc
    exact ⟨.ref _, H', J, rfl, q H' _ as k1 k2 k3 k4 k5 k6⟩
  · subst ex
    obtain rfl : u = Value.ref d := rx
    obtain ⟨hs0, ep, hat⟩ := nd_of I1 hd
    have hdo : s1.heap.DictOf (leafKind X.prog X.w) d [(Leaf.none, Value.bool b)] := hat.dictOf
    refine ⟨hdo.typeIs, hdo.mapOf.noDict, ?_⟩
    show wpAny _ _ (callWith cpos (.builtin "dict.items") [.ref d] [] []) _ X.xe s1
    refine method_meetsIn F.slot_dict_items F.entry_dict_items rfl (PySem.evalArgs_none ⟨rfl, hdo.typeIs, F.args_dict_items_1 _, _, meets_dict_items (leafKind X.prog X.w) d hs0, ⟨_, hdo⟩, ?_⟩)
    refine Calls.spliced_nil ?_
    refine PySem.W.kdx_call (knd := leafKind X.prog X.w) (kvs := [(Leaf.none, Value.bool b)]) (ep := ep) (I1.ok.hd hc) ⟨_, Heap.get?_push_size _ rfl, rfl, rfl⟩ (hat.push _) (show (1 : Nat) ≤ sizeLine by decide) fun h' tk acc c as hk hS hl hG hacc => ?_
    obtain ⟨H', t, k1, k2, k3, k4, k5, k6, J⟩ := nd_laid (tk := tk) I2 hk hS hl hG hacc
    exact ⟨.ref _, H', J, rfl, q H' _ t k1 k2 k3 k4 k5 k6⟩
end
/-- a dict of one truth, or what is nearly one -/
def TDic (P : Program) (w : World) (H : Hp) (a : Addr) : Prop := (∃ (k : Key) (v : V) (d : PyData), H a = some (.dK [(k, v)]) ∧ plD v = some d ∧ fit (.list [.tuple [keyD k, d]]) 3 = true) ∨ ∃ b, H a = some (ndO P w a b)
def spSameD (P : Program) (w : World) (n : Nat) : Sp := fun vs H Q _ => 4 ≤ n ∧ ∃ a : Addr, vs = [.ref a, .ref a] ∧ TDic P w H a ∧ ∀ H', Sm H H' → Q (.bl true) H'
def spSameL (P : Program) (w : World) (n : Nat) : Sp := fun vs H Q _ => 5 ≤ n ∧ ∃ (l1 l2 a : Addr) (x : Str), vs = [.ref l1, .ref l2] ∧ H l1 = some (.lst [.str x, .ref a]) ∧ H l2 = some (.lst [.str x, .ref a]) ∧ fit (.str x) 3 = true ∧ TDic P w H a ∧ ∀ H', Sm H H' → Q (.bl true) H'
def spSameU (P : Program) (w : World) : Nat → Sp
  | 0 => fun _ _ _ _ => False
  | n + 1 => fun vs H Q E => spSame (n + 1) vs H Q E ∨ spSameD P w n vs H Q E ∨ spSameL P w n vs H Q E
theorem TDic.sm {P : Program} {w : World} {H H' : Hp} {a : Addr} (t : TDic P w H a) (s : Sm H H') : TDic P w H' a := by
  rcases t with ⟨k, v, d, e, r⟩ | ⟨b, e⟩
  · exact .inl ⟨k, v, d, s _ _ e, r⟩
  · exact .inr ⟨b, s _ _ e⟩
section
variable {P : Program} {w : World} {K : PySem.W.Frag} {mg : Str → Option Value} {base : Heap}
theorem fn__law_same (B : Bt mg) (F0 : Fn K mg d_law_same) {f : Addr} {fd : FuncData} (F : FunD K d_law_same.name d_law_same.qual d_law_same.params d_law_same.body d_law_same.scope [] [] f fd) : ∀ n, FnOk P w K mg base CX0 n f fd ["found", "due"] (spSame n)
  | 0 => ⟨fun _ _ _ _ h => h.elim, fun _ _ _ _ _ _ _ _ _ _ _ _ _ h => h.elim⟩
  | n + 1 => by
    have D1 : Df P w K mg base CX0 n "_law_same" ["found", "due"] (spSame n) := ok__law_same B F0 n
    refine F.ok sc__law_same (fun vs H Q E h => by obtain ⟨w, n, N, rfl, _⟩ := h; rfl) (fun cdv A outer s H vs Q E hr h => ?_)
    obtain ⟨u, v, d, rfl, ru, rv, hf, q⟩ := h
    refine ⟨_, PSs.nox (pss_cons (ps_if (pt_val (pe_callB (call_isD kit_dict) (by rfl) B.isinstance (by decide +kernel) (pa_cons (pv 1) (pa_cons (pe_ty "dict" B.dict (by decide +kernel)) pa_nil)))) (pss_one (ps_ret (pe_and (pe_callB (call_isD kit_dict) (by rfl) B.isinstance (by decide +kernel) (pa_cons (pv 0) (pa_cons (pe_ty "dict" B.dict (by decide +kernel)) pa_nil))) (pe_one (pe_df D1 hr pass0 (pa_cons (pe_listItems rfl (pv 0) (by rfl) B.list (by decide +kernel)) (pa_cons (pe_listItems rfl (pv 1) (by rfl) B.list (by decide +kernel)) pa_nil))))))) pss_nil)
      (pss_cons (ps_if (pt_val (pe_callB (call_isD2 kit_list kit_tuple isL_or) (by rfl) B.isinstance (by decide +kernel) (pa_cons (pv 1) (pa_cons (pe_tup (pa_cons (pe_ty "list" B.list (by decide +kernel)) (pa_cons (pe_ty "tuple" B.tuple (by decide +kernel)) pa_nil))) pa_nil)))) (pss_cons (ps_if (PW.pt (pw_or (pt_cmpR op_ne (pe_callB (call_isD kit_list) (by rfl) B.isinstance (by decide +kernel) (pa_cons (pv 0) (pa_cons (pe_ty "list" B.list (by decide +kernel)) pa_nil))) (pe_callB (call_isD kit_list) (by rfl) B.isinstance (by decide +kernel) (pa_cons (pv 1) (pa_cons (pe_ty "list" B.list (by decide +kernel)) pa_nil))) (nomark _)) (pw_or1 (pt_cmpR op_ne (pe_callB (call_isD kit_tuple) (by rfl) B.isinstance (by decide +kernel) (pa_cons (pv 0) (pa_cons (pe_ty "tuple" B.tuple (by decide +kernel)) pa_nil))) (pe_callB (call_isD kit_tuple) (by rfl) B.isinstance (by decide +kernel) (pa_cons (pv 1) (pa_cons (pe_ty "tuple" B.tuple (by decide +kernel)) pa_nil))) (nomark _))))) (pss_one (ps_ret pe_bl)) pss_nil)
      (pss_one (ps_ret (pe_and (pe_cmpR op_eq (pe_callB call_lenS (by rfl) B.len (by decide +kernel) (pa_cons (pv 0) pa_nil)) (pe_callB call_lenS (by rfl) B.len (by decide +kernel) (pa_cons (pv 1) pa_nil)) (nomark _)) (pe_one (pe_callB (cr_all rfl) (by rfl) B.all (by decide +kernel) (pa_cons (pe_lc (own := [("one", 2), ("other", 3)]) (g := gTup K 2 (gCons (gName 2) (gCons (gName 3) gNil))) (tt := tYes) rfl sc__law_same.nd (pi_zipA (by rfl) B.zip (pa_cons (pv 0) (pa_cons (pv 1) pa_nil))) (blkOk_by (own := [("one", 2), ("other", 3)]) (N := ["found", "due", "one", "other"]) (sc := defScope s_law_same) (by decide +kernel)) (fun _ _ _ _ _ => pg_tup rfl (pgs_cons (pg_name (i := 2) sc__law_same.nd rfl (by first | exact Or.inl rfl | exact Or.inr rfl)) (pgs_cons (pg_name (i := 3) sc__law_same.nd rfl (by first | exact Or.inl rfl | exact Or.inr rfl)) pgs_nil))) (fun _ _ _ _ _ => pts_nil) (fun _ _ _ _ _ => (pe_df D1 hr pass0 (pa_cons (pv 2) (pa_cons (pv 3) pa_nil))))) pa_nil))))))) pss_nil)
      (pss_cons (ps_if (PW.pt (pw_or (pt_val (pe_callB (call_isD3 kit_dict kit_list kit_tuple isDL_or) (by rfl) B.isinstance (by decide +kernel) (pa_cons (pv 0) (pa_cons (pe_tup (pa_cons (pe_ty "dict" B.dict (by decide +kernel)) (pa_cons (pe_ty "list" B.list (by decide +kernel)) (pa_cons (pe_ty "tuple" B.tuple (by decide +kernel)) pa_nil)))) pa_nil)))) (pw_or1 (pt_cmpR op_ne (pe_callB (call_isD kit_bool) (by rfl) B.isinstance (by decide +kernel) (pa_cons (pv 0) (pa_cons (pe_ty "bool" B.bool (by decide +kernel)) pa_nil))) (pe_callB (call_isD kit_bool) (by rfl) B.isinstance (by decide +kernel) (pa_cons (pv 1) (pa_cons (pe_ty "bool" B.bool (by decide +kernel)) pa_nil))) (nomark _))))) (pss_one (ps_ret pe_bl)) pss_nil)
      (pss_one (ps_ret (pe_cmpR op_eq (pv 0) (pv 1) (nomark _))))))), ?_⟩
    have sz2 : ([V.ty "list", V.ty "tuple"] : List V).length ≤ sizeLine := by show 2 ≤ sizeLine; decide
    have sz3 : ([V.ty "dict", V.ty "list", V.ty "tuple"] : List V).length ≤ sizeLine := by show 3 ≤ sizeLine; decide
    have neB : ∀ b : Bool, (!decide (V.bl b = V.bl b)) = false := fun b => by simp
    by_cases hD : isDL d = true
    · by_cases hd : isD d = true
      · -- a dict
        obtain ⟨ps, rfl⟩ : ∃ ps, d = .dict ps := by
          cases d with
          | dict ps => exact ⟨ps, rfl⟩
          | _ => cases hd
        simp only [fit, Bool.and_eq_true, decide_eq_true_eq, List.isEmpty_iff] at hf
        obtain ⟨h2, rfl⟩ := hf
        obtain ⟨m, rfl⟩ : ∃ m, n = m + 1 := ⟨n - 1, by omega⟩
        cases ru with
        | dct _ ea ka =>
        cases rv with
        | dct _ eb kb =>
        cases ka
        cases kb
        refine ⟨_, rfl, _, .dict [], rfl, .dct trivial eb .nil, _, rfl, iteT ⟨_, rfl, _, .dict [], rfl, .dct trivial ea .nil, _, rfl, iteT ?_⟩⟩
        refine ⟨_, rfl, _, [], rfl, ea, fun G1 p1 t1 s1 n1 _ _ e1 pr1 => ?_⟩
        cases pr1
        refine ⟨_, rfl, _, [], rfl, s1 _ _ eb, fun G2 p2 t2 s2 n2 _ _ e2 pr2 => ?_⟩
        cases pr2
        refine ⟨_, _, .list [], rfl, .lst trivial (s2 _ _ e1) .nil, .lst trivial e2 .nil, ?_, fun H' s3 => q H' (Sm.trans (Sm.trans s1 s2) s3)⟩
        simp only [fit, fitA, Bool.and_eq_true, decide_eq_true_eq]
        exact ⟨⟨by omega, by show 0 ≤ lim; decide⟩, trivial⟩
      · have hL : isL d = true := by
          cases d with
          | dict _ => exact absurd rfl hd
          | list _ => rfl
          | tuple _ => rfl
          | _ => cases hD
        refine ⟨_, rfl, v, d, rfl, rv, _, rfl, ite2 (fun z => absurd z hd) (fun _ => ?_)⟩
        refine ⟨_, rfl, sz2, fun p1 np1 => ⟨v, p1, d, rfl, upd_same, rv.sm (Sm.new np1), _, rfl, ite2 (fun _ => ?_) (fun z => absurd hL z)⟩⟩
        have ru1 := ru.sm (Sm.new (o := .tup [.ty "list", .ty "tuple"]) np1)
        have rv1 := rv.sm (Sm.new (o := .tup [.ty "list", .ty "tuple"]) np1)
        refine ⟨_, rfl, u, d, rfl, ru1, _, rfl, v, d, rfl, rv1, rfl, _, rfl, ?_⟩
        rw [neB]
        refine iteF ⟨_, rfl, u, d, rfl, ru1, _, rfl, v, d, rfl, rv1, rfl, _, rfl, ?_⟩
        rw [neB]
        refine iteF ?_
        obtain ⟨hn1, hlen, hfA⟩ := fit_its hf hL
        obtain ⟨m, rfl⟩ : ∃ m, n = m + 1 := ⟨n - 1, by omega⟩
        generalize hH1 : upd H p1 (.tup [V.ty "list", V.ty "tuple"]) = H1 at ru1 rv1
        have s1 : Sm H H1 := by
          rw [← hH1]
          exact Sm.new np1
        refine ⟨_, rfl, u, d, rfl, ru1, hL, _, rfl, v, d, rfl, rv1, hL, rfl, _, rfl, ite2 (fun _ => ?_) (fun z => absurd (decide_eq_true rfl) z)⟩
        have hall : (List.replicate (its d).length true).all id = true := by simp
        cases d with
        | list ds =>
          cases ru1 with
          | lst _ ea ra =>
          cases rv1 with
          | lst _ eb rb =>
          refine ⟨_, rfl, _, rfl, _, _, _, _, rfl, .inl ⟨SqL.of ea, SqL.of eb, fun D nD => same_comp (.lists ea eb ra rb) nD hlen hfA fun H2 s2 e2 => ?_⟩⟩
          refine ⟨D, List.replicate ds.length true, rfl, SqL.of e2, ?_⟩
          show Q (.bl ((List.replicate ds.length true).all id)) H2
          rw [show (List.replicate ds.length true).all id = true from hall]
          exact q H2 (s1.trans s2)
        | tuple ds =>
          cases ru1 with
          | tup ea ra =>
          cases rv1 with
          | tup eb rb =>
          refine ⟨_, rfl, _, rfl, _, _, _, _, rfl, .inr ⟨SqT.of ea, SqT.of eb, fun D nD => same_comp (.tups ea eb ra rb) nD hlen hfA fun H2 s2 e2 => ?_⟩⟩
          refine ⟨D, List.replicate ds.length true, rfl, SqL.of e2, ?_⟩
          show Q (.bl ((List.replicate ds.length true).all id)) H2
          rw [show (List.replicate ds.length true).all id = true from hall]
          exact q H2 (s1.trans s2)
        | _ => cases hL
    · have hd : ¬ isD d = true := fun z => hD (by cases d <;> first | rfl | cases z)
      have hl : ¬ isL d = true := fun z => hD (by cases d <;> first | rfl | cases z)
      have e : u = v ∧ scal u v = true := by
        cases d with
        | none =>
          cases ru
          cases rv
          exact ⟨rfl, rfl⟩
        | bool b =>
          cases ru
          cases rv
          exact ⟨rfl, rfl⟩
        | int i =>
          cases ru
          cases rv
          exact ⟨rfl, rfl⟩
        | str x =>
          cases ru
          cases rv
          exact ⟨rfl, rfl⟩
        | _ => exact absurd rfl hD
      obtain ⟨rfl, hs⟩ := e
      refine ⟨_, rfl, u, d, rfl, rv, _, rfl, ite2 (fun z => absurd z hd) (fun _ => ?_)⟩
      refine ⟨_, rfl, sz2, fun p1 np1 => ⟨u, p1, d, rfl, upd_same, rv.sm (Sm.new np1), _, rfl, ite2 (fun z => absurd z hl) (fun _ => ?_)⟩⟩
      refine ⟨_, rfl, sz3, fun p2 np2 => ⟨u, p2, d, rfl, upd_same, (rv.sm (Sm.new np1)).sm (Sm.new np2), _, rfl, ite2 (fun z => absurd z hD) (fun _ => ?_)⟩⟩
      have ru2 := (rv.sm (Sm.new (o := .tup [.ty "list", .ty "tuple"]) np1)).sm (Sm.new (o := .tup [.ty "dict", .ty "list", .ty "tuple"]) np2)
      refine ⟨_, rfl, u, d, rfl, ru2, _, rfl, u, d, rfl, ru2, rfl, _, rfl, ?_⟩
      rw [neB]
      refine iteF ⟨_, rfl, _, rfl, hs, ?_⟩
      have := q _ ((Sm.new (o := .tup [.ty "list", .ty "tuple"]) np1).trans (Sm.new (o := .tup [.ty "dict", .ty "list", .ty "tuple"]) np2))
      rw [decide_eq_true rfl]
      exact this
theorem fn__law_sameD (B : Bt mg) (F0 : Fn K mg d_law_same) {f : Addr} {fd : FuncData} (F : FunD K d_law_same.name d_law_same.qual d_law_same.params d_law_same.body d_law_same.scope [] [] f fd) (n : Nat) : FnOk P w K mg base CX0 (n + 1) f fd ["found", "due"] (spSameD P w n) := by
    have D1 : Df P w K mg base CX0 n "_law_same" ["found", "due"] (spSame n) := ok__law_same B F0 n
    refine F.ok sc__law_same (fun vs H Q E h => by obtain ⟨_, a, rfl, _⟩ := h; rfl) (fun cdv A outer s H vs Q E hr h => ?_)
    obtain ⟨hn, a, rfl, td, q⟩ := h
    refine ⟨_, PSs.nox (pss_cons (ps_if (pt_val (pe_callB call_isX (by rfl) B.isinstance (by decide +kernel) (pa_cons (pv 1) (pa_cons (pe_ty "dict" B.dict (by decide +kernel)) pa_nil)))) (pss_one (ps_ret (pe_and (pe_callB call_isX (by rfl) B.isinstance (by decide +kernel) (pa_cons (pv 0) (pa_cons (pe_ty "dict" B.dict (by decide +kernel)) pa_nil))) (pe_one (pe_df D1 hr pass0 (pa_cons (pe_listItemsU rfl (pv 0) (by rfl) B.list (by decide +kernel)) (pa_cons (pe_listItemsU rfl (pv 1) (by rfl) B.list (by decide +kernel)) pa_nil))))))) pss_nil)
      (pss_cons (ps_if (pt_val (pe_callB (call_isD2 kit_list kit_tuple isL_or) (by rfl) B.isinstance (by decide +kernel) (pa_cons (pv 1) (pa_cons (pe_tup (pa_cons (pe_ty "list" B.list (by decide +kernel)) (pa_cons (pe_ty "tuple" B.tuple (by decide +kernel)) pa_nil))) pa_nil)))) (pss_cons (ps_if (PW.pt (pw_or (pt_cmpR op_ne (pe_callB (call_isD kit_list) (by rfl) B.isinstance (by decide +kernel) (pa_cons (pv 0) (pa_cons (pe_ty "list" B.list (by decide +kernel)) pa_nil))) (pe_callB (call_isD kit_list) (by rfl) B.isinstance (by decide +kernel) (pa_cons (pv 1) (pa_cons (pe_ty "list" B.list (by decide +kernel)) pa_nil))) (nomark _)) (pw_or1 (pt_cmpR op_ne (pe_callB (call_isD kit_tuple) (by rfl) B.isinstance (by decide +kernel) (pa_cons (pv 0) (pa_cons (pe_ty "tuple" B.tuple (by decide +kernel)) pa_nil))) (pe_callB (call_isD kit_tuple) (by rfl) B.isinstance (by decide +kernel) (pa_cons (pv 1) (pa_cons (pe_ty "tuple" B.tuple (by decide +kernel)) pa_nil))) (nomark _))))) (pss_one (ps_ret pe_bl)) pss_nil)
      (pss_one (ps_ret (pe_and (pe_cmpR op_eq (pe_callB call_lenS (by rfl) B.len (by decide +kernel) (pa_cons (pv 0) pa_nil)) (pe_callB call_lenS (by rfl) B.len (by decide +kernel) (pa_cons (pv 1) pa_nil)) (nomark _)) (pe_one (pe_callB (cr_all rfl) (by rfl) B.all (by decide +kernel) (pa_cons (pe_lc (own := [("one", 2), ("other", 3)]) (g := gTup K 2 (gCons (gName 2) (gCons (gName 3) gNil))) (tt := tYes) rfl sc__law_same.nd (pi_zipA (by rfl) B.zip (pa_cons (pv 0) (pa_cons (pv 1) pa_nil))) (blkOk_by (own := [("one", 2), ("other", 3)]) (N := ["found", "due", "one", "other"]) (sc := defScope s_law_same) (by decide +kernel)) (fun _ _ _ _ _ => pg_tup rfl (pgs_cons (pg_name (i := 2) sc__law_same.nd rfl (by first | exact Or.inl rfl | exact Or.inr rfl)) (pgs_cons (pg_name (i := 3) sc__law_same.nd rfl (by first | exact Or.inl rfl | exact Or.inr rfl)) pgs_nil))) (fun _ _ _ _ _ => pts_nil) (fun _ _ _ _ _ => (pe_df D1 hr pass0 (pa_cons (pv 2) (pa_cons (pv 3) pa_nil))))) pa_nil))))))) pss_nil)
      (pss_cons (ps_if (PW.pt (pw_or (pt_val (pe_callB (call_isD3 kit_dict kit_list kit_tuple isDL_or) (by rfl) B.isinstance (by decide +kernel) (pa_cons (pv 0) (pa_cons (pe_tup (pa_cons (pe_ty "dict" B.dict (by decide +kernel)) (pa_cons (pe_ty "list" B.list (by decide +kernel)) (pa_cons (pe_ty "tuple" B.tuple (by decide +kernel)) pa_nil)))) pa_nil)))) (pw_or1 (pt_cmpR op_ne (pe_callB (call_isD kit_bool) (by rfl) B.isinstance (by decide +kernel) (pa_cons (pv 0) (pa_cons (pe_ty "bool" B.bool (by decide +kernel)) pa_nil))) (pe_callB (call_isD kit_bool) (by rfl) B.isinstance (by decide +kernel) (pa_cons (pv 1) (pa_cons (pe_ty "bool" B.bool (by decide +kernel)) pa_nil))) (nomark _))))) (pss_one (ps_ret pe_bl)) pss_nil)
      (pss_one (ps_ret (pe_cmpR op_eq (pv 0) (pv 1) (nomark _))))))), ?_⟩
    have kx : KofX P w "dict" H (.ref a) true := by
      rcases td with ⟨k, v, d, e, _⟩ | ⟨b, e⟩
      · exact .inr (.inl ⟨a, _, rfl, e, by decide +kernel⟩)
      · exact .inr (.inr ⟨a, b, rfl, e, by decide +kernel⟩)
    refine ⟨_, rfl, .ref a, "dict", true, rfl, kx, _, rfl, iteT ⟨_, rfl, .ref a, "dict", true, rfl, kx, _, rfl, iteT ?_⟩⟩
    obtain ⟨m, rfl⟩ : ∃ m, n = m + 1 := ⟨n - 1, by omega⟩
    rcases td with ⟨k, v, d, e, hv, hf⟩ | ⟨b, e⟩
    · have one : ∀ {H' : Hp} {p : Addr} {ts : List Addr}, H' p = some (.lst (ts.map V.ref)) → Paired (fun (t : Addr) (q : Key × V) => H' t = some (.tup [kV q.1, q.2])) ts [(k, v)] → Dr All H' (.ref p) (.list [.tuple [keyD k, d]]) := fun e1 pr => by
        cases pr with
        | cons e2 t =>
          cases t
          exact .lst trivial e1 (.one (.tup e2 (.cons (keyD_dr k) (.one (plD_dr hv)))))
      refine ⟨_, rfl, .inl ⟨_, [(k, v)], rfl, e, fun G1 p1 t1 s1 n1 _ _ e1 pr1 => ?_⟩⟩
      refine ⟨_, rfl, .inl ⟨_, [(k, v)], rfl, s1 _ _ e, fun G2 p2 t2 s2 n2 _ _ e2 pr2 => ?_⟩⟩
      exact ⟨_, _, _, rfl, (one e1 pr1).sm s2, one e2 pr2, fit_mono (by omega) hf, fun H' s3 => q H' (Sm.trans (Sm.trans s1 s2) s3)⟩
    · have one : ∀ {H' : Hp} {p t : Addr}, H' p = some (.lst [.ref t]) → H' t = some (.tup [.non, .bl b]) → Dr All H' (.ref p) (.list [.tuple [.none, .bool b]]) := fun e1 e2 => .lst trivial e1 (.one (.tup e2 (.cons .non (.one (.bl b)))))
      refine ⟨_, rfl, .inr ⟨_, b, rfl, e, fun G1 p1 t1 s1 n1 _ _ e1 e1' => ?_⟩⟩
      refine ⟨_, rfl, .inr ⟨_, b, rfl, s1 _ _ e, fun G2 p2 t2 s2 n2 _ _ e2 e2' => ?_⟩⟩
      exact ⟨_, _, _, rfl, (one e1 e1').sm s2, one e2 e2', fit_mono (show 3 ≤ m by omega) (by cases b <;> decide +kernel), fun H' s3 => q H' (Sm.trans (Sm.trans s1 s2) s3)⟩
theorem same_compL {K : PySem.W.Frag} {H1 : Hp} {D l1 l2 a : Addr} {x : Str} {m : Nat} {x1 x2 : V} {Qd : Hp → Prop} (e1 : H1 l1 = some (.lst [.str x, .ref a])) (e2 : H1 l2 = some (.lst [.str x, .ref a])) (nD : H1 D = none) (hf : fit (.str x) 3 = true) (td : TDic P w H1 a) (hm : 4 ≤ m) (hd : ∀ H, Sm H1 H → H D = some (.lst ([true, true].map V.bl)) → Qd H) :
    ∃ W : Nat → Nat → Hp → Prop, (∃ m, W 0 m (upd H1 D (.lst []))) ∧ ∀ i m' H, W i m' H → ((Itz K l1 l2).stop i H ∧ Qd H) ∨ ((Itz K l1 l2).go i H ∧ ∃ Nx : Hp → Prop, (∀ H', Nx H' → ∃ m'', m'' < m' ∧ W (i + 1) m'' H') ∧ ∀ x H', (Itz K l1 l2).yld i H x H' → (gTup K 2 (gCons (gName 2) (gCons (gName 3) gNil))) x (wipe [some x1, some x2, none, none] [2, 3]) H' fun σ2 H2 => wipe σ2 [2, 3] = wipe [some x1, some x2, none, none] [2, 3] ∧ tYes σ2 H2 fun b H3 =>
      if b = true then (tCall (spSameU P w (m + 1)) [] E0 (tCons (tVar 2) (tCons (tVar 3) tNil))) σ2 H3 fun y H4 => ∃ acc, H4 D = some (.lst acc) ∧ acc.length < sizeLine ∧ Nx (upd H4 D (.lst (acc ++ [y]))) else Nx H3) := by
  have ln : ([.str x, .ref a] : List V).length = 2 := rfl
  refine lc_walk (n := 2) (fun j H2 => Sm H1 H2 ∧ H2 D = some (.lst ((List.replicate j true).map V.bl))) ⟨Sm.new nD, upd_same⟩ (fun j H2 hj h => ?_) (fun H2 h => ⟨_, _, SqL.of (h.1 _ _ e1), SqL.of (h.1 _ _ e2), .inl (by simp)⟩) ?_ fun H2 h => hd H2 h.1 h.2
  · exact ⟨[.str x, .ref a], [.str x, .ref a], _, _, SqL.of (h.1 _ _ e1), SqL.of (h.1 _ _ e2), List.getElem?_eq_getElem (by rw [ln]; exact hj), List.getElem?_eq_getElem (by rw [ln]; exact hj)⟩
  rintro j z H2 H' hj ⟨s, eD⟩ hy
  obtain ⟨T, y1, y2, rfl, nT, rfl, h1, h2⟩ := hy
  have g1 := h1 _ (SqL.of (s _ _ e1))
  have g2 := h2 _ (SqL.of (s _ _ e2))
  refine ⟨T, _, rfl, SqT.of upd_same, rfl, _, _, rfl, _, _, rfl, rfl, rfl, ?_⟩
  dsimp only [tYes]
  rw [if_pos rfl]
  have sT : Sm H2 (upd H2 T (.tup [y1, y2])) := Sm.new nT
  refine ⟨_, rfl, _, rfl, ?_⟩
  have k : ∀ H3, Sm (upd H2 T (.tup [y1, y2])) H3 → ∃ acc, H3 D = some (.lst acc) ∧ acc.length < sizeLine ∧ (Sm H1 (upd H3 D (.lst (acc ++ [V.bl true]))) ∧ (upd H3 D (.lst (acc ++ [V.bl true]))) D = some (.lst ((List.replicate (j + 1) true).map V.bl))) := fun H3 s3 => ⟨_, s3 _ _ (sT _ _ eD), by
      simp
      have := lim_lt
      have : lim = 4000 := rfl
      omega, fun c o e => by
      rw [upd_ne (ne_of_none e nD)]
      exact s3 _ _ (sT _ _ (s _ _ e)), by
      rw [upd_same, List.replicate_succ', List.map_append]
      rfl⟩
  match j, hj with
  | 0, _ =>
    cases g1
    cases g2
    exact .inl ⟨_, _, .str x, rfl, .str x, .str x, fit_mono (by omega) hf, k⟩
  | 1, _ =>
    cases g1
    cases g2
    exact .inr (.inl ⟨hm, a, rfl, td.sm (s.trans sT), k⟩)
theorem fn__law_sameL (B : Bt mg) {f : Addr} {fd : FuncData} (F : FunD K d_law_same.name d_law_same.qual d_law_same.params d_law_same.body d_law_same.scope [] [] f fd) (n : Nat) (D1 : Df P w K mg base CX0 n "_law_same" ["found", "due"] (spSame n)) (D1U : Df P w K mg base CX0 n "_law_same" ["found", "due"] (spSameU P w n)) : FnOk P w K mg base CX0 (n + 1) f fd ["found", "due"] (spSameL P w n) := by
    refine F.ok sc__law_same (fun vs H Q E h => by obtain ⟨_, l1, l2, a, x, rfl, _⟩ := h; rfl) (fun cdv A outer s H vs Q E hr h => ?_)
    obtain ⟨hn, l1, l2, a, x, rfl, e1, e2, hf, td, q⟩ := h
    refine ⟨_, PSs.nox (pss_cons (ps_if (pt_val (pe_callB call_isi (by rfl) B.isinstance (by decide +kernel) (pa_cons (pv 1) (pa_cons (pe_ty "dict" B.dict (by decide +kernel)) pa_nil)))) (pss_one (ps_ret (pe_and (pe_callB (call_isD kit_dict) (by rfl) B.isinstance (by decide +kernel) (pa_cons (pv 0) (pa_cons (pe_ty "dict" B.dict (by decide +kernel)) pa_nil))) (pe_one (pe_df D1 hr pass0 (pa_cons (pe_listItems rfl (pv 0) (by rfl) B.list (by decide +kernel)) (pa_cons (pe_listItems rfl (pv 1) (by rfl) B.list (by decide +kernel)) pa_nil))))))) pss_nil)
      (pss_cons (ps_if (pt_val (pe_callB call_isiT (by rfl) B.isinstance (by decide +kernel) (pa_cons (pv 1) (pa_cons (pe_tup (pa_cons (pe_ty "list" B.list (by decide +kernel)) (pa_cons (pe_ty "tuple" B.tuple (by decide +kernel)) pa_nil))) pa_nil)))) (pss_cons (ps_if (PW.pt (pw_or (pt_cmpR op_ne (pe_callB call_isi (by rfl) B.isinstance (by decide +kernel) (pa_cons (pv 0) (pa_cons (pe_ty "list" B.list (by decide +kernel)) pa_nil))) (pe_callB call_isi (by rfl) B.isinstance (by decide +kernel) (pa_cons (pv 1) (pa_cons (pe_ty "list" B.list (by decide +kernel)) pa_nil))) (nomark _)) (pw_or1 (pt_cmpR op_ne (pe_callB call_isi (by rfl) B.isinstance (by decide +kernel) (pa_cons (pv 0) (pa_cons (pe_ty "tuple" B.tuple (by decide +kernel)) pa_nil))) (pe_callB call_isi (by rfl) B.isinstance (by decide +kernel) (pa_cons (pv 1) (pa_cons (pe_ty "tuple" B.tuple (by decide +kernel)) pa_nil))) (nomark _))))) (pss_one (ps_ret pe_bl)) pss_nil)
      (pss_one (ps_ret (pe_and (pe_cmpR op_eq (pe_callB call_len_seq (by rfl) B.len (by decide +kernel) (pa_cons (pv 0) pa_nil)) (pe_callB call_len_seq (by rfl) B.len (by decide +kernel) (pa_cons (pv 1) pa_nil)) (nomark _)) (pe_one (pe_callB (cr_all rfl) (by rfl) B.all (by decide +kernel) (pa_cons (pe_lc (own := [("one", 2), ("other", 3)]) (g := gTup K 2 (gCons (gName 2) (gCons (gName 3) gNil))) (tt := tYes) rfl sc__law_same.nd (pi_zipA (by rfl) B.zip (pa_cons (pv 0) (pa_cons (pv 1) pa_nil))) (blkOk_by (own := [("one", 2), ("other", 3)]) (N := ["found", "due", "one", "other"]) (sc := defScope s_law_same) (by decide +kernel)) (fun _ _ _ _ _ => pg_tup rfl (pgs_cons (pg_name (i := 2) sc__law_same.nd rfl (by first | exact Or.inl rfl | exact Or.inr rfl)) (pgs_cons (pg_name (i := 3) sc__law_same.nd rfl (by first | exact Or.inl rfl | exact Or.inr rfl)) pgs_nil))) (fun _ _ _ _ _ => pts_nil) (fun _ _ _ _ _ => (pe_df D1U hr pass0 (pa_cons (pv 2) (pa_cons (pv 3) pa_nil))))) pa_nil))))))) pss_nil)
      (pss_cons (ps_if (PW.pt (pw_or (pt_val (pe_callB (call_isD3 kit_dict kit_list kit_tuple isDL_or) (by rfl) B.isinstance (by decide +kernel) (pa_cons (pv 0) (pa_cons (pe_tup (pa_cons (pe_ty "dict" B.dict (by decide +kernel)) (pa_cons (pe_ty "list" B.list (by decide +kernel)) (pa_cons (pe_ty "tuple" B.tuple (by decide +kernel)) pa_nil)))) pa_nil)))) (pw_or1 (pt_cmpR op_ne (pe_callB (call_isD kit_bool) (by rfl) B.isinstance (by decide +kernel) (pa_cons (pv 0) (pa_cons (pe_ty "bool" B.bool (by decide +kernel)) pa_nil))) (pe_callB (call_isD kit_bool) (by rfl) B.isinstance (by decide +kernel) (pa_cons (pv 1) (pa_cons (pe_ty "bool" B.bool (by decide +kernel)) pa_nil))) (nomark _))))) (pss_one (ps_ret pe_bl)) pss_nil)
      (pss_one (ps_ret (pe_cmpR op_eq (pv 0) (pv 1) (nomark _))))))), ?_⟩
    have sz2 : ([V.ty "list", V.ty "tuple"] : List V).length ≤ sizeLine := by show 2 ≤ sizeLine; decide
    have kd : kitB "list" "dict" = some false := by decide +kernel
    have kl : kitB "list" "list" = some true := by decide +kernel
    have kt : kitB "list" "tuple" = some false := by decide +kernel
    have neB : ∀ b : Bool, (!decide (V.bl b = V.bl b)) = false := fun b => by simp
    obtain ⟨m, rfl⟩ : ∃ m, n = m + 1 := ⟨n - 1, by omega⟩
    refine ⟨_, rfl, .ref l2, .ty "dict", _, _, false, rfl, .ty "dict", .base (.lst e2), kit_ty kd, _, rfl, iteF ?_⟩
    refine ⟨_, rfl, sz2, fun p1 np1 => ?_⟩
    have s1 := Sm.new (o := .tup [.ty "list", .ty "tuple"]) np1
    refine ⟨.ref l2, p1, [.ty "list", .ty "tuple"], _, [.type "list", .type "tuple"], _, rfl, upd_same, .cons (.ty "list") (.cons (.ty "tuple") .nil), .base (.lst (s1 _ _ e2)), kit_any2 kl kt, _, rfl, iteT ?_⟩
    have f1 := s1 _ _ e1
    have f2 := s1 _ _ e2
    have td1 := td.sm s1
    generalize upd H p1 (.tup [V.ty "list", V.ty "tuple"]) = H1 at s1 f1 f2 td1 ⊢
    refine ⟨_, rfl, .ref l1, .ty "list", _, _, true, rfl, .ty "list", .base (.lst f1), kit_ty kl, _, rfl, .ref l2, .ty "list", _, _, true, rfl, .ty "list", .base (.lst f2), kit_ty kl, rfl, _, rfl, ?_⟩
    rw [neB]
    refine iteF ⟨_, rfl, .ref l1, .ty "tuple", _, _, false, rfl, .ty "tuple", .base (.lst f1), kit_ty kt, _, rfl, .ref l2, .ty "tuple", _, _, false, rfl, .ty "tuple", .base (.lst f2), kit_ty kt, rfl, _, rfl, ?_⟩
    rw [neB]
    refine iteF ?_
    refine ⟨_, rfl, l1, _, rfl, .inl (SqL.of f1), _, rfl, l2, _, rfl, .inl (SqL.of f2), rfl, _, rfl, ite2 (fun _ => ?_) (fun z => absurd (decide_eq_true rfl) z)⟩
    refine ⟨_, rfl, _, rfl, _, _, _, _, rfl, .inl ⟨SqL.of f1, SqL.of f2, fun D nD => same_compL f1 f2 nD hf td1 (by omega) fun H2 s2 eD => ?_⟩⟩
    exact ⟨D, [true, true], rfl, SqL.of eD, q H2 (s1.trans s2)⟩
theorem ok__law_sameU (B : Bt mg) (F0 : Fn K mg d_law_same) : ∀ n, Df P w K mg base CX0 n "_law_same" ["found", "due"] (spSameU P w n)
  | 0 => Df.off F0 fun f fd F => F.bindsN fun _ _ _ _ _ _ us hl => match us, hl with | [_, _], _ => rfl
  | n + 1 => by
    have D1U : Df P w K mg base CX0 n "_law_same" ["found", "due"] (spSameU P w n) := ok__law_sameU B F0 n
    have D1 : Df P w K mg base CX0 n "_law_same" ["found", "due"] (spSame n) := ok__law_same B F0 n
    have F0' := F0
    obtain ⟨f, fd, hm, F⟩ := F0
    have a1 := fn__law_same (P := P) (w := w) (base := base) B F0' F (n + 1)
    have a2 := fn__law_sameD (P := P) (w := w) (base := base) B F0' F n
    have a3 := fn__law_sameL (P := P) (w := w) (base := base) B F n D1 D1U
    refine ⟨f, fd, hm, F.kp, F.bindsN fun _ _ _ _ _ _ us hl => match us, hl with | [_, _], _ => rfl, ⟨fun vs H Q E h => ?_, fun A outer s H args us vs Q E hr e0 hb hv h => ?_⟩⟩
    · rcases h with h | h | h
      · exact a1.len vs H Q E h
      · exact a2.len vs H Q E h
      · exact a3.len vs H Q E h
    · rcases h with h | h | h
      · exact a1.run A outer s H args us vs Q E hr e0 hb hv h
      · exact a2.run A outer s H args us vs Q E hr e0 hb hv h
      · exact a3.run A outer s H args us vs Q E hr e0 hb hv h
end
end K8

/-! For _law_refused_right. -/
namespace K8
open PySem PySem.Spec PyProof.Rows L2 WR LamX
theorem tabs_but {T : List (Addr × Str)} {a : Addr} {zs : List V} {H H' : Hp} (t : Tabs T H) (ea : H a = some (.lst zs)) (g : ∀ b o, b ≠ a → H b = some o → H' b = some o) : Tabs T H' := fun p hp => by
  obtain ⟨ps, h1, h2, h3⟩ := t p hp
  refine ⟨ps, g _ _ (fun z => ?_) h1, h2, fun pos cv hc => ?_⟩
  · rw [z, ea] at h1
    cases h1
  · obtain ⟨c0, e1, e2⟩ := h3 pos cv hc
    refine ⟨c0, e1, g _ _ (fun z => ?_) e2⟩
    rw [z, ea] at e2
    unfold CodeO at e2
    cases e2
section
variable {wa : Addr} {n : Nat} {T : TabL} {H H2 H3 : Hp}
/-- a list of such lists -/
structure Fnd (H : Hp) (q : Addr) (ps : List Addr) (a : Str) (v : V) : Prop where
  ls : H q = some (.lst (ps.map V.ref))
  it : ∀ p ∈ ps, p ≠ q ∧ H p = some (.lst [.str a, v])
theorem Fnd.x {q : Addr} {ps : List Addr} {a : Str} {v : V} (f : Fnd H q ps a v) (x : ExtN H H2) : Fnd H2 q ps a v := ⟨x _ _ f.ls fun _ z => (nomatch z), fun p hp => ⟨(f.it p hp).1, x _ _ (f.it p hp).2 fun _ z => (nomatch z)⟩⟩
theorem Fnd.one {q p : Addr} {a : Str} {v : V} (e : H p = some (.lst [.str a, v])) (nq : H q = none) : Fnd (upd H q (.lst [.ref p])) q [p] a v := by
  have npq : p ≠ q := ne_of_none e nq
  refine ⟨upd_same, fun x hx => ?_⟩
  rw [List.mem_singleton.mp hx]
  exact ⟨npq, by rw [upd_ne npq]; exact e⟩
theorem Fnd.app {q p : Addr} {ps : List Addr} {a : Str} {v : V} (f : Fnd H q ps a v) (e : H p = some (.lst [.str a, v])) (npq : p ≠ q) : Fnd (upd H q (.lst (ps.map V.ref ++ [.ref p]))) q (ps ++ [p]) a v := by
  refine ⟨by rw [upd_same, List.map_append]; rfl, fun x hx => ?_⟩
  rcases List.mem_append.mp hx with z | z
  · exact ⟨(f.it x z).1, by rw [upd_ne (f.it x z).1]; exact (f.it x z).2⟩
  · rw [List.mem_singleton.mp z]
    exact ⟨npq, by rw [upd_ne npq]; exact e⟩
theorem Fnd.dr {q : Addr} {ps : List Addr} {a : Str} {v : V} {e : PyData} (f : Fnd H q ps a v) (r : Dr All H v e) : Dr All H (.ref q) (.list (List.replicate ps.length (.list [.str a, e]))) := by
  refine .lst trivial f.ls ?_
  have key : ∀ l : List Addr, (∀ p ∈ l, H p = some (.lst [.str a, v])) → DrA All H (l.map V.ref) (List.replicate l.length (.list [.str a, e])) := by
    intro l
    induction l with
    | nil => intro _; exact .nil
    | cons p l ih => intro h; exact .cons (.lst trivial (h p (List.mem_cons_self ..)) (.cons (.str _) (.one r))) (ih fun x hx => h x (List.mem_cons_of_mem _ hx))
  exact key ps fun p hp => (f.it p hp).2
end
theorem nf2 (n : Nat) (x : Str) : ¬ (faultD n x = PyData.none) := fun z => by cases z
theorem fault_at {n m : Nat} {x y : Str} (h : faultD n x = faultD m y) : n = m := by
  simp only [faultD, PyData.tuple.injEq, List.cons.injEq, PyData.int.injEq] at h
  omega
def NQ (H : Hp) (q : Addr) : Prop := ∀ b o, H b = some o → (∀ ps, o ≠ .tbl ps) → b ≠ q
/-- a further one of what was met, found appended -/
theorem app_step {T : TabL} {H4 Hc H7 H8 : Hp} {q p : Addr} {ps : List Addr} {a : Str} {v : V} (xc : ExtN H4 Hc) (nq : NQ H4 q) (F : Fnd Hc q ps a v) (x7 : ExtN Hc H7) (t7 : Tabs T H7) (s : Sm H7 H8) (np : H8 p = none) :
    upd H8 p (.lst [.str a, v]) q = some (.lst (ps.map V.ref)) ∧ ExtN H4 (upd (upd H8 p (.lst [.str a, v])) q (.lst (ps.map V.ref ++ [.ref p]))) ∧ Tabs T (upd (upd H8 p (.lst [.str a, v])) q (.lst (ps.map V.ref ++ [.ref p]))) ∧ Fnd (upd (upd H8 p (.lst [.str a, v])) q (.lst (ps.map V.ref ++ [.ref p]))) q (ps ++ [p]) a v := by
  have sp : Sm H8 (upd H8 p (.lst [.str a, v])) := Sm.new np
  have xa : ExtN Hc (upd H8 p (.lst [.str a, v])) := x7.trans (ExtN.of (s.trans sp))
  have F' := F.x xa
  have npq : p ≠ q := fun z => by
    rw [z] at np
    rw [(F.x (x7.trans (ExtN.of s))).ls] at np
    cases np
  refine ⟨F'.ls, fun b o e n => ?_, tabs_but (t7.ext (s.trans sp)) F'.ls fun b o hb e => by rw [upd_ne hb]; exact e, F'.app upd_same npq⟩
  rw [upd_ne (nq b o e n)]
  exact xa _ _ (xc _ _ e n) n
/-- the first one -/
theorem one_step {T : TabL} {H4 H7 H8 : Hp} {q p : Addr} {a : Str} {v : V} (x7 : ExtN H4 H7) (t7 : Tabs T H7) (s : Sm H7 H8) (np : H8 p = none) (nq : upd H8 p (.lst [.str a, v]) q = none) :
    ExtN H4 (upd (upd H8 p (.lst [.str a, v])) q (.lst [.ref p])) ∧ Tabs T (upd (upd H8 p (.lst [.str a, v])) q (.lst [.ref p])) ∧ Fnd (upd (upd H8 p (.lst [.str a, v])) q (.lst [.ref p])) q [p] a v ∧ NQ H4 q :=
  ⟨x7.trans (ExtN.of ((s.trans (Sm.new np)).trans (Sm.new nq))), t7.ext ((s.trans (Sm.new np)).trans (Sm.new nq)), Fnd.one upd_same nq, fun b o e n => ne_of_none ((Sm.new np) _ _ (s _ _ (x7 _ _ e n))) nq⟩
theorem Web.scanApp {R R' : List Row} {ds : List PyData} {f : PyData} (W : Web R) (h : Scan R R.length ds R' f) : ∀ (m i : Nat), m + i = R.length → Scan (R.take i) i ((R.drop i).map Row.d ++ ds) R' f
  | 0, i, e => by
    have e' : i = R.length := by omega
    subst e'
    rw [List.take_length, List.drop_length]
    exact h
  | m + 1, i, e => by
    have hi : i < R.length := by omega
    rw [List.drop_eq_getElem_cons hi, List.map_cons, List.cons_append]
    have ih := W.scanApp h m (i + 1) (by omega)
    have et : R.take (i + 1) = R.take i ++ [R[i]] := by rw [List.take_succ, List.getElem?_eq_getElem hi]; rfl
    rw [et] at ih
    exact .next (rowForm_d (W.ok _ (List.getElem_mem hi))) (W.fit i hi).1 (W.fit i hi).2 ih
structure OddP (R : List Row) (e : PyData) : Prop where
  no : isPartD R e = false
  wd : WR.wd e = true
  fit : K8.fit e 4 = true
theorem oddP_int {R : List Row} {k : Nat} (h : isPart R k = false) (hk : k ≤ 1000) : OddP R (.int (k : Nat)) := ⟨by rw [isPartD_nat]; exact h, fit_wd (int_fit (n := 0) (by omega)), int_fit (by omega)⟩
theorem asked_no {R : List Row} {k : Nat} (h : k ∈ atP Row.isAsked R 0) : isPart R k = false ∧ k < R.length := by
  obtain ⟨h1, h2⟩ := asked_ok h
  refine ⟨?_, h2⟩
  unfold isPart
  rw [h1, Bool.not_true, Bool.and_false]
theorem len_no (R : List Row) (m : Nat) : isPart R (R.length + m) = false := by
  unfold isPart
  rw [decide_eq_false (by omega), Bool.false_and]
theorem rep_fit {a : Str} {e : PyData} {c : Nat} (ha : a.length ≤ 10) (he : K8.fit e 4 = true) (hc : c ≤ 100) : K8.fit (.list (List.replicate c (.list [.str a, e]))) 6 = true := by
  have l : lim = 4000 := rfl
  simp only [K8.fit, Bool.and_eq_true, decide_eq_true_eq, List.length_replicate]
  refine ⟨⟨by omega, by omega⟩, fitA_of fun d hd => ?_⟩
  rw [(List.mem_replicate.mp hd).2]
  simp only [K8.fit, fitA, Bool.and_eq_true, decide_eq_true_eq, List.length_cons, List.length_nil]
  exact ⟨⟨by omega, by omega⟩, by omega, he, trivial⟩

theorem rep_dr {H : Hp} {l1 l3 : Addr} {a : Str} {y : V} {e : PyData} {c : Nat} (e1 : H l1 = some (.lst [.str a, y])) (r : Dr All H y e) (e3 : H l3 = some (.lst (List.replicate c [V.ref l1]).flatten)) : Dr All H (.ref l3) (.list (List.replicate c (.list [.str a, e]))) := by
  refine .lst trivial e3 ?_
  clear e3
  induction c with
  | zero => exact .nil
  | succ c ih =>
    rw [List.replicate_succ, List.replicate_succ, List.flatten_cons]
    exact .cons (.lst trivial e1 (.cons (.str _) (.one r))) ih
/-- what is no web -/
structure OddW (e : PyData) (m : Nat) : Prop where
  sc : ∃ x R, ScanOf e R (faultD m x)
  wd : WR.wd e = true
theorem oddW_plain {e : PyData} (h : isL e = false) (w : WR.wd e = true) : OddW e 0 := ⟨⟨"form", [], .inr ⟨h, rfl, rfl⟩⟩, w⟩
theorem oddW_more {S : List Row} (W : Web S) (hs : ∀ r ∈ S, r.small) (hl : S.length ≤ 20) {x : PyData} {y : Str} (wx : WR.wd x = true) (h : Scan S S.length [x] S (faultD S.length y)) : OddW (.list (S.map Row.d ++ [x])) S.length := by
  have l : lim = 4000 := rfl
  refine ⟨⟨y, S, .inl ⟨rfl, by have := W.scanApp h S.length 0 (by omega); rw [List.take_zero, List.drop_zero] at this; exact this⟩⟩, ?_⟩
  have := tame_wd (web_tame W hs (by omega))
  simp only [rowsD, WR.wd, Bool.and_eq_true, decide_eq_true_eq] at this ⊢
  refine ⟨by simp; omega, wdA_of fun d hd => ?_⟩
  rcases List.mem_append.mp hd with z | z
  · exact wdA_mem this.2 z
  · rw [List.mem_singleton.mp z]
    exact wx
theorem oddP_const {R : List Row} : OddP R .none ∧ OddP R (.int (-1)) ∧ OddP R (.bool true) ∧ OddP R (.str "0") ∧ OddP R (.list [.int 0]) ∧ OddP R (.dict []) :=
  ⟨⟨rfl, rfl, rfl⟩, ⟨rfl, by decide +kernel, by decide +kernel⟩, ⟨rfl, rfl, rfl⟩, ⟨rfl, by decide +kernel, by decide +kernel⟩, ⟨rfl, by decide +kernel, by decide +kernel⟩, ⟨rfl, by decide +kernel, by decide +kernel⟩⟩
/-! ### one def out of several -/
/-- neither a web nor a part of it: the one or the other is refused -/
abbrev spBad (CW CP : Addr) : Sp := fun vs H Q E => ∃ (v u : V) (d e : PyData), vs = [v, u] ∧ Dr All H v d ∧ wd d = true ∧ Dr All H u e ∧ (∀ R, ScanOf d R .none → sumN R [] ≤ 900000 ∧ isPartD R e = false) ∧ spNeedsWays CW CP v u d e H E
theorem bad_no {R : List Row} {d e : PyData} {k : Nat} (h : ∀ R, ScanOf d R .none → sumN R [] ≤ 900000 ∧ isPartD R e = false) (z : ScanOf d R .none) (he : e = .int (k : Nat)) (pk : isPart R k = true) : False := by
  have := (h R z).2
  rw [he, isPartD_nat, pk] at this
  cases this
structure HeldM (P : Program) (w : World) (K : PySem.W.Frag) (mg : Str → Option Value) (base : Heap) (k : Nat) (f : Addr) (sp : Sp) : Prop where
  ex : ∃ (fd : FuncData) (ps : List Str), FnOk P w K mg base (L2.CX P w) k f fd ps sp ∧ PySem.W.keepIn K (.ref f) = true ∧ L2.Binds K fd ps []
def tCallM (i : Nat) (fs : List Addr) (sp : Sp) (E : XK) (t : TA) : TE := fun σ H Q => ∃ f, f ∈ fs ∧ σ[i]? = some (some (.ref f)) ∧ t σ H fun vs H1 => sp vs H1 Q E
section
variable {X : Cx} {k i : Nat} {fs : List Addr} {sp : Sp} {E : XK} {x : Str} {p pos : Pos} {e : Expr} {es : List Expr} {t : TA}
theorem pe_callM (A : ∀ f ∈ fs, HeldM X.prog X.w X.K X.mg X.base k f sp) (hr : Room k X.A) (hN : X.N[i]? = some x) (hv : Vis X.env.scope x) (hx : Passes (L2.CX X.prog X.w) X E) (ha : PA X (e :: es) t)
    (hdb : (x == ("__debug__" : Str)) = false := by decide) (hcd : (x == ("__classdict__" : Str)) = false := by decide)
    (he : starEach (e :: es) X.env = (false, eval e X.env) :: starEach es X.env := by rfl) (hpl : (backTo pos (starEach es X.env)).any (·.1) = false := by rfl) : PE X (.Call (.Name x p) (e :: es) [] pos) (tCallM i fs sp E t) := by
  refine ⟨fun pins s σ H Q I h => ?_⟩
  obtain ⟨f, hf, hs, ht⟩ := h
  obtain ⟨fd, ps, F, hk, hb⟩ := (A f hf).ex
  refine (pe_callL (i := i) (f := f) (sp := sp) (dvs := []) (E := E) F hr hN hv hk hb .nil hx ha hdb hcd he hpl).run pins s σ H Q I ⟨hs, ?_⟩
  have e0 : (fun (vs : List V) (H1 : Hp) => sp (vs ++ []) H1 Q E) = fun vs H1 => sp vs H1 Q E := by
    funext vs H1
    rw [List.append_nil]
  show t σ H (fun vs H1 => sp (vs ++ []) H1 Q E)
  rw [e0]
  exact ht
end
/-- [_law_met(lambda: ask(..)) for ask in asks]: each is refused alike -/
theorem lc_met {K : PySem.W.Frag} {J : It} {te : TE} {vs : List Nat} {i : Nat} {σ : L2.St} {T : TabL} {H1 : Hp} {D fl : Addr} {fs : List Addr} {a : Str} {v : V} {Qd : Hp → Prop} (hJ : ItS K H1 fl (fs.map V.ref) J) (nD : H1 D = none) (t0 : Tabs T H1) (hlen : fs.length ≤ lim)
    (hw : ∀ x, wipe ((wipe σ vs).set i (some x)) vs = wipe σ vs)
    (hs : ∀ (f : Addr) (H2 : Hp) (Q : VK), f ∈ fs → ExtN H1 H2 → Tabs T H2 → (∀ H7 H8 p, ExtN H2 H7 → Tabs T H7 → Sm H7 H8 → H8 p = none → Q (.ref p) (upd H8 p (.lst [.str a, v]))) → te ((wipe σ vs).set i (some (.ref f))) H2 Q)
    (hd : ∀ H2 ps, ExtN H1 H2 → Tabs T H2 → NQ H1 D → ps.length = fs.length → Fnd H2 D ps a v → Qd H2) :
    ∃ W : Nat → Nat → Hp → Prop, (∃ m, W 0 m (upd H1 D (.lst []))) ∧ ∀ i' m H, W i' m H →
      (J.stop i' H ∧ Qd H) ∨ (J.go i' H ∧ ∃ Nx : Hp → Prop, (∀ H', Nx H' → ∃ m', m' < m ∧ W (i' + 1) m' H') ∧ ∀ x H', J.yld i' H x H' → gName i x (wipe σ vs) H' fun σ2 H2 => wipe σ2 vs = wipe σ vs ∧ tYes σ2 H2 fun b H3 =>
        if b = true then te σ2 H3 fun y H4 => ∃ acc, H4 D = some (.lst acc) ∧ acc.length < sizeLine ∧ Nx (upd H4 D (.lst (acc ++ [y]))) else Nx H3) := by
  have hsl := lim_lt
  have nq : NQ H1 D := fun b o e _ => ne_of_none e nD
  have efl : H1 fl ≠ none := by
    rcases hJ with ⟨_, e⟩ | ⟨_, e⟩ <;> (rw [e]; exact fun z => nomatch z)
  have ln : (fs.map V.ref).length = fs.length := List.length_map ..
  refine lc_walk (n := fs.length) (fun m H2 => ExtN H1 H2 ∧ Tabs T H2 ∧ ∃ ps, ps.length = m ∧ Fnd H2 D ps a v) ?_ (fun m H2 hm h => ?_) (fun H2 h => ?_) (fun m x H2 H' hm h hy => ?_) fun H2 h => ?_
  · exact ⟨ExtN.of (Sm.new nD), t0.ext (Sm.new nD), [], rfl, upd_same, fun _ z => nomatch z⟩
  · have hx : (fs.map V.ref)[m]? = some (fs.map V.ref)[m] := List.getElem?_eq_getElem (by omega)
    rcases hJ with ⟨rfl, e⟩ | ⟨rfl, e⟩
    · exact ⟨_, _, SqL.of (h.1 _ _ e fun _ z => nomatch z), hx⟩
    · exact ⟨_, _, SqT.of (h.1 _ _ e fun _ z => nomatch z), hx⟩
  · rcases hJ with ⟨rfl, e⟩ | ⟨rfl, e⟩
    · exact ⟨_, SqL.of (h.1 _ _ e fun _ z => nomatch z), by omega⟩
    · exact ⟨_, SqT.of (h.1 _ _ e fun _ z => nomatch z), by omega⟩
  · obtain ⟨x1, t1, ps, lps, F⟩ := h
    have hx : H' = H2 ∧ (fs.map V.ref)[m]? = some x := by
      rcases hJ with ⟨rfl, e⟩ | ⟨rfl, e⟩
      · exact ⟨hy.1, hy.2 _ (SqL.of (x1 _ _ e fun _ z => nomatch z))⟩
      · exact ⟨hy.1, hy.2 _ (SqT.of (x1 _ _ e fun _ z => nomatch z))⟩
    obtain ⟨rfl, hx⟩ := hx
    rw [List.getElem?_map] at hx
    obtain ⟨f, hf, rfl⟩ := Option.map_eq_some_iff.mp hx
    refine ⟨hw _, ?_⟩
    dsimp only [tYes]
    rw [if_pos rfl]
    refine hs f H' _ (List.mem_of_getElem? hf) x1 t1 fun H7 H8 p x7 t7 s8 np => ?_
    obtain ⟨eq, xB, tB, FB⟩ := app_step x1 nq F x7 t7 s8 np
    exact ⟨_, eq, by rw [List.length_map]; omega, xB, tB, _, by rw [List.length_append, lps]; rfl, FB⟩
  · obtain ⟨x1, t1, ps, lps, F⟩ := h
    exact hd H2 ps x1 t1 nq lps F
end K8

/-! For _law_refused_right: what are no truths. -/
namespace K8
open PySem PySem.Spec PyProof.Rows L2 WR LamX
/-- a dict that is no truths of R -/
def TDicB (P : Program) (w : World) (R : List Row) (H : Hp) (a : Addr) : Prop :=
  (∃ (k : Key) (v : V) (d : PyData), H a = some (.dK [(k, v)]) ∧ plD v = some d ∧ fit (.list [.tuple [keyD k, d]]) 3 = true ∧ (isAskedD R (keyD k) && isBV v) = false) ∨ ∃ b, H a = some (ndO P w a b)
theorem TDicB.td {P : Program} {w : World} {R : List Row} {H : Hp} {a : Addr} (t : TDicB P w R H a) : TDic P w H a := by
  rcases t with ⟨k, v, d, e, h1, h2, _⟩ | ⟨b, e⟩
  · exact .inl ⟨k, v, d, e, h1, h2⟩
  · exact .inr ⟨b, e⟩
theorem TDicB.tr {P : Program} {w : World} {R : List Row} {H : Hp} {a : Addr} (t : TDicB P w R H a) : TrOf P w R H (.ref a) false := by
  rcases t with ⟨k, v, d, e, h1, h2, h3⟩ | ⟨b, e⟩
  · refine .inr (.inl ⟨a, _, rfl, e, (show (1 : Nat) ≤ lim by decide), fun p hp => ?_, ?_⟩)
    · rw [List.mem_singleton.mp hp]
      exact ⟨d, h1⟩
    · simpa using h3.symm
  · exact .inr (.inr ⟨a, b, rfl, e, rfl⟩)
theorem TDicB.x {P : Program} {w : World} {R : List Row} {H H' : Hp} {a : Addr} (t : TDicB P w R H a) (x : ExtN H H') : TDicB P w R H' a := by
  rcases t with ⟨k, v, d, e, h⟩ | ⟨b, e⟩
  · exact .inl ⟨k, v, d, x _ _ e (fun _ z => nomatch z), h⟩
  · exact .inr ⟨b, x _ _ e (fun _ z => nomatch z)⟩
/-- a thing that is no truths of R -/
def EntT (P : Program) (w : World) (R : List Row) (H : Hp) (x : V) : Prop := x = .non ∨ x = .int 5 ∨ x = .str "ab" ∨ (∃ p, x = .ref p ∧ H p = some (.lst [])) ∨ ∃ a, x = .ref a ∧ TDicB P w R H a
theorem EntT.x {P : Program} {w : World} {R : List Row} {H H' : Hp} {y : V} (t : EntT P w R H y) (x : ExtN H H') : EntT P w R H' y := by
  rcases t with h | h | h | ⟨p, h, e⟩ | ⟨a, h, t⟩
  · exact .inl h
  · exact .inr (.inl h)
  · exact .inr (.inr (.inl h))
  · exact .inr (.inr (.inr (.inl ⟨p, h, x _ _ e (fun _ z => nomatch z)⟩)))
  · exact .inr (.inr (.inr (.inr ⟨a, h, t.x x⟩)))
theorem EntT.sm {P : Program} {w : World} {R : List Row} {H H' : Hp} {y : V} (t : EntT P w R H y) (s : Sm H H') : EntT P w R H' y := t.x (ExtN.of s)
/-- a list of them is made longer -/
theorem EntT.upd {P : Program} {w : World} {R : List Row} {H : Hp} {y : V} {ol : Addr} {z : V} {zs ws : List V} (t : EntT P w R H y) (e : H ol = some (.lst (z :: zs))) : EntT P w R (upd H ol (.lst ws)) y := by
  rcases t with h | h | h | ⟨p, h, e2⟩ | ⟨a, h, t⟩
  · exact .inl h
  · exact .inr (.inl h)
  · exact .inr (.inr (.inl h))
  · exact .inr (.inr (.inr (.inl ⟨p, h, by rw [upd_ne fun q => by rw [q, e] at e2; cases e2]; exact e2⟩)))
  · refine .inr (.inr (.inr (.inr ⟨a, h, ?_⟩)))
    rcases t with ⟨k, v, d, e2, r⟩ | ⟨b, e2⟩
    · exact .inl ⟨k, v, d, by rw [upd_ne fun q => by rw [q, e] at e2; cases e2]; exact e2, r⟩
    · exact .inr ⟨b, by rw [upd_ne fun q => by rw [q, e] at e2; unfold ndO at e2; cases e2]; exact e2⟩
theorem EntT.tr {P : Program} {w : World} {R : List Row} {H : Hp} {y : V} (t : EntT P w R H y) : TrOf P w R H y false := by
  rcases t with rfl | rfl | rfl | ⟨p, rfl, e⟩ | ⟨a, rfl, t⟩
  · exact .inl ⟨_, .non, rfl, rfl⟩
  · exact .inl ⟨_, .int 5, rfl, rfl⟩
  · exact .inl ⟨_, .str "ab", rfl, rfl⟩
  · exact .inl ⟨_, .lst trivial e .nil, rfl, rfl⟩
  · exact t.tr
theorem disp_one {G : Hp} {p : Addr} {k : Key} {v : V} (np : G p = none) : Sm G (upd (upd G p (.dK [])) p (.dK (mergeK [] [(k, v)]))) ∧ upd (upd G p (.dK [])) p (.dK (mergeK [] [(k, v)])) p = some (.dK [(k, v)]) := by
  refine ⟨fun b o e => ?_, upd_same⟩
  rw [upd_ne (ne_of_none e np), upd_ne (ne_of_none e np)]
  exact e
theorem disp_nd {P : Program} {w : World} {G : Hp} {p : Addr} {b : Bool} (np : G p = none) : Sm G (upd (upd G p (.dK [])) p (ndO P w p b)) ∧ upd (upd G p (.dK [])) p (ndO P w p b) p = some (ndO P w p b) := by
  refine ⟨fun b o e => ?_, upd_same⟩
  rw [upd_ne (ne_of_none e np), upd_ne (ne_of_none e np)]
  exact e
/-- [{k: v} for k in ks if p(k)] -/
theorem lc_dic {J : It} {tt : TT} {te : TE} {vs : List Nat} {i : Nat} {σ : L2.St} {H1 : Hp} {D : Addr} {ks : List Nat} {v : V} {Qd : Hp → Prop} (p : Nat → Bool) (W : Walk J H1 (nums ks)) (nD : H1 D = none) (hlen : ks.length ≤ lim)
    (hw : ∀ x, wipe ((wipe σ vs).set i (some x)) vs = wipe σ vs)
    (htt : ∀ (k : Nat) (H2 : Hp) (Q : Bool → Hp → Prop), k ∈ ks → Sm H1 H2 → Q (p k) H2 → tt ((wipe σ vs).set i (some (.int (k : Nat)))) H2 Q)
    (hs : ∀ (k : Nat) (H2 : Hp) (Q : VK), k ∈ ks → Sm H1 H2 → (∀ T H3, Sm H2 H3 → H3 T = some (.dK [(Sum.inl (k : Int), v)]) → Q (.ref T) H3) → te ((wipe σ vs).set i (some (.int (k : Nat)))) H2 Q)
    (hd : ∀ H2 (Ts : List Addr), Sm H1 H2 → H2 D = some (.lst (Ts.map V.ref)) → Ts.length ≤ ks.length → (∀ T ∈ Ts, ∃ k ∈ ks, p k = true ∧ H2 T = some (.dK [(Sum.inl (k : Int), v)])) → Qd H2) :
    ∃ W : Nat → Nat → Hp → Prop, (∃ m, W 0 m (upd H1 D (.lst []))) ∧ ∀ i' m H, W i' m H →
      (J.stop i' H ∧ Qd H) ∨ (J.go i' H ∧ ∃ Nx : Hp → Prop, (∀ H', Nx H' → ∃ m', m' < m ∧ W (i' + 1) m' H') ∧ ∀ x H', J.yld i' H x H' → gName i x (wipe σ vs) H' fun σ2 H2 => wipe σ2 vs = wipe σ vs ∧ tt σ2 H2 fun b H3 =>
        if b = true then te σ2 H3 fun y H4 => ∃ acc, H4 D = some (.lst acc) ∧ acc.length < sizeLine ∧ Nx (upd H4 D (.lst (acc ++ [y]))) else Nx H3) := by
  have hsl := lim_lt
  have hn : (nums ks).length = ks.length := by simp [nums]
  refine lc_walk (n := ks.length) (fun m H2 => Sm H1 H2 ∧ ∃ Ts : List Addr, H2 D = some (.lst (Ts.map V.ref)) ∧ Ts.length ≤ m ∧ ∀ T ∈ Ts, ∃ k ∈ ks, p k = true ∧ H2 T = some (.dK [(Sum.inl (k : Int), v)])) ⟨Sm.new nD, [], upd_same, Nat.le_refl _, fun _ h => nomatch h⟩ (fun m H2 hm h => W.go _ _ h.1 (by omega)) (fun H2 h => by have := W.stop _ h.1; rw [hn] at this; exact this) (fun m x H2 H' hm h hy => ?_) fun H2 h => ?_
  · obtain ⟨s, Ts, eD, lT, al⟩ := h
    obtain ⟨rfl, d, hd', rd⟩ := W.yld _ _ _ _ s (by omega) hy
    have hk : ks[m]? = some ks[m] := List.getElem?_eq_getElem hm
    rw [nums, List.getElem?_map, hk] at hd'
    cases hd'
    cases rd
    have hmem := List.getElem_mem (l := ks) hm
    refine ⟨hw _, htt ks[m] H' _ hmem s (ite2 (fun hp => ?_) (fun hp => ⟨s, Ts, eD, by omega, al⟩))⟩
    refine hs ks[m] H' _ hmem s fun T H3 s3 eT => ⟨_, s3 _ _ eD, by rw [List.length_map]; omega, ?_, Ts ++ [T], by rw [upd_same]; simp, by simp; omega, fun T' hT' => ?_⟩
    · exact fun c o e => by
        rw [upd_ne (ne_of_none e nD)]
        exact s3 _ _ (s _ _ e)
    · rcases List.mem_append.mp hT' with z | z
      · obtain ⟨k, h1, h2, h3⟩ := al T' z
        refine ⟨k, h1, h2, ?_⟩
        rw [upd_ne fun q => by rw [q, eD] at h3; cases h3]
        exact s3 _ _ h3
      · rw [List.mem_singleton.mp z]
        refine ⟨ks[m], hmem, hp, ?_⟩
        rw [upd_ne fun q => by rw [q, s3 _ _ eD] at eT; cases eT]
        exact eT
  · obtain ⟨s, Ts, eD, lT, al⟩ := h
    exact hd H2 Ts s eD lT al
theorem dic_fit {k : Nat} {d : PyData} (hk : k ≤ 1000000) (hd : fit d 1 = true) : fit (.list [.tuple [.int (k : Nat), d]]) 3 = true := by
  have l : lim = 4000 := rfl
  have h1 := int_fit (k := k) (n := 1) hk
  simp only [fit, fitA, Bool.and_eq_true, decide_eq_true_eq, List.length_cons, List.length_nil] at h1 ⊢
  exact ⟨⟨by omega, by omega⟩, ⟨⟨by omega, by omega⟩, h1, hd, trivial⟩, trivial⟩
theorem cutV_mem {xs : List V} {lo hi : Option Int} {x : V} (h : x ∈ cutV xs lo hi) : x ∈ xs := by
  unfold cutV at h
  exact List.mem_of_mem_drop (List.mem_of_mem_take h)
end K8

/-! _law_refused_right. -/
namespace K8
open PySem PySem.Spec PyProof.Rows L2 WR LamX
abbrev spRefR (T : TabL) : Sp := fun vs H Q _ => ∃ (v : V) (R : List Row), vs = [v] ∧ Dr All H v (rowsD R) ∧ Web R ∧ (∀ r ∈ R, r.small) ∧ R.length ≤ 16 ∧ Tabs T H ∧
  ∀ H', ExtN H H' → Tabs T H' → Q (.bl true) H'
theorem cutV_to {ks : List Nat} {m : Nat} : cutV (vN ks) none (some (m : Int)) = vN (ks.take m) := by
  have := cutA_to (vN ks) m
  unfold cutA at this
  unfold cutV
  rw [this]
  simp [vN, List.map_take]
/-- a thing that is no web, and where it is none -/
def EntW (H : Hp) (x : V) : Prop := ∃ (t : Addr) (ov : V) (d : PyData) (m : Nat), x = .ref t ∧ H t = some (.tup [ov, .int (m : Nat)]) ∧ Dr All H ov d ∧ OddW d m ∧ m ≤ 1000
theorem EntW.sm {H H' : Hp} {x : V} (e : EntW H x) (s : Sm H H') : EntW H' x := by
  obtain ⟨t, ov, d, m, h1, h2, h3, h4⟩ := e
  exact ⟨t, ov, d, m, h1, s _ _ h2, h3.sm s, h4⟩
theorem EntW.x {H H' : Hp} {y : V} (e : EntW H y) (s : ExtN H H') : EntW H' y := by
  obtain ⟨t, ov, d, m, h1, h2, h3, h4⟩ := e
  exact ⟨t, ov, d, m, h1, s _ _ h2 (fun _ z => nomatch z), drX s h3, h4⟩
section
variable {P : Program} {w : World} {K : PySem.W.Frag} {mg : Str → Option Value} {base : Heap} {CW CP CT : Addr}
theorem sc__law_refused_right : FnScope ["rows", "many", "asks", "lots", "odd", "index", "found", "asked", "odds", "ask", "at", "row"] ["rows"] (defScope s_law_refused_right) := ⟨rfl, rfl, rfl, by decide +kernel, rfl, by decide +kernel, by decide +kernel⟩
theorem ok__law_refused_right (B : Bt mg) (E2 : Ex3 K mg CW CP CT) (FM : Fn K mg d_law_met)
    (D4 : Df P w K mg base CX0 7 "_law_same" ["found", "due"] (spSameU P w 7))
    (DN : DfF P w K mg base (L2.CX P w) 8 "needs_of" ["web", "part"] (spNeedsOf CW CP) dneeds_of) (DT : DfF P w K mg base (L2.CX P w) 8 "tests_in" ["web", "part"] (spTests CW CP) dtests_in) (DS : DfF P w K mg base (L2.CX P w) 8 "steps_in" ["web", "part"] (spSteps CW CP) dsteps_in)
    (DD : DfF P w K mg base (L2.CX P w) 8 "depth_of" ["web", "part"] (spMeas maxL CW CP) ddepth_of) (DR : DfF P w K mg base (L2.CX P w) 8 "tree_of" ["web", "part"] (spMeas List.sum CW CP) dtree_of) (DC : DfF P w K mg base (L2.CX P w) 7 "decided" ["web", "truths"] (spDecided P w CW CT) ddecided)
    {T : TabL} {c Pt f : Addr} {dV kV doc pm ct oc : Value} {an od : Option Addr} {osl : Array (Option Value)} (TB : TabB base mg c Pt) (hmT : (Pt, ("_law_refused_right" : Str) ++ ".<locals>." ++ "<lambda>") ∈ T) (hu : ∀ p ∈ T, p.1 = Pt → p.2 = ("_law_refused_right" : Str) ++ ".<locals>." ++ "<lambda>")
    (lk : K.lookup f = some ⟨oc, od, .func (PySem.W.fnOf d_law_refused_right.name d_law_refused_right.qual d_law_refused_right.params d_law_refused_right.body d_law_refused_right.scope dV kV doc pm an (.ref c) ct), osl⟩) (hcd : PySem.W.codeIn K (.ref c) d_law_refused_right.qual = true) :
    FnG P w K mg base CX0 11 f (PySem.W.fnOf d_law_refused_right.name d_law_refused_right.qual d_law_refused_right.params d_law_refused_right.body d_law_refused_right.scope dV kV doc pm an (.ref c) ct) ["rows"] (spRefR T) := by
  obtain ⟨f1, fd1, hm1, F1, b1, G1⟩ := DN.ex
  obtain ⟨f2, fd2, hm2, F2, b2, G2⟩ := DS.ex
  obtain ⟨f3, fd3, hm3, F3, b3, G3⟩ := DT.ex
  obtain ⟨f4, fd4, hm4, F4, b4, G4⟩ := DD.ex
  obtain ⟨f5, fd5, hm5, F5, b5, G5⟩ := DR.ex
  have HM : ∀ g ∈ [f1, f2, f3, f4, f5], HeldM P w K mg base 8 g (spBad CW CP) := by
    intro g hg
    simp only [List.mem_cons, List.not_mem_nil, or_false] at hg
    rcases hg with rfl | rfl | rfl | rfl | rfl
    · exact ⟨_, _, G1.imp (fun vs H Q E ⟨v, u, d, e, h1, h2, h3, h4, h5, h6⟩ => ⟨v, u, d, e, h1, h2, h3, h4, fun R z => (h5 R z).1, fun R k ks c H' z e1 p1 _ _ _ _ => (bad_no h5 z e1 p1).elim, h6⟩), F1.kp, b1⟩
    · exact ⟨_, _, G2.imp (fun vs H Q E ⟨v, u, d, e, h1, h2, h3, h4, h5, h6⟩ => ⟨v, u, d, e, h1, h2, h3, h4, fun R z => (h5 R z).1, fun R k ks H' z e1 p1 _ _ => (bad_no h5 z e1 p1).elim, h6⟩), F2.kp, b2⟩
    · exact ⟨_, _, G3.imp (fun vs H Q E ⟨v, u, d, e, h1, h2, h3, h4, h5, h6⟩ => ⟨v, u, d, e, h1, h2, h3, h4, fun R z => (h5 R z).1, fun R k ks c H' z e1 p1 _ _ _ _ => (bad_no h5 z e1 p1).elim, h6⟩), F3.kp, b3⟩
    · exact ⟨_, _, G4.imp (fun vs H Q E ⟨v, u, d, e, h1, h2, h3, h4, h5, h6⟩ => ⟨v, u, d, e, h1, h2, h3, h4, fun R z => (h5 R z).1, fun R k H' z e1 p1 _ => (bad_no h5 z e1 p1).elim, h6⟩), F4.kp, b4⟩
    · exact ⟨_, _, G5.imp (fun vs H Q E ⟨v, u, d, e, h1, h2, h3, h4, h5, h6⟩ => ⟨v, u, d, e, h1, h2, h3, h4, fun R z => (h5 R z).1, fun R k H' z e1 p1 _ => (bad_no h5 z e1 p1).elim, h6⟩), F5.kp, b5⟩
  refine fnG_of (N := ["rows", "many", "asks", "lots", "odd", "index", "found", "asked", "odds", "ask", "at", "row"]) lk hcd sc__law_refused_right (fun vs H Q E h => by obtain ⟨v, R, rfl, _⟩ := h; rfl) (fun A outer s H vs Q E hr free h => ?_)
  obtain ⟨v, R, rfl, rd, WR', sm, hR, hT, q⟩ := h
  have hr7 := hr.mono (show 7 ≤ 10 by decide)
  have hu0 := hr.un
  have hu65 : (A.deeper (envOfC d_law_refused_right.qual d_law_refused_right.scope s.heap.objs.size f (Value.ref c))).units + 65 < cLine := by omega
  obtain ⟨g, fdg, mm, FD⟩ := FM
  obtain ⟨ocg, odg, dVg, kVg, docg, pmg, ang, cdg, ctg, oslg, rfl, lkg, hcg, _, _⟩ := FD.ex
  have bm : L2.Binds K (PySem.W.fnOf d_law_met.name d_law_met.qual d_law_met.params d_law_met.body d_law_met.scope dVg kVg docg pmg ang cdg ctg) ["ask"] [] := FD.bindsN fun _ _ _ _ _ _ us hl => match us, hl with | [_], _ => rfl
  refine ⟨_, PSs.nox (pss_cons (ps_set (i := 1) sc__law_refused_right.nd rfl (by first | exact Or.inl rfl | exact Or.inr rfl) (pe_callB call_lenS (by rfl) B.len (by decide +kernel) (pa_cons (pv 0) pa_nil)))
      (pss_cons (ps_set (i := 2) sc__law_refused_right.nd rfl (by first | exact Or.inl rfl | exact Or.inr rfl) (pe_lst (pa_cons (pe_glob (v := .ref f1) (by rfl) hm1 rfl) (pa_cons (pe_glob (v := .ref f2) (by rfl) hm2 rfl) (pa_cons (pe_glob (v := .ref f3) (by rfl) hm3 rfl) (pa_cons (pe_glob (v := .ref f4) (by rfl) hm4 rfl) (pa_cons (pe_glob (v := .ref f5) (by rfl) hm5 rfl) pa_nil)))))))
      (pss_cons (ps_set (i := 3) sc__law_refused_right.nd rfl (by first | exact Or.inl rfl | exact Or.inr rfl) (pe_lst (pa_cons (pe_tup (pa_cons pe_non (pa_cons pe_int pa_nil))) (pa_cons (pe_tup (pa_cons pe_int (pa_cons pe_int pa_nil))) (pa_cons (pe_tup (pa_cons pe_str (pa_cons pe_int pa_nil))) (pa_cons (pe_tup (pa_cons pe_dnewK (pa_cons pe_int pa_nil))) (pa_cons (pe_tup (pa_cons (pe_op op_cat (pv 0) (pe_lst (pa_cons pe_non pa_nil))) (pa_cons (pv 1) pa_nil))) (pa_cons (pe_tup (pa_cons (pe_op op_cat (pv 0) (pe_lst (pa_cons (pe_tup (pa_cons pe_str (pa_cons pe_str (pa_cons (pe_tup (pa_cons (pv 1) pa_nil)) pa_nil)))) pa_nil))) (pa_cons (pv 1) pa_nil))) pa_nil))))))))
      (pss_cons (ps_for PassesOwn.never rfl (pi_seq (pe_op op_cat (pv 3) (pe_lst (pa_cons (pe_tup (pa_cons (pe_op op_cat (pv 0) (pe_lst (pa_cons (pe_tup (pa_cons pe_str (pa_cons (pv 1) (pa_cons pe_int (pa_cons pe_int pa_nil))))) pa_nil))) (pa_cons (pv 1) pa_nil))) (pa_cons (pe_tup (pa_cons (pe_op op_cat (pv 0) (pe_lst (pa_cons (pe_tup (pa_cons pe_str (pa_cons (pe_un un_neg pe_int) pa_nil))) pa_nil))) (pa_cons (pv 1) pa_nil))) pa_nil))))) (pg_tup rfl (pgs_cons (pg_name (i := 4) sc__law_refused_right.nd rfl (by first | exact Or.inl rfl | exact Or.inr rfl)) (pgs_cons (pg_name (i := 5) sc__law_refused_right.nd rfl (by first | exact Or.inl rfl | exact Or.inr rfl)) pgs_nil))) (pss_cons (ps_setLc (i := 6) (own := [("ask", 9)]) (g := gName 9) (tt := tYes) rfl sc__law_refused_right.nd rfl rfl (sw_true rfl rfl rfl (by decide +kernel)) (pi_seq (pv 2)) (blkOk_by (own := [("ask", 9)]) (N := ["rows", "many", "asks", "lots", "odd", "index", "found", "asked", "odds", "ask", "at", "row"]) (sc := defScope s_law_refused_right) (by decide +kernel)) (fun _ _ _ _ _ => pg_name (i := 9) sc__law_refused_right.nd rfl (by first | exact Or.inl rfl | exact Or.inr rfl)) (fun _ _ _ _ _ => pts_nil) (fun _ _ _ _ _ => (LamX.pe_lamcall (by rfl) mm FD.kp lkg hcg bm sc__law_met rfl (by first | exact .inl rfl | exact .inr (.inl rfl)) (met_gives E2) TB rfl hmT hu hr (lamS_by (by kernel_rfl)) rfl (fun _ _ _ _ _ => rfl) (fun A outer s H E f c hr2 => pe_callM HM (hr2.mono (by decide)) (i := 9) rfl (by first | exact Or.inl rfl | exact Or.inr (Or.inl rfl) | exact Or.inr (Or.inr rfl)) (passes_call (takes_of rfl rfl rfl rfl) (fun _ _ _ _ z => z)) (pa_cons (pv 4) (pa_cons pe_non pa_nil))))))
      (pss_cons (ps_expr (pe_bm PySem.F.plainAttrs_list PySem.F.slot_list_append PySem.F.type_list_append mt_append (pv 6) (pa_cons (LamX.pe_lamcall (by rfl) mm FD.kp lkg hcg bm sc__law_met rfl (by first | exact .inl rfl | exact .inr (.inl rfl)) (met_gives E2) TB rfl hmT hu hr (lamS_by (by kernel_rfl)) rfl (fun _ _ _ _ _ => rfl) (fun A outer s H E f c hr2 => pe_df DC.df (hr2.mono (by decide)) (passes_call (takes_of rfl rfl rfl rfl) (fun _ _ _ _ z => z)) (pa_cons (pv 4) (pa_cons pe_non pa_nil)))) pa_nil)))
      (pss_one (ps_if (pt_not (pt_val (pe_df D4 hr7 pass0 (pa_cons (pv 6) (pa_cons (pe_op op_rep (pe_lst (pa_cons (pe_lst (pa_cons pe_str (pa_cons (pv 5) pa_nil))) pa_nil)) pe_int) pa_nil))))) (pss_one (ps_ret pe_bl)) pss_nil)))))
      (pss_cons (ps_set (i := 7) sc__law_refused_right.nd rfl (by first | exact Or.inl rfl | exact Or.inr rfl) (pe_lc (own := [("at", 10), ("row", 11)]) (g := gTup K 2 (gCons (gName 10) (gCons (gName 11) gNil))) (tt := _) rfl sc__law_refused_right.nd (pi_enS B.enumerate (pa_cons (pv 0) pa_nil)) (blkOk_by (own := [("at", 10), ("row", 11)]) (N := ["rows", "many", "asks", "lots", "odd", "index", "found", "asked", "odds", "ask", "at", "row"]) (sc := defScope s_law_refused_right) (by decide +kernel)) (fun _ _ _ _ _ => pg_tup rfl (pgs_cons (pg_name (i := 10) sc__law_refused_right.nd rfl (by first | exact Or.inl rfl | exact Or.inr rfl)) (pgs_cons (pg_name (i := 11) sc__law_refused_right.nd rfl (by first | exact Or.inl rfl | exact Or.inr rfl)) pgs_nil))) (fun _ _ _ _ _ => (pts_one (pt_cmpR op_eq (pe_ix ix_D (pv 11) pe_int (fun _ _ => rfl)) pe_str (nomark _)))) (fun _ _ _ _ _ => (pv 10))))
      (pss_cons (ps_for PassesOwn.never rfl (pi_seq (pe_op op_cat (pe_lst (pa_cons pe_non (pa_cons (pe_un un_neg pe_int) (pa_cons pe_bl (pa_cons pe_str (pa_cons (pe_lst (pa_cons pe_int pa_nil)) (pa_cons pe_dnewK (pa_cons (pv 1) (pa_cons (pe_op op_add (pv 1) pe_int) pa_nil))))))))) (pe_slice sl_list (pv 7) po_none (po_some pe_int)))) (pg_name (i := 4) sc__law_refused_right.nd rfl (by first | exact Or.inl rfl | exact Or.inr rfl)) (pss_one (ps_if (pt_not (pt_val (pe_df D4 hr7 pass0 (pa_cons (pe_lc (own := [("ask", 9)]) (g := gName 9) (tt := tYes) rfl sc__law_refused_right.nd (pi_seq (pv 2)) (blkOk_by (own := [("ask", 9)]) (N := ["rows", "many", "asks", "lots", "odd", "index", "found", "asked", "odds", "ask", "at", "row"]) (sc := defScope s_law_refused_right) (by decide +kernel)) (fun _ _ _ _ _ => pg_name (i := 9) sc__law_refused_right.nd rfl (by first | exact Or.inl rfl | exact Or.inr rfl)) (fun _ _ _ _ _ => pts_nil) (fun _ _ _ _ _ => (LamX.pe_lamcall (by rfl) mm FD.kp lkg hcg bm sc__law_met rfl (by first | exact .inl rfl | exact .inr (.inl rfl)) (met_gives E2) TB rfl hmT hu hr (lamS_by (by kernel_rfl)) rfl (fun _ _ _ _ _ => rfl) (fun A outer s H E f c hr2 => pe_callM HM (hr2.mono (by decide)) (i := 9) rfl (by first | exact Or.inl rfl | exact Or.inr (Or.inl rfl) | exact Or.inr (Or.inr rfl)) (passes_call (takes_of rfl rfl rfl rfl) (fun _ _ _ _ z => z)) (pa_cons (pv 0) (pa_cons (pv 4) pa_nil)))))) (pa_cons (pe_op op_rep (pe_lst (pa_cons (pe_lst (pa_cons pe_str (pa_cons (pv 4) pa_nil))) pa_nil)) pe_int) pa_nil))))) (pss_one (ps_ret pe_bl)) pss_nil)))
      (pss_cons (ps_set (i := 8) sc__law_refused_right.nd rfl (by first | exact Or.inl rfl | exact Or.inr rfl) (pe_lst (pa_cons pe_non (pa_cons pe_int (pa_cons (pe_lst pa_nil) (pa_cons pe_str (pa_cons (pe_disp (pps_cons (pe_un un_neg pe_int) pe_bl pps_nil) (by rfl) (by rfl) (fun z => nomatch z) (by decide)) (pa_cons (pe_disp (pps_cons (pv 1) pe_bl pps_nil) (by rfl) (by rfl) (fun z => nomatch z) (by decide)) (pa_cons (pe_disp (pps_cons pe_str pe_bl pps_nil) (by rfl) (by rfl) (fun z => nomatch z) (by decide)) (pa_cons (pe_dispN (pps_cons pe_non pe_bl pps_nil) (by rfl) (by rfl) (fun z => nomatch z) (by decide)) pa_nil))))))))))
      (pss_cons (ps_expr (pe_bm PySem.F.plainAttrs_list PySem.F.slot_list_extend PySem.F.type_list_extend mt_extend (pv 8) (pa_cons (pe_op op_cat (pe_lc (own := [("at", 10)]) (g := gName 10) (tt := tYes) rfl sc__law_refused_right.nd (pi_seq (pe_slice sl_list (pv 7) po_none (po_some pe_int))) (blkOk_by (own := [("at", 10)]) (N := ["rows", "many", "asks", "lots", "odd", "index", "found", "asked", "odds", "ask", "at", "row"]) (sc := defScope s_law_refused_right) (by decide +kernel)) (fun _ _ _ _ _ => pg_name (i := 10) sc__law_refused_right.nd rfl (by first | exact Or.inl rfl | exact Or.inr rfl)) (fun _ _ _ _ _ => pts_nil) (fun _ _ _ _ _ => (pe_disp (pps_cons (pv 10) pe_int pps_nil) (by rfl) (by rfl) (fun z => nomatch z) (by decide)))) (pe_lc (own := [("at", 10)]) (g := gName 10) (tt := tYes) rfl sc__law_refused_right.nd (pi_seq (pe_slice sl_list (pv 7) po_none (po_some pe_int))) (blkOk_by (own := [("at", 10)]) (N := ["rows", "many", "asks", "lots", "odd", "index", "found", "asked", "odds", "ask", "at", "row"]) (sc := defScope s_law_refused_right) (by decide +kernel)) (fun _ _ _ _ _ => pg_name (i := 10) sc__law_refused_right.nd rfl (by first | exact Or.inl rfl | exact Or.inr rfl)) (fun _ _ _ _ _ => pts_nil) (fun _ _ _ _ _ => (pe_disp (pps_cons (pv 10) pe_non pps_nil) (by rfl) (by rfl) (fun z => nomatch z) (by decide))))) pa_nil)))
      (pss_cons (ps_expr (pe_bm PySem.F.plainAttrs_list PySem.F.slot_list_extend PySem.F.type_list_extend mt_extend (pv 8) (pa_cons (pe_slice sl_list (pe_lc (own := [("at", 10)]) (g := gName 10) (tt := _) rfl sc__law_refused_right.nd (pi_range1 rfl B.range (pa_cons (pv 1) pa_nil)) (blkOk_by (own := [("at", 10)]) (N := ["rows", "many", "asks", "lots", "odd", "index", "found", "asked", "odds", "ask", "at", "row"]) (sc := defScope s_law_refused_right) (by decide +kernel)) (fun _ _ _ _ _ => pg_name (i := 10) sc__law_refused_right.nd rfl (by first | exact Or.inl rfl | exact Or.inr rfl)) (fun _ _ _ _ _ => (pts_one (pt_cmpR (op_notInDr hu65) (pv 10) (pv 7) (by rfl)))) (fun _ _ _ _ _ => (pe_disp (pps_cons (pv 10) pe_bl pps_nil) (by rfl) (by rfl) (fun z => nomatch z) (by decide)))) po_none (po_some pe_int)) pa_nil)))
      (pss_cons (ps_for PassesOwn.never rfl (pi_seq (pv 8)) (pg_name (i := 4) sc__law_refused_right.nd rfl (by first | exact Or.inl rfl | exact Or.inr rfl)) (pss_one (ps_if (pt_not (pt_val (pe_df D4 hr7 pass0 (pa_cons (LamX.pe_lamcall (by rfl) mm FD.kp lkg hcg bm sc__law_met rfl (by first | exact .inl rfl | exact .inr (.inl rfl)) (met_gives E2) TB rfl hmT hu hr (lamS_by (by kernel_rfl)) rfl (fun _ _ _ _ _ => rfl) (fun A outer s H E f c hr2 => pe_df DC.df (hr2.mono (by decide)) (passes_call (takes_of rfl rfl rfl rfl) (fun _ _ _ _ z => z)) (pa_cons (pv 0) (pa_cons (pv 4) pa_nil)))) (pa_cons (pe_lst (pa_cons pe_str (pa_cons (pv 4) pa_nil))) pa_nil))))) (pss_one (ps_ret pe_bl)) pss_nil)))
      (pss_one (ps_ret pe_bl)))))))))))), ?_⟩
  have htop : top0 = 1000000000000 := rfl
  have hlim : lim = 4000 := rfl
  have hsl := lim_lt
  have tR := web_tame WR' sm (by omega)
  have wdR := tame_wd tR
  have hsum : sumN R [] ≤ 900000 := by
    have := sumN_le (R := R) (c := 3) (fun k hk => Row.small_named (sm _ (rowAt_mem hk))) []
    omega
  obtain ⟨va, xs, rfl, eva, rs⟩ : ∃ a xs, v = .ref a ∧ H a = some (.lst xs) ∧ DrA All H xs (R.map Row.d) := by
    cases rd with
    | lst _ e r => exact ⟨_, _, rfl, e, r⟩
  have lxs : xs.length = R.length := by rw [rs.length, List.length_map]
  refine ⟨_, rfl, .ref va, rowsD R, rfl, rd, rfl, ?_⟩
  rw [lenD]
  refine ⟨(by show 5 ≤ sizeLine; decide), fun fl nfl => ?_⟩
  have sz2 : 2 ≤ sizeLine := by decide
  have sz1 : 1 ≤ sizeLine := by decide
  have s0 := Sm.new (o := .lst [.ref f1, .ref f2, .ref f3, .ref f4, .ref f5]) nfl
  have efl : upd H fl (.lst [.ref f1, .ref f2, .ref f3, .ref f4, .ref f5]) fl = some (.lst [.ref f1, .ref f2, .ref f3, .ref f4, .ref f5]) := upd_same
  generalize upd H fl (.lst [.ref f1, .ref f2, .ref f3, .ref f4, .ref f5]) = G0 at s0 efl ⊢
  -- lots
  refine ⟨sz2, fun t1 n1 => ?_⟩
  have s1 := Sm.new (o := .tup [.non, .int 0]) n1
  have a1 : EntW (upd G0 t1 (.tup [.non, .int 0])) (.ref t1) := ⟨t1, _, _, 0, rfl, upd_same, .non, oddW_plain rfl rfl, by decide⟩
  generalize upd G0 t1 (.tup [.non, .int 0]) = G1 at s1 a1 ⊢
  refine ⟨sz2, fun t2 n2 => ?_⟩
  have s2 := Sm.new (o := .tup [.int 5, .int 0]) n2
  have a2 : EntW (upd G1 t2 (.tup [.int 5, .int 0])) (.ref t2) := ⟨t2, _, _, 0, rfl, upd_same, .int 5, oddW_plain rfl (by decide +kernel), by decide⟩
  generalize upd G1 t2 (.tup [.int 5, .int 0]) = G2 at s2 a2 ⊢
  refine ⟨sz2, fun t3 n3 => ?_⟩
  have s3 := Sm.new (o := .tup [.str "web", .int 0]) n3
  have a3 : EntW (upd G2 t3 (.tup [.str "web", .int 0])) (.ref t3) := ⟨t3, _, _, 0, rfl, upd_same, .str "web", oddW_plain rfl (by decide +kernel), by decide⟩
  generalize upd G2 t3 (.tup [.str "web", .int 0]) = G3 at s3 a3 ⊢
  intro p4 np4
  have s4 := Sm.new (o := .dK []) np4
  have e4 : upd G3 p4 (.dK []) p4 = some (.dK []) := upd_same
  generalize upd G3 p4 (.dK []) = G4 at s4 e4 ⊢
  refine ⟨sz2, fun t4 n4 => ?_⟩
  have s5 := Sm.new (o := .tup [.ref p4, .int 0]) n4
  have a4 : EntW (upd G4 t4 (.tup [.ref p4, .int 0])) (.ref t4) := ⟨t4, _, _, 0, rfl, upd_same, .dct trivial (s5 _ _ e4) .nil, oddW_plain rfl rfl, by decide⟩
  generalize upd G4 t4 (.tup [.ref p4, .int 0]) = G5 at s5 a4 ⊢
  have s05 : Sm H G5 := s0.trans (s1.trans (s2.trans (s3.trans (s4.trans s5))))
  -- rows + [None]
  refine ⟨_, rfl, sz1, fun q5 nq5 => ?_⟩
  have s6 := Sm.new (o := .lst [.non]) nq5
  refine ⟨va, q5, xs, [.non], rfl, rfl, s6 _ _ (s05 _ _ eva), upd_same, by simp; omega, fun p5 np5 => ?_⟩
  have s7 := Sm.new (o := .lst (xs ++ [.non])) np5
  have b5 : Dr All (upd (upd G5 q5 (.lst [.non])) p5 (.lst (xs ++ [.non]))) (.ref p5) (.list (R.map Row.d ++ [.none])) := .lst trivial upd_same ((rs.sm (s05.trans (s6.trans s7))).append (.one .non))
  have s67 := s6.trans s7
  generalize upd (upd G5 q5 (.lst [.non])) p5 (.lst (xs ++ [.non])) = G6 at s67 b5 ⊢
  clear s6 s7
  refine ⟨_, rfl, sz2, fun t5 n5 => ?_⟩
  have s8 := Sm.new (o := .tup [.ref p5, .int (R.length : Nat)]) n5
  have a5 : EntW (upd G6 t5 (.tup [.ref p5, .int (R.length : Nat)])) (.ref t5) := ⟨t5, _, _, R.length, rfl, upd_same, b5.sm s8, oddW_more WR' sm (by omega) (by decide +kernel) (.form (by kernel_rfl)), by omega⟩
  generalize upd G6 t5 (.tup [.ref p5, .int (R.length : Nat)]) = G7 at s8 a5 ⊢
  have s57 := s67.trans s8
  clear b5 s67 s8 nq5 np5 n5
  -- rows + [('made', 'f', (many,))]
  have made_ok : Row.ok (.made "f" [R.length]) := ⟨by decide +kernel, by show 1 ≤ lim; decide⟩
  have scM : Scan R R.length [.tuple [.str "made", .str "f", .tuple [.int (R.length : Nat)]]] R (faultD R.length "ahead") := by
    refine .why (r := .made "f" [R.length]) (rowForm_d made_ok) ?_
    unfold why
    refine if_pos ?_
    simp [Row.named]
  have wdM : WR.wd (.tuple [.str "made", .str "f", .tuple [.int (R.length : Nat)]]) = true := fit_wd (Row.fitB (n := 0) made_ok (show 1 ≤ 3 by decide) fun k hk => by rw [List.mem_singleton.mp hk]; omega)
  have ei_ok : Row.ok (.either R.length 0 0) := trivial
  have scE : Scan R R.length [.tuple [.str "either", .int (R.length : Nat), .int (0 : Nat), .int (0 : Nat)]] R (faultD R.length "ahead") := by
    refine .why (r := .either R.length 0 0) (rowForm_d ei_ok) ?_
    unfold why
    refine if_pos ?_
    simp [Row.named]
  have wdE : WR.wd (.tuple [.str "either", .int (R.length : Nat), .int (0 : Nat), .int (0 : Nat)]) = true := fit_wd (Row.fitB (n := 0) ei_ok trivial fun k hk => by
    simp only [Row.named, List.mem_cons, List.not_mem_nil, or_false] at hk
    omega)
  -- rows + [('made', 'f', (many,))]
  refine ⟨_, rfl, _, rfl, sz1, fun u6 m6 => ⟨(by show 3 ≤ sizeLine; decide), fun v6 k6 => ⟨sz1, fun q6 nq6 => ?_⟩⟩⟩
  have c1 := Sm.new (o := .tup [.int (R.length : Nat)]) m6
  have c2 := Sm.new (o := .tup [.str "made", .str "f", .ref u6]) k6
  have c3 := Sm.new (o := .lst [.ref v6]) nq6
  have c13 := c1.trans (c2.trans c3)
  have d6 : Dr All (upd (upd (upd G7 u6 (.tup [.int (R.length : Nat)])) v6 (.tup [.str "made", .str "f", .ref u6])) q6 (.lst [.ref v6])) (.ref v6) (.tuple [.str "made", .str "f", .tuple [.int (R.length : Nat)]]) := .tup (c3 _ _ upd_same) (.cons (.str _) (.cons (.str _) (.one (.tup (c3 _ _ (c2 _ _ upd_same)) (.one (.int _))))))
  have e6 : upd (upd (upd G7 u6 (.tup [.int (R.length : Nat)])) v6 (.tup [.str "made", .str "f", .ref u6])) q6 (.lst [.ref v6]) q6 = some (.lst [.ref v6]) := upd_same
  generalize upd (upd (upd G7 u6 (.tup [.int (R.length : Nat)])) v6 (.tup [.str "made", .str "f", .ref u6])) q6 (.lst [.ref v6]) = G8 at c13 d6 e6 ⊢
  clear c1 c2 c3 m6 k6 nq6
  have s08 : Sm H G8 := s05.trans (s57.trans c13)
  refine ⟨va, q6, xs, [.ref v6], rfl, rfl, s08 _ _ eva, e6, by simp; omega, fun p6 np6 => ?_⟩
  have c4 := Sm.new (o := .lst (xs ++ [.ref v6])) np6
  have b6 : Dr All (upd G8 p6 (.lst (xs ++ [.ref v6]))) (.ref p6) (.list (R.map Row.d ++ [.tuple [.str "made", .str "f", .tuple [.int (R.length : Nat)]]])) := .lst trivial upd_same ((rs.sm (s08.trans c4)).append (.one (d6.sm c4)))
  generalize upd G8 p6 (.lst (xs ++ [.ref v6])) = G9 at c4 b6 ⊢
  refine ⟨_, rfl, sz2, fun t6 n6 => ?_⟩
  have c5 := Sm.new (o := .tup [.ref p6, .int (R.length : Nat)]) n6
  have a6 : EntW (upd G9 t6 (.tup [.ref p6, .int (R.length : Nat)])) (.ref t6) := ⟨t6, _, _, R.length, rfl, upd_same, b6.sm c5, oddW_more WR' sm (by omega) wdM scM, by omega⟩
  generalize upd G9 t6 (.tup [.ref p6, .int (R.length : Nat)]) = Ga at c5 a6 ⊢
  have s7a : Sm G7 Ga := c13.trans (c4.trans c5)
  clear b6 d6 e6 c13 c4 c5 np6 n6
  -- the list
  refine ⟨(by show 6 ≤ sizeLine; decide), fun ll nll => ?_⟩
  have s_ll := Sm.new (o := .lst [.ref t1, .ref t2, .ref t3, .ref t4, .ref t5, .ref t6]) nll
  have ell : upd Ga ll (.lst [.ref t1, .ref t2, .ref t3, .ref t4, .ref t5, .ref t6]) ll = some (.lst [.ref t1, .ref t2, .ref t3, .ref t4, .ref t5, .ref t6]) := upd_same
  have s7b := s7a.trans s_ll
  have ent6 : ∀ x ∈ ([.ref t1, .ref t2, .ref t3, .ref t4, .ref t5, .ref t6] : List V), EntW (upd Ga ll (.lst [.ref t1, .ref t2, .ref t3, .ref t4, .ref t5, .ref t6])) x := by
    intro x hx
    simp only [List.mem_cons, List.not_mem_nil, or_false] at hx
    rcases hx with rfl | rfl | rfl | rfl | rfl | rfl
    · exact a1.sm ((s2.trans (s3.trans (s4.trans s5))).trans (s57.trans s7b))
    · exact a2.sm ((s3.trans (s4.trans s5)).trans (s57.trans s7b))
    · exact a3.sm ((s4.trans s5).trans (s57.trans s7b))
    · exact a4.sm (s57.trans s7b)
    · exact a5.sm s7b
    · exact a6.sm s_ll
  have s0b : Sm H (upd Ga ll (.lst [.ref t1, .ref t2, .ref t3, .ref t4, .ref t5, .ref t6])) := s05.trans (s57.trans s7b)
  have efl1 := ((s1.trans (s2.trans (s3.trans (s4.trans s5)))).trans (s57.trans s7b)) _ _ efl
  generalize hlt : ([.ref t1, .ref t2, .ref t3, .ref t4, .ref t5, .ref t6] : List V) = lots at ell ent6 s0b efl1 s_ll s7b ⊢
  have llots : lots.length = 6 := by rw [← hlt]; rfl
  clear hlt a1 a2 a3 a4 a5 a6 s1 s2 s3 s4 s5 s05 s57 s7a s08 e4 n1 n2 n3 np4 n4 nfl s0 s_ll efl s7b
  generalize upd Ga ll (.lst lots) = Gb at ell ent6 s0b efl1 ⊢
  -- lots + [(rows + [('either', many, 0, 0)], many), ..]
  refine ⟨_, rfl, _, rfl, _, rfl, (by show 4 ≤ sizeLine; decide), fun v7 k7 => ⟨sz1, fun q7 nq7 => ?_⟩⟩
  have c1 := Sm.new (o := .tup [.str "either", .int (R.length : Nat), .int 0, .int 0]) k7
  have c2 := Sm.new (o := .lst [.ref v7]) nq7
  have d7 : Dr All (upd (upd Gb v7 (.tup [.str "either", .int (R.length : Nat), .int 0, .int 0])) q7 (.lst [.ref v7])) (.ref v7) (.tuple [.str "either", .int (R.length : Nat), .int (0 : Nat), .int (0 : Nat)]) := .tup (c2 _ _ upd_same) (.cons (.str _) (.cons (.int _) (.cons (.int _) (.one (.int _)))))
  have e7 : upd (upd Gb v7 (.tup [.str "either", .int (R.length : Nat), .int 0, .int 0])) q7 (.lst [.ref v7]) q7 = some (.lst [.ref v7]) := upd_same
  have c12 := c1.trans c2
  have en7 : upd (upd Gb v7 (.tup [.str "either", .int (R.length : Nat), .int 0, .int 0])) q7 (.lst [.ref v7]) va = some (.lst xs) := c12 _ _ (s0b _ _ eva)
  refine ⟨va, q7, xs, [.ref v7], rfl, rfl, en7, e7, by simp; omega, fun p7 np7 => ?_⟩
  have np7' : upd (upd Gb v7 (.tup [.str "either", .int (R.length : Nat), .int 0, .int 0])) q7 (.lst [.ref v7]) p7 = none := np7
  have c4 := Sm.new (o := .lst (xs ++ [.ref v7])) np7'
  have b7 : Dr All (upd (upd (upd Gb v7 (.tup [.str "either", .int (R.length : Nat), .int 0, .int 0])) q7 (.lst [.ref v7])) p7 (.lst (xs ++ [.ref v7]))) (.ref p7) (.list (R.map Row.d ++ [.tuple [.str "either", .int (R.length : Nat), .int (0 : Nat), .int (0 : Nat)]])) := .lst trivial upd_same ((rs.sm ((s0b.trans c12).trans c4)).append (.one (d7.sm c4)))
  have c14 := c12.trans c4
  refine ⟨_, rfl, sz2, fun t7 n7 => ?_⟩
  have n7' : upd (upd (upd Gb v7 (.tup [.str "either", .int (R.length : Nat), .int 0, .int 0])) q7 (.lst [.ref v7])) p7 (.lst (xs ++ [.ref v7])) t7 = none := n7
  have c5 := Sm.new (o := .tup [.ref p7, .int (R.length : Nat)]) n7'
  have a7 : EntW (upd (upd (upd (upd Gb v7 (.tup [.str "either", .int (R.length : Nat), .int 0, .int 0])) q7 (.lst [.ref v7])) p7 (.lst (xs ++ [.ref v7]))) t7 (.tup [.ref p7, .int (R.length : Nat)])) (.ref t7) := ⟨t7, _, _, R.length, rfl, upd_same, b7.sm c5, oddW_more WR' sm (by omega) wdE scE, by omega⟩
  have c15 := c14.trans c5
  generalize upd (upd (upd (upd Gb v7 (.tup [.str "either", .int (R.length : Nat), .int 0, .int 0])) q7 (.lst [.ref v7])) p7 (.lst (xs ++ [.ref v7]))) t7 (.tup [.ref p7, .int (R.length : Nat)]) = Gc at c15 a7 ⊢
  clear c1 c2 c4 c5 c12 c14 d7 e7 b7 en7 np7 np7' n7 n7' k7 nq7
  -- rows + [('given', -1)]
  refine ⟨_, rfl, _, rfl, sz2, fun v8 k8 => ⟨sz1, fun q8 nq8 => ?_⟩⟩
  have c1 := Sm.new (o := .tup [.str "given", .int (-1)]) k8
  have c2 := Sm.new (o := .lst [.ref v8]) nq8
  have c12 := c1.trans c2
  have d8 : Dr All (upd (upd Gc v8 (.tup [.str "given", .int (-1)])) q8 (.lst [.ref v8])) (.ref v8) (.tuple [.str "given", .int (-1)]) := .tup (c2 _ _ upd_same) (.cons (.str _) (.one (.int _)))
  have e8 : upd (upd Gc v8 (.tup [.str "given", .int (-1)])) q8 (.lst [.ref v8]) q8 = some (.lst [.ref v8]) := upd_same
  have s0c := (s0b.trans c15).trans c12
  generalize upd (upd Gc v8 (.tup [.str "given", .int (-1)])) q8 (.lst [.ref v8]) = Gd at c12 d8 e8 s0c ⊢
  refine ⟨va, q8, xs, [.ref v8], rfl, rfl, s0c _ _ eva, e8, by simp; omega, fun p8 np8 => ?_⟩
  have c4 := Sm.new (o := .lst (xs ++ [.ref v8])) np8
  have b8 : Dr All (upd Gd p8 (.lst (xs ++ [.ref v8]))) (.ref p8) (.list (R.map Row.d ++ [.tuple [.str "given", .int (-1)]])) := .lst trivial upd_same ((rs.sm (s0c.trans c4)).append (.one (d8.sm c4)))
  generalize upd Gd p8 (.lst (xs ++ [.ref v8])) = Ge at c4 b8 ⊢
  refine ⟨_, rfl, sz2, fun t8 n8 => ?_⟩
  have c5 := Sm.new (o := .tup [.ref p8, .int (R.length : Nat)]) n8
  have a8 : EntW (upd Ge t8 (.tup [.ref p8, .int (R.length : Nat)])) (.ref t8) := ⟨t8, _, _, R.length, rfl, upd_same, b8.sm c5, oddW_more WR' sm (by omega) (by decide +kernel) (.form (by kernel_rfl)), by omega⟩
  generalize upd Ge t8 (.tup [.ref p8, .int (R.length : Nat)]) = Gf at c5 a8 ⊢
  refine ⟨sz2, fun lm nlm => ?_⟩
  have c6 := Sm.new (o := .lst [.ref t7, .ref t8]) nlm
  have elm : upd Gf lm (.lst [.ref t7, .ref t8]) lm = some (.lst [.ref t7, .ref t8]) := upd_same
  generalize upd Gf lm (.lst [.ref t7, .ref t8]) = Gg at c6 elm ⊢
  have cbg : Sm Gb Gg := c15.trans (c12.trans (c4.trans (c5.trans c6)))
  refine ⟨ll, lm, lots, _, rfl, rfl, cbg _ _ ell, elm, by rw [llots]; show 6 + 2 ≤ sizeLine; decide, fun pl npl => ?_⟩
  have c7 := Sm.new (o := .lst (lots ++ [.ref t7, .ref t8])) npl
  have epl : upd Gg pl (.lst (lots ++ [.ref t7, .ref t8])) pl = some (.lst (lots ++ [.ref t7, .ref t8])) := upd_same
  have ent : ∀ x ∈ lots ++ [.ref t7, .ref t8], EntW (upd Gg pl (.lst (lots ++ [.ref t7, .ref t8]))) x := by
    intro x hx
    rcases List.mem_append.mp hx with hx | hx
    · exact (ent6 x hx).sm (cbg.trans c7)
    · simp only [List.mem_cons, List.not_mem_nil, or_false] at hx
      rcases hx with rfl | rfl
      · exact a7.sm (c12.trans (c4.trans (c5.trans (c6.trans c7))))
      · exact a8.sm (c6.trans c7)
  have s0n := (s0b.trans cbg).trans c7
  have efln := (cbg.trans c7) _ _ efl1
  generalize lots ++ [.ref t7, .ref t8] = ents at c7 epl ent s0n efln ⊢
  generalize upd Gg pl (.lst ents) = Hn at c7 epl ent s0n efln ⊢
  clear c12 d8 e8 s0c c4 b8 c5 a8 c6 elm cbg c7 a7 c15 ell ent6 s0b efl1 np8 n8 nlm npl nll k8 nq8 c1 c2 scM wdM scE wdE made_ok ei_ok
  have tn0 : Tabs T Hn := hT.ext s0n
  have rd0 := rd.sm s0n
  refine ⟨pl, _, rfl, .inl epl, fun J hJ => ?_⟩
  refine for_seq hJ (fun i σ' H2 => ∃ x4 x5 x6, σ' = [some (.ref va), some (.int (R.length : Nat)), some (.ref fl), some (.ref ll), x4, x5, x6, none, none, none, none, none] ∧ ExtN Hn H2 ∧ Tabs T H2) ?_ ?_ ?_ ?_
  · exact ⟨_, _, _, rfl, ExtN.refl _, tn0⟩
  · rintro i σ3 H3 _ ⟨_, _, _, _, x3, _⟩
    rw [x3 _ _ epl (fun _ z => nomatch z), epl]
  · rintro i x σ3 H3 hx ⟨x4, x5, x6, rfl, xn, tn⟩
    obtain ⟨t, ov, d, m, rfl, et, rv, ⟨⟨yy, RR, sco⟩, wdd⟩, hm'⟩ := (ent x (List.mem_of_getElem? hx)).x xn
    refine ⟨t, _, rfl, SqT.of et, rfl, _, _, rfl, _, _, rfl, rfl, ?_⟩
    have efl3 := xn _ _ efln (fun _ z => nomatch z)
    -- found = [_law_met(lambda: ask(odd, None)) for ask in asks]
    refine ⟨_, rfl, fl, [f1, f2, f3, f4, f5].map V.ref, rfl, .inl efl3, fun J1 hJ1 D1 nD1 => ?_⟩
    refine lc_met (T := T) (a := "web") (v := .int (m : Nat)) (fs := [f1, f2, f3, f4, f5]) hJ1 nD1 tn (by show 5 ≤ lim; decide) (fun _ => rfl) (fun f0 H4 Q' hf xa ta q' => ?_) fun H4 ps xa ta nq lps F => ?_
    · refine ⟨ta, fun H5 xb tb => ?_⟩
      refine ⟨f0, hf, rfl, _, rfl, ov, .non, d, .none, rfl, drX (xa.trans xb) rv, wdd, .non, (fun R1 z => absurd (sco.det z).2 (nf2 _ _)), (fun R1 m1 x1 dx H6 z s6 nd hx => .inl ⟨rfl, dx, _, _, rfl, hx, rfl, fun p np => ?_⟩), fun R1 dx H' z _ _ _ _ => absurd (sco.det z).2 (nf2 _ _)⟩
      obtain rfl := fault_at (sco.det z).2
      exact q' H5 H6 p xb tb s6 np
    -- found.append(_law_met(lambda: decided(odd, None)))
    refine ⟨_, rfl, .inl ⟨rfl, _, SqL.of F.ls⟩, ta, fun H5 xb tb => ?_⟩
    refine ⟨_, rfl, ov, .non, d, rfl, drX (xa.trans xb) rv, wdd, (fun R1 m1 x1 dx H6 z s6 nd hx => .inl ⟨rfl, dx, _, _, rfl, hx, rfl, fun p2 np2 => ?_⟩), fun R1 z => absurd (sco.det z).2 (nf2 _ _)⟩
    obtain rfl := fault_at (sco.det z).2
    obtain ⟨eq2, xB, tB, FB⟩ := app_step (v := V.int (m : Nat)) (a := "web") xa nq F xb tb s6 np2
    have lps5 : ps.length = 5 := lps
    refine ⟨D1, _, _, rfl, rfl, eq2, (by rw [List.length_map, lps5]; decide), ?_⟩
    generalize upd (upd H6 p2 (.lst [.str "web", .int (m : Nat)])) D1 (.lst (ps.map V.ref ++ [.ref p2])) = HB at xB tB FB ⊢
    clear np2 eq2 s6 nd hx z xb tb
    -- if not _law_same(found, [['web', index]] * 6)
    have fe : K8.fit (.int (m : Nat)) 4 = true := int_fit (by omega)
    refine ⟨_, rfl, _, rfl, sz2, fun l1 nl1 => ⟨sz1, fun l2 nl2 => ?_⟩⟩
    have u1 := Sm.new (o := .lst [.str "web", .int (m : Nat)]) nl1
    have u2 := Sm.new (o := .lst [.ref l1]) nl2
    refine ⟨l2, 6, _, rfl, rfl, upd_same, by decide, by decide, (by show 6 ≤ sizeLine; decide), fun l3 nl3 => ?_⟩
    have u3 := Sm.new (o := .lst (List.replicate (6 : Int).toNat [.ref l1]).flatten) nl3
    have uA := (u1.trans u2).trans u3
    have dF := (FB.x (ExtN.of uA)).dr (e := .int (m : Nat)) (.int _)
    rw [show (ps ++ [p2]).length = 6 by rw [List.length_append, lps5]; rfl] at dF
    refine .inl ⟨_, _, .list (List.replicate 6 (.list [.str "web", .int (m : Nat)])), rfl, dF, rep_dr (c := 6) (u3 _ _ (u2 _ _ upd_same)) (.int _) upd_same, rep_fit (by decide) fe (by decide), fun HE sE => ⟨_, rfl, iteF ?_⟩⟩
    exact ⟨_, _, _, rfl, xn.trans (xB.trans (ExtN.of (uA.trans sE))), tB.ext (uA.trans sE)⟩
  rintro σ' H2 ⟨x4, x5, x6, rfl, xn, tn⟩
  clear ent epl hJ
  have rd2 := drX xn rd0
  have efl2 := xn _ _ efln (fun _ z => nomatch z)
  -- asked
  obtain ⟨eva2, rs2⟩ : H2 va = some (.lst xs) ∧ DrA All H2 xs (R.map Row.d) := ⟨xn _ _ (s0n _ _ eva) (fun _ z => nomatch z), drXA (xn) (rs.sm s0n)⟩
  refine ⟨_, rfl, va, xs, rfl, .inl eva2, fun J hJ D nD => ?_⟩
  refine enum_comp Row.isAsked hJ rs2 nD (by omega) (fun _ _ => rfl) (fun _ _ => rfl) (fun a b H3 r Q' rb q' => ?_) fun H3 s3 eD => ?_
  · refine ⟨_, rfl, _, 0, _, rb, Row.seqD _, rfl, Row.word_at _, fun x0 r0 => ?_⟩
    cases r0.str_inv
    refine ⟨rfl, _, rfl, ?_⟩
    rw [Row.askedP]
    exact q'
  have lA := atP_len (p := Row.isAsked) R 0
  have hasA : ∀ k, k < R.length → (rowAt R k).isAsked = true → k ∈ atP Row.isAsked R 0 := fun k h1 h2 => atP_has h1 h2
  have noA : ∀ k ∈ atP Row.isAsked R 0, isPart R k = false ∧ k < R.length := fun k hk => asked_no hk
  have eD : H3 D = some (.lst (vN (atP Row.isAsked R 0))) := eD
  generalize atP Row.isAsked R 0 = as at eD lA hasA noA
  clear hJ
  -- [None, -1, True, '0', [0], {}, many, many + 5] + asked[:2]
  refine ⟨_, rfl, sz1, fun p1 np1 => ?_⟩
  have w1 := Sm.new (o := .lst [V.int 0]) np1
  have h1 : upd H3 p1 (.lst [V.int 0]) p1 = some (.lst [V.int 0]) := upd_same
  generalize upd H3 p1 (.lst [V.int 0]) = G1 at w1 h1 ⊢
  intro p2 np2
  have w2 := Sm.new (o := .dK []) np2
  have h2 : upd G1 p2 (.dK []) p2 = some (.dK []) := upd_same
  generalize upd G1 p2 (.dK []) = G2 at w2 h2 ⊢
  refine ⟨_, rfl, _, rfl, _, _, rfl, rfl, (by show 8 ≤ sizeLine; decide), fun l np => ?_⟩
  have w3 := Sm.new (o := .lst [V.non, .int (-1), .bl true, .str "0", .ref p1, .ref p2, .int (R.length : Nat), .int ((R.length : Nat) + 5)]) np
  have h3 : upd G2 l (.lst [V.non, .int (-1), .bl true, .str "0", .ref p1, .ref p2, .int (R.length : Nat), .int ((R.length : Nat) + 5)]) l = some (.lst [V.non, .int (-1), .bl true, .str "0", .ref p1, .ref p2, .int (R.length : Nat), .int ((R.length : Nat) + 5)]) := upd_same
  have ent8 : ∀ x ∈ ([V.non, .int (-1), .bl true, .str "0", .ref p1, .ref p2, .int (R.length : Nat), .int ((R.length : Nat) + 5)] : List V), ∃ e, Dr All (upd G2 l (.lst [V.non, .int (-1), .bl true, .str "0", .ref p1, .ref p2, .int (R.length : Nat), .int ((R.length : Nat) + 5)])) x e ∧ OddP R e := by
    intro x hx
    obtain ⟨o1, o2, o3, o4, o5, o6⟩ := oddP_const (R := R)
    simp only [List.mem_cons, List.not_mem_nil, or_false] at hx
    rcases hx with rfl | rfl | rfl | rfl | rfl | rfl | rfl | rfl
    · exact ⟨_, .non, o1⟩
    · exact ⟨_, .int _, o2⟩
    · exact ⟨_, .bl _, o3⟩
    · exact ⟨_, .str _, o4⟩
    · exact ⟨_, .lst trivial (w3 _ _ (w2 _ _ h1)) (.one (.int 0)), o5⟩
    · exact ⟨_, .dct trivial (w3 _ _ h2) .nil, o6⟩
    · exact ⟨_, .int _, oddP_int (len_no R 0) (by omega)⟩
    · exact ⟨_, .int _, oddP_int (k := R.length + 5) (len_no R 5) (by omega)⟩
  have w13 := w1.trans (w2.trans w3)
  generalize hls : ([V.non, .int (-1), .bl true, .str "0", .ref p1, .ref p2, .int (R.length : Nat), .int ((R.length : Nat) + 5)] : List V) = ls at h3 ent8 w13 ⊢
  have lls : ls.length = 8 := by rw [← hls]; rfl
  clear hls w1 w2 w3 h1 h2
  generalize upd G2 l (.lst ls) = G3 at h3 ent8 w13 ⊢
  have cv1 : cutV (vN as) none (some 1) = vN (as.take 1) := cutV_to (m := 1)
  have cv2 : cutV (vN as) none (some 2) = vN (as.take 2) := cutV_to (m := 2)
  refine ⟨_, rfl, _, rfl, D, vN as, rfl, SqL.of (w13 _ _ eD), fun sl nsl => ?_⟩
  rw [cv2]
  have w4 := Sm.new (o := .lst (vN (as.take 2))) nsl
  have h4 : upd G3 sl (.lst (vN (as.take 2))) sl = some (.lst (vN (as.take 2))) := upd_same
  generalize upd G3 sl (.lst (vN (as.take 2))) = G4 at w4 h4 ⊢
  refine ⟨l, sl, ls, _, rfl, rfl, w4 _ _ h3, h4, by rw [lls]; simp [vN]; omega, fun pl npl => ?_⟩
  have w5 := Sm.new (o := .lst (ls ++ vN (as.take 2))) npl
  have epl : upd G4 pl (.lst (ls ++ vN (as.take 2))) pl = some (.lst (ls ++ vN (as.take 2))) := upd_same
  have ent : ∀ x ∈ ls ++ vN (as.take 2), ∃ e, Dr All (upd G4 pl (.lst (ls ++ vN (as.take 2)))) x e ∧ OddP R e := by
    intro x hx
    rcases List.mem_append.mp hx with hx | hx
    · obtain ⟨e, r, o⟩ := ent8 x hx
      exact ⟨e, r.sm (w4.trans w5), o⟩
    · obtain ⟨k, hk, rfl⟩ := List.mem_map.mp hx
      have := noA k (List.mem_of_mem_take hk)
      exact ⟨_, .int _, oddP_int this.1 (by omega)⟩
  have w15 := w13.trans (w4.trans w5)
  generalize ls ++ vN (as.take 2) = ents at w5 epl ent w15 ⊢
  generalize upd G4 pl (.lst ents) = G5 at w5 epl ent w15 ⊢
  have s35 := s3.trans w15
  have eD5 := w15 _ _ eD
  have rd5 := rd2.sm s35
  have efl5 := s35 _ _ efl2
  have tn5 := tn.ext s35
  have xn5 := xn.trans (ExtN.of s35)
  clear w5 w4 w13 w15 h3 h4 ent8 np1 np2 np nsl npl s35 s3 nD eD tn rd2 efl2 rs2 eva2
  refine ⟨pl, _, rfl, .inl epl, fun J hJ => ?_⟩
  refine for_seq hJ (fun i σ' H2 => ∃ x4 x5 x6, σ' = [some (.ref va), some (.int (R.length : Nat)), some (.ref fl), some (.ref ll), x4, x5, x6, some (.ref D), none, none, none, none] ∧ ExtN G5 H2 ∧ Tabs T H2) ?_ ?_ ?_ ?_
  · exact ⟨_, _, _, rfl, ExtN.refl _, tn5⟩
  · rintro i σ3 H3 _ ⟨_, _, _, _, x3, _⟩
    rw [x3 _ _ epl (fun _ z => nomatch z), epl]
  · rintro i x σ3 H3 hx ⟨x4, x5, x6, rfl, xp, tp⟩
    obtain ⟨e, re, O⟩ := ent x (List.mem_of_getElem? hx)
    have re3 := drX xp re
    have rd3 := drX xp rd5
    have efl3 := xp _ _ efl5 (fun _ z => nomatch z)
    refine ⟨_, rfl, fl, [f1, f2, f3, f4, f5].map V.ref, rfl, .inl efl3, fun J1 hJ1 D1 nD1 => ?_⟩
    refine lc_met (T := T) (a := "part") (v := x) (fs := [f1, f2, f3, f4, f5]) hJ1 nD1 tp (by show 5 ≤ lim; decide) (fun _ => rfl) (fun f0 H4 Q' hf xa ta q' => ?_) fun H4 ps xa ta nq lps F => ?_
    · refine ⟨ta, fun H5 xb tb => ?_⟩
      refine ⟨f0, hf, rfl, _, rfl, _, rfl, .ref va, x, rowsD R, e, rfl, drX (xa.trans xb) rd3, wdR, drX (xa.trans xb) re3, (fun R1 z => by obtain ⟨rfl, _⟩ := WR'.scan.det z; exact ⟨hsum, O.no⟩), (fun R1 m1 x1 dx H6 z s6 nd hx => absurd (WR'.scan.det z).2 (nf _ _)), fun R1 dx H6 z hp s6 nd hx => .inr (.inl ⟨rfl, dx, _, _, rfl, hx, rfl, fun p np => ?_⟩)⟩
      exact q' H5 H6 p xb tb s6 np
    refine ⟨_, rfl, sz2, fun l1 nl1 => ⟨sz1, fun l2 nl2 => ?_⟩⟩
    have u1 := Sm.new (o := .lst [.str "part", x]) nl1
    have u2 := Sm.new (o := .lst [.ref l1]) nl2
    refine ⟨l2, 5, _, rfl, rfl, upd_same, by decide, by decide, (by show 5 ≤ sizeLine; decide), fun l3 nl3 => ?_⟩
    have u3 := Sm.new (o := .lst (List.replicate (5 : Int).toNat [.ref l1]).flatten) nl3
    have uA := (u1.trans u2).trans u3
    have re6 := (drX xa re3).sm uA
    have dF := (F.x (ExtN.of uA)).dr (e := e) re6
    rw [show ps.length = 5 from lps] at dF
    refine .inl ⟨_, _, .list (List.replicate 5 (.list [.str "part", e])), rfl, dF, rep_dr (c := 5) (u3 _ _ (u2 _ _ upd_same)) re6 upd_same, rep_fit (by decide) O.fit (by decide), fun HE sE => ⟨_, rfl, iteF ?_⟩⟩
    exact ⟨_, _, _, rfl, xp.trans (xa.trans (ExtN.of (uA.trans sE))), ta.ext (uA.trans sE)⟩
  rintro σ' H2 ⟨x4, x5, x6, rfl, xp, tp⟩
  clear ent epl hJ
  have eD2 := xp _ _ eD5 (fun _ z => nomatch z)
  have rd6 := drX xp rd5
  clear rd5 efl5 tn5
  have xq0 : ExtN H H2 := ((ExtN.of s0n).trans xn5).trans xp
  -- odds = [None, 5, [], 'ab', {-1: True}, {many: True}, {'0': True}, {None: False}]
  refine ⟨(by show 0 ≤ sizeLine; decide), fun p1 np1 => ?_⟩
  have w1 := Sm.new (o := .lst []) np1
  have e1 : EntT P w R (upd H2 p1 (.lst [])) (.ref p1) := .inr (.inr (.inr (.inl ⟨p1, rfl, upd_same⟩)))
  generalize upd H2 p1 (.lst []) = G1 at w1 e1 ⊢
  intro p2 np2
  obtain ⟨w2, e2⟩ := disp_one (k := Sum.inl (-1)) (v := .bl true) np2
  refine ⟨_, rfl, upd_same, [(Sum.inl (-1), .bl true)], rfl, (by show 1 ≤ 15; decide), ?_⟩
  have e2 : EntT P w R _ (.ref p2) := .inr (.inr (.inr (.inr ⟨p2, rfl, .inl ⟨_, _, _, e2, rfl, by decide +kernel, rfl⟩⟩)))
  generalize upd (upd G1 p2 (.dK [])) p2 (.dK (mergeK [] [(Sum.inl (-1), .bl true)])) = G2 at w2 e2 ⊢
  intro p3 np3
  obtain ⟨w3, e3⟩ := disp_one (k := Sum.inl (R.length : Int)) (v := .bl true) np3
  refine ⟨_, rfl, upd_same, [(Sum.inl (R.length : Int), .bl true)], rfl, (by show 1 ≤ 15; decide), ?_⟩
  have e3 : EntT P w R _ (.ref p3) := .inr (.inr (.inr (.inr ⟨p3, rfl, .inl ⟨_, _, _, e3, rfl, dic_fit (by omega) rfl, by
    show (isAskedD R (.int (R.length : Nat)) && true) = false
    rw [isAskedD_nat, decide_eq_false (Nat.lt_irrefl _)]
    rfl⟩⟩)))
  generalize upd (upd G2 p3 (.dK [])) p3 (.dK (mergeK [] [(Sum.inl (R.length : Int), .bl true)])) = G3 at w3 e3 ⊢
  intro p4 np4
  obtain ⟨w4, e4⟩ := disp_one (k := Sum.inr "0") (v := .bl true) np4
  refine ⟨upd_same, [(Sum.inr "0", .bl true)], rfl, (by show 1 ≤ 15; decide), ?_⟩
  have e4 : EntT P w R _ (.ref p4) := .inr (.inr (.inr (.inr ⟨p4, rfl, .inl ⟨_, _, _, e4, rfl, by decide +kernel, rfl⟩⟩)))
  generalize upd (upd G3 p4 (.dK [])) p4 (.dK (mergeK [] [(Sum.inr (Str.ofString "0"), .bl true)])) = G4 at w4 e4 ⊢
  intro p5 np5
  obtain ⟨w5, e5⟩ := disp_nd (P := P) (w := w) (b := false) np5
  refine ⟨upd_same, false, rfl, ?_⟩
  have e5 : EntT P w R (upd (upd G4 p5 (.dK [])) p5 (ndO P w p5 false)) (.ref p5) := .inr (.inr (.inr (.inr ⟨p5, rfl, .inr ⟨false, e5⟩⟩)))
  refine ⟨(by show 8 ≤ sizeLine; decide), fun ol nol => ?_⟩
  have nol' : upd (upd G4 p5 (.dK [])) p5 (ndO P w p5 false) ol = none := nol
  have w6 := Sm.new (o := .lst [V.non, .int 5, .ref p1, .str "ab", .ref p2, .ref p3, .ref p4, .ref p5]) nol'
  have eol : upd (upd (upd G4 p5 (.dK [])) p5 (ndO P w p5 false)) ol (.lst [V.non, .int 5, .ref p1, .str "ab", .ref p2, .ref p3, .ref p4, .ref p5]) ol = some (.lst (V.non :: [.int 5, .ref p1, .str "ab", .ref p2, .ref p3, .ref p4, .ref p5])) := upd_same
  have eD6 := ((w1.trans (w2.trans (w3.trans (w4.trans w5)))).trans w6) _ _ eD2
  have w26 := (w1.trans (w2.trans (w3.trans (w4.trans w5)))).trans w6
  have ent8 : ∀ x ∈ V.non :: ([.int 5, .ref p1, .str "ab", .ref p2, .ref p3, .ref p4, .ref p5] : List V), EntT P w R (upd (upd (upd G4 p5 (.dK [])) p5 (ndO P w p5 false)) ol (.lst [V.non, .int 5, .ref p1, .str "ab", .ref p2, .ref p3, .ref p4, .ref p5])) x := by
    intro x hx
    simp only [List.mem_cons, List.not_mem_nil, or_false] at hx
    rcases hx with rfl | rfl | rfl | rfl | rfl | rfl | rfl | rfl
    · exact .inl rfl
    · exact .inr (.inl rfl)
    · exact e1.sm ((w2.trans (w3.trans (w4.trans w5))).trans w6)
    · exact .inr (.inr (.inl rfl))
    · exact e2.sm ((w3.trans (w4.trans w5)).trans w6)
    · exact e3.sm ((w4.trans w5).trans w6)
    · exact e4.sm (w5.trans w6)
    · exact e5.sm w6
  have nol2 : H2 ol = none := (w1.trans (w2.trans (w3.trans (w4.trans w5)))).free nol'
  generalize hzs : ([.int 5, .ref p1, .str "ab", .ref p2, .ref p3, .ref p4, .ref p5] : List V) = zs at eol ent8 eD6 w26 ⊢
  have lzs : zs.length = 7 := by rw [← hzs]; rfl
  clear hzs e1 e2 e3 e4 e5 w1 w2 w3 w4 w5 w6
  -- odds.extend(..)
  refine ⟨_, rfl, .inl ⟨rfl, _, SqL.of eol⟩, ?_⟩
  refine ⟨_, rfl, _, rfl, D, vN as, rfl, SqL.of eD6, fun q1 nq1 => ?_⟩
  rw [cv1]
  have y1 := Sm.new (o := .lst (vN (as.take 1))) nq1
  refine ⟨q1, _, rfl, .inl upd_same, fun J1 hJ1 D1 nD1 => ?_⟩
  refine lc_dic (v := .int 1) (fun _ => true) (.seq hJ1 (vints_dr _)) nD1 (by rw [List.length_take]; omega) (fun _ => rfl) (fun _ _ _ _ _ q' => q') (fun k G Q' hk s' q' => ?_) fun H7 Ts1 s7 eT1 lT1 al1 => ?_
  · intro T' nT
    obtain ⟨u1, u2⟩ := disp_one (k := Sum.inl (k : Int)) (v := .int 1) nT
    exact ⟨_, rfl, upd_same, [(Sum.inl (k : Int), .int 1)], rfl, (by show 1 ≤ 15; decide), q' T' _ u1 u2⟩
  have y17 := y1.trans s7
  have eD7 := y17 _ _ eD6
  refine ⟨_, rfl, _, rfl, D, vN as, rfl, SqL.of eD7, fun q2 nq2 => ?_⟩
  rw [cv1]
  have y2 := Sm.new (o := .lst (vN (as.take 1))) nq2
  refine ⟨q2, _, rfl, .inl upd_same, fun J2 hJ2 D2 nD2 => ?_⟩
  refine lc_dic (v := .non) (fun _ => true) (.seq hJ2 (vints_dr _)) nD2 (by rw [List.length_take]; omega) (fun _ => rfl) (fun _ _ _ _ _ q' => q') (fun k G Q' hk s' q' => ?_) fun H8 Ts2 s8 eT2 lT2 al2 => ?_
  · intro T' nT
    obtain ⟨u1, u2⟩ := disp_one (k := Sum.inl (k : Int)) (v := .non) nT
    exact ⟨_, rfl, upd_same, [(Sum.inl (k : Int), .non)], rfl, (by show 1 ≤ 15; decide), q' T' _ u1 u2⟩
  have y28 := y2.trans s8
  have lt1 : (as.take 1).length ≤ 1 := by rw [List.length_take]; omega
  refine ⟨D1, D2, _, _, rfl, rfl, y28 _ _ eT1, eT2, by rw [List.length_map, List.length_map]; omega, fun pc npc => ?_⟩
  have y9 := Sm.new (o := .lst (Ts1.map V.ref ++ Ts2.map V.ref)) npc
  have y69 := y17.trans (y28.trans y9)
  have eol9 := y69 _ _ eol
  refine ⟨ol, pc, _, _, rfl, rfl, eol9, upd_same, by simp [lzs]; omega, ?_⟩
  have bad1 : ∀ {k : Nat} {v : V} {d : PyData} {T' : Addr} {G : Hp}, k ∈ as.take 1 → plD v = some d → fit d 1 = true → isBV v = false → G T' = some (.dK [(Sum.inl (k : Int), v)]) → EntT P w R G (.ref T') := fun {k v d T' G} hk h1 h2 h3 e => .inr (.inr (.inr (.inr ⟨T', rfl, .inl ⟨_, _, d, e, h1, dic_fit (by have := (noA k (List.mem_of_mem_take hk)).2; omega) h2, by rw [h3, Bool.and_false]⟩⟩)))
  have ent9 : ∀ x ∈ V.non :: (zs ++ (Ts1.map V.ref ++ Ts2.map V.ref)), EntT P w R (upd (upd H8 pc (.lst (Ts1.map V.ref ++ Ts2.map V.ref))) ol (.lst (V.non :: zs ++ (Ts1.map V.ref ++ Ts2.map V.ref)))) x := by
    intro x hx
    rw [← List.cons_append] at hx
    rcases List.mem_append.mp hx with hx | hx
    · exact ((ent8 x hx).sm y69).upd eol9
    · rcases List.mem_append.mp hx with hx | hx
      · obtain ⟨T', hT', rfl⟩ := List.mem_map.mp hx
        obtain ⟨k, hk, _, e⟩ := al1 T' hT'
        exact ((bad1 hk rfl (by decide +kernel) rfl e).sm (y28.trans y9)).upd eol9
      · obtain ⟨T', hT', rfl⟩ := List.mem_map.mp hx
        obtain ⟨k, hk, _, e⟩ := al2 T' hT'
        exact ((bad1 hk rfl rfl rfl e).sm y9).upd eol9
  have eolA : upd (upd H8 pc (.lst (Ts1.map V.ref ++ Ts2.map V.ref))) ol (.lst (V.non :: zs ++ (Ts1.map V.ref ++ Ts2.map V.ref))) ol = some (.lst (V.non :: (zs ++ (Ts1.map V.ref ++ Ts2.map V.ref)))) := upd_same
  have s2A : Sm H2 (upd (upd H8 pc (.lst (Ts1.map V.ref ++ Ts2.map V.ref))) ol (.lst (V.non :: zs ++ (Ts1.map V.ref ++ Ts2.map V.ref)))) := fun b o e => by
    rw [upd_ne (ne_of_none e nol2)]
    exact y69 _ _ (w26 _ _ e)
  have lzA : (zs ++ (Ts1.map V.ref ++ Ts2.map V.ref)).length ≤ 20 := by
    rw [List.length_append, List.length_append, List.length_map, List.length_map]
    omega
  generalize zs ++ (Ts1.map V.ref ++ Ts2.map V.ref) = zA at ent9 eolA lzA
  generalize upd (upd H8 pc (.lst (Ts1.map V.ref ++ Ts2.map V.ref))) ol (.lst (V.non :: zs ++ (Ts1.map V.ref ++ Ts2.map V.ref))) = HA at ent9 eolA s2A ⊢
  clear ent8 eol eol9 y69 y9 y28 y17 al1 al2 eT1 eT2 s7 s8 y1 y2 nq1 nq2 nD1 nD2 hJ1 hJ2 eD7 eD6 npc w26 nol nol' cv1
  -- odds.extend([..][:2])
  have eDA := s2A _ _ eD2
  refine ⟨_, rfl, .inl ⟨rfl, _, SqL.of eolA⟩, ?_⟩
  have eNk : ((List.range R.length).map fun (k : Nat) => PyData.int (0 + (k : Int))) = nums (List.range R.length) := by
    refine List.map_congr_left fun k _ => ?_
    rw [Int.zero_add]
  refine ⟨_, rfl, _, rfl, by omega, by omega, fun D3 nD3 => ?_⟩
  have eDA' := eDA
  refine lc_dic (ks := List.range R.length) (v := .bl true) (fun k => !decide (k ∈ as)) (by rw [← eNk]; exact Walk.range) nD3 (by rw [List.length_range]; omega) (fun _ => rfl) (fun k G Q' hk s' q' => ?_) (fun k G Q' hk s' q' => ?_) fun H7 Ts3 s7 eT3 lT3 al3 => ?_
  · refine ⟨_, rfl, _, rfl, .int (k : Nat), nums as, .int _, .lst trivial (s' _ _ eDA) (vints_dr _), ⟨rfl, by simp [PyData.depth]⟩, nums_eqOk _, _, rfl, ?_⟩
    rw [if_neg Bool.false_ne_true, nums_any]
    exact q'
  · intro T' nT
    obtain ⟨u1, u2⟩ := disp_one (k := Sum.inl (k : Int)) (v := .bl true) nT
    exact ⟨_, rfl, upd_same, [(Sum.inl (k : Int), .bl true)], rfl, (by show 1 ≤ 15; decide), q' T' _ u1 u2⟩
  refine ⟨_, rfl, D3, Ts3.map V.ref, rfl, SqL.of eT3, fun sl nsl => ?_⟩
  have y1 := Sm.new (o := .lst (cutV (Ts3.map V.ref) none (some 2))) nsl
  have y7 := s7.trans y1
  have eolB := y7 _ _ eolA
  have lcut : (cutV (Ts3.map V.ref) none (some 2)).length ≤ 100 := by
    have h1 := cutV_length (Ts3.map V.ref) none (some 2)
    rw [List.length_map] at h1
    rw [List.length_range] at lT3
    omega
  refine ⟨ol, sl, _, _, rfl, rfl, eolB, upd_same, by simp; omega, ?_⟩
  have entB : ∀ x ∈ V.non :: (zA ++ cutV (Ts3.map V.ref) none (some 2)), EntT P w R (upd (upd H7 sl (.lst (cutV (Ts3.map V.ref) none (some 2)))) ol (.lst (V.non :: zA ++ cutV (Ts3.map V.ref) none (some 2)))) x := by
    intro x hx
    rw [← List.cons_append] at hx
    rcases List.mem_append.mp hx with hx | hx
    · exact ((ent9 x hx).sm y7).upd eolB
    · obtain ⟨T', hT', rfl⟩ := List.mem_map.mp (cutV_mem hx)
      obtain ⟨k, hk, hn, e⟩ := al3 T' hT'
      have hkR := List.mem_range.mp hk
      have e' : EntT P w R H7 (.ref T') := .inr (.inr (.inr (.inr ⟨T', rfl, .inl ⟨_, _, .bool true, e, rfl, dic_fit (by omega) rfl, by
        show (isAskedD R (.int (k : Nat)) && true) = false
        rw [isAskedD_nat, decide_eq_true hkR, Bool.true_and, Bool.and_true]
        cases ha : (rowAt R k).isAsked with
        | false => rfl
        | true => rw [decide_eq_true (hasA k hkR ha)] at hn; cases hn⟩⟩)))
      exact (e'.sm y1).upd eolB
  have eolC : upd (upd H7 sl (.lst (cutV (Ts3.map V.ref) none (some 2)))) ol (.lst (V.non :: zA ++ cutV (Ts3.map V.ref) none (some 2))) ol = some (.lst (V.non :: (zA ++ cutV (Ts3.map V.ref) none (some 2)))) := upd_same
  have s2C : Sm H2 (upd (upd H7 sl (.lst (cutV (Ts3.map V.ref) none (some 2)))) ol (.lst (V.non :: zA ++ cutV (Ts3.map V.ref) none (some 2)))) := fun b o e => by
    rw [upd_ne (ne_of_none e nol2)]
    exact y7 _ _ (s2A _ _ e)
  generalize V.non :: (zA ++ cutV (Ts3.map V.ref) none (some 2)) = ents at entB eolC
  generalize upd (upd H7 sl (.lst (cutV (Ts3.map V.ref) none (some 2)))) ol (.lst (V.non :: zA ++ cutV (Ts3.map V.ref) none (some 2))) = HC at entB eolC s2C ⊢
  clear ent9 eolA eolB y7 y1 s7 al3 eT3 lT3 nsl nD3 s2A eDA eDA' lcut
  have tC := tp.ext s2C
  have rdC := rd6.sm s2C
  have xC := xq0.trans (ExtN.of s2C)
  -- for odd in odds
  refine ⟨_, rfl, ol, _, rfl, .inl eolC, fun J hJ => ?_⟩
  refine for_seq hJ (fun i σ' H3 => ∃ x4, σ' = [some (.ref va), some (.int (R.length : Nat)), some (.ref fl), some (.ref ll), x4, x5, x6, some (.ref D), some (.ref ol), none, none, none] ∧ ExtN HC H3 ∧ Tabs T H3) ?_ ?_ ?_ ?_
  · exact ⟨_, rfl, ExtN.refl _, tC⟩
  · rintro i σ3 H3 _ ⟨_, _, x3, _⟩
    rw [x3 _ _ eolC (fun _ z => nomatch z), eolC]
  · rintro i x σ3 H3 hx ⟨x4, rfl, xz, tz⟩
    have en := (entB x (List.mem_of_getElem? hx)).x xz
    have rd3 := drX xz rdC
    refine ⟨tz, fun H5 xb tb => ?_⟩
    have en5 := en.x xb
    refine ⟨_, rfl, _, rfl, .ref va, x, rowsD R, rfl, drX xb rd3, wdR, (fun R1 m1 x1 dx H6 z s6 nd hx => absurd (WR'.scan.det z).2 (nf _ _)), fun R1 z => ?_⟩
    obtain ⟨rfl, _⟩ := WR'.scan.det z
    refine .inr ⟨en5.tr, fun dx H6 s6 nd hx => .inr (.inr ⟨rfl, dx, _, _, rfl, hx, rfl, fun p np => ?_⟩)⟩
    have u1 := Sm.new (o := .lst [.str "truths", x]) np
    have ep : upd H6 p (.lst [.str "truths", x]) p = some (.lst [.str "truths", x]) := upd_same
    generalize upd H6 p (.lst [.str "truths", x]) = H7 at u1 ep ⊢
    refine ⟨_, rfl, sz2, fun l1 nl1 => ?_⟩
    have u2 := Sm.new (o := .lst [.str "truths", x]) nl1
    have el : upd H7 l1 (.lst [.str "truths", x]) l1 = some (.lst [.str "truths", x]) := upd_same
    have ep2 := u2 _ _ ep
    have s58 := s6.trans (u1.trans u2)
    generalize upd H7 l1 (.lst [.str "truths", x]) = H8 at u2 el ep2 s58 ⊢
    have en8 := en5.sm s58
    have fin : ∀ HE, Sm H8 HE → ∃ x4, ([some (.ref va), some (.int (R.length : Nat)), some (.ref fl), some (.ref ll), some x, x5, x6, some (.ref D), some (.ref ol), none, none, none] : L2.St) = [some (.ref va), some (.int (R.length : Nat)), some (.ref fl), some (.ref ll), x4, x5, x6, some (.ref D), some (.ref ol), none, none, none] ∧ ExtN HC HE ∧ Tabs T HE := fun HE sE => ⟨_, rfl, xz.trans (xb.trans (ExtN.of (s58.trans sE))), tb.ext (s58.trans sE)⟩
    have data : ∀ {e : PyData} (Q' : VK) (E' : XK), Dr All H8 x e → K8.fit (.list [.str "truths", e]) 6 = true → (∀ HE, Sm H8 HE → Q' (.bl true) HE) → spSameU P w 7 [.ref p, .ref l1] H8 Q' E' := fun {e} Q' E' r hf k =>
      .inl ⟨_, _, .list [.str "truths", e], rfl, .lst trivial ep2 (.cons (.str _) (.one r)), .lst trivial el (.cons (.str _) (.one r)), hf, k⟩
    have same : ∀ (Q' : VK) (E' : XK), (∀ HE, Sm H8 HE → Q' (.bl true) HE) → spSameU P w 7 [.ref p, .ref l1] H8 Q' E' := fun Q' E' k => by
      rcases en8 with rfl | rfl | rfl | ⟨p1, rfl, e1⟩ | ⟨a, rfl, t⟩
      · exact data Q' E' .non (by decide +kernel) k
      · exact data Q' E' (.int 5) (by decide +kernel) k
      · exact data Q' E' (.str "ab") (by decide +kernel) k
      · exact data Q' E' (.lst trivial e1 .nil) (by decide +kernel) k
      · exact .inr (.inr ⟨by decide, p, l1, a, "truths", rfl, ep2, el, by decide +kernel, t.td, k⟩)
    exact same _ _ fun HE sE => ⟨_, rfl, iteF (fin HE sE)⟩
  · rintro σ' H3 ⟨x4, rfl, xz, tz⟩
    exact q H3 (xC.trans xz) tz
end
end K8
/-! Webs that double: no Python here. -/
namespace K8
open PySem PySem.Spec PyProof.Rows L2 WR
theorem rowAt_map {g : Nat → Row} {N k : Nat} (h : k < N) : rowAt ((List.range N).map g) k = g k := by
  rw [rowAt_get (by simpa using h)]
  simp
theorem why_made {g : Nat → Row} (hg : ∀ k, (g k).isAsked = false) {i : Nat} {x : Str} {ks : List Nat} (h : ∀ k ∈ ks, k < i) : why ((List.range i).map g) (.made x ks) = none := by
  refine why_none.mpr ⟨fun k hk => by simpa using h k hk, rfl, fun k hk => ?_, rfl⟩
  have hk' := h k hk
  unfold isPart
  rw [rowAt_map hk', hg, decide_eq_true (by simpa using hk')]
  rfl
theorem web_map {g : Nat → Row} : ∀ {N : Nat}, (∀ i, i < N → (g i).ok) → (∀ i, i < N → why ((List.range i).map g) (g i) = none) → (∀ i j, i < N → j < i → g j ≠ g i) → Web ((List.range N).map g)
  | 0, _, _, _ => Web.nil
  | N + 1, h1, h2, h3 => by
    rw [List.range_succ, List.map_append]
    refine Web.snoc (web_map (fun i hi => h1 i (by omega)) (fun i hi => h2 i (by omega)) fun i j hi hj => h3 i j (by omega) hj) (h1 N (by omega)) (h2 N (by omega)) fun hm => ?_
    obtain ⟨j, hj, e⟩ := List.mem_map.mp hm
    exact h3 N j (by omega) (List.mem_range.mp hj) e
def dblR : Nat → Row
  | 0 => .made "f" []
  | i + 1 => .made "f" [i, i]
def webR (m : Nat) : List Row := (List.range (m + 1)).map dblR
def webT (m : Nat) : List Row := webR m ++ [.asked "t" [m, m]]
def webU (m : Nat) : List Row := webT m ++ [.either (m + 1) m 0]
def webV (m : Nat) : List Row := webU m ++ [.made "g" [m + 2, 0]]
theorem webR_len (m : Nat) : (webR m).length = m + 1 := by simp [webR]
theorem webT_len (m : Nat) : (webT m).length = m + 2 := by simp [webT, webR_len]
theorem webU_len (m : Nat) : (webU m).length = m + 3 := by simp [webU, webT_len]
theorem webV_len (m : Nat) : (webV m).length = m + 4 := by simp [webV, webU_len]
theorem webR_form (m : Nat) : webR m = .made "f" [] :: (List.range m).map fun i => Row.made "f" [i, i] := by
  unfold webR
  rw [List.range_succ_eq_map, List.map_cons, List.map_map]
  rfl
theorem dblR_na (k : Nat) : (dblR k).isAsked = false := by cases k <;> rfl
theorem dblR_made (k : Nat) : (dblR k).isMade = true := by cases k <;> rfl
theorem dblR_ne (k : Nat) : (dblR k).isEither = false := by cases k <;> rfl
theorem webR_web (m : Nat) : Web (webR m) := by
  have l : lim = 4000 := rfl
  refine web_map (fun i _ => ?_) (fun i _ => ?_) fun i j _ hj e => ?_
  · cases i with
    | zero => exact ⟨by decide +kernel, by show 0 ≤ lim; omega⟩
    | succ i => exact ⟨by decide +kernel, by show 2 ≤ lim; omega⟩
  · cases i with
    | zero => exact why_made dblR_na fun k hk => nomatch hk
    | succ i => exact why_made dblR_na fun k hk => by simp at hk; omega
  · cases i with
    | zero => omega
    | succ i => cases j with
      | zero => simp [dblR] at e
      | succ j => simp [dblR] at e; omega
theorem webR_at {m k : Nat} (h : k ≤ m) : rowAt (webR m) k = dblR k := rowAt_map (by omega)
theorem webT_at {m k : Nat} (h : k ≤ m) : rowAt (webT m) k = dblR k := by
  unfold webT
  rw [rowAt_app (by rw [webR_len]; omega), webR_at h]
theorem webT_ask (m : Nat) : rowAt (webT m) (m + 1) = .asked "t" [m, m] := by
  have := rowAt_last (webR m) (.asked "t" [m, m])
  rwa [webR_len] at this
theorem webU_old {m k : Nat} (h : k ≤ m + 1) : rowAt (webU m) k = rowAt (webT m) k := by
  unfold webU
  rw [rowAt_app (by rw [webT_len]; omega)]
theorem webU_ei (m : Nat) : rowAt (webU m) (m + 2) = .either (m + 1) m 0 := by
  have := rowAt_last (webT m) (.either (m + 1) m 0)
  rwa [webT_len] at this
theorem webV_old {m k : Nat} (h : k ≤ m + 2) : rowAt (webV m) k = rowAt (webU m) k := by
  unfold webV
  rw [rowAt_app (by rw [webU_len]; omega)]
theorem webV_g (m : Nat) : rowAt (webV m) (m + 3) = .made "g" [m + 2, 0] := by
  have := rowAt_last (webU m) (.made "g" [m + 2, 0])
  rwa [webU_len] at this
theorem webV_at {m k : Nat} (h : k ≤ m) : rowAt (webV m) k = dblR k := by rw [webV_old (by omega), webU_old (by omega), webT_at h]
theorem webV_ask (m : Nat) : rowAt (webV m) (m + 1) = .asked "t" [m, m] := by rw [webV_old (by omega), webU_old (by omega), webT_ask]
theorem webV_ei (m : Nat) : rowAt (webV m) (m + 2) = .either (m + 1) m 0 := by rw [webV_old (by omega), webU_ei]
theorem isPart_of {R : List Row} {k : Nat} (h : k < R.length) (h2 : (rowAt R k).isAsked = false) : isPart R k = true := by
  unfold isPart
  rw [decide_eq_true h, h2]
  rfl
theorem webR_mem {m : Nat} {r : Row} (h : r ∈ webR m) : ∃ ks, r = .made "f" ks := by
  obtain ⟨k, _, rfl⟩ := List.mem_map.mp h
  cases k with
  | zero => exact ⟨_, rfl⟩
  | succ k => exact ⟨_, rfl⟩
theorem gf : ¬ ((("g" : Str)) = "f") := by decide +kernel
theorem g_new {m : Nat} {ks : List Nat} : Row.made "g" ks ∉ webT m := fun h => by
  rcases List.mem_append.mp h with z | z
  · obtain ⟨js, e⟩ := webR_mem z
    simp only [Row.made.injEq] at e
    exact gf e.1
  · rw [List.mem_singleton] at z
    cases z
theorem webT_web (m : Nat) : Web (webT m) := by
  have l : lim = 4000 := rfl
  refine (webR_web m).snoc ⟨by decide +kernel, by show 2 ≤ lim; omega⟩ (why_none.mpr ⟨fun k hk => ?_, rfl, fun k hk => ?_, rfl⟩) fun h => ?_
  · simp [Row.named] at hk
    rw [webR_len]
    omega
  · have hk' : k = m := by
      simp [Row.parts, Row.named] at hk
      exact hk
    subst hk'
    exact isPart_of (by rw [webR_len]; omega) (by rw [webR_at (Nat.le_refl _)]; exact dblR_na _)
  · obtain ⟨ks, e⟩ := webR_mem h
    cases e
theorem webU_web {m : Nat} (hm : 1 ≤ m) : Web (webU m) := by
  refine (webT_web m).snoc trivial (why_either ⟨by rw [webT_ask]; rfl, by rw [webT_len]; omega⟩ ⟨isPart_of (by rw [webT_len]; omega) (by rw [webT_at (Nat.le_refl _)]; exact dblR_na _), by rw [webT_len]; omega⟩ ⟨isPart_of (by rw [webT_len]; omega) (by rw [webT_at (Nat.zero_le _)]; exact dblR_na _), by rw [webT_len]; omega⟩ (by omega)) fun h => ?_
  rcases List.mem_append.mp h with z | z
  · obtain ⟨ks, e⟩ := webR_mem z
    cases e
  · rw [List.mem_singleton] at z
    cases z
theorem webV_web {m : Nat} (hm : 1 ≤ m) : Web (webV m) := by
  have l : lim = 4000 := rfl
  refine (webU_web hm).snoc ⟨by decide +kernel, by show 2 ≤ lim; omega⟩ (why_none.mpr ⟨fun k hk => ?_, rfl, fun k hk => ?_, rfl⟩) fun h => ?_
  · simp [Row.named] at hk
    rw [webU_len]
    omega
  · have hk' : k = m + 2 ∨ k = 0 := by
      simp [Row.parts, Row.named] at hk
      exact hk
    rcases hk' with rfl | rfl
    · exact isPart_of (by rw [webU_len]; omega) (by rw [webU_ei]; rfl)
    · exact isPart_of (by rw [webU_len]; omega) (by rw [webU_old (by omega), webT_at (Nat.zero_le _)]; exact dblR_na _)
  · rcases List.mem_append.mp h with z | z
    · exact g_new z
    · rw [List.mem_singleton] at z
      cases z
theorem webV_part {m k : Nat} (h : k ≤ m + 3) (hk : k ≠ m + 1) : isPart (webV m) k = true := by
  refine isPart_of (by rw [webV_len]; omega) ?_
  by_cases h1 : k ≤ m
  · rw [webV_at h1]
    exact dblR_na _
  · by_cases h2 : k = m + 2
    · rw [h2, webV_ei]
      rfl
    · rw [show k = m + 3 by omega, webV_g]
      rfl
theorem webV_base (m : Nat) : ∀ r ∈ webV m, r.base := fun r hr => by
  simp only [webV, webU, webT, List.mem_append, List.mem_singleton] at hr
  rcases hr with ((z | rfl) | rfl) | rfl
  · obtain ⟨k, _, rfl⟩ := List.mem_map.mp z
    cases k with
    | zero => exact Nat.zero_le _
    | succ k => exact (by decide : 2 ≤ 3)
  · exact (by decide : 2 ≤ 3)
  · trivial
  · exact (by decide : 2 ≤ 3)
theorem webV_sum {m : Nat} (hm : m ≤ 1000) : sumN (webV m) [] ≤ 900000 := by
  have := sumN_le (R := webV m) (c := 3) (fun k hk => Row.base_named (webV_base m _ (rowAt_mem hk))) []
  rw [webV_len] at this
  omega
/-! ### cones -/
theorem dbl_down (m : Nat) {tips : List Nat} (h0 : Rch (webV m) tips m) : ∀ k, k ≤ m → Rch (webV m) tips k := by
  have key : ∀ d, d ≤ m → Rch (webV m) tips (m - d) := by
    intro d
    induction d with
    | zero => exact fun _ => h0
    | succ d ih =>
      intro hd
      refine .step (ih (by omega)) ?_
      rw [webV_at (by omega)]
      have : m - d = (m - (d + 1)) + 1 := by omega
      rw [this]
      exact List.mem_cons_self ..
  intro k hk
  have := key (m - k) (by omega)
  rwa [show m - (m - k) = k by omega] at this
theorem cone_m (m : Nat) : IsCone (webV m) [m] (List.range (m + 1)) := by
  refine ⟨List.pairwise_lt_range, fun k => ⟨fun hk => dbl_down m (.tip (List.mem_singleton.mpr rfl)) k (by have := List.mem_range.mp hk; omega), fun h => List.mem_range.mpr ?_⟩⟩
  have key : k ≤ m := by
    induction h with
    | tip z => rw [List.mem_singleton.mp z]; exact Nat.le_refl _
    | step z hj ih =>
      rename_i k j
      rw [webV_at ih] at hj
      cases k with
      | zero => cases hj
      | succ k => simp [dblR, Row.named] at hj; omega
  omega
theorem cone_l {m : Nat} (hm : 1 ≤ m) : IsCone (webV m) [m + 3] (List.range (m + 4)) := by
  have t3 : Rch (webV m) [m + 3] (m + 3) := .tip (List.mem_singleton.mpr rfl)
  have t2 : Rch (webV m) [m + 3] (m + 2) := .step t3 (by rw [webV_g]; exact List.mem_cons_self ..)
  have t1 : Rch (webV m) [m + 3] (m + 1) := .step t2 (by rw [webV_ei]; exact List.mem_cons_self ..)
  have t0 : Rch (webV m) [m + 3] m := .step t1 (by rw [webV_ask]; exact List.mem_cons_self ..)
  refine ⟨List.pairwise_lt_range, fun k => ⟨fun hk => ?_, fun h => List.mem_range.mpr ?_⟩⟩
  · have hk' := List.mem_range.mp hk
    by_cases h : k ≤ m
    · exact dbl_down m t0 k h
    · by_cases h1 : k = m + 1
      · rw [h1]; exact t1
      · by_cases h2 : k = m + 2
        · rw [h2]; exact t2
        · rw [show k = m + 3 by omega]; exact t3
  · have := h.lt (webV_web hm) fun k hk => by rw [List.mem_singleton.mp hk, webV_len]; omega
    rwa [webV_len] at this
theorem made_m (m : Nat) : ((List.range (m + 1)).filter fun j => (rowAt (webV m) j).isMade).length = m + 1 := by
  rw [List.filter_eq_self.mpr fun k hk => by rw [webV_at (by have := List.mem_range.mp hk; omega)]; exact dblR_made _, List.length_range]
theorem asked_l (m : Nat) : ((List.range (m + 4)).filter fun j => (rowAt (webV m) j).isAsked) = [m + 1] := by
  have e : List.range (m + 4) = List.range (m + 1) ++ [m + 1, m + 2, m + 3] := by
    rw [List.range_succ, List.range_succ, List.range_succ]
    simp
  rw [e, List.filter_append, List.filter_eq_nil_iff.mpr fun k hk => by rw [webV_at (by have := List.mem_range.mp hk; omega), dblR_na]; simp]
  simp [webV_ask, webV_ei, webV_g, Row.isAsked]
/-! ### measures -/
theorem depth_v {m : Nat} (hm : 1 ≤ m) : ∀ k, k ≤ m → fL (measG maxL (webV m)) k = k + 1
  | 0, _ => by
    rw [meas_at (webV_web hm) (by rw [webV_len]; omega), webV_at (Nat.zero_le _)]
    rfl
  | k + 1, h => by
    rw [meas_at (webV_web hm) (by rw [webV_len]; omega), webV_at h]
    have ih := depth_v hm k (by omega)
    show 1 + maxL [fL (measG maxL (webV m)) k, fL (measG maxL (webV m)) k] = _
    rw [ih]
    simp only [maxL, Nat.max_def]
    split <;> (try split) <;> omega
theorem tree_v {m : Nat} (hm : 1 ≤ m) : ∀ k, k ≤ m → fL (measG List.sum (webV m)) k + 1 = 2 ^ (k + 1)
  | 0, _ => by
    rw [meas_at (webV_web hm) (by rw [webV_len]; omega), webV_at (Nat.zero_le _)]
    rfl
  | k + 1, h => by
    rw [meas_at (webV_web hm) (by rw [webV_len]; omega), webV_at h]
    have ih := tree_v hm k (by omega)
    show 1 + List.sum [fL (measG List.sum (webV m)) k, fL (measG List.sum (webV m)) k] + 1 = _
    simp only [List.sum_cons, List.sum_nil]
    rw [Nat.pow_succ]
    omega
theorem tree_l {m : Nat} (hm : 1 ≤ m) : fL (measG List.sum (webV m)) (m + 3) = 3 * (2 ^ (m + 1) - 1) + 3 := by
  have w := webV_web hm
  have t0 := tree_v hm 0 (by omega)
  have tm := tree_v hm m (by omega)
  have a1 : fL (measG List.sum (webV m)) (m + 1) = fL (measG List.sum (webV m)) m + fL (measG List.sum (webV m)) m := by
    rw [meas_at w (by rw [webV_len]; omega), webV_ask]
    show 0 + List.sum [_, _] = _
    simp
  have a2 : fL (measG List.sum (webV m)) (m + 2) = fL (measG List.sum (webV m)) (m + 1) + fL (measG List.sum (webV m)) m + fL (measG List.sum (webV m)) 0 := by
    rw [meas_at w (by rw [webV_len]; omega), webV_ei]
    show 0 + List.sum [_, _, _] = _
    simp only [List.sum_cons, List.sum_nil]
    omega
  rw [meas_at w (by rw [webV_len]; omega), webV_g]
  show 1 + List.sum [fL (measG List.sum (webV m)) (m + 2), fL (measG List.sum (webV m)) 0] = _
  simp only [List.sum_cons, List.sum_nil]
  omega
/-! ### decided -/
theorem fL_range {n k : Nat} (h : k < n) : fL (List.range n) k = k := by
  unfold fL
  rw [List.getD_eq_getElem?_getD, List.getElem?_range h]
  rfl
theorem dec_same {t : Nat → Option Bool} {S : List Row} (W : Web S) (h : ∀ r ∈ S, r.isEither = false) : ∀ m, m ≤ S.length → dec t (S.take m) = (S.take m, List.range m)
  | 0, _ => by
    rw [List.take_zero]
    rfl
  | m + 1, hm => by
    have ih := dec_same (t := t) W h m (by omega)
    have at_ := W.at_ (show m < S.length by omega)
    have ahead := W.ahead (show m < S.length by omega)
    rw [rowAt_get (by omega)] at at_ ahead
    have hr := h S[m] (List.getElem_mem _)
    have np : decPlace t (dec t (S.take m)).2 S[m] = none := by
      cases e : S[m] with
      | either a i j => rw [e] at hr; cases hr
      | _ => rfl
    rw [take_snoc (by omega), dec_snoc, decStep_none np, ih]
    have el : S[m].led (fL (List.range m)) = S[m] := Row.led_self fun k hk => fL_range (ahead k hk)
    dsimp only
    rw [el, idxOf_new at_.2.1, List.length_take, Nat.min_eq_left (by omega), List.range_succ]
    unfold newRows
    rw [if_neg at_.2.1]
theorem dec_all {t : Nat → Option Bool} {S : List Row} (W : Web S) (h : ∀ r ∈ S, r.isEither = false) : dec t S = (S, List.range S.length) := by
  have := dec_same (t := t) W h S.length (Nat.le_refl _)
  rwa [List.take_length] at this
theorem dec_T (t : Nat → Option Bool) (m : Nat) : dec t (webT m) = (webT m, List.range (m + 2)) := by
  have := dec_all (t := t) (webT_web m) fun r hr => by
    rcases List.mem_append.mp hr with z | z
    · obtain ⟨k, _, rfl⟩ := List.mem_map.mp z
      exact dblR_ne k
    · rw [List.mem_singleton.mp z]
      rfl
  rwa [webT_len] at this
/-- what is decided of the doublings where the test has a side -/
theorem dec_side {t : Nat → Option Bool} {m : Nat} {b : Bool} (ht : t (m + 1) = some b) : dec t (webV m) = (webT m ++ [.made "g" [if b = true then m else 0, 0]], List.range (m + 2) ++ [if b = true then m else 0, m + 2]) := by
  have p1 : decPlace t (dec t (webT m)).2 (.either (m + 1) m 0) = some (if b = true then m else 0) := by
    rw [decPlace_either, ht, dec_T]
    dsimp only
    cases b with
    | true =>
      show some (fL (List.range (m + 2)) m) = some m
      rw [fL_range (by omega)]
    | false =>
      show some (fL (List.range (m + 2)) 0) = some 0
      rw [fL_range (by omega)]
  unfold webV webU
  rw [dec_snoc, dec_snoc, decStep_some p1, decStep_none rfl, dec_T]
  dsimp only
  have el : (Row.made "g" [m + 2, 0]).led (fL (List.range (m + 2) ++ [if b = true then m else 0])) = .made "g" [if b = true then m else 0, 0] := by
    have h1 := fL_last (List.range (m + 2)) (if b = true then m else 0)
    rw [List.length_range] at h1
    show Row.made "g" [_, _] = _
    rw [h1, fL_app (by rw [List.length_range]; omega), fL_range (by omega)]
  rw [el, idxOf_new g_new, webT_len]
  unfold newRows
  rw [if_neg g_new, List.append_assoc]
  rfl
/-- .. and where it has none -/
theorem dec_none {t : Nat → Option Bool} {m : Nat} (hm : 1 ≤ m) (ht : t (m + 1) = none) : dec t (webV m) = (webV m, List.range (m + 4)) := by
  have p1 : decPlace t (dec t (webT m)).2 (.either (m + 1) m 0) = none := by
    rw [decPlace_either, ht, dec_T]
    dsimp only
    rw [fL_range (by omega), fL_range (by omega), if_neg (by omega)]
  have eU : dec t (webU m) = (webU m, List.range (m + 3)) := by
    unfold webU
    rw [dec_snoc, decStep_none p1, dec_T]
    dsimp only
    have el : (Row.either (m + 1) m 0).led (fL (List.range (m + 2))) = .either (m + 1) m 0 := Row.led_self fun k hk => fL_range (by simp [Row.named] at hk; omega)
    have nw : Row.either (m + 1) m 0 ∉ webT m := (webU_web hm).init.2.2.1
    rw [el, idxOf_new nw, webT_len, ← List.range_succ]
    unfold newRows
    rw [if_neg nw]
  unfold webV
  rw [dec_snoc, decStep_none rfl, eU]
  dsimp only
  have el : (Row.made "g" [m + 2, 0]).led (fL (List.range (m + 3))) = .made "g" [m + 2, 0] := Row.led_self fun k hk => fL_range (by simp [Row.named] at hk; omega)
  have nw : Row.made "g" [m + 2, 0] ∉ webU m := (webV_web hm).init.2.2.1
  rw [el, idxOf_new nw, webU_len, ← List.range_succ]
  unfold newRows
  rw [if_neg nw]
/-! ### as data -/
def tupF (d : PyData) : PyData := .tuple [.str "made", .str "f", .tuple [d, d]]
theorem webV_data (m : Nat) : rowsD (webV m) = .list (((.tuple [.str "made", .str "f", .tuple []] :: ((List.range m).map fun (k : Nat) => PyData.int (0 + (k : Int))).map tupF) ++ [.tuple [.str "asked", .str "t", .tuple [.int (m : Nat), .int (m : Nat)]]]) ++ [.tuple [.str "either", .int ((m : Int) + 1), .int (m : Nat), .int 0], .tuple [.str "made", .str "g", .tuple [.int ((m : Int) + 2), .int 0]]]) := by
  unfold rowsD webV webU webT
  rw [List.map_append, List.map_append, List.map_append, webR_form, List.map_cons, List.map_map, List.map_map, List.append_assoc]
  refine congrArg PyData.list (congrArg (fun l => List.cons _ l ++ [_] ++ [_, _]) (List.map_congr_left fun k _ => ?_))
  show PyData.tuple [_, _, .tuple [.int (k : Nat), .int (k : Nat)]] = PyData.tuple [_, _, .tuple [.int (0 + (k : Int)), .int (0 + (k : Int))]]
  rw [Int.zero_add]
theorem webT_data (m : Nat) : (webT m).map Row.d = ((webV m).map Row.d).take (m + 2) := by
  unfold webV webU
  rw [List.append_assoc, List.map_append, List.take_left' (by rw [List.length_map, webT_len])]
end K8

/-! More expressions that yield data: decided itself, slices of lists, displays of truths. -/
namespace K8
open PySem PySem.Spec PyProof.Rows L2 WR LamX
section
variable {N N' : Addr → Prop} {C : Hp → Prop} {σ : L2.St} {K : PySem.W.Frag} {te tb : TE} {ta : TA} {d e : PyData} {ds es : List PyData} {D : Ends} {g : TG} {rest t u : TS} {H : Hp} {Q : VK}
theorem Yo.addy {j : Nat} {i y : Int} (h : σ[j]? = some (some (.int i))) : Yo C σ (tPart (tOp (rI0 fun i j => .int (i + j)) (tVar j) (tC (.int y)))) (some (i + y)) := fun H Q _ q => ⟨_, h, _, _, rfl, rfl, _, rfl, q H Sm.rfl'⟩
theorem Yd.slL (Y : Cy N C) {tl th : TO} {lo hi : Option Int} (a : Yd N C σ te (.list ds)) (hl : Yo C σ tl lo) (hh : Yo C σ th hi) : Yd N C σ (tSl (rSlL K) te tl th) (.list (cutA ds lo hi)) :=
  fun H Q c q => a H _ c fun v H1 s1 r1 => hl H1 _ (Y.sm _ _ s1 c) fun H2 s2 => hh H2 _ (Y.sm _ _ (s1.trans s2) c) fun H3 s3 => by
    have s13 := s2.trans s3
    have r3 := r1.sm s13
    cases r3 with
    | lst n3 e3 a3 =>
      refine ⟨_, _, rfl, SqL.of e3, fun p np => q _ _ ((s1.trans s13).trans (Sm.new np)) (.lst (Y.new _ _ (Y.sm _ _ (s1.trans s13) c) np) upd_same ((a3.cut lo hi).sm (Sm.new np)))⟩
/-- what yields truths by index -/
def Yt (C : Hp → Prop) (σ : L2.St) (te : TE) (ts : List (Nat × Bool)) : Prop := ∀ H Q, C H → (∀ p H', Sm H H' → H' p = some (.dK (tV ts)) → Q (.ref p) H') → te σ H Q
theorem Yt.no : Yt C σ tDNewK [] := fun H Q _ q p np => q _ _ (Sm.new np) upd_same
theorem Yt.one {k : Nat} {b : Bool} : Yt C σ (tDisp [(tC (.int (k : Nat)), tC (.bl b))]) [(k, b)] := fun H Q _ q p np =>
  ⟨upd_same, [(Sum.inl (k : Int), .bl b)], rfl, (by show 1 ≤ 15; decide), q _ _ (disp_one np).1 (disp_one np).2⟩
theorem Yt.add {k i : Nat} {b : Bool} (h : σ[i]? = some (some (.int (k : Nat)))) : Yt C σ (tDisp [(tOp (rI0 fun i j => .int (i + j)) (tVar i) (tC (.int 1)), tC (.bl b))]) [(k + 1, b)] := fun H Q _ q p np =>
  ⟨_, h, _, _, rfl, rfl, upd_same, [(Sum.inl ((k : Int) + 1), .bl b)], rfl, (by show 1 ≤ 15; decide), q _ _ (disp_one np).1 (disp_one np).2⟩
/-- decided(web, truths) of right ones -/
theorem Yd.dec {P : Program} {w : World} {CW CT : Addr} {E : XK} {R : List Row} {ts : List (Nat × Bool)} (Y : Cy N C) (W : Web R) (wdR : WR.wd (rowsD R) = true) (tok : TsOk R ts) (a : Yd N' C σ te (rowsD R)) (b : Yt C σ tb ts) :
    Yd N C σ (tCall (spDecided P w CW CT) [] E (tCons te (tCons tb tNil))) (pairD (dec (tF ts) R).1 (dec (tF ts) R).2) :=
  fun H Q c q => a H _ c fun v H1 s1 r1 => b H1 _ (Y.sm _ _ s1 c) fun p H2 s2 e2 => ⟨v, .ref p, rowsD R, rfl, (r1.sm s2).all, wdR, (fun R' n x dx H' z _ _ _ => absurd (W.scan.det z).2 (nf _ _)), fun R' z => by
    obtain ⟨rfl, _⟩ := W.scan.det z
    exact .inl ⟨p, ts, rfl, e2, tok, fun pp H3 s3 t3 => q _ _ ((s1.trans s2).trans s3) (t3.dr.wide fun a ha => Y.new _ _ (Y.sm _ _ (s1.trans s2) c) ha)⟩⟩
theorem cy_sm (H0 : Hp) : Cy All (Sm H0) := ⟨fun _ _ s c => c.trans s, fun _ _ _ _ => trivial⟩
theorem cy_ne {H0 : Hp} {l : Addr} {o : HO} (e : H0 l = some o) : Cy (Ne l) (Sm H0) := ⟨fun _ _ s c => c.trans s, fun H p c np z => by rw [z, c _ _ e] at np; cases np⟩
theorem run_y (a : Yd N C σ te d) (c : C H) (k : ∀ v H', Sm H H' → Dr N H' v d → Q v H') : te σ H Q := a H Q c k
theorem dr_not {H H' : Hp} {l : Addr} (s : Sm H H') (nl : H l = none) {v : V} {d : PyData} (r : Dr All H v d) : Dr (fun b => b ≠ l) H' v d :=
  r.live.mono (fun a h z => h.2 (by rw [z]; exact nl)) (Stays.of s)
theorem seq_drop (h : te σ H fun _ H1 => rest D σ H1) : tSeq (tDrop te) rest D σ H := h
theorem fits_of {t : Nat → Option Bool} {R : List Row} (W : Web R) (hb : ∀ r ∈ R, r.base) (hl : R.length ≤ 900) : fit (pairD (dec t R).1 (dec t R).2) 4 = true := by
  have l : lim = 4000 := rfl
  have J0 := dec_of (t := t) W
  exact pair_fit J0.web (dec_base hb) (by have := J0.hi; omega) (fun k hk => by have := J0.ps k hk; have := J0.hi; omega) (by rw [J0.len]; omega)
theorem if_same {E : XK} {n : Nat} (a : Ya N C σ ta [d, d]) (c : C H) (hf : fit d n = true) (k : ∀ H', Sm H H' → u D σ H') : tIfS (tNot (L2.tB (tCall (spSame (n + 1)) [] E ta))) t u D σ H :=
  a H _ c fun vs H1 s1 r1 => by
    obtain ⟨x, y, rfl, rx, ry⟩ : ∃ x y, vs = [x, y] ∧ Dr N H1 x d ∧ Dr N H1 y d := by
      cases r1 with
      | cons r1 r2 => cases r2 with
        | cons r2 r3 => cases r3 with
          | nil => exact ⟨_, _, rfl, r1, r2⟩
    exact ⟨x, y, d, rfl, rx.all, ry.all, hf, fun H' s => ⟨_, rfl, iteF (k _ (s1.trans s))⟩⟩
theorem call_same {E : XK} {n : Nat} (a : Ya N C σ ta [d, d]) (c : C H) (hf : fit d n = true) (k : ∀ H', Sm H H' → Q (.bl true) H') : tCall (spSame (n + 1)) [] E ta σ H Q :=
  a H _ c fun vs H1 s1 r1 => by
    obtain ⟨x, y, rfl, rx, ry⟩ : ∃ x y, vs = [x, y] ∧ Dr N H1 x d ∧ Dr N H1 y d := by
      cases r1 with
      | cons r1 r2 => cases r2 with
        | cons r2 r3 => cases r3 with
          | nil => exact ⟨_, _, rfl, r1, r2⟩
    exact ⟨x, y, d, rfl, rx.all, ry.all, hf, fun H' s => k _ (s1.trans s)⟩
/-- l.append(x) -/
theorem app_y {i : Nat} {l : Addr} {xs : List V} (h : σ[i]? = some (some (.ref l))) (Y : Cy N C) (e : ∀ H, C H → H l = some (.lst xs)) (a : Yd N C σ te d) (c : C H) (hl : xs.length ≤ 100) (k : ∀ v H1, Sm H H1 → Dr N H1 v d → Q .non (upd H1 l (.lst (xs ++ [v])))) :
    tBM K "list" rAppend (tVar i) (tCons te tNil) σ H Q :=
  ⟨_, h, .inl ⟨rfl, xs, SqL.of (e H c)⟩, a H _ c fun v H1 s1 r1 => ⟨l, xs, v, rfl, rfl, e H1 (Y.sm _ _ s1 c), by rw [sizeLine_eq]; omega, k v H1 s1 r1⟩⟩
theorem stays_own {l : Addr} {xs : List V} {o : HO} (e : H l = some (.lst xs)) : Stays (Ne l) H (upd H l o) :=
  ⟨fun a x n e' => by rw [upd_ne n]; exact e', fun a x e' => by rw [upd_ne fun z => by rw [z, e] at e'; cases e']; exact e'⟩
theorem Yd.mul3 {i : Nat} {z : Int} (h : σ[i]? = some (some (.int z))) : Yd N C σ (tOp (rI0 fun i j => V.int (i + j)) (tOp (rI CMul fun i j => V.int (i * j)) (tC (.int 3)) (tVar i)) (tC (.int 3))) (.int (3 * z + 3)) :=
  fun H Q _ q => ⟨_, h, _, _, rfl, rfl, .inl ⟨by decide, by decide⟩, _, _, rfl, rfl, q _ _ Sm.rfl' (.int (3 * z + 3))⟩
theorem due_eq (m k : Nat) : PyData.tuple [.list (cutA ((webV m).map Row.d) none (some ((m : Int) + 2)) ++ [.tuple [.str "made", .str "g", .tuple [.int (k : Nat), .int 0]]]), .list (nums (List.range (m + 1)) ++ [.int ((m : Int) + 1), .int (k : Nat), .int ((m : Int) + 2)])] = pairD (webT m ++ [.made "g" [k, 0]]) (List.range (m + 2) ++ [k, m + 2]) := by
  have h1 : cutA ((webV m).map Row.d) none (some ((m : Int) + 2)) = (webT m).map Row.d := by
    rw [webT_data]
    exact cutA_to _ (m + 2)
  have h2 : nums (List.range (m + 2) ++ [k, m + 2]) = nums (List.range (m + 1)) ++ [.int ((m : Int) + 1), .int (k : Nat), .int ((m : Int) + 2)] := by
    rw [List.range_succ (n := m + 1)]
    simp [nums]
  unfold pairD rowsD
  rw [h1, List.map_append, h2]
  rfl
theorem big_fit2 {k n : Nat} (h : k < 2 ^ 104) : fit (.int (k : Nat)) n = true := by
  have : k.log2 < 1000 := by
    by_cases z : k = 0
    · rw [z]; decide
    · exact (Nat.log2_lt z).mpr (Nat.lt_of_lt_of_le h (Nat.pow_le_pow_right (by decide) (by decide)))
  simp only [fit, decide_eq_true_eq]
  exact this
/-! ### two small webs -/
def w1 : List Row := [.made "one" [], .made "f" [0, 0], .made "f" [1, 1], .asked "t" [2], .either 3 2 0, .made "g" [4]]
def w2 : List Row := [.made "f" [], .made "g" [], .asked "t" [0], .either 2 0 1, .asked "u" [0], .either 4 3 0, .made "h" [5, 3]]
theorem w1_web : Web w1 := ⟨fun r hr => by
  simp only [w1, List.mem_cons, List.not_mem_nil, or_false] at hr
  rcases hr with rfl | rfl | rfl | rfl | rfl | rfl <;> first | trivial | exact ⟨by decide +kernel, by decide⟩, by decide +kernel⟩
theorem w2_web : Web w2 := ⟨fun r hr => by
  simp only [w2, List.mem_cons, List.not_mem_nil, or_false] at hr
  rcases hr with rfl | rfl | rfl | rfl | rfl | rfl | rfl <;> first | trivial | exact ⟨by decide +kernel, by decide⟩, by decide +kernel⟩
theorem w1_dec : dec (tF [(3, false)]) w1 = ([.made "one" [], .made "f" [0, 0], .made "f" [1, 1], .asked "t" [2], .made "g" [0]], [0, 1, 2, 3, 0, 4]) := by decide +kernel
theorem w2_dec : dec (tF [(2, true)]) w2 = ([.made "f" [], .made "g" [], .asked "t" [0], .asked "u" [0], .made "h" [0, 0]], [0, 1, 2, 0, 3, 0, 4]) := by decide +kernel
theorem w1_tok : TsOk w1 [(3, false)] := ⟨by decide, fun p hp => by rw [List.mem_singleton.mp hp]; exact ⟨by decide, by decide +kernel⟩⟩
theorem w2_tok : TsOk w2 [(2, true)] := ⟨by decide, fun p hp => by rw [List.mem_singleton.mp hp]; exact ⟨by decide, by decide +kernel⟩⟩
end
end K8

/-! The law. -/
namespace K8
open PySem PySem.Spec PyProof.Rows L2 WR LamX
theorem sqlN {K : PySem.W.Frag} {a : Addr} {xs : List V} {H H' : Hp} (s : ExtN H H') (h : SqL K H a xs) : SqL K H' a xs := h.elim (fun r => .inl (r.elim (fun e => .inl (s _ _ e fun _ z => nomatch z)) fun ⟨o, e⟩ => .inr ⟨o, s _ _ e fun _ z => nomatch z⟩)) .inr
abbrev spLaw (K : PySem.W.Frag) (T : TabL) : Sp := fun vs H Q _ => ∃ (a : Addr) (xs : List Int), vs = [.ref a] ∧ SqL K H a (xs.map V.int) ∧ xs.length ≤ 63 ∧ Tabs T H ∧ ∀ H', Q (.bl true) H'
theorem fz_tups : ∀ l : List Nat, fzA ((l.map fun (k : Nat) => PyData.int (0 + (k : Int))).map tupF) = true
  | [] => rfl
  | k :: l => by
    show (WR.fz (tupF (.int (0 + (k : Int)))) && fzA ((l.map fun (k : Nat) => PyData.int (0 + (k : Int))).map tupF)) = true
    rw [fz_tups l]
    rfl
theorem rg_vN (n : Nat) : rgV 0 (n : Int) = vN (List.range n) := by
  unfold rgV vN
  rw [Int.sub_zero, Int.toNat_natCast]
  refine List.map_congr_left fun i _ => ?_
  rw [Int.zero_add]
theorem rows_nodict (R : List Row) : (rowsD R).hasDict = false := by
  have a : ∀ ks : List Nat, PyData.hasDictAll (nums ks) = false := by
    intro ks
    induction ks with
    | nil => rfl
    | cons k ks ih =>
      show (PyData.hasDict (.int (k : Nat)) || PyData.hasDictAll (nums ks)) = false
      rw [ih]
      rfl
  have b : ∀ r : Row, r.d.hasDict = false := by
    intro r
    cases r with
    | made n ks =>
      show ((PyData.hasDict (.str "made")) || ((PyData.hasDict (.str n)) || ((PyData.hasDictAll (nums ks)) || false))) = false
      rw [a]
      rfl
    | asked n ks =>
      show ((PyData.hasDict (.str "asked")) || ((PyData.hasDict (.str n)) || ((PyData.hasDictAll (nums ks)) || false))) = false
      rw [a]
      rfl
    | either c i j => rfl
    | given k => rfl
  show PyData.hasDictAll (R.map Row.d) = false
  induction R with
  | nil => rfl
  | cons r R ih =>
    show (r.d.hasDict || PyData.hasDictAll (R.map Row.d)) = false
    rw [b, ih]
    rfl
section
variable {P : Program} {w : World} {K : PySem.W.Frag} {mg : Str → Option Value} {base : Heap} {CW CP CT : Addr}
theorem sc_law : FnScope ["script", "place", "well", "many", "rows", "web", "was", "found", "most", "whole", "last", "told", "due", "at"] ["script"] (defScope slaw) := ⟨rfl, rfl, rfl, by decide +kernel, rfl, by decide +kernel, by decide +kernel⟩
theorem ok_law (B : Bt mg) {T : TabL} (SM : ∃ o, base.get? sysModules = some o)
    (D1 : Df P w K mg base CX0 1 "_law_well" ["script", "place"] (spWell K)) (D2 : Df P w K mg base CX0 4 "_law_k_web" ["well", "many"] spKWeb) (D3 : Df P w K mg base CX0 6 "_law_p_loose" ["stream", "thing"] (spPLoose 4))
    (D4 : Df P w K mg base CX0 9 "_law_measured_right" ["well", "rows", "web"] spMeasR) (D5 : DfG P w K mg base CX0 10 "_law_decided_right" ["well", "rows", "web"] spDecR) (D6 : DfG P w K mg base CX0 11 "_law_refused_right" ["rows"] (spRefR T))
    (D7 : Df P w K mg base CX0 7 "_law_same" ["found", "due"] (spSame 7)) (D8 : Df P w K mg base CX0 1 "_law_draw" ["well", "many"] spDraw)
    (DN : DfF P w K mg base (L2.CX P w) 8 "needs_of" ["web", "part"] (spNeedsOf CW CP) dneeds_of) (DT : DfF P w K mg base (L2.CX P w) 8 "tests_in" ["web", "part"] (spTests CW CP) dtests_in) (DS : DfF P w K mg base (L2.CX P w) 8 "steps_in" ["web", "part"] (spSteps CW CP) dsteps_in)
    (DD : DfF P w K mg base (L2.CX P w) 8 "depth_of" ["web", "part"] (spMeas maxL CW CP) ddepth_of) (DR : DfF P w K mg base (L2.CX P w) 8 "tree_of" ["web", "part"] (spMeas List.sum CW CP) dtree_of) (DC : DfF P w K mg base (L2.CX P w) 7 "decided" ["web", "truths"] (spDecided P w CW CT) ddecided)
    {f : Addr} {dV kV doc pm cdv ct oc : Value} {an od : Option Addr} {osl : Array (Option Value)}
    (lk : K.lookup f = some ⟨oc, od, .func (PySem.W.fnOf dlaw.name dlaw.qual dlaw.params dlaw.body dlaw.scope dV kV doc pm an cdv ct), osl⟩) (hcd : PySem.W.codeIn K cdv dlaw.qual = true) :
    FnG P w K mg base CX0 12 f (PySem.W.fnOf dlaw.name dlaw.qual dlaw.params dlaw.body dlaw.scope dV kV doc pm an cdv ct) ["script"] (spLaw K T) := by
  refine fnG_of (N := ["script", "place", "well", "many", "rows", "web", "was", "found", "most", "whole", "last", "told", "due", "at"]) lk hcd sc_law (fun vs H Q E h => by obtain ⟨a, xs, rfl, _⟩ := h; rfl) (fun A outer s H vs Q E hr free h => ?_)
  obtain ⟨a, xs, rfl, hS, hlen, hT, q⟩ := h
  have hr1 := hr.mono (show 1 ≤ 11 by decide)
  have hr4 := hr.mono (show 4 ≤ 11 by decide)
  have hr6 := hr.mono (show 6 ≤ 11 by decide)
  have hr7 := hr.mono (show 7 ≤ 11 by decide)
  have hr8 := hr.mono (show 8 ≤ 11 by decide)
  have hr9 := hr.mono (show 9 ≤ 11 by decide)
  have hr10 := hr.mono (show 10 ≤ 11 by decide)
  refine ⟨_, PSs.nox (C8.pss_cut (ps_for PassesOwn.never rfl (pi_range1 rfl B.range (pa_cons (pe_op op_add pe_int (pe_callTy call_int1 (by rfl) B.int (by decide +kernel) (pa_cons (pe_cmpR op_gt (pe_callB call_len_seq (by rfl) B.len (by decide +kernel) (pa_cons (pv 0) pa_nil)) pe_int (nomark _)) pa_nil))) pa_nil)) (pg_name (i := 1) sc_law.nd rfl (by first | exact Or.inl rfl | exact Or.inr rfl)) (pss_cons (ps_set (i := 2) sc_law.nd rfl (by first | exact Or.inl rfl | exact Or.inr rfl) (pe_df D1 hr1 pass0 (pa_cons (pv 0) (pa_cons (pv 1) pa_nil))))
      (pss_one (ps_for PassesOwn.never rfl (pi_seq (pe_tup (pa_cons pe_int (pa_cons pe_int (pa_cons pe_int (pa_cons pe_int pa_nil)))))) (pg_name (i := 3) sc_law.nd rfl (by first | exact Or.inl rfl | exact Or.inr rfl)) (pss_cons (ps_set (i := 4) sc_law.nd rfl (by first | exact Or.inl rfl | exact Or.inr rfl) (pe_df D2 hr4 pass0 (pa_cons (pv 2) (pa_cons (pv 3) pa_nil))))
      (pss_cons (ps_set (i := 5) sc_law.nd rfl (by first | exact Or.inl rfl | exact Or.inr rfl) (pe_df D3 hr6 pass0 (pa_cons (pv 2) (pa_cons (pv 4) pa_nil))))
      (pss_cons (ps_set (i := 6) sc_law.nd rfl (by first | exact Or.inl rfl | exact Or.inr rfl) (pe_callB (call_reprD hr free SM) (by rfl) B.repr (by decide +kernel) (pa_cons (pv 5) pa_nil)))
      (pss_cons (ps_if (PW.pt (pw_or (pt_not (pt_val (pe_df D4 hr9 pass0 (pa_cons (pv 2) (pa_cons (pv 4) (pa_cons (pv 5) pa_nil)))))) (pw_or (pt_not (pt_val (pe_dfG D5 hr10 free pass0 (pa_cons (pv 2) (pa_cons (pv 4) (pa_cons (pv 5) pa_nil)))))) (pw_or1 (pt_cmpR op_ne (pe_callB (call_reprD hr free SM) (by rfl) B.repr (by decide +kernel) (pa_cons (pv 5) pa_nil)) (pv 6) (nomark _)))))) (pss_one (ps_ret pe_bl)) pss_nil)
      (pss_one (ps_if (pt_not (pt_val (pe_dfG D6 hr free pass0 (pa_cons (pv 4) pa_nil)))) (pss_one (ps_ret pe_bl)) pss_nil))))))))))
      (pss_cons (ps_set (i := 3) sc_law.nd rfl (by first | exact Or.inl rfl | exact Or.inr rfl) (pe_op op_add pe_int (pe_df D8 hr1 pass0 (pa_cons (pv 2) (pa_cons pe_int pa_nil)))))
      (pss_cons (ps_set (i := 4) sc_law.nd rfl (by first | exact Or.inl rfl | exact Or.inr rfl) (pe_op op_cat (pe_op op_cat (pe_lst (pa_cons (pe_tup (pa_cons pe_str (pa_cons pe_str (pa_cons (pe_tup pa_nil) pa_nil)))) pa_nil)) (pe_lc (own := [("at", 13)]) (g := gName 13) (tt := tYes) rfl sc_law.nd (pi_range1 rfl B.range (pa_cons (pv 3) pa_nil)) (blkOk_by (own := [("at", 13)]) (N := ["script", "place", "well", "many", "rows", "web", "was", "found", "most", "whole", "last", "told", "due", "at"]) (sc := defScope slaw) (by decide +kernel)) (fun _ _ _ _ _ => pg_name (i := 13) sc_law.nd rfl (by first | exact Or.inl rfl | exact Or.inr rfl)) (fun _ _ _ _ _ => pts_nil) (fun _ _ _ _ _ => (pe_tup (pa_cons pe_str (pa_cons pe_str (pa_cons (pe_tup (pa_cons (pv 13) (pa_cons (pv 13) pa_nil))) pa_nil))))))) (pe_lst (pa_cons (pe_tup (pa_cons pe_str (pa_cons pe_str (pa_cons (pe_tup (pa_cons (pv 3) (pa_cons (pv 3) pa_nil))) pa_nil)))) pa_nil))))
      (C8.pss_cut (ps_expr (pe_bm PySem.F.plainAttrs_list PySem.F.slot_list_extend PySem.F.type_list_extend mt_extend (pv 4) (pa_cons (pe_lst (pa_cons (pe_tup (pa_cons pe_str (pa_cons (pe_op op_add (pv 3) pe_int) (pa_cons (pv 3) (pa_cons pe_int pa_nil))))) (pa_cons (pe_tup (pa_cons pe_str (pa_cons pe_str (pa_cons (pe_tup (pa_cons (pe_op op_add (pv 3) pe_int) (pa_cons pe_int pa_nil))) pa_nil)))) pa_nil))) pa_nil)))
      (pss_cons (ps_set (i := 7) sc_law.nd rfl (by first | exact Or.inl rfl | exact Or.inr rfl) (pe_lst (pa_cons (pe_df DD.df hr8 (passes_call LamX.takes0 (fun _ _ _ _ z => z)) (pa_cons (pv 4) (pa_cons (pv 3) pa_nil))) (pa_cons (pe_df DS.df hr8 (passes_call LamX.takes0 (fun _ _ _ _ z => z)) (pa_cons (pv 4) (pa_cons (pv 3) pa_nil))) (pa_cons (pe_df DR.df hr8 (passes_call LamX.takes0 (fun _ _ _ _ z => z)) (pa_cons (pv 4) (pa_cons (pv 3) pa_nil))) (pa_cons (pe_df DR.df hr8 (passes_call LamX.takes0 (fun _ _ _ _ z => z)) (pa_cons (pv 4) (pa_cons (pe_op op_add (pv 3) pe_int) pa_nil))) pa_nil))))))
      (pss_cons (ps_expr (pe_bm PySem.F.plainAttrs_list PySem.F.slot_list_append PySem.F.type_list_append mt_append (pv 7) (pa_cons (pe_df DT.df hr8 (passes_call LamX.takes0 (fun _ _ _ _ z => z)) (pa_cons (pv 4) (pa_cons (pe_op op_add (pv 3) pe_int) pa_nil))) pa_nil)))
      (pss_cons (ps_par3 (i := 8) (j := 9) (l := 10) (by rfl) sc_law.nd rfl rfl rfl (by decide) (by decide) (by decide) rfl rfl rfl (pa_cons (pe_op op_sub (pe_op op_oneShl pe_int (pe_op op_add (pv 3) pe_int)) pe_int) (pa_cons (pe_listRg rfl (by rfl) B.list (prg_1 (by rfl) B.range (pe_op op_add (pv 3) pe_int))) (pa_cons (pe_op op_add (pv 3) pe_int) pa_nil))) (by first | rfl | kernel_rfl))
      (C8.pss_cut (ps_if (pt_not (pt_val (pe_df D7 hr7 pass0 (pa_cons (pe_lst (pa_cons (pe_df DN.df hr8 (passes_call LamX.takes0 (fun _ _ _ _ z => z)) (pa_cons (pv 4) (pa_cons (pv 3) pa_nil))) (pa_cons (pe_df DN.df hr8 (passes_call LamX.takes0 (fun _ _ _ _ z => z)) (pa_cons (pv 4) (pa_cons (pv 10) pa_nil))) pa_nil))) (pa_cons (pe_lst (pa_cons (pv 9) (pa_cons (pe_op op_cat (pv 9) (pe_lst (pa_cons (pe_op op_add (pv 3) pe_int) (pa_cons (pe_op op_add (pv 3) pe_int) (pa_cons (pv 10) pa_nil))))) pa_nil))) pa_nil))))) (pss_one (ps_ret pe_bl)) pss_nil)
      (pss_cons (ps_set (i := 11) sc_law.nd rfl (by first | exact Or.inl rfl | exact Or.inr rfl) (pe_lst (pa_cons (pe_df DC.df hr7 (passes_call LamX.takes0 (fun _ _ _ _ z => z)) (pa_cons (pv 4) (pa_cons pe_dnewK pa_nil))) (pa_cons (pe_df DC.df hr7 (passes_call LamX.takes0 (fun _ _ _ _ z => z)) (pa_cons (pv 4) (pa_cons (pe_disp (pps_cons (pe_op op_add (pv 3) pe_int) pe_bl pps_nil) (by rfl) (by rfl) (fun z => nomatch z) (by decide)) pa_nil))) (pa_cons (pe_df DC.df hr7 (passes_call LamX.takes0 (fun _ _ _ _ z => z)) (pa_cons (pv 4) (pa_cons (pe_disp (pps_cons (pe_op op_add (pv 3) pe_int) pe_bl pps_nil) (by rfl) (by rfl) (fun z => nomatch z) (by decide)) pa_nil))) pa_nil)))))
      (pss_cons (ps_set (i := 12) sc_law.nd rfl (by first | exact Or.inl rfl | exact Or.inr rfl) (pe_lst (pa_cons (pe_tup (pa_cons (pv 4) (pa_cons (pe_listRg rfl (by rfl) B.list (prg_1 (by rfl) B.range (pe_callB call_lenS (by rfl) B.len (by decide +kernel) (pa_cons (pv 4) pa_nil)))) pa_nil))) pa_nil)))
      (pss_cons (ps_expr (pe_bm PySem.F.plainAttrs_list PySem.F.slot_list_append PySem.F.type_list_append mt_append (pv 12) (pa_cons (pe_tup (pa_cons (pe_op op_cat (pe_slice sl_list (pv 4) po_none (po_some (pe_op op_add (pv 3) pe_int))) (pe_lst (pa_cons (pe_tup (pa_cons pe_str (pa_cons pe_str (pa_cons (pe_tup (pa_cons (pv 3) (pa_cons pe_int pa_nil))) pa_nil)))) pa_nil))) (pa_cons (pe_op op_cat (pv 9) (pe_lst (pa_cons (pe_op op_add (pv 3) pe_int) (pa_cons (pv 3) (pa_cons (pe_op op_add (pv 3) pe_int) pa_nil))))) pa_nil))) pa_nil)))
      (pss_cons (ps_expr (pe_bm PySem.F.plainAttrs_list PySem.F.slot_list_append PySem.F.type_list_append mt_append (pv 12) (pa_cons (pe_tup (pa_cons (pe_op op_cat (pe_slice sl_list (pv 4) po_none (po_some (pe_op op_add (pv 3) pe_int))) (pe_lst (pa_cons (pe_tup (pa_cons pe_str (pa_cons pe_str (pa_cons (pe_tup (pa_cons pe_int (pa_cons pe_int pa_nil))) pa_nil)))) pa_nil))) (pa_cons (pe_op op_cat (pv 9) (pe_lst (pa_cons (pe_op op_add (pv 3) pe_int) (pa_cons pe_int (pa_cons (pe_op op_add (pv 3) pe_int) pa_nil))))) pa_nil))) pa_nil)))
      (C8.pss_cut (ps_if (pt_not (pt_val (pe_df D7 hr7 pass0 (pa_cons (pv 11) (pa_cons (pv 12) pa_nil))))) (pss_one (ps_ret pe_bl)) pss_nil)
      (C8.pss_cut (ps_if (pt_not (pt_val (pe_df D7 hr7 pass0 (pa_cons (pv 7) (pa_cons (pe_lst (pa_cons (pe_op op_add (pv 3) pe_int) (pa_cons (pe_op op_add (pv 3) pe_int) (pa_cons (pv 8) (pa_cons (pe_op op_add (pe_op op_mul pe_int (pv 8)) pe_int) (pa_cons (pe_lst (pa_cons (pe_op op_add (pv 3) pe_int) pa_nil)) pa_nil)))))) pa_nil))))) (pss_one (ps_ret pe_bl)) pss_nil)
      (pss_cons (ps_set (i := 5) sc_law.nd rfl (by first | exact Or.inl rfl | exact Or.inr rfl) (pe_lst (pa_cons (pe_tup (pa_cons pe_str (pa_cons pe_str (pa_cons (pe_tup pa_nil) pa_nil)))) (pa_cons (pe_tup (pa_cons pe_str (pa_cons pe_str (pa_cons (pe_tup (pa_cons pe_int (pa_cons pe_int pa_nil))) pa_nil)))) (pa_cons (pe_tup (pa_cons pe_str (pa_cons pe_str (pa_cons (pe_tup (pa_cons pe_int (pa_cons pe_int pa_nil))) pa_nil)))) (pa_cons (pe_tup (pa_cons pe_str (pa_cons pe_str (pa_cons (pe_tup (pa_cons pe_int pa_nil)) pa_nil)))) (pa_cons (pe_tup (pa_cons pe_str (pa_cons pe_int (pa_cons pe_int (pa_cons pe_int pa_nil))))) pa_nil)))))))
      (pss_cons (ps_set (i := 11) sc_law.nd rfl (by first | exact Or.inl rfl | exact Or.inr rfl) (pe_df DC.df hr7 (passes_call LamX.takes0 (fun _ _ _ _ z => z)) (pa_cons (pe_op op_cat (pv 5) (pe_lst (pa_cons (pe_tup (pa_cons pe_str (pa_cons pe_str (pa_cons (pe_tup (pa_cons pe_int pa_nil)) pa_nil)))) pa_nil))) (pa_cons (pe_disp (pps_cons pe_int pe_bl pps_nil) (by rfl) (by rfl) (fun z => nomatch z) (by decide)) pa_nil))))
      (C8.pss_cut (ps_if (pt_not (pt_val (pe_df D7 hr7 pass0 (pa_cons (pv 11) (pa_cons (pe_tup (pa_cons (pe_op op_cat (pe_slice sl_list (pv 5) po_none (po_some pe_int)) (pe_lst (pa_cons (pe_tup (pa_cons pe_str (pa_cons pe_str (pa_cons (pe_tup (pa_cons pe_int pa_nil)) pa_nil)))) pa_nil))) (pa_cons (pe_lst (pa_cons pe_int (pa_cons pe_int (pa_cons pe_int (pa_cons pe_int (pa_cons pe_int (pa_cons pe_int pa_nil))))))) pa_nil))) pa_nil))))) (pss_one (ps_ret pe_bl)) pss_nil)
      (pss_cons (ps_set (i := 5) sc_law.nd rfl (by first | exact Or.inl rfl | exact Or.inr rfl) (pe_lst (pa_cons (pe_tup (pa_cons pe_str (pa_cons pe_str (pa_cons (pe_tup pa_nil) pa_nil)))) (pa_cons (pe_tup (pa_cons pe_str (pa_cons pe_str (pa_cons (pe_tup pa_nil) pa_nil)))) (pa_cons (pe_tup (pa_cons pe_str (pa_cons pe_str (pa_cons (pe_tup (pa_cons pe_int pa_nil)) pa_nil)))) (pa_cons (pe_tup (pa_cons pe_str (pa_cons pe_int (pa_cons pe_int (pa_cons pe_int pa_nil))))) (pa_cons (pe_tup (pa_cons pe_str (pa_cons pe_str (pa_cons (pe_tup (pa_cons pe_int pa_nil)) pa_nil)))) pa_nil)))))))
      (pss_cons (ps_set (i := 11) sc_law.nd rfl (by first | exact Or.inl rfl | exact Or.inr rfl) (pe_df DC.df hr7 (passes_call LamX.takes0 (fun _ _ _ _ z => z)) (pa_cons (pe_op op_cat (pv 5) (pe_lst (pa_cons (pe_tup (pa_cons pe_str (pa_cons pe_int (pa_cons pe_int (pa_cons pe_int pa_nil))))) (pa_cons (pe_tup (pa_cons pe_str (pa_cons pe_str (pa_cons (pe_tup (pa_cons pe_int (pa_cons pe_int pa_nil))) pa_nil)))) pa_nil)))) (pa_cons (pe_disp (pps_cons pe_int pe_bl pps_nil) (by rfl) (by rfl) (fun z => nomatch z) (by decide)) pa_nil))))
      (pss_one (ps_ret (pe_df D7 hr7 pass0 (pa_cons (pv 11) (pa_cons (pe_tup (pa_cons (pe_op op_cat (pe_slice sl_list (pv 5) po_none (po_some pe_int)) (pe_lst (pa_cons (pe_tup (pa_cons pe_str (pa_cons pe_str (pa_cons (pe_tup (pa_cons pe_int pa_nil)) pa_nil)))) (pa_cons (pe_tup (pa_cons pe_str (pa_cons pe_str (pa_cons (pe_tup (pa_cons pe_int (pa_cons pe_int pa_nil))) pa_nil)))) pa_nil)))) (pa_cons (pe_lst (pa_cons pe_int (pa_cons pe_int (pa_cons pe_int (pa_cons pe_int (pa_cons pe_int (pa_cons pe_int (pa_cons pe_int pa_nil)))))))) pa_nil))) pa_nil)))))))))))))))))))))))), ?_⟩
  have htop : top0 = 1000000000000 := rfl
  have hlim : lim = 4000 := rfl
  have hsl := lim_lt
  have sz2 : 2 ≤ sizeLine := by decide
  have c41 : (41 : Nat) ^ 3 = 68921 := by decide
  refine ⟨fun σ6 H6 => ∃ (wa : Addr) (n : Nat) (x1 x3 x4 x5 x6 : Option V), σ6 = [some (.ref a), x1, some (.ref wa), x3, x4, x5, x6, none, none, none, none, none, none, none] ∧ Wl H6 wa n ∧ n ≤ 10000000, ?_, ?_⟩
  · obtain ⟨N, hN2, hN3, eN⟩ : ∃ N : Nat, 2 ≤ N ∧ N ≤ 3 ∧ (2 : Int) + (if decide (2 < ((xs.map V.int).length : Int)) = true then (1 : Int) else 0) = (N : Nat) := by
      by_cases h : decide (2 < ((xs.map V.int).length : Int)) = true
      · exact ⟨3, by omega, by omega, by rw [if_pos h]; rfl⟩
      · exact ⟨2, by omega, by omega, by rw [if_neg h]; rfl⟩
    refine ⟨_, rfl, a, _, rfl, .inl hS, _, _, rfl, rfl, .inr ⟨_, rfl, _, _, rfl, rfl, ?_⟩⟩
    refine ⟨_, rfl, by rw [eN]; omega, by rw [eN]; omega, ?_⟩
    rw [eN, Int.toNat_natCast]
    refine for_range (n := N) (fun i σ' H2 => ExtN H H2 ∧ Tabs T H2 ∧ ((i = 0 ∧ σ' = [some (.ref a), none, none, none, none, none, none, none, none, none, none, none, none, none]) ∨ ∃ (wa : Addr) (n : Nat) (x1 x3 x4 x5 x6 : Option V), σ' = [some (.ref a), x1, some (.ref wa), x3, x4, x5, x6, none, none, none, none, none, none, none] ∧ Wl H2 wa n ∧ n ≤ 10000000)) ?_ ?_ ?_
    · exact ⟨ExtN.refl H, hT, .inl ⟨rfl, rfl⟩⟩
    · rintro place σ2 H2 hplace ⟨e2, T2, hσ⟩
      obtain ⟨x1, x2, x3, x4, x5, x6, rfl⟩ : ∃ x1 x2 x3 x4 x5 x6, σ2 = [some (.ref a), x1, x2, x3, x4, x5, x6, none, none, none, none, none, none, none] := by
        rcases hσ with ⟨_, rfl⟩ | ⟨wa, n, x1, x3, x4, x5, x6, rfl, _⟩
        · exact ⟨_, _, _, _, _, _, rfl⟩
        · exact ⟨_, _, _, _, _, _, rfl⟩
      clear hσ
      refine ⟨_, rfl, _, rfl, a, xs, place, by simp, sqlN e2 hS, by omega, by omega, fun wa H3 s3 nwa hw3 => ?_⟩
      have naw : ∀ b o, H2 b = some o → b ≠ wa := fun b o e => ne_of_none e nwa
      have T3 := T2.ext s3
      refine ⟨(by show 4 ≤ sizeLine; decide), fun tp ntp => ?_⟩
      have s4 := Sm.new (o := .tup [.int 0, .int 4, .int 9, .int 16]) ntp
      have etp : upd H3 tp (.tup [.int 0, .int 4, .int 9, .int 16]) tp = some (.tup [.int 0, .int 4, .int 9, .int 16]) := upd_same
      have hw4 := hw3.sm s4
      have T4 := T3.ext s4
      have ntw := hw3.ne ntp
      have s24 := s3.trans s4
      generalize upd H3 tp (.tup [.int 0, .int 4, .int 9, .int 16]) = H4 at etp hw4 T4 s24 ⊢
      clear s4 ntp hw3 s3
      refine ⟨tp, _, rfl, .inr etp, fun J hJ => ?_⟩
      refine for_seq hJ (fun k σ' H5 => ∃ (y3 y4 y5 y6 : Option V), σ' = [some (.ref a), some (.int (0 + (place : Nat))), some (.ref wa), y3, y4, y5, y6, none, none, none, none, none, none, none] ∧ GwN wa H4 H5 ∧ Wl H5 wa (80000 * k) ∧ Tabs T H5) ?_ ?_ ?_ ?_
      · exact ⟨_, _, _, _, rfl, fun b o _ e _ => e, by simpa using hw4, T4⟩
      · rintro i σ3 H5 _ ⟨_, _, _, _, _, g5, _⟩
        rw [g5 _ _ ntw etp (fun _ z => nomatch z), etp]
      · rintro k x σ5 H5 hx ⟨y3, y4, y5, y6, rfl, g5, hw5, T5⟩
        have hk4 : k < 4 := (List.getElem?_eq_some_iff.mp hx).1
        obtain ⟨m, rfl, hm⟩ : ∃ m : Nat, x = .int (m : Nat) ∧ m ≤ 16 := by
          have := List.mem_of_getElem? hx
          simp only [List.mem_cons, List.not_mem_nil, or_false] at this
          rcases this with rfl | rfl | rfl | rfl
          · exact ⟨0, rfl, by decide⟩
          · exact ⟨4, rfl, by decide⟩
          · exact ⟨9, rfl, by decide⟩
          · exact ⟨16, rfl, by decide⟩
        -- rows
        refine ⟨_, rfl, _, rfl, wa, 80000 * k, m, rfl, hm, hw5, by omega, fun l ys R H6 nl WR' smR hR g6 hw6 el ry => ?_⟩
        have T6 := tabs_gw T5 hw5 g6
        have lwa : l ≠ wa := hw5.ne nl
        have rd6 : Dr (Ne wa) H6 (.ref l) (rowsD R) := .lst lwa el (ry.wide fun _ z => z.elim)
        have tR := web_tame WR' smR (by omega)
        -- web
        refine ⟨_, rfl, _, rfl, wa, _, Ne wa, .ref l, rowsD R, rfl, fun _ z => z, hw6, by rw [c41]; omega, rd6, tR, rows_nodict R, fun u e H7 g7 hw7 ru0 lo => ?_⟩
        have T7 := tabs_gw T6 hw6 g7
        have ru7 : Dr (Ne wa) H7 u e := ru0.wide fun b z => hw6.ne z
        have rd7 := rd6.gn (fun _ z => z) hw6 g7
        have te : tame true e 3 = true := tame_lo lo tR
        rw [c41] at hw7
        -- was
        refine ⟨_, rfl, u, e, rfl, ru7.all, rpr_tame te (by decide), ?_⟩
        -- the three
        refine ⟨_, rfl, _, rfl, _, rfl, wa, _, .ref l, u, R, e, rfl, hw7, by omega, rd7, ru7, lo, WR', smR, by omega, fun H8 g8 hw8 => ?_⟩
        refine ⟨_, rfl, iteF ?_⟩
        have T8 := tabs_gw T7 hw7 g8
        have rd8 := rd7.gn (fun _ z => z) hw7 g8
        have ru8 := ru7.gn (fun _ z => z) hw7 g8
        refine ⟨_, rfl, _, rfl, _, rfl, wa, _, .ref l, u, R, e, rfl, hw8, by omega, rd8, ru8, lo, WR', smR, by omega, fun H9 g9 hw9 => ?_⟩
        refine ⟨_, rfl, iteF ?_⟩
        have T9 := tabs_gw T8 hw8 g9
        have rd9 := rd8.gn (fun _ z => z) hw8 g9
        have ru9 := ru8.gn (fun _ z => z) hw8 g9
        refine ⟨_, rfl, u, e, rfl, ru9.all, rpr_tame te (by decide), _, rfl, rfl, _, rfl, ?_⟩
        rw [show (!decide (V.str e.shown = V.str e.shown)) = false by simp]
        refine iteF ?_
        -- refused
        refine ⟨_, rfl, .ref l, R, rfl, rd9.all, WR', smR, by omega, T9, fun Ha xa Ta => ⟨_, rfl, iteF ?_⟩⟩
        have hwa : Wl Ha wa (80000 * k + 70137) := by
          obtain ⟨b1, b2, b3, e', h'⟩ := hw9.mono (show _ ≤ 80000 * k + 70137 by omega)
          exact ⟨b1, b2, b3, xa _ _ e' (fun _ z => nomatch z), h'⟩
        exact ⟨_, _, _, _, rfl, (g5.trans (GwN.of (g6.trans (g7.trans (g8.trans g9))))).trans (GwN.ext xa), hwa.mono (by omega), Ta⟩
      · rintro σ5 H5 ⟨y3, y4, y5, y6, rfl, g5, hw5, T5⟩
        exact ⟨e2.trans fun b o e ne => g5 b o (naw b o e) (s24 b o e) ne, T5, .inr ⟨wa, _, _, _, _, _, _, rfl, hw5, by show 80000 * 4 ≤ 10000000; omega⟩⟩
    · rintro σ2 H2 ⟨_, _, hσ⟩
      rcases hσ with ⟨h, _⟩ | ⟨wa, n, x1, x3, x4, x5, x6, rfl, hw, hn⟩
      · omega
      · exact ⟨wa, n, x1, x3, x4, x5, x6, rfl, hw, hn⟩
  rintro σ6 H6 ⟨wa, n, x1, x3, x4, x5, x6, rfl, hw, hn⟩
  -- many
  refine ⟨_, rfl, wa, 60, n, rfl, by decide, by decide, hw, by omega, fun k H1 hk g1 hw1 => ?_⟩
  obtain ⟨m, hm1, hm2, em⟩ : ∃ m : Nat, 40 ≤ m ∧ m ≤ 99 ∧ (40 : Int) + (k : Int) = (m : Nat) := ⟨40 + k, by omega, by omega, by omega⟩
  refine ⟨_, _, rfl, rfl, ?_⟩
  dsimp only
  rw [em]
  clear em hw1 g1 hw
  -- rows
  refine ⟨(by show 0 ≤ sizeLine; decide), fun e1 ne1 => ⟨(by show 3 ≤ sizeLine; decide), fun t1 nt1 => ⟨(by show 1 ≤ sizeLine; decide), fun l1 nl1 => ?_⟩⟩⟩
  have a1 := Sm.new (o := .tup []) ne1
  have a2 := Sm.new (o := .tup [V.str "made", .str "f", .ref e1]) nt1
  have a3 := Sm.new (o := .lst [V.ref t1]) nl1
  have d1 : Dr No (upd (upd (upd H1 e1 (.tup [])) t1 (.tup [V.str "made", .str "f", .ref e1])) l1 (.lst [V.ref t1])) (.ref t1) (.tuple [.str "made", .str "f", .tuple []]) := .tup (a3 _ _ upd_same) (.cons (.str _) (.cons (.str _) (.one (.tup ((a2.trans a3) _ _ upd_same) .nil))))
  have el1 : upd (upd (upd H1 e1 (.tup [])) t1 (.tup [V.str "made", .str "f", .ref e1])) l1 (.lst [V.ref t1]) l1 = some (.lst [V.ref t1]) := upd_same
  generalize upd (upd (upd H1 e1 (.tup [])) t1 (.tup [V.str "made", .str "f", .ref e1])) l1 (.lst [V.ref t1]) = H2 at d1 el1 ⊢
  clear a1 a2 a3 ne1 nt1 nl1
  refine ⟨_, rfl, _, rfl, by omega, by omega, fun D nD => ?_⟩
  rw [Int.toNat_natCast]
  refine lc_fz tupF (.range (lo := 0)) nD (by simp; omega) (fun _ => rfl) (fun d hd => by obtain ⟨k, _, rfl⟩ := List.mem_map.mp hd; rfl) (fun x d H3 Q' hd s3 rx q' => ?_) fun H3 ys s3 eD ry => ?_
  · obtain ⟨k, _, rfl⟩ := List.mem_map.mp hd
    cases rx.int_inv
    refine ⟨_, rfl, _, rfl, (by show 2 ≤ sizeLine; decide), fun t nt => ⟨(by show 3 ≤ sizeLine; decide), fun t2 nt2 => q' _ _ ((Sm.new nt).trans (Sm.new nt2)) (.tup upd_same (.cons (.str _) (.cons (.str _) (.one (.tup ((Sm.new nt2) _ _ upd_same) (.cons (.int _) (.one (.int _))))))))⟩⟩
  have lys : ys.length = m := by rw [ry.length]; simp
  have ryN : DrA No H3 ys (((List.range m).map fun (k : Nat) => PyData.int (0 + (k : Int))).map tupF) := ry.fz (fz_tups _)
  refine ⟨l1, D, _, _, rfl, rfl, s3 _ _ el1, eD, by simp; omega, fun lr nlr => ?_⟩
  have s4 := Sm.new (o := .lst ([V.ref t1] ++ ys)) nlr
  have elr : upd H3 lr (.lst ([V.ref t1] ++ ys)) lr = some (.lst ([V.ref t1] ++ ys)) := upd_same
  have dlr : DrA No (upd H3 lr (.lst ([V.ref t1] ++ ys))) ([V.ref t1] ++ ys) (.tuple [.str "made", .str "f", .tuple []] :: ((List.range m).map fun (k : Nat) => PyData.int (0 + (k : Int))).map tupF) := (DrA.one ((d1.sm s3).sm s4)).append (ryN.sm s4)
  generalize upd H3 lr (.lst ([V.ref t1] ++ ys)) = H4 at elr dlr ⊢
  clear s4 s3 ry ryN eD nD d1 el1 nlr
  refine ⟨_, rfl, _, rfl, (by show 2 ≤ sizeLine; decide), fun u1 nu1 => ⟨(by show 3 ≤ sizeLine; decide), fun u2 nu2 => ⟨(by show 1 ≤ sizeLine; decide), fun u3 nu3 => ?_⟩⟩⟩
  have a1 := Sm.new (o := .tup [.int (m : Nat), .int (m : Nat)]) nu1
  have a2 := Sm.new (o := .tup [V.str "asked", .str "t", .ref u1]) nu2
  have a3 := Sm.new (o := .lst [V.ref u2]) nu3
  have a13 := a1.trans (a2.trans a3)
  have d2 : Dr No (upd (upd (upd H4 u1 (.tup [.int (m : Nat), .int (m : Nat)])) u2 (.tup [V.str "asked", .str "t", .ref u1])) u3 (.lst [V.ref u2])) (.ref u2) (.tuple [.str "asked", .str "t", .tuple [.int (m : Nat), .int (m : Nat)]]) := .tup (a3 _ _ upd_same) (.cons (.str _) (.cons (.str _) (.one (.tup ((a2.trans a3) _ _ upd_same) (.cons (.int _) (.one (.int _)))))))
  have eu3 : upd (upd (upd H4 u1 (.tup [.int (m : Nat), .int (m : Nat)])) u2 (.tup [V.str "asked", .str "t", .ref u1])) u3 (.lst [V.ref u2]) u3 = some (.lst [V.ref u2]) := upd_same
  generalize upd (upd (upd H4 u1 (.tup [.int (m : Nat), .int (m : Nat)])) u2 (.tup [V.str "asked", .str "t", .ref u1])) u3 (.lst [V.ref u2]) = H5 at a13 d2 eu3 ⊢
  refine ⟨lr, u3, _, _, rfl, rfl, a13 _ _ elr, eu3, by simp; omega, fun lq nlq => ?_⟩
  have s6 := Sm.new (o := .lst ([V.ref t1] ++ ys ++ [.ref u2])) nlq
  have elq : upd H5 lq (.lst ([V.ref t1] ++ ys ++ [.ref u2])) lq = some (.lst ([V.ref t1] ++ ys ++ [.ref u2])) := upd_same
  have dlq := ((dlr.sm a13).sm s6).append (.one (d2.sm s6))
  generalize upd H5 lq (.lst ([V.ref t1] ++ ys ++ [.ref u2])) = H6 at elq dlq ⊢
  have llq : ([V.ref t1] ++ ys ++ [V.ref u2]).length ≤ 200 := by simp; omega
  generalize [V.ref t1] ++ ys ++ [V.ref u2] = zs at elq dlq llq
  clear a1 a2 a3 a13 d2 eu3 s6 nlq nu1 nu2 nu3 dlr elr
  -- rows.extend(..)
  refine ⟨fun σ6 H7 => ∃ lr, σ6 = [some (.ref a), x1, some (.ref wa), some (.int (m : Nat)), some (.ref lr), x5, x6, none, none, none, none, none, none, none] ∧ Dr All H7 (.ref lr) (rowsD (webV m)), ?_, ?_⟩
  · refine ⟨_, rfl, .inl ⟨rfl, _, SqL.of elq⟩, ?_⟩
    refine ⟨_, rfl, _, _, rfl, rfl, _, rfl, (by show 4 ≤ sizeLine; decide), fun v1 nv1 => ?_⟩
    have a1 := Sm.new (o := .tup [V.str "either", .int ((m : Int) + 1), .int (m : Nat), .int 0]) nv1
    refine ⟨_, rfl, _, _, rfl, rfl, (by show 2 ≤ sizeLine; decide), fun v2 nv2 => ⟨(by show 3 ≤ sizeLine; decide), fun v3 nv3 => ⟨(by show 2 ≤ sizeLine; decide), fun v4 nv4 => ?_⟩⟩⟩
    have a2 := Sm.new (o := .tup [.int ((m : Int) + 2), .int 0]) nv2
    have a3 := Sm.new (o := .tup [V.str "made", .str "g", .ref v2]) nv3
    have a4 := Sm.new (o := .lst [V.ref v1, .ref v3]) nv4
    have a24 := a2.trans (a3.trans a4)
    have a14 := a1.trans a24
    have d1 := a24 _ _ (show upd H6 v1 (.tup [V.str "either", .int ((m : Int) + 1), .int (m : Nat), .int 0]) v1 = _ from upd_same)
    have d2 := a4 _ _ (a3 _ _ (show (upd (upd H6 v1 (.tup [V.str "either", .int ((m : Int) + 1), .int (m : Nat), .int 0])) v2 (.tup [.int ((m : Int) + 2), .int 0])) v2 = _ from upd_same))
    have d3 := a4 _ _ (show (upd (upd (upd H6 v1 (.tup [V.str "either", .int ((m : Int) + 1), .int (m : Nat), .int 0])) v2 (.tup [.int ((m : Int) + 2), .int 0])) v3 (.tup [V.str "made", .str "g", .ref v2])) v3 = _ from upd_same)
    have dN : DrA No (upd (upd (upd (upd H6 v1 (.tup [V.str "either", .int ((m : Int) + 1), .int (m : Nat), .int 0])) v2 (.tup [.int ((m : Int) + 2), .int 0])) v3 (.tup [V.str "made", .str "g", .ref v2])) v4 (.lst [V.ref v1, .ref v3])) [V.ref v1, .ref v3] [.tuple [.str "either", .int ((m : Int) + 1), .int (m : Nat), .int 0], .tuple [.str "made", .str "g", .tuple [.int ((m : Int) + 2), .int 0]]] :=
      .cons (.tup d1 (.cons (.str _) (.cons (.int _) (.cons (.int _) (.one (.int _)))))) (.one (.tup d3 (.cons (.str _) (.cons (.str _) (.one (.tup d2 (.cons (.int _) (.one (.int _)))))))))
    have ev4 : upd (upd (upd (upd H6 v1 (.tup [V.str "either", .int ((m : Int) + 1), .int (m : Nat), .int 0])) v2 (.tup [.int ((m : Int) + 2), .int 0])) v3 (.tup [V.str "made", .str "g", .ref v2])) v4 (.lst [V.ref v1, .ref v3]) v4 = some (.lst [V.ref v1, .ref v3]) := upd_same
    have elq2 := a14 _ _ elq
    have dlq2 := (dlq.sm a14).append dN
    generalize upd (upd (upd (upd H6 v1 (.tup [V.str "either", .int ((m : Int) + 1), .int (m : Nat), .int 0])) v2 (.tup [.int ((m : Int) + 2), .int 0])) v3 (.tup [V.str "made", .str "g", .ref v2])) v4 (.lst [V.ref v1, .ref v3]) = H7 at ev4 elq2 dlq2 ⊢
    refine ⟨lq, v4, _, _, rfl, rfl, elq2, ev4, by simp; omega, ?_⟩
    refine ⟨lq, rfl, ?_⟩
    rw [webV_data]
    have st : Stays No H7 (upd H7 lq (.lst (zs ++ [V.ref v1, .ref v3]))) := ⟨fun _ _ z => z.elim, fun b ws e => by
      rw [upd_ne fun z => by rw [z, elq2] at e; cases e]
      exact e⟩
    exact .lst trivial upd_same (dlq2.mono (fun _ z => z) st).all
  rintro σ7 H7 ⟨lr, rfl, rr⟩
  have hm0 : 1 ≤ m := by omega
  have WV := webV_web hm0
  have lV := webV_len m
  have scV := WV.scan
  have wdV : WR.wd (rowsD (webV m)) = true := fit_wd (rows_fit (n := 0) WV (webV_base m) (by omega))
  have hsum := webV_sum (m := m) (by omega)
  have hs' : ∀ R', ScanOf (rowsD (webV m)) R' .none → sumN R' [] ≤ 900000 := fun R' z => by
    obtain ⟨rfl, _⟩ := scV.det z
    exact hsum
  have pm : isPart (webV m) m = true := webV_part (by omega) (by omega)
  have pl : isPart (webV m) (m + 3) = true := webV_part (by omega) (by omega)
  -- found
  refine ⟨_, rfl, _, rfl, .ref lr, .int (m : Nat), _, .int (m : Nat), rfl, rr, wdV, .int _, hs', fun R' k' H8 z e1 p1 s8 => ?_, ways_no scV pm⟩
  obtain ⟨rfl, _⟩ := scV.det z
  obtain rfl : m = k' := by injection e1 with e1; omega
  rw [depth_v hm0 m (Nat.le_refl m)]
  clear z e1 p1
  refine ⟨_, rfl, _, rfl, .ref lr, .int (m : Nat), _, .int (m : Nat), rfl, rr.sm s8, wdV, .int _, hs', fun R' k' ks H9 z e1 p1 s9 hc => ?_, ways_no scV pm⟩
  obtain ⟨rfl, _⟩ := scV.det z
  obtain rfl : m = k' := by injection e1 with e1; omega
  obtain rfl := hc.uniq (cone_m m)
  rw [made_m]
  clear z e1 p1 hc
  have s79 := s8.trans s9
  refine ⟨_, rfl, _, rfl, .ref lr, .int (m : Nat), _, .int (m : Nat), rfl, rr.sm s79, wdV, .int _, hs', fun R' k' H10 z e1 p1 s10 => ?_, ways_no scV pm⟩
  obtain ⟨rfl, _⟩ := scV.det z
  obtain rfl : m = k' := by injection e1 with e1; omega
  have htm := tree_v hm0 m (Nat.le_refl m)
  generalize fL (measG List.sum (webV m)) m = tm at htm
  clear z e1 p1
  have s7a := s79.trans s10
  refine ⟨_, rfl, _, rfl, _, _, rfl, rfl, .ref lr, .int (m + 3 : Nat), _, .int (m + 3 : Nat), rfl, rr.sm s7a, wdV, .int _, hs', fun R' k' H11 z e1 p1 s11 => ?_, ways_no scV pl⟩
  obtain ⟨rfl, _⟩ := scV.det z
  obtain rfl : m + 3 = k' := by injection e1 with e1; omega
  rw [tree_l hm0]
  clear z e1 p1
  have s7b := s7a.trans s11
  refine ⟨(by show 4 ≤ sizeLine; decide), fun fl nfl => ?_⟩
  have sf := Sm.new (o := .lst [.int (m + 1 : Nat), .int (m + 1 : Nat), .int (tm : Nat), .int (3 * (2 ^ (m + 1) - 1) + 3 : Nat)]) nfl
  have efl : upd H11 fl (.lst [.int (m + 1 : Nat), .int (m + 1 : Nat), .int (tm : Nat), .int (3 * (2 ^ (m + 1) - 1) + 3 : Nat)]) fl = some (.lst [.int (m + 1 : Nat), .int (m + 1 : Nat), .int (tm : Nat), .int (3 * (2 ^ (m + 1) - 1) + 3 : Nat)]) := upd_same
  have nfl7 : H7 fl = none := s7b.free nfl
  have s7c := s7b.trans sf
  generalize upd H11 fl (.lst [.int (m + 1 : Nat), .int (m + 1 : Nat), .int (tm : Nat), .int (3 * (2 ^ (m + 1) - 1) + 3 : Nat)]) = H12 at efl s7c ⊢
  clear sf nfl s7b s7a s79 s8 s9 s10 s11
  -- found.append(tests_in(rows, many + 3))
  refine ⟨_, rfl, .inl ⟨rfl, _, SqL.of efl⟩, ?_⟩
  refine ⟨_, rfl, _, rfl, _, _, rfl, rfl, .ref lr, .int (m + 3 : Nat), _, .int (m + 3 : Nat), rfl, rr.sm s7c, wdV, .int _, hs', fun R' k' ks c H13 z e1 p1 s13 nc hc ec => ?_, ways_no scV pl⟩
  obtain ⟨rfl, _⟩ := scV.det z
  obtain rfl : m + 3 = k' := by injection e1 with e1; omega
  obtain rfl := hc.uniq (cone_l hm0)
  rw [asked_l] at ec
  clear z e1 p1 hc
  have efl13 := s13 _ _ efl
  have ncf : c ≠ fl := fun z => by rw [z, efl] at nc; cases nc
  refine ⟨fl, _, _, rfl, rfl, efl13, (by show 4 < sizeLine; decide), ?_⟩
  have s7d : Sm H7 (upd H13 fl (.lst ([.int (m + 1 : Nat), .int (m + 1 : Nat), .int (tm : Nat), .int (3 * (2 ^ (m + 1) - 1) + 3 : Nat)] ++ [.ref c]))) := fun b o e => by
    rw [upd_ne (ne_of_none e nfl7)]
    exact s13 _ _ (s7c _ _ e)
  have efl2 : upd H13 fl (.lst ([.int (m + 1 : Nat), .int (m + 1 : Nat), .int (tm : Nat), .int (3 * (2 ^ (m + 1) - 1) + 3 : Nat)] ++ [.ref c])) fl = some (.lst [.int (m + 1 : Nat), .int (m + 1 : Nat), .int (tm : Nat), .int (3 * (2 ^ (m + 1) - 1) + 3 : Nat), .ref c]) := upd_same
  have ec2 : upd H13 fl (.lst ([.int (m + 1 : Nat), .int (m + 1 : Nat), .int (tm : Nat), .int (3 * (2 ^ (m + 1) - 1) + 3 : Nat)] ++ [.ref c])) c = some (.lst (vN [m + 1])) := by
    rw [upd_ne ncf]
    exact ec
  have rF : Dr All (upd H13 fl (.lst ([.int (m + 1 : Nat), .int (m + 1 : Nat), .int (tm : Nat), .int (3 * (2 ^ (m + 1) - 1) + 3 : Nat)] ++ [.ref c]))) (.ref fl) (.list [.int (m + 1 : Nat), .int (m + 1 : Nat), .int (tm : Nat), .int (3 * (2 ^ (m + 1) - 1) + 3 : Nat), .list (nums [m + 1])]) := .lst trivial efl2 (.cons (.int _) (.cons (.int _) (.cons (.int _) (.cons (.int _) (.one (.lst trivial ec2 (vints_dr _)))))))
  generalize upd H13 fl (.lst ([.int (m + 1 : Nat), .int (m + 1 : Nat), .int (tm : Nat), .int (3 * (2 ^ (m + 1) - 1) + 3 : Nat)] ++ [.ref c])) = H14 at s7d rF ⊢
  clear efl2 ec2 efl13 ncf s13 nc ec s7c efl nfl7
  have rr14 := rr.sm s7d
  clear s7d rr
  -- most, whole, last
  refine ⟨_, rfl, _, _, rfl, rfl, m + 1, rfl, rfl, by omega, _, _, rfl, rfl, ?_⟩
  have rgw : rgV 0 ((m : Int) + 1) = vN (List.range (m + 1)) := rg_vN (m + 1)
  refine ⟨_, rfl, _, _, rfl, rfl, _, rfl, ⟨by omega, by omega, by omega, by omega, by omega⟩, fun wl nwl => ?_⟩
  rw [rgw]
  have sw := Sm.new (o := .lst (vN (List.range (m + 1)))) nwl
  have ewl : upd H14 wl (.lst (vN (List.range (m + 1)))) wl = some (.lst (vN (List.range (m + 1)))) := upd_same
  have rr15 := rr14.sm sw
  have rF15 := rF.sm sw
  generalize upd H14 wl (.lst (vN (List.range (m + 1)))) = H15 at ewl rr15 rF15 ⊢
  clear sw nwl rr14 rF
  refine ⟨_, rfl, _, _, rfl, rfl, _, _, _, rfl, ?_⟩
  have er4 : List.range (m + 4) = List.range (m + 1) ++ [m + 1, m + 2, m + 3] := by
    rw [List.range_succ, List.range_succ, List.range_succ]
    simp
  -- if not _law_same([needs_of(..), needs_of(..)], ..)
  refine ⟨fun σ6 H6 => σ6 = [some (.ref a), x1, some (.ref wa), some (.int (m : Nat)), some (.ref lr), x5, x6, some (.ref fl), some (.int (2 ^ (m + 1) - 1)), some (.ref wl), some (.int ((m : Int) + 3)), none, none, none] ∧ Sm H15 H6, ?_, ?_⟩
  · refine ⟨_, rfl, _, rfl, .ref lr, .int (m : Nat), _, .int (m : Nat), rfl, rr15, wdV, .int _, hs', fun R' k' ks c1 H16 z e1 p1 s16 nc hc ec1 => ?_, fun R' n x dx H' z _ _ _ => absurd (scV.det z).2 (nf _ _), fun R' dx H' z hp _ _ _ => ?_⟩
    rotate_left
    · obtain ⟨rfl, _⟩ := scV.det z
      rw [isPartD_nat, pm] at hp
      cases hp
    obtain ⟨rfl, _⟩ := scV.det z
    obtain rfl : m = k' := by injection e1 with e1; omega
    obtain rfl := hc.uniq (cone_m m)
    clear z e1 p1 hc nc
    refine ⟨_, rfl, _, rfl, .ref lr, .int (m + 3 : Nat), _, .int (m + 3 : Nat), rfl, rr15.sm s16, wdV, .int _, hs', fun R' k' ks c2 H17 z e1 p1 s17 nc hc ec2 => ?_, fun R' n x dx H' z _ _ _ => absurd (scV.det z).2 (nf _ _), fun R' dx H' z hp _ _ _ => ?_⟩
    rotate_left
    · obtain ⟨rfl, _⟩ := scV.det z
      rw [isPartD_nat, pl] at hp
      cases hp
    obtain ⟨rfl, _⟩ := scV.det z
    obtain rfl : m + 3 = k' := by injection e1 with e1; omega
    obtain rfl := hc.uniq (cone_l hm0)
    clear z e1 p1 hc nc
    refine ⟨sz2, fun p np => ?_⟩
    have sp := Sm.new (o := .lst [.ref c1, .ref c2]) np
    have r1 : Dr All (upd H17 p (.lst [.ref c1, .ref c2])) (.ref p) (.list [.list (nums (List.range (m + 1))), .list (nums (List.range (m + 4)))]) := .lst trivial upd_same (.cons (.lst trivial (sp _ _ (s17 _ _ ec1)) (vints_dr _)) (.one (.lst trivial (sp _ _ ec2) (vints_dr _))))
    have s15p := s16.trans (s17.trans sp)
    generalize upd H17 p (.lst [.ref c1, .ref c2]) = H18 at r1 s15p ⊢
    have ewl2 := s15p _ _ ewl
    refine ⟨_, rfl, _, rfl, _, rfl, _, _, rfl, rfl, _, rfl, _, _, rfl, rfl, _, rfl, (by show 3 ≤ sizeLine; decide), fun q1 nq1 => ?_⟩
    have t1 := Sm.new (o := .lst [.int ((m : Int) + 1), .int ((m : Int) + 2), .int ((m : Int) + 3)]) nq1
    have eq1 : upd H18 q1 (.lst [.int ((m : Int) + 1), .int ((m : Int) + 2), .int ((m : Int) + 3)]) q1 = some (.lst [.int ((m : Int) + 1), .int ((m : Int) + 2), .int ((m : Int) + 3)]) := upd_same
    refine ⟨wl, q1, _, _, rfl, rfl, t1 _ _ ewl2, eq1, by simp [vN]; omega, fun q2 nq2 => ⟨sz2, fun q3 nq3 => ?_⟩⟩
    have t2 := Sm.new (o := .lst (vN (List.range (m + 1)) ++ [.int ((m : Int) + 1), .int ((m : Int) + 2), .int ((m : Int) + 3)])) nq2
    have eq2 : upd (upd H18 q1 (.lst [.int ((m : Int) + 1), .int ((m : Int) + 2), .int ((m : Int) + 3)])) q2 (.lst (vN (List.range (m + 1)) ++ [.int ((m : Int) + 1), .int ((m : Int) + 2), .int ((m : Int) + 3)])) q2 = some (.lst (vN (List.range (m + 4)))) := by
      rw [upd_same, er4]
      simp [vN]
    have t3 := Sm.new (o := .lst [.ref wl, .ref q2]) nq3
    have t13 := t1.trans (t2.trans t3)
    have f1 : fit (.list (nums (List.range (m + 1)))) 2 = true := numsL_fit (n := 1) (fun k hk => by have := List.mem_range.mp hk; omega) (by rw [List.length_range]; omega)
    have f2 : fit (.list (nums (List.range (m + 4)))) 2 = true := numsL_fit (n := 1) (fun k hk => by have := List.mem_range.mp hk; omega) (by rw [List.length_range]; omega)
    refine ⟨_, _, .list [.list (nums (List.range (m + 1))), .list (nums (List.range (m + 4)))], rfl, r1.sm t13, .lst trivial upd_same (.cons (.lst trivial (t13 _ _ ewl2) (vints_dr _)) (.one (.lst trivial (t3 _ _ eq2) (vints_dr _)))), ?_, fun H19 s19 => ⟨_, rfl, iteF ⟨rfl, s15p.trans (t13.trans s19)⟩⟩⟩
    refine fit_mono (show 3 ≤ 6 by decide) ?_
    simp only [fit, fitA, List.length_cons, List.length_nil, Bool.and_eq_true, decide_eq_true_eq, Nat.add_sub_cancel] at f1 f2 ⊢
    exact ⟨⟨by omega, by omega⟩, f1, f2, trivial⟩
  rintro σ16 H16 ⟨rfl, s16⟩
  have rr16 := rr15.sm s16
  have rF16 := rF15.sm s16
  have ewl16 := s16 _ _ ewl
  clear rr15 rF15 ewl s16
  -- told
  have tok0 : TsOk (webV m) [] := ⟨by show 0 ≤ lim; omega, fun p hp => by cases hp⟩
  have tok1 : ∀ b, TsOk (webV m) [(m + 1, b)] := fun b => ⟨by show 1 ≤ lim; omega, fun p hp => by
    rw [List.mem_singleton.mp hp]
    exact ⟨by rw [lV]; show m + 1 < m + 4; omega, by show (rowAt (webV m) (m + 1)).isAsked = true; rw [webV_ask]; rfl⟩⟩
  have de0 : dec (tF []) (webV m) = (webV m, List.range (m + 4)) := dec_none hm0 rfl
  have de1 : dec (tF [(m + 1, true)]) (webV m) = (webT m ++ [.made "g" [m, 0]], List.range (m + 2) ++ [m, m + 2]) := dec_side (b := true) (if_pos rfl)
  have de2 : dec (tF [(m + 1, false)]) (webV m) = (webT m ++ [.made "g" [0, 0]], List.range (m + 2) ++ [0, m + 2]) := dec_side (b := false) (if_pos rfl)
  have ft : ∀ ts, fit (pairD (dec (tF ts) (webV m)).1 (dec (tF ts) (webV m)).2) 4 = true := fun ts => fits_of WV (webV_base m) (by omega)
  have f0 := ft []
  have f1 := ft [(m + 1, true)]
  have f2 := ft [(m + 1, false)]
  rw [de0] at f0
  rw [de1] at f1
  rw [de2] at f2
  have Y16 := cy_sm H16
  refine seq_asg (run_y (Yd.lst Y16 (by show 3 ≤ 100; decide) (Ya.cons Y16 (Yd.dec Y16 WV wdV tok0 (Yd.var rfl fun H c => rr16.sm c) Yt.no) (Ya.cons Y16 (Yd.dec Y16 WV wdV (tok1 true) (Yd.var rfl fun H c => rr16.sm c) (Yt.add rfl)) (Ya.one Y16 (Yd.dec Y16 WV wdV (tok1 false) (Yd.var rfl fun H c => rr16.sm c) (Yt.add rfl)))))) Sm.rfl' fun tlv H17 s17 rT => ?_)
  rw [de0, de1, de2] at rT
  have rr17 := rr16.sm s17
  have rF17 := rF16.sm s17
  have ewl17 := s17 _ _ ewl16
  clear rr16 rF16 ewl16 s17 Y16 de0 de1 de2 ft
  -- due
  have rgl : rgV 0 ((m + 4 : Nat) : Int) = vN (List.range (m + 4)) := rg_vN (m + 4)
  refine ⟨_, rfl, _, rfl, .ref lr, _, rfl, rr17, rfl, ?_⟩
  rw [lenD, lV]
  refine ⟨_, rfl, ⟨by omega, by omega, by omega, by omega, by omega⟩, fun xl nxl => ?_⟩
  rw [rgl]
  refine ⟨sz2, fun xt nxt => ⟨(by show 1 ≤ sizeLine; decide), fun dl ndl => ?_⟩⟩
  have a1 := Sm.new (o := .lst (vN (List.range (m + 4)))) nxl
  have a2 := Sm.new (o := .tup [.ref lr, .ref xl]) nxt
  have a3 := Sm.new (o := .lst [V.ref xt]) ndl
  have a12 := a1.trans a2
  have d0 : Dr All (upd (upd H17 xl (.lst (vN (List.range (m + 4))))) xt (.tup [.ref lr, .ref xl])) (.ref xt) (pairD (webV m) (List.range (m + 4))) := .tup upd_same (.cons (rr17.sm a12) (.one (.lst trivial (a2 _ _ upd_same) (vints_dr _))))
  have w0 : Dr All (upd (upd H17 xl (.lst (vN (List.range (m + 4))))) xt (.tup [.ref lr, .ref xl])) (.ref wl) (.list (nums (List.range (m + 1)))) := .lst trivial (a12 _ _ ewl17) (vints_dr _)
  have e0 := dr_not a3 ndl d0
  have w1 := dr_not a3 ndl w0
  have rr20 := dr_not a3 ndl (rr17.sm a12)
  have rT20 := dr_not a3 ndl (rT.sm a12)
  have rF20 := dr_not a3 ndl (rF17.sm a12)
  have edl : upd (upd (upd H17 xl (.lst (vN (List.range (m + 4))))) xt (.tup [.ref lr, .ref xl])) dl (.lst [V.ref xt]) dl = some (.lst [V.ref xt]) := upd_same
  generalize upd (upd (upd H17 xl (.lst (vN (List.range (m + 4))))) xt (.tup [.ref lr, .ref xl])) dl (.lst [V.ref xt]) = H20 at e0 w1 rr20 rT20 rF20 edl ⊢
  clear a1 a2 a3 a12 d0 w0 nxl nxt ndl rr17 rT rF17 ewl17
  have lcut : ∀ k, (cutA ((webV m).map Row.d) none (some ((m : Int) + 2)) ++ [PyData.tuple [.str "made", .str "g", .tuple [.int (k : Nat), .int 0]]]).length ≤ 1000 := fun k => by
    have h1 : cutA ((webV m).map Row.d) none (some ((m : Int) + 2)) = ((webV m).map Row.d).take (m + 2) := cutA_to _ (m + 2)
    rw [h1, List.length_append, List.length_take, List.length_map, lV]
    simp
    omega
  -- due.append
  refine seq_drop (app_y rfl (cy_ne edl) (fun H c => c _ _ edl) (Yd.tup (by show 2 ≤ 100; decide) (Ya.cons (cy_ne edl) (Yd.catL (cy_ne edl) (Yd.slL (cy_ne edl) (Yd.var rfl fun H c => rr20.sm c) Yo.no (Yo.addy rfl)) (Yd.lst (cy_ne edl) (by show 1 ≤ 100; decide) (Ya.one (cy_ne edl) (Yd.tup (by show 3 ≤ 100; decide) (Ya.cons (cy_ne edl) (Yd.str _) (Ya.cons (cy_ne edl) (Yd.str _) (Ya.one (cy_ne edl) (Yd.tup (by show 2 ≤ 100; decide) (Ya.cons (cy_ne edl) (Yd.vint rfl) (Ya.one (cy_ne edl) (Yd.int _)))))))))) (by have := lcut m; rw [List.length_append] at this; exact this)) (Ya.one (cy_ne edl) (Yd.catL (cy_ne edl) (Yd.var rfl fun H c => w1.sm c) (Yd.lst (cy_ne edl) (by show 3 ≤ 100; decide) (Ya.cons (cy_ne edl) (Yd.addv rfl) (Ya.cons (cy_ne edl) (Yd.vint rfl) (Ya.one (cy_ne edl) (Yd.addv rfl))))) (by simp [nums]; omega))))) Sm.rfl' (by show 1 ≤ 100; decide) fun v1 H21 s21 r21 => ?_)
  rw [due_eq m m] at r21
  have e21 := s21 _ _ edl
  have st := stays_own (o := .lst ([V.ref xt] ++ [v1])) e21
  have edl2 : upd H21 dl (.lst ([V.ref xt] ++ [v1])) dl = some (.lst [V.ref xt, v1]) := upd_same
  have e02 := (e0.sm s21).mono (fun _ z => z) st
  have w2 := (w1.sm s21).mono (fun _ z => z) st
  have rr22 := (rr20.sm s21).mono (fun _ z => z) st
  have rT22 := (rT20.sm s21).mono (fun _ z => z) st
  have rF22 := (rF20.sm s21).mono (fun _ z => z) st
  have d1 := r21.mono (fun _ z => z) st
  generalize upd H21 dl (.lst ([V.ref xt] ++ [v1])) = H22 at e02 w2 rr22 rT22 rF22 d1 edl2 ⊢
  clear st e21 r21 s21 e0 w1 rr20 rT20 rF20 edl
  refine seq_drop (app_y rfl (cy_ne edl2) (fun H c => c _ _ edl2) (Yd.tup (by show 2 ≤ 100; decide) (Ya.cons (cy_ne edl2) (Yd.catL (cy_ne edl2) (Yd.slL (cy_ne edl2) (Yd.var rfl fun H c => rr22.sm c) Yo.no (Yo.addy rfl)) (Yd.lst (cy_ne edl2) (by show 1 ≤ 100; decide) (Ya.one (cy_ne edl2) (Yd.tup (by show 3 ≤ 100; decide) (Ya.cons (cy_ne edl2) (Yd.str _) (Ya.cons (cy_ne edl2) (Yd.str _) (Ya.one (cy_ne edl2) (Yd.tup (by show 2 ≤ 100; decide) (Ya.cons (cy_ne edl2) (Yd.int _) (Ya.one (cy_ne edl2) (Yd.int _)))))))))) (by have := lcut 0; rw [List.length_append] at this; exact this)) (Ya.one (cy_ne edl2) (Yd.catL (cy_ne edl2) (Yd.var rfl fun H c => w2.sm c) (Yd.lst (cy_ne edl2) (by show 3 ≤ 100; decide) (Ya.cons (cy_ne edl2) (Yd.addv rfl) (Ya.cons (cy_ne edl2) (Yd.int _) (Ya.one (cy_ne edl2) (Yd.addv rfl))))) (by simp [nums]; omega))))) Sm.rfl' (by show 2 ≤ 100; decide) fun v2 H23 s23 r23 => ?_)
  have r23' := due_eq m 0 ▸ r23
  clear r23
  have e23 := s23 _ _ edl2
  have st := stays_own (o := .lst ([V.ref xt, v1] ++ [v2])) e23
  have edl3 : upd H23 dl (.lst ([V.ref xt, v1] ++ [v2])) dl = some (.lst [V.ref xt, v1, v2]) := upd_same
  have e03 := (e02.sm s23).mono (fun _ z => z) st
  have d12 := (d1.sm s23).mono (fun _ z => z) st
  have rT24 := ((rT22.sm s23).mono (fun _ z => z) st).all
  have rF24 := ((rF22.sm s23).mono (fun _ z => z) st).all
  have d2 := r23'.mono (fun _ z => z) st
  generalize upd H23 dl (.lst ([V.ref xt, v1] ++ [v2])) = H24 at e03 rT24 rF24 d12 d2 edl3 ⊢
  clear st e23 r23' s23 e02 w2 rr22 rT22 rF22 edl2 d1
  have rD : Dr All H24 (.ref dl) (.list [pairD (webV m) (List.range (m + 4)), pairD (webT m ++ [.made "g" [m, 0]]) (List.range (m + 2) ++ [m, m + 2]), pairD (webT m ++ [.made "g" [0, 0]]) (List.range (m + 2) ++ [0, m + 2])]) := .lst trivial edl3 (.cons e03.all (.cons d12.all (.one d2.all)))
  have ff : fit (.list [pairD (webV m) (List.range (m + 4)), pairD (webT m ++ [.made "g" [m, 0]]) (List.range (m + 2) ++ [m, m + 2]), pairD (webT m ++ [.made "g" [0, 0]]) (List.range (m + 2) ++ [0, m + 2])]) 6 = true := by
    refine fit_mono (show 5 ≤ 6 by decide) ?_
    simp only [fit, fitA, List.length_cons, List.length_nil, Bool.and_eq_true, decide_eq_true_eq]
    exact ⟨⟨by omega, by omega⟩, f0, f1, f2, trivial⟩
  clear e03 d12 d2 edl3
  refine ⟨fun σ6 H6 => σ6 = [some (.ref a), x1, some (.ref wa), some (.int (m : Nat)), some (.ref lr), x5, x6, some (.ref fl), some (.int (2 ^ (m + 1) - 1)), some (.ref wl), some (.int ((m : Int) + 3)), some tlv, some (.ref dl), none] ∧ Sm H24 H6, ?_, ?_⟩
  · exact if_same (Ya.cons (cy_sm H24) (Yd.var rfl fun H c => rT24.sm c) (Ya.one (cy_sm H24) (Yd.var rfl fun H c => rD.sm c))) Sm.rfl' ff fun H' s => ⟨rfl, s⟩
  rintro σ25 H25 ⟨rfl, s25⟩
  have rF25 := rF24.sm s25
  clear rT24 rD ff rF24 s25 f0 f1 f2
  -- found
  have hM : (2 : Nat) ^ (m + 1) ≤ 2 ^ 100 := Nat.pow_le_pow_right (by decide) (by omega)
  have c100 : (2 : Nat) ^ 100 = 1267650600228229401496703205376 := by decide +kernel
  have c104 : (2 : Nat) ^ 104 = 20282409603651670423947251286016 := by decide +kernel
  have hmi : ((2 : Int) ^ (m + 1) - 1) = (tm : Nat) := by
    have : ((2 ^ (m + 1) : Nat) : Int) = (2 : Int) ^ (m + 1) := by simp
    rw [← this]
    omega
  have hmn : 3 * (2 ^ (m + 1) - 1) + 3 = 3 * tm + 3 := by omega
  rw [hmn] at rF25
  rw [c100] at hM
  have fF : fit (.list [.int (m + 1 : Nat), .int (m + 1 : Nat), .int (tm : Nat), .int (3 * tm + 3 : Nat), .list (nums [m + 1])]) 6 = true := by
    have g1 := big_fit2 (k := m + 1) (n := 5) (by rw [c104]; omega)
    have g2 := big_fit2 (k := tm) (n := 5) (by rw [c104]; omega)
    have g3 := big_fit2 (k := 3 * tm + 3) (n := 5) (by rw [c104]; omega)
    have g4 : fit (.list (nums [m + 1])) 5 = true := numsL_fit (n := 4) (fun k hk => by rw [List.mem_singleton.mp hk]; omega) (by show 1 ≤ lim; omega)
    simp only [fit, fitA, List.length_cons, List.length_nil, Bool.and_eq_true, decide_eq_true_eq] at g1 g2 g3 g4 ⊢
    exact ⟨⟨by omega, by omega⟩, g1, g1, g2, g3, g4, trivial⟩
  refine ⟨fun σ6 H6 => σ6 = [some (.ref a), x1, some (.ref wa), some (.int (m : Nat)), some (.ref lr), x5, x6, some (.ref fl), some (.int (2 ^ (m + 1) - 1)), some (.ref wl), some (.int ((m : Int) + 3)), some tlv, some (.ref dl), none], ?_, ?_⟩
  · refine if_same (d := .list [.int (m + 1 : Nat), .int (m + 1 : Nat), .int (tm : Nat), .int (3 * tm + 3 : Nat), .list (nums [m + 1])]) (Ya.cons (cy_sm H25) (Yd.var rfl fun H c => rF25.sm c) (Ya.one (cy_sm H25) (?_ : Yd All (Sm H25) _ _ _))) Sm.rfl' fF fun H' s => rfl
    have e : PyData.list [.int (m + 1 : Nat), .int (m + 1 : Nat), .int (tm : Nat), .int (3 * tm + 3 : Nat), .list (nums [m + 1])] = .list [.int ((m : Int) + 1), .int ((m : Int) + 1), .int (2 ^ (m + 1) - 1), .int (3 * (2 ^ (m + 1) - 1) + 3), .list [.int ((m : Int) + 1)]] := by
      rw [hmi]
      simp [nums]
    rw [e]
    exact Yd.lst (cy_sm H25) (by show 5 ≤ 100; decide) (Ya.cons (cy_sm H25) (Yd.addv rfl) (Ya.cons (cy_sm H25) (Yd.addv rfl) (Ya.cons (cy_sm H25) (Yd.vint rfl) (Ya.cons (cy_sm H25) (Yd.mul3 rfl) (Ya.one (cy_sm H25) (Yd.lst (cy_sm H25) (by show 1 ≤ 100; decide) (Ya.one (cy_sm H25) (Yd.addv rfl))))))))
  rintro σ26 H26 rfl
  clear rF25 fF
  -- the first small web
  have Y26 := cy_sm H26
  refine seq_asg (run_y (d := rowsD (w1.take 5)) (Yd.lst Y26 (by show 5 ≤ 100; decide) (Ya.cons Y26 (Yd.tup (by show 3 ≤ 100; decide) (Ya.cons Y26 (Yd.str _) (Ya.cons Y26 (Yd.str _) (Ya.one Y26 (Yd.tup (by show 0 ≤ 100; decide) Ya.nil))))) (Ya.cons Y26 (Yd.tup (by show 3 ≤ 100; decide) (Ya.cons Y26 (Yd.str _) (Ya.cons Y26 (Yd.str _) (Ya.one Y26 (Yd.tup (by show 2 ≤ 100; decide) (Ya.cons Y26 (Yd.int _) (Ya.one Y26 (Yd.int _)))))))) (Ya.cons Y26 (Yd.tup (by show 3 ≤ 100; decide) (Ya.cons Y26 (Yd.str _) (Ya.cons Y26 (Yd.str _) (Ya.one Y26 (Yd.tup (by show 2 ≤ 100; decide) (Ya.cons Y26 (Yd.int _) (Ya.one Y26 (Yd.int _)))))))) (Ya.cons Y26 (Yd.tup (by show 3 ≤ 100; decide) (Ya.cons Y26 (Yd.str _) (Ya.cons Y26 (Yd.str _) (Ya.one Y26 (Yd.tup (by show 1 ≤ 100; decide) (Ya.one Y26 (Yd.int _))))))) (Ya.one Y26 (Yd.tup (by show 4 ≤ 100; decide) (Ya.cons Y26 (Yd.str _) (Ya.cons Y26 (Yd.int _) (Ya.cons Y26 (Yd.int _) (Ya.one Y26 (Yd.int _)))))))))))) Sm.rfl' fun wv H27 s27 r27 => ?_)
  have Y27 := cy_sm H27
  refine seq_asg (run_y (Yd.dec Y27 w1_web (by kernel_rfl) w1_tok (show Yd All (Sm H27) _ _ (rowsD w1) from Yd.catL Y27 (Yd.var rfl fun H c => r27.sm c) (Yd.lst Y27 (by show 1 ≤ 100; decide) (Ya.one Y27 (Yd.tup (by show 3 ≤ 100; decide) (Ya.cons Y27 (Yd.str _) (Ya.cons Y27 (Yd.str _) (Ya.one Y27 (Yd.tup (by show 1 ≤ 100; decide) (Ya.one Y27 (Yd.int _))))))))) (by show 6 ≤ 1000; decide)) Yt.one) Sm.rfl' fun tv H28 s28 r28 => ?_)
  rw [w1_dec] at r28
  have r27' := r27.sm s28
  have Y28 := cy_sm H28
  refine ⟨fun σ6 H6 => σ6 = [some (.ref a), x1, some (.ref wa), some (.int (m : Nat)), some (.ref lr), some wv, x6, some (.ref fl), some (.int (2 ^ (m + 1) - 1)), some (.ref wl), some (.int ((m : Int) + 3)), some tv, some (.ref dl), none], ?_, ?_⟩
  · refine if_same (d := pairD [.made "one" [], .made "f" [0, 0], .made "f" [1, 1], .asked "t" [2], .made "g" [0]] [0, 1, 2, 3, 0, 4]) (Ya.cons Y28 (Yd.var rfl fun H c => r28.sm c) (Ya.one Y28 (?_ : Yd All (Sm H28) _ _ _))) Sm.rfl' (by kernel_rfl) fun H' s => rfl
    exact Yd.tup (by show 2 ≤ 100; decide) (Ya.cons Y28 (Yd.catL (ds := (w1.take 4).map Row.d) Y28 (Yd.slL Y28 (ds := (w1.take 5).map Row.d) (Yd.var rfl fun H c => r27'.sm c) Yo.no (Yo.int _)) (Yd.lst Y28 (by show 1 ≤ 100; decide) (Ya.one Y28 (Yd.tup (by show 3 ≤ 100; decide) (Ya.cons Y28 (Yd.str _) (Ya.cons Y28 (Yd.str _) (Ya.one Y28 (Yd.tup (by show 1 ≤ 100; decide) (Ya.one Y28 (Yd.int _))))))))) (by show 5 ≤ 1000; decide)) (Ya.one Y28 (Yd.lst Y28 (by show 6 ≤ 100; decide) (Ya.cons Y28 (Yd.int _) (Ya.cons Y28 (Yd.int _) (Ya.cons Y28 (Yd.int _) (Ya.cons Y28 (Yd.int _) (Ya.cons Y28 (Yd.int _) (Ya.one Y28 (Yd.int _))))))))))
  rintro σ29 H29 rfl
  -- the second one
  have Y29 := cy_sm H29
  refine seq_asg (run_y (d := rowsD (w2.take 5)) (Yd.lst Y29 (by show 5 ≤ 100; decide) (Ya.cons Y29 (Yd.tup (by show 3 ≤ 100; decide) (Ya.cons Y29 (Yd.str _) (Ya.cons Y29 (Yd.str _) (Ya.one Y29 (Yd.tup (by show 0 ≤ 100; decide) Ya.nil))))) (Ya.cons Y29 (Yd.tup (by show 3 ≤ 100; decide) (Ya.cons Y29 (Yd.str _) (Ya.cons Y29 (Yd.str _) (Ya.one Y29 (Yd.tup (by show 0 ≤ 100; decide) Ya.nil))))) (Ya.cons Y29 (Yd.tup (by show 3 ≤ 100; decide) (Ya.cons Y29 (Yd.str _) (Ya.cons Y29 (Yd.str _) (Ya.one Y29 (Yd.tup (by show 1 ≤ 100; decide) (Ya.one Y29 (Yd.int _))))))) (Ya.cons Y29 (Yd.tup (by show 4 ≤ 100; decide) (Ya.cons Y29 (Yd.str _) (Ya.cons Y29 (Yd.int _) (Ya.cons Y29 (Yd.int _) (Ya.one Y29 (Yd.int _)))))) (Ya.one Y29 (Yd.tup (by show 3 ≤ 100; decide) (Ya.cons Y29 (Yd.str _) (Ya.cons Y29 (Yd.str _) (Ya.one Y29 (Yd.tup (by show 1 ≤ 100; decide) (Ya.one Y29 (Yd.int _))))))))))))) Sm.rfl' fun wv2 H30 s30 r30 => ?_)
  have Y30 := cy_sm H30
  refine seq_asg (run_y (Yd.dec Y30 w2_web (by kernel_rfl) w2_tok (show Yd All (Sm H30) _ _ (rowsD w2) from Yd.catL Y30 (Yd.var rfl fun H c => r30.sm c) (Yd.lst Y30 (by show 2 ≤ 100; decide) (Ya.cons Y30 (Yd.tup (by show 4 ≤ 100; decide) (Ya.cons Y30 (Yd.str _) (Ya.cons Y30 (Yd.int _) (Ya.cons Y30 (Yd.int _) (Ya.one Y30 (Yd.int _)))))) (Ya.one Y30 (Yd.tup (by show 3 ≤ 100; decide) (Ya.cons Y30 (Yd.str _) (Ya.cons Y30 (Yd.str _) (Ya.one Y30 (Yd.tup (by show 2 ≤ 100; decide) (Ya.cons Y30 (Yd.int _) (Ya.one Y30 (Yd.int _))))))))))) (by show 7 ≤ 1000; decide)) Yt.one) Sm.rfl' fun tv2 H31 s31 r31 => ?_)
  rw [w2_dec] at r31
  have r30' := r30.sm s31
  have Y31 := cy_sm H31
  refine ret_y (call_same (d := pairD [.made "f" [], .made "g" [], .asked "t" [0], .asked "u" [0], .made "h" [0, 0]] [0, 1, 2, 0, 3, 0, 4]) (Ya.cons Y31 (Yd.var rfl fun H c => r31.sm c) (Ya.one Y31 (?_ : Yd All (Sm H31) _ _ _))) Sm.rfl' (by kernel_rfl) fun H' s => q H')
  exact Yd.tup (by show 2 ≤ 100; decide) (Ya.cons Y31 (Yd.catL (ds := (w2.take 3).map Row.d) Y31 (Yd.slL Y31 (ds := (w2.take 5).map Row.d) (Yd.var rfl fun H c => r30'.sm c) Yo.no (Yo.int _)) (Yd.lst Y31 (by show 2 ≤ 100; decide) (Ya.cons Y31 (Yd.tup (by show 3 ≤ 100; decide) (Ya.cons Y31 (Yd.str _) (Ya.cons Y31 (Yd.str _) (Ya.one Y31 (Yd.tup (by show 1 ≤ 100; decide) (Ya.one Y31 (Yd.int _))))))) (Ya.one Y31 (Yd.tup (by show 3 ≤ 100; decide) (Ya.cons Y31 (Yd.str _) (Ya.cons Y31 (Yd.str _) (Ya.one Y31 (Yd.tup (by show 2 ≤ 100; decide) (Ya.cons Y31 (Yd.int _) (Ya.one Y31 (Yd.int _))))))))))) (by show 5 ≤ 1000; decide)) (Ya.one Y31 (Yd.lst Y31 (by show 7 ≤ 100; decide) (Ya.cons Y31 (Yd.int _) (Ya.cons Y31 (Yd.int _) (Ya.cons Y31 (Yd.int _) (Ya.cons Y31 (Yd.int _) (Ya.cons Y31 (Yd.int _) (Ya.cons Y31 (Yd.int _) (Ya.one Y31 (Yd.int _)))))))))))
end
end K8

/-! The head: what is looked at behind the top. -/
namespace K8
open PySem PySem.Spec PyProof.Rows L2 WR LamX
def fn : List He.DefD := [dBadWeb_I, dBadPart_I, dBadTruths_I, dRowTable_I, dRowTable_put_in, dnamed_rows, dled_row, dcone_of, dis_list, dis_number, dare_numbers, dis_place, dis_letter, dis_figure, dbegins_name, dis_name, drow_form, drow_why, dscanned_web, djudged_web, dis_part, djudged_part, dneeded, dneeds_of, dsteps_in, dtests_in, ddepth_of, dtree_of, ddecided, dare_truths, dis_asked, ddecided_place, d_law_well, d_law_draw, d_law_pick, d_law_mixed, d_law_same, d_law_spoiled, d_law_k_needs, d_law_k_row, d_law_k_web, d_law_p_once, d_law_p_loose, d_law_met, d_law_under, d_law_depths, d_law_trees, d_law_led, d_law_decided, d_law_measured_right, d_law_decided_right, d_law_refused_right, dlaw]
def fa : List He.Fa := [.glo "named_rows", .glo "led_row", .glo "cone_of", .glo "is_list", .glo "is_number", .glo "are_numbers", .glo "is_place", .glo "is_letter", .glo "is_figure", .glo "begins_name", .glo "is_name", .glo "row_form", .glo "row_why", .glo "scanned_web", .glo "judged_web", .glo "is_part", .glo "judged_part", .glo "needed", .glo "needs_of", .glo "steps_in", .glo "tests_in", .glo "depth_of", .glo "tree_of", .glo "decided", .glo "are_truths", .glo "is_asked", .glo "decided_place", .glo "_law_well", .glo "_law_draw", .glo "_law_pick", .glo "_law_mixed", .glo "_law_same", .glo "_law_spoiled", .glo "_law_k_needs", .glo "_law_k_row", .glo "_law_k_web", .glo "_law_p_once", .glo "_law_p_loose", .glo "_law_met", .glo "_law_under", .glo "_law_depths", .glo "_law_trees", .glo "_law_led", .glo "_law_decided", .glo "_law_measured_right", .glo "_law_decided_right", .glo "_law_refused_right", .glo "law", .glo "PageError", .glo "BadWeb", .glo "BadPart", .glo "BadTruths", .glo "RowTable", .free "isinstance", .free "list", .free "tuple", .free "int", .free "bool", .free "str", .free "dict", .free "len", .free "all", .free "any", .free "range", .free "enumerate", .free "zip", .free "abs", .free "sum", .free "repr", .free "sorted", .free "max", .int "LONGEST_NAME" 8, .cls "RowTable", .mkr "RowTable", .meth "RowTable" "put_in", .noat "RowTable" "rows", .noat "RowTable" "where", .exm "BadWeb" "BadWeb" true, .exm "BadPart" "BadWeb" false, .exm "BadPart" "BadPart" true, .exm "BadTruths" "BadWeb" false, .exm "BadTruths" "BadPart" false, .exm "BadTruths" "BadTruths" true]
def names1 : List PySem.Str := ["PageError", "BadWeb", "BadPart", "BadTruths", "RowTable", "named_rows", "led_row", "cone_of", "LONGEST_NAME", "is_list", "is_number", "are_numbers", "is_place", "is_letter", "is_figure", "begins_name", "is_name", "row_form", "row_why", "scanned_web", "judged_web", "is_part"]
def names2 : List PySem.Str := ["judged_part", "needed", "needs_of", "steps_in", "tests_in", "depth_of", "tree_of", "decided", "are_truths", "is_asked", "decided_place", "_law_well", "_law_draw", "_law_pick", "_law_mixed", "_law_same", "_law_spoiled", "_law_k_needs", "_law_k_row", "_law_k_web", "_law_p_once", "_law_p_loose"]
def names3 : List PySem.Str := ["_law_met", "_law_under", "_law_depths", "_law_trees", "_law_led", "_law_decided", "_law_measured_right", "_law_decided_right", "_law_refused_right"]
def names : List PySem.Str := names1 ++ names2 ++ names3
/-- an error's class, beneath ValueError by classes of its own -/
def oexB (K : PySem.W.Frag) (C : Addr) : Bool :=
  match K.lookup C with
  | some ob =>
    (match ob with
    | ⟨.type cn, _, .cls dt, so⟩ =>
      decide (cn = "type") &&
      (match dt.mro, so.toList with
      | .ref C0 :: rest, [_, _, _, _, some (.builtin nw), _] => decide (C0 = C) && (decide (nw = "ValueError.__new__") && (!dt.hasDel && (dt.hasDict && PySem.HandSPX.refsVE rest)))
      | _, _ => false)
    | _ => false)
  | none => false
theorem oexB_ok {K : PySem.W.Frag} {C : Addr} (h : oexB K C = true) : ∃ nm q N bs bm sn sub ab col dd k0 k1 k2 k3 k5, K.lookup C = some (excClassObj nm q C N bs bm true sn sub ab col dd k0 k1 k2 k3 k5 "ValueError.__new__") ∧ PySem.HandSPX.refsVE bm = true := by
  unfold oexB at h
  cases e : K.lookup C with
  | none => rw [e] at h; cases h
  | some ob =>
    rw [e] at h
    obtain ⟨oc, od, dt, so⟩ := ob
    cases oc with
    | type cn =>
      cases dt with
      | cls d0 =>
        obtain ⟨h1, h2⟩ := Bool.and_eq_true_iff.mp (show (decide (cn = "type") && _) = true from h)
        have ec := of_decide_eq_true h1
        subst ec
        obtain ⟨z1, z2, z3, z4, z5, z6, z7, z8, z9, za, zb⟩ := d0
        obtain ⟨lo⟩ := so
        dsimp only at h2
        split at h2
        · rename_i C0 rest k0 k1 k2 k3 nw k5
          simp only [Bool.and_eq_true, decide_eq_true_eq, Bool.not_eq_true'] at h2
          obtain ⟨rfl, rfl, h3, h4, h5⟩ := h2
          subst h3 h4
          exact ⟨z1, z5, z4, z2, rest, z7, z8, z9, za, od, k0, k1, k2, k3, k5, rfl, h5⟩
        · cases h2
      | _ => cases h
    | _ => cases h
def eqV (a b : Option (Option Value)) : Bool := decide (a = b)
/-- what an error of the program's own shows -/
def errB (K : PySem.W.Frag) (x f : Str) : Bool :=
  oexB K (He.ga K x) && (eqV (PySem.W.findIn K (.ref (He.ga K x)) "__setattr__") (some (some (.builtin "object.__setattr__"))) && (decide (PySem.W.subIn K (.ref (He.ga K x)) (.type "BaseException") = some true) && (decide (PySem.W.typeIn K (.ref (He.ga K x)) = some (.type "type")) &&
  (PySem.W.keepIn K (.ref (He.ga K x)) && (eqV (PySem.W.findIn K (.ref (He.ga K x)) "__init__") (some (some (.ref (He.ma K (He.ga K x) "__init__")))) && (decide (PySem.W.typeIn K (.ref (He.ma K (He.ga K x) "__init__")) = some (.type "function")) &&
  (eqV (PySem.W.findIn K (.ref (He.ga K x)) f) (some none) && xfB K (He.ga K x))))))))
def initB : Option PySem.W.CFound → Bool
  | some (.val v) => decide (v = .builtin "ValueError.__init__")
  | _ => false
theorem initB_ok {o : Option PySem.W.CFound} (h : initB o = true) : o = some (.val (.builtin "ValueError.__init__")) := by
  unfold initB at h
  split at h
  · rw [of_decide_eq_true h]
  · cases h
def pgeB (K : PySem.W.Frag) : Bool :=
  decide (PySem.W.specialIn K (.ref (He.ga K "PageError")) "__getattribute__" = some (some (.builtin "type.__getattribute__"))) && (decide (PySem.W.typeIn K (.ref (He.ga K "PageError")) = some (.type "type")) && (PySem.W.readsIn K (He.ga K "PageError") (.type "type") &&
  initB (PySem.W.findCls K (.ref (He.ga K "PageError")) (.type "type") "__init__")))
/-- a function's code object, its table -/
def codeA (K : PySem.W.Frag) (x : Str) : Addr :=
  match K.lookup (He.ga K x) with
  | some ⟨_, _, .func fd, _⟩ => (match fd.code with
    | .ref c => c
    | _ => 0)
  | _ => 0
def tabA (K : PySem.W.Frag) (c : Addr) : Addr :=
  match K.lookup c with
  | some ⟨_, _, .fields vs, _⟩ => (match (vs[11]? : Option Value) with
    | some (.ref p) => p
    | _ => 0)
  | _ => 0
def isCode (K : PySem.W.Frag) (x : Str) : Bool :=
  match K.lookup (He.ga K x) with
  | some ⟨_, _, .func fd, _⟩ => (match fd.code with
    | .ref c => decide (c = codeA K x)
    | _ => false)
  | _ => false
def codB (K : PySem.W.Frag) (x : Str) : Bool := isCode K x && (PySem.W.codeHdIn K (codeA K x) (tabA K (codeA K x)) && (K.lookup (tabA K (codeA K x))).isNone)
def emptyTab (o : Option Obj) : Bool :=
  match o with
  | some ⟨.none, none, .fields vs, so⟩ => decide (vs.toList = []) && decide (so.toList = [])
  | _ => false
theorem emptyTab_ok {o : Option Obj} (h : emptyTab o = true) : o = some { cls := .none, data := .fields #[] } := by
  unfold emptyTab at h
  split at h
  · rename_i vs so
    obtain ⟨h1, h2⟩ := Bool.and_eq_true_iff.mp h
    have e1 := of_decide_eq_true h1
    have e2 := of_decide_eq_true h2
    obtain ⟨l1⟩ := vs
    obtain ⟨l2⟩ := so
    simp only at e1 e2
    subst e1 e2
    rfl
  · cases h
def J1 : Str := "_law_refused_right"
def ownB (K : PySem.W.Frag) : Bool :=
  errB K "BadWeb" "index" && (errB K "BadPart" "part" && (errB K "BadTruths" "truths" && (pgeB K && (codB K J1 && (K.lookup sysModules).isSome))))
/-- all that is held, the table aside -/
def frK (g : Addr → Option Obj) : PySem.W.Frag :=
  let K := He.frG g (He.asD g 5)
  let p := tabA K (codeA K J1)
  He.frG g (sysModules :: cStatics :: (He.asD g 5).filter fun a => !decide (a = p))
abbrev AlK : Type := Bool × He.AlD
def obsK (g : Addr → Option Obj) : AlK :=
  let K := frK g
  (ownB K && emptyTab (g (tabA K (codeA K J1))), He.obsD fa fn K)
structure SaysK (K : PySem.W.Frag) (h : Heap) : Prop where
  kin : K.In h
  own : ownB K = true
  t1 : h.get? (tabA K (codeA K J1)) = some { cls := .none, data := .fields #[] }
  says : He.SaysD fa fn K
def hk : PySem.W.Hook where
  α := AlK
  obs := fun s => obsK s.heap.get?
  val := fun _ => (true, He.valD fn)
  says := fun _ h => ∃ K : PySem.W.Frag, SaysK K h
  of := fun _ s e => by
    have h1 : (ownB (frK s.heap.get?) && emptyTab (s.heap.get? (tabA (frK s.heap.get?) (codeA (frK s.heap.get?) J1)))) = true := congrArg (fun z : AlK => z.1) e
    have h2 : He.obsD fa fn (frK s.heap.get?) = He.valD fn := congrArg (fun z : AlK => z.2) e
    obtain ⟨a1, a3⟩ := Bool.and_eq_true_iff.mp h1
    exact ⟨frK s.heap.get?, He.frG_in, a1, emptyTab_ok a3, h2⟩
  keeps := fun _ _ _ ⟨K, c⟩ k => ⟨K, PySem.W.Frag.In.keeps c.kin k, c.own, k _ _ c.t1, c.says⟩
abbrev RR : PySem.W.OpenRow := PySem.W.OpenLaw.row PySem.Challenge.rw_pagestrue_k10_whole_measured_and_decided
def obK (s : PySem.W.SharedT) : AlK := obsK (HandSHeadRun.getT s)
theorem obK_eq (s : PySem.W.SharedT) : obK s = hk.obs s.abs := by
  have e : HandSHeadRun.getT s = s.abs.heap.get? := funext (HandSHeadRun.getT_eq s)
  unfold obK
  rw [e]
  rfl
end K8

namespace K8
open PySem PySem.Spec PyProof.Rows L2 WR LamX
theorem run (w : World) : HandSHeadRun.RunEq RR (PySem.W.view RR.prog [59]) hk obK 3000 names w := by
  intro os
  kernel_rfl
end K8

/-! From what the head shows to the law's promise. -/
namespace K8
open PySem PySem.Spec PyProof.Rows L2 WR LamX
def qJ1 : Str := ("_law_refused_right" : Str) ++ ".<locals>." ++ "<lambda>"
def tabs (K : PySem.W.Frag) : TabL := [(tabA K (codeA K J1), qJ1)]
section
variable {P : Program} {w : World} {K : PySem.W.Frag} {h base : Heap} {mg : Str → Option Value}
theorem erc_ok {x f : Str} (G : mg x = some (.ref (He.ga K x))) (e : errB K x f = true) : ErC K mg x f (He.ga K x) (He.ma K (He.ga K x) "__init__") ∧ XfC K (He.ga K x) := by
  simp only [errB, eqV, Bool.and_eq_true, decide_eq_true_eq] at e
  obtain ⟨a1, a2, a3, a4, a5, a6, a7, a8, a9⟩ := e
  exact ⟨⟨⟨oexB_ok a1, a2, a3, a4, a5⟩, a6, a7, G, a8⟩, xfB_ok a9⟩
/-- a function's own code object -/
theorem cod_ok {x : Str} {o : Obj} {fd : FuncData} (e : codB K x = true) (lk : K.lookup (He.ga K x) = some o) (ho : o.data = .func fd) :
    fd.code = .ref (codeA K x) ∧ PySem.W.codeHdIn K (codeA K x) (tabA K (codeA K x)) = true ∧ K.lookup (tabA K (codeA K x)) = none := by
  simp only [codB, Bool.and_eq_true, Option.isNone_iff_eq_none] at e
  obtain ⟨e1, e2, e3⟩ := e
  refine ⟨?_, e2, e3⟩
  unfold isCode at e1
  rw [lk] at e1
  obtain ⟨oc, od, dt, so⟩ := o
  have hd : dt = .func fd := ho
  subst hd
  dsimp only at e1
  split at e1
  · rename_i c hc
    rw [hc, of_decide_eq_true e1]
  · cases e1
theorem law_ok (c : SaysK K h) (G : h.Ns mainGlobals mg) {f : Addr} (hfa : mg ("law" : Str) = some (.ref f)) :
    ∃ fd : FuncData, (∀ (s : Shared) (v : Value), BindsTo s fd ⟨[v], []⟩ [("script", v)]) ∧ ∀ base : Heap, K.In base → base.Ns mainGlobals mg → TabB base mg (codeA K J1) (tabA K (codeA K J1)) →
      FnG P w K mg base CX0 12 f fd ["script"] (spLaw K (tabs K)) := by
  have X := c.kin
  have s := c.says
  have gl : ∀ (i : Nat) (x : Str), fa[i]? = some (.glo x) → mg x = some (.ref (He.ga K x)) := fun i x e => He.glo_ok X G (s.fact i e)
  have fr : ∀ (i : Nat) (x : Str), fa[i]? = some (.free x) → mg x = none := fun i x e => He.free_ok X G (s.fact i e)
  have ow := c.own
  simp only [ownB, Bool.and_eq_true, decide_eq_true_eq] at ow
  obtain ⟨o1, o2, o3, o4, o5, o6⟩ := ow
  have dfn : ∀ (i j : Nat) (d : He.DefD), fn[i]? = some d → d.at_ = (d.name, none) → d.dvs K = [] → d.kws K = [] → fa[j]? = some (.glo d.name) → Fn K mg d := fun i j d e1 e2 e3 e4 e5 => by
    obtain ⟨fd, F⟩ := s.def_ i e1
    rw [e3, e4, e2] at F
    exact ⟨_, fd, gl j _ e5, F⟩
  have B : Bt mg := ⟨fr 53 _ rfl, fr 54 _ rfl, fr 55 _ rfl, fr 56 _ rfl, fr 57 _ rfl, fr 58 _ rfl, fr 59 _ rfl, fr 60 _ rfl, fr 61 _ rfl, fr 62 _ rfl, fr 63 _ rfl, fr 64 _ rfl, fr 65 _ rfl, fr 66 _ rfl, fr 67 _ rfl, fr 68 _ rfl⟩
  have BS : mg "sorted" = none := fr 69 _ rfl
  have BM : mg "max" = none := fr 70 _ rfl
  have F_named_rows : Fn K mg dnamed_rows := dfn 5 0 dnamed_rows rfl rfl rfl rfl rfl
  have F_led_row : Fn K mg dled_row := dfn 6 1 dled_row rfl rfl rfl rfl rfl
  have F_cone_of : Fn K mg dcone_of := dfn 7 2 dcone_of rfl rfl rfl rfl rfl
  have F_is_list : Fn K mg dis_list := dfn 8 3 dis_list rfl rfl rfl rfl rfl
  have F_is_number : Fn K mg dis_number := dfn 9 4 dis_number rfl rfl rfl rfl rfl
  have F_are_numbers : Fn K mg dare_numbers := dfn 10 5 dare_numbers rfl rfl rfl rfl rfl
  have F_is_place : Fn K mg dis_place := dfn 11 6 dis_place rfl rfl rfl rfl rfl
  have F_is_letter : Fn K mg dis_letter := dfn 12 7 dis_letter rfl rfl rfl rfl rfl
  have F_is_figure : Fn K mg dis_figure := dfn 13 8 dis_figure rfl rfl rfl rfl rfl
  have F_begins_name : Fn K mg dbegins_name := dfn 14 9 dbegins_name rfl rfl rfl rfl rfl
  have F_is_name : Fn K mg dis_name := dfn 15 10 dis_name rfl rfl rfl rfl rfl
  have F_row_form : Fn K mg drow_form := dfn 16 11 drow_form rfl rfl rfl rfl rfl
  have F_row_why : Fn K mg drow_why := dfn 17 12 drow_why rfl rfl rfl rfl rfl
  have F_scanned_web : Fn K mg dscanned_web := dfn 18 13 dscanned_web rfl rfl rfl rfl rfl
  have F_judged_web : Fn K mg djudged_web := dfn 19 14 djudged_web rfl rfl rfl rfl rfl
  have F_is_part : Fn K mg dis_part := dfn 20 15 dis_part rfl rfl rfl rfl rfl
  have F_judged_part : Fn K mg djudged_part := dfn 21 16 djudged_part rfl rfl rfl rfl rfl
  have F_needed : Fn K mg dneeded := dfn 22 17 dneeded rfl rfl rfl rfl rfl
  have F_needs_of : Fn K mg dneeds_of := dfn 23 18 dneeds_of rfl rfl rfl rfl rfl
  have F_steps_in : Fn K mg dsteps_in := dfn 24 19 dsteps_in rfl rfl rfl rfl rfl
  have F_tests_in : Fn K mg dtests_in := dfn 25 20 dtests_in rfl rfl rfl rfl rfl
  have F_depth_of : Fn K mg ddepth_of := dfn 26 21 ddepth_of rfl rfl rfl rfl rfl
  have F_tree_of : Fn K mg dtree_of := dfn 27 22 dtree_of rfl rfl rfl rfl rfl
  have F_decided : Fn K mg ddecided := dfn 28 23 ddecided rfl rfl rfl rfl rfl
  have F_are_truths : Fn K mg dare_truths := dfn 29 24 dare_truths rfl rfl rfl rfl rfl
  have F_is_asked : Fn K mg dis_asked := dfn 30 25 dis_asked rfl rfl rfl rfl rfl
  have F_decided_place : Fn K mg ddecided_place := dfn 31 26 ddecided_place rfl rfl rfl rfl rfl
  have F__law_well : Fn K mg d_law_well := dfn 32 27 d_law_well rfl rfl rfl rfl rfl
  have F__law_draw : Fn K mg d_law_draw := dfn 33 28 d_law_draw rfl rfl rfl rfl rfl
  have F__law_pick : Fn K mg d_law_pick := dfn 34 29 d_law_pick rfl rfl rfl rfl rfl
  have F__law_mixed : Fn K mg d_law_mixed := dfn 35 30 d_law_mixed rfl rfl rfl rfl rfl
  have F__law_same : Fn K mg d_law_same := dfn 36 31 d_law_same rfl rfl rfl rfl rfl
  have F__law_spoiled : Fn K mg d_law_spoiled := dfn 37 32 d_law_spoiled rfl rfl rfl rfl rfl
  have F__law_k_needs : Fn K mg d_law_k_needs := dfn 38 33 d_law_k_needs rfl rfl rfl rfl rfl
  have F__law_k_row : Fn K mg d_law_k_row := dfn 39 34 d_law_k_row rfl rfl rfl rfl rfl
  have F__law_k_web : Fn K mg d_law_k_web := dfn 40 35 d_law_k_web rfl rfl rfl rfl rfl
  have F__law_p_once : Fn K mg d_law_p_once := dfn 41 36 d_law_p_once rfl rfl rfl rfl rfl
  have F__law_p_loose : Fn K mg d_law_p_loose := dfn 42 37 d_law_p_loose rfl rfl rfl rfl rfl
  have F__law_met : Fn K mg d_law_met := dfn 43 38 d_law_met rfl rfl rfl rfl rfl
  have F__law_under : Fn K mg d_law_under := dfn 44 39 d_law_under rfl rfl rfl rfl rfl
  have F__law_depths : Fn K mg d_law_depths := dfn 45 40 d_law_depths rfl rfl rfl rfl rfl
  have F__law_trees : Fn K mg d_law_trees := dfn 46 41 d_law_trees rfl rfl rfl rfl rfl
  have F__law_led : Fn K mg d_law_led := dfn 47 42 d_law_led rfl rfl rfl rfl rfl
  have F__law_decided : Fn K mg d_law_decided := dfn 48 43 d_law_decided rfl rfl rfl rfl rfl
  have F__law_measured_right : Fn K mg d_law_measured_right := dfn 49 44 d_law_measured_right rfl rfl rfl rfl rfl
  have F__law_decided_right : Fn K mg d_law_decided_right := dfn 50 45 d_law_decided_right rfl rfl rfl rfl rfl
  have F__law_refused_right : Fn K mg d_law_refused_right := dfn 51 46 d_law_refused_right rfl rfl rfl rfl rfl
  have F_law : Fn K mg dlaw := dfn 52 47 dlaw rfl rfl rfl rfl rfl
  have gB := gl 48 "PageError" rfl
  have gC := gl 52 "RowTable" rfl
  simp only [pgeB, Bool.and_eq_true, decide_eq_true_eq] at o4
  have PG : PgE K mg (He.ga K "PageError") := ⟨gB, o4.1, o4.2.1, o4.2.2.1, initB_ok o4.2.2.2⟩
  obtain ⟨EBadWeb, XBadWeb⟩ := erc_ok (gl 49 "BadWeb" rfl) o1
  obtain ⟨fdBadWeb, FFBadWeb⟩ := s.def_ 0 (d := dBadWeb_I) rfl
  have FIBadWeb : FunD K dBadWeb_I.name dBadWeb_I.qual dBadWeb_I.params dBadWeb_I.body dBadWeb_I.scope [] [] (He.ma K (He.ga K "BadWeb") "__init__") fdBadWeb := FFBadWeb
  have bBadWeb : L2.Binds K fdBadWeb ["self", "index"] [] := FIBadWeb.bindsN fun _ _ _ _ _ _ us hl => match us, hl with | [_, _], _ => rfl
  obtain ⟨EBadPart, XBadPart⟩ := erc_ok (gl 50 "BadPart" rfl) o2
  obtain ⟨fdBadPart, FFBadPart⟩ := s.def_ 1 (d := dBadPart_I) rfl
  have FIBadPart : FunD K dBadPart_I.name dBadPart_I.qual dBadPart_I.params dBadPart_I.body dBadPart_I.scope [] [] (He.ma K (He.ga K "BadPart") "__init__") fdBadPart := FFBadPart
  have bBadPart : L2.Binds K fdBadPart ["self", "part"] [] := FIBadPart.bindsN fun _ _ _ _ _ _ us hl => match us, hl with | [_, _], _ => rfl
  obtain ⟨EBadTruths, XBadTruths⟩ := erc_ok (gl 51 "BadTruths" rfl) o3
  obtain ⟨fdBadTruths, FFBadTruths⟩ := s.def_ 2 (d := dBadTruths_I) rfl
  have FIBadTruths : FunD K dBadTruths_I.name dBadTruths_I.qual dBadTruths_I.params dBadTruths_I.body dBadTruths_I.scope [] [] (He.ma K (He.ga K "BadTruths") "__init__") fdBadTruths := FFBadTruths
  have bBadTruths : L2.Binds K fdBadTruths ["self", "truths"] [] := FIBadTruths.bindsN fun _ _ _ _ _ _ us hl => match us, hl with | [_, _], _ => rfl
  obtain ⟨fdI, FI⟩ := s.def_ 3 (d := dRowTable_I) rfl
  obtain ⟨fdP, FP⟩ := s.def_ 4 (d := dRowTable_put_in) rfl
  have FI' : FunD K dRowTable_I.name dRowTable_I.qual dRowTable_I.params dRowTable_I.body dRowTable_I.scope [] [] (He.ma K (He.ga K "RowTable") "__init__") fdI := FI
  have FP' : FunD K dRowTable_put_in.name dRowTable_put_in.qual dRowTable_put_in.params dRowTable_put_in.body dRowTable_put_in.scope [] [] (He.ma K (He.ga K "RowTable") "put_in") fdP := FP
  have bI : L2.Binds K fdI ["self", "rows"] [] := FI'.bindsN fun _ _ _ _ _ _ us hl => match us, hl with | [_, _], _ => rfl
  have bP : L2.Binds K fdP ["self", "row"] [] := FP'.bindsN fun _ _ _ _ _ _ us hl => match us, hl with | [_, _], _ => rfl
  have mk := He.mkr_ok (s.fact 73 (f := .mkr "RowTable") rfl)
  have mp := He.meth_ok (s.fact 74 (f := .meth "RowTable" "put_in") rfl)
  have cl := He.cls_ok (s.fact 72 (f := .cls "RowTable") rfl)
  have nR := He.noat_ok (s.fact 75 (f := .noat "RowTable" "rows") rfl)
  have nW := He.noat_ok (s.fact 76 (f := .noat "RowTable" "where") rfl)
  have M8 : Mk8 mg := He.int_ok X G (s.fact 71 (f := .int "LONGEST_NAME" 8) rfl)
  have E3 : Ex3 K mg (He.ga K "BadWeb") (He.ga K "BadPart") (He.ga K "BadTruths") := ⟨XBadWeb, XBadPart, XBadTruths, EBadWeb.nf, EBadPart.nf, EBadTruths.nf, He.exm_ok (s.fact 77 (f := .exm "BadWeb" "BadWeb" true) rfl), He.exm_ok (s.fact 78 (f := .exm "BadPart" "BadWeb" false) rfl), He.exm_ok (s.fact 79 (f := .exm "BadPart" "BadPart" true) rfl), He.exm_ok (s.fact 80 (f := .exm "BadTruths" "BadWeb" false) rfl), He.exm_ok (s.fact 81 (f := .exm "BadTruths" "BadPart" false) rfl), He.exm_ok (s.fact 82 (f := .exm "BadTruths" "BadTruths" true) rfl), EBadWeb.gC, EBadPart.gC, EBadTruths.gC⟩
  obtain ⟨fJ, fdJ, mJ, FJ⟩ := F__law_refused_right
  obtain ⟨fL, fdL, mL, FL⟩ := F_law
  obtain rfl : fL = f := by
    have e := mL.symm.trans hfa
    cases e
    rfl
  obtain ⟨ocJ, odJ, dVJ, kVJ, docJ, pmJ, anJ, cdJ, ctJ, oslJ, rfl, lkJ, hcJ, _, _⟩ := FJ.ex
  obtain ⟨ocL, odL, dVL, kVL, docL, pmL, anL, cdL, ctL, oslL, rfl, lkL, hcL, _, _⟩ := FL.ex
  have eJ : fJ = He.ga K J1 := by
    have e := mJ.symm.trans (gl 46 "_law_refused_right" rfl)
    cases e
    rfl
  obtain ⟨cJ, _, _⟩ := cod_ok o5 (by rw [← eJ]; exact lkJ) rfl
  have cJ' : cdJ = .ref (codeA K J1) := cJ
  subst cJ'
  have bJ : L2.Binds K _ ["rows"] [] := FJ.bindsN fun _ _ _ _ _ _ us hl => match us, hl with | [_], _ => rfl
  have bL := FunD.bindsA (ps := ["script"]) FL fun _ _ _ _ _ _ us hl => match us, hl with | [_], _ => rfl
  refine ⟨_, fun s v => bL s [v] rfl, fun base kb gb T1 => ?_⟩
  have SM : ∃ o, base.get? sysModules = some o := by
    obtain ⟨o, e⟩ := Option.isSome_iff_exists.mp o6
    exact ⟨o, kb _ _ e⟩
  have T : RT P w K mg base (He.ga K "RowTable") := ⟨cl, nR, nW, gC⟩
  have h_is_list := ok_is_list (P := P) (w := w) (base := base) B F_is_list
  have h_is_number := ok_is_number (P := P) (w := w) (base := base) B F_is_number
  have h_are_numbers := ok_are_numbers B F_are_numbers h_is_list h_is_number
  have h_is_place := ok_is_place F_is_place h_is_number
  have h_is_letter := ok_is_letter (P := P) (w := w) (base := base) F_is_letter
  have h_is_figure := ok_is_figure (P := P) (w := w) (base := base) F_is_figure
  have h_begins_name := ok_begins_name B M8 F_begins_name h_is_letter h_is_figure
  have h_is_name := ok_is_name B F_is_name h_begins_name
  have h_row_form := ok_row_form B F_row_form h_is_list h_is_name h_are_numbers
  have h_named_rows := ok_named_rows (P := P) (w := w) (base := base) F_named_rows
  have h_is_part := ok_is_part B F_is_part h_is_place
  have h_is_partD := ok_is_partD B F_is_part h_is_place
  have h_row_why := ok_row_why B F_row_why h_named_rows h_is_part
  have GI := ok_RowTable_I B T FI'
  have GP := ok_RowTable_put_in B T FP'
  have h_scanned := ok_scanned_web B T mk mp GI bI GP bP F_scanned_web h_is_list h_row_form h_row_why
  have GW := ok_BadWeb_I (P := P) (w := w) (base := base) PG EBadWeb FIBadWeb
  have GT := ok_BadPart_I (P := P) (w := w) (base := base) PG EBadPart FIBadPart
  have GU := ok_BadTruths_I (P := P) (w := w) (base := base) PG EBadTruths FIBadTruths
  have h_judged := ok_judged_web EBadWeb GW bBadWeb F_judged_web h_scanned
  have h_led := ok_led_row (P := P) (w := w) (base := base) B F_led_row
  have h_cone := ok_cone_of B BS F_cone_of h_named_rows
  have h_judged_part := ok_judged_part EBadPart GT bBadPart F_judged_part h_is_partD
  have h_needed := ok_needed T F_needed h_judged h_judged_part h_cone
  have h_needs_of := okF_needs_of F_needs_of h_needed
  have h_steps := okF_steps_in B F_steps_in h_needed
  have h_tests := okF_tests_in B F_tests_in h_needed
  have h_tree := okF_tree_of B F_tree_of h_needed h_named_rows
  have h_depth := okF_depth_of B BM F_depth_of h_needed h_named_rows
  have h_is_asked := ok_is_asked B F_is_asked h_is_place
  have h_truths := ok_are_truths B F_are_truths h_is_asked
  have h_dplace := ok_decided_place B T mp GP bP F_decided_place h_led
  have h_decided := okF_decided B T mk GI bI EBadTruths GU bBadTruths F_decided h_judged h_truths h_dplace
  have h_draw := ok__law_draw (P := P) (w := w) (base := base) B F__law_draw
  have h_well := ok__law_well (P := P) (w := w) (base := base) B F__law_well
  have h_pick := ok__law_pick B F__law_pick h_draw
  have h_mixed := ok__law_mixed B F__law_mixed h_draw
  have h_same := fun k => ok__law_same (P := P) (w := w) (base := base) B F__law_same k
  have h_sameU := ok__law_sameU (P := P) (w := w) (base := base) B F__law_same 7
  have h_spoiled := fun k => ok__law_spoiled (P := P) (w := w) (base := base) B F__law_spoiled k
  have h_k_needs := ok__law_k_needs (P := P) (w := w) (base := base) B F__law_k_needs
  have h_k_row := ok__law_k_row B F__law_k_row h_draw h_pick h_mixed
  have h_k_web := ok__law_k_web B F__law_k_web h_k_row
  have h_once := ok__law_p_once (P := P) (w := w) (base := base) B F__law_p_once
  have h_loose := fun k => ok__law_p_loose B F__law_p_loose h_draw k
  have h_under := ok__law_under B F__law_under h_k_needs
  have h_depths := ok__law_depths B BM F__law_depths h_k_needs
  have h_trees := ok__law_trees B F__law_trees h_k_needs
  have h_lled := ok__law_led (P := P) (w := w) (base := base) B F__law_led
  have h_ldec := ok__law_decided B F__law_decided h_lled
  have h_meas := ok__law_measured_right B F__law_measured_right h_depths h_trees h_draw h_under (h_same 7) (h_spoiled 7) h_needs_of h_tests h_steps h_depth h_tree
  have gDec := okG__law_decided_right B SM F__law_decided_right h_draw h_pick h_mixed (h_same 7) (h_spoiled 7) h_ldec h_once h_decided
  have gJ := ok__law_refused_right (T := tabs K) B E3 F__law_met h_sameU h_needs_of h_tests h_steps h_depth h_tree h_decided T1 (by simp [tabs, qJ1]) (fun p hp e => by
    simp only [tabs, List.mem_cons, List.not_mem_nil, or_false] at hp
    rw [hp]
    rfl) lkJ hcJ
  exact ok_law B SM h_well h_k_web (h_loose 4) h_meas gDec ⟨fJ, _, mJ, FJ.kp, bJ, gJ⟩ (h_same 7) h_draw h_needs_of h_tests h_steps h_depth h_tree h_decided lkL hcL
end
end K8

/-! The law called: two tables of code, no repr under way. -/
namespace K8
open PySem PySem.Spec PyProof.Rows L2 WR LamX
def tabO : Obj := { cls := .none, data := .fields #[] }
section
variable {P : Program} {w : World} {K : PySem.W.Frag} {mg mb : Str → Option Value} {k : Nat} {fa a c1 p1 c2 p2 : Addr} {fd : FuncData} {x : Str} {sp : Sp} {s : Shared} {vs : List Value} {ns : List Int}
/-- what is tracked: the two tables, the script where it may be hidden -/
def trkd (K : PySem.W.Frag) (p1 p2 a : Addr) (vs : List Value) (ns : List Int) : Hp := fun b =>
  if b = p1 ∨ b = p2 then some (.tbl #[]) else if b = a ∧ K.lookup a = none then some (.frz { cls := .type "list", data := .seq vs.toArray } (.lst (ns.map V.int))) else none
theorem callG (kin : K.In s.heap) (gl : s.heap.Ns mainGlobals mg) (bl : s.heap.Ns builtinsNs mb)
    (bb : ∀ y : Str, y ≠ "__name__" → mb y = bootBuiltins y) (nl : s.heap.NoLimit) (gs : s.gens = #[])
    (e1 : s.heap.get? p1 = some tabO) (e2 : s.heap.get? p2 = some tabO) (n1 : K.lookup p1 = none) (n2 : K.lookup p2 = none)
    (h1 : PySem.W.CodeHd s.heap c1 p1) (h2 : PySem.W.CodeHd s.heap c2 p2)
    (bm : ∃ (m : Addr) (om : Obj), mg "__builtins__" = some (.ref m) ∧ m ≠ builtinsNs ∧ s.heap.get? m = some om ∧ om.cls = .type "module" ∧ om.dict = some builtinsNs ∧ om.data = .plain)
    (ea : s.heap.get? a = some { cls := .type "list", data := .seq vs.toArray }) (iv : IntsAre vs ns) (ll : ns.length ≤ sizeLine) (room : Room k callerA)
    (F : ∀ base : Heap, K.In base → base.Ns mainGlobals mg → TabB base mg c1 p1 → TabB base mg c2 p2 → FnG P w K mg base CX0 k fa fd [x] sp)
    (bd : ∀ (s : Shared) (u : Value), BindsTo s fd ⟨[u], []⟩ [(x, u)])
    (hsp : ∀ H : Hp, H p1 = some (.tbl #[]) → H p2 = some (.tbl #[]) → SqL K H a (ns.map V.int) → sp [.ref a] H (fun v _ => v = .bl true) fun _ _ _ => False) :
    codeAny (model P w) callerA (.call (.ref fa) ⟨[.ref a], []⟩) (fun r s' => r = .ok (.ret (.bool true)) ∧ OldK s.heap s'.heap ∧ s'.os = s.os ∧ AllBare s'.gens) s := by
  have rel := vals_ints iv
  have lv := iv.length
  have tb : ∀ b, b = p1 ∨ b = p2 → s.heap.get? b = some tabO := fun b hb => hb.elim (fun z => by rw [z]; exact e1) fun z => by rw [z]; exact e2
  have tk : ∀ b, b = p1 ∨ b = p2 → K.lookup b = none := fun b hb => hb.elim (fun z => by rw [z]; exact n1) fun z => by rw [z]; exact n2
  have na : ¬ (a = p1 ∨ a = p2) := fun z => by
    have := tb a z
    rw [ea] at this
    cases this
  generalize hH : trkd K p1 p2 a vs ns = H
  have at1 : ∀ b, b = p1 ∨ b = p2 → H b = some (.tbl #[]) := fun b hb => by rw [← hH]; exact if_pos hb
  have at2 : K.lookup a = none → H a = some (.frz { cls := .type "list", data := .seq vs.toArray } (.lst (ns.map V.int))) := fun z => by
    rw [← hH]
    unfold trkd
    rw [if_neg na, if_pos ⟨rfl, z⟩]
  have cases3 : ∀ b, (b = p1 ∨ b = p2) ∨ (b = a ∧ K.lookup a = none) ∨ H b = none := fun b => by
    by_cases z : b = p1 ∨ b = p2
    · exact .inl z
    · by_cases y : b = a ∧ K.lookup a = none
      · exact .inr (.inl y)
      · refine .inr (.inr ?_)
        rw [← hH]
        unfold trkd
        rw [if_neg z, if_neg y]
  have ok : HOk P w H s.heap := fun b u hu => by
    rcases cases3 b with z | ⟨rfl, z⟩ | z
    · rw [at1 b z] at hu
      cases hu
      exact tb b z
    · rw [at2 z] at hu
      cases hu
      exact ⟨ea, by rw [List.length_map]; exact ll, vs, _, rel, ea⟩
    · rw [z] at hu
      cases hu
  have sq : SqL K H a (ns.map V.int) := by
    cases z : K.lookup a with
    | none => exact .inl (.inr ⟨_, at2 z⟩)
    | some o =>
      have y := kin a o z
      rw [ea] at y
      cases y
      exact .inr ⟨_, vs.toArray, _, z, rfl, rfl, rfl, by rw [List.size_toArray, lv]; exact ll, by simpa using rel⟩
  -- of what is neither list nor table nothing is hidden
  have plain : ∀ {b : Addr} {o : Obj}, s.heap.get? b = some o → (∀ ws n, o.data ≠ .seq ws n) → o.data ≠ .fields #[] → H b = none := fun {b o} e y1 y2 => by
    rcases cases3 b with z | ⟨rfl, _⟩ | z
    · rw [tb b z] at e
      cases e
      exact (y2 rfl).elim
    · rw [ea] at e
      cases e
      exact (y1 _ _ rfl).elim
    · exact z
  have dictF : ∀ {b : Addr} {o : Obj} {es : Array DictEntry} {ep : Nat}, s.heap.get? b = some o → o.data = .dict es ep → H b = none := fun e d => plain e (fun _ _ z => by rw [d] at z; cases z) fun z => by rw [d] at z; cases z
  have nsF : ∀ {b : Addr} {m : Str → Option Value}, s.heap.Ns b m → (hidT s.heap H).Ns b m := fun ⟨o, es, ep, e, d, r⟩ => ⟨o, es, ep, hidT_get e (dictF e d), d, r⟩
  have kB : K.In (hidT s.heap H) := fun b o e => hidT_get (kin b o e) (by
    rcases cases3 b with z | ⟨rfl, z⟩ | z
    · rw [tk b z] at e
      cases e
    · rw [z] at e
      cases e
    · exact z)
  have md : L2.Mod K mg (hidT s.heap H) := ⟨kB, nsF gl, ⟨mb, nsF bl, bb⟩, nl.elim fun mc y => ⟨mc, nsF y.1, y.2⟩⟩
  have tabF : ∀ c p, (p = p1 ∨ p = p2) → PySem.W.CodeHd s.heap c p → TabB (hidT s.heap H) mg c p := fun c p hp hc => by
    refine ⟨?_, ?_, fun z => ?_⟩
    · obtain ⟨o, us, fi, tf, fl, tg, inF, tx, tt, g1, r1, r2, r3, r⟩ := hc
      refine ⟨o, us, fi, tf, fl, tg, inF, tx, tt, hidT_get g1 (plain g1 (fun _ _ z => by rw [r2] at z; cases z) fun z => ?_), r1, r2, r3, r⟩
      rw [r2] at z
      cases z
      simp at r3
    · obtain ⟨m, om, m1, m2, m3, m4, m5, m6⟩ := bm
      refine ⟨m, om, m1, m2, fun y => ?_, fun y => ?_, hidT_get m3 (plain m3 (fun _ _ z => by rw [m6] at z; cases z) fun z => by rw [m6] at z; cases z), m4, m5, m6⟩
      · obtain ⟨o, es, ep, e, d, _⟩ := gl
        rw [y, e] at m3
        cases m3
        rw [d] at m6
        cases m6
      · rw [y, tb p hp] at m3
        cases m3
        cases m6
    · obtain ⟨o, es, ep, e, d, _⟩ := gl
      rw [z, tb p hp] at e
      cases e
      cases d
  have env : Env0 P w K mg (hidT s.heap H) callerA [] s H := ⟨rfl, md, fun b o e => of_hidT e, Nat.le_of_eq (hidT_size _ _), trivial, fun b hb => absurd hb (by simp [frs]), ok, .of_eq gs⟩
  have G := F _ kB (nsF gl) (tabF c1 p1 (.inl rfl) h1) (tabF c2 p2 (.inr rfl) h2)
  refine codeAny_mono (G.run callerA [] s H ⟨[.ref a], []⟩ [.ref a] [.ref a] _ _ room rfl env (bd s (.ref a)) (.cons rfl .nil) (hsp H (at1 _ (.inl rfl)) (at1 _ (.inr rfl)) sq)) fun r s' told => ?_
  match r, told with
  | .error e, told => exact False.elim told
  | .ok .next, told => exact False.elim told
  | .ok .brk, told => exact False.elim told
  | .ok .cont, told => exact False.elim told
  | .ok (.ret u), told =>
    obtain ⟨v, H', os, bare, un, ok', rv, q⟩ := told
    have q' : v = .bl true := q
    subst q'
    obtain rfl : u = Value.bool true := rv
    have more : ∀ p, (p = p1 ∨ p = p2) → ∃ m : Array Value, s'.heap.get? p = some { cls := .none, data := .fields m } := fun p hp => by
      obtain ⟨m, z⟩ := un.tbls p #[] (at1 p hp)
      exact ⟨_, ok' p _ z⟩
    have rest : ∀ b o, ¬ (b = p1 ∨ b = p2) → s.heap.get? b = some o → s'.heap.get? b = some o := fun b o hb e => by
      rcases cases3 b with z | ⟨rfl, z⟩ | z
      · exact absurd z hb
      · have z2 := un.frzs b _ _ (at2 z)
        rw [ea] at e
        cases e
        exact (ok' b _ z2).1
      · exact un.keep b o e z (by simp [frs]) (by simp)
    have hdOf : ∀ p, (p = p1 ∨ p = p2) → ∃ c, PySem.W.CodeHd s.heap c p := fun p hp => hp.elim (fun z => ⟨c1, by rw [z]; exact h1⟩) fun z => ⟨c2, by rw [z]; exact h2⟩
    refine ⟨rfl, ⟨fun b o e => ?_, fun b o e => ?_⟩, os, bare⟩
    · by_cases hb : b = p1 ∨ b = p2
      · obtain ⟨m, hm⟩ := more b hb
        obtain ⟨c, hc⟩ := hdOf b hb
        have et := tb b hb
        rw [et] at e
        cases e
        exact .inr (.inl ⟨(hc.tab et).isCodeTable, rfl, #[], m, rfl, by rw [Array.empty_append]; exact hm⟩)
      · exact .inl (rest b o hb e)
    · by_cases hb : b = p1 ∨ b = p2
      · exact (more b hb).elim fun m hm => ⟨_, hm⟩
      · exact ⟨o, rest b o hb e⟩
end
end K8

namespace K8
open PySem PySem.Spec PyProof.Rows L2 WR LamX
abbrev LL : PySem.W.OpenLaw := PySem.Challenge.rw_pagestrue_k10_whole_measured_and_decided
theorem tl_ok {K : PySem.W.Frag} {x : Str} (e : codB K x = true) : PySem.W.codeHdIn K (codeA K x) (tabA K (codeA K x)) = true ∧ K.lookup (tabA K (codeA K x)) = none := by
  simp only [codB, Bool.and_eq_true, Option.isNone_iff_eq_none] at e
  exact e.2
theorem walkK {q : Program} {loose : List Str} {XP : (Str → Option Value) → Heap → Prop} {d : DefRec} (hn : LL.most = some 63) (hdf : d.params.defaults = []) (hd : d.name = ("law" : Str)) :
    PySem.W.WalkO q loose XP hk.says LL.row.toRowW d [] (fun f vs => PySem.call f vs) := by
  refine Att.attach_callB hn hdf fun w s0 s1 mg mb fa o pm cd doc a vs ns G Y _ _ _ hmg hobj hints hlen _ hg => ?_
  obtain ⟨K, c⟩ := Y
  rw [hd] at hmg
  obtain ⟨fd, hb, hF⟩ := law_ok (P := LL.prog) (w := w) c G.T.g hmg
  have ow := c.own
  simp only [ownB, Bool.and_eq_true, decide_eq_true_eq] at ow
  obtain ⟨_, _, _, _, o4, _⟩ := ow
  obtain ⟨hd1, n1⟩ := tl_ok o4
  have sz : (63 : Nat) ≤ sizeLine := by decide
  exact callG c.kin G.T.g G.T.b G.T.builtins G.T.nolimit hg c.t1 c.t1 n1 n1 (PySem.W.codeHd_of_K c.kin hd1) (PySem.W.codeHd_of_K c.kin hd1) G.T.bmain hobj hints (Nat.le_trans hlen sz) ⟨rfl, by decide, by decide⟩ (fun base kb gb T1 _ => hF base kb gb T1) hb
    fun H t1 t2 hS => ⟨a, ns, rfl, hS, hlen, fun p hp => by
      simp only [tabs, List.mem_cons, List.not_mem_nil, or_false] at hp
      rw [hp]
      exact .nil t1, fun _ => rfl⟩
end K8
open PySem PySem.W PySem.Calls PyProof.Rows
theorem PySem.Challenge.cw_pagestrue_k10_whole_measured_and_decided_holds : PySem.Challenge.rw_pagestrue_k10_whole_measured_and_decided.Holds := by
  w_on; o_law
  refine HandSHeadRun.head_any (r := K8.RR) (q := view K8.RR.prog [59]) (H := K8.hk) (ob := K8.obK) (M := 3000) (loose := K8.names) (d := HandSHeadRun.topDef K8.RR.prog 59) (kwd := []) K8.obK_eq
    (by kernel_rfl) (fun s => by kernel_rfl) K8.run (by kernel_rfl) (by kernel_rfl) (by kernel_rfl) (by rfl) (by first | assumption | decide +kernel) (by decide +kernel) ⟨rfl, rfl, rfl, rfl, rfl, by decide +kernel⟩ ?hw ?hc
  case hw => w_witness2
  case hc => exact K8.walkK rfl (by kernel_rfl) (by kernel_rfl)

