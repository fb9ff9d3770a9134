import PyProof.Rows.All
import Wide.All
import OpenK.AllK
import Wide.FinOn
import HandS.ForMost
import HandS.Exc
import HandS.WordsExc
import HandS.Defaults
import HandS.ExcInit
import HandS.ExcField
import HandS.TryMany
import HandS.IsInst
import HandS.Deep
import HandS.Lambda
import HandS.Flow
import HandS.Style
import HandS.TupAny
import KE.KDictKeyed
import KE.KeyNested
import HandS.DictComp
import KE.GoesMore
import KE.GoesEnum
import KE.KStateDown
import HandS.Head0
import HandS.Head1
import HandS.Head2
import HandS.HeadEnd
import HandS.HeadHook1
import HandS.HeadHook2
import HandS.Zip
import HandS.ListItems
import HandS.Small
import HandS.Text
import PyProof.ReprRoads
import PyProof.ReprLen
import PyProof.FitsInt
import PyProof.StrLawsRepr
import HandS.EndTab
import PySem.Challenge.RW_pagestrue_k08_whole_webs_judged
set_option Elab.async false
set_option linter.all false
set_option maxRecDepth 100000
set_option maxHeartbeats 0
/-! Rules of my own over the hand layer. -/
namespace WR
open PySem PySem.Spec PyProof.Rows L2
section
variable {X : Cx} {e : Expr} {es : List Expr} {ta : TA} {p1 p2 pos : Pos}
/-- Base.__init__(self, ..), Base an own error class whose __init__ is ValueError's -/
theorem pe_ownInit {b : Str} {B : Addr} {pl : Sem Bool} (hg : Gl X b) (hm : X.mg b = some (.ref B))
    (hs : PySem.W.specialIn X.K (.ref B) "__getattribute__" = some (some (.builtin "type.__getattribute__"))) (ty : PySem.W.typeIn X.K (.ref B) = some (.type "type"))
    (rd : PySem.W.readsIn X.K B (.type "type") = true) (vV : PySem.W.findCls X.K (.ref B) (.type "type") "__init__" = some (.val (.builtin "ValueError.__init__"))) (ha : PA X (e :: es) ta)
    (hc : eval (.Call (.Attribute (.Name b p1) "__init__" p2) (e :: es) [] pos) X.env = (do
      let ov ← eval (.Name b p1) X.env
      standAt p2.atName
      let (f, first) ← holding [ov] (getMethod ov "__init__" pl)
      callWith pos f first (backTo pos (starEach (e :: es) X.env)) (backToKw pos (keywordEach [] X.env))) := by rfl)
    (hd : (b == ("__debug__" : Str)) = false := by decide)
    (he : starEach (e :: es) X.env = (false, eval e X.env) :: starEach es X.env := by rfl) (hpl : (backTo pos (starEach es X.env)).any (·.1) = false := by rfl) :
    PE X (.Call (.Attribute (.Name b p1) "__init__" p2) (e :: es) [] pos) (tVeI X.K ta) := by
  constructor
  intro pins s σ H Q I h
  refine PySem.W.methodCall_KW (ld_glob I hg hm ?_ hd) hc
  obtain ⟨m, fr⟩ := I.fr
  refine PySem.W.method_of_cls fr I.ok.mod.kin hs (PySem.W.cls_val fr I.ok.mod.kin ty rd vV (by decide +kernel) ?_)
  show wpAny _ _ (callWith pos (Value.builtin "ValueError.__init__") [] (backTo pos (starEach (e :: es) X.env)) []) _ _ _
  refine PyProof.Rows.callWith_method1 (thn (ha.run pos pins _ σ H _ (I.tok _) h) ?_) he hpl
  rintro us s1 ⟨vs, H1, I1, r1, a, C, ws, rfl, hl, T, ea, q⟩
  cases r1 with
  | @cons _ u0 _ ur ra rw' =>
    have eu : u0 = Value.ref a := ra
    subst eu
    have hlen : ur.length ≤ sizeLine := by
      have := Paired.length rw'
      rw [sizeLine_eq]
      omega
    exact oinit_ok T I1 ea hlen fun s' J => ⟨.non, H1, J, rfl, q⟩
end
end WR

/-! Data in the heap: none, bools, ints, texts, lists, tuples, dicts with text keys; its lists and dicts stand where N lets them. -/
namespace WR
open PySem PySem.Spec PyProof.Rows L2
mutual
inductive Dr (N : Addr → Prop) (H : Hp) : V → PyData → Prop
  | non : Dr N H .non .none
  | bl (b : Bool) : Dr N H (.bl b) (.bool b)
  | int (i : Int) : Dr N H (.int i) (.int i)
  | str (x : Str) : Dr N H (.str x) (.str x)
  | lst {a : Addr} {xs : List V} {ds : List PyData} : N a → H a = some (.lst xs) → DrA N H xs ds → Dr N H (.ref a) (.list ds)
  | tup {a : Addr} {xs : List V} {ds : List PyData} : H a = some (.tup xs) → DrA N H xs ds → Dr N H (.ref a) (.tuple ds)
  | dct {a : Addr} {kvs : List (Key × V)} {ps : List (PyData × PyData)} : N a → H a = some (.dK kvs) → DrK N H kvs ps → Dr N H (.ref a) (.dict ps)
inductive DrA (N : Addr → Prop) (H : Hp) : List V → List PyData → Prop
  | nil : DrA N H [] []
  | cons {v : V} {vs : List V} {d : PyData} {ds : List PyData} : Dr N H v d → DrA N H vs ds → DrA N H (v :: vs) (d :: ds)
inductive DrK (N : Addr → Prop) (H : Hp) : List (Key × V) → List (PyData × PyData) → Prop
  | nil : DrK N H [] []
  | cons {x : Str} {v : V} {d : PyData} {kvs : List (Key × V)} {ps : List (PyData × PyData)} : Dr N H v d → DrK N H kvs ps → DrK N H ((Sum.inr x, v) :: kvs) ((.str x, d) :: ps)
end
/-- what stood at N stands, tuples too -/
structure Stays (N : Addr → Prop) (H H' : Hp) : Prop where
  at_ : ∀ a o, N a → H a = some o → H' a = some o
  tup : ∀ a xs, H a = some (.tup xs) → H' a = some (.tup xs)
abbrev All : Addr → Prop := fun _ => True
abbrev Sm (H H' : Hp) : Prop := ∀ b o, H b = some o → H' b = some o
theorem Stays.of {N : Addr → Prop} {H H' : Hp} (s : Sm H H') : Stays N H H' := ⟨fun a o _ e => s a o e, fun a xs e => s a _ e⟩
theorem Sm.rfl' {H : Hp} : Sm H H := fun _ _ e => e
theorem Sm.trans {H H1 H2 : Hp} (a : Sm H H1) (b : Sm H1 H2) : Sm H H2 := fun c o e => b c o (a c o e)
theorem Sm.new {H : Hp} {p : Addr} {o : HO} (h : H p = none) : Sm H (upd H p o) := fun b u e => by
  rw [upd_ne (ne_of_none e h)]
  exact e
theorem Sm.free {H H' : Hp} (s : Sm H H') {p : Addr} (h : H' p = none) : H p = none := by
  cases e : H p with
  | none => rfl
  | some o =>
    rw [s p o e] at h
    cases h
section
variable {N M : Addr → Prop} {H H' : Hp}
mutual
theorem Dr.mono (w : ∀ a, N a → M a) (s : Stays N H H') : ∀ {d : PyData} {v : V}, Dr N H v d → Dr M H' v d
  | _, _, .non => .non
  | _, _, .bl b => .bl b
  | _, _, .int i => .int i
  | _, _, .str x => .str x
  | _, _, .lst n e r => .lst (w _ n) (s.at_ _ _ n e) (DrA.mono w s r)
  | _, _, .tup e r => .tup (s.tup _ _ e) (DrA.mono w s r)
  | _, _, .dct n e r => .dct (w _ n) (s.at_ _ _ n e) (DrK.mono w s r)
theorem DrA.mono (w : ∀ a, N a → M a) (s : Stays N H H') : ∀ {ds : List PyData} {vs : List V}, DrA N H vs ds → DrA M H' vs ds
  | _, _, .nil => .nil
  | _, _, .cons r t => .cons (Dr.mono w s r) (DrA.mono w s t)
theorem DrK.mono (w : ∀ a, N a → M a) (s : Stays N H H') : ∀ {ps : List (PyData × PyData)} {kvs : List (Key × V)}, DrK N H kvs ps → DrK M H' kvs ps
  | _, _, .nil => .nil
  | _, _, .cons r t => .cons (Dr.mono w s r) (DrK.mono w s t)
end
theorem Dr.sm (s : Sm H H') {v : V} {d : PyData} (r : Dr N H v d) : Dr N H' v d := r.mono (fun _ z => z) (Stays.of s)
theorem DrA.sm (s : Sm H H') {vs : List V} {ds : List PyData} (r : DrA N H vs ds) : DrA N H' vs ds := r.mono (fun _ z => z) (Stays.of s)
theorem Dr.all (r : Dr N H v d) : Dr All H v d := r.mono (fun _ _ => trivial) (Stays.of Sm.rfl')
theorem DrA.all (r : DrA N H v d) : DrA All H v d := r.mono (fun _ _ => trivial) (Stays.of Sm.rfl')
theorem DrA.length : ∀ {ds : List PyData} {vs : List V}, DrA N H vs ds → vs.length = ds.length
  | _, _, .nil => rfl
  | _, _, .cons _ t => by simp [DrA.length t]
theorem DrA.get : ∀ {ds : List PyData} {vs : List V} {i : Nat} {v : V}, DrA N H vs ds → vs[i]? = some v → ∃ d, ds[i]? = some d ∧ Dr N H v d
  | _, _, i, v, .nil, e => by simp at e
  | _, _, 0, v, .cons r t, e => by
    simp at e
    subst e
    exact ⟨_, rfl, r⟩
  | _, _, i + 1, v, .cons r t, e => by
    obtain ⟨d, h1, h2⟩ := DrA.get (i := i) (v := v) t (by simpa using e)
    exact ⟨d, by simpa using h1, h2⟩
theorem DrA.at_ {ds : List PyData} {vs : List V} {i : Nat} {d : PyData} (r : DrA N H vs ds) (e : ds[i]? = some d) : ∃ v, vs[i]? = some v ∧ Dr N H v d := by
  have hi : i < vs.length := by
    rw [r.length]
    exact (List.getElem?_eq_some_iff.mp e).1
  obtain ⟨d', e', r'⟩ := r.get (List.getElem?_eq_getElem hi)
  rw [e] at e'
  cases e'
  exact ⟨_, List.getElem?_eq_getElem hi, r'⟩
theorem DrA.append : ∀ {ds es : List PyData} {vs ws : List V}, DrA N H vs ds → DrA N H ws es → DrA N H (vs ++ ws) (ds ++ es)
  | _, _, _, _, .nil, s => s
  | _, _, _, _, .cons r t, s => .cons r (DrA.append t s)
theorem DrA.one {v : V} {d : PyData} (r : Dr N H v d) : DrA N H [v] [d] := .cons r .nil
theorem DrA.take : ∀ {ds : List PyData} {vs : List V} (n : Nat), DrA N H vs ds → DrA N H (vs.take n) (ds.take n)
  | _, _, 0, _ => .nil
  | _, _, _ + 1, .nil => .nil
  | _, _, n + 1, .cons r t => .cons r (DrA.take n t)
theorem DrA.drop : ∀ {ds : List PyData} {vs : List V} (n : Nat), DrA N H vs ds → DrA N H (vs.drop n) (ds.drop n)
  | _, _, 0, r => r
  | _, _, _ + 1, .nil => .nil
  | _, _, n + 1, .cons r t => DrA.drop n t
theorem DrA.set {v : V} {d : PyData} (q : Dr N H v d) : ∀ {ds : List PyData} {vs : List V} (n : Nat), DrA N H vs ds → DrA N H (vs.set n v) (ds.set n d)
  | _, _, _, .nil => .nil
  | _, _, 0, .cons r t => .cons q t
  | _, _, n + 1, .cons r t => .cons r (DrA.set q n t)
theorem DrA.eraseIdx : ∀ {ds : List PyData} {vs : List V} (n : Nat), DrA N H vs ds → DrA N H (vs.eraseIdx n) (ds.eraseIdx n)
  | _, _, _, .nil => .nil
  | _, _, 0, .cons r t => t
  | _, _, n + 1, .cons r t => .cons r (DrA.eraseIdx n t)
end
/-! ### what it is -/
def isL : PyData → Bool
  | .list _ => true
  | .tuple _ => true
  | _ => false
def its : PyData → List PyData
  | .list xs => xs
  | .tuple xs => xs
  | _ => []
/-- a list or a tuple stands there -/
theorem Dr.seq {N : Addr → Prop} {H : Hp} {v : V} {d : PyData} (r : Dr N H v d) (h : isL d = true) : ∃ a xs, v = .ref a ∧ (H a = some (.lst xs) ∨ H a = some (.tup xs)) ∧ DrA N H xs (its d) := by
  cases r with
  | lst n e r => exact ⟨_, _, rfl, .inl e, r⟩
  | tup e r => exact ⟨_, _, rfl, .inr e, r⟩
  | _ => cases h
/-! ### over to the layer's data, to the library's -/
section
variable {K : PySem.W.Frag} {N : Addr → Prop} {H : Hp}
mutual
theorem Dr.dp : ∀ {d : PyData} {v : V}, Dr N H v d → d.hasDict = false → Dp K H v d
  | _, _, .non, _ => .non
  | _, _, .bl b, _ => .bl b
  | _, _, .int i, _ => .int i
  | _, _, .str x, _ => .str x
  | _, _, .lst _ e r, h => .lst (.inl (.inl e)) (DrA.dp r (by simpa [PyData.hasDict] using h))
  | _, _, .tup e r, h => .tup (.inl (.inl e)) (DrA.dp r (by simpa [PyData.hasDict] using h))
  | _, _, .dct _ _ _, h => by simp [PyData.hasDict] at h
theorem DrA.dp : ∀ {ds : List PyData} {vs : List V}, DrA N H vs ds → PyData.hasDictAll ds = false → DpAll K H vs ds
  | _, _, .nil, _ => .nil
  | _, _, .cons r t, h => by
    simp only [PyData.hasDictAll, Bool.or_eq_false_iff] at h
    exact .cons (Dr.dp r h.1) (DrA.dp t h.2)
end
end
end WR

namespace WR
open PySem PySem.Spec PyProof.Rows L2
/-! ### defs by name -/
structure Df (P : Program) (w : World) (K : PySem.W.Frag) (mg : Str → Option Value) (base : Heap) (CX : CXT) (k : Nat) (x : Str) (ps : List Str) (sp : Sp) : Prop where
  ex : ∃ f fd, mg x = some (.ref f) ∧ PySem.W.keepIn K (.ref f) = true ∧ Binds K fd ps [] ∧ FnOk P w K mg base CX k f fd ps sp
section
variable {X : Cx} {CX : CXT} {x : Str} {ps : List Str} {sp : Sp} {k : Nat} {e : Expr} {es : List Expr} {ta : TA} {p pos : Pos} {E : XK}
theorem pe_df (D : Df X.prog X.w X.K X.mg X.base CX k x ps sp) (hr : Room k X.A) (hx : Passes CX X E) (ha : PA X (e :: es) ta) (hg : Gl X x := by rfl) (hdb : (x == ("__debug__" : Str)) = false := by decide)
    (he : starEach (e :: es) X.env = (false, eval e X.env) :: starEach es X.env := by rfl) (hpl : (backTo pos (starEach es X.env)).any (·.1) = false := by rfl) : PE X (.Call (.Name x p) (e :: es) [] pos) (tCall sp [] E ta) := by
  obtain ⟨f, fd, hm, hk, hb, F⟩ := D.ex
  exact pe_call F hr hg hm hk hb .nil hx ha hdb he hpl
theorem Df.mono {P : Program} {w : World} {K : PySem.W.Frag} {mg : Str → Option Value} {base : Heap} {j : Nat} (D : Df P w K mg base CX j x ps sp) (h : j ≤ k) : Df P w K mg base CX k x ps sp := by
  obtain ⟨f, fd, hm, hk, hb, F⟩ := D.ex
  exact ⟨f, fd, hm, hk, hb, F.mono h⟩
end
theorem pe_ty {X : Cx} {x : Str} {pos : Pos} (n : String) (hm : X.mg x = none) (hv : bootBuiltins x = some (.type n)) (hg : Gl X x := by rfl) (hn : x ≠ "__name__" := by decide) (hd : (x == ("__debug__" : Str)) = false := by decide) : PE X (.Name x pos) (tC (.ty n)) :=
  pe_bltn hg hm hv rfl hn hd
/-! ### kinds -/
def tyD : PyData → String
  | .none => "NoneType"
  | .bool _ => "bool"
  | .int _ => "int"
  | .str _ => "str"
  | .list _ => "list"
  | .tuple _ => "tuple"
  | .dict _ => "dict"
def isT (c : String) (d : PyData) : Bool := (kitB (tyD d) c).getD false
theorem Dr.ty {K : PySem.W.Frag} {N : Addr → Prop} {H : Hp} {v : V} {d : PyData} (r : Dr N H v d) : TyX K H v (.type (tyD d)) := by
  cases r with
  | non => exact .base .non
  | bl b => exact .base (.bl b)
  | int i => exact .base (.int i)
  | str x => exact .base (.str x)
  | lst _ e _ => exact .base (.lst e)
  | tup e _ => exact .base (.tup e)
  | dct _ e _ => exact .base (.dK e)
def isD : PyData → Bool
  | .dict _ => true
  | _ => false
def isLst : PyData → Bool
  | .list _ => true
  | _ => false
def isTup : PyData → Bool
  | .tuple _ => true
  | _ => false
def isB : PyData → Bool
  | .bool _ => true
  | _ => false
def isI : PyData → Bool
  | .int _ => true
  | .bool _ => true
  | _ => false
def isS : PyData → Bool
  | .str _ => true
  | _ => false
theorem kit_list (d : PyData) : kitB (tyD d) "list" = some (isLst d) := by cases d <;> (simp only [tyD, isLst, isTup, isD, isB, isI, isS]; decide +kernel)
theorem kit_tuple (d : PyData) : kitB (tyD d) "tuple" = some (isTup d) := by cases d <;> (simp only [tyD, isLst, isTup, isD, isB, isI, isS]; decide +kernel)
theorem kit_dict (d : PyData) : kitB (tyD d) "dict" = some (isD d) := by cases d <;> (simp only [tyD, isLst, isTup, isD, isB, isI, isS]; decide +kernel)
theorem kit_bool (d : PyData) : kitB (tyD d) "bool" = some (isB d) := by cases d <;> (simp only [tyD, isLst, isTup, isD, isB, isI, isS]; decide +kernel)
theorem kit_int (d : PyData) : kitB (tyD d) "int" = some (isI d) := by cases d <;> (simp only [tyD, isLst, isTup, isD, isB, isI, isS]; decide +kernel)
theorem kit_str (d : PyData) : kitB (tyD d) "str" = some (isS d) := by cases d <;> (simp only [tyD, isLst, isTup, isD, isB, isI, isS]; decide +kernel)
section
variable {X : Cx}
/-- isinstance(x, c) of data -/
def rIsD (c : String) (f : PyData → Bool) : List V → Hp → VK → Prop := fun xs H Q => ∃ x d, xs = [x, .ty c] ∧ Dr All H x d ∧ Q (.bl (f d)) H
theorem call_isD {c : String} {f : PyData → Bool} (hc : ∀ d, kitB (tyD d) c = some (f d)) : CallR X (.builtin "isinstance") (rIsD c f) := by
  intro pins s σ H xs us Q I r h
  obtain ⟨x, d, rfl, hd, q⟩ := h
  exact call_isi pins s σ H _ us Q I r ⟨x, .ty c, _, _, _, rfl, .ty c, hd.ty, kit_ty (hc d), q⟩
def rIsD2 (c1 c2 : String) (f : PyData → Bool) : List V → Hp → VK → Prop := fun xs H Q => ∃ x t d, xs = [x, .ref t] ∧ H t = some (.tup [.ty c1, .ty c2]) ∧ Dr All H x d ∧ Q (.bl (f d)) H
theorem kit_any2 {K : PySem.W.Frag} {a c1 c2 : String} {b1 b2 : Bool} (h1 : kitB a c1 = some b1) (h2 : kitB a c2 = some b2) : PySem.W.kitAny K (.type a) [.type c1, .type c2] = some (b1 || b2) := by
  refine kitAny_cons (kit_ty h1) (fun e => ?_) (fun e => by rw [e]; rfl)
  subst e
  refine kitAny_cons (kit_ty h2) (fun e => ?_) (fun e => by rw [e]; rfl)
  subst e
  exact kitAny_nil
theorem call_isD2 {c1 c2 : String} {f1 f2 f : PyData → Bool} (h1 : ∀ d, kitB (tyD d) c1 = some (f1 d)) (h2 : ∀ d, kitB (tyD d) c2 = some (f2 d)) (hf : ∀ d, (f1 d || f2 d) = f d) : CallR X (.builtin "isinstance") (rIsD2 c1 c2 f) := by
  intro pins s σ H xs us Q I r h
  obtain ⟨x, t, d, rfl, ht, hd, q⟩ := h
  refine call_isiT pins s σ H _ us Q I r ⟨x, t, [.ty c1, .ty c2], _, [.type c1, .type c2], _, rfl, ht, .cons (.ty c1) (.cons (.ty c2) .nil), hd.ty, kit_any2 (h1 d) (h2 d), ?_⟩
  rw [hf d]
  exact q
theorem isL_or (d : PyData) : (isLst d || isTup d) = isL d := by cases d <;> rfl
end
/-! ### pure defs: data in, data out -/
def spP (n : Nat) (ok : List PyData → Prop) (F : List PyData → PyData) : Sp := fun vs H Q _ => ∃ ds, DrA All H vs ds ∧ ds.length = n ∧ ok ds ∧ ∀ v H', Sm H H' → Dr All H' v (F ds) → Q v H'
theorem spP_len {n : Nat} {ok : List PyData → Prop} {F : List PyData → PyData} (vs : List V) (H : Hp) (Q : VK) (E : XK) (h : spP n ok F vs H Q E) : vs.length = n := by
  obtain ⟨ds, r, e, _⟩ := h
  rw [r.length, e]
/-- one argument -/
theorem spP1 {ok : List PyData → Prop} {F : List PyData → PyData} {vs : List V} {H : Hp} {Q : VK} {E : XK} (h : spP 1 ok F vs H Q E) : ∃ v d, vs = [v] ∧ Dr All H v d ∧ ok [d] ∧ ∀ u H', Sm H H' → Dr All H' u (F [d]) → Q u H' := by
  obtain ⟨ds, r, e, k, q⟩ := h
  cases r with
  | nil => cases e
  | cons r t =>
    cases t with
    | nil => exact ⟨_, _, rfl, r, k, q⟩
    | cons _ _ => simp at e
theorem spP2 {ok : List PyData → Prop} {F : List PyData → PyData} {vs : List V} {H : Hp} {Q : VK} {E : XK} (h : spP 2 ok F vs H Q E) : ∃ v w d e, vs = [v, w] ∧ Dr All H v d ∧ Dr All H w e ∧ ok [d, e] ∧ ∀ u H', Sm H H' → Dr All H' u (F [d, e]) → Q u H' := by
  obtain ⟨ds, r, e, k, q⟩ := h
  cases r with
  | nil => cases e
  | cons r t =>
    cases t with
    | nil => cases e
    | cons r2 t =>
      cases t with
      | nil => exact ⟨_, _, _, _, rfl, r, r2, k, q⟩
      | cons _ _ => simp at e
theorem spP1_of {ok : List PyData → Prop} {F : List PyData → PyData} {v : V} {d : PyData} {H : Hp} {Q : VK} (r : Dr All H v d) (k : ok [d]) (q : ∀ (u : V) (H' : Hp), Sm H H' → Dr All H' u (F [d]) → Q u H') : spP 1 ok F [v] H Q E0 :=
  ⟨[d], .one r, rfl, k, q⟩
theorem spP2_of {ok : List PyData → Prop} {F : List PyData → PyData} {v w : V} {d e : PyData} {H : Hp} {Q : VK} (r : Dr All H v d) (r2 : Dr All H w e) (k : ok [d, e]) (q : ∀ (u : V) (H' : Hp), Sm H H' → Dr All H' u (F [d, e]) → Q u H') : spP 2 ok F [v, w] H Q E0 :=
  ⟨[d, e], .cons r (.one r2), rfl, k, q⟩
theorem Dr.bl_inv {N : Addr → Prop} {H : Hp} {v : V} {b : Bool} (r : Dr N H v (.bool b)) : v = .bl b := by
  cases r
  rfl
theorem Dr.int_inv {N : Addr → Prop} {H : Hp} {v : V} {i : Int} (r : Dr N H v (.int i)) : v = .int i := by
  cases r
  rfl
theorem Dr.str_inv {N : Addr → Prop} {H : Hp} {v : V} {x : Str} (r : Dr N H v (.str x)) : v = .str x := by
  cases r
  rfl
theorem Dr.non_inv {N : Addr → Prop} {H : Hp} {v : V} (r : Dr N H v .none) : v = .non := by
  cases r
  rfl
end WR

namespace WR
open PySem PySem.Spec PyProof.Rows L2
/-! ### walks over a list or a tuple -/
def Sq (H : Hp) (a : Addr) (xs : List V) : Prop := H a = some (.lst xs) ∨ H a = some (.tup xs)
/-- the walk of a: by its kind -/
def ItS (K : PySem.W.Frag) (H : Hp) (a : Addr) (xs : List V) (J : It) : Prop := (J = Itl K a ∧ H a = some (.lst xs)) ∨ (J = Itt K a ∧ H a = some (.tup xs))
def iSeq (K : PySem.W.Frag) (tl : TE) : TI := fun σ H R => tl σ H fun x H1 => ∃ a xs, x = .ref a ∧ Sq H1 a xs ∧ ∀ J, ItS K H1 a xs J → R J H1
theorem pi_seq {X : Cx} {tg l : Expr} {tl : TE} (hl : PE X l tl) : PI X tg l (iSeq X.K tl) := by
  constructor
  intro pins s σ H R I h
  refine thn (hl.run pins s σ H _ I h) ?_
  rintro v s1 ⟨x, H1, I1, r1, a, xs, rfl, hs, q⟩
  cases (show v = Value.ref a from r1)
  have new : ∀ b ∈ [s1.heap.objs.size], FpOk X pins H1 b := by
    intro b hb
    rw [List.mem_singleton] at hb
    rw [hb]
    exact I1.fpOk (Nat.le_refl _) (I1.hok.fresh (Nat.le_refl _))
  rcases hs with hs | hs
  · obtain ⟨_, _, pl, _⟩ := I1.list (SqL.of hs)
    exact wpAny_pyIter_list pl.isList ⟨_, [_], _, _, H1, rfl, I1.kept (t' := s1.toks) fun b o z => Heap.get?_push_of_some _ z, turn_list a _, ⟨_, Heap.get?_push_size _ rfl, rfl, rfl⟩, new, q _ (.inl ⟨rfl, hs⟩)⟩
  · obtain ⟨ws, _, pt, _⟩ := I1.tuple (SqT.of hs)
    exact wpAny_pyIter_tuple (show s1.heap.IsTuple a ws.toArray from pt) ⟨_, [_], _, _, H1, rfl, I1.kept (t' := s1.toks) fun b o z => Heap.get?_push_of_some _ z, turn_tuple a _, ⟨_, Heap.get?_push_size _ rfl, rfl, rfl⟩, new, q _ (.inr ⟨rfl, hs⟩)⟩
section
variable {K : PySem.W.Frag} {a : Addr} {xs : List V}
theorem for_seq {J : It} {g : TG} {tb : TS} {D : Ends} {σ : L2.St} {H : Hp} (hJ : ItS K H a xs J) (Pv : Nat → L2.St → Hp → Prop) (h0 : Pv 0 σ H) (hl : ∀ i σ2 H2, i ≤ xs.length → Pv i σ2 H2 → H2 a = H a)
    (hs : ∀ i x σ H, xs[i]? = some x → Pv i σ H → g x σ H fun σ2 H2 => tb { D with nx := Pv (i + 1), ct := Pv (i + 1), bk := D.nx } σ2 H2) (hd : ∀ σ H, Pv xs.length σ H → D.nx σ H) :
    ∃ W : Nat → Nat → L2.St → Hp → Prop, (∃ m, W 0 m σ H) ∧ ∀ i m σ H, W i m σ H →
      (J.stop i H ∧ D.nx σ H) ∨ (J.go i H ∧ ∃ N : L2.St → Hp → Prop, (∀ σ' H', N σ' H' → ∃ m', m' < m ∧ W (i + 1) m' σ' H') ∧ ∀ x H', J.yld i H x H' → g x σ H' fun σ2 H2 => tb { D with nx := N, ct := N, bk := D.nx } σ2 H2) := by
  rcases hJ with ⟨rfl, e⟩ | ⟨rfl, e⟩
  · exact for_list Pv h0 (fun i σ2 H2 hi p => SqL.of ((hl i σ2 H2 hi p).trans e)) hs hd
  · exact for_tup Pv h0 (fun i σ2 H2 hi p => SqT.of ((hl i σ2 H2 hi p).trans e)) hs hd
theorem lc_seq {J : It} {g : TG} {tt : TT} {te : TE} {vs : List Nat} {σ : L2.St} {H1 : Hp} {D : Addr} {Qd : Hp → Prop} (hJ : ItS K H1 a xs J) (Pv : Nat → Hp → Prop) (h0 : Pv 0 (upd H1 D (.lst []))) (hl : ∀ i H, i ≤ xs.length → Pv i H → H a = H1 a)
    (hs : ∀ i x H, xs[i]? = some x → Pv i H → g x (wipe σ vs) H fun σ2 H2 => wipe σ2 vs = wipe σ vs ∧ tt σ2 H2 fun b H3 =>
      if b = true then te σ2 H3 fun y H4 => ∃ acc, H4 D = some (.lst acc) ∧ acc.length < sizeLine ∧ Pv (i + 1) (upd H4 D (.lst (acc ++ [y]))) else Pv (i + 1) H3) (hd : ∀ H, Pv xs.length H → Qd H) :
    ∃ W : Nat → Nat → Hp → Prop, (∃ m, W 0 m (upd H1 D (.lst []))) ∧ ∀ i m H, W i m H →
      (J.stop i H ∧ Qd H) ∨ (J.go i H ∧ ∃ Nx : Hp → Prop, (∀ H', Nx H' → ∃ m', m' < m ∧ W (i + 1) m' H') ∧ ∀ x H', J.yld i H x H' → g x (wipe σ vs) H' fun σ2 H2 => wipe σ2 vs = wipe σ vs ∧ tt σ2 H2 fun b H3 =>
        if b = true then te σ2 H3 fun y H4 => ∃ acc, H4 D = some (.lst acc) ∧ acc.length < sizeLine ∧ Nx (upd H4 D (.lst (acc ++ [y]))) else Nx H3) := by
  rcases hJ with ⟨rfl, e⟩ | ⟨rfl, e⟩
  · exact lc_list Pv h0 (fun i H2 hi p => SqL.of ((hl i H2 hi p).trans e)) hs hd
  · exact lc_tup Pv h0 (fun i H2 hi p => SqT.of ((hl i H2 hi p).trans e)) hs hd
end
/-! ### no list, no dict within -/
mutual
def fz : PyData → Bool
  | .list _ => false
  | .dict _ => false
  | .tuple xs => fzA xs
  | _ => true
def fzA : List PyData → Bool
  | [] => true
  | d :: ds => fz d && fzA ds
end
mutual
theorem Dr.fz {N M : Addr → Prop} {H : Hp} : ∀ {d : PyData} {v : V}, Dr N H v d → fz d = true → Dr M H v d
  | _, _, .non, _ => .non
  | _, _, .bl b, _ => .bl b
  | _, _, .int i, _ => .int i
  | _, _, .str x, _ => .str x
  | _, _, .lst _ _ _, h => by simp [WR.fz] at h
  | _, _, .tup e r, h => .tup e (DrA.fz r (by simpa [WR.fz] using h))
  | _, _, .dct _ _ _, h => by simp [WR.fz] at h
theorem DrA.fz {N M : Addr → Prop} {H : Hp} : ∀ {ds : List PyData} {vs : List V}, DrA N H vs ds → fzA ds = true → DrA M H vs ds
  | _, _, .nil, _ => .nil
  | _, _, .cons r t, h => by
    simp only [fzA, Bool.and_eq_true] at h
    exact .cons (Dr.fz r h.1) (DrA.fz t h.2)
end
/-! ### sizes -/
def lim : Nat := 4000
mutual
def wd : PyData → Bool
  | .none => true
  | .bool _ => true
  | .int i => decide (i.natAbs.log2 < 1000)
  | .str x => decide (x.length ≤ lim)
  | .list xs => decide (xs.length ≤ lim) && wdA xs
  | .tuple xs => decide (xs.length ≤ lim) && wdA xs
  | .dict ps => decide (ps.length ≤ lim) && wdK ps
def wdA : List PyData → Bool
  | [] => true
  | d :: ds => wd d && wdA ds
def wdK : List (PyData × PyData) → Bool
  | [] => true
  | p :: ps => wd p.1 && wd p.2 && wdK ps
end
theorem wdA_mem : ∀ {ds : List PyData} {d : PyData}, wdA ds = true → d ∈ ds → wd d = true
  | [], d, _, h => by cases h
  | e :: es, d, w, h => by
    simp only [wdA, Bool.and_eq_true] at w
    rcases List.mem_cons.mp h with rfl | h
    · exact w.1
    · exact wdA_mem w.2 h
theorem wdA_of : ∀ {ds : List PyData}, (∀ d ∈ ds, wd d = true) → wdA ds = true
  | [], _ => by simp only [wdA]
  | d :: ds, h => by
    simp only [wdA, Bool.and_eq_true]
    exact ⟨h d (List.mem_cons_self ..), wdA_of fun e he => h e (List.mem_cons_of_mem _ he)⟩
theorem wd_its {d : PyData} (w : wd d = true) (h : isL d = true) : (its d).length ≤ lim ∧ wdA (its d) = true := by
  cases d with
  | list xs =>
    simp only [wd, Bool.and_eq_true, decide_eq_true_eq] at w
    exact w
  | tuple xs =>
    simp only [wd, Bool.and_eq_true, decide_eq_true_eq] at w
    exact w
  | _ => cases h
theorem lim_lt : lim < sizeLine := by
  rw [sizeLine_eq]
  decide
/-! ### a comprehension of data: each item's element is pure -/
/-- D's list is set apart; all else stays -/
structure But (D : Addr) (H H' : Hp) : Prop where
  old : ∀ b o, b ≠ D → H b = some o → H' b = some o
theorem But.sm {D : Addr} {H H' : Hp} (n : H D = none) (b : But D H H') : Sm H H' := fun c o e => b.old c o (ne_of_none e n) e
/-- J walks the data ds, whatever else comes to stand -/
structure Walk (J : It) (H1 : Hp) (ds : List PyData) : Prop where
  go : ∀ H i, Sm H1 H → i < ds.length → J.go i H
  yld : ∀ H i x H', Sm H1 H → i < ds.length → J.yld i H x H' → H' = H ∧ ∃ d, ds[i]? = some d ∧ Dr All H x d
  stop : ∀ H, Sm H1 H → J.stop ds.length H
theorem Walk.seq {K : PySem.W.Frag} {H1 : Hp} {a : Addr} {xs : List V} {ds : List PyData} {J : It} (hJ : ItS K H1 a xs J) (r : DrA All H1 xs ds) : Walk J H1 ds := by
  have hl := r.length
  constructor
  · intro H i s hi
    have hx : xs[i]? = some xs[i] := List.getElem?_eq_getElem (by omega)
    rcases hJ with ⟨rfl, e⟩ | ⟨rfl, e⟩
    · exact ⟨xs, _, SqL.of (s _ _ e), hx⟩
    · exact ⟨xs, _, SqT.of (s _ _ e), hx⟩
  · intro H i x H' s hi y
    have hx : H' = H ∧ xs[i]? = some x := by
      rcases hJ with ⟨rfl, e⟩ | ⟨rfl, e⟩
      · exact ⟨y.1, y.2 xs (SqL.of (s _ _ e))⟩
      · exact ⟨y.1, y.2 xs (SqT.of (s _ _ e))⟩
    obtain ⟨d, h1, h2⟩ := r.get hx.2
    exact ⟨hx.1, d, h1, h2.sm s⟩
  · intro H s
    rcases hJ with ⟨rfl, e⟩ | ⟨rfl, e⟩
    · exact ⟨xs, SqL.of (s _ _ e), by omega⟩
    · exact ⟨xs, SqT.of (s _ _ e), by omega⟩
/-- the signsD of a text, each a text -/
def signsD (x : Str) : List PyData := x.cps.toList.map fun c => .str ⟨#[c]⟩
theorem signsD_len (x : Str) : (signsD x).length = x.length := by
  simp [signsD, Str.length]
theorem Walk.str {H1 : Hp} {x : Str} : Walk (Its x) H1 (signsD x) := by
  have hl : (signsD x).length = x.cps.size := by simp [signsD]
  constructor
  · intro H i s hi
    show i < x.cps.size
    omega
  · rintro H i v H' s hi ⟨e, c, hc, rfl⟩
    refine ⟨e, .str ⟨#[c]⟩, ?_, .str _⟩
    simp [signsD, List.getElem?_map, hc]
  · intro H s
    show x.cps.size ≤ (signsD x).length
    omega
theorem Walk.range {H1 : Hp} {lo : Int} {n : Nat} : Walk (Itr lo n) H1 ((List.range n).map fun (k : Nat) => PyData.int (lo + (k : Int))) := by
  constructor
  · intro H i s hi
    show i < n
    simpa using hi
  · rintro H i v H' s hi ⟨e, rfl⟩
    refine ⟨e, .int (lo + i), ?_, .int _⟩
    have : i < n := by simpa using hi
    simp [List.getElem?_map, List.getElem?_range this]
  · intro H s
    show n ≤ _
    simp
section
variable {K : PySem.W.Frag}
/-- a comprehension by a state of one's own: P j H' ys, behind j items -/
theorem lc_walk {J : It} {te : TE} {tt : TT} {g : TG} {vs : List Nat} {σ : L2.St} {H1 : Hp} {D : Addr} {n : Nat} {Qd : Hp → Prop} (P : Nat → Hp → Prop) (h0 : P 0 (upd H1 D (.lst [])))
    (hgo : ∀ i H, i < n → P i H → J.go i H) (hst : ∀ H, P n H → J.stop n H)
    (hs : ∀ i x H H', i < n → P i H → J.yld i H x H' → g x (wipe σ vs) H' fun σ2 H2 => wipe σ2 vs = wipe σ vs ∧ tt σ2 H2 fun b H3 =>
      if b = true then te σ2 H3 fun y H4 => ∃ acc, H4 D = some (.lst acc) ∧ acc.length < sizeLine ∧ P (i + 1) (upd H4 D (.lst (acc ++ [y]))) else P (i + 1) H3)
    (hd : ∀ H, P n H → Qd H) :
    ∃ W : Nat → Nat → Hp → Prop, (∃ m, W 0 m (upd H1 D (.lst []))) ∧ ∀ i' m H, W i' m H →
      (J.stop i' H ∧ Qd H) ∨ (J.go i' H ∧ ∃ Nx : Hp → Prop, (∀ H', Nx H' → ∃ m', m' < m ∧ W (i' + 1) m' H') ∧ ∀ x H', J.yld i' H x H' → g x (wipe σ vs) H' fun σ2 H2 => wipe σ2 vs = wipe σ vs ∧ tt σ2 H2 fun b H3 =>
        if b = true then te σ2 H3 fun y H4 => ∃ acc, H4 D = some (.lst acc) ∧ acc.length < sizeLine ∧ Nx (upd H4 D (.lst (acc ++ [y]))) else Nx H3) := by
  refine ⟨fun i m H => m + i = n ∧ P i H, ⟨n, by omega, h0⟩, ?_⟩
  rintro i m H ⟨e, p⟩
  by_cases hi : i < n
  · exact .inr ⟨hgo i H hi p, P (i + 1), fun H' p' => ⟨m - 1, by omega, by omega, p'⟩, fun x H' y => hs i x H H' hi p y⟩
  · have e2 : i = n := by omega
    subst e2
    exact .inl ⟨hst H p, hd H p⟩
theorem lc_dr {J : It} {te : TE} {vs : List Nat} {i : Nat} {σ : L2.St} {H1 : Hp} {D : Addr} {ds : List PyData} {Qd : Hp → Prop} (F : PyData → PyData) (W : Walk J H1 ds) (nD : H1 D = none) (hlen : ds.length ≤ lim)
    (hw : ∀ x, wipe ((wipe σ vs).set i (some x)) vs = wipe σ vs)
    (hs : ∀ (x : V) (d : PyData) (H2 : Hp) (Q : VK), d ∈ ds → Sm H1 H2 → Dr All H2 x d → (∀ y H3, Sm H2 H3 → Dr (fun b => b ≠ D) H3 y (F d) → Q y H3) → te ((wipe σ vs).set i (some x)) H2 Q)
    (hd : ∀ H2 ys, Sm H1 H2 → H2 D = some (.lst ys) → DrA (fun b => b ≠ D) H2 ys (ds.map F) → Qd H2) :
    ∃ W : Nat → Nat → Hp → Prop, (∃ m, W 0 m (upd H1 D (.lst []))) ∧ ∀ i' m H, W i' m H →
      (J.stop i' H ∧ Qd H) ∨ (J.go i' H ∧ ∃ Nx : Hp → Prop, (∀ H', Nx H' → ∃ m', m' < m ∧ W (i' + 1) m' H') ∧ ∀ x H', J.yld i' H x H' → gName i x (wipe σ vs) H' fun σ2 H2 => wipe σ2 vs = wipe σ vs ∧ tYes σ2 H2 fun b H3 =>
        if b = true then te σ2 H3 fun y H4 => ∃ acc, H4 D = some (.lst acc) ∧ acc.length < sizeLine ∧ Nx (upd H4 D (.lst (acc ++ [y]))) else Nx H3) := by
  refine lc_walk (n := ds.length) (fun j H2 => Sm H1 H2 ∧ ∃ ys, H2 D = some (.lst ys) ∧ ys.length = j ∧ DrA (fun b => b ≠ D) H2 ys ((ds.take j).map F)) ?_ ?_ ?_ ?_ ?_
  · exact ⟨Sm.new nD, [], upd_same, rfl, .nil⟩
  · rintro j H2 hj ⟨s, _⟩
    exact W.go _ _ s hj
  · rintro H2 ⟨s, _⟩
    exact W.stop _ s
  · rintro j x H2 H' hj ⟨s, ys, eD, hl, ry⟩ hy
    obtain ⟨rfl, d, hd', rd⟩ := W.yld _ _ _ _ s hj hy
    have hm : d ∈ ds := List.mem_of_getElem? hd'
    refine ⟨hw x, ?_⟩
    dsimp only [tYes]
    rw [if_pos rfl]
    refine hs x d H' _ hm s rd fun y H3 s3 r3 => ?_
    have eD3 := s3 D _ eD
    refine ⟨ys, eD3, by rw [hl]; exact Nat.lt_of_lt_of_le hj (Nat.le_of_lt (Nat.lt_of_le_of_lt hlen lim_lt)), ?_⟩
    have s4 : Sm H1 (upd H3 D (.lst (ys ++ [y]))) := fun b o z => by
      rw [upd_ne (ne_of_none z nD)]
      exact s3 _ _ (s _ _ z)
    refine ⟨s4, ys ++ [y], upd_same, by rw [List.length_append, hl]; rfl, ?_⟩
    have et : (ds.take (j + 1)).map F = (ds.take j).map F ++ [F d] := by
      rw [List.take_succ, hd']
      simp
    rw [et]
    have s5 : Stays (fun b => b ≠ D) H3 (upd H3 D (.lst (ys ++ [y]))) := ⟨fun b o nb z => by rw [upd_ne nb]; exact z, fun b us z => by
      rw [upd_ne (fun q => by rw [q, eD3] at z; cases z)]
      exact z⟩
    exact ((ry.sm s3).append (.one r3)).mono (fun _ z => z) s5
  · rintro H2 ⟨s, ys, eD, hl, ry⟩
    refine hd H2 ys s eD ?_
    rw [List.take_length] at ry
    exact ry
/-- .. whose elements hold no list, no dict -/
theorem lc_fz {J : It} {te : TE} {vs : List Nat} {i : Nat} {σ : L2.St} {H1 : Hp} {D : Addr} {ds : List PyData} {Qd : Hp → Prop} (F : PyData → PyData) (W : Walk J H1 ds) (nD : H1 D = none) (hlen : ds.length ≤ lim)
    (hw : ∀ x, wipe ((wipe σ vs).set i (some x)) vs = wipe σ vs) (hf : ∀ d ∈ ds, fz (F d) = true)
    (hs : ∀ (x : V) (d : PyData) (H2 : Hp) (Q : VK), d ∈ ds → Sm H1 H2 → Dr All H2 x d → (∀ y H3, Sm H2 H3 → Dr All H3 y (F d) → Q y H3) → te ((wipe σ vs).set i (some x)) H2 Q)
    (hd : ∀ H2 ys, Sm H1 H2 → H2 D = some (.lst ys) → DrA All H2 ys (ds.map F) → Qd H2) :
    ∃ W : Nat → Nat → Hp → Prop, (∃ m, W 0 m (upd H1 D (.lst []))) ∧ ∀ i' m H, W i' m H →
      (J.stop i' H ∧ Qd H) ∨ (J.go i' H ∧ ∃ Nx : Hp → Prop, (∀ H', Nx H' → ∃ m', m' < m ∧ W (i' + 1) m' H') ∧ ∀ x H', J.yld i' H x H' → gName i x (wipe σ vs) H' fun σ2 H2 => wipe σ2 vs = wipe σ vs ∧ tYes σ2 H2 fun b H3 =>
        if b = true then te σ2 H3 fun y H4 => ∃ acc, H4 D = some (.lst acc) ∧ acc.length < sizeLine ∧ Nx (upd H4 D (.lst (acc ++ [y]))) else Nx H3) :=
  lc_dr F W nD hlen hw (fun x d H2 Q hm s rx q => hs x d H2 Q hm s rx fun y H3 s3 r3 => q y H3 s3 (r3.fz (hf d hm))) fun H2 ys s e rr => hd H2 ys s e rr.all
end
/-! ### all, any of a list of bools -/
theorem DrA.bls {N : Addr → Prop} {H : Hp} : ∀ {bs : List Bool} {vs : List V}, DrA N H vs (bs.map PyData.bool) → vs = bs.map V.bl
  | [], _, .nil => rfl
  | b :: bs, _, .cons r t => by
    cases r
    rw [DrA.bls t]
    rfl
theorem DrA.ints {N : Addr → Prop} {H : Hp} : ∀ {bs : List Int} {vs : List V}, DrA N H vs (bs.map PyData.int) → vs = bs.map V.int
  | [], _, .nil => rfl
  | b :: bs, _, .cons r t => by
    cases r
    rw [DrA.ints t]
    rfl
end WR

namespace WR
open PySem PySem.Spec PyProof.Rows L2
def likeD : PyData → List PyData → PyData
  | .list _, ys => .list ys
  | _, ys => .tuple ys
def cutA {α : Type} (xs : List α) (lo hi : Option Int) : List α := (xs.drop (HT.sIx xs.length 0 lo)).take (HT.sIx xs.length xs.length hi - HT.sIx xs.length 0 lo)
theorem cutA_from {α : Type} (xs : List α) (k : Nat) : cutA xs (some (k : Int)) none = xs.drop k := by
  unfold cutA
  rw [HT.sIx_nat, HT.sIx_none]
  by_cases h : k ≤ xs.length
  · rw [Nat.min_eq_left h, List.take_of_length_le (by rw [List.length_drop]; omega)]
  · rw [Nat.min_eq_right (by omega), List.drop_of_length_le (by omega), List.drop_of_length_le (by omega), List.take_nil]
theorem cutA_to {α : Type} (xs : List α) (k : Nat) : cutA xs none (some (k : Int)) = xs.take k := by
  unfold cutA
  rw [HT.sIx_nat, HT.sIx_none, List.drop_zero, Nat.sub_zero]
  by_cases h : k ≤ xs.length
  · rw [Nat.min_eq_left h]
  · rw [Nat.min_eq_right (by omega), List.take_of_length_le (by omega), List.take_of_length_le (by omega)]
theorem DrA.cut {N : Addr → Prop} {H : Hp} {vs : List V} {ds : List PyData} (r : DrA N H vs ds) (lo hi : Option Int) : DrA N H (cutV vs lo hi) (cutA ds lo hi) := by
  unfold cutV cutA
  rw [r.length]
  exact (r.drop _).take _
theorem its_like (d : PyData) (ys : List PyData) : its (likeD d ys) = ys := by cases d <;> rfl
theorem isL_like (d : PyData) (ys : List PyData) : isL (likeD d ys) = true := by cases d <;> rfl
theorem like_its {d : PyData} (h : isL d = true) : likeD d (its d) = d := by
  cases d with
  | list _ => rfl
  | tuple _ => rfl
  | _ => cases h
section
variable {X : Cx}
/-- x[lo:hi] of a list or a tuple -/
def rSlD : V → Option Int → Option Int → Hp → VK → Prop := fun x lo hi H Q => ∃ d, Dr All H x d ∧ isL d = true ∧ ∀ v H', Sm H H' → Dr All H' v (likeD d (cutA (its d) lo hi)) → Q v H'
theorem sl_D : SlR X rSlD := by
  intro pins s σ H x v vl vu lo hi sl Q I rx hs pl pu h
  obtain ⟨d, rd, hL, q⟩ := h
  cases rd with
  | lst _ e r =>
    refine sl_list pins s σ H _ v vl vu lo hi sl Q I rx hs pl pu ⟨_, _, rfl, SqL.of e, fun p np => q _ _ (Sm.new np) ?_⟩
    exact .lst trivial upd_same ((r.cut lo hi).sm (Sm.new np))
  | @tup a xs ds e r =>
    refine sl_tupA pins s σ H _ v vl vu lo hi sl Q I rx hs pl pu ⟨_, _, rfl, SqT.of e, fun hw => q _ _ Sm.rfl' ?_, fun _ p np => q _ _ (Sm.new np) ?_⟩
    · have ew : cutA ds lo hi = ds := by
        have hl := r.length
        unfold cutA
        rw [hl] at hw
        rw [hw.1, hw.2, List.drop_zero, Nat.sub_zero, List.take_length]
      show Dr All H _ (.tuple (cutA ds lo hi))
      rw [ew]
      exact .tup e r
    · exact .tup upd_same ((r.cut lo hi).sm (Sm.new np))
  | _ => cases hL
/-- x[j], j within a list or a tuple -/
def rIxD : R2 := fun x y H Q => ∃ d, ∃ j : Nat, ∃ e, Dr All H x d ∧ isL d = true ∧ y = .int (j : Int) ∧ (its d)[j]? = some e ∧ ∀ v, Dr All H v e → Q v H
theorem ix_D : IxR X rIxD := by
  intro value slice pins s σ H x y v u Q I rx ry h hs
  obtain ⟨d, j, e, rd, hL, rfl, he, q⟩ := h
  cases rd with
  | lst _ ea r =>
    obtain ⟨z, hz, rz⟩ := r.at_ he
    exact ix_list value slice pins s σ H _ _ v u Q I rx ry ⟨_, _, _, z, rfl, rfl, SqL.of ea, atI_nat hz, q _ rz⟩ hs
  | tup ea r =>
    obtain ⟨z, hz, rz⟩ := r.at_ he
    exact ix_tup value slice pins s σ H _ _ v u Q I rx ry ⟨_, _, _, z, rfl, rfl, SqT.of ea, atI_nat hz, q _ rz⟩ hs
  | _ => cases hL
/-- tuple(x) -/
theorem call_tupD : CallR X (.type "tuple") (fun xs H Q => ∃ v d, xs = [v] ∧ Dr All H v d ∧ isL d = true ∧ ∀ u H', Sm H H' → Dr All H' u (.tuple (its d)) → Q u H') := by
  intro pins s σ H xs us Q I r h
  obtain ⟨v, d, rfl, rd, hL, q⟩ := h
  cases rd with
  | lst _ e rr => exact call_tuple_of pins s σ H _ us Q I r ⟨_, _, rfl, .inl ⟨SqL.of e, fun p np => q _ _ (Sm.new np) (.tup upd_same (rr.sm (Sm.new np)))⟩⟩
  | tup e rr => exact call_tuple_of pins s σ H _ us Q I r ⟨_, _, rfl, .inr ⟨SqT.of e, q _ _ Sm.rfl' (.tup e rr)⟩⟩
  | _ => cases hL
/-- len(x) -/
theorem call_lenS : CallR X (.builtin "len") (fun xs H Q => ∃ v d, xs = [v] ∧ Dr All H v d ∧ isL d = true ∧ Q (.int ((its d).length : Nat)) H) := by
  intro pins s σ H xs us Q I r h
  obtain ⟨v, d, rfl, rd, hL, q⟩ := h
  cases rd with
  | lst _ e rr => exact call_len pins s σ H _ us Q I r ⟨_, _, rfl, .inl ⟨_, SqL.of e, rr.length.symm⟩, q⟩
  | tup e rr => exact call_len pins s σ H _ us Q I r ⟨_, _, rfl, .inr ⟨_, SqT.of e, rr.length.symm⟩, q⟩
  | _ => cases hL
/-- x == y, x != y of data without dicts, none deeper than 60 -/
def eqOk (d : PyData) : Prop := d.canLay0 = true ∧ d.depth ≤ 60
theorem eqOk.shaped {d : PyData} (h : eqOk d) : SeqAt.shaped d = true := by
  show (PyData.canLay0 d && decide (PyData.depth d ≤ 64)) = true
  rw [Bool.and_eq_true]
  exact ⟨h.1, decide_eq_true (by have := h.2; omega)⟩
theorem eqOk.dp {K : PySem.W.Frag} {N : Addr → Prop} {H : Hp} {v : V} {d : PyData} (h : eqOk d) (r : Dr N H v d) : Dp K H v d := r.dp (PyData.hasDict_of_canLay d h.1)
def rEqDr : R2 := fun x y H Q => ∃ d e, Dr All H x d ∧ Dr All H y e ∧ eqOk d ∧ eqOk e ∧ Q (.bl (PyData.eqv d e)) H
def rNeDr : R2 := fun x y H Q => ∃ d e, Dr All H x d ∧ Dr All H y e ∧ eqOk d ∧ eqOk e ∧ Q (.bl (!PyData.eqv d e)) H
theorem op_eqDr (hu : X.A.units + 64 < cLine) : OpR X (compareOp .Eq) rEqDr := by
  intro pins s σ H x y v u Q I rx ry h
  obtain ⟨d, e, rd, re, od, oe, q⟩ := h
  exact op_eqD hu pins s σ H x y v u Q I rx ry ⟨d, e, od.dp rd, oe.dp re, od.shaped, oe.shaped, q⟩
theorem op_neDr (hu : X.A.units + 64 < cLine) : OpR X (compareOp .NotEq) rNeDr := by
  intro pins s σ H x y v u Q I rx ry h
  obtain ⟨d, e, rd, re, od, oe, q⟩ := h
  exact op_neD hu pins s σ H x y v u Q I rx ry ⟨d, e, od.dp rd, oe.dp re, od.shaped, oe.shaped, q⟩
/-- x in y, y a list -/
def rInDr (b : Bool) : R2 := fun x y H Q => ∃ d ds, Dr All H x d ∧ Dr All H y (.list ds) ∧ eqOk d ∧ eqOk (.list ds) ∧ Q (.bl (if b then ds.any fun z => PyData.eqv z d else !ds.any fun z => PyData.eqv z d)) H
theorem op_inDr (hu : X.A.units + 65 < cLine) : OpR X (compareOp .In) (rInDr true) := by
  intro pins s σ H x y v u Q I rx ry h
  obtain ⟨d, e, rd, re, od, oe, q⟩ := h
  exact op_inD hu pins s σ H x y v u Q I rx ry ⟨d, e, od.dp rd, oe.dp re, od.shaped, oe.shaped, q⟩
theorem op_notInDr (hu : X.A.units + 65 < cLine) : OpR X (compareOp .NotIn) (rInDr false) := by
  intro pins s σ H x y v u Q I rx ry h
  obtain ⟨d, e, rd, re, od, oe, q⟩ := h
  exact op_notInD hu pins s σ H x y v u Q I rx ry ⟨d, e, od.dp rd, oe.dp re, od.shaped, oe.shaped, q⟩
end
end WR

/-! Dicts whose keys are nested tuples, over the layer. -/
namespace WR
open PySem PySem.Spec PyProof.Rows L2
mutual
/-- the data as a key -/
def nk : PyData → NestedKey
  | .none => .none
  | .bool b => .num (if b = true then 1 else 0)
  | .int i => .num i
  | .str x => .text x
  | .list _ => .none
  | .tuple xs => .tup (nkA xs)
  | .dict _ => .none
def nkA : List PyData → List NestedKey
  | [] => []
  | d :: ds => nk d :: nkA ds
end
section
variable {X : Cx} {pins : List (Addr × Obj)} {σ : L2.St} {N : Addr → Prop} {H : Hp} {s : Shared}
mutual
theorem Dr.key (I : Inv X pins σ H s) : ∀ {d : PyData} {v : V} {u : Value}, Dr N H v d → fz d = true → RelV v u → NestedIs s.heap (nk d) u
  | _, _, u, .non, _, r => by
    cases (show u = Value.none from r)
    exact .none
  | _, _, u, .bl b, _, r => by
    cases (show u = Value.bool b from r)
    exact .bool rfl
  | _, _, u, .int i, _, r => by
    obtain ⟨t, e⟩ := (show ∃ t, u = Value.int i t from r)
    subst e
    exact .int i t
  | _, _, u, .str x, _, r => by
    obtain ⟨t, e⟩ := (show ∃ t, u = Value.str x t from r)
    subst e
    exact .text x t
  | _, _, _, .lst _ _ _, h, _ => by simp [fz] at h
  | _, _, u, .tup (a := a) e ra, h, r => by
    cases (show u = Value.ref a from r)
    obtain ⟨ws, rv, ⟨o, ho, hc, n, hd⟩, _⟩ := I.tuple (SqT.of e)
    exact .tup ho hc hd (DrA.key I ra (by simpa [fz] using h) rv)
  | _, _, _, .dct _ _ _, h, _ => by simp [fz] at h
theorem DrA.key (I : Inv X pins σ H s) : ∀ {ds : List PyData} {vs : List V} {us : List Value}, DrA N H vs ds → fzA ds = true → Vals vs us → NestedAll s.heap (nkA ds) us
  | _, _, _, .nil, _, .nil => .nil
  | _, _, _, .cons r t, h, .cons q p => by
    simp only [fzA, Bool.and_eq_true] at h
    exact .cons (Dr.key I r h.1 q) (DrA.key I t h.2 p)
end
end
/-- may be a key -/
structure Kd (d : PyData) : Prop where
  tup : isTup d = true
  fz : WR.fz d = true
  dp : (nk d).depth ≤ 8
abbrev Ent : Type := PyData × Addr × V
def nent (q : Ent) (p : NestedKey × Addr × Value) : Prop := p.1 = nk q.1 ∧ p.2.1 = q.2.1 ∧ RelV q.2.2 p.2.2
/-- at d: a dict of these keys and values, the keys' tuples where they stand -/
def rdO (P : Program) (w : World) (d : Addr) (xs : List Ent) : HO := .ext fun h => (d == sysModules) = false ∧ ∃ ys : List (NestedKey × Addr × Value), Paired nent xs ys ∧
  (∃ o es ep, h.get? d = some o ∧ o.ExactDict ∧ o.data = .dict es ep ∧ es.toList = ys.map (entryOfKey (nestedKind P w))) ∧ (ys.map (·.1)).Nodup
/-- such a dict stands at d -/
structure RD (P : Program) (w : World) (H : Hp) (d : Addr) (xs : List Ent) : Prop where
  at_ : (xs = [] ∧ H d = some (.dK [])) ∨ H d = some (rdO P w d xs)
  keys : ∀ q ∈ xs, Kd q.1 ∧ Dr All H (.ref q.2.1) q.1
def lookE (xs : List Ent) (k : PyData) : Option V := (xs.find? fun q => decide (nk q.1 = nk k)).map (·.2.2)
section
variable {X : Cx} {pins : List (Addr × Obj)} {σ : L2.St} {H : Hp} {s : Shared} {d : Addr} {xs : List Ent}
theorem Kd.is {k : PyData} {a : Addr} (I : Inv X pins σ H s) (h : Kd k) (r : Dr All H (.ref a) k) : (nestedKind X.prog X.w).is s.heap (nk k) a :=
  ⟨r.key I h.fz rfl, h.dp⟩
/-- the library's word of it -/
theorem RD.of (I : Inv X pins σ H s) (h : RD X.prog X.w H d xs) : (d == sysModules) = false ∧ ∃ ys, Paired nent xs ys ∧ s.heap.DictOfH (nestedKind X.prog X.w) d ys := by
  rcases h.at_ with ⟨rfl, e⟩ | e
  · obtain ⟨_, hs, vs, rel, o, es, ep, h1, h2, h3, h4, h5, h6⟩ := dk_of I.hok e
    cases rel
    have e0 : es.toList = [] := by
      have := h5.length
      simpa using this
    exact ⟨hs, [], .nil, o, es, ep, h1, h2, h3, by rw [e0]; rfl, (fun x hx => by cases hx), List.nodup_nil⟩
  · have x : ObjOk X.prog X.w H s.heap d (rdO X.prog X.w d xs) := I.hok d _ e
    obtain ⟨⟨hs, ys, pr, ⟨o, es, ep, h1, h2, h3, h4⟩, nd⟩, _, _⟩ := x
    refine ⟨hs, ys, pr, o, es, ep, h1, h2, h3, h4, fun y hy => ?_, nd⟩
    have key : ∀ {xs : List Ent} {ys : List (NestedKey × Addr × Value)}, Paired nent xs ys → (∀ q ∈ xs, Kd q.1 ∧ Dr All H (.ref q.2.1) q.1) → ∀ y ∈ ys, (nestedKind X.prog X.w).is s.heap y.1 y.2.1 := by
      intro xs ys pr
      induction pr with
      | nil => intro _ y hy; cases hy
      | cons r t ih =>
        intro hk y hy
        rcases List.mem_cons.mp hy with rfl | hy
        · obtain ⟨k1, k2⟩ := hk _ (List.mem_cons_self ..)
          rw [r.1, r.2.1]
          exact k1.is I k2
        · exact ih (fun q hq => hk q (List.mem_cons_of_mem _ hq)) y hy
    exact key pr h.keys y hy
theorem atKey_look {ys : List (NestedKey × Addr × Value)} (pr : Paired nent xs ys) (k : PyData) : RelO (lookE xs k) ((atKey ys (nk k)).map (·.2)) := by
  induction pr with
  | nil => exact trivial
  | @cons q p qs ps r t ih =>
    unfold lookE atKey
    rw [List.find?_cons, List.find?_cons]
    have e : p.1 = nk q.1 := r.1
    rw [e]
    by_cases h : nk q.1 = nk k
    · rw [decide_eq_true h]
      exact r.2.2
    · rw [decide_eq_false h]
      exact ih
theorem atKey_none {ys : List (NestedKey × Addr × Value)} (pr : Paired nent xs ys) (k : PyData) (h : lookE xs k = none) : atKey ys (nk k) = none := by
  have r := atKey_look pr k
  rw [h] at r
  cases z : atKey ys (nk k) with
  | none => rfl
  | some y =>
    rw [z] at r
    exact r.elim
theorem atKey_some {ys : List (NestedKey × Addr × Value)} (pr : Paired nent xs ys) (k : PyData) : (atKey ys (nk k)).isSome = (lookE xs k).isSome := by
  have r := atKey_look pr k
  cases z : atKey ys (nk k) with
  | none =>
    rw [z] at r
    cases y : lookE xs k with
    | none => rfl
    | some v => rw [y] at r; exact r.elim
  | some p =>
    rw [z] at r
    cases y : lookE xs k with
    | none => rw [y] at r; exact r.elim
    | some v => rfl
end
section
variable {X : Cx}
theorem roomK {A : Around} (hu : A.units + 64 < cLine) {P : Program} {w : World} : (nestedKind P w).room A.in1 := by
  show A.units + 1 + 8 < cLine
  omega
/-- k in d -/
def rInRD (P : Program) (w : World) : R2 := fun x y H Q => ∃ (a d : Addr) (k : PyData) (xs : List Ent), x = .ref a ∧ y = .ref d ∧ Dr All H (.ref a) k ∧ Kd k ∧ RD P w H d xs ∧ Q (.bl (lookE xs k).isSome) H
theorem op_inRD (hu : X.A.units + 64 < cLine) : OpR X (compareOp .In) (rInRD X.prog X.w) := by
  intro pins s σ H x y v u Q I rx ry h
  obtain ⟨a, d, k, xs, rfl, rfl, rk, hk, hd, q⟩ := h
  cases (show v = Value.ref a from rx)
  cases (show u = Value.ref d from ry)
  obtain ⟨hs, ys, pr, dd⟩ := hd.of I
  refine wpAny_in_heap (knd := nestedKind X.prog X.w) (roomK hu) (hk.is I rk) hs dd ?_
  rw [atKey_some pr]
  exact ⟨.bl _, H, I.tok _, rfl, q⟩
/-- d.get(k) -/
def tGetRD (P : Program) (w : World) (td tk : TE) : TE := fun σ H Q => td σ H fun x H1 => ∃ d, x = .ref d ∧ (∃ ys, RD P w H1 d ys) ∧ tk σ H1 fun y H2 => ∃ (a : Addr) (k : PyData) (xs : List Ent), y = .ref a ∧ Dr All H2 (.ref a) k ∧ Kd k ∧ RD P w H2 d xs ∧ Q ((lookE xs k).getD .non) H2
theorem pe_getRD {o e : Expr} {apos cpos : Pos} {td tk : TE} (hu : X.A.units + 64 < cLine) (ho : PE X o td) (he : PE X e tk) (m : M1 X o "get" apos e cpos) : PE X (.Call (.Attribute o "get" apos) [e] [] cpos) (tGetRD X.prog X.w td tk) := by
  constructor
  intro pins s σ H Q I h
  refine wpAny_Call_method m.base m.few m.line PySem.F.plainAttrs_dict PySem.F.slot_dict_get PySem.F.type_dict_get (thn (ho.run pins s σ H _ I h) ?_)
  rintro u s1 ⟨x, H1, I1, rx, d, rfl, ⟨ys0, hd0⟩, q1⟩
  cases (show u = Value.ref d from rx)
  obtain ⟨_, ys1, _, dd1⟩ := hd0.of I1
  refine ⟨dd1.typeIs, fun b q => ?_, ?_⟩
  · cases q
    obtain ⟨o, _, _, h1, h2, _⟩ := dd1
    exact ⟨o, h1, h2.2.1⟩
  rw [m.trees]
  refine Calls.callWith_builtin rfl (Calls.evalArgs_plain (Calls.spliced_cons (thn (he.run pins s1 σ H1 _ I1 q1) ?_)))
  rintro iv s2 ⟨y, H2, I2, ry, a, k, xs, rfl, rk, hk, hd, q2⟩
  cases (show iv = Value.ref a from ry)
  refine Calls.spliced_nil ?_
  obtain ⟨hs, ys, pr, dd⟩ := hd.of I2
  refine call_meetsIn PySem.F.slot_dict_get dd.typeIs PySem.F.entry_dict_get (PySem.F.args_dict_get_2 _ _) (meetsH_dict_get (nestedKind X.prog X.w) d a hs) ⟨roomK hu, nk k, ys, hk.is I2 rk, dd, ?_⟩
  have r := atKey_look pr k
  refine ⟨_, H2, I2.tok _, ?_, q2⟩
  cases z : (atKey ys (nk k)).map (·.2) with
  | none =>
    rw [z] at r
    cases y : lookE xs k with
    | none => rfl
    | some v => rw [y] at r; exact r.elim
  | some p =>
    rw [z] at r
    cases y : lookE xs k with
    | none => rw [y] at r; exact r.elim
    | some v => rw [y] at r; exact r
/-- d[k] = v, k new -/
def tSetRD (P : Program) (w : World) : TSet := fun x y v H Q => ∃ (d a : Addr) (k : PyData) (xs : List Ent), x = .ref d ∧ y = .ref a ∧ Dr All H (.ref a) k ∧ Kd k ∧ RD P w H d xs ∧ lookE xs k = none ∧ xs.length < sizeLine ∧ Q (upd H d (rdO P w d (xs ++ [(k, a, v)])))
theorem Paired.app1 {α β : Type} {F : α → β → Prop} {a : α} {b : β} (r : F a b) : ∀ {xs : List α} {ys : List β}, Paired F xs ys → Paired F (xs ++ [a]) (ys ++ [b])
  | _, _, .nil => .cons r .nil
  | _, _, .cons q t => .cons q (Paired.app1 r t)
theorem set_RD (hu : X.A.units + 64 < cLine) : PSet X (tSetRD X.prog X.w) := by
  intro pins s σ H x y z v u r Q I rx ry rz h
  obtain ⟨d, a, k, xs, rfl, rfl, rk, hk, hd, hl, hz, q⟩ := h
  cases (show v = Value.ref d from rx)
  cases (show u = Value.ref a from ry)
  obtain ⟨hs, ys, pr, dd⟩ := hd.of I
  have hzy : ys.length ≤ sizeLine := by
    rw [← Paired.length pr]
    omega
  refine wpAny_setItem_heap (knd := nestedKind X.prog X.w) (roomK hu) (hk.is I rk) dd (fun h' dd' sb => ?_) hzy
  rw [storedH_new (atKey_none pr k hl)] at dd'
  have mu : Mut (H d) := by
    rcases hd.at_ with ⟨_, e⟩ | e
    · rw [e]; exact trivial
    · rw [e]; exact trivial
  obtain ⟨o, es, ep, h1, h2, h3, h4, h5, h6⟩ := dd'
  refine ⟨_, d_write I mu sb ⟨o, h1⟩ ?_, q⟩
  refine ⟨⟨hs, ys ++ [(nk k, a, r)], Paired.app1 ⟨rfl, rfl, rz⟩ pr, ⟨o, es, ep, h1, h2, h3, h4⟩, h6⟩, ⟨o, h1⟩, fun h1' h2' z st => ?_⟩
  obtain ⟨z1, ys', z2, ⟨o', es', ep', g1, g2, g3, g4⟩, z3⟩ := z
  exact ⟨z1, ys', z2, ⟨o', es', ep', st _ g1, g2, g3, g4⟩, z3⟩
end
end WR

/-! enumerate of a list or a tuple. -/
namespace WR
open PySem PySem.Spec PyProof.Rows L2
/-- enumerate(v) makes its two cells -/
theorem enum_new1 {v : Value} {o : Obj} {Hv : Heap → Prop} (B : Begins v o Hv) :
    Meets (Builtin.«enumerate.__new__» ⟨[.type "enumerate", v], []⟩) (fun _ R s => Hv s.heap ∧
      R (.ok (.ret (.ref (s.heap.push o).objs.size))) { s with heap := (s.heap.push o).push { cls := .type "enumerate", data := .fields #[.none, .bool false, .ref s.heap.objs.size, rawInt 0, .none, .none] } }) :=
  .of_wp fun prog w A R s h => by
    obtain ⟨hv, h⟩ := h
    obtain ⟨hp, g, d, tk, os⟩ := s
    have below := sub_enumerate
    have start : ∀ {A' : Around} {E : Value → Shared → Prop} {Q : Value → Shared → Prop}, Q (.ref hp.objs.size) ⟨hp.push o, g, d, tk, os⟩ → wpAny (model prog w) A' (pyIter v) Q E ⟨hp, g, d, tk, os⟩ := fun q => B.iter prog w _ _ _ _ hv q
    wp_walk using start
    refine wpAny_stack_any fun st => wpAny_pure ?_
    split
    · rename_i c _ _ _ _ _
      cases (c == Value.type "enumerate") <;> (wp_walk using start; exact ⟨_, rfl, h⟩)
    · wp_walk using start
      exact ⟨_, rfl, h⟩
theorem enum_call1 {prog : Program} {w : World} {A : Around} {E : Value → Shared → Prop} {s : Shared} {v : Value} {o : Obj} {Hv : Heap → Prop} {Q : Value → Shared → Prop} (B : Begins v o Hv) (hv : Hv s.heap)
    (h : ∀ h', IsEnum h' (s.heap.objs.size + 1) s.heap.objs.size 0 .none → h'.get? s.heap.objs.size = some o → (∀ b u, s.heap.get? b = some u → h'.get? b = some u) → Q (.ref (s.heap.objs.size + 1)) { s with heap := h' }) :
    wpAny (model prog w) A (call (.type "enumerate") [v]) Q E s := by
  refine callType_new F.called_enumerate (by decide) (F.typeCall_enumerate_1 _) (F.newCall_enumerate_1 _) (fun obj => F.args_object_init_2 obj _) F.entry_enumerate_new (enum_new1 B) ⟨hv, ?_⟩
  have sz : (s.heap.push o).objs.size = s.heap.objs.size + 1 := Heap.size_push ..
  show _ ∧ _
  rw [sz]
  have top := Heap.get?_push_size (s.heap.push o) (o := { cls := .type "enumerate", data := .fields #[.none, .bool false, .ref s.heap.objs.size, rawInt 0, .none, .none] }) rfl
  rw [sz] at top
  exact ⟨⟨_, top, rfl⟩, h _ top (Heap.get?_push_of_some _ (Heap.get?_push_size _ B.free)) fun b u z => Heap.get?_push_of_some _ (Heap.get?_push_of_some _ z)⟩
/-- the tuple at a, its items in new pairs -/
def Itu (K : PySem.W.Frag) (a : Addr) : It :=
  ⟨fun i H => ∃ (xs : List V) (x : V), SqT K H a xs ∧ xs[i]? = some x, fun i H v H' => ∃ T x, v = .ref T ∧ H T = none ∧ H' = upd H T (.tup [.int (i : Nat), x]) ∧ ∀ xs, SqT K H a xs → xs[i]? = some x, fun i H => ∃ xs : List V, SqT K H a xs ∧ xs.length = i⟩
theorem turn_enumT {P : Program} {w : World} {K : PySem.W.Frag} {elts : List Expr} {kk : Nat} {tpos : Pos} (a e it : Addr) :
    Turn P w K (.Tuple elts kk tpos) (Itu K a) [e, it] e (fun i h => (∃ old, IsEnum h e it ((i : Nat) : Int) old) ∧ h.IsTupleIter it a i ∧ e ≠ it ∧ a ≠ it ∧ a ≠ e) where
  mem := List.mem_cons_self ..
  obj := fun i h st b hb => by
    obtain ⟨⟨old, he⟩, ⟨o, ho, hc, hd⟩, _⟩ := st
    rcases List.mem_cons.mp hb with z | hb
    · rw [z]
      exact ⟨_, he, fun v q => nomatch q⟩
    · rw [List.mem_singleton.mp hb]
      exact ⟨o, ho, fun v q => by rw [hd] at q; cases q⟩
  keep := fun i h h' st k => by
    obtain ⟨⟨old, he⟩, hi, hr⟩ := st
    exact ⟨⟨old, k e (by simp) _ he⟩, hi.at fun o q => k it (by simp) o q, hr⟩
  item := by
    intro X hP hw hK hc i pins s σ H E I hf st hg
    subst hP hw hK
    obtain ⟨⟨old, he⟩, hit, hne, h1, h2⟩ := st
    obtain ⟨xs, x, hq, hx⟩ := hg
    obtain ⟨its, rv, p, hz⟩ := I.tuple hq
    obtain ⟨u, hu, ru⟩ := rv.get hx
    have hi : i < its.toArray.size := by
      have := (List.getElem?_eq_some_iff.mp hu).1
      simpa using this
    have lts : ∀ b ∈ [e, it], b < s.heap.objs.size := by
      intro b hb
      obtain ⟨_, q, _⟩ := hit
      rcases List.mem_cons.mp hb with z | hb
      · rw [z]; exact Heap.lt_size he
      · rw [List.mem_singleton.mp hb]; exact Heap.lt_size q
    have hh : X.A.in1.handled = none := I.ok.hd hc
    have D := Draws.tuple (prog := X.prog) (w := X.w) hh it a h1 its.toArray
    have hit0 := hit
    refine wpAny_pyNext_enum_itemD D he ⟨hit, p⟩ hi hne (fun z => ?_) fun y h' tk hy ho st' hT hsz hk => ?_
    · rcases List.mem_cons.mp z with z | z
      · exact hne z
      · exact h2 (List.mem_singleton.mp z).symm
    have ey : y = u := by
      have e1 : its.toArray[i]? = some u := by simpa using hu
      rw [e1] at hy
      exact (Option.some.inj hy).symm
    subst ey
    refine ⟨_, rfl, wpAny_letOwnedTupleGo_enum (s := { s with heap := h', toks := tk + 1 }) ho fun h'' he' sb => ?_⟩
    have hel := lts e (by simp)
    have hil := lts it (by simp)
    have hT2 : h''.get? s.heap.objs.size = some { cls := .type "tuple", data := .seq #[.int i tk, y] } := (sb.2 _ (Nat.ne_of_gt hel)).trans hT
    have new : ObjOk X.prog X.w (upd H s.heap.objs.size (.tup [.int (i : Nat), x])) h'' s.heap.objs.size (.tup [.int (i : Nat), x]) :=
      ⟨by show 2 ≤ sizeLine; decide, [.int i tk, y], .cons ⟨_, rfl⟩ (.cons ru .nil), ⟨_, hT2, rfl, _, rfl⟩⟩
    have I1 : Inv X pins σ (upd H s.heap.objs.size (.tup [.int (i : Nat), x])) { s with heap := h'', toks := tk + 1 } :=
      I.turnedNew (ch := [e, it]) (fun b ob hb q => (sb.2 b (fun z => hb (by simp [z]))).trans (hk b ob (fun z => hb (by simp [z])) (fun z => hb (by simp [z])) q)) hf (Nat.le_refl _) new
    refine ⟨.ref s.heap.objs.size, _, I1, rfl, ⟨_, x, rfl, I.hok.fresh (Nat.le_refl _), rfl, fun ys hy => by rw [I.tuple_inj hy hq]; exact hx⟩, ⟨⟨y, ?_⟩, st'.1.at fun o q => (sb.2 it (Ne.symm hne)).trans q, hne, h1, h2⟩, fun b hb => ?_⟩
    · have e1 : ((i + 1 : Nat) : Int) = (i : Int) + 1 := by omega
      rw [e1]
      exact he'
    · rw [upd_ne (Nat.ne_of_lt (lts b hb))]
      exact (hf b hb).1
  done := by
    intro X hP hw hK hc i pins s σ H E I hf st hg
    subst hP hw hK
    obtain ⟨⟨old, he⟩, hit, hne, h1, h2⟩ := st
    obtain ⟨xs, hq, hx⟩ := hg
    obtain ⟨its, rv, p, hz⟩ := I.tuple hq
    have hh : X.A.in1.handled = none := I.ok.hd hc
    have el : i = its.toArray.size := by
      have := rv.length
      simp
      omega
    obtain ⟨f0, f1, f2, f3, f4, f5⟩ := hf it (by simp)
    subst el
    exact wpAny_pyNext_enum_endD (Draws.tuple (prog := X.prog) (w := X.w) hh it a h1 its.toArray) he ⟨hit, p⟩ fun h' eb => ⟨rfl, I.turned (t' := s.toks) (fun b o hb q => eb b o hb q) f0 f1 f3 f4 f5⟩
  self := fun A i s Q E st h => by
    obtain ⟨⟨_, he⟩, _⟩ := st
    exact wpAny_pyIter_enum he h
/-- the walk of enumerate(x): by x's kind -/
def ItN (K : PySem.W.Frag) (H : Hp) (a : Addr) (xs : List V) (J : It) : Prop := (J = Ite K a ∧ H a = some (.lst xs)) ∨ (J = Itu K a ∧ H a = some (.tup xs))
def iEnS (K : PySem.W.Frag) (ta : TA) : TI := fun σ H R => ta σ H fun vs H1 => ∃ a xs, vs = [.ref a] ∧ Sq H1 a xs ∧ ∀ J, ItN K H1 a xs J → R J H1
theorem pi_enS {X : Cx} {e : Expr} {ta : TA} {p pos tpos : Pos} {elts : List Expr} {kk : Nat} (hm : X.mg "enumerate" = none) (ha : PA X [e] ta) (hg : Gl X "enumerate" := by rfl) (hs : starEach [e] X.env = [(false, eval e X.env)] := by rfl) :
    PI X (.Tuple elts kk tpos) (.Call (.Name "enumerate" p) [e] [] pos) (iEnS X.K ta) := by
  constructor
  intro pins s σ H R I h
  refine Call_ (ld_blt I hg hm boot_enumerate (PyProof.Rows.callWith_type1 (thn (ha.run pos pins s σ H _ I h) ?_) hs rfl))
  rintro us s1 ⟨vs, H1, I1, r1, a, xs, rfl, hq, q⟩
  cases r1 with
  | @cons _ u _ _ ra rr =>
    cases rr
    cases (show u = Value.ref a from ra)
    have new : ∀ b ∈ [s1.heap.objs.size + 1, s1.heap.objs.size], FpOk X pins H1 b := by
      intro b hb
      have hle : s1.heap.objs.size ≤ b := by
        rcases List.mem_cons.mp hb with z | hb
        · rw [z]; exact Nat.le_succ _
        · rw [List.mem_singleton.mp hb]; exact Nat.le_refl _
      exact I1.fpOk hle (I1.hok.fresh hle)
    rcases hq with hq | hq
    · obtain ⟨ws, _, pl, _⟩ := I1.list (SqL.of hq)
      refine enum_call1 (begins_list a ws.toArray) pl.isList fun h' he hi hk => wpAny_pyIter_enum he ?_
      exact ⟨_, _, _, _, H1, rfl, I1.kept (t' := s1.toks) hk, turn_enum a _ _, ⟨⟨_, he⟩, ⟨_, hi, rfl, rfl⟩, Nat.succ_ne_self _⟩, new, q _ (.inl ⟨rfl, hq⟩)⟩
    · obtain ⟨ws, _, pt, _⟩ := I1.tuple (SqT.of hq)
      have pt' : s1.heap.IsTuple a ws.toArray := pt
      have lt : a < s1.heap.objs.size := I1.hok.lt hq
      refine enum_call1 (begins_tuple a ws.toArray) pt' fun h' he hi hk => wpAny_pyIter_enum he ?_
      exact ⟨_, _, _, _, H1, rfl, I1.kept (t' := s1.toks) hk, turn_enumT a _ _, ⟨⟨_, he⟩, ⟨_, hi, rfl, rfl⟩, Nat.succ_ne_self _, Nat.ne_of_lt lt, Nat.ne_of_lt (Nat.lt_succ_of_lt lt)⟩, new, q _ (.inr ⟨rfl, hq⟩)⟩
/-- for i, x in enumerate(..): by a state P, turn by turn -/
theorem for_enS {K : PySem.W.Frag} {J : It} {g : TG} {tb : TS} {D : Ends} {a : Addr} {xs : List V} {σ : L2.St} {H : Hp} (hJ : ItN K H a xs J) (P : Nat → L2.St → Hp → Prop) (h0 : P 0 σ H) (hl : ∀ i σ2 H2, P i σ2 H2 → H2 a = H a)
    (hs : ∀ i x σ H T, xs[i]? = some x → P i σ H → H T = none → g (.ref T) σ (upd H T (.tup [.int (i : Nat), x])) fun σ2 H2 => tb { D with nx := P (i + 1), ct := P (i + 1), bk := D.nx } σ2 H2) (hd : ∀ σ H, P xs.length σ H → D.nx σ H) :
    ∃ W : Nat → Nat → L2.St → Hp → Prop, (∃ m, W 0 m σ H) ∧ ∀ i m σ H, W i m σ H →
      (J.stop i H ∧ D.nx σ H) ∨ (J.go i H ∧ ∃ N : L2.St → Hp → Prop, (∀ σ' H', N σ' H' → ∃ m', m' < m ∧ W (i + 1) m' σ' H') ∧ ∀ x H', J.yld i H x H' → g x σ H' fun σ2 H2 => tb { D with nx := N, ct := N, bk := D.nx } σ2 H2) := by
  refine ⟨fun i m σ H => m + i = xs.length ∧ P i σ H, ⟨xs.length, by omega, h0⟩, ?_⟩
  rintro i m σ2 H2 ⟨e, p⟩
  have ea := hl i σ2 H2 p
  by_cases hi : i < xs.length
  · have hx : xs[i]? = some xs[i] := List.getElem?_eq_getElem hi
    refine .inr ⟨?_, P (i + 1), fun σ' H' p' => ⟨m - 1, by omega, by omega, p'⟩, fun v H' y => ?_⟩
    · rcases hJ with ⟨rfl, z⟩ | ⟨rfl, z⟩
      · exact ⟨xs, _, SqL.of (ea.trans z), hx⟩
      · exact ⟨xs, _, SqT.of (ea.trans z), hx⟩
    · have y' : ∃ T x, v = .ref T ∧ H2 T = none ∧ H' = upd H2 T (.tup [.int (i : Nat), x]) ∧ xs[i]? = some x := by
        rcases hJ with ⟨rfl, z⟩ | ⟨rfl, z⟩
        · obtain ⟨T, x, h1, h2, h3, h4⟩ := y
          exact ⟨T, x, h1, h2, h3, h4 xs (SqL.of (ea.trans z))⟩
        · obtain ⟨T, x, h1, h2, h3, h4⟩ := y
          exact ⟨T, x, h1, h2, h3, h4 xs (SqT.of (ea.trans z))⟩
      obtain ⟨T, x, rfl, nT, rfl, hx'⟩ := y'
      exact hs i x σ2 H2 T hx' p nT
  · have e2 : i = xs.length := by omega
    subst e2
    refine .inl ⟨?_, hd σ2 H2 p⟩
    rcases hJ with ⟨rfl, z⟩ | ⟨rfl, z⟩
    · exact ⟨xs, SqL.of (ea.trans z), Nat.le_refl _⟩
    · exact ⟨xs, SqT.of (ea.trans z), rfl⟩
end WR

namespace K8
open PySem PySem.Spec PyProof.Rows L2
def top (i : Nat) : Stmt := PySem.Challenge.pw_pagestrue_k08_whole_webs_judged.main.body.getD i (.Pass ⟨0, 0, 0, 0⟩)
abbrev sBadWeb_I : Stmt := inClass (top 2) 0
def dBadWeb_I : He.DefD := ⟨("BadWeb", some "__init__"), "__init__", "BadWeb.__init__", defArgs sBadWeb_I, defBody sBadWeb_I, defScope sBadWeb_I, [], []⟩
abbrev sBadRow_I : Stmt := inClass (top 3) 0
def dBadRow_I : He.DefD := ⟨("BadRow", some "__init__"), "__init__", "BadRow.__init__", defArgs sBadRow_I, defBody sBadRow_I, defScope sBadRow_I, [], []⟩
abbrev sRowTable_I : Stmt := inClass (top 5) 0
def dRowTable_I : He.DefD := ⟨("RowTable", some "__init__"), "__init__", "RowTable.__init__", defArgs sRowTable_I, defBody sRowTable_I, defScope sRowTable_I, [], []⟩
abbrev sRowTable_put_in : Stmt := inClass (top 5) 1
def dRowTable_put_in : He.DefD := ⟨("RowTable", some "put_in"), "put_in", "RowTable.put_in", defArgs sRowTable_put_in, defBody sRowTable_put_in, defScope sRowTable_put_in, [], []⟩
abbrev snamed_rows : Stmt := top 6
def dnamed_rows : He.DefD := ⟨("named_rows", none), "named_rows", "named_rows", defArgs snamed_rows, defBody snamed_rows, defScope snamed_rows, [], []⟩
abbrev sis_list : Stmt := top 9
def dis_list : He.DefD := ⟨("is_list", none), "is_list", "is_list", defArgs sis_list, defBody sis_list, defScope sis_list, [], []⟩
abbrev sis_number : Stmt := top 10
def dis_number : He.DefD := ⟨("is_number", none), "is_number", "is_number", defArgs sis_number, defBody sis_number, defScope sis_number, [], []⟩
abbrev sare_numbers : Stmt := top 11
def dare_numbers : He.DefD := ⟨("are_numbers", none), "are_numbers", "are_numbers", defArgs sare_numbers, defBody sare_numbers, defScope sare_numbers, [], []⟩
abbrev sis_place : Stmt := top 12
def dis_place : He.DefD := ⟨("is_place", none), "is_place", "is_place", defArgs sis_place, defBody sis_place, defScope sis_place, [], []⟩
abbrev sis_letter : Stmt := top 13
def dis_letter : He.DefD := ⟨("is_letter", none), "is_letter", "is_letter", defArgs sis_letter, defBody sis_letter, defScope sis_letter, [], []⟩
abbrev sis_figure : Stmt := top 14
def dis_figure : He.DefD := ⟨("is_figure", none), "is_figure", "is_figure", defArgs sis_figure, defBody sis_figure, defScope sis_figure, [], []⟩
abbrev sbegins_name : Stmt := top 15
def dbegins_name : He.DefD := ⟨("begins_name", none), "begins_name", "begins_name", defArgs sbegins_name, defBody sbegins_name, defScope sbegins_name, [], []⟩
abbrev sis_name : Stmt := top 16
def dis_name : He.DefD := ⟨("is_name", none), "is_name", "is_name", defArgs sis_name, defBody sis_name, defScope sis_name, [], []⟩
abbrev srow_form : Stmt := top 18
def drow_form : He.DefD := ⟨("row_form", none), "row_form", "row_form", defArgs srow_form, defBody srow_form, defScope srow_form, [], []⟩
abbrev srow_why : Stmt := top 19
def drow_why : He.DefD := ⟨("row_why", none), "row_why", "row_why", defArgs srow_why, defBody srow_why, defScope srow_why, [], []⟩
abbrev sscanned_web : Stmt := top 20
def dscanned_web : He.DefD := ⟨("scanned_web", none), "scanned_web", "scanned_web", defArgs sscanned_web, defBody sscanned_web, defScope sscanned_web, [], []⟩
abbrev sjudged_web : Stmt := top 21
def djudged_web : He.DefD := ⟨("judged_web", none), "judged_web", "judged_web", defArgs sjudged_web, defBody sjudged_web, defScope sjudged_web, [], []⟩
abbrev sis_part : Stmt := top 22
def dis_part : He.DefD := ⟨("is_part", none), "is_part", "is_part", defArgs sis_part, defBody sis_part, defScope sis_part, [], []⟩
abbrev sweb_fault : Stmt := top 24
def dweb_fault : He.DefD := ⟨("web_fault", none), "web_fault", "web_fault", defArgs sweb_fault, defBody sweb_fault, defScope sweb_fault, [], []⟩
abbrev sis_web : Stmt := top 25
def dis_web : He.DefD := ⟨("is_web", none), "is_web", "is_web", defArgs sis_web, defBody sis_web, defScope sis_web, [], []⟩
abbrev sput_row : Stmt := top 26
def dput_row : He.DefD := ⟨("put_row", none), "put_row", "put_row", defArgs sput_row, defBody sput_row, defScope sput_row, [], []⟩
abbrev s_law_well : Stmt := top 28
def d_law_well : He.DefD := ⟨("_law_well", none), "_law_well", "_law_well", defArgs s_law_well, defBody s_law_well, defScope s_law_well, [], []⟩
abbrev s_law_draw : Stmt := top 29
def d_law_draw : He.DefD := ⟨("_law_draw", none), "_law_draw", "_law_draw", defArgs s_law_draw, defBody s_law_draw, defScope s_law_draw, [], []⟩
abbrev s_law_pick : Stmt := top 30
def d_law_pick : He.DefD := ⟨("_law_pick", none), "_law_pick", "_law_pick", defArgs s_law_pick, defBody s_law_pick, defScope s_law_pick, [], []⟩
abbrev s_law_mixed : Stmt := top 31
def d_law_mixed : He.DefD := ⟨("_law_mixed", none), "_law_mixed", "_law_mixed", defArgs s_law_mixed, defBody s_law_mixed, defScope s_law_mixed, [], []⟩
abbrev s_law_same : Stmt := top 32
def d_law_same : He.DefD := ⟨("_law_same", none), "_law_same", "_law_same", defArgs s_law_same, defBody s_law_same, defScope s_law_same, [], []⟩
abbrev s_law_loose : Stmt := top 33
def d_law_loose : He.DefD := ⟨("_law_loose", none), "_law_loose", "_law_loose", defArgs s_law_loose, defBody s_law_loose, defScope s_law_loose, [], []⟩
abbrev s_law_spoiled : Stmt := top 34
def d_law_spoiled : He.DefD := ⟨("_law_spoiled", none), "_law_spoiled", "_law_spoiled", defArgs s_law_spoiled, defBody s_law_spoiled, defScope s_law_spoiled, [], []⟩
abbrev s_law_g_is_int : Stmt := top 35
def d_law_g_is_int : He.DefD := ⟨("_law_g_is_int", none), "_law_g_is_int", "_law_g_is_int", defArgs s_law_g_is_int, defBody s_law_g_is_int, defScope s_law_g_is_int, [], []⟩
abbrev s_law_g_is_name : Stmt := top 36
def d_law_g_is_name : He.DefD := ⟨("_law_g_is_name", none), "_law_g_is_name", "_law_g_is_name", defArgs s_law_g_is_name, defBody s_law_g_is_name, defScope s_law_g_is_name, [], []⟩
abbrev s_law_g_form : Stmt := top 37
def d_law_g_form : He.DefD := ⟨("_law_g_form", none), "_law_g_form", "_law_g_form", defArgs s_law_g_form, defBody s_law_g_form, defScope s_law_g_form, [], []⟩
abbrev s_law_g_named : Stmt := top 38
def d_law_g_named : He.DefD := ⟨("_law_g_named", none), "_law_g_named", "_law_g_named", defArgs s_law_g_named, defBody s_law_g_named, defScope s_law_g_named, [], []⟩
abbrev s_law_g_why : Stmt := top 39
def d_law_g_why : He.DefD := ⟨("_law_g_why", none), "_law_g_why", "_law_g_why", defArgs s_law_g_why, defBody s_law_g_why, defScope s_law_g_why, [], []⟩
abbrev s_law_g_fault : Stmt := top 40
def d_law_g_fault : He.DefD := ⟨("_law_g_fault", none), "_law_g_fault", "_law_g_fault", defArgs s_law_g_fault, defBody s_law_g_fault, defScope s_law_g_fault, [], []⟩
abbrev s_law_g_parts : Stmt := top 41
def d_law_g_parts : He.DefD := ⟨("_law_g_parts", none), "_law_g_parts", "_law_g_parts", defArgs s_law_g_parts, defBody s_law_g_parts, defScope s_law_g_parts, [], []⟩
abbrev s_law_g_row : Stmt := top 42
def d_law_g_row : He.DefD := ⟨("_law_g_row", none), "_law_g_row", "_law_g_row", defArgs s_law_g_row, defBody s_law_g_row, defScope s_law_g_row, [], []⟩
abbrev s_law_g_drawn : Stmt := top 43
def d_law_g_drawn : He.DefD := ⟨("_law_g_drawn", none), "_law_g_drawn", "_law_g_drawn", defArgs s_law_g_drawn, defBody s_law_g_drawn, defScope s_law_g_drawn, [], []⟩
abbrev s_law_g_bent_row : Stmt := top 44
def d_law_g_bent_row : He.DefD := ⟨("_law_g_bent_row", none), "_law_g_bent_row", "_law_g_bent_row", defArgs s_law_g_bent_row, defBody s_law_g_bent_row, defScope s_law_g_bent_row, [], []⟩
abbrev s_law_g_bent : Stmt := top 45
def d_law_g_bent : He.DefD := ⟨("_law_g_bent", none), "_law_g_bent", "_law_g_bent", defArgs s_law_g_bent, defBody s_law_g_bent, defScope s_law_g_bent, [], []⟩
abbrev s_law_met : Stmt := top 46
def d_law_met : He.DefD := ⟨("_law_met", none), "_law_met", "_law_met", defArgs s_law_met, defBody s_law_met, defScope s_law_met, [], []⟩
abbrev s_law_judged_right : Stmt := top 47
def d_law_judged_right : He.DefD := ⟨("_law_judged_right", none), "_law_judged_right", "_law_judged_right", defArgs s_law_judged_right, defBody s_law_judged_right, defScope s_law_judged_right, [], []⟩
abbrev s_law_put_right : Stmt := top 48
def d_law_put_right : He.DefD := ⟨("_law_put_right", none), "_law_put_right", "_law_put_right", defArgs s_law_put_right, defBody s_law_put_right, defScope s_law_put_right, [], []⟩
abbrev slaw : Stmt := top 49
def dlaw : He.DefD := ⟨("law", none), "law", "law", defArgs slaw, defBody slaw, defScope slaw, [], []⟩
end K8

namespace K8
open PySem PySem.Spec PyProof.Rows L2 WR
/-- built-in names that the text leaves alone -/
structure Bt (mg : Str → Option Value) : Prop where
  isinstance : mg "isinstance" = none
  list : mg "list" = none
  tuple : mg "tuple" = none
  int : mg "int" = none
  bool : mg "bool" = none
  str : mg "str" = none
  dict : mg "dict" = none
  len : mg "len" = none
  all : mg "all" = none
  any : mg "any" = none
  range : mg "range" = none
  enumerate : mg "enumerate" = none
  zip : mg "zip" = none
  abs : mg "abs" = none
  sum : mg "sum" = none
  repr : mg "repr" = none
/-- the def's object -/
abbrev Fn (K : PySem.W.Frag) (mg : Str → Option Value) (d : He.DefD) : Prop := ∃ f fd, mg d.name = some (.ref f) ∧ FunD K d.name d.qual d.params d.body d.scope [] [] f fd
section
variable {P : Program} {w : World} {K : PySem.W.Frag} {mg : Str → Option Value} {base : Heap}
/-! ### is_list -/
theorem sc_is_list : FnScope ["thing"] ["thing"] (defScope sis_list) := ⟨rfl, rfl, rfl, by decide +kernel, rfl, by decide +kernel, by decide +kernel⟩
theorem ok_is_list (B : Bt mg) (F : Fn K mg dis_list) : Df P w K mg base CX0 1 "is_list" ["thing"] (spP 1 (fun _ => True) fun ds => .bool (isL (ds.headD .none))) := by
  obtain ⟨f, fd, hm, F⟩ := F
  refine ⟨f, fd, hm, F.kp, F.bindsN fun _ _ _ _ _ _ us hl => match us, hl with | [_], _ => rfl, ?_⟩
  refine F.ok sc_is_list (fun vs H Q E h => spP_len vs H Q E h) (fun cdv A outer s H vs Q E hr h => ?_)
  obtain ⟨v, d, rfl, rd, -, q⟩ := spP1 h
  refine ⟨_, PSs.nox (pss_one (ps_ret (pe_callB (call_isD2 kit_list kit_tuple isL_or) (by rfl) B.isinstance (by decide +kernel)
    (pa_cons (pv 0) (pa_cons (pe_tup (pa_cons (pe_ty "list" B.list (by decide +kernel)) (pa_cons (pe_ty "tuple" B.tuple (by decide +kernel)) pa_nil))) pa_nil))))), ?_⟩
  refine ⟨_, rfl, (by show 2 ≤ sizeLine; decide), fun t ht => ?_⟩
  refine ⟨v, t, d, rfl, upd_same, rd.sm (Sm.new ht), q _ _ (Sm.new ht) (.bl _)⟩
end
end K8

namespace K8
open PySem PySem.Spec PyProof.Rows L2 WR
/-! ### mirrors -/
def isNum : PyData → Bool
  | .int i => decide (0 ≤ i)
  | _ => false
def areNums (d : PyData) : Bool := isL d && (its d).all isNum
section
variable {P : Program} {w : World} {K : PySem.W.Frag} {mg : Str → Option Value} {base : Heap}
/-! ### is_number -/
theorem sc_is_number : FnScope ["thing"] ["thing"] (defScope sis_number) := ⟨rfl, rfl, rfl, by decide +kernel, rfl, by decide +kernel, by decide +kernel⟩
theorem ok_is_number (B : Bt mg) (F : Fn K mg dis_number) : Df P w K mg base CX0 1 "is_number" ["thing"] (spP 1 (fun _ => True) fun ds => .bool (isNum (ds.headD .none))) := by
  obtain ⟨f, fd, hm, F⟩ := F
  refine ⟨f, fd, hm, F.kp, F.bindsN fun _ _ _ _ _ _ us hl => match us, hl with | [_], _ => rfl, ?_⟩
  refine F.ok sc_is_number (fun vs H Q E h => spP_len vs H Q E h) (fun cdv A outer s H vs Q E hr h => ?_)
  obtain ⟨v, d, rfl, rd, -, q⟩ := spP1 h
  refine ⟨_, PSs.nox (pss_one (ps_ret (pe_and (pe_callB (call_isD kit_int) (by rfl) B.isinstance (by decide +kernel) (pa_cons (pv 0) (pa_cons (pe_ty "int" B.int (by decide +kernel)) pa_nil)))
    (pe_and (pe_not (pe_callB (call_isD kit_bool) (by rfl) B.isinstance (by decide +kernel) (pa_cons (pv 0) (pa_cons (pe_ty "bool" B.bool (by decide +kernel)) pa_nil))))
      (pe_one (pe_cmpR op_ge (pv 0) pe_int (nomark _))))))), ?_⟩
  refine ⟨_, rfl, v, d, rfl, rd, _, rfl, ?_⟩
  have fin : ∀ b, isNum d = b → Q (.bl b) H := fun b e => q _ _ Sm.rfl' (by rw [show isNum ([d].headD .none) = b from e]; exact .bl b)
  cases rd with
  | int i =>
    exact iteT ⟨_, rfl, _, _, rfl, .int i, _, rfl, _, rfl, iteT ⟨_, rfl, _, _, rfl, rfl, fin _ rfl⟩⟩
  | bl b => exact iteT ⟨_, rfl, _, _, rfl, .bl b, _, rfl, _, rfl, iteF (fin _ rfl)⟩
  | _ => exact iteF (fin _ rfl)
/-! ### are_numbers -/
theorem sc_are_numbers : FnScope ["thing", "one"] ["thing"] (defScope sare_numbers) := ⟨rfl, rfl, rfl, by decide +kernel, rfl, by decide +kernel, by decide +kernel⟩
theorem ok_are_numbers (B : Bt mg) (F : Fn K mg dare_numbers) (D1 : Df P w K mg base CX0 1 "is_list" ["thing"] (spP 1 (fun _ => True) fun ds => .bool (isL (ds.headD .none))))
    (D2 : Df P w K mg base CX0 1 "is_number" ["thing"] (spP 1 (fun _ => True) fun ds => .bool (isNum (ds.headD .none)))) :
    Df P w K mg base CX0 2 "are_numbers" ["thing"] (spP 1 (fun ds => wdA ds = true) fun ds => .bool (areNums (ds.headD .none))) := by
  obtain ⟨f, fd, hm, F⟩ := F
  refine ⟨f, fd, hm, F.kp, F.bindsN fun _ _ _ _ _ _ us hl => match us, hl with | [_], _ => rfl, ?_⟩
  refine F.ok sc_are_numbers (fun vs H Q E h => spP_len vs H Q E h) (fun cdv A outer s H vs Q E hr h => ?_)
  obtain ⟨v, d, rfl, rd, wdd, q⟩ := spP1 h
  refine ⟨_, PSs.nox (pss_one (ps_ret (pe_and (pe_df D1 hr pass0 (pa_cons (pv 0) pa_nil))
    (pe_one (pe_callB (cr_all rfl) (by rfl) B.all (by decide +kernel) (pa_cons (pe_lc (own := [("one", 1)]) (g := gName 1) (tt := tYes) rfl sc_are_numbers.nd (pi_seq (pv 0)) (blkOk_by (own := [("one", 1)]) (N := ["thing", "one"]) (sc := defScope sare_numbers) (by decide +kernel))
      (fun _ _ _ _ _ => pg_name (i := 1) sc_are_numbers.nd rfl (Or.inl rfl)) (fun _ _ _ _ _ => pts_nil) (fun _ _ _ _ _ => pe_df D2 (hr.mono (by decide)) pass0 (pa_cons (pv 1) pa_nil))) pa_nil)))))), ?_⟩
  refine ⟨_, rfl, spP1_of rd trivial fun u H1 s1 r1 => ?_⟩
  have e1 := r1.bl_inv
  subst e1
  refine ⟨_, rfl, ite2 (fun hL => ?_) (fun hL => ?_)⟩
  · have hL' : isL d = true := hL
    obtain ⟨a, xs, rfl, hq, rs⟩ := (rd.sm s1).seq hL'
    have ww := wd_its (d := d) (by simpa [wdA] using wdd) hL'
    refine ⟨_, rfl, a, xs, rfl, hq, fun J hJ D nD => ?_⟩
    refine lc_fz (fun d => .bool (isNum d)) (.seq hJ rs) nD ww.1 (fun _ => rfl) (fun _ _ => rfl) (fun x e H2 Q' he s2 rx q' => ?_) fun H2 ys s2 eD ry => ?_
    · exact ⟨_, rfl, spP1_of rx trivial q'⟩
    · have eb : (its d).map (fun d => PyData.bool (isNum d)) = ((its d).map isNum).map PyData.bool := by simp
      rw [eb] at ry
      have ey := ry.bls
      subst ey
      refine ⟨_, (its d).map isNum, rfl, SqL.of eD, q _ _ (s1.trans s2) ?_⟩
      have e : areNums ([d].headD .none) = (List.map isNum (its d)).all id := by
        simp [areNums, hL', List.all_map]
      rw [e]
      exact .bl _
  · have hL' : isL d = false := by
      cases z : isL d with
      | false => rfl
      | true => exact absurd z hL
    refine q _ _ s1 ?_
    rw [show areNums ([d].headD .none) = false by simp [areNums, hL']]
    exact .bl false
end
end K8

namespace K8
open PySem PySem.Spec PyProof.Rows L2 WR
/-! ### mirrors -/
def leS (x y : Str) : Bool := !decide (y.cps.toList < x.cps.toList)
def isLet (x : Str) : Bool := leS "a" x && leS x "z"
def isFig (x : Str) : Bool := leS "0" x && leS x "9"
def strOf : PyData → Str
  | .str x => x
  | _ => ""
def isPlace (t : PyData) (m : Int) : Bool := match t with
  | .int i => decide (0 ≤ i) && decide (i < m)
  | _ => false
def headS (x : Str) : Str := match x.cps.toList with
  | c :: _ => ⟨#[c]⟩
  | [] => ""
def begName (x : Str) : Bool := decide (x.length ≤ 8) && ((signsD x).all fun d => isLet (strOf d) || isFig (strOf d)) && (decide (x = "") || isLet (headS x))
def isName : PyData → Bool
  | .str x => !decide (x = "") && begName x
  | _ => false
def intOf : PyData → Int
  | .int i => i
  | _ => 0
section
variable {P : Program} {w : World} {K : PySem.W.Frag} {mg : Str → Option Value} {base : Heap}
/-! ### is_place -/
theorem sc_is_place : FnScope ["thing", "many"] ["thing", "many"] (defScope sis_place) := ⟨rfl, rfl, rfl, by decide +kernel, rfl, by decide +kernel, by decide +kernel⟩
theorem ok_is_place (F : Fn K mg dis_place) (D1 : Df P w K mg base CX0 1 "is_number" ["thing"] (spP 1 (fun _ => True) fun ds => .bool (isNum (ds.headD .none)))) :
    Df P w K mg base CX0 2 "is_place" ["thing", "many"] (spP 2 (fun ds => ∃ d m, ds = [d, .int m]) fun ds => .bool (isPlace (ds.headD .none) (intOf (ds.getD 1 .none)))) := by
  obtain ⟨f, fd, hm, F⟩ := F
  refine ⟨f, fd, hm, F.kp, F.bindsN fun _ _ _ _ _ _ us hl => match us, hl with | [_, _], _ => rfl, ?_⟩
  refine F.ok sc_is_place (fun vs H Q E h => spP_len vs H Q E h) (fun cdv A outer s H vs Q E hr h => ?_)
  obtain ⟨v, w', d, e, rfl, rd, re, ⟨_, m, z⟩, q⟩ := spP2 h
  cases z
  cases re.int_inv
  refine ⟨_, PSs.nox (pss_one (ps_ret (pe_and (pe_df D1 hr pass0 (pa_cons (pv 0) pa_nil)) (pe_one (pe_cmpR op_lt (pv 0) (pv 1) (nomark _)))))), ?_⟩
  refine ⟨_, rfl, spP1_of rd trivial fun u H1 s1 r1 => ?_⟩
  cases r1.bl_inv
  have fin : ∀ b, isPlace d m = b → Q (.bl b) H1 := fun b e => q _ _ s1 (by rw [show isPlace ([d, PyData.int m].headD .none) (intOf ([d, PyData.int m].getD 1 .none)) = b from e]; exact .bl b)
  refine ⟨_, rfl, ite2 (fun hL => ?_) (fun hL => fin _ ?_)⟩
  · cases rd with
    | int i =>
      have hi : decide (0 ≤ i) = true := hL
      refine ⟨_, rfl, _, rfl, _, _, rfl, rfl, fin _ ?_⟩
      show (decide (0 ≤ i) && decide (i < m)) = _
      rw [hi, Bool.true_and]
    | _ => cases hL
  · cases rd with
    | int i =>
      have hi : decide (0 ≤ i) = false := by
        cases z : decide (0 ≤ i) with
        | false => rfl
        | true => exact absurd z hL
      show (decide (0 ≤ i) && decide (i < m)) = _
      rw [hi]
      rfl
    | _ => rfl
/-! ### is_letter, is_figure -/
theorem sc_is_letter : FnScope ["sign"] ["sign"] (defScope sis_letter) := ⟨rfl, rfl, rfl, by decide +kernel, rfl, by decide +kernel, by decide +kernel⟩
theorem sc_is_figure : FnScope ["sign"] ["sign"] (defScope sis_figure) := ⟨rfl, rfl, rfl, by decide +kernel, rfl, by decide +kernel, by decide +kernel⟩
theorem ok_is_letter (F : Fn K mg dis_letter) : Df P w K mg base CX0 1 "is_letter" ["sign"] (spP 1 (fun ds => ∃ x, ds = [.str x]) fun ds => .bool (isLet (strOf (ds.headD .none)))) := by
  obtain ⟨f, fd, hm, F⟩ := F
  refine ⟨f, fd, hm, F.kp, F.bindsN fun _ _ _ _ _ _ us hl => match us, hl with | [_], _ => rfl, ?_⟩
  refine F.ok sc_is_letter (fun vs H Q E h => spP_len vs H Q E h) (fun cdv A outer s H vs Q E hr h => ?_)
  obtain ⟨v, d, rfl, rd, ⟨x, z⟩, q⟩ := spP1 h
  cases z
  cases rd.str_inv
  refine ⟨_, PSs.nox (pss_one (ps_ret (pe_chain op_le_str op_le_str pe_str (pv 0) pe_str))), ?_⟩
  have fin : ∀ b, isLet x = b → Q (.bl b) H := fun b e => q _ _ Sm.rfl' (by rw [show isLet (strOf ([PyData.str x].headD .none)) = b from e]; exact .bl b)
  refine ⟨_, rfl, _, _, rfl, rfl, _, rfl, ite2 (fun hL => ⟨_, _, rfl, rfl, fin _ ?_⟩) (fun hL => fin _ ?_)⟩
  · have : leS "a" x = true := hL
    show (leS "a" x && leS x "z") = _
    rw [this]
    rfl
  · have : leS "a" x = false := by
      cases z : leS "a" x with
      | false => rfl
      | true => exact absurd z hL
    show (leS "a" x && leS x "z") = _
    rw [this]
    rfl
theorem ok_is_figure (F : Fn K mg dis_figure) : Df P w K mg base CX0 1 "is_figure" ["sign"] (spP 1 (fun ds => ∃ x, ds = [.str x]) fun ds => .bool (isFig (strOf (ds.headD .none)))) := by
  obtain ⟨f, fd, hm, F⟩ := F
  refine ⟨f, fd, hm, F.kp, F.bindsN fun _ _ _ _ _ _ us hl => match us, hl with | [_], _ => rfl, ?_⟩
  refine F.ok sc_is_figure (fun vs H Q E h => spP_len vs H Q E h) (fun cdv A outer s H vs Q E hr h => ?_)
  obtain ⟨v, d, rfl, rd, ⟨x, z⟩, q⟩ := spP1 h
  cases z
  cases rd.str_inv
  refine ⟨_, PSs.nox (pss_one (ps_ret (pe_chain op_le_str op_le_str pe_str (pv 0) pe_str))), ?_⟩
  have fin : ∀ b, isFig x = b → Q (.bl b) H := fun b e => q _ _ Sm.rfl' (by rw [show isFig (strOf ([PyData.str x].headD .none)) = b from e]; exact .bl b)
  refine ⟨_, rfl, _, _, rfl, rfl, _, rfl, ite2 (fun hL => ⟨_, _, rfl, rfl, fin _ ?_⟩) (fun hL => fin _ ?_)⟩
  · have : leS "0" x = true := hL
    show (leS "0" x && leS x "9") = _
    rw [this]
    rfl
  · have : leS "0" x = false := by
      cases z : leS "0" x with
      | false => rfl
      | true => exact absurd z hL
    show (leS "0" x && leS x "9") = _
    rw [this]
    rfl
/-! ### begins_name -/
theorem sc_begins_name : FnScope ["text", "sign"] ["text"] (defScope sbegins_name) := ⟨rfl, rfl, rfl, by decide +kernel, rfl, by decide +kernel, by decide +kernel⟩
abbrev Mk8 (mg : Str → Option Value) : Prop := ∃ t, mg "LONGEST_NAME" = some (.int 8 t)
theorem headS_at {x : Str} (h : x ≠ "") : ∃ c, x.cps[0]? = some c ∧ headS x = ⟨#[c]⟩ ∧ 0 < x.length := by
  obtain ⟨⟨l⟩⟩ := x
  cases l with
  | nil => exact absurd rfl h
  | cons c r => exact ⟨c, rfl, rfl, by simp [Str.length]⟩
theorem ok_begins_name (B : Bt mg) (M : Mk8 mg) (F : Fn K mg dbegins_name) (D1 : Df P w K mg base CX0 1 "is_letter" ["sign"] (spP 1 (fun ds => ∃ x, ds = [.str x]) fun ds => .bool (isLet (strOf (ds.headD .none)))))
    (D2 : Df P w K mg base CX0 1 "is_figure" ["sign"] (spP 1 (fun ds => ∃ x, ds = [.str x]) fun ds => .bool (isFig (strOf (ds.headD .none))))) :
    Df P w K mg base CX0 2 "begins_name" ["text"] (spP 1 (fun ds => ∃ x : Str, ds = [.str x] ∧ x.length ≤ lim) fun ds => .bool (begName (strOf (ds.headD .none)))) := by
  obtain ⟨f, fd, hm, F⟩ := F
  obtain ⟨tk, M⟩ := M
  refine ⟨f, fd, hm, F.kp, F.bindsN fun _ _ _ _ _ _ us hl => match us, hl with | [_], _ => rfl, ?_⟩
  refine F.ok sc_begins_name (fun vs H Q E h => spP_len vs H Q E h) (fun cdv A outer s H vs Q E hr h => ?_)
  obtain ⟨v, d, rfl, rd, ⟨x, z, hz⟩, q⟩ := spP1 h
  cases z
  cases rd.str_inv
  have hl2 := lim_lt
  refine ⟨_, PSs.nox (pss_cons (ps_if (PW.pt (pw_or (pt_cmpR op_gt (pe_callB call_len_str (by rfl) B.len (by decide +kernel) (pa_cons (pv 0) pa_nil)) (pe_glob (v := .int 8) (by rfl) M ⟨_, rfl⟩) (nomark _))
      (pw_or1 (pt_not (pt_val (pe_callB (cr_all rfl) (by rfl) B.all (by decide +kernel) (pa_cons (pe_lc (own := [("sign", 1)]) (g := gName 1) (tt := tYes) rfl sc_begins_name.nd (pi_str (pv 0))
        (blkOk_by (own := [("sign", 1)]) (N := ["text", "sign"]) (sc := defScope sbegins_name) (by decide +kernel))
        (fun _ _ _ _ _ => pg_name (i := 1) sc_begins_name.nd rfl (Or.inl rfl)) (fun _ _ _ _ _ => pts_nil)
        (fun _ _ _ _ _ => pe_or (pe_df D1 (hr.mono (by decide)) pass0 (pa_cons (pv 1) pa_nil)) (pe_one (pe_df D2 (hr.mono (by decide)) pass0 (pa_cons (pv 1) pa_nil))))) pa_nil))))))) (pss_one (ps_ret pe_bl)) pss_nil)
    (pss_one (ps_ret (pe_or (pe_cmpR op_eq (pv 0) pe_str (nomark _)) (pe_one (pe_df D1 hr pass0 (pa_cons (pe_item_str (pv 0) pe_int (fun _ _ => rfl)) pa_nil))))))), ?_⟩
  refine ⟨_, rfl, _, rfl, by omega, _, _, rfl, rfl, _, rfl, ?_⟩
  have fin : ∀ b H1, Sm H H1 → begName x = b → Q (.bl b) H1 := fun b H1 s1 e => q _ _ s1 (by rw [show begName (strOf ([PyData.str x].headD .none)) = b from e]; exact .bl b)
  refine ite2 (fun hL => ?_) (fun hL => ?_)
  · have h8 : decide (x.length ≤ 8) = false := by
      have := of_decide_eq_true hL
      exact decide_eq_false (by omega)
    exact iteT (fin _ _ Sm.rfl' (by simp only [begName, h8, Bool.false_and]))
  · have h8 : decide (x.length ≤ 8) = true := by
      have : ¬ ((8 : Int) < x.length) := fun q => hL (decide_eq_true q)
      exact decide_eq_true (by omega)
    refine ⟨_, rfl, _, rfl, fun D nD => ?_⟩
    refine lc_fz (fun d => .bool (isLet (strOf d) || isFig (strOf d))) (.str (x := x)) nD (by rw [signsD_len]; exact hz) (fun _ => rfl) (fun _ _ => rfl) (fun y e H2 Q' he s2 ry q' => ?_) fun H2 ys s2 eD ry => ?_
    · obtain ⟨c, _, rfl⟩ := List.mem_map.mp he
      cases ry.str_inv
      refine ⟨_, rfl, spP1_of ry ⟨_, rfl⟩ fun u H3 s3 r3 => ?_⟩
      cases r3.bl_inv
      refine ⟨_, rfl, ite2 (fun hl => ?_) (fun hl => ?_)⟩
      · refine q' _ _ s3 ?_
        rw [show isLet (strOf (.str ⟨#[c]⟩)) = true from hl]
        exact .bl _
      · refine ⟨_, rfl, spP1_of (ry.sm s3) ⟨_, rfl⟩ fun u H4 s4 r4 => q' _ _ (s3.trans s4) ?_⟩
        have hl' : isLet (strOf (.str ⟨#[c]⟩)) = false := by
          cases z : isLet (strOf (.str ⟨#[c]⟩)) with
          | false => rfl
          | true => exact absurd z hl
        rw [hl', Bool.false_or]
        exact r4
    · have eb : (signsD x).map (fun d => PyData.bool (isLet (strOf d) || isFig (strOf d))) = ((signsD x).map fun d => isLet (strOf d) || isFig (strOf d)).map PyData.bool := by simp
      rw [eb] at ry
      have ey := ry.bls
      subst ey
      refine ⟨_, _, rfl, SqL.of eD, _, rfl, ?_⟩
      have ea : (((signsD x).map fun d => isLet (strOf d) || isFig (strOf d)).all id) = (signsD x).all fun d => isLet (strOf d) || isFig (strOf d) := by rw [List.all_map]; rfl
      rw [ea]
      cases hA : ((signsD x).all fun d => isLet (strOf d) || isFig (strOf d)) with
      | false => exact iteT (fin _ _ s2 (by simp only [begName, h8, hA, Bool.true_and, Bool.false_and]))
      | true =>
        refine iteF ⟨_, rfl, rfl, _, rfl, ite2 (fun he => ?_) (fun he => ?_)⟩
        · have ex : x = "" := by
            have := of_decide_eq_true he
            injection this
          exact fin _ _ s2 (by simp only [begName, h8, hA, decide_eq_true ex, Bool.true_and, Bool.true_or])
        · have ex : x ≠ "" := fun z => he (decide_eq_true (by rw [z]))
          obtain ⟨c, h1, h2, h3⟩ := headS_at ex
          refine ⟨_, rfl, _, _, _, rfl, rfl, by decide, by decide, by omega, h1, ?_⟩
          refine spP1_of (.str _) ⟨_, rfl⟩ fun u H4 s4 r4 => ?_
          cases r4.bl_inv
          refine fin _ _ (s2.trans s4) ?_
          simp only [begName, h8, hA, decide_eq_false ex, Bool.true_and, Bool.false_or, h2]
          rfl
/-! ### is_name -/
theorem sc_is_name : FnScope ["thing"] ["thing"] (defScope sis_name) := ⟨rfl, rfl, rfl, by decide +kernel, rfl, by decide +kernel, by decide +kernel⟩
theorem ok_is_name (B : Bt mg) (F : Fn K mg dis_name) (D1 : Df P w K mg base CX0 2 "begins_name" ["text"] (spP 1 (fun ds => ∃ x : Str, ds = [.str x] ∧ x.length ≤ lim) fun ds => .bool (begName (strOf (ds.headD .none))))) :
    Df P w K mg base CX0 3 "is_name" ["thing"] (spP 1 (fun ds => wdA ds = true) fun ds => .bool (isName (ds.headD .none))) := by
  obtain ⟨f, fd, hm, F⟩ := F
  refine ⟨f, fd, hm, F.kp, F.bindsN fun _ _ _ _ _ _ us hl => match us, hl with | [_], _ => rfl, ?_⟩
  refine F.ok sc_is_name (fun vs H Q E h => spP_len vs H Q E h) (fun cdv A outer s H vs Q E hr h => ?_)
  obtain ⟨v, d, rfl, rd, wdd, q⟩ := spP1 h
  refine ⟨_, PSs.nox (pss_one (ps_ret (pe_and (pe_callB (call_isD kit_str) (by rfl) B.isinstance (by decide +kernel) (pa_cons (pv 0) (pa_cons (pe_ty "str" B.str (by decide +kernel)) pa_nil)))
    (pe_and (pe_cmpR op_ne (pv 0) pe_str (nomark _)) (pe_one (pe_df D1 hr pass0 (pa_cons (pv 0) pa_nil))))))), ?_⟩
  refine ⟨_, rfl, v, d, rfl, rd, _, rfl, ?_⟩
  have fin : ∀ b H1, Sm H H1 → isName d = b → Q (.bl b) H1 := fun b H1 s1 e => q _ _ s1 (by rw [show isName ([d].headD .none) = b from e]; exact .bl b)
  cases rd with
  | str x =>
    refine iteT ⟨_, rfl, rfl, _, rfl, ?_⟩
    by_cases ex : x = ""
    · subst ex
      exact iteF (fin _ _ Sm.rfl' rfl)
    · have e1 : decide (V.str x = V.str "") = false := decide_eq_false fun z => ex (by injection z)
      rw [e1]
      refine iteT ⟨_, rfl, spP1_of (.str x) ⟨x, rfl, ?_⟩ fun u H3 s3 r3 => ?_⟩
      · simpa [wdA, wd] using wdd
      · cases r3.bl_inv
        refine fin _ _ s3 ?_
        simp only [isName, decide_eq_false ex, Bool.not_false, Bool.true_and]
        rfl
  | _ => exact iteF (fin _ _ Sm.rfl' rfl)
end
end K8

namespace K8
open PySem PySem.Spec PyProof.Rows L2 WR
/-! ### mirrors -/
def nth (d : PyData) (i : Nat) : PyData := (its d).getD i .none
def rowForm2 (d : PyData) : PyData :=
  if (strOf (nth d 0) = "made" ∨ strOf (nth d 0) = "asked") ∧ (its d).length = 3 then
    (if (isName (nth d 1) && areNums (nth d 2)) = true then .tuple [nth d 0, nth d 1, .tuple (its (nth d 2))] else .none)
  else if strOf (nth d 0) = "either" ∧ (its d).length = 4 ∧ ((its d).drop 1).all isNum = true then .tuple [nth d 0, nth d 1, nth d 2, nth d 3]
  else if strOf (nth d 0) = "given" ∧ (its d).length = 2 ∧ ((its d).drop 1).all isNum = true then .tuple [nth d 0, nth d 1]
  else .none
def rowForm (d : PyData) : PyData := if isL d = true ∧ (its d).length ≠ 0 ∧ isS (nth d 0) = true then rowForm2 d else .none
theorem nth_at {d : PyData} {i : Nat} (h : i < (its d).length) : (its d)[i]? = some (nth d i) := by
  unfold nth
  rw [List.getD_eq_getElem?_getD, List.getElem?_eq_getElem h]
  rfl
theorem nth_wd {d : PyData} {i : Nat} (w : wd d = true) (hL : isL d = true) (h : i < (its d).length) : wd (nth d i) = true :=
  wdA_mem (wd_its w hL).2 (List.mem_of_getElem? (nth_at h))
theorem str_of {d : PyData} (h : isS d = true) : d = .str (strOf d) := by
  cases d with
  | str x => rfl
  | _ => cases h
theorem wdA_drop : ∀ {ds : List PyData} (k : Nat), wdA ds = true → wdA (ds.drop k) = true := fun k w => wdA_of fun d hd => wdA_mem w (List.mem_of_mem_drop hd)
theorem wd_drop {d : PyData} (k : Nat) (w : wd d = true) (hL : isL d = true) : wd (likeD d ((its d).drop k)) = true := by
  obtain ⟨h1, h2⟩ := wd_its w hL
  have h3 := wdA_drop k h2
  have h4 : ((its d).drop k).length ≤ lim := by
    rw [List.length_drop]
    omega
  cases d with
  | list xs => simp only [likeD, wd, Bool.and_eq_true, decide_eq_true_eq]; exact ⟨h4, h3⟩
  | tuple xs => simp only [likeD, wd, Bool.and_eq_true, decide_eq_true_eq]; exact ⟨h4, h3⟩
  | _ => cases hL
abbrev spIsList : Sp := spP 1 (fun _ => True) fun ds => .bool (isL (ds.headD .none))
abbrev spIsName : Sp := spP 1 (fun ds => wdA ds = true) fun ds => .bool (isName (ds.headD .none))
abbrev spAreNums : Sp := spP 1 (fun ds => wdA ds = true) fun ds => .bool (areNums (ds.headD .none))
abbrev spRowForm : Sp := spP 1 (fun ds => wdA ds = true) fun ds => rowForm (ds.headD .none)
theorem inV2 (x a b : Str) : inV (.str x) [.str a, .str b] = decide (x = a ∨ x = b) := by
  simp only [inV, List.any_cons, List.any_nil, eqV, Bool.or_false]
  rw [Bool.eq_iff_iff]
  simp only [Bool.or_eq_true, beq_iff_eq, decide_eq_true_eq]
  exact ⟨fun h => h.elim (fun z => .inl z.symm) (fun z => .inr z.symm), fun h => h.elim (fun z => .inl z.symm) (fun z => .inr z.symm)⟩
section
variable {P : Program} {w : World} {K : PySem.W.Frag} {mg : Str → Option Value} {base : Heap}
theorem sc_row_form : FnScope ["thing", "word", "is_right"] ["thing"] (defScope srow_form) := ⟨rfl, rfl, rfl, by decide +kernel, rfl, by decide +kernel, by decide +kernel⟩
theorem ok_row_form (B : Bt mg) (F : Fn K mg drow_form) (D1 : Df P w K mg base CX0 1 "is_list" ["thing"] spIsList) (D2 : Df P w K mg base CX0 3 "is_name" ["thing"] spIsName) (D3 : Df P w K mg base CX0 2 "are_numbers" ["thing"] spAreNums) :
    Df P w K mg base CX0 4 "row_form" ["thing"] spRowForm := by
  obtain ⟨f, fd, hm, F⟩ := F
  refine ⟨f, fd, hm, F.kp, F.bindsN fun _ _ _ _ _ _ us hl => match us, hl with | [_], _ => rfl, ?_⟩
  refine F.ok sc_row_form (fun vs H Q E h => spP_len vs H Q E h) (fun cdv A outer s H vs Q E hr h => ?_)
  obtain ⟨v, d, rfl, rd, wdd, q⟩ := spP1 h
  have wd0 : wd d = true := by simpa [wdA] using wdd
  have hr1 := hr.mono (show 1 ≤ 3 by decide)
  have hr2 := hr.mono (show 2 ≤ 3 by decide)
  refine ⟨_, PSs.nox (pss_cons (ps_if (PW.pt (pw_or (pt_not (pt_val (pe_df D1 hr1 pass0 (pa_cons (pv 0) pa_nil)))) (pw_or (pt_cmpR op_eq (pe_callB call_lenS (by rfl) B.len (by decide +kernel) (pa_cons (pv 0) pa_nil)) pe_int (nomark _)) (pw_or1 (pt_not (pt_val (pe_callB (call_isD kit_str) (by rfl) B.isinstance (by decide +kernel) (pa_cons (pe_ix ix_D (pv 0) pe_int (fun _ _ => rfl)) (pa_cons (pe_ty "str" B.str (by decide +kernel)) pa_nil))))))))) (pss_one (ps_ret pe_non)) pss_nil)
      (pss_cons (ps_set (i := 1) sc_row_form.nd rfl (Or.inl rfl) (pe_ix ix_D (pv 0) pe_int (fun _ _ => rfl)))
      (C8.pss_cut (ps_if (PW.pt (pw_and (pt_cmpR op_in_seq (pv 1) (pe_tup (pa_cons pe_str (pa_cons pe_str pa_nil))) (by rfl)) (pw_and1 (pt_cmpR op_eq (pe_callB call_lenS (by rfl) B.len (by decide +kernel) (pa_cons (pv 0) pa_nil)) pe_int (nomark _))))) (pss_cons (ps_set (i := 2) sc_row_form.nd rfl (Or.inl rfl) (pe_and (pe_df D2 hr pass0 (pa_cons (pe_ix ix_D (pv 0) pe_int (fun _ _ => rfl)) pa_nil)) (pe_one (pe_df D3 hr2 pass0 (pa_cons (pe_ix ix_D (pv 0) pe_int (fun _ _ => rfl)) pa_nil)))))
      (pss_one (ps_ret (pe_ifExp (pt_val (pv 2)) (pe_tup (pa_cons (pv 1) (pa_cons (pe_ix ix_D (pv 0) pe_int (fun _ _ => rfl)) (pa_cons (pe_callTy call_tupD (by rfl) B.tuple (by decide +kernel) (pa_cons (pe_ix ix_D (pv 0) pe_int (fun _ _ => rfl)) pa_nil)) pa_nil)))) pe_non)))) pss_nil)
      (C8.pss_cut (ps_if (PW.pt (pw_and (pt_cmpR op_eq (pv 1) pe_str (nomark _)) (pw_and (pt_cmpR op_eq (pe_callB call_lenS (by rfl) B.len (by decide +kernel) (pa_cons (pv 0) pa_nil)) pe_int (nomark _)) (pw_and1 (pt_val (pe_df D3 hr2 pass0 (pa_cons (pe_slice sl_D (pv 0) (po_some pe_int) po_none) pa_nil))))))) (pss_one (ps_ret (pe_tup (pa_cons (pv 1) (pa_cons (pe_ix ix_D (pv 0) pe_int (fun _ _ => rfl)) (pa_cons (pe_ix ix_D (pv 0) pe_int (fun _ _ => rfl)) (pa_cons (pe_ix ix_D (pv 0) pe_int (fun _ _ => rfl)) pa_nil))))))) pss_nil)
      (pss_cons (ps_if (PW.pt (pw_and (pt_cmpR op_eq (pv 1) pe_str (nomark _)) (pw_and (pt_cmpR op_eq (pe_callB call_lenS (by rfl) B.len (by decide +kernel) (pa_cons (pv 0) pa_nil)) pe_int (nomark _)) (pw_and1 (pt_val (pe_df D3 hr2 pass0 (pa_cons (pe_slice sl_D (pv 0) (po_some pe_int) po_none) pa_nil))))))) (pss_one (ps_ret (pe_tup (pa_cons (pv 1) (pa_cons (pe_ix ix_D (pv 0) pe_int (fun _ _ => rfl)) pa_nil))))) pss_nil)
      (pss_one (ps_ret pe_non))))))), ?_⟩
  have fin : ∀ u H1, Sm H H1 → Dr All H1 u (rowForm d) → Q u H1 := fun u H1 s1 r => q _ _ s1 r
  have nope : ∀ H1, Sm H H1 → rowForm d = .none → Q .non H1 := fun H1 s1 e => fin _ _ s1 (by rw [e]; exact .non)
  -- not is_list(thing) or len(thing) == 0 or not isinstance(thing[0], str)
  refine ⟨_, rfl, spP1_of rd trivial fun u H1 s1 r1 => ?_⟩
  cases r1.bl_inv
  refine ⟨_, rfl, ite2 (fun hL => ?_) (fun hL => ?_)⟩
  · have hL' : isL d = false := by simpa using hL
    refine iteT (nope _ s1 ?_)
    unfold rowForm
    rw [if_neg (fun z => by rw [hL'] at z; cases z.1)]
  have hL' : isL d = true := by simpa using hL
  have rd1 := rd.sm s1
  refine ⟨_, rfl, v, d, rfl, rd1, hL', rfl, _, rfl, ite2 (fun h0 => ?_) (fun h0 => ?_)⟩
  · have e0 : (its d).length = 0 := by
      have := of_decide_eq_true h0
      injection this with this
      omega
    refine iteT (nope _ s1 ?_)
    unfold rowForm
    rw [if_neg (fun z => z.2.1 e0)]
  have l0 : (its d).length ≠ 0 := fun z => h0 (decide_eq_true (by rw [z]; rfl))
  have l0' : 0 < (its d).length := by omega
  refine ⟨_, rfl, d, 0, _, rd1, hL', rfl, nth_at l0', fun v0 r0 => ?_⟩
  refine ⟨v0, _, rfl, r0, _, rfl, ite2 (fun hS => ?_) (fun hS => ?_)⟩
  · have hS' : isS (nth d 0) = false := by simpa using hS
    refine nope _ s1 ?_
    unfold rowForm
    rw [if_neg (fun z => by rw [hS'] at z; cases z.2.2)]
  have hS' : isS (nth d 0) = true := by simpa using hS
  have es := str_of hS'
  have top : rowForm d = rowForm2 d := if_pos ⟨hL', l0, hS'⟩
  -- word = thing[0]
  refine ⟨_, rfl, d, 0, _, rd1, hL', rfl, nth_at l0', fun v1 r1 => ?_⟩
  obtain ⟨wd1, ew⟩ : ∃ y, nth d 0 = .str y := ⟨_, es⟩
  rw [ew] at r1
  cases r1.str_inv
  have eso : strOf (nth d 0) = wd1 := by rw [ew]; rfl
  have areD : areNums (likeD d ((its d).drop 1)) = ((its d).drop 1).all isNum := by
    unfold areNums
    rw [isL_like, its_like, Bool.true_and]
  have c1 : cutA (its d) (some 1) none = (its d).drop 1 := cutA_from (its d) 1
  have wdd1 : wdA [likeD d ((its d).drop 1)] = true := by simpa [wdA] using wd_drop 1 wd0 hL'
  -- word in ('made', 'asked') and len(thing) == 3
  by_cases hc : (wd1 = "made" ∨ wd1 = "asked") ∧ (its d).length = 3
  · refine ⟨fun _ _ => False, ⟨_, rfl, (by show 2 ≤ sizeLine; decide), fun t ht => ?_⟩, fun _ _ z => z.elim⟩
    have s2 : Sm H (upd H1 t (.tup [.str "made", .str "asked"])) := s1.trans (Sm.new ht)
    have rd2 := rd.sm s2
    refine ⟨t, _, rfl, .inr (SqT.of upd_same), rfl, rfl, _, rfl, ?_⟩
    rw [if_neg Bool.false_ne_true, inV2]
    have e3 := hc.2
    have n1 := nth_at (d := d) (i := 1) (by omega)
    have n2 := nth_at (d := d) (i := 2) (by omega)
    have t2 : rowForm d = if (isName (nth d 1) && areNums (nth d 2)) = true then .tuple [nth d 0, nth d 1, .tuple (its (nth d 2))] else .none := by
      rw [top]
      exact if_pos ⟨by rw [eso]; exact hc.1, e3⟩
    refine ite2 (fun hw => ?_) (fun hw => absurd (decide_eq_true hc.1) hw)
    refine ⟨_, rfl, v, d, rfl, rd2, hL', rfl, _, rfl, ite2 (fun h3 => ?_) (fun h3 => absurd (decide_eq_true (by rw [e3]; rfl)) h3)⟩
    -- is_right
    refine ⟨_, rfl, d, 1, _, rd2, hL', rfl, n1, fun v1 r1 => ?_⟩
    refine spP1_of r1 (by simpa [wdA] using nth_wd wd0 hL' (show 1 < (its d).length by omega)) fun u H3 s3 r3 => ?_
    cases r3.bl_inv
    refine ⟨_, rfl, ite2 (fun hn => ?_) (fun hn => ?_)⟩
    · have hn' : isName (nth d 1) = true := hn
      refine ⟨_, rfl, d, 2, _, rd2.sm s3, hL', rfl, n2, fun v2 r2 => ?_⟩
      refine spP1_of r2 (by simpa [wdA] using nth_wd wd0 hL' (show 2 < (its d).length by omega)) fun u H4 s4 r4 => ?_
      cases r4.bl_inv
      have s5 := s3.trans s4
      refine ⟨_, rfl, _, rfl, ite2 (fun ha => ?_) (fun ha => ?_)⟩
      · have ha' : areNums (nth d 2) = true := ha
        have hl2 : isL (nth d 2) = true := by
          unfold areNums at ha'
          exact (Bool.and_eq_true_iff.mp ha').1
        rw [hn', ha'] at t2
        refine ⟨_, rfl, _, rfl, d, 1, _, rd2.sm s5, hL', rfl, n1, fun v1' r1' => ?_⟩
        refine ⟨_, rfl, d, 2, _, rd2.sm s5, hL', rfl, n2, fun v2' r2' => ?_⟩
        refine ⟨_, _, rfl, r2', hl2, fun v3 H5 s6 r6 => ⟨(by show 3 ≤ sizeLine; decide), fun t3 ht3 => ?_⟩⟩
        refine fin _ _ ((s2.trans s5).trans (s6.trans (Sm.new ht3))) ?_
        rw [t2, ew]
        exact .tup upd_same (.cons (.str _) (.cons ((r1'.sm s6).sm (Sm.new ht3)) (.one (r6.sm (Sm.new ht3)))))
      · have ha' : areNums (nth d 2) = false := by simpa using ha
        refine nope _ (s2.trans s5) ?_
        rw [t2, ha', Bool.and_false]
        rfl
    · have hn' : isName (nth d 1) = false := by simpa using hn
      refine ⟨_, rfl, _, rfl, iteF (nope _ (s2.trans s3) ?_)⟩
      rw [t2, hn', Bool.false_and]
      rfl
  refine ⟨fun σ' H' => σ' = [some v, some (.str wd1), none] ∧ Sm H H', ⟨_, rfl, (by show 2 ≤ sizeLine; decide), fun t ht => ?_⟩, ?_⟩
  · have s2 : Sm H (upd H1 t (.tup [.str "made", .str "asked"])) := s1.trans (Sm.new ht)
    refine ⟨t, _, rfl, .inr (SqT.of upd_same), rfl, rfl, _, rfl, ?_⟩
    rw [if_neg Bool.false_ne_true, inV2]
    refine ite2 (fun hw => ?_) (fun hw => iteF ⟨rfl, s2⟩)
    refine ⟨_, rfl, v, d, rfl, rd.sm s2, hL', rfl, _, rfl, ite2 (fun h3 => absurd ⟨of_decide_eq_true hw, ?_⟩ hc) (fun h3 => ⟨rfl, s2⟩)⟩
    have := of_decide_eq_true h3
    injection this with this
    omega
  rintro σ' H2 ⟨rfl, s2⟩
  have rd2 := rd.sm s2
  have t3 : rowForm d = if strOf (nth d 0) = "either" ∧ (its d).length = 4 ∧ ((its d).drop 1).all isNum = true then .tuple [nth d 0, nth d 1, nth d 2, nth d 3]
      else if strOf (nth d 0) = "given" ∧ (its d).length = 2 ∧ ((its d).drop 1).all isNum = true then .tuple [nth d 0, nth d 1] else .none := by
    rw [top]
    exact if_neg (by rw [eso]; exact hc)
  by_cases hc2 : wd1 = "either" ∧ (its d).length = 4 ∧ ((its d).drop 1).all isNum = true
  · obtain ⟨e1, e4, ea⟩ := id hc2
    have t4 : rowForm d = .tuple [nth d 0, nth d 1, nth d 2, nth d 3] := by
      rw [t3]
      exact if_pos (by rw [eso]; exact hc2)
    refine ⟨fun _ _ => False, ⟨_, rfl, rfl, _, rfl, ite2 (fun _ => ?_) (fun z => absurd (decide_eq_true (by rw [e1])) z)⟩, fun _ _ z => z.elim⟩
    refine ⟨_, rfl, v, d, rfl, rd2, hL', rfl, _, rfl, ite2 (fun _ => ?_) (fun z => absurd (decide_eq_true (by rw [e4]; rfl)) z)⟩
    refine ⟨_, rfl, _, rfl, d, rd2, hL', fun v1 H3 s3 r3 => ?_⟩
    rw [c1] at r3
    refine spP1_of r3 wdd1 fun u H4 s4 r4 => ?_
    cases r4.bl_inv
    have s5 := s3.trans s4
    have rd5 := rd2.sm s5
    refine ⟨_, rfl, ite2 (fun _ => ?_) (fun z => absurd (show areNums (likeD d ((its d).drop 1)) = true by rw [areD]; exact ea) z)⟩
    refine ⟨_, rfl, _, rfl, d, 1, _, rd5, hL', rfl, nth_at (by omega), fun v1 r1 => ⟨_, rfl, d, 2, _, rd5, hL', rfl, nth_at (by omega), fun v2 r2 => ⟨_, rfl, d, 3, _, rd5, hL', rfl, nth_at (by omega), fun v3 r3 => ⟨(by show 4 ≤ sizeLine; decide), fun t4' ht4 => ?_⟩⟩⟩⟩
    refine fin _ _ ((s2.trans s5).trans (Sm.new ht4)) ?_
    rw [t4, ew]
    exact .tup upd_same (.cons (.str _) (.cons (r1.sm (Sm.new ht4)) (.cons (r2.sm (Sm.new ht4)) (.one (r3.sm (Sm.new ht4))))))
  have t5 : rowForm d = if strOf (nth d 0) = "given" ∧ (its d).length = 2 ∧ ((its d).drop 1).all isNum = true then .tuple [nth d 0, nth d 1] else .none := by
    rw [t3]
    exact if_neg (by rw [eso]; exact hc2)
  have lenEq : ∀ n : Nat, decide (V.int ((its d).length : Nat) = V.int (n : Int)) = true → (its d).length = n := fun n z => by
    have := of_decide_eq_true z
    injection this with this
    omega
  have strEq : ∀ y : Str, decide (V.str wd1 = V.str y) = true → wd1 = y := fun y z => by
    have := of_decide_eq_true z
    injection this
  refine ⟨fun σ' H' => σ' = [some v, some (.str wd1), none] ∧ Sm H H', ⟨_, rfl, rfl, _, rfl, ite2 (fun h1 => ?_) (fun _ => iteF ⟨rfl, s2⟩)⟩, ?_⟩
  · refine ⟨_, rfl, v, d, rfl, rd2, hL', rfl, _, rfl, ite2 (fun h4 => ?_) (fun _ => iteF ⟨rfl, s2⟩)⟩
    refine ⟨_, rfl, _, rfl, d, rd2, hL', fun v1 H3 s3 r3 => ?_⟩
    rw [c1] at r3
    refine spP1_of r3 wdd1 fun u H4 s4 r4 => ?_
    cases r4.bl_inv
    refine ⟨_, rfl, ite2 (fun z => absurd ⟨strEq _ h1, lenEq 4 h4, ?_⟩ hc2) (fun _ => ⟨rfl, s2.trans (s3.trans s4)⟩)⟩
    rw [← areD]
    exact z
  rintro σ' H3 ⟨rfl, s3⟩
  have rd3 := rd.sm s3
  refine ⟨_, rfl, rfl, _, rfl, ite2 (fun h1 => ?_) (fun h1 => iteF (nope _ s3 ?_))⟩
  · refine ⟨_, rfl, v, d, rfl, rd3, hL', rfl, _, rfl, ite2 (fun h2 => ?_) (fun h2 => iteF (nope _ s3 ?_))⟩
    · refine ⟨_, rfl, _, rfl, d, rd3, hL', fun v1 H4 s4 r4 => ?_⟩
      rw [c1] at r4
      refine spP1_of r4 wdd1 fun u H5 s5 r5 => ?_
      cases r5.bl_inv
      have s6 := s4.trans s5
      have l2 := lenEq 2 h2
      refine ⟨_, rfl, ite2 (fun ha => ?_) (fun ha => nope _ (s3.trans s6) ?_)⟩
      · have ha' : ((its d).drop 1).all isNum = true := by rw [← areD]; exact ha
        refine ⟨_, rfl, _, rfl, d, 1, _, rd3.sm s6, hL', rfl, nth_at (by omega), fun v1 r1 => ⟨(by show 2 ≤ sizeLine; decide), fun t4' ht4 => ?_⟩⟩
        refine fin _ _ ((s3.trans s6).trans (Sm.new ht4)) ?_
        rw [t5, if_pos ⟨by rw [eso]; exact strEq _ h1, l2, ha'⟩, ew]
        exact .tup upd_same (.cons (.str _) (.one (r1.sm (Sm.new ht4))))
      · rw [t5, if_neg (fun z => ha (by show areNums (likeD d ((its d).drop 1)) = true; rw [areD]; exact z.2.2))]
    · rw [t5, if_neg (fun z => h2 (decide_eq_true (by rw [z.2.1]; rfl)))]
  · rw [t5, if_neg (fun z => h1 (decide_eq_true (by rw [← eso, z.1])))]
end
end K8

namespace K8
open PySem PySem.Spec PyProof.Rows L2 WR
/-! ### rows -/
inductive Row where
  | made (n : Str) (ks : List Nat)
  | asked (n : Str) (ks : List Nat)
  | either (a i j : Nat)
  | given (k : Nat)
  deriving DecidableEq
def nums (ks : List Nat) : List PyData := ks.map fun (k : Nat) => PyData.int (k : Int)
def Row.d : Row → PyData
  | .made n ks => .tuple [.str "made", .str n, .tuple (nums ks)]
  | .asked n ks => .tuple [.str "asked", .str n, .tuple (nums ks)]
  | .either a i j => .tuple [.str "either", .int (a : Nat), .int (i : Nat), .int (j : Nat)]
  | .given k => .tuple [.str "given", .int (k : Nat)]
def Row.ok : Row → Prop
  | .made n ks => isName (.str n) = true ∧ ks.length ≤ lim
  | .asked n ks => isName (.str n) = true ∧ ks.length ≤ lim
  | _ => True
def Row.named : Row → List Nat
  | .made _ ks => ks
  | .asked _ ks => ks
  | .either a i j => [a, i, j]
  | .given _ => []
def Row.isAsked : Row → Bool
  | .asked _ _ => true
  | _ => false
theorem nums_of : ∀ {ds : List PyData}, ds.all isNum = true → ∃ ks, ds = nums ks
  | [], _ => ⟨[], rfl⟩
  | d :: ds, h => by
    simp only [List.all_cons, Bool.and_eq_true] at h
    obtain ⟨ks, e⟩ := nums_of h.2
    cases d with
    | int i =>
      have hi : 0 ≤ i := of_decide_eq_true h.1
      refine ⟨i.toNat :: ks, ?_⟩
      show _ = PyData.int (i.toNat : Int) :: nums ks
      rw [Int.toNat_of_nonneg hi, ← e]
    | _ => cases h.1
theorem fz_nums (ks : List Nat) : fzA (nums ks) = true := by
  induction ks with
  | nil => simp [nums, fzA]
  | cons k ks ih => simp only [nums, List.map_cons, fzA, fz, Bool.true_and]; exact ih
theorem Row.fz (r : Row) : WR.fz r.d = true := by
  cases r with
  | made n ks => simp [Row.d, WR.fz, fzA, fz_nums]
  | asked n ks => simp [Row.d, WR.fz, fzA, fz_nums]
  | either a i j => simp [Row.d, WR.fz, fzA]
  | given k => simp [Row.d, WR.fz, fzA]
theorem its_len_of {d : PyData} {n : Nat} (h : (its d).length = n) : ∀ i, i < n → ∃ e, (its d)[i]? = some e := fun i hi => ⟨_, List.getElem?_eq_getElem (by omega)⟩
theorem nth_cons (d : PyData) (x : PyData) (xs : List PyData) (h : its d = x :: xs) (i : Nat) : nth d (i + 1) = xs.getD i .none := by
  unfold nth
  rw [h]
  rfl
/-- what a row's form comes to -/
theorem rowForm_row {d : PyData} (w : wd d = true) : rowForm d = .none ∨ ∃ r : Row, rowForm d = r.d ∧ r.ok := by
  unfold rowForm
  by_cases h0 : isL d = true ∧ (its d).length ≠ 0 ∧ isS (nth d 0) = true
  · rw [if_pos h0]
    obtain ⟨hL, hl, hS⟩ := h0
    have es := str_of hS
    unfold rowForm2
    by_cases h1 : (strOf (nth d 0) = "made" ∨ strOf (nth d 0) = "asked") ∧ (its d).length = 3
    · rw [if_pos h1]
      by_cases h2 : (isName (nth d 1) && areNums (nth d 2)) = true
      · rw [if_pos h2]
        simp only [Bool.and_eq_true] at h2
        obtain ⟨hn, ha⟩ := h2
        unfold areNums at ha
        simp only [Bool.and_eq_true] at ha
        obtain ⟨ks, ek⟩ := nums_of ha.2
        have w2 := nth_wd w hL (show 2 < (its d).length by omega)
        have lk : ks.length ≤ lim := by
          have := (wd_its w2 ha.1).1
          rw [ek] at this
          simpa [nums] using this
        obtain ⟨n, en⟩ : ∃ n, nth d 1 = .str n := by
          cases z : nth d 1 with
          | str n => exact ⟨n, rfl⟩
          | _ => rw [z] at hn; cases hn
        rw [ek, es, en]
        rw [en] at hn
        rcases h1.1 with h | h
        · exact .inr ⟨.made n ks, by rw [h]; rfl, hn, lk⟩
        · exact .inr ⟨.asked n ks, by rw [h]; rfl, hn, lk⟩
      · rw [if_neg h2]
        exact .inl rfl
    · rw [if_neg h1]
      by_cases h2 : strOf (nth d 0) = "either" ∧ (its d).length = 4 ∧ ((its d).drop 1).all isNum = true
      · rw [if_pos h2]
        obtain ⟨ks, ek⟩ := nums_of h2.2.2
        have lk : ks.length = 3 := by
          have e := congrArg List.length ek
          rw [List.length_drop] at e
          simp only [nums, List.length_map] at e
          omega
        match ks, lk with
        | [a, i, j], _ =>
          have g : ∀ m, nth d (m + 1) = (nums [a, i, j]).getD m .none := fun m => by
            unfold nth
            rw [← ek, List.getD_eq_getElem?_getD, List.getD_eq_getElem?_getD, List.getElem?_drop, Nat.add_comm]
          rw [es, h2.1, g 0, g 1, g 2]
          exact .inr ⟨.either a i j, rfl, trivial⟩
      · rw [if_neg h2]
        by_cases h3 : strOf (nth d 0) = "given" ∧ (its d).length = 2 ∧ ((its d).drop 1).all isNum = true
        · rw [if_pos h3]
          obtain ⟨ks, ek⟩ := nums_of h3.2.2
          have lk : ks.length = 1 := by
            have e := congrArg List.length ek
            rw [List.length_drop] at e
            simp only [nums, List.length_map] at e
            omega
          match ks, lk with
          | [k], _ =>
            have g : ∀ m, nth d (m + 1) = (nums [k]).getD m .none := fun m => by
              unfold nth
              rw [← ek, List.getD_eq_getElem?_getD, List.getD_eq_getElem?_getD, List.getElem?_drop, Nat.add_comm]
            rw [es, h3.1, g 0]
            exact .inr ⟨.given k, rfl, trivial⟩
        · rw [if_neg h3]
          exact .inl rfl
  · rw [if_neg h0]
    exact .inl rfl
/-! ### named_rows -/
abbrev spNamed : Sp := fun vs H Q _ => ∃ (v : V) (r : Row), vs = [v] ∧ Dr All H v r.d ∧ ∀ u H', Sm H H' → Dr All H' u (.tuple (nums r.named)) → Q u H'
section
variable {P : Program} {w : World} {K : PySem.W.Frag} {mg : Str → Option Value} {base : Heap}
theorem sc_named_rows : FnScope ["row"] ["row"] (defScope snamed_rows) := ⟨rfl, rfl, rfl, by decide +kernel, rfl, by decide +kernel, by decide +kernel⟩
theorem ok_named_rows (F : Fn K mg dnamed_rows) : Df P w K mg base CX0 1 "named_rows" ["row"] spNamed := by
  obtain ⟨f, fd, hm, F⟩ := F
  refine ⟨f, fd, hm, F.kp, F.bindsN fun _ _ _ _ _ _ us hl => match us, hl with | [_], _ => rfl, ?_⟩
  refine F.ok sc_named_rows (fun vs H Q E h => by obtain ⟨v, r, rfl, _⟩ := h; rfl) (fun cdv A outer s H vs Q E hr h => ?_)
  obtain ⟨v, r, rfl, rd, q⟩ := h
  refine ⟨_, PSs.nox (pss_cons (ps_if (pt_cmpR op_eq (pe_ix ix_D (pv 0) pe_int (fun _ _ => rfl)) pe_str (nomark _)) (pss_one (ps_ret (pe_tup pa_nil))) pss_nil)
      (pss_one (ps_ret (pe_ifExp (pt_cmpR op_eq (pe_ix ix_D (pv 0) pe_int (fun _ _ => rfl)) pe_str (nomark _)) (pe_slice sl_D (pv 0) (po_some pe_int) po_none) (pe_ix ix_D (pv 0) pe_int (fun _ _ => rfl)))))), ?_⟩
  cases r with
  | given k =>
    refine ⟨_, rfl, _, 0, _, rd, rfl, rfl, rfl, fun x0 r0 => ?_⟩
    cases r0.str_inv
    refine ⟨rfl, _, rfl, ite2 (fun _ => ?_) (fun z => absurd (decide_eq_true rfl) z)⟩
    refine ⟨(by show 0 ≤ sizeLine; decide), fun t ht => q _ _ (Sm.new ht) (.tup upd_same .nil)⟩
  | either a i j =>
    refine ⟨_, rfl, _, 0, _, rd, rfl, rfl, rfl, fun x0 r0 => ?_⟩
    cases r0.str_inv
    refine ⟨rfl, _, rfl, ite2 (fun z => absurd z (by decide +kernel)) (fun _ => ?_)⟩
    refine ⟨_, rfl, _, 0, _, rd, rfl, rfl, rfl, fun x0 r0 => ?_⟩
    cases r0.str_inv
    refine ⟨rfl, _, rfl, ite2 (fun _ => ?_) (fun z => absurd (decide_eq_true rfl) z)⟩
    refine ⟨_, rfl, _, rfl, _, rd, rfl, fun v1 H3 s3 r3 => q _ _ s3 ?_⟩
    exact r3
  | made n ks =>
    refine ⟨_, rfl, _, 0, _, rd, rfl, rfl, rfl, fun x0 r0 => ?_⟩
    cases r0.str_inv
    refine ⟨rfl, _, rfl, ite2 (fun z => absurd z (by decide +kernel)) (fun _ => ?_)⟩
    refine ⟨_, rfl, _, 0, _, rd, rfl, rfl, rfl, fun x0 r0 => ?_⟩
    cases r0.str_inv
    refine ⟨rfl, _, rfl, ite2 (fun z => absurd z (by decide +kernel)) (fun _ => ?_)⟩
    exact ⟨_, rfl, _, 2, _, rd, rfl, rfl, rfl, fun x0 r0 => q _ _ Sm.rfl' r0⟩
  | asked n ks =>
    refine ⟨_, rfl, _, 0, _, rd, rfl, rfl, rfl, fun x0 r0 => ?_⟩
    cases r0.str_inv
    refine ⟨rfl, _, rfl, ite2 (fun z => absurd z (by decide +kernel)) (fun _ => ?_)⟩
    refine ⟨_, rfl, _, 0, _, rd, rfl, rfl, rfl, fun x0 r0 => ?_⟩
    cases r0.str_inv
    refine ⟨rfl, _, rfl, ite2 (fun z => absurd z (by decide +kernel)) (fun _ => ?_)⟩
    exact ⟨_, rfl, _, 2, _, rd, rfl, rfl, rfl, fun x0 r0 => q _ _ Sm.rfl' r0⟩
end
end K8

namespace K8
open PySem PySem.Spec PyProof.Rows L2 WR
def rowsD (R : List Row) : PyData := .list (R.map Row.d)
def rowAt (R : List Row) (k : Nat) : Row := R.getD k (.given 0)
def isPart (R : List Row) (k : Nat) : Bool := decide (k < R.length) && !(rowAt R k).isAsked
def Row.parts : Row → List Nat
  | .either _ i j => [i, j]
  | r => r.named
def Row.badTest (R : List Row) : Row → Bool
  | .either a _ _ => !(rowAt R a).isAsked
  | _ => false
def Row.like : Row → Bool
  | .either _ i j => decide (i = j)
  | _ => false
def why4 (r : Row) : Option Str := if r.like = true then some "alike" else none
def why3 (R : List Row) (r : Row) : Option Str := if (r.parts.all (isPart R)) = false then some "kind" else why4 r
def why2 (R : List Row) (r : Row) : Option Str := if r.badTest R = true then some "kind" else why3 R r
def why (R : List Row) (r : Row) : Option Str := if (r.named.all fun k => decide (k < R.length)) = false then some "ahead" else why2 R r
def whyD : Option Str → PyData
  | none => .none
  | some x => .str x
theorem rowAt_at {R : List Row} {k : Nat} (h : k < R.length) : (R.map Row.d)[k]? = some (rowAt R k).d := by
  unfold rowAt
  rw [List.getElem?_map, List.getElem?_eq_getElem h, List.getD_eq_getElem?_getD, List.getElem?_eq_getElem h]
  rfl
/-- the row's word -/
def Row.word : Row → Str
  | .made _ _ => "made"
  | .asked _ _ => "asked"
  | .either _ _ _ => "either"
  | .given _ => "given"
theorem Row.word_at (r : Row) : (its r.d)[0]? = some (.str r.word) := by cases r <;> rfl
theorem Row.seqD (r : Row) : isL r.d = true := by cases r <;> rfl
theorem neS {x y : Str} (h : ¬ x = y) : decide (V.str x = V.str y) = false := decide_eq_false fun z => h (by injection z)
theorem Row.askedW : ∀ r : Row, (!decide (V.str r.word = V.str "asked")) = !r.isAsked
  | .made _ _ => congrArg (fun b => !b) (neS (show ¬ ("made" : Str) = "asked" by decide +kernel))
  | .asked _ _ => by rw [decide_eq_true (show V.str (Row.asked _ _).word = V.str "asked" from rfl)]; rfl
  | .either _ _ _ => congrArg (fun b => !b) (neS (show ¬ ("either" : Str) = "asked" by decide +kernel))
  | .given _ => congrArg (fun b => !b) (neS (show ¬ ("given" : Str) = "asked" by decide +kernel))
def Row.isEither : Row → Bool
  | .either _ _ _ => true
  | _ => false
theorem Row.eitherW : ∀ r : Row, decide (V.str r.word = V.str "either") = r.isEither
  | .made _ _ => neS (show ¬ ("made" : Str) = "either" by decide +kernel)
  | .asked _ _ => neS (show ¬ ("asked" : Str) = "either" by decide +kernel)
  | .either _ _ _ => decide_eq_true rfl
  | .given _ => neS (show ¬ ("given" : Str) = "either" by decide +kernel)
abbrev spIsPart : Sp := fun vs H Q _ => ∃ (v : V) (R : List Row) (k : Nat), vs = [v, .int (k : Int)] ∧ Dr All H v (rowsD R) ∧ ∀ H', Sm H H' → Q (.bl (isPart R k)) H'
abbrev spIsPlace : Sp := spP 2 (fun ds => ∃ d m, ds = [d, .int m]) fun ds => .bool (isPlace (ds.headD .none) (intOf (ds.getD 1 .none)))
abbrev spRowWhy : Sp := fun vs H Q _ => ∃ (v u : V) (R : List Row) (r : Row), vs = [v, u] ∧ Dr All H v (rowsD R) ∧ Dr All H u r.d ∧ r.ok ∧ ∀ x H', Sm H H' → Dr All H' x (whyD (why R r)) → Q x H'
section
variable {P : Program} {w : World} {K : PySem.W.Frag} {mg : Str → Option Value} {base : Heap}
/-! ### is_part -/
theorem sc_is_part : FnScope ["rows", "thing"] ["rows", "thing"] (defScope sis_part) := ⟨rfl, rfl, rfl, by decide +kernel, rfl, by decide +kernel, by decide +kernel⟩
theorem ok_is_part (B : Bt mg) (F : Fn K mg dis_part) (D1 : Df P w K mg base CX0 2 "is_place" ["thing", "many"] spIsPlace) : Df P w K mg base CX0 3 "is_part" ["rows", "thing"] spIsPart := by
  obtain ⟨f, fd, hm, F⟩ := F
  refine ⟨f, fd, hm, F.kp, F.bindsN fun _ _ _ _ _ _ us hl => match us, hl with | [_, _], _ => rfl, ?_⟩
  refine F.ok sc_is_part (fun vs H Q E h => by obtain ⟨v, R, k, rfl, _⟩ := h; rfl) (fun cdv A outer s H vs Q E hr h => ?_)
  obtain ⟨v, R, k, rfl, rd, q⟩ := h
  refine ⟨_, PSs.nox (pss_one (ps_ret (pe_and (pe_df D1 hr pass0 (pa_cons (pv 1) (pa_cons (pe_callB call_lenS (by rfl) B.len (by decide +kernel) (pa_cons (pv 0) pa_nil)) pa_nil))) (pe_one (pe_cmpR op_ne (pe_ix ix_D (pe_ix ix_D (pv 0) (pv 1) (fun _ _ => rfl)) pe_int (fun _ _ => rfl)) pe_str (nomark _)))))), ?_⟩
  refine ⟨_, rfl, _, rfl, v, _, rfl, rd, rfl, ?_⟩
  refine spP2_of (.int _) (.int _) ⟨_, _, rfl⟩ fun u H1 s1 r1 => ?_
  cases r1.bl_inv
  have e0 : isPlace (.int (k : Int)) ((its (rowsD R)).length : Nat) = decide (k < R.length) := by
    have el : (its (rowsD R)).length = R.length := by simp [rowsD, its]
    show (decide ((0 : Int) ≤ k) && decide ((k : Int) < ((its (rowsD R)).length : Nat))) = _
    rw [el, decide_eq_true (Int.natCast_nonneg k), Bool.true_and]
    exact decide_eq_decide.mpr (by omega)
  refine ⟨_, rfl, ite2 (fun hp => ?_) (fun hp => ?_)⟩
  · have hk : k < R.length := of_decide_eq_true (by rw [← e0]; exact hp)
    refine ⟨_, rfl, _, rfl, _, k, _, rd.sm s1, rfl, rfl, rowAt_at hk, fun x0 r0 => ?_⟩
    refine ⟨_, 0, _, r0, Row.seqD _, rfl, Row.word_at _, fun x1 r1 => ?_⟩
    cases r1.str_inv
    refine ⟨rfl, ?_⟩
    rw [Row.askedW]
    have := q H1 s1
    unfold isPart at this
    rw [decide_eq_true hk, Bool.true_and] at this
    exact this
  · have hk : decide (k < R.length) = false := by
      rw [← e0]
      exact eq_false_of_ne_true hp
    have := q H1 s1
    unfold isPart at this
    rw [hk, Bool.false_and] at this
    exact this
/-! ### row_why -/
theorem sc_row_why : FnScope ["rows", "row", "parts", "at"] ["rows", "row"] (defScope srow_why) := ⟨rfl, rfl, rfl, by decide +kernel, rfl, by decide +kernel, by decide +kernel⟩
theorem ok_row_why (B : Bt mg) (F : Fn K mg drow_why) (D1 : Df P w K mg base CX0 1 "named_rows" ["row"] spNamed) (D2 : Df P w K mg base CX0 3 "is_part" ["rows", "thing"] spIsPart) :
    Df P w K mg base CX0 4 "row_why" ["rows", "row"] spRowWhy := by
  obtain ⟨f, fd, hm, F⟩ := F
  refine ⟨f, fd, hm, F.kp, F.bindsN fun _ _ _ _ _ _ us hl => match us, hl with | [_, _], _ => rfl, ?_⟩
  refine F.ok sc_row_why (fun vs H Q E h => by obtain ⟨v, u, R, r, rfl, _⟩ := h; rfl) (fun cdv A outer s H vs Q E hr h => ?_)
  obtain ⟨v, u, R, r, rfl, rd, rr, hok, q⟩ := h
  have hr1 := hr.mono (show 1 ≤ 3 by decide)
  refine ⟨_, PSs.nox (pss_cons (ps_if (pt_not (pt_val (pe_callB (cr_all rfl) (by rfl) B.all (by decide +kernel) (pa_cons (pe_lc (own := [("at", 3)]) (g := gName 3) (tt := tYes) rfl sc_row_why.nd (pi_seq (pe_df D1 hr1 pass0 (pa_cons (pv 1) pa_nil))) (blkOk_by (own := [("at", 3)]) (N := ["rows", "row", "parts", "at"]) (sc := defScope srow_why) (by decide +kernel)) (fun _ _ _ _ _ => pg_name (i := 3) sc_row_why.nd rfl (Or.inl rfl)) (fun _ _ _ _ _ => pts_nil) (fun _ _ _ _ _ => (pe_cmpR op_lt (pv 3) (pe_callB call_lenS (by rfl) B.len (by decide +kernel) (pa_cons (pv 0) pa_nil)) (nomark _)))) pa_nil)))) (pss_one (ps_ret pe_str)) pss_nil)
      (pss_cons (ps_set (i := 2) sc_row_why.nd rfl (Or.inl rfl) (pe_df D1 hr1 pass0 (pa_cons (pv 1) pa_nil)))
      (C8.pss_cut (ps_if (pt_cmpR op_eq (pe_ix ix_D (pv 1) pe_int (fun _ _ => rfl)) pe_str (nomark _)) (pss_cons (ps_if (pt_cmpR op_ne (pe_ix ix_D (pe_ix ix_D (pv 0) (pe_ix ix_D (pv 1) pe_int (fun _ _ => rfl)) (fun _ _ => rfl)) pe_int (fun _ _ => rfl)) pe_str (nomark _)) (pss_one (ps_ret pe_str)) pss_nil)
      (pss_one (ps_set (i := 2) sc_row_why.nd rfl (Or.inl rfl) (pe_slice sl_D (pv 1) (po_some pe_int) po_none)))) pss_nil)
      (pss_cons (ps_if (pt_not (pt_val (pe_callB (cr_all rfl) (by rfl) B.all (by decide +kernel) (pa_cons (pe_lc (own := [("at", 3)]) (g := gName 3) (tt := tYes) rfl sc_row_why.nd (pi_seq (pv 2)) (blkOk_by (own := [("at", 3)]) (N := ["rows", "row", "parts", "at"]) (sc := defScope srow_why) (by decide +kernel)) (fun _ _ _ _ _ => pg_name (i := 3) sc_row_why.nd rfl (Or.inl rfl)) (fun _ _ _ _ _ => pts_nil) (fun _ _ _ _ _ => (pe_df D2 hr pass0 (pa_cons (pv 0) (pa_cons (pv 3) pa_nil))))) pa_nil)))) (pss_one (ps_ret pe_str)) pss_nil)
      (pss_cons (ps_if (PW.pt (pw_and (pt_cmpR op_eq (pe_ix ix_D (pv 1) pe_int (fun _ _ => rfl)) pe_str (nomark _)) (pw_and1 (pt_cmpR op_eq (pe_ix ix_D (pv 1) pe_int (fun _ _ => rfl)) (pe_ix ix_D (pv 1) pe_int (fun _ _ => rfl)) (nomark _))))) (pss_one (ps_ret pe_str)) pss_nil)
      (pss_one (ps_ret pe_non))))))), ?_⟩
  have lenR : (its (rowsD R)).length = R.length := by simp [rowsD, its]
  have hnl : r.named.length ≤ lim := by
    cases r with
    | made n ks => exact hok.2
    | asked n ks => exact hok.2
    | either a i j => show 3 ≤ lim; decide
    | given k => show 0 ≤ lim; decide
  have fin : ∀ x H1, Sm H H1 → Dr All H1 x (whyD (why R r)) → Q x H1 := fun x H1 s1 z => q _ _ s1 z
  -- not all([at < len(rows) for at in named_rows(row)])
  refine ⟨_, rfl, u, r, rfl, rr, fun y H1 s1 r1 => ?_⟩
  obtain ⟨a, xs, rfl, hq, rs⟩ := r1.seq rfl
  refine ⟨a, xs, rfl, hq, fun J hJ D nD => ?_⟩
  refine lc_fz (fun d => .bool (decide (intOf d < R.length))) (.seq hJ rs) nD (by simpa [its, nums] using hnl) (fun _ => rfl) (fun _ _ => rfl) (fun x e H2 Q' he s2 rx q' => ?_) fun H2 ys s2 eD ry => ?_
  · obtain ⟨k, _, rfl⟩ := List.mem_map.mp he
    cases rx.int_inv
    refine ⟨_, rfl, _, rfl, v, _, rfl, rd.sm (s1.trans s2), rfl, _, _, rfl, rfl, q' _ _ Sm.rfl' ?_⟩
    rw [lenR]
    exact .bl _
  have eb : (its (.tuple (nums r.named))).map (fun d => PyData.bool (decide (intOf d < R.length))) = (r.named.map fun k => decide (k < R.length)).map PyData.bool := by
    simp only [its, nums, List.map_map]
    refine List.map_congr_left fun k _ => ?_
    show PyData.bool (decide ((k : Int) < (R.length : Int))) = PyData.bool (decide (k < R.length))
    rw [decide_eq_decide.mpr (show (k : Int) < (R.length : Int) ↔ k < R.length by omega)]
  rw [eb] at ry
  have ey := ry.bls
  subst ey
  refine ⟨_, _, rfl, SqL.of eD, _, rfl, ?_⟩
  have ea : ((r.named.map fun k => decide (k < R.length)).all id) = r.named.all fun k => decide (k < R.length) := by rw [List.all_map]; rfl
  rw [ea]
  have s2' := s1.trans s2
  refine ite2 (fun hA => ?_) (fun hA => ?_)
  · have hA' : (r.named.all fun k => decide (k < R.length)) = false := by simpa using hA
    refine fin _ _ s2' ?_
    rw [show why R r = some "ahead" from if_pos hA']
    exact .str _
  have hA' : (r.named.all fun k => decide (k < R.length)) = true := by simpa using hA
  have w1 : why R r = why2 R r := if_neg (by rw [hA']; exact Bool.noConfusion)
  -- parts = named_rows(row)
  refine ⟨_, rfl, u, r, rfl, rr.sm s2', fun y3 H3 s3 r3 => ?_⟩
  have s3' := s2'.trans s3
  obtain ⟨a3, xs3, rfl, hq3, rs3⟩ := r3.seq rfl
  have rr3 := rr.sm s3'
  have rd3 := rd.sm s3'
  -- row[0] == 'either': the test's kind; parts
  by_cases hbt : r.badTest R = true
  · have wk : why R r = some "kind" := by rw [w1]; exact if_pos hbt
    obtain ⟨a', i', j', rfl⟩ : ∃ a i j, r = .either a i j := by
      cases r with
      | either a i j => exact ⟨a, i, j, rfl⟩
      | _ => cases hbt
    have ha : a' < R.length := by
      simp only [Row.named, List.all_cons, Bool.and_eq_true, decide_eq_true_eq] at hA'
      exact hA'.1
    refine ⟨fun _ _ => False, ⟨_, rfl, _, 0, _, rr3, rfl, rfl, rfl, fun x0 r0 => ?_⟩, fun _ _ z => z.elim⟩
    cases r0.str_inv
    refine ⟨rfl, _, rfl, ite2 (fun _ => ?_) (fun z => absurd (decide_eq_true rfl) z)⟩
    refine ⟨_, rfl, _, rfl, _, 1, _, rr3, rfl, rfl, rfl, fun x1 r1 => ?_⟩
    cases r1.int_inv
    refine ⟨_, a', _, rd3, rfl, rfl, rowAt_at ha, fun x2 r2 => ?_⟩
    refine ⟨_, 0, _, r2, Row.seqD _, rfl, Row.word_at _, fun x3 r3 => ?_⟩
    cases r3.str_inv
    refine ⟨rfl, _, rfl, ite2 (fun _ => ?_) (fun z => absurd ?_ z)⟩
    · refine fin _ _ s3' ?_
      rw [wk]
      exact .str _
    · rw [Row.askedW]
      exact hbt
  have w2 : why R r = why3 R r := by rw [w1]; exact if_neg hbt
  have hpl : r.parts.length ≤ lim := by
    cases r with
    | either a i j => show 2 ≤ lim; decide
    | _ => exact hnl
  refine ⟨fun σ' H' => ∃ (x : V), σ' = [some v, some u, some x, none] ∧ Sm H H' ∧ Dr All H' x (.tuple (nums r.parts)), ⟨_, rfl, _, 0, _, rr3, Row.seqD r, rfl, Row.word_at r, fun x0 r0 => ?_⟩, ?_⟩
  · cases r0.str_inv
    refine ⟨rfl, ?_⟩
    rw [Row.eitherW]
    cases r with
    | either a' i' j' =>
      have ha : a' < R.length := by
        simp only [Row.named, List.all_cons, Bool.and_eq_true, decide_eq_true_eq] at hA'
        exact hA'.1
      refine ⟨_, rfl, iteT ?_⟩
      refine ⟨_, rfl, _, rfl, _, 1, _, rr3, rfl, rfl, rfl, fun x1 r1 => ?_⟩
      cases r1.int_inv
      refine ⟨_, a', _, rd3, rfl, rfl, rowAt_at ha, fun x2 r2 => ?_⟩
      refine ⟨_, 0, _, r2, Row.seqD _, rfl, Row.word_at _, fun x3 r3 => ?_⟩
      cases r3.str_inv
      refine ⟨rfl, _, rfl, ite2 (fun z => absurd (by rw [Row.askedW] at z; exact z) hbt) (fun _ => ?_)⟩
      -- parts = row[2:]
      refine ⟨_, rfl, _, rfl, _, rr3, rfl, fun x4 H4 s4 r4 => ⟨x4, rfl, s3'.trans s4, r4⟩⟩
    | made n ks => exact ⟨_, rfl, iteF ⟨_, rfl, s3', r3⟩⟩
    | asked n ks => exact ⟨_, rfl, iteF ⟨_, rfl, s3', r3⟩⟩
    | given k => exact ⟨_, rfl, iteF ⟨_, rfl, s3', r3⟩⟩
  rintro σ' H4 ⟨x4, rfl, s4, r4⟩
  have rr4 := rr.sm s4
  have rd4 := rd.sm s4
  obtain ⟨a4, xs4, rfl, hq4, rs4⟩ := r4.seq rfl
  -- not all([is_part(rows, at) for at in parts])
  refine ⟨_, rfl, a4, xs4, rfl, hq4, fun J hJ D nD => ?_⟩
  refine lc_fz (fun d => .bool (isPart R (intOf d).toNat)) (.seq hJ rs4) nD (by simpa [its, nums] using hpl) (fun _ => rfl) (fun _ _ => rfl) (fun x e H2 Q' he s2 rx q' => ?_) fun H5 ys s5 eD ry => ?_
  · obtain ⟨k, _, rfl⟩ := List.mem_map.mp he
    cases rx.int_inv
    refine ⟨_, rfl, _, rfl, v, R, k, rfl, rd4.sm s2, fun H' s' => q' _ _ s' ?_⟩
    show Dr All H' (V.bl (isPart R k)) (PyData.bool (isPart R (k : Int).toNat))
    rw [Int.toNat_natCast]
    exact .bl _
  have eb : (its (.tuple (nums r.parts))).map (fun d => PyData.bool (isPart R (intOf d).toNat)) = (r.parts.map (isPart R)).map PyData.bool := by
    simp only [its, nums, List.map_map]
    refine List.map_congr_left fun k _ => ?_
    show PyData.bool (isPart R (k : Int).toNat) = PyData.bool (isPart R k)
    rw [Int.toNat_natCast]
  rw [eb] at ry
  have ey := ry.bls
  subst ey
  refine ⟨_, _, rfl, SqL.of eD, _, rfl, ?_⟩
  have ea : ((r.parts.map (isPart R)).all id) = r.parts.all (isPart R) := by rw [List.all_map]; rfl
  rw [ea]
  have s5' := s4.trans s5
  refine ite2 (fun hP => ?_) (fun hP => ?_)
  · have hP' : (r.parts.all (isPart R)) = false := by simpa using hP
    refine fin _ _ s5' ?_
    rw [w2, show why3 R r = some "kind" from if_pos hP']
    exact .str _
  have hP' : (r.parts.all (isPart R)) = true := by simpa using hP
  have w3 : why R r = why4 r := by
    rw [w2]
    exact if_neg (by rw [hP']; exact Bool.noConfusion)
  -- row[0] == 'either' and row[2] == row[3]
  have rr5 := rr.sm s5'
  refine ⟨_, rfl, _, 0, _, rr5, Row.seqD r, rfl, Row.word_at r, fun x0 r0 => ?_⟩
  cases r0.str_inv
  refine ⟨rfl, ?_⟩
  rw [Row.eitherW]
  have nope : r.like = false → Q .non H5 := fun hl => fin _ _ s5' (by rw [w3, show why4 r = none from if_neg (by rw [hl]; exact Bool.noConfusion)]; exact .non)
  cases r with
  | either a' i' j' =>
    refine ⟨_, rfl, iteT ?_⟩
    refine ⟨_, rfl, _, 2, _, rr5, rfl, rfl, rfl, fun x2 r2 => ?_⟩
    cases r2.int_inv
    refine ⟨_, rfl, _, 3, _, rr5, rfl, rfl, rfl, fun x3 r3 => ?_⟩
    cases r3.int_inv
    refine ⟨rfl, _, rfl, ite2 (fun z => ?_) (fun z => nope (decide_eq_false fun e => z (decide_eq_true (by rw [e]))))⟩
    have e : i' = j' := by
      have := of_decide_eq_true z
      injection this with this
      omega
    refine fin _ _ s5' ?_
    rw [w3, show why4 (Row.either a' i' j') = some "alike" from if_pos (decide_eq_true e)]
    exact .str _
  | made n ks => exact ⟨_, rfl, iteF (iteF (nope rfl))⟩
  | asked n ks => exact ⟨_, rfl, iteF (iteF (nope rfl))⟩
  | given k => exact ⟨_, rfl, iteF (iteF (nope rfl))⟩
end
end K8

namespace K8
open PySem PySem.Spec PyProof.Rows L2 WR
/-! ### the table: its object, its list, its dict -/
theorem kw : ¬ (("rows" : Str) = "where") := by decide +kernel
def flds (l d : Addr) : List (Str × V) := putF "where" (.ref d) (putF "rows" (.ref l) [])
theorem flds_rows (l d : Addr) : (flds l d).lookup ("rows" : Str) = some (.ref l) := by
  unfold flds
  rw [lookup_putF, if_neg kw, lookup_putF, if_pos rfl]
theorem flds_where (l d : Addr) : (flds l d).lookup ("where" : Str) = some (.ref d) := by
  unfold flds
  rw [lookup_putF, if_pos rfl]
theorem flds_no (l d : Addr) {m : Str} (h1 : ¬ m = "where") (h2 : ¬ m = "rows") : (flds l d).lookup m = none := by
  unfold flds
  rw [lookup_putF, if_neg h1, lookup_putF, if_neg h2]
  all_goals rfl
abbrev No : Addr → Prop := fun _ => False
def ents : List Row → List Addr → Nat → List Ent
  | r :: R, a :: as, n => (r.d, a, .int (n : Nat)) :: ents R as (n + 1)
  | _, _, _ => []
theorem ents_app (r : Row) (a : Addr) : ∀ (R : List Row) (as : List Addr) (n : Nat), as.length = R.length → ents (R ++ [r]) (as ++ [a]) n = ents R as n ++ [(r.d, a, .int ((n + R.length : Nat) : Int))]
  | [], [], n, _ => rfl
  | r' :: R, a' :: as, n, h => by
    show (r'.d, a', V.int (n : Nat)) :: ents (R ++ [r]) (as ++ [a]) (n + 1) = _
    rw [ents_app r a R as (n + 1) (by simpa using h)]
    have e : n + 1 + R.length = n + (r' :: R).length := by simp; omega
    rw [e]
    rfl
  | [], _ :: _, _, h => by simp at h
  | _ :: _, [], _, h => by simp at h
theorem nums_inj : ∀ {ks js : List Nat}, nkA (nums ks) = nkA (nums js) → ks = js
  | [], [], _ => rfl
  | k :: ks, j :: js, h => by
    simp only [nums, List.map_cons, nkA, nk, List.cons.injEq, NestedKey.num.injEq] at h
    rw [nums_inj (ks := ks) (js := js) h.2, show k = j by have := h.1; omega]
  | [], _ :: _, h => by simp [nums, nkA] at h
  | _ :: _, [], h => by simp [nums, nkA] at h
theorem txt_ne {x y : Str} (h : ¬ x = y) (z : NestedKey.text x = NestedKey.text y) : False := h (by injection z)
theorem Row.nk_inj {r s : Row} (h : nk r.d = nk s.d) : r = s := by
  cases r with
  | made n ks => cases s with
    | made m js =>
      simp only [Row.d, nk, nkA, NestedKey.tup.injEq, List.cons.injEq, NestedKey.text.injEq] at h
      rw [h.2.1, nums_inj h.2.2.1]
    | asked m js =>
      simp only [Row.d, nk, nkA, NestedKey.tup.injEq, List.cons.injEq] at h
      exact (txt_ne (by decide +kernel) h.1).elim
    | either a i j => simp [Row.d, nk, nkA] at h
    | given k => simp [Row.d, nk, nkA] at h
  | asked n ks => cases s with
    | asked m js =>
      simp only [Row.d, nk, nkA, NestedKey.tup.injEq, List.cons.injEq, NestedKey.text.injEq] at h
      rw [h.2.1, nums_inj h.2.2.1]
    | made m js =>
      simp only [Row.d, nk, nkA, NestedKey.tup.injEq, List.cons.injEq] at h
      exact (txt_ne (by decide +kernel) h.1).elim
    | either a i j => simp [Row.d, nk, nkA] at h
    | given k => simp [Row.d, nk, nkA] at h
  | either a i j => cases s with
    | either a' i' j' =>
      simp only [Row.d, nk, nkA, NestedKey.tup.injEq, List.cons.injEq, NestedKey.num.injEq] at h
      obtain ⟨_, h1, h2, h3, _⟩ := h
      rw [show a = a' by omega, show i = i' by omega, show j = j' by omega]
    | made m js => simp [Row.d, nk, nkA] at h
    | asked m js => simp [Row.d, nk, nkA] at h
    | given k => simp [Row.d, nk, nkA] at h
  | given k => cases s with
    | given k' =>
      simp only [Row.d, nk, nkA, NestedKey.tup.injEq, List.cons.injEq, NestedKey.num.injEq] at h
      rw [show k = k' by omega]
    | made m js => simp [Row.d, nk, nkA] at h
    | asked m js => simp [Row.d, nk, nkA] at h
    | either a i j => simp [Row.d, nk, nkA] at h
theorem nums_depth (ks : List Nat) : NestedKey.depthAll (nkA (nums ks)) = 0 := by
  induction ks with
  | nil => rfl
  | cons k ks ih =>
    show max (NestedKey.depth (nk (.int (k : Int)))) (NestedKey.depthAll (nkA (nums ks))) = 0
    rw [ih]
    rfl
theorem Row.kd (r : Row) : Kd r.d := by
  refine ⟨by cases r <;> rfl, Row.fz r, ?_⟩
  cases r with
  | made n ks => simp [Row.d, nk, nkA, NestedKey.depth, NestedKey.depthAll, nums_depth]
  | asked n ks => simp [Row.d, nk, nkA, NestedKey.depth, NestedKey.depthAll, nums_depth]
  | either a i j => simp [Row.d, nk, nkA, NestedKey.depth, NestedKey.depthAll]
  | given k => simp [Row.d, nk, nkA, NestedKey.depth, NestedKey.depthAll]
/-- the place of a row -/
def placeOf : List Row → Row → Nat → Option Nat
  | [], _, _ => none
  | r' :: R, r, n => if r' = r then some n else placeOf R r (n + 1)
theorem look_ents (r : Row) : ∀ (R : List Row) (as : List Addr) (n : Nat), as.length = R.length → lookE (ents R as n) r.d = (placeOf R r n).map fun k => V.int (k : Nat)
  | [], [], _, _ => rfl
  | r' :: R, a :: as, n, h => by
    have ih := look_ents r R as (n + 1) (by simpa using h)
    unfold lookE at ih ⊢
    show ((((r'.d, a, V.int (n : Nat)) :: ents R as (n + 1)).find? fun q => decide (nk q.1 = nk r.d)).map (·.2.2)) = _
    rw [List.find?_cons]
    unfold placeOf
    by_cases e : r' = r
    · rw [if_pos e, e, decide_eq_true rfl]
      rfl
    · rw [if_neg e, decide_eq_false fun z => e (Row.nk_inj z)]
      exact ih
  | [], _ :: _, _, h => by simp at h
  | _ :: _, [], _, h => by simp at h
theorem placeOf_none {r : Row} : ∀ {R : List Row} {n : Nat}, r ∉ R → placeOf R r n = none
  | [], _, _ => rfl
  | r' :: R, n, h => by
    unfold placeOf
    rw [if_neg fun e => h (by rw [e]; exact List.mem_cons_self ..)]
    exact placeOf_none fun z => h (List.mem_cons_of_mem _ z)
theorem placeOf_some {r : Row} : ∀ {R : List Row} {n : Nat}, r ∈ R → ∃ k, placeOf R r n = some k
  | [], _, h => by cases h
  | r' :: R, n, h => by
    unfold placeOf
    by_cases e : r' = r
    · exact ⟨n, if_pos e⟩
    · rw [if_neg e]
      rcases List.mem_cons.mp h with z | z
      · exact absurd z.symm e
      · exact placeOf_some z
structure Tb (P : Program) (w : World) (C : Addr) (H : Hp) (t l d : Addr) (R : List Row) (as : List Addr) : Prop where
  ob : ∃ dx, H t = some (.ins C dx (flds l d))
  len : as.length = R.length
  ls : H l = some (.lst (as.map V.ref))
  rs : DrA No H (as.map V.ref) (R.map Row.d)
  rd : RD P w H d (ents R as 0)
  ok : ∀ r ∈ R, r.ok
  nd : R.Nodup
section
variable {P : Program} {w : World} {C : Addr} {H H' : Hp} {t l d : Addr} {R : List Row} {as : List Addr}
theorem RD.sm {xs : List Ent} (s : Sm H H') (h : RD P w H d xs) : RD P w H' d xs := by
  refine ⟨?_, fun q hq => ⟨(h.keys q hq).1, (h.keys q hq).2.sm s⟩⟩
  rcases h.at_ with ⟨e, z⟩ | z
  · exact .inl ⟨e, s _ _ z⟩
  · exact .inr (s _ _ z)
theorem Tb.sm (s : Sm H H') (T : Tb P w C H t l d R as) : Tb P w C H' t l d R as := by
  obtain ⟨dx, e⟩ := T.ob
  exact ⟨⟨dx, s _ _ e⟩, T.len, s _ _ T.ls, T.rs.sm s, RD.sm s T.rd, T.ok, T.nd⟩
theorem Tb.rows (T : Tb P w C H t l d R as) : Dr All H (.ref l) (rowsD R) := .lst trivial T.ls T.rs.all
theorem Tb.dne (T : Tb P w C H t l d R as) : H d ≠ some (.lst (as.map V.ref)) ∧ (∀ C' dx fs, H d ≠ some (.ins C' dx fs)) ∧ (∀ xs, H d ≠ some (.tup xs)) ∧ H d ≠ none := by
  rcases T.rd.at_ with ⟨_, z⟩ | z
  · rw [z]
    exact ⟨(fun q => nomatch q), (fun _ _ _ q => nomatch q), (fun _ q => nomatch q), (fun q => nomatch q)⟩
  · rw [z]
    unfold rdO
    exact ⟨(fun q => nomatch q), (fun _ _ _ q => nomatch q), (fun _ q => nomatch q), (fun q => nomatch q)⟩
/-- what is known of the class -/
structure RT (P : Program) (w : World) (K : PySem.W.Frag) (mg : Str → Option Value) (base : Heap) (C : Addr) : Prop where
  cl : Cls K C
  nR : NoAttr K C "rows"
  nW : NoAttr K C "where"
  gC : mg "RowTable" = some (.ref C)
abbrev spTI (C : Addr) : Sp := fun vs H Q _ => ∃ (p dx rl : Addr), vs = [.ref p, .ref rl] ∧ H p = some (.ins C dx []) ∧ H rl = some (.lst []) ∧
  ∀ (l d : Addr) (H' : Hp), H l = none → H d = none → l ≠ d → (∀ b o, H b = some o → b ≠ p → H' b = some o) → H' p = some (.ins C dx (flds l d)) → H' l = some (.lst []) → H' d = some (.dK []) → Q .non H'
abbrev spPut (P : Program) (w : World) (C : Addr) : Sp := fun vs H Q _ => ∃ (t l d a : Addr) (R : List Row) (as : List Addr) (r : Row), vs = [.ref t, .ref a] ∧ Tb P w C H t l d R as ∧ Dr All H (.ref a) r.d ∧ r.ok ∧ R.length ≤ lim ∧
  (∀ k, placeOf R r 0 = some k → Q (.int (k : Nat)) H) ∧
  (r ∉ R → ∀ H', (∀ b o, b ≠ l → b ≠ d → H b = some o → H' b = some o) → Tb P w C H' t l d (R ++ [r]) (as ++ [a]) → Q (.int (R.length : Nat)) H')
section
variable {P : Program} {w : World} {K : PySem.W.Frag} {mg : Str → Option Value} {base : Heap} {C : Addr}
theorem sc_RowTable_I : FnScope ["self", "rows", "at", "row"] ["self", "rows"] (defScope sRowTable_I) := ⟨rfl, rfl, rfl, by decide +kernel, rfl, by decide +kernel, by decide +kernel⟩
theorem ok_RowTable_I (B : Bt mg) (T : RT P w K mg base C) {f : Addr} {fd : FuncData} (F : FunD K dRowTable_I.name dRowTable_I.qual dRowTable_I.params dRowTable_I.body dRowTable_I.scope [] [] f fd) :
    FnOk P w K mg base CX0 1 f fd ["self", "rows"] (spTI C) := by
  refine F.ok sc_RowTable_I (fun vs H Q E h => by obtain ⟨p, dx, rl, rfl, _⟩ := h; rfl) (fun cdv A outer s H vs Q E hr h => ?_)
  obtain ⟨p, dx, rl, rfl, hp, hl, q⟩ := h
  refine ⟨_, PSs.nox (pss_cons (ps_fld (pv 0) (pe_callTy call_list_of (by rfl) B.list (by decide +kernel) (pa_cons (pv 1) pa_nil)) rfl)
      (pss_one (ps_fld (pv 0) (pe_dc (own := [("at", 2), ("row", 3)]) (g := gTup K 2 (gCons (gName 2) (gCons (gName 3) gNil))) (tt := tYes) rfl sc_RowTable_I.nd (pi_enS B.enumerate (pa_cons (pe_fld (pv 0) rfl) pa_nil)) (blkOk_by (own := [("at", 2), ("row", 3)]) (N := ["self", "rows", "at", "row"]) (sc := defScope sRowTable_I) (by decide +kernel)) (fun _ _ _ _ _ => pg_tup rfl (pgs_cons (pg_name (i := 2) sc_RowTable_I.nd rfl (Or.inl rfl)) (pgs_cons (pg_name (i := 3) sc_RowTable_I.nd rfl (Or.inl rfl)) pgs_nil))) (fun _ _ _ _ _ => pts_nil) (fun _ _ _ _ _ => pv 3) (fun _ _ _ _ _ => pv 2)) rfl))), ?_⟩
  -- self.rows = list(rows)
  refine ⟨_, rfl, rl, _, rfl, .inl (SqL.of hl), fun l nl => ?_⟩
  have npl : p ≠ l := ne_of_none hp nl
  refine ⟨_, rfl, p, C, dx, [], rfl, (by rw [upd_ne npl]; exact hp), T.cl, T.nR, (by show 0 < 1000; decide), ?_⟩
  -- self.where = {..}
  refine ⟨_, rfl, p, C, dx, _, _, rfl, upd_same, T.cl, T.nR, ?_, l, [], rfl, .inl (by rw [upd_ne npl.symm]; exact upd_same), fun J hJ D nD => ?_⟩
  · rw [lookup_putF, if_pos rfl]
  have npD : p ≠ D := ne_of_none upd_same nD
  have nlD : l ≠ D := by
    refine ne_of_none (o := .lst []) ?_ nD
    rw [upd_ne npl.symm]
    exact upd_same
  have nDl : H D = none := by
    rw [upd_ne npD.symm, upd_ne nlD.symm] at nD
    exact nD
  refine ⟨fun i m H2 => m = 0 ∧ i = 0 ∧ H2 = upd (upd (upd H l (.lst [])) p (.ins C dx (putF "rows" (.ref l) []))) D (.dK []), ⟨0, rfl, rfl, rfl⟩, ?_⟩
  rintro i m H2 ⟨rfl, rfl, rfl⟩
  refine .inl ⟨?_, ?_⟩
  · have e : upd (upd (upd H l (.lst [])) p (.ins C dx (putF "rows" (.ref l) []))) D (.dK []) l = some (.lst []) := by
      rw [upd_ne nlD, upd_ne npl.symm]
      exact upd_same
    rcases hJ with ⟨rfl, z⟩ | ⟨rfl, z⟩
    · exact ⟨[], SqL.of e, Nat.le_refl _⟩
    · rw [upd_ne npl.symm, upd_same] at z
      cases z
  refine ⟨_, rfl, p, C, dx, _, rfl, (by rw [upd_ne npD]; exact upd_same), T.cl, T.nW, (by show 1 < 1000; decide), ?_⟩
  refine q l D _ nl nDl nlD (fun b o e hb => ?_) upd_same ?_ ?_
  · rw [upd_ne hb, upd_ne (ne_of_none e nDl), upd_ne hb, upd_ne (ne_of_none e nl)]
    exact e
  · rw [upd_ne npl.symm, upd_ne nlD, upd_ne npl.symm]
    exact upd_same
  · rw [upd_ne npD.symm]
    exact upd_same
theorem sc_RowTable_put_in : FnScope ["self", "row", "at"] ["self", "row"] (defScope sRowTable_put_in) := ⟨rfl, rfl, rfl, by decide +kernel, rfl, by decide +kernel, by decide +kernel⟩
theorem ok_RowTable_put_in (B : Bt mg) (T : RT P w K mg base C) {f : Addr} {fd : FuncData} (F : FunD K dRowTable_put_in.name dRowTable_put_in.qual dRowTable_put_in.params dRowTable_put_in.body dRowTable_put_in.scope [] [] f fd) :
    FnOk P w K mg base CX0 1 f fd ["self", "row"] (spPut P w C) := by
  refine F.ok sc_RowTable_put_in (fun vs H Q E h => by obtain ⟨t, l, d, a, R, as, r, rfl, _⟩ := h; rfl) (fun cdv A outer s H vs Q E hr h => ?_)
  obtain ⟨t, l, d, a, R, as, r, rfl, tb, rr, hok, hlen, q1, q2⟩ := h
  have hu := hr.units
  refine ⟨_, PSs.nox (pss_cons (ps_set (i := 2) sc_RowTable_put_in.nd rfl (Or.inl rfl) (pe_getRD hu (pe_fld (pv 0) rfl) (pv 1) ⟨rfl, rfl, rfl, rfl⟩))
      (pss_cons (ps_if (pt_cmpR op_isN (pv 2) pe_non (nomark _)) (pss_cons (ps_set (i := 2) sc_RowTable_put_in.nd rfl (Or.inl rfl) (pe_callB call_lenS (by rfl) B.len (by decide +kernel) (pa_cons (pe_fld (pv 0) rfl) pa_nil)))
      (pss_cons (ps_expr (pe_bm PySem.F.plainAttrs_list PySem.F.slot_list_append PySem.F.type_list_append mt_append (pe_fld (pv 0) rfl) (pa_cons (pv 1) pa_nil)))
      (pss_one (ps_asg (pv 2) (pg_sub (pe_fld (pv 0) rfl) (pv 1) (set_RD hu)))))) pss_nil)
      (pss_one (ps_ret (pv 2))))), ?_⟩
  obtain ⟨dx, ob⟩ := id tb.ob
  -- at = self.where.get(row)
  refine ⟨_, rfl, t, C, dx, _, _, rfl, ob, T.cl, T.nW, flds_where l d, d, rfl, ⟨_, tb.rd⟩, _, rfl, a, r.d, _, rfl, rr, Row.kd r, tb.rd, ?_⟩
  rw [look_ents r R as 0 tb.len]
  by_cases hm : r ∈ R
  · obtain ⟨k, ek⟩ := placeOf_some (n := 0) hm
    rw [ek]
    refine ⟨_, rfl, rfl, _, rfl, iteF ⟨_, rfl, q1 k ek⟩⟩
  · rw [placeOf_none hm]
    refine ⟨_, rfl, rfl, _, rfl, iteT ?_⟩
    have hl2 := lim_lt
    obtain ⟨e1, e2, e3, e4⟩ := tb.dne
    have ntl : t ≠ l := fun z => by
      rw [z, tb.ls] at ob
      cases ob
    have ntd : t ≠ d := fun z => e2 _ _ _ (by rw [← z]; exact ob)
    have nld : l ≠ d := fun z => e1 (by rw [← z]; exact tb.ls)
    have elen : (its (rowsD R)).length = R.length := by simp [rowsD, its]
    have hal : a ≠ l := fun z => by
      rw [z] at rr
      cases r <;> (cases rr with | tup e _ => rw [tb.ls] at e; cases e)
    have had : a ≠ d := fun z => by
      rw [z] at rr
      cases r <;> (cases rr with | tup e _ => exact e3 _ e)
    -- at = len(self.rows)
    refine ⟨_, rfl, t, C, dx, _, _, rfl, ob, T.cl, T.nR, flds_rows l d, _, rowsD R, rfl, tb.rows, rfl, ?_⟩
    rw [elen]
    -- self.rows.append(row)
    refine ⟨_, rfl, t, C, dx, _, _, rfl, ob, T.cl, T.nR, flds_rows l d, .inl ⟨rfl, _, SqL.of tb.ls⟩, _, rfl, l, _, _, rfl, rfl, tb.ls, (by rw [List.length_map, tb.len]; omega), ?_⟩
    -- self.where[row] = at
    have eR : List.map V.ref as ++ [V.ref a] = List.map V.ref (as ++ [a]) := by simp
    have ob1 : upd H l (.lst (List.map V.ref as ++ [V.ref a])) t = some (.ins C dx (flds l d)) := by rw [upd_ne ntl]; exact ob
    have st1 : Stays No H (upd H l (.lst (List.map V.ref as ++ [V.ref a]))) := ⟨fun _ _ z => z.elim, fun b xs z => by
      rw [upd_ne fun q => by rw [q, tb.ls] at z; cases z]
      exact z⟩
    have rr1 : Dr No (upd H l (.lst (List.map V.ref as ++ [V.ref a]))) (.ref a) r.d := (rr.fz (M := No) (Row.fz r)).mono (fun _ z => z) st1
    have rd1 : RD P w (upd H l (.lst (List.map V.ref as ++ [V.ref a]))) d (ents R as 0) := by
      refine ⟨?_, fun q hq => ⟨(tb.rd.keys q hq).1, (((tb.rd.keys q hq).2.fz (M := No) (tb.rd.keys q hq).1.fz).mono (fun _ z => z) st1).all⟩⟩
      rcases tb.rd.at_ with ⟨z1, z2⟩ | z
      · exact .inl ⟨z1, by rw [upd_ne nld.symm]; exact z2⟩
      · exact .inr (by rw [upd_ne nld.symm]; exact z)
    have elE : (ents R as 0).length < sizeLine := by
      have : ∀ (R : List Row) (as : List Addr) (n : Nat), (ents R as n).length ≤ R.length := by
        intro R
        induction R with
        | nil => intro as n; cases as <;> simp [ents]
        | cons r R ih => intro as n; cases as with
          | nil => simp [ents]
          | cons a as => simpa [ents] using ih as (n + 1)
      have := this R as 0
      omega
    refine ⟨_, rfl, _, rfl, t, C, dx, _, _, rfl, ob1, T.cl, T.nW, flds_where l d, _, rfl, d, a, r.d, _, rfl, rfl, rr1.all, Row.kd r, rd1, (by rw [look_ents r R as 0 tb.len, placeOf_none hm]; rfl), elE, ?_⟩
    -- return at
    have st2 : ∀ o, Stays No (upd H l (.lst (List.map V.ref as ++ [V.ref a]))) (upd (upd H l (.lst (List.map V.ref as ++ [V.ref a]))) d o) := fun o => ⟨fun _ _ z => z.elim, fun b xs z => by
      rw [upd_ne fun q => by rw [q, upd_ne nld.symm] at z; exact e3 _ z]
      exact z⟩
    refine ⟨_, rfl, q2 hm _ (fun b o h1 h2 z => ?_) ⟨⟨dx, ?_⟩, ?_, ?_, ?_, ⟨.inr ?_, fun q hq => ?_⟩, ?_, ?_⟩⟩
    · rw [upd_ne h2, upd_ne h1]
      exact z
    · rw [upd_ne ntd]
      exact ob1
    · simp [tb.len]
    · rw [upd_ne nld, upd_same, eR]
    · have e5 : (R ++ [r]).map Row.d = R.map Row.d ++ [r.d] := by simp
      rw [← eR, e5]
      exact (((tb.rs.mono (fun _ z => z) st1).append (.one rr1)).mono (fun _ z => z) (st2 _))
    · rw [ents_app r a R as 0 tb.len, Nat.zero_add]
      exact upd_same
    · rw [ents_app r a R as 0 tb.len] at hq
      rcases List.mem_append.mp hq with hq | hq
      · obtain ⟨k1, k2⟩ := rd1.keys q hq
        exact ⟨k1, ((k2.fz (M := No) k1.fz).mono (fun _ z => z) (st2 _)).all⟩
      · rw [List.mem_singleton.mp hq]
        exact ⟨Row.kd r, (rr1.mono (fun _ z => z) (st2 _)).all⟩
    · intro s hs
      rcases List.mem_append.mp hs with hs | hs
      · exact tb.ok s hs
      · rw [List.mem_singleton.mp hs]
        exact hok
    · refine List.nodup_append.mpr ⟨tb.nd, by simp, fun x hx y hy => ?_⟩
      rw [List.mem_singleton.mp hy]
      exact fun e => hm (e ▸ hx)
end
end
end K8

namespace K8
open PySem PySem.Spec PyProof.Rows L2 WR
def faultD (n : Nat) (x : Str) : PyData := .tuple [.int (n : Nat), .str x]
/-- what a scan of the things comes to: the rows ahead of the first wrong one, its fault -/
inductive Scan : List Row → Nat → List PyData → List Row → PyData → Prop where
  | done {R : List Row} {n : Nat} : Scan R n [] R .none
  | form {R : List Row} {n : Nat} {d : PyData} {ds : List PyData} : rowForm d = .none → Scan R n (d :: ds) R (faultD n "form")
  | why {R : List Row} {n : Nat} {d : PyData} {ds : List PyData} {r : Row} {x : Str} : rowForm d = r.d → why R r = some x → Scan R n (d :: ds) R (faultD n x)
  | twice {R : List Row} {n : Nat} {d : PyData} {ds : List PyData} {r : Row} : rowForm d = r.d → why R r = none → r ∈ R → Scan R n (d :: ds) R (faultD n "twice")
  | next {R R' : List Row} {n : Nat} {d f : PyData} {ds : List PyData} {r : Row} : rowForm d = r.d → why R r = none → r ∉ R → Scan (R ++ [r]) (n + 1) ds R' f → Scan R n (d :: ds) R' f
def ScanOf (d : PyData) (R : List Row) (f : PyData) : Prop := (isL d = true ∧ Scan [] 0 (its d) R f) ∨ (isL d = false ∧ R = [] ∧ f = faultD 0 "form")
theorem Row.d_ne (r : Row) : r.d ≠ .none := by cases r <;> exact fun z => nomatch z
abbrev spScan (P : Program) (w : World) (C : Addr) : Sp := fun vs H Q _ => ∃ (v : V) (d : PyData), vs = [v] ∧ Dr All H v d ∧ wd d = true ∧
  ∀ (p t l dd : Addr) (R : List Row) (as : List Addr) (f : PyData) (fv : V) (H' : Hp), Sm H H' → H p = none → H t = none → H l = none → H dd = none → Tb P w C H' t l dd R as → H' p = some (.tup [.ref t, fv]) → Dr All H' fv f → ScanOf d R f → Q (.ref p) H'
section
variable {P : Program} {w : World} {K : PySem.W.Frag} {mg : Str → Option Value} {base : Heap} {C fI fP : Addr} {fdI fdP : FuncData}
theorem sc_scanned_web : FnScope ["thing", "table", "at", "one", "row", "why"] ["thing"] (defScope sscanned_web) := ⟨rfl, rfl, rfl, by decide +kernel, rfl, by decide +kernel, by decide +kernel⟩
theorem ok_scanned_web (B : Bt mg) (T : RT P w K mg base C) (M : Mk K C fI) (mP : Meth K C "put_in" fP) (GI : FnOk P w K mg base CX0 1 fI fdI ["self", "rows"] (spTI C)) (bI : Binds K fdI ["self", "rows"] []) (GP : FnOk P w K mg base CX0 1 fP fdP ["self", "row"] (spPut P w C)) (bP : Binds K fdP ["self", "row"] [])
    (F : Fn K mg dscanned_web) (D1 : Df P w K mg base CX0 1 "is_list" ["thing"] spIsList) (D2 : Df P w K mg base CX0 4 "row_form" ["thing"] spRowForm) (D3 : Df P w K mg base CX0 4 "row_why" ["rows", "row"] spRowWhy) :
    Df P w K mg base CX0 5 "scanned_web" ["thing"] (spScan P w C) := by
  obtain ⟨f, fd, hm, F⟩ := F
  refine ⟨f, fd, hm, F.kp, F.bindsN fun _ _ _ _ _ _ us hl => match us, hl with | [_], _ => rfl, ?_⟩
  refine F.ok sc_scanned_web (fun vs H Q E h => by obtain ⟨v, d, rfl, _⟩ := h; rfl) (fun cdv A outer s H vs Q E hr h => ?_)
  obtain ⟨v, d, rfl, rd, wdd, q⟩ := h
  have hu := hr.units
  have hr1 := hr.mono (show 1 ≤ 4 by decide)
  have hr2 := hr.mono (show 2 ≤ 4 by decide)
  refine ⟨_, PSs.nox (pss_cons (ps_set (i := 1) sc_scanned_web.nd rfl (Or.inl rfl) (pe_make M GI hr2 (by rfl) T.gC bI .nil pass0 (pa_cons (pe_lst pa_nil) pa_nil)))
      (pss_cons (ps_if (pt_not (pt_val (pe_df D1 hr1 pass0 (pa_cons (pv 0) pa_nil)))) (pss_one (ps_ret (pe_tup (pa_cons (pv 1) (pa_cons (pe_tup (pa_cons pe_int (pa_cons pe_str pa_nil))) pa_nil))))) pss_nil)
      (pss_cons (ps_for PassesOwn.never rfl (pi_enS B.enumerate (pa_cons (pv 0) pa_nil)) (pg_tup rfl (pgs_cons (pg_name (i := 2) sc_scanned_web.nd rfl (Or.inl rfl)) (pgs_cons (pg_name (i := 3) sc_scanned_web.nd rfl (Or.inl rfl)) pgs_nil))) (pss_cons (ps_set (i := 4) sc_scanned_web.nd rfl (Or.inl rfl) (pe_df D2 hr pass0 (pa_cons (pv 3) pa_nil)))
      (C8.pss_cut (ps_set (i := 5) sc_scanned_web.nd rfl (Or.inl rfl) (pe_ifExp (pt_cmpR op_isN (pv 4) pe_non (nomark _)) pe_str (pe_df D3 hr pass0 (pa_cons (pe_fld (pv 1) rfl) (pa_cons (pv 4) pa_nil)))))
      (C8.pss_cut (ps_if (PW.pt (pw_and (pt_cmpR op_isN (pv 5) pe_non (nomark _)) (pw_and1 (pt_cmpR (op_inRD hu) (pv 4) (pe_fld (pv 1) rfl) (by rfl))))) (pss_one (ps_set (i := 5) sc_scanned_web.nd rfl (Or.inl rfl) pe_str)) pss_nil)
      (pss_cons (ps_if (pt_cmpR op_notN (pv 5) pe_non (nomark _)) (pss_one (ps_ret (pe_tup (pa_cons (pv 1) (pa_cons (pe_tup (pa_cons (pv 2) (pa_cons (pv 5) pa_nil))) pa_nil))))) pss_nil)
      (pss_one (ps_expr (pe_meth (pv 1) T.cl mP GP hr1 bP .nil pass0 (pa_cons (pv 4) pa_nil)))))))))
      (pss_one (ps_ret (pe_tup (pa_cons (pv 1) (pa_cons pe_non pa_nil)))))))), ?_⟩
  -- table = RowTable([])
  refine ⟨(by show 0 ≤ sizeLine; decide), fun rl nrl t dx nt ndx ndt => ?_⟩
  have nrl' : rl ≠ t := ne_of_none (o := .lst []) upd_same nt
  have nrd : rl ≠ dx := ne_of_none (o := .lst []) upd_same ndx
  have htn : H t = none := by rw [upd_ne nrl'.symm] at nt; exact nt
  have hdn : H dx = none := by rw [upd_ne nrd.symm] at ndx; exact ndx
  refine ⟨t, dx, rl, rfl, upd_same, by rw [upd_ne nrl', upd_ne nrd]; exact upd_same, fun l dd H1 nl ndd nldd kp ht hl hd => ⟨rfl, ?_⟩⟩
  have s1 : Sm H H1 := fun b o e => kp b o (by rw [upd_ne (ne_of_none e htn), upd_ne (ne_of_none e hdn), upd_ne (ne_of_none e nrl)]; exact e) (ne_of_none e htn)
  have nl' : H l = none := by
    cases z : H l with
    | none => rfl
    | some o =>
      have := kp l o (by rw [upd_ne (ne_of_none z htn), upd_ne (ne_of_none z hdn), upd_ne (ne_of_none z nrl)]; exact z) (ne_of_none z htn)
      have e2 : upd (upd (upd H rl (.lst [])) dx (.own t)) t (.ins C dx []) l = some o := by rw [upd_ne (ne_of_none z htn), upd_ne (ne_of_none z hdn), upd_ne (ne_of_none z nrl)]; exact z
      rw [nl] at e2
      cases e2
  have ndd' : H dd = none := by
    cases z : H dd with
    | none => rfl
    | some o =>
      have e2 : upd (upd (upd H rl (.lst [])) dx (.own t)) t (.ins C dx []) dd = some o := by rw [upd_ne (ne_of_none z htn), upd_ne (ne_of_none z hdn), upd_ne (ne_of_none z nrl)]; exact z
      rw [ndd] at e2
      cases e2
  have tb : Tb P w C H1 t l dd [] [] := ⟨⟨dx, ht⟩, rfl, hl, .nil, ⟨.inl ⟨rfl, hd⟩, (fun _ hq => nomatch hq)⟩, (fun _ hr => nomatch hr), List.nodup_nil⟩
  have rd1 := rd.sm s1
  -- not is_list(thing)
  refine ⟨_, rfl, spP1_of rd1 trivial fun u H2 s2 r2 => ?_⟩
  cases r2.bl_inv
  have s2' := s1.trans s2
  refine ⟨_, rfl, ite2 (fun hL => ?_) (fun hL => ?_)⟩
  · have hL' : isL d = false := by simpa using hL
    refine ⟨_, rfl, (by show 2 ≤ sizeLine; decide), fun p1 np1 => ⟨(by show 2 ≤ sizeLine; decide), fun p2 np2 => ?_⟩⟩
    have s3 : Sm H2 (upd (upd H2 p1 (.tup [.int 0, .str "form"])) p2 (.tup [.ref t, .ref p1])) := (Sm.new np1).trans (Sm.new np2)
    refine q p2 t l dd [] [] (faultD 0 "form") (.ref p1) _ (s2'.trans s3) ((s2'.trans (Sm.new np1)).free np2) htn nl' ndd' ((tb.sm s2).sm s3) upd_same ?_ (.inr ⟨hL', rfl, rfl⟩)
    exact .tup (by rw [upd_ne (ne_of_none upd_same np2)]; exact upd_same) (.cons (.int 0) (.one (.str _)))
  have hL' : isL d = true := by simpa using hL
  obtain ⟨a, xs, rfl, hq0, rs⟩ := rd.seq hL'
  obtain ⟨hdl, hdw⟩ := wd_its wdd hL'
  have lxs : xs.length = (its d).length := rs.length
  obtain ⟨oa, hoa⟩ : ∃ o, H a = some o := by
    rcases hq0 with z | z
    · exact ⟨_, z⟩
    · exact ⟨_, z⟩
  have hq : Sq H2 a xs := by
    rcases hq0 with z | z
    · exact .inl (s2' _ _ z)
    · exact .inr (s2' _ _ z)
  refine ⟨_, rfl, a, xs, rfl, hq, fun J hJ => ?_⟩
  refine for_enS hJ (fun i σ3 H3 => ∃ x2 x3 x4 x5 R as, σ3 = [some (.ref a), some (.ref t), x2, x3, x4, x5] ∧ Sm H H3 ∧ Tb P w C H3 t l dd R as ∧ R.length ≤ i ∧ (∀ R' f, Scan R i ((its d).drop i) R' f → Scan [] 0 (its d) R' f)) ?_ ?_ ?_ ?_
  · exact ⟨none, none, none, none, [], [], rfl, s2', tb.sm s2, Nat.le_refl _, fun R' f z => z⟩
  · rintro i σ3 H3 ⟨_, _, _, _, _, _, _, s, _⟩
    rw [s _ _ hoa, s2' _ _ hoa]
  · rintro i x σ3 H3 T0 hx ⟨x2, x3, x4, x5, R, as, rfl, s3, tb3, hRi, sc3⟩ nT
    obtain ⟨e, he, re⟩ := (rs.sm s3).get hx
    have hi : i < (its d).length := (List.getElem?_eq_some_iff.mp he).1
    have wde : wd e = true := wdA_mem hdw (List.mem_of_getElem? he)
    have ed : (its d).drop i = e :: (its d).drop (i + 1) := by
      rw [List.drop_eq_getElem_cons hi]
      rw [List.getElem?_eq_getElem hi] at he
      rw [Option.some.inj he]
    rw [ed] at sc3
    have sT : Sm H3 (upd H3 T0 (.tup [.int (i : Nat), x])) := Sm.new nT
    have s4 := s3.trans sT
    refine ⟨T0, _, rfl, SqT.of upd_same, rfl, _, _, rfl, _, _, rfl, rfl, ?_⟩
    -- row = row_form(one)
    refine ⟨_, rfl, spP1_of (re.sm sT) (by simpa [wdA] using wde) fun u H5 s5 r5 => ?_⟩
    have s5' := s4.trans s5
    have tb5 := (tb3.sm sT).sm s5
    have r5' : Dr All H5 u (rowForm e) := r5
    obtain ⟨dx5, ob5⟩ := tb5.ob
    -- why = ..
    refine ⟨fun σ6 H6 => ∃ (y : V), σ6 = [some (.ref a), some (.ref t), some (.int (i : Nat)), some x, some u, some y] ∧ Sm H H6 ∧ Tb P w C H6 t l dd R as ∧ Dr All H6 u (rowForm e) ∧
      ((rowForm e = .none ∧ y = .str "form") ∨ ∃ r : Row, rowForm e = r.d ∧ r.ok ∧ Dr All H6 y (whyD (why R r))), ?_, ?_⟩
    · rcases rowForm_row wde with ef | ⟨r, ef, rok⟩
      · rw [ef] at r5'
        cases r5'.non_inv
        exact ⟨_, rfl, rfl, _, rfl, iteT ⟨_, rfl, s5', tb5, by rw [ef]; exact .non, .inl ⟨ef, rfl⟩⟩⟩
      · rw [ef] at r5'
        have hun : decide (u = V.non) = false := by
          refine decide_eq_false fun z => ?_
          rw [z] at r5'
          cases r <;> cases r5'
        refine ⟨_, rfl, rfl, ?_⟩
        rw [hun]
        refine ⟨_, rfl, iteF ?_⟩
        refine ⟨_, rfl, t, C, dx5, _, _, rfl, ob5, T.cl, T.nR, flds_rows l dd, _, rfl, .ref l, u, R, r, rfl, tb5.rows, r5', rok, fun y H6 s6 r6 => ?_⟩
        exact ⟨y, rfl, s5'.trans s6, tb5.sm s6, by rw [ef]; exact r5'.sm s6, .inr ⟨r, ef, rok, r6⟩⟩
    rintro σ6 H6 ⟨y, rfl, s6, tb6, ru6, hy⟩
    obtain ⟨dx6, ob6⟩ := tb6.ob
    -- if why is None and row in table.where: why = 'twice'
    refine ⟨fun σ7 H7 => ∃ (y : V) (z : PyData), σ7 = [some (.ref a), some (.ref t), some (.int (i : Nat)), some x, some u, some y] ∧ Sm H H7 ∧ Tb P w C H7 t l dd R as ∧ Dr All H7 u (rowForm e) ∧ Dr All H7 y z ∧
      ((z = .none ∧ ∃ r : Row, rowForm e = r.d ∧ r.ok ∧ why R r = none ∧ r ∉ R) ∨ ∃ m : Str, z = .str m ∧ Scan R i (e :: (its d).drop (i + 1)) R (faultD i m)), ?_, ?_⟩
    · rcases hy with ⟨ef, rfl⟩ | ⟨r, ef, rok, ry⟩
      · exact ⟨_, rfl, rfl, _, rfl, iteF (iteF ⟨_, .str "form", rfl, s6, tb6, ru6, .str _, .inr ⟨_, rfl, .form ef⟩⟩)⟩
      · cases ew : why R r with
        | some m =>
          rw [ew] at ry
          cases ry.str_inv
          exact ⟨_, rfl, rfl, _, rfl, iteF (iteF ⟨_, .str m, rfl, s6, tb6, ru6, .str _, .inr ⟨_, rfl, .why ef ew⟩⟩)⟩
        | none =>
          rw [ew] at ry
          cases ry.non_inv
          rw [ef] at ru6
          obtain ⟨ua, rfl⟩ : ∃ ua, u = .ref ua := by
            cases r <;> (cases ru6; exact ⟨_, rfl⟩)
          refine ⟨_, rfl, rfl, _, rfl, iteT ?_⟩
          refine ⟨_, rfl, _, rfl, t, C, dx6, _, _, rfl, ob6, T.cl, T.nW, flds_where l dd, ua, dd, r.d, _, rfl, rfl, ru6, Row.kd r, tb6.rd, ?_⟩
          rw [look_ents r R as 0 tb6.len]
          by_cases hmem : r ∈ R
          · obtain ⟨k, ek⟩ := placeOf_some (n := 0) hmem
            rw [ek]
            exact ⟨_, rfl, iteT ⟨_, .str "twice", rfl, s6, tb6, by rw [ef]; exact ru6, .str _, .inr ⟨_, rfl, .twice ef ew hmem⟩⟩⟩
          · rw [placeOf_none hmem]
            exact ⟨_, rfl, iteF ⟨_, .none, rfl, s6, tb6, by rw [ef]; exact ru6, .non, .inl ⟨rfl, r, ef, rok, ew, hmem⟩⟩⟩
    rintro σ7 H7 ⟨y7, z7, rfl, s7, tb7, ru7, ry7, hz⟩
    rcases hz with ⟨rfl, r, ef, rok, ew, hmem⟩ | ⟨m, rfl, sc⟩
    · -- table.put_in(row)
      cases ry7.non_inv
      rw [ef] at ru7
      obtain ⟨ua, rfl⟩ : ∃ ua, u = .ref ua := by
        cases r <;> (cases ru7; exact ⟨_, rfl⟩)
      obtain ⟨dx7, ob7⟩ := tb7.ob
      refine ⟨_, rfl, rfl, _, rfl, iteF ?_⟩
      refine ⟨_, rfl, t, dx7, _, rfl, ob7, flds_no l dd (by decide +kernel) (by decide +kernel), _, rfl, t, l, dd, ua, R, as, r, rfl, tb7, ru7, rok, by omega, (fun k ek => by rw [placeOf_none hmem] at ek; cases ek), fun _ H8 fr tb8 => ?_⟩
      refine ⟨_, _, _, _, R ++ [r], as ++ [ua], rfl, fun b o z => ?_, tb8, by simp; omega, fun R' f' z => sc3 R' f' (.next ef ew hmem z)⟩
      exact fr b o (ne_of_none z nl') (ne_of_none z ndd') (s7 b o z)
    · -- return (table, (at, why))
      cases ry7.str_inv
      refine ⟨_, rfl, rfl, _, rfl, iteT ?_⟩
      refine ⟨_, rfl, _, rfl, _, rfl, (by show 2 ≤ sizeLine; decide), fun p1 np1 => ⟨(by show 2 ≤ sizeLine; decide), fun p2 np2 => ?_⟩⟩
      have s9 : Sm H7 (upd (upd H7 p1 (.tup [.int (i : Nat), .str m])) p2 (.tup [.ref t, .ref p1])) := (Sm.new np1).trans (Sm.new np2)
      refine q p2 t l dd R as (faultD i m) (.ref p1) _ (s7.trans s9) ((s7.trans (Sm.new np1)).free np2) htn nl' ndd' (tb7.sm s9) upd_same ?_ (.inl ⟨hL', sc3 R _ sc⟩)
      exact .tup (by rw [upd_ne (ne_of_none upd_same np2)]; exact upd_same) (.cons (.int _) (.one (.str _)))
  · rintro σ3 H3 ⟨x2, x3, x4, x5, R, as, rfl, s3, tb3, hRi, sc3⟩
    refine ⟨_, rfl, (by show 2 ≤ sizeLine; decide), fun p2 np2 => ?_⟩
    refine q p2 t l dd R as .none .non _ (s3.trans (Sm.new np2)) (s3.free np2) htn nl' ndd' (tb3.sm (Sm.new np2)) upd_same .non (.inl ⟨hL', sc3 R .none ?_⟩)
    rw [lxs, List.drop_length]
    exact .done
end
end K8

namespace K8
open PySem PySem.Spec PyProof.Rows L2 WR
/-- what is known of PageError -/
structure PgE (K : PySem.W.Frag) (mg : Str → Option Value) (B : Addr) : Prop where
  gB : mg "PageError" = some (.ref B)
  hs : PySem.W.specialIn K (.ref B) "__getattribute__" = some (some (.builtin "type.__getattribute__"))
  ty : PySem.W.typeIn K (.ref B) = some (.type "type")
  rd : PySem.W.readsIn K B (.type "type") = true
  vV : PySem.W.findCls K (.ref B) (.type "type") "__init__" = some (.val (.builtin "ValueError.__init__"))
/-- what is known of an error beneath it, which keeps f -/
structure ErC (K : PySem.W.Frag) (mg : Str → Option Value) (x f : Str) (C fI : Addr) : Prop where
  oex : OexC K C
  iC : PySem.W.findIn K (.ref C) "__init__" = some (some (.ref fI))
  tI : PySem.W.typeIn K (.ref fI) = some (.type "function")
  gC : mg x = some (.ref C)
  nf : PySem.W.findIn K (.ref C) f = some none
abbrev spEI (C : Addr) (f : Str) : Sp := fun vs H Q _ => ∃ (a : Addr) (v : V), vs = [.ref a, v] ∧ H a = some (exo a C none) ∧ ∀ dx, H dx = none → dx ≠ a → Q .non (upd (upd H dx (exd dx [(f, v)])) a (exo a C (some dx)))
section
variable {P : Program} {w : World} {K : PySem.W.Frag} {mg : Str → Option Value} {base : Heap} {C B fI fP CW fW CR fR : Addr} {fdI fdP fdW fdR : FuncData}
theorem sc_BadWeb_I : FnScope ["self", "index"] ["self", "index"] (defScope sBadWeb_I) := ⟨rfl, rfl, rfl, by decide +kernel, rfl, by decide +kernel, by decide +kernel⟩
theorem ok_BadWeb_I (G : PgE K mg B) (T : ErC K mg "BadWeb" "index" C fI) {f : Addr} {fd : FuncData} (F : FunD K dBadWeb_I.name dBadWeb_I.qual dBadWeb_I.params dBadWeb_I.body dBadWeb_I.scope [] [] f fd) :
    FnOk P w K mg base CX0 1 f fd ["self", "index"] (spEI C "index") := by
  refine F.ok sc_BadWeb_I (fun vs H Q E h => by obtain ⟨p, dx, rfl, _⟩ := h; rfl) (fun cdv A outer s H vs Q E hr h => ?_)
  obtain ⟨a, v, rfl, ha, q⟩ := h
  refine ⟨_, PSs.nox (pss_cons (ps_expr (pe_ownInit (by rfl) G.gB G.hs G.ty G.rd G.vV (pa_cons (pv 0) (pa_cons pe_str pa_nil)))) (pss_one (ps_ost (pv 0) (pv 1)))), ?_⟩
  exact ⟨_, rfl, a, C, _, rfl, (by show 1 ≤ 1000; decide), T.oex, ha, _, rfl, _, rfl, a, C, rfl, T.oex, T.nf, .inl ⟨ha, fun dx n ne => q dx n ne⟩⟩
theorem sc_BadRow_I : FnScope ["self", "row"] ["self", "row"] (defScope sBadRow_I) := ⟨rfl, rfl, rfl, by decide +kernel, rfl, by decide +kernel, by decide +kernel⟩
theorem ok_BadRow_I (G : PgE K mg B) (T : ErC K mg "BadRow" "row" C fI) {f : Addr} {fd : FuncData} (F : FunD K dBadRow_I.name dBadRow_I.qual dBadRow_I.params dBadRow_I.body dBadRow_I.scope [] [] f fd) :
    FnOk P w K mg base CX0 1 f fd ["self", "row"] (spEI C "row") := by
  refine F.ok sc_BadRow_I (fun vs H Q E h => by obtain ⟨p, dx, rfl, _⟩ := h; rfl) (fun cdv A outer s H vs Q E hr h => ?_)
  obtain ⟨a, v, rfl, ha, q⟩ := h
  refine ⟨_, PSs.nox (pss_cons (ps_expr (pe_ownInit (by rfl) G.gB G.hs G.ty G.rd G.vV (pa_cons (pv 0) (pa_cons pe_str pa_nil)))) (pss_one (ps_ost (pv 0) (pv 1)))), ?_⟩
  exact ⟨_, rfl, a, C, _, rfl, (by show 1 ≤ 1000; decide), T.oex, ha, _, rfl, _, rfl, a, C, rfl, T.oex, T.nf, .inl ⟨ha, fun dx n ne => q dx n ne⟩⟩
theorem Scan.res {R R' : List Row} {n : Nat} {ds : List PyData} {f : PyData} (h : Scan R n ds R' f) : f = .none ∨ ∃ m x, f = faultD m x := by
  induction h with
  | done => exact .inl rfl
  | form _ => exact .inr ⟨_, _, rfl⟩
  | why _ _ => exact .inr ⟨_, _, rfl⟩
  | twice _ _ _ => exact .inr ⟨_, _, rfl⟩
  | next _ _ _ _ ih => exact ih
theorem Scan.len {R R' : List Row} {n : Nat} {ds : List PyData} {f : PyData} (h : Scan R n ds R' f) : R'.length ≤ R.length + ds.length := by
  induction h with
  | next _ _ _ _ ih => simp at ih ⊢; omega
  | _ => simp
theorem ScanOf.res {d : PyData} {R : List Row} {f : PyData} (h : ScanOf d R f) : f = .none ∨ ∃ m x, f = faultD m x := by
  rcases h with ⟨_, h⟩ | ⟨_, _, rfl⟩
  · exact h.res
  · exact .inr ⟨_, _, rfl⟩
theorem ScanOf.len {d : PyData} {R : List Row} {f : PyData} (h : ScanOf d R f) (wdd : wd d = true) : R.length ≤ lim := by
  rcases h with ⟨hL, h⟩ | ⟨_, rfl, rfl⟩
  · have := h.len
    have := (wd_its wdd hL).1
    simp at *
    omega
  · exact Nat.zero_le _
/-- C(v) is raised: what stands behind -/
theorem raise_own {C : Addr} {f : Str} {v : V} {H : Hp} {E : XK} (q : ∀ dx H', Sm H H' → H dx = none → H' dx = some (.xd [(f, v)]) → E (.ref C) (some dx) H') :
    ∀ a, H a = none → spEI C f (.ref a :: ([v] ++ [])) (upd H a (exo a C none))
      (fun v H2 => v = .non ∧ ∃ (d : Addr) (fs : List (Str × V)), H2 a = some (exo a C (some d)) ∧ H2 d = some (exd d fs) ∧ H d = none ∧ E (.ref C) (some d) (upd (del H2 a) d (.xd fs))) (fun _ _ _ => False) := fun a na => by
  refine ⟨a, v, rfl, upd_same, fun dx nd ne => ⟨rfl, dx, [(f, v)], upd_same, ?_, ?_, ?_⟩⟩
  · rw [upd_ne ne]
    exact upd_same
  · rw [upd_ne ne] at nd
    exact nd
  · rw [upd_ne ne] at nd
    refine q dx _ (fun b o e => ?_) nd upd_same
    have hb : b ≠ dx := ne_of_none e nd
    have ha : b ≠ a := ne_of_none e na
    rw [upd_ne hb, del_ne ha, upd_ne ha, upd_ne hb, upd_ne ha]
    exact e
theorem faultD_ne {H : Hp} {v : V} {n : Nat} {x : Str} (r : Dr All H v (faultD n x)) : decide (v = V.non) = false := by
  cases r
  rfl
abbrev spJudge (P : Program) (w : World) (C CW : Addr) : Sp := fun vs H Q E => ∃ (v : V) (d : PyData), vs = [v] ∧ Dr All H v d ∧ wd d = true ∧
  (∀ (t l dd : Addr) (R : List Row) (as : List Addr) (H' : Hp), ScanOf d R .none → Sm H H' → H t = none → H l = none → H dd = none → Tb P w C H' t l dd R as → Q (.ref t) H') ∧
  (∀ (R : List Row) (n : Nat) (x : Str) (dx : Addr) (H' : Hp), ScanOf d R (faultD n x) → Sm H H' → H dx = none → H' dx = some (.xd [("index", .int (n : Nat))]) → E (.ref CW) (some dx) H')
theorem sc_judged_web : FnScope ["web", "table", "fault"] ["web"] (defScope sjudged_web) := ⟨rfl, rfl, rfl, by decide +kernel, rfl, by decide +kernel, by decide +kernel⟩
theorem ok_judged_web (TW : ErC K mg "BadWeb" "index" CW fW) (GW : FnOk P w K mg base CX0 1 fW fdW ["self", "index"] (spEI CW "index")) (bW : Binds K fdW ["self", "index"] [])
    (F : Fn K mg djudged_web) (D1 : Df P w K mg base CX0 5 "scanned_web" ["thing"] (spScan P w C)) :
    Df P w K mg base (L2.CX P w) 6 "judged_web" ["web"] (spJudge P w C CW) := by
  obtain ⟨f, fd, hm, F⟩ := F
  refine ⟨f, fd, hm, F.kp, F.bindsN fun _ _ _ _ _ _ us hl => match us, hl with | [_], _ => rfl, ?_⟩
  refine F.ok sc_judged_web (fun vs H Q E h => by obtain ⟨v, d, rfl, _⟩ := h; rfl) (fun cdv A outer s H vs Q E hr h => ?_)
  obtain ⟨v, d, rfl, rd, wdd, q1, q2⟩ := h
  have hr2 := hr.mono (show 2 ≤ 5 by decide)
  refine ⟨_, (pss_cons (ps_asg (pe_df D1 hr pass0 (pa_cons (pv 0) pa_nil)) (pg_tup rfl (pgs_cons (pg_name (i := 1) sc_judged_web.nd rfl (by first | exact Or.inl rfl | exact Or.inr rfl)) (pgs_cons (pg_name (i := 2) sc_judged_web.nd rfl (by first | exact Or.inl rfl | exact Or.inr rfl)) pgs_nil))))
      (pss_cons (ps_if (pt_cmpR op_notN (pv 2) pe_non (nomark _)) (pss_one (ps_raise rfl (takes_of rfl rfl rfl rfl) (pmk_oex TW.oex TW.iC TW.tI GW hr2 bW .nil pass0 (by rfl) TW.gC (pa_cons (pe_ix ix_D (pv 2) pe_int (fun _ _ => rfl)) pa_nil)))) pss_nil)
      (pss_one (ps_ret (pv 1))))), ?_⟩
  refine ⟨_, rfl, v, d, rfl, rd, wdd, fun p t l dd R as f fv H1 s1 np nt nl nd tb hp rf sc => ?_⟩
  refine ⟨p, _, rfl, SqT.of hp, rfl, _, _, rfl, _, _, rfl, rfl, ?_⟩
  rcases sc.res with rfl | ⟨m, x, rfl⟩
  · cases rf.non_inv
    exact ⟨_, rfl, rfl, _, rfl, iteF ⟨_, rfl, q1 t l dd R as H1 sc s1 nt nl nd tb⟩⟩
  · refine ⟨_, rfl, rfl, _, rfl, ?_⟩
    rw [faultD_ne rf]
    refine iteT ?_
    refine ⟨_, rfl, _, 0, _, rf, rfl, rfl, rfl, fun y ry => ?_⟩
    cases ry.int_inv
    refine ⟨(by show 1 ≤ 1000; decide), raise_own fun dx H' s2 nd2 hx => q2 R m x dx H' sc (s1.trans s2) (s1.free nd2) hx⟩
/-- such a def, the very object told -/
structure DfF (P : Program) (w : World) (K : PySem.W.Frag) (mg : Str → Option Value) (base : Heap) (CX : CXT) (k : Nat) (x : Str) (ps : List Str) (sp : Sp) (d : He.DefD) : Prop where
  ex : ∃ f fd, mg x = some (.ref f) ∧ FunD K d.name d.qual d.params d.body d.scope [] [] f fd ∧ Binds K fd ps [] ∧ FnOk P w K mg base CX k f fd ps sp
theorem DfF.df {P : Program} {w : World} {K : PySem.W.Frag} {mg : Str → Option Value} {base : Heap} {CX : CXT} {k : Nat} {x : Str} {ps : List Str} {sp : Sp} {d : He.DefD} (D : DfF P w K mg base CX k x ps sp d) : Df P w K mg base CX k x ps sp := by
  obtain ⟨f, fd, hm, F, b, G⟩ := D.ex
  exact ⟨f, fd, hm, F.kp, b, G⟩
abbrev spFault : Sp := fun vs H Q _ => ∃ (v : V) (d : PyData), vs = [v] ∧ Dr All H v d ∧ wd d = true ∧ ∀ (R : List Row) (f : PyData) (fv : V) (H' : Hp), ScanOf d R f → Sm H H' → Dr All H' fv f → Q fv H'
theorem sc_web_fault : FnScope ["thing"] ["thing"] (defScope sweb_fault) := ⟨rfl, rfl, rfl, by decide +kernel, rfl, by decide +kernel, by decide +kernel⟩
theorem okF_web_fault (F : Fn K mg dweb_fault) (D1 : Df P w K mg base CX0 5 "scanned_web" ["thing"] (spScan P w C)) : DfF P w K mg base CX0 6 "web_fault" ["thing"] spFault dweb_fault := by
  obtain ⟨f, fd, hm, F⟩ := F
  refine ⟨f, fd, hm, F, F.bindsN fun _ _ _ _ _ _ us hl => match us, hl with | [_], _ => rfl, ?_⟩
  refine F.ok sc_web_fault (fun vs H Q E h => by obtain ⟨v, d, rfl, _⟩ := h; rfl) (fun cdv A outer s H vs Q E hr h => ?_)
  obtain ⟨v, d, rfl, rd, wdd, q⟩ := h
  refine ⟨_, PSs.nox (pss_one (ps_ret (pe_ix ix_tup (pe_df D1 hr pass0 (pa_cons (pv 0) pa_nil)) pe_int (fun _ _ => rfl)))), ?_⟩
  refine ⟨_, rfl, v, d, rfl, rd, wdd, fun p t l dd R as f fv H1 s1 np nt nl nd tb hp rf sc => ?_⟩
  exact ⟨p, _, 1, fv, rfl, rfl, SqT.of hp, rfl, q R f fv H1 sc s1 rf⟩
def noneB : PyData → Bool
  | .none => true
  | _ => false
abbrev spIsWeb : Sp := fun vs H Q _ => ∃ (v : V) (d : PyData), vs = [v] ∧ Dr All H v d ∧ wd d = true ∧ ∀ (R : List Row) (f : PyData) (H' : Hp), ScanOf d R f → Sm H H' → Q (.bl (noneB f)) H'
theorem sc_is_web : FnScope ["thing"] ["thing"] (defScope sis_web) := ⟨rfl, rfl, rfl, by decide +kernel, rfl, by decide +kernel, by decide +kernel⟩
theorem okF_is_web (F : Fn K mg dis_web) (D1 : Df P w K mg base CX0 6 "web_fault" ["thing"] spFault) : DfF P w K mg base CX0 7 "is_web" ["thing"] spIsWeb dis_web := by
  obtain ⟨f, fd, hm, F⟩ := F
  refine ⟨f, fd, hm, F, F.bindsN fun _ _ _ _ _ _ us hl => match us, hl with | [_], _ => rfl, ?_⟩
  refine F.ok sc_is_web (fun vs H Q E h => by obtain ⟨v, d, rfl, _⟩ := h; rfl) (fun cdv A outer s H vs Q E hr h => ?_)
  obtain ⟨v, d, rfl, rd, wdd, q⟩ := h
  refine ⟨_, PSs.nox (pss_one (ps_ret (pe_cmpR op_isN (pe_df D1 hr pass0 (pa_cons (pv 0) pa_nil)) pe_non (nomark _)))), ?_⟩
  refine ⟨_, rfl, v, d, rfl, rd, wdd, fun R f fv H1 sc s1 rf => ⟨rfl, ?_⟩⟩
  have e : decide (fv = V.non) = noneB f := by
    rcases sc.res with rfl | ⟨m, x, rfl⟩
    · cases rf.non_inv
      rfl
    · exact (faultD_ne rf)
  rw [e]
  exact q R f H1 sc s1
/-! ### put_row -/
def newRows (R : List Row) (r : Row) : List Row := if r ∈ R then R else R ++ [r]
def NewAt (R : List Row) (r : Row) (k : Nat) : Prop := if r ∈ R then placeOf R r 0 = some k else k = R.length
def RowBad (R : List Row) (e : PyData) : Prop := rowForm e = .none ∨ ∃ r x, rowForm e = r.d ∧ why R r = some x
abbrev spPutRow (CW CR : Addr) : Sp := fun vs H Q E => ∃ (v u : V) (d e : PyData), vs = [v, u] ∧ Dr All H v d ∧ wd d = true ∧ Dr All H u e ∧ wd e = true ∧
  (∀ (R : List Row) (r : Row) (k : Nat) (p : Addr) (H' : Hp), ScanOf d R .none → rowForm e = r.d → r.ok → why R r = none → NewAt R r k → Sm H H' → Dr (fun a => H a = none) H' (.ref p) (.tuple [rowsD (newRows R r), .int (k : Nat)]) → Q (.ref p) H') ∧
  (∀ (R : List Row) (n : Nat) (x : Str) (dx : Addr) (H' : Hp), ScanOf d R (faultD n x) → Sm H H' → H dx = none → H' dx = some (.xd [("index", .int (n : Nat))]) → E (.ref CW) (some dx) H') ∧
  (∀ (R : List Row) (dx : Addr) (H' : Hp), ScanOf d R .none → RowBad R e → Sm H H' → H dx = none → H' dx = some (.xd [("row", u)]) → E (.ref CR) (some dx) H')
theorem sc_put_row : FnScope ["web", "row", "table", "form", "at"] ["web", "row"] (defScope sput_row) := ⟨rfl, rfl, rfl, by decide +kernel, rfl, by decide +kernel, by decide +kernel⟩
theorem okF_put_row (T : RT P w K mg base C) (TR : ErC K mg "BadRow" "row" CR fR) (GR : FnOk P w K mg base CX0 1 fR fdR ["self", "row"] (spEI CR "row")) (bR : Binds K fdR ["self", "row"] [])
    (mP : Meth K C "put_in" fP) (GP : FnOk P w K mg base CX0 1 fP fdP ["self", "row"] (spPut P w C)) (bP : Binds K fdP ["self", "row"] [])
    (F : Fn K mg dput_row) (D1 : Df P w K mg base (L2.CX P w) 6 "judged_web" ["web"] (spJudge P w C CW)) (D2 : Df P w K mg base CX0 4 "row_form" ["thing"] spRowForm) (D3 : Df P w K mg base CX0 4 "row_why" ["rows", "row"] spRowWhy) :
    DfF P w K mg base (L2.CX P w) 7 "put_row" ["web", "row"] (spPutRow CW CR) dput_row := by
  obtain ⟨f, fd, hm, F⟩ := F
  refine ⟨f, fd, hm, F, F.bindsN fun _ _ _ _ _ _ us hl => match us, hl with | [_, _], _ => rfl, ?_⟩
  refine F.ok sc_put_row (fun vs H Q E h => by obtain ⟨v, u, d, e, rfl, _⟩ := h; rfl) (fun cdv A outer s H vs Q E hr h => ?_)
  obtain ⟨v, u, d, e, rfl, rd, wdd, re, wde, q1, q2, q3⟩ := h
  have hr1 := hr.mono (show 1 ≤ 6 by decide)
  have hr2 := hr.mono (show 2 ≤ 6 by decide)
  have hr4 := hr.mono (show 4 ≤ 6 by decide)
  refine ⟨_, (pss_cons (ps_set (i := 2) sc_put_row.nd rfl (by first | exact Or.inl rfl | exact Or.inr rfl) (pe_df D1 hr (passes_call (takes_of rfl rfl rfl rfl) (fun _ _ _ _ z => z)) (pa_cons (pv 0) pa_nil)))
      (pss_cons (ps_set (i := 3) sc_put_row.nd rfl (by first | exact Or.inl rfl | exact Or.inr rfl) (pe_df D2 hr4 pass0 (pa_cons (pv 1) pa_nil)))
      (pss_cons (ps_if (PW.pt (pw_or (pt_cmpR op_isN (pv 3) pe_non (nomark _)) (pw_or1 (pt_cmpR op_notN (pe_df D3 hr4 pass0 (pa_cons (pe_fld (pv 2) rfl) (pa_cons (pv 3) pa_nil))) pe_non (nomark _))))) (pss_one (ps_raise rfl (takes_of rfl rfl rfl rfl) (pmk_oex TR.oex TR.iC TR.tI GR hr2 bR .nil pass0 (by rfl) TR.gC (pa_cons (pv 1) pa_nil)))) pss_nil)
      (pss_cons (ps_set (i := 4) sc_put_row.nd rfl (by first | exact Or.inl rfl | exact Or.inr rfl) (pe_meth (pv 2) T.cl mP GP hr1 bP .nil pass0 (pa_cons (pv 3) pa_nil)))
      (pss_one (ps_ret (pe_tup (pa_cons (pe_fld (pv 2) rfl) (pa_cons (pv 4) pa_nil))))))))), ?_⟩
  refine ⟨_, rfl, v, d, rfl, rd, wdd, fun t l dd R as H1 sc s1 nt nl nd tb => ?_, fun R n x dx H' sc s nd hx => q2 R n x dx H' sc s nd hx⟩
  have lR := sc.len wdd
  -- form = row_form(row)
  refine ⟨_, rfl, spP1_of (re.sm s1) (by simpa [wdA] using wde) fun y H2 s2 r2 => ?_⟩
  have r2' : Dr All H2 y (rowForm e) := r2
  have tb2 := tb.sm s2
  have s12 := s1.trans s2
  obtain ⟨dx2, ob2⟩ := tb2.ob
  rcases rowForm_row wde with ef | ⟨r, ef, rok⟩
  · rw [ef] at r2'
    cases r2'.non_inv
    refine ⟨_, rfl, rfl, _, rfl, iteT (iteT ?_)⟩
    refine ⟨_, rfl, (by show 1 ≤ 1000; decide), raise_own fun dx H' s3 nd3 hx => q3 R dx H' sc (.inl ef) (s12.trans s3) (s12.free nd3) hx⟩
  rw [ef] at r2'
  obtain ⟨ya, rfl⟩ : ∃ ua, y = .ref ua := by
    cases r <;> (cases r2'; exact ⟨_, rfl⟩)
  refine ⟨_, rfl, rfl, _, rfl, iteF ?_⟩
  refine ⟨_, rfl, t, C, dx2, _, _, rfl, ob2, T.cl, T.nR, flds_rows l dd, _, rfl, .ref l, .ref ya, R, r, rfl, tb2.rows, r2', rok, fun z H3 s3 r3 => ?_⟩
  have s13 := s12.trans s3
  have tb3 := tb2.sm s3
  obtain ⟨dx3, ob3⟩ := tb3.ob
  cases ew : why R r with
  | some x =>
    rw [ew] at r3
    cases r3.str_inv
    refine ⟨rfl, _, rfl, iteT ?_⟩
    refine ⟨_, rfl, (by show 1 ≤ 1000; decide), raise_own fun dx H' s4 nd4 hx => q3 R dx H' sc (.inr ⟨r, x, ef, ew⟩) (s13.trans s4) (s13.free nd4) hx⟩
  | none =>
    rw [ew] at r3
    cases r3.non_inv
    refine ⟨rfl, _, rfl, iteF ?_⟩
    have r3' := r2'.sm s3
    -- at = table.put_in(form)
    refine ⟨_, rfl, t, dx3, _, rfl, ob3, flds_no l dd (by decide +kernel) (by decide +kernel), _, rfl, t, l, dd, ya, R, as, r, rfl, tb3, r3', rok, lR, fun k ek => ?_, fun hm' H4 fr tb4 => ?_⟩
    · have hmem : r ∈ R := by
        by_cases z : r ∈ R
        · exact z
        · rw [placeOf_none z] at ek
          cases ek
      refine ⟨_, rfl, t, C, dx3, _, _, rfl, ob3, T.cl, T.nR, flds_rows l dd, _, rfl, (by show 2 ≤ sizeLine; decide), fun p np => ?_⟩
      refine q1 R r k p _ sc ef rok ew (by rw [NewAt, if_pos hmem]; exact ek) (s13.trans (Sm.new np)) (.tup upd_same (.cons ?_ (.one (.int _))))
      rw [newRows, if_pos hmem]
      exact .lst nl ((Sm.new np) _ _ tb3.ls) ((tb3.rs.sm (Sm.new np)).mono (fun _ z => z.elim) (Stays.of Sm.rfl'))
    · obtain ⟨dx4, ob4⟩ := tb4.ob
      have s4 : Sm H H4 := fun b o z => fr b o (ne_of_none z nl) (ne_of_none z nd) (s13 b o z)
      refine ⟨_, rfl, t, C, dx4, _, _, rfl, ob4, T.cl, T.nR, flds_rows l dd, _, rfl, (by show 2 ≤ sizeLine; decide), fun p np => ?_⟩
      refine q1 R r _ p _ sc ef rok ew (by rw [NewAt, if_neg hm']) (s4.trans (Sm.new np)) (.tup upd_same (.cons ?_ (.one (.int _))))
      rw [newRows, if_neg hm']
      exact .lst nl ((Sm.new np) _ _ tb4.ls) ((tb4.rs.sm (Sm.new np)).mono (fun _ z => z.elim) (Stays.of Sm.rfl'))
end
end K8

namespace K8
open PySem PySem.Spec PyProof.Rows L2 WR
/-! ### the law's well -/
def top0 : Nat := 1000000000000
structure Wl (H : Hp) (w : Addr) (n : Nat) : Prop where
  ex : ∃ a b c : Int, H w = some (.lst [.int a, .int b, .int c]) ∧ 0 ≤ b ∧ b < 5000000000 ∧ 0 ≤ c ∧ c ≤ n
theorem Wl.mono {H : Hp} {w : Addr} {n m : Nat} (h : Wl H w n) (l : n ≤ m) : Wl H w m := by
  obtain ⟨a, b, c, e, h1, h2, h3, h4⟩ := h
  exact ⟨a, b, c, e, h1, h2, h3, by omega⟩
/-- all but what stands at w stays -/
def Gw (w : Addr) (H H' : Hp) : Prop := ∀ b o, b ≠ w → H b = some o → H' b = some o
def Ne (w : Addr) : Addr → Prop := fun a => a ≠ w
theorem Gw.of {w : Addr} {H H' : Hp} (s : Sm H H') : Gw w H H' := fun b o _ e => s b o e
theorem Gw.trans {w : Addr} {H H1 H2 : Hp} (s : Gw w H H1) (t : Gw w H1 H2) : Gw w H H2 := fun b o h e => t b o h (s b o h e)
theorem Gw.stays {w : Addr} {n : Nat} {H H' : Hp} (hw : Wl H w n) (g : Gw w H H') : Stays (Ne w) H H' := by
  obtain ⟨a, b, c, e, _⟩ := hw
  refine ⟨fun a o h z => g a o h z, fun a xs z => g a _ (fun y => ?_) z⟩
  rw [y, e] at z
  cases z
theorem Gw.free {w p : Addr} {n : Nat} {H H' : Hp} (hw : Wl H' w n) (g : Gw w H H') (h : H' p = none) : H p = none := by
  obtain ⟨a, b, c, e, _⟩ := hw
  have hp : p ≠ w := fun z => by
    rw [z, e] at h
    cases h
  cases z : H p with
  | none => rfl
  | some o =>
    rw [g p o hp z] at h
    cases h
theorem Wl.sm {w : Addr} {n : Nat} {H H' : Hp} (hw : Wl H w n) (s : Sm H H') : Wl H' w n := by
  obtain ⟨a, b, c, e, r⟩ := hw
  exact ⟨a, b, c, s _ _ e, r⟩
theorem Wl.ne {w p : Addr} {n : Nat} {H : Hp} (hw : Wl H w n) (h : H p = none) : p ≠ w := fun z => by
  obtain ⟨a, b, c, e, r⟩ := hw
  rw [z, e] at h
  cases h
theorem Dr.gw {w : Addr} {n : Nat} {H H' : Hp} {v : V} {d : PyData} (r : Dr (Ne w) H v d) (hw : Wl H w n) (g : Gw w H H') : Dr (Ne w) H' v d := r.mono (fun _ z => z) (g.stays hw)
theorem DrA.gw {w : Addr} {n : Nat} {H H' : Hp} {v : List V} {d : List PyData} (r : DrA (Ne w) H v d) (hw : Wl H w n) (g : Gw w H H') : DrA (Ne w) H' v d := r.mono (fun _ z => z) (g.stays hw)
def intsD (xs : List Int) : List PyData := xs.map PyData.int
theorem ints_dr {N : Addr → Prop} {H : Hp} : ∀ xs : List Int, DrA N H (xs.map V.int) (intsD xs)
  | [] => .nil
  | x :: xs => .cons (.int x) (ints_dr xs)
theorem sqlSm {K : PySem.W.Frag} {a : Addr} {xs : List V} {H H' : Hp} (s : Sm H H') (h : SqL K H a xs) : SqL K H' a xs := h.elim (fun r => .inl (r.elim (fun e => .inl (s _ _ e)) fun ⟨o, e⟩ => .inr ⟨o, s _ _ e⟩)) .inr
/-- for i, x in enumerate(a list that may be frozen): by a state P, turn by turn -/
theorem for_enL {K : PySem.W.Frag} {g : TG} {tb : TS} {D : Ends} {a : Addr} {xs : List V} {σ : L2.St} {H : Hp} (P : Nat → L2.St → Hp → Prop) (h0 : P 0 σ H) (hl : ∀ i σ2 H2, P i σ2 H2 → SqL K H2 a xs)
    (hs : ∀ i x σ H T, xs[i]? = some x → P i σ H → H T = none → g (.ref T) σ (upd H T (.tup [.int (i : Nat), x])) fun σ2 H2 => tb { D with nx := P (i + 1), ct := P (i + 1), bk := D.nx } σ2 H2) (hd : ∀ σ H, P xs.length σ H → D.nx σ H) :
    ∃ W : Nat → Nat → L2.St → Hp → Prop, (∃ m, W 0 m σ H) ∧ ∀ i m σ H, W i m σ H →
      ((Ite K a).stop i H ∧ D.nx σ H) ∨ ((Ite K a).go i H ∧ ∃ N : L2.St → Hp → Prop, (∀ σ' H', N σ' H' → ∃ m', m' < m ∧ W (i + 1) m' σ' H') ∧ ∀ x H', (Ite K a).yld i H x H' → g x σ H' fun σ2 H2 => tb { D with nx := N, ct := N, bk := D.nx } σ2 H2) := by
  refine ⟨fun i m σ H => m + i = xs.length ∧ P i σ H, ⟨xs.length, by omega, h0⟩, ?_⟩
  rintro i m σ2 H2 ⟨e, p⟩
  have ea := hl i σ2 H2 p
  by_cases hi : i < xs.length
  · have hx : xs[i]? = some xs[i] := List.getElem?_eq_getElem hi
    refine .inr ⟨⟨xs, _, ea, hx⟩, P (i + 1), fun σ' H' p' => ⟨m - 1, by omega, by omega, p'⟩, fun v H' y => ?_⟩
    obtain ⟨T, x, rfl, nT, rfl, hx'⟩ := y
    exact hs i x σ2 H2 T (hx' xs ea) p nT
  · have e2 : i = xs.length := by omega
    subst e2
    exact .inl ⟨⟨xs, ea, Nat.le_refl _⟩, hd σ2 H2 p⟩
abbrev spWell (K : PySem.W.Frag) : Sp := fun vs H Q _ => ∃ (s : Addr) (xs : List Int) (p : Nat), vs = [.ref s, .int (p : Nat)] ∧ SqL K H s (xs.map V.int) ∧ xs.length ≤ 100 ∧ p ≤ 100 ∧ ∀ (w : Addr) (H' : Hp), Sm H H' → H w = none → Wl H' w 0 → Q (.ref w) H'
abbrev spDraw : Sp := fun vs H Q _ => ∃ (w : Addr) (m n : Nat), vs = [.ref w, .int (m : Nat)] ∧ 1 ≤ m ∧ m ≤ 1000000 ∧ Wl H w n ∧ n < top0 ∧ ∀ (k : Nat) (H' : Hp), k < m → Gw w H H' → Wl H' w (n + 1) → Q (.int (k : Nat)) H'
section
variable {P : Program} {w : World} {K : PySem.W.Frag} {mg : Str → Option Value} {base : Heap}
theorem sc__law_draw : FnScope ["well", "many", "digit", "spread"] ["well", "many"] (defScope s_law_draw) := ⟨rfl, rfl, rfl, by decide +kernel, rfl, by decide +kernel, by decide +kernel⟩
theorem ok__law_draw (B : Bt mg) (F : Fn K mg d_law_draw) : Df P w K mg base CX0 1 "_law_draw" ["well", "many"] spDraw := by
  obtain ⟨f, fd, hm, F⟩ := F
  refine ⟨f, fd, hm, F.kp, F.bindsN fun _ _ _ _ _ _ us hl => match us, hl with | [_, _], _ => rfl, ?_⟩
  refine F.ok sc__law_draw (fun vs H Q E h => by obtain ⟨w, m, n, rfl, _⟩ := h; rfl) (fun cdv A outer s H vs Q E hr h => ?_)
  obtain ⟨wa, m, n, rfl, hm1, hm2, hw, hn, q⟩ := h
  refine ⟨_, PSs.nox (pss_cons (ps_if (pt_cmpR op_gt (pe_ix ix_list (pv 0) pe_int (fun _ _ => rfl)) pe_int (nomark _)) (pss_cons (ps_set (i := 2) sc__law_draw.nd rfl (by first | exact Or.inl rfl | exact Or.inr rfl) (pe_op op_modN (pe_callTy call_int1 (by rfl) B.int (by decide +kernel) (pa_cons (pe_ix ix_list (pv 0) pe_int (fun _ _ => rfl)) pa_nil)) (pv 1)))
      (pss_cons (ps_asg (pe_op op_fdivN (pe_ix ix_list (pv 0) pe_int (fun _ _ => rfl)) (pv 1)) (pg_sub (pv 0) pe_int set_list))
      (pss_one (ps_ret (pv 2))))) pss_nil)
      (pss_cons (ps_asg (pe_op op_add (pe_ix ix_list (pv 0) pe_int (fun _ _ => rfl)) pe_int) (pg_sub (pv 0) pe_int set_list))
      (pss_cons (ps_set (i := 3) sc__law_draw.nd rfl (by first | exact Or.inl rfl | exact Or.inr rfl) (pe_op op_modN (pe_op op_pow (pe_callTy call_int1 (by rfl) B.int (by decide +kernel) (pa_cons (pe_op op_add (pe_op op_add (pe_ix ix_list (pv 0) pe_int (fun _ _ => rfl)) (pe_op op_mul pe_int (pe_ix ix_list (pv 0) pe_int (fun _ _ => rfl)))) pe_int) pa_nil)) pe_int) pe_int))
      (pss_one (ps_ret (pe_op op_modN (pe_op op_fdivN (pe_op op_modN (pe_callTy call_int1 (by rfl) B.int (by decide +kernel) (pa_cons (pe_op op_mul (pe_op op_add (pv 3) (pe_op op_mul pe_int (pe_ix ix_list (pv 0) pe_int (fun _ _ => rfl)))) pe_int) pa_nil)) pe_int) pe_int) (pv 1))))))), ?_⟩
  obtain ⟨a, b, c, ew, hb1, hb2, hc1, hc2⟩ := hw
  have gw : ∀ o, Gw wa H (upd H wa o) := fun o x z hx e => by
    rw [upd_ne hx]
    exact e
  have lk : ∀ {x y z : V} {H' : Hp}, H' wa = some (.lst [x, y, z]) → SqL K H' wa [x, y, z] := fun e => SqL.of e
  have hmi : (m : Int) ≠ 0 := by omega
  have md : ∀ i : Int, ∃ k : Nat, k < m ∧ i.fmod (m : Int) = (k : Int) := fun i => by
    have h1 := Int.fmod_nonneg_of_pos i (show (0 : Int) < m by omega)
    have h2 := Int.fmod_lt_of_pos i (show (0 : Int) < m by omega)
    exact ⟨(i.fmod m).toNat, by omega, by omega⟩
  have hms : (m : Int).natAbs < 1073741824 := by omega
  refine ⟨_, rfl, wa, _, 0, _, rfl, rfl, lk ew, rfl, _, _, rfl, rfl, _, rfl, ite2 (fun _ => ?_) (fun _ => ?_)⟩
  · obtain ⟨k, hk, ek⟩ := md a
    refine ⟨_, rfl, wa, _, 0, _, rfl, rfl, lk ew, rfl, .inl ⟨a, rfl, _, rfl, _, _, rfl, rfl, hmi, ?_⟩⟩
    refine ⟨_, rfl, wa, _, 0, _, rfl, rfl, lk ew, rfl, _, rfl, _, _, rfl, rfl, ⟨hmi, hms⟩, _, rfl, wa, _, 0, 0, rfl, rfl, ew, rfl, _, rfl, ?_⟩
    show Q (.int (a.fmod (m : Int))) _
    rw [ek]
    exact q k _ hk (gw _) ⟨_, _, _, upd_same, hb1, hb2, hc1, by omega⟩
  · refine ⟨_, rfl, wa, _, 2, _, rfl, rfl, lk ew, rfl, _, _, rfl, rfl, _, rfl, wa, _, 2, 2, rfl, rfl, ew, rfl, ?_⟩
    have e2 : upd H wa (.lst [.int a, .int b, .int (c + 1)]) wa = some (.lst [.int a, .int b, .int (c + 1)]) := upd_same
    have htop : top0 = 1000000000000 := rfl
    refine ⟨_, rfl, wa, _, 1, _, rfl, rfl, lk e2, rfl, _, rfl, wa, _, 2, _, rfl, rfl, lk e2, rfl, _, _, rfl, rfl, .inl (by constructor <;> decide), _, _, rfl, rfl, _, _, rfl, rfl, .inl ⟨_, rfl, _, _, rfl, rfl, ⟨by decide, by decide, by omega⟩, _, _, rfl, rfl, (by show (2147483647 : Int) ≠ 0; decide), ?_⟩⟩
    refine ⟨_, rfl, _, rfl, wa, _, 2, _, rfl, rfl, lk e2, rfl, _, _, rfl, rfl, .inl (by constructor <;> decide), _, _, rfl, rfl, _, _, rfl, rfl, .inr (by constructor <;> decide), .inl ⟨_, rfl, _, _, rfl, rfl, (by show (2147483629 : Int) ≠ 0; decide), _, _, rfl, rfl, ⟨by decide, by decide⟩, ?_⟩⟩
    have fin : ∀ z : Int, Q (.int (z.fmod (m : Int))) (upd H wa (.lst [.int a, .int b, .int (c + 1)])) := fun z => by
      obtain ⟨k, hk, ek⟩ := md z
      rw [ek]
      exact q k _ hk (gw _) ⟨_, _, _, upd_same, hb1, hb2, by omega, by omega⟩
    exact ⟨_, rfl, _, _, rfl, rfl, hmi, fin _⟩
theorem sc__law_well : FnScope ["script", "place", "cell", "mixed", "at", "one"] ["script", "place"] (defScope s_law_well) := ⟨rfl, rfl, rfl, by decide +kernel, rfl, by decide +kernel, by decide +kernel⟩
theorem ok__law_well (B : Bt mg) (F : Fn K mg d_law_well) : Df P w K mg base CX0 1 "_law_well" ["script", "place"] (spWell K) := by
  obtain ⟨f, fd, hm, F⟩ := F
  refine ⟨f, fd, hm, F.kp, F.bindsN fun _ _ _ _ _ _ us hl => match us, hl with | [_, _], _ => rfl, ?_⟩
  refine F.ok sc__law_well (fun vs H Q E h => by obtain ⟨w, m, n, rfl, _⟩ := h; rfl) (fun cdv A outer s H vs Q E hr h => ?_)
  obtain ⟨sa, xs, p, rfl, hs, hx, hp, q⟩ := h
  refine ⟨_, PSs.nox (C8.pss_cut (ps_set (i := 2) sc__law_well.nd rfl (by first | exact Or.inl rfl | exact Or.inr rfl) (pe_ifExp (pt_cmpR op_lt (pv 1) (pe_callB call_len (by rfl) B.len (by decide +kernel) (pa_cons (pv 0) pa_nil)) (nomark _)) (pe_ix ix_list (pv 0) (pv 1) (fun _ _ => rfl)) (pe_op op_add (pe_op op_add (pe_op op_modN (pe_callTy call_int1 (by rfl) B.int (by decide +kernel) (pa_cons (pe_callB (cr_sum rfl) (by rfl) B.sum (by decide +kernel) (pa_cons (pe_slice sl_list (pv 0) po_none (po_some pe_int)) pa_nil)) pa_nil)) pe_int) (pe_op op_mul pe_int (pv 1))) pe_int)))
      (pss_cons (ps_set (i := 3) sc__law_well.nd rfl (by first | exact Or.inl rfl | exact Or.inr rfl) pe_int)
      (pss_cons (ps_for PassesOwn.never rfl (pi_enum (by rfl) B.enumerate (pa_cons (pv 0) pa_nil)) (pg_tup rfl (pgs_cons (pg_name (i := 4) sc__law_well.nd rfl (by first | exact Or.inl rfl | exact Or.inr rfl)) (pgs_cons (pg_name (i := 5) sc__law_well.nd rfl (by first | exact Or.inl rfl | exact Or.inr rfl)) pgs_nil))) (pss_one (ps_set (i := 3) sc__law_well.nd rfl (by first | exact Or.inl rfl | exact Or.inr rfl) (pe_op op_modN (pe_callTy call_int1 (by rfl) B.int (by decide +kernel) (pa_cons (pe_op op_add (pe_op op_add (pe_op op_mul (pv 3) pe_int) (pe_callB call_abs (by rfl) B.abs (by decide +kernel) (pa_cons (pv 5) pa_nil))) (pv 4)) pa_nil)) pe_int))))
      (pss_one (ps_ret (pe_lst (pa_cons (pe_ifExp (pt_cmpR op_ge (pv 2) (pe_op op_pow pe_int pe_int) (nomark _)) (pv 2) pe_int) (pa_cons (pe_op op_add (pe_op op_modN (pe_callTy call_int1 (by rfl) B.int (by decide +kernel) (pa_cons (pe_op op_add (pe_callB call_abs (by rfl) B.abs (by decide +kernel) (pa_cons (pv 2) pa_nil)) (pe_op op_mul pe_int (pv 3))) pa_nil)) pe_int) (pe_op op_mul pe_int (pv 1))) (pa_cons pe_int pa_nil))))))))), ?_⟩
  -- cell
  refine ⟨fun σ' H' => ∃ i : Int, σ' = [some (.ref sa), some (.int (p : Nat)), some (.int i), none, none, none] ∧ Sm H H', ⟨_, rfl, _, rfl, _, _, rfl, Or.inl ⟨_, hs, rfl⟩, ?_⟩, ?_⟩
  · refine ⟨_, _, rfl, rfl, _, rfl, ite2 (fun hA => ?_) (fun _ => ?_)⟩
    · have hp2 : p < xs.length := by
        have := of_decide_eq_true hA
        rw [List.length_map] at this
        omega
      have e1 : (xs.map V.int)[p]? = some (V.int xs[p]) := by simp [hp2]
      exact ⟨_, rfl, _, rfl, sa, _, _, _, rfl, rfl, hs, atI_nat e1, _, rfl, Sm.rfl'⟩
    · obtain ⟨ys, ey⟩ : ∃ ys : List Int, cutV (xs.map V.int) none (some 1) = ys.map V.int := by
        unfold cutV
        rw [← List.map_drop, ← List.map_take]
        exact ⟨_, rfl⟩
      refine ⟨_, rfl, 1, rfl, sa, _, rfl, hs, fun l nl => ?_⟩
      refine ⟨l, ys, rfl, SqL.of (by rw [← ey]; exact upd_same), .inl ⟨_, rfl, _, _, rfl, rfl, (by show (999983 : Int) ≠ 0; decide), _, rfl, _, _, rfl, rfl, .inl (by constructor <;> decide), _, _, rfl, rfl, _, _, rfl, rfl, _, rfl, Sm.new nl⟩⟩
  rintro σ1 H1 ⟨i, rfl, s1⟩
  -- mixed
  refine ⟨_, rfl, sa, _, rfl, sqlSm s1 hs, ?_⟩
  refine for_enL (xs := xs.map V.int) (fun _ σ3 H3 => ∃ (m : Int) (x4 x5 : Option V), σ3 = [some (.ref sa), some (.int (p : Nat)), some (.int i), some (.int m), x4, x5] ∧ 0 ≤ m ∧ m < 2147483629 ∧ Sm H H3) ⟨0, none, none, rfl, Int.le_refl _, by decide, s1⟩ ?_ ?_ ?_
  · rintro k σ3 H3 ⟨_, _, _, _, _, _, s⟩
    exact sqlSm s hs
  · rintro k x σ3 H3 T hx3 ⟨m, x4, x5, rfl, m1, m2, s3⟩ nT
    obtain ⟨y, rfl⟩ : ∃ y : Int, x = .int y := by
      have := List.mem_of_getElem? hx3
      obtain ⟨y, _, rfl⟩ := List.mem_map.mp this
      exact ⟨y, rfl⟩
    refine ⟨T, _, rfl, SqT.of upd_same, rfl, _, _, rfl, _, _, rfl, rfl, ?_⟩
    have s4 := s3.trans (Sm.new (o := .tup [.int (k : Nat), .int y]) nT)
    refine ⟨_, rfl, _, _, rfl, rfl, .inl ⟨by omega, by omega⟩, _, rfl, _, rfl, _, _, rfl, rfl, _, rfl, _, _, rfl, rfl, .inl ⟨_, rfl, _, _, rfl, rfl, (by show (2147483629 : Int) ≠ 0; decide), ?_⟩⟩
    exact ⟨_, _, _, rfl, Int.fmod_nonneg_of_pos _ (by decide), Int.fmod_lt_of_pos _ (by decide), s4⟩
  · rintro σ3 H3 ⟨m, x4, x5, rfl, m1, m2, s3⟩
    have fin : ∀ c z : Int, 0 ≤ z → z < 2147483629 → ∀ a, H3 a = none → Q (.ref a) (upd H3 a (.lst [.int c, .int (z + 17 * (p : Int)), .int 0])) := fun c z z1 z2 a na =>
      q a _ (s3.trans (Sm.new na)) (s3.free na) ⟨c, _, _, upd_same, by omega, by omega, Int.le_refl _, Int.le_refl _⟩
    have last : ∀ c : Int, tCons
        (tOp (rI0 fun i j => V.int (i + j))
          (tOp (rI (fun _ j => j ≠ 0) fun i j => V.int (i.fmod j))
            (tCB (fun xs H Q => (∃ i, xs = [V.int i] ∧ Q (V.int i) H) ∨ ∃ k, xs = [V.bl k] ∧ Q (V.int (if k = true then 1 else 0)) H)
              (tCons (tOp (rI0 fun i j => V.int (i + j)) (tCB (fun xs H Q => ∃ i, xs = [V.int i] ∧ Q (V.int (if i < 0 then -i else i)) H) (tCons (tVar 2) tNil)) (tOp (rI CMul fun i j => V.int (i * j)) (tC (V.int 31)) (tVar 3))) tNil))
            (tC (V.int 2147483629)))
          (tOp (rI CMul fun i j => V.int (i * j)) (tC (V.int 17)) (tVar 1)))
        (tCons (tC (V.int 0)) tNil) [some (.ref sa), some (.int (p : Nat)), some (.int i), some (.int m), x4, x5] H3 fun vs H' => vs.length + 1 ≤ sizeLine ∧ ∀ a, H' a = none → Q (.ref a) (upd H' a (.lst (.int c :: vs))) := fun c => by
      refine ⟨_, rfl, _, rfl, _, rfl, _, _, rfl, rfl, .inl (by constructor <;> decide), _, _, rfl, rfl, .inl ⟨_, rfl, _, _, rfl, rfl, (by show (2147483629 : Int) ≠ 0; decide), _, rfl, _, _, rfl, rfl, .inl (by constructor <;> decide), _, _, rfl, rfl, (by show 3 ≤ sizeLine; decide), fun a na => ?_⟩⟩
      exact fin c _ (Int.fmod_nonneg_of_pos _ (by decide)) (Int.fmod_lt_of_pos _ (by decide)) a na
    exact ⟨_, rfl, _, _, rfl, rfl, ⟨by decide, by decide, by decide⟩, _, _, rfl, rfl, _, rfl, ite2 (fun _ => ⟨_, rfl, last i⟩) (fun _ => last 0)⟩
end
end K8

namespace WR
open PySem PySem.Spec PyProof.Rows L2
mutual
theorem Dr.live {N : Addr → Prop} {H : Hp} : ∀ {d : PyData} {v : V}, Dr N H v d → Dr (fun a => N a ∧ H a ≠ none) H v d
  | _, _, .non => .non
  | _, _, .bl b => .bl b
  | _, _, .int i => .int i
  | _, _, .str x => .str x
  | _, _, .lst n e r => .lst ⟨n, fun z => by rw [e] at z; cases z⟩ e (DrA.live r)
  | _, _, .tup e r => .tup e (DrA.live r)
  | _, _, .dct n e r => .dct ⟨n, fun z => by rw [e] at z; cases z⟩ e (DrK.live r)
theorem DrA.live {N : Addr → Prop} {H : Hp} : ∀ {ds : List PyData} {vs : List V}, DrA N H vs ds → DrA (fun a => N a ∧ H a ≠ none) H vs ds
  | _, _, .nil => .nil
  | _, _, .cons r t => .cons (Dr.live r) (DrA.live t)
theorem DrK.live {N : Addr → Prop} {H : Hp} : ∀ {ps : List (PyData × PyData)} {kvs : List (Key × V)}, DrK N H kvs ps → DrK (fun a => N a ∧ H a ≠ none) H kvs ps
  | _, _, .nil => .nil
  | _, _, .cons r t => .cons (Dr.live r) (DrK.live t)
end
end WR
namespace K8
open PySem PySem.Spec PyProof.Rows L2 WR
/-- N lets no well in -/
def Off (w : Addr) (N : Addr → Prop) : Prop := ∀ a, N a → a ≠ w
def Fr (N : Addr → Prop) (H : Hp) : Addr → Prop := fun a => N a ∨ H a = none
theorem Gw.stN {w : Addr} {n : Nat} {H H' : Hp} {N : Addr → Prop} (o : Off w N) (hw : Wl H w n) (g : Gw w H H') : Stays N H H' := by
  have := g.stays hw
  exact ⟨fun a u h z => this.at_ a u (o a h) z, this.tup⟩
theorem _root_.WR.Dr.gn {w : Addr} {n : Nat} {N : Addr → Prop} {H H' : Hp} {v : V} {d : PyData} (r : Dr N H v d) (o : Off w N) (hw : Wl H w n) (g : Gw w H H') : Dr N H' v d := r.mono (fun _ z => z) (g.stN o hw)
theorem _root_.WR.DrA.gn {w : Addr} {n : Nat} {N : Addr → Prop} {H H' : Hp} {v : List V} {d : List PyData} (r : DrA N H v d) (o : Off w N) (hw : Wl H w n) (g : Gw w H H') : DrA N H' v d := r.mono (fun _ z => z) (g.stN o hw)
theorem _root_.WR.Dr.wide {N M : Addr → Prop} {H : Hp} {v : V} {d : PyData} (r : Dr N H v d) (h : ∀ a, N a → M a) : Dr M H v d := r.mono h (Stays.of Sm.rfl')
theorem _root_.WR.DrA.wide {N M : Addr → Prop} {H : Hp} {v : List V} {d : List PyData} (r : DrA N H v d) (h : ∀ a, N a → M a) : DrA M H v d := r.mono h (Stays.of Sm.rfl')
section
variable {X : Cx}
/-- x[j], j within a list or a tuple -/
def rIxN (N : Addr → Prop) : R2 := fun x y H Q => ∃ d, ∃ j : Nat, ∃ e, Dr N H x d ∧ isL d = true ∧ y = .int (j : Int) ∧ (its d)[j]? = some e ∧ ∀ v, Dr N H v e → Q v H
theorem ix_N (N : Addr → Prop) : IxR X (rIxN N) := by
  intro value slice pins s σ H x y v u Q I rx ry h hs
  obtain ⟨d, j, e, rd, hL, rfl, he, q⟩ := h
  cases rd with
  | lst _ ea r =>
    obtain ⟨z, hz, rz⟩ := r.at_ he
    exact ix_list value slice pins s σ H _ _ v u Q I rx ry ⟨_, _, _, z, rfl, rfl, SqL.of ea, atI_nat hz, q _ rz⟩ hs
  | tup ea r =>
    obtain ⟨z, hz, rz⟩ := r.at_ he
    exact ix_tup value slice pins s σ H _ _ v u Q I rx ry ⟨_, _, _, z, rfl, rfl, SqT.of ea, atI_nat hz, q _ rz⟩ hs
  | _ => cases hL
/-- x[lo:hi] of a list or a tuple -/
def rSlN (N : Addr → Prop) : V → Option Int → Option Int → Hp → VK → Prop := fun x lo hi H Q => ∃ d, Dr N H x d ∧ isL d = true ∧ ∀ v H', Sm H H' → Dr (Fr N H) H' v (likeD d (cutA (its d) lo hi)) → Q v H'
theorem sl_N (N : Addr → Prop) : SlR X (rSlN N) := by
  intro pins s σ H x v vl vu lo hi sl Q I rx hs pl pu h
  obtain ⟨d, rd, hL, q⟩ := h
  cases rd with
  | lst _ e r =>
    refine sl_list pins s σ H _ v vl vu lo hi sl Q I rx hs pl pu ⟨_, _, rfl, SqL.of e, fun p np => q _ _ (Sm.new np) ?_⟩
    exact .lst (.inr np) upd_same (((r.cut lo hi).sm (Sm.new np)).wide fun _ z => .inl z)
  | @tup a xs ds e r =>
    refine sl_tupA pins s σ H _ v vl vu lo hi sl Q I rx hs pl pu ⟨_, _, rfl, SqT.of e, fun hw => q _ _ Sm.rfl' ?_, fun _ p np => q _ _ (Sm.new np) ?_⟩
    · have ew : cutA ds lo hi = ds := by
        have hl := r.length
        unfold cutA
        rw [hl] at hw
        rw [hw.1, hw.2, List.drop_zero, Nat.sub_zero, List.take_length]
      show Dr _ H _ (.tuple (cutA ds lo hi))
      rw [ew]
      exact .tup e (r.wide fun _ z => .inl z)
    · exact .tup upd_same (((r.cut lo hi).sm (Sm.new np)).wide fun _ z => .inl z)
  | _ => cases hL
/-- list(x) -/
theorem call_listN (N : Addr → Prop) : CallR X (.type "list") (fun xs H Q => ∃ v d, xs = [v] ∧ Dr N H v d ∧ isL d = true ∧ ∀ l ys, H l = none → DrA N H ys (its d) → Q (.ref l) (upd H l (.lst ys))) := by
  intro pins s σ H xs us Q I r h
  obtain ⟨v, d, rfl, rd, hL, q⟩ := h
  cases rd with
  | lst _ e rr => exact call_list_of pins s σ H _ us Q I r ⟨_, _, rfl, .inl (SqL.of e), fun l nl => q l _ nl rr⟩
  | tup e rr => exact call_list_of pins s σ H _ us Q I r ⟨_, _, rfl, .inr (SqT.of e), fun l nl => q l _ nl rr⟩
  | _ => cases hL
/-- tuple(x) -/
theorem call_tupN (N : Addr → Prop) : CallR X (.type "tuple") (fun xs H Q => ∃ v d, xs = [v] ∧ Dr N H v d ∧ isL d = true ∧ ∀ u H', Sm H H' → Dr N H' u (.tuple (its d)) → Q u H') := by
  intro pins s σ H xs us Q I r h
  obtain ⟨v, d, rfl, rd, hL, q⟩ := h
  cases rd with
  | lst _ e rr => exact call_tuple_of pins s σ H _ us Q I r ⟨_, _, rfl, .inl ⟨SqL.of e, fun p np => q _ _ (Sm.new np) (.tup upd_same (rr.sm (Sm.new np)))⟩⟩
  | tup e rr => exact call_tuple_of pins s σ H _ us Q I r ⟨_, _, rfl, .inr ⟨SqT.of e, q _ _ Sm.rfl' (.tup e rr)⟩⟩
  | _ => cases hL
end
theorem erase_perm {α : Type} : ∀ (l : List α) (k : Nat) (h : k < l.length), (l[k] :: l.eraseIdx k).Perm l
  | a :: l, 0, _ => List.Perm.refl _
  | a :: l, k + 1, h => by
    have ih := erase_perm l k (by simpa using h)
    exact (List.Perm.swap a _ _).trans (ih.cons a)
theorem ixN_nat {n k : Nat} (h : k < n) : ixN n (k : Int) = some k := by
  unfold ixN
  rw [if_pos (by omega), if_pos (by omega)]
  rfl
/-- what N lets in stays when another one is written -/
theorem stays_upd {N : Addr → Prop} {H : Hp} {a : Addr} {o : HO} (h : ∀ b, N b → b ≠ a) (ht : ∀ xs, H a ≠ some (.tup xs)) : Stays N H (upd H a o) :=
  ⟨fun b u n e => by rw [upd_ne (h b n)]; exact e, fun b xs e => by rw [upd_ne (fun z => ht xs (by rw [← z]; exact e))]; exact e⟩
/-- o.name(e, ..) in a block: K told apart -/
theorem pe_bmB {X : Cx} {K1 : PySem.W.Frag} {o e : Expr} {es : List Expr} {to : TE} {t : TA} {name : Str} {apos cpos : Pos} {T id : String} {r : V → List V → Hp → VK → Prop} (hK : X.K = K1) (pa : PlainAttrs T) (slot : Slot T name id) (hty : typeOf (.builtin id) = pure (.type "method_descriptor"))
    (hm : MtR X id r) (ho : PE X o to) (ha : PA X (e :: es) t) (b1 : attributeBase o name X.env (eval o X.env) = eval o X.env := by rfl)
    (b2 : ((backTo cpos (starEach (e :: es) X.env)).all (fun x => !x.1) && (backToKw cpos (keywordEach [] X.env)).all (fun x => x.1.isSome) && decide ((e :: es).length + ([] : List Keyword).length + (if ([] : List Keyword).isEmpty then 0 else 1) < 30)) = true := by rfl)
    (b3 : (apos.endLine == cpos.line) = true := by rfl) (b4 : starEach (e :: es) X.env = (false, eval e X.env) :: starEach es X.env := by rfl) (b5 : (backTo cpos (starEach es X.env)).any (·.1) = false := by rfl) : PE X (.Call (.Attribute o name apos) (e :: es) [] cpos) (tBM K1 T r to t) := by
  subst hK
  exact pe_bm pa slot hty hm ho ha b1 b2 b3 b4 b5
/-! ### comprehensions that draw -/
/-- J walks the data ds, whatever is drawn meanwhile -/
structure WalkW (w : Addr) (N : Addr → Prop) (J : It) (H1 : Hp) (ds : List PyData) : Prop where
  go : ∀ H i, Gw w H1 H → i < ds.length → J.go i H
  yld : ∀ H i x H', Gw w H1 H → i < ds.length → J.yld i H x H' → H' = H ∧ ∃ d, ds[i]? = some d ∧ Dr N H x d
  stop : ∀ H, Gw w H1 H → J.stop ds.length H
theorem WalkW.seq {K : PySem.W.Frag} {w : Addr} {n : Nat} {N : Addr → Prop} {H1 : Hp} {a : Addr} {xs : List V} {ds : List PyData} {J : It} (hJ : ItS K H1 a xs J) (na : a ≠ w) (o : Off w N) (hw : Wl H1 w n) (r : DrA N H1 xs ds) : WalkW w N J H1 ds := by
  have hl := r.length
  constructor
  · intro H i s hi
    have hx : xs[i]? = some xs[i] := List.getElem?_eq_getElem (by omega)
    rcases hJ with ⟨rfl, e⟩ | ⟨rfl, e⟩
    · exact ⟨xs, _, SqL.of (s _ _ na e), hx⟩
    · exact ⟨xs, _, SqT.of (s _ _ na e), hx⟩
  · intro H i x H' s hi y
    have hx : H' = H ∧ xs[i]? = some x := by
      rcases hJ with ⟨rfl, e⟩ | ⟨rfl, e⟩
      · exact ⟨y.1, y.2 xs (SqL.of (s _ _ na e))⟩
      · exact ⟨y.1, y.2 xs (SqT.of (s _ _ na e))⟩
    obtain ⟨d, h1, h2⟩ := r.get hx.2
    exact ⟨hx.1, d, h1, h2.gn o hw s⟩
  · intro H s
    rcases hJ with ⟨rfl, e⟩ | ⟨rfl, e⟩
    · exact ⟨xs, SqL.of (s _ _ na e), by omega⟩
    · exact ⟨xs, SqT.of (s _ _ na e), by omega⟩
theorem WalkW.range {w : Addr} {N : Addr → Prop} {H1 : Hp} {lo : Int} {n : Nat} : WalkW w N (Itr lo n) H1 ((List.range n).map fun (k : Nat) => PyData.int (lo + (k : Int))) := by
  constructor
  · intro H i s hi
    show i < n
    simpa using hi
  · rintro H i v H' s hi ⟨e, rfl⟩
    refine ⟨e, .int (lo + i), ?_, .int _⟩
    have : i < n := by simpa using hi
    simp [List.getElem?_map, List.getElem?_range this]
  · intro H s
    show n ≤ _
    simp
/-- pairwise -/
inductive All2 (R : PyData → PyData → Prop) : List PyData → List PyData → Prop
  | nil : All2 R [] []
  | cons {d e : PyData} {ds es : List PyData} : R d e → All2 R ds es → All2 R (d :: ds) (e :: es)
theorem All2.app {R : PyData → PyData → Prop} {d e : PyData} (h : R d e) : ∀ {ds es : List PyData}, All2 R ds es → All2 R (ds ++ [d]) (es ++ [e])
  | _, _, .nil => .cons h .nil
  | _, _, .cons a t => .cons a (t.app h)
theorem All2.len {R : PyData → PyData → Prop} : ∀ {ds es : List PyData}, All2 R ds es → es.length = ds.length
  | _, _, .nil => rfl
  | _, _, .cons _ t => by simp [t.len]
theorem lc_w {J : It} {te : TE} {vs : List Nat} {i : Nat} {σ : L2.St} {H1 : Hp} {D w : Addr} {n c : Nat} {M N : Addr → Prop} {ds : List PyData} {Qd : Hp → Prop} (R : PyData → PyData → Prop) (W : WalkW w M J H1 ds) (nD : H1 D = none) (hw0 : Wl H1 w n) (oN : Off w N)
    (hlen : ds.length ≤ lim)
    (hw : ∀ x, wipe ((wipe σ vs).set i (some x)) vs = wipe σ vs)
    (hs : ∀ (x : V) (d : PyData) (j : Nat) (H2 : Hp) (Q : VK), ds[j]? = some d → Gw w H1 H2 → Wl H2 w (n + c * j) → Dr M H2 x d →
      (∀ y e H3, Gw w H2 H3 → Wl H3 w (n + c * (j + 1)) → Dr (fun b => (N b ∨ H1 b = none) ∧ b ≠ D) H3 y e → R d e → Q y H3) → H2 D ≠ none → te ((wipe σ vs).set i (some x)) H2 Q)
    (hd : ∀ H2 ys es, Gw w H1 H2 → Wl H2 w (n + c * ds.length) → H2 D = some (.lst ys) → DrA (fun b => (N b ∨ H1 b = none) ∧ b ≠ D) H2 ys es → All2 R ds es → Qd H2) :
    ∃ W : Nat → Nat → Hp → Prop, (∃ m, W 0 m (upd H1 D (.lst []))) ∧ ∀ i' m H, W i' m H →
      (J.stop i' H ∧ Qd H) ∨ (J.go i' H ∧ ∃ Nx : Hp → Prop, (∀ H', Nx H' → ∃ m', m' < m ∧ W (i' + 1) m' H') ∧ ∀ x H', J.yld i' H x H' → gName i x (wipe σ vs) H' fun σ2 H2 => wipe σ2 vs = wipe σ vs ∧ tYes σ2 H2 fun b H3 =>
        if b = true then te σ2 H3 fun y H4 => ∃ acc, H4 D = some (.lst acc) ∧ acc.length < sizeLine ∧ Nx (upd H4 D (.lst (acc ++ [y]))) else Nx H3) := by
  have nDw : D ≠ w := hw0.ne nD
  have offM : Off w (fun b => (N b ∨ H1 b = none) ∧ b ≠ D) := fun a h => by
    rcases h.1 with z | z
    · exact oN a z
    · exact hw0.ne z
  refine lc_walk (n := ds.length) (fun j H2 => Gw w H1 H2 ∧ Wl H2 w (n + c * j) ∧ ∃ ys es, H2 D = some (.lst ys) ∧ ys.length = j ∧ DrA (fun b => (N b ∨ H1 b = none) ∧ b ≠ D) H2 ys es ∧ All2 R (ds.take j) es) ?_ ?_ ?_ ?_ ?_
  · exact ⟨Gw.of (Sm.new nD), by simpa using hw0.sm (Sm.new nD), [], [], upd_same, rfl, .nil, by simpa using All2.nil⟩
  · rintro j H2 hj ⟨s, _⟩
    exact W.go _ _ s hj
  · rintro H2 ⟨s, _⟩
    exact W.stop _ s
  · rintro j x H2 H' hj ⟨s, hw2, ys, es, eD, hl, ry, al⟩ hy
    obtain ⟨rfl, d, hd', rd⟩ := W.yld _ _ _ _ s hj hy
    refine ⟨hw x, ?_⟩
    dsimp only [tYes]
    rw [if_pos rfl]
    refine hs x d j H' _ hd' s hw2 rd (fun y e H3 s3 hw3 r3 hr => ?_) (by rw [eD]; exact fun z => nomatch z)
    have eD3 := s3 D _ nDw eD
    refine ⟨ys, eD3, by rw [hl]; exact Nat.lt_of_lt_of_le hj (Nat.le_of_lt (Nat.lt_of_le_of_lt hlen lim_lt)), ?_⟩
    have s4 : Gw w H1 (upd H3 D (.lst (ys ++ [y]))) := fun b o hb z => by
      rw [upd_ne (ne_of_none z nD)]
      exact s3 _ _ hb (s _ _ hb z)
    have hw4 : Wl (upd H3 D (.lst (ys ++ [y]))) w (n + c * (j + 1)) := by
      obtain ⟨a, b, c', e', h'⟩ := hw3
      exact ⟨a, b, c', by rw [upd_ne (Ne.symm nDw)]; exact e', h'⟩
    refine ⟨s4, hw4, ys ++ [y], es ++ [e], upd_same, by rw [List.length_append, hl]; rfl, ?_, ?_⟩
    · have s5 : Stays (fun b => (N b ∨ H1 b = none) ∧ b ≠ D) H3 (upd H3 D (.lst (ys ++ [y]))) := ⟨fun b o nb z => by rw [upd_ne nb.2]; exact z, fun b us z => by
        rw [upd_ne (fun q => by rw [q, eD3] at z; cases z)]
        exact z⟩
      exact ((ry.gn offM hw2 s3).append (.one r3)).mono (fun _ z => z) s5
    · rw [List.take_succ, hd']
      exact al.app hr
  · rintro H2 ⟨s, hw2, ys, es, eD, hl, ry, al⟩
    rw [List.take_length] at al
    exact hd H2 ys es s hw2 eD ry al
abbrev spPick : Sp := fun vs H Q _ => ∃ (w : Addr) (n : Nat) (N : Addr → Prop) (v : V) (d : PyData), vs = [.ref w, v] ∧ Off w N ∧ Wl H w n ∧ n < top0 ∧ Dr N H v d ∧ isL d = true ∧ its d ≠ [] ∧ (its d).length ≤ lim ∧
  ∀ e ∈ its d, ∀ u H', Gw w H H' → Wl H' w (n + 1) → Dr N H' u e → Q u H'
abbrev spMixed : Sp := fun vs H Q _ => ∃ (w : Addr) (n : Nat) (N : Addr → Prop) (v : V) (d : PyData), vs = [.ref w, v] ∧ Off w N ∧ Wl H w n ∧ n + lim < top0 ∧ Dr N H v d ∧ isL d = true ∧ (its d).length ≤ lim ∧
  ∀ (l : Addr) (ys : List V) (es : List PyData) (H' : Hp), H l = none → es.Perm (its d) → Gw w H H' → Wl H' w (n + (its d).length) → H' l = some (.lst ys) → DrA N H' ys es → Q (.ref l) H'
section
variable {P : Program} {w : World} {K : PySem.W.Frag} {mg : Str → Option Value} {base : Heap}
theorem sc__law_pick : FnScope ["well", "some"] ["well", "some"] (defScope s_law_pick) := ⟨rfl, rfl, rfl, by decide +kernel, rfl, by decide +kernel, by decide +kernel⟩
theorem ok__law_pick (B : Bt mg) (F : Fn K mg d_law_pick) (D1 : Df P w K mg base CX0 1 "_law_draw" ["well", "many"] spDraw) : Df P w K mg base CX0 2 "_law_pick" ["well", "some"] spPick := by
  obtain ⟨f, fd, hm, F⟩ := F
  refine ⟨f, fd, hm, F.kp, F.bindsN fun _ _ _ _ _ _ us hl => match us, hl with | [_, _], _ => rfl, ?_⟩
  refine F.ok sc__law_pick (fun vs H Q E h => by obtain ⟨w, n, N, v, d, rfl, _⟩ := h; rfl) (fun cdv A outer s H vs Q E hr h => ?_)
  obtain ⟨wa, n, N, v, d, rfl, oN, hw, hn, rd, hL, h0, hl, q⟩ := h
  refine ⟨_, PSs.nox (pss_one (ps_ret (pe_ix (ix_N N) (pv 1) (pe_df D1 hr pass0 (pa_cons (pv 0) (pa_cons (pe_callB call_lenS (by rfl) B.len (by decide +kernel) (pa_cons (pv 1) pa_nil)) pa_nil))) (fun _ _ => rfl)))), ?_⟩
  have hl1 : 1 ≤ (its d).length := by
    cases e : its d with
    | nil => exact absurd e h0
    | cons _ _ => simp
  have hlim : lim = 4000 := rfl
  refine ⟨_, rfl, _, rfl, _, rfl, v, d, rfl, rd.all, hL, ?_⟩
  refine ⟨wa, (its d).length, n, rfl, hl1, by omega, hw, hn, fun k H' hk g hw' => ?_⟩
  have e1 : (its d)[k]? = some (its d)[k] := List.getElem?_eq_getElem hk
  exact ⟨d, k, _, rd.gn oN hw g, hL, rfl, e1, fun u ru => q _ (List.getElem_mem hk) u H' g hw' ru⟩
theorem sc__law_mixed : FnScope ["well", "some", "left", "k"] ["well", "some"] (defScope s_law_mixed) := ⟨rfl, rfl, rfl, by decide +kernel, rfl, by decide +kernel, by decide +kernel⟩
theorem ok__law_mixed (B : Bt mg) (F : Fn K mg d_law_mixed) (D1 : Df P w K mg base CX0 1 "_law_draw" ["well", "many"] spDraw) : Df P w K mg base CX0 2 "_law_mixed" ["well", "some"] spMixed := by
  obtain ⟨f, fd, hm, F⟩ := F
  refine ⟨f, fd, hm, F.kp, F.bindsN fun _ _ _ _ _ _ us hl => match us, hl with | [_, _], _ => rfl, ?_⟩
  refine F.ok sc__law_mixed (fun vs H Q E h => by obtain ⟨w, n, N, v, d, rfl, _⟩ := h; rfl) (fun cdv A outer s H vs Q E hr h => ?_)
  obtain ⟨wa, n, N, v, d, rfl, oN, hw, hn, rd, hL, hl, q⟩ := h
  refine ⟨_, PSs.nox (pss_cons (ps_set (i := 2) sc__law_mixed.nd rfl (by first | exact Or.inl rfl | exact Or.inr rfl) (pe_callTy (call_listN N) (by rfl) B.list (by decide +kernel) (pa_cons (pv 1) pa_nil)))
      (pss_one (ps_ret (pe_lc (own := [("k", 3)]) (g := gName 3) (tt := tYes) rfl sc__law_mixed.nd (pi_range1 rfl B.range (pa_cons (pe_callB call_lenS (by rfl) B.len (by decide +kernel) (pa_cons (pv 2) pa_nil)) pa_nil)) (blkOk_by (own := [("k", 3)]) (N := ["well", "some", "left", "k"]) (sc := defScope s_law_mixed) (by decide +kernel)) (fun _ _ _ _ _ => pg_name (i := 3) sc__law_mixed.nd rfl (by first | exact Or.inl rfl | exact Or.inr rfl)) (fun _ _ _ _ _ => pts_nil) (fun _ _ _ _ _ => (by exact (pe_bmB (K1 := K) rfl PySem.F.plainAttrs_list PySem.F.slot_list_pop PySem.F.type_list_pop mt_popAt (pv 2) (pa_cons (pe_df D1 hr pass0 (pa_cons (pv 0) (pa_cons (pe_callB call_lenS (by rfl) B.len (by decide +kernel) (pa_cons (pv 2) pa_nil)) pa_nil))) pa_nil)))))))), ?_⟩
  have hlim : lim = 4000 := rfl
  refine ⟨_, rfl, v, d, rfl, rd, hL, fun l zs nl rz => ?_⟩
  have nlw : l ≠ wa := hw.ne nl
  have lz := rz.length
  have rz1 := rz.live
  have e0 : upd H l (.lst zs) l = some (.lst zs) := upd_same
  have hsl : 4000 < sizeLine := by rw [sizeLine_eq]; decide
  refine ⟨_, rfl, .ref l, .list (its d), rfl, .lst trivial upd_same ((rz.sm (Sm.new nl)).all), rfl, _, rfl, by omega, by simp [its] at *; omega, fun D nD => ?_⟩
  have nDl : D ≠ l := (ne_of_none e0 nD).symm
  have nD0 : H D = none := by
    rw [upd_ne nDl] at nD
    exact nD
  have nDw : D ≠ wa := hw.ne nD0
  have off : ∀ a, (N a ∧ H a ≠ none) → a ≠ wa ∧ a ≠ l ∧ a ≠ D := fun a h => ⟨oN a h.1, fun z => h.2 (by rw [z]; exact nl), fun z => h.2 (by rw [z]; exact nD0)⟩
  have off1 : Off wa (fun a => N a ∧ H a ≠ none) := fun a h => (off a h).1
  refine lc_walk (n := (its d).length) (fun j H2 => Gw wa H H2 ∧ Wl H2 wa (n + j) ∧ ∃ zs ds ys es, H2 l = some (.lst zs) ∧ zs.length + j = (its d).length ∧ DrA (fun a => N a ∧ H a ≠ none) H2 zs ds ∧ H2 D = some (.lst ys) ∧ ys.length = j ∧ DrA (fun a => N a ∧ H a ≠ none) H2 ys es ∧ (es ++ ds).Perm (its d)) ?_ ?_ ?_ ?_ ?_
  · refine ⟨Gw.of ((Sm.new nl).trans (Sm.new nD)), (hw.sm ((Sm.new nl).trans (Sm.new nD))), zs, its d, [], [], by rw [upd_ne nDl.symm]; exact upd_same, lz, rz1.sm ((Sm.new nl).trans (Sm.new nD)), upd_same, rfl, .nil, List.Perm.refl _⟩
  · intro j H2 hj _
    show j < _
    simpa [its] using hj
  · intro H2 _
    show _ ≤ _
    simp [its]
  · rintro j x H2 H' hj ⟨g, hw2, zs2, ds2, ys, es, el, hlz, rz2, eD, hly, ry, pm⟩ ⟨rfl, rfl⟩
    refine ⟨rfl, ?_⟩
    dsimp only [tYes]
    rw [if_pos rfl]
    have lz2 := rz2.length
    refine ⟨_, rfl, .inl ⟨rfl, _, SqL.of el⟩, _, rfl, _, rfl, .ref l, .list ds2, rfl, .lst trivial el rz2.all, rfl, wa, ds2.length, n + j, rfl, by omega, by omega, hw2, by omega, fun k H3 hk g3 hw3 => ?_⟩
    have el3 := g3 l _ nlw el
    have eD3 := g3 D _ nDw eD
    have hk2 : k < zs2.length := by omega
    have ey : zs2[k]? = some zs2[k] := List.getElem?_eq_getElem hk2
    obtain ⟨dk, edk, rk⟩ := (rz2.gn off1 hw2 g3).get ey
    refine ⟨l, zs2, (k : Int), k, zs2[k], rfl, rfl, el3, by omega, by omega, (ixN_seq (ixN_nat hk2)).1, ey, ys, by rw [upd_ne nDl]; exact eD3, by omega, ?_⟩
    have st1 : Stays (fun a => N a ∧ H a ≠ none) H3 (upd H3 l (.lst (zs2.eraseIdx k))) := stays_upd (fun b h => (off b h).2.1) (fun xs z => by rw [el3] at z; cases z)
    have st2 : Stays (fun a => N a ∧ H a ≠ none) (upd H3 l (.lst (zs2.eraseIdx k))) (upd (upd H3 l (.lst (zs2.eraseIdx k))) D (.lst (ys ++ [zs2[k]]))) := stays_upd (fun b h => (off b h).2.2) (fun xs z => by rw [upd_ne nDl, eD3] at z; cases z)
    have up : ∀ {us : List V} {fs : List PyData}, DrA (fun a => N a ∧ H a ≠ none) H3 us fs → DrA (fun a => N a ∧ H a ≠ none) (upd (upd H3 l (.lst (zs2.eraseIdx k))) D (.lst (ys ++ [zs2[k]]))) us fs := fun r => (r.mono (fun _ z => z) st1).mono (fun _ z => z) st2
    refine ⟨fun b o hb e => ?_, ?_, zs2.eraseIdx k, ds2.eraseIdx k, ys ++ [zs2[k]], es ++ [dk], ?_, ?_, ?_, upd_same, ?_, ?_, ?_⟩
    · rw [upd_ne (ne_of_none e nD0), upd_ne (ne_of_none e nl)]
      exact g3 b o hb (g b o hb e)
    · obtain ⟨a, b, c, e', r'⟩ := hw3
      exact ⟨a, b, c, by rw [upd_ne nDw.symm, upd_ne nlw.symm]; exact e', r'⟩
    · rw [upd_ne nDl.symm]
      exact upd_same
    · rw [List.length_eraseIdx_of_lt hk2]
      omega
    · exact up ((rz2.gn off1 hw2 g3).eraseIdx k)
    · rw [List.length_append, hly]
      rfl
    · exact up ((ry.gn off1 hw2 g3).append (.one rk))
    · have hk3 : k < ds2.length := hk
      have e5 : dk = ds2[k] := by
        rw [List.getElem?_eq_getElem hk3] at edk
        exact (Option.some.inj edk).symm
      have p1 : (dk :: ds2.eraseIdx k).Perm ds2 := by
        rw [e5]
        exact erase_perm ds2 k hk3
      rw [List.append_assoc]
      exact (List.Perm.append_left es p1).trans pm
  · rintro H2 ⟨g, hw2, zs2, ds2, ys, es, el, hlz, rz2, eD, hly, ry, pm⟩
    have e6 : ds2 = [] := by
      have := rz2.length
      exact List.length_eq_zero_iff.mp (by omega)
    subst e6
    rw [List.append_nil] at pm
    exact q D ys es H2 nD0 pm g hw2 eD (ry.wide fun _ z => z.1)
end
end K8

namespace K8
open PySem PySem.Spec PyProof.Rows L2 WR LiI RZ
mutual
/-- no deeper than n, no dict but {} -/
def fit : PyData → Nat → Bool
  | .list xs, n => decide (1 ≤ n) && decide (xs.length ≤ lim) && fitA xs (n - 1)
  | .tuple xs, n => decide (1 ≤ n) && decide (xs.length ≤ lim) && fitA xs (n - 1)
  | .dict ps, n => decide (2 ≤ n) && ps.isEmpty
  | .str x, _ => decide (x.length ≤ lim)
  | .int i, _ => decide (i.natAbs.log2 < 1000)
  | .bool _, _ => true
  | .none, _ => true
def fitA : List PyData → Nat → Bool
  | [], _ => true
  | d :: ds, n => fit d n && fitA ds n
end
theorem fitA_at : ∀ {ds : List PyData} {n i : Nat} {d : PyData}, fitA ds n = true → ds[i]? = some d → fit d n = true
  | [], n, i, d, _, e => by simp at e
  | x :: xs, n, 0, d, h, e => by
    simp only [fitA, Bool.and_eq_true] at h
    simp at e
    rw [← e]
    exact h.1
  | x :: xs, n, i + 1, d, h, e => by
    simp only [fitA, Bool.and_eq_true] at h
    exact fitA_at h.2 (by simpa using e)
theorem Df.off {P : Program} {w : World} {K : PySem.W.Frag} {mg : Str → Option Value} {base : Heap} {CX : CXT} {d : He.DefD} {ps : List Str} (F : Fn K mg d)
    (hb : ∀ f fd, FunD K d.name d.qual d.params d.body d.scope [] [] f fd → Binds K fd ps []) : Df P w K mg base CX 0 d.name ps (fun _ _ _ _ => False) := by
  obtain ⟨f, fd, hm, F⟩ := F
  exact ⟨f, fd, hm, F.kp, hb f fd F, ⟨fun _ _ _ _ z => z.elim, fun _ _ _ _ _ _ _ _ _ _ _ _ _ z => z.elim⟩⟩
section
variable {X : Cx}
def rIsD3 (c1 c2 c3 : String) (f : PyData → Bool) : List V → Hp → VK → Prop := fun xs H Q => ∃ x t d, xs = [x, .ref t] ∧ H t = some (.tup [.ty c1, .ty c2, .ty c3]) ∧ Dr All H x d ∧ Q (.bl (f d)) H
theorem call_isD3 {c1 c2 c3 : String} {f1 f2 f3 f : PyData → Bool} (h1 : ∀ d, kitB (tyD d) c1 = some (f1 d)) (h2 : ∀ d, kitB (tyD d) c2 = some (f2 d)) (h3 : ∀ d, kitB (tyD d) c3 = some (f3 d)) (hf : ∀ d, (f1 d || (f2 d || f3 d)) = f d) : CallR X (.builtin "isinstance") (rIsD3 c1 c2 c3 f) := by
  intro pins s σ H xs us Q I r h
  obtain ⟨x, t, d, rfl, ht, hd, q⟩ := h
  have k3 : PySem.W.kitAny X.K (.type (tyD d)) [.type c1, .type c2, .type c3] = some (f1 d || (f2 d || f3 d)) := by
    refine kitAny_cons (kit_ty (h1 d)) (fun e => ?_) (fun e => by rw [e]; rfl)
    rw [e, Bool.false_or]
    exact kit_any2 (h2 d) (h3 d)
  refine call_isiT pins s σ H _ us Q I r ⟨x, t, [.ty c1, .ty c2, .ty c3], _, [.type c1, .type c2, .type c3], _, rfl, ht, .cons (.ty c1) (.cons (.ty c2) (.cons (.ty c3) .nil)), hd.ty, k3, ?_⟩
  rw [hf d]
  exact q
end
def isDL : PyData → Bool
  | .list _ => true
  | .tuple _ => true
  | .dict _ => true
  | _ => false
theorem isDL_or (d : PyData) : (isD d || (isLst d || isTup d)) = isDL d := by cases d <;> rfl
/-- J walks two of the same data side by side -/
structure ZWalk (J : It) (H1 : Hp) (ds : List PyData) : Prop where
  go : ∀ H i, Sm H1 H → i < ds.length → J.go i H
  yld : ∀ H i x H', Sm H1 H → i < ds.length → J.yld i H x H' → ∃ T a b d, x = .ref T ∧ H T = none ∧ H' = upd H T (.tup [a, b]) ∧ ds[i]? = some d ∧ Dr All H a d ∧ Dr All H b d
  stop : ∀ H, Sm H1 H → J.stop ds.length H
theorem ZWalk.lists {K : PySem.W.Frag} {H1 : Hp} {a b : Addr} {xs ys : List V} {ds : List PyData} (ea : H1 a = some (.lst xs)) (eb : H1 b = some (.lst ys)) (ra : DrA All H1 xs ds) (rb : DrA All H1 ys ds) : ZWalk (Itz K a b) H1 ds := by
  have la := ra.length
  have lb := rb.length
  refine ⟨fun H i s hi => ⟨xs, ys, _, _, SqL.of (s _ _ ea), SqL.of (s _ _ eb), List.getElem?_eq_getElem (by omega), List.getElem?_eq_getElem (by omega)⟩, ?_, fun H s => ⟨xs, ys, SqL.of (s _ _ ea), SqL.of (s _ _ eb), .inl (by omega)⟩⟩
  rintro H i v H' s hi ⟨T, x, y, rfl, nT, rfl, hx, hy⟩
  obtain ⟨d, e1, r1⟩ := (ra.sm s).get (hx xs (SqL.of (s _ _ ea)))
  obtain ⟨d', e2, r2⟩ := (rb.sm s).get (hy ys (SqL.of (s _ _ eb)))
  rw [e1] at e2
  cases e2
  exact ⟨T, x, y, d, rfl, nT, rfl, e1, r1, r2⟩
theorem ZWalk.tups {K : PySem.W.Frag} {H1 : Hp} {a b : Addr} {xs ys : List V} {ds : List PyData} (ea : H1 a = some (.tup xs)) (eb : H1 b = some (.tup ys)) (ra : DrA All H1 xs ds) (rb : DrA All H1 ys ds) : ZWalk (ItzT K a b) H1 ds := by
  have la := ra.length
  have lb := rb.length
  refine ⟨fun H i s hi => ⟨xs, ys, _, _, SqT.of (s _ _ ea), SqT.of (s _ _ eb), List.getElem?_eq_getElem (by omega), List.getElem?_eq_getElem (by omega)⟩, ?_, fun H s => ⟨xs, ys, SqT.of (s _ _ ea), SqT.of (s _ _ eb), .inl (by omega)⟩⟩
  rintro H i v H' s hi ⟨T, x, y, rfl, nT, rfl, hx, hy⟩
  obtain ⟨d, e1, r1⟩ := (ra.sm s).get (hx xs (SqT.of (s _ _ ea)))
  obtain ⟨d', e2, r2⟩ := (rb.sm s).get (hy ys (SqT.of (s _ _ eb)))
  rw [e1] at e2
  cases e2
  exact ⟨T, x, y, d, rfl, nT, rfl, e1, r1, r2⟩
theorem fit_its {d : PyData} {n : Nat} (h : fit d n = true) (hL : isL d = true) : 1 ≤ n ∧ (its d).length ≤ lim ∧ fitA (its d) (n - 1) = true := by
  cases d with
  | list xs =>
    simp only [fit, Bool.and_eq_true, decide_eq_true_eq] at h
    exact ⟨h.1.1, h.1.2, h.2⟩
  | tuple xs =>
    simp only [fit, Bool.and_eq_true, decide_eq_true_eq] at h
    exact ⟨h.1.1, h.1.2, h.2⟩
  | _ => cases hL
/-- two of the same data: True -/
def spSame : Nat → Sp
  | 0 => fun _ _ _ _ => False
  | n + 1 => fun vs H Q _ => ∃ (u v : V) (d : PyData), vs = [u, v] ∧ Dr All H u d ∧ Dr All H v d ∧ fit d n = true ∧ ∀ H', Sm H H' → Q (.bl true) H'
theorem same_comp {K : PySem.W.Frag} {J : It} {H1 : Hp} {D : Addr} {ds : List PyData} {m : Nat} {x1 x2 : V} {Qd : Hp → Prop} (Z : ZWalk J H1 ds) (nD : H1 D = none) (hlen : ds.length ≤ lim) (hf : fitA ds m = true) (hd : ∀ H, Sm H1 H → H D = some (.lst ((List.replicate ds.length true).map V.bl)) → Qd H) :
    ∃ W : Nat → Nat → Hp → Prop, (∃ m, W 0 m (upd H1 D (.lst []))) ∧ ∀ i m' H, W i m' H → (J.stop i H ∧ Qd H) ∨ (J.go i H ∧ ∃ Nx : Hp → Prop, (∀ H', Nx H' → ∃ m'', m'' < m' ∧ W (i + 1) m'' H') ∧ ∀ x H', J.yld i H x H' → (gTup K 2 (gCons (gName 2) (gCons (gName 3) gNil))) x (wipe [some x1, some x2, none, none] [2, 3]) H' fun σ2 H2 => wipe σ2 [2, 3] = wipe [some x1, some x2, none, none] [2, 3] ∧ tYes σ2 H2 fun b H3 =>
      if b = true then (tCall (spSame (m + 1)) [] E0 (tCons (tVar 2) (tCons (tVar 3) tNil))) σ2 H3 fun y H4 => ∃ acc, H4 D = some (.lst acc) ∧ acc.length < sizeLine ∧ Nx (upd H4 D (.lst (acc ++ [y]))) else Nx H3) := by
  refine lc_walk (n := ds.length) (fun j H2 => Sm H1 H2 ∧ H2 D = some (.lst ((List.replicate j true).map V.bl))) ⟨Sm.new nD, upd_same⟩ (fun j H2 hj h => Z.go _ _ h.1 hj) (fun H2 h => Z.stop _ h.1) ?_ fun H2 h => hd H2 h.1 h.2
  rintro j x H2 H' hj ⟨s, eD⟩ hy
  obtain ⟨T, a, b, d, rfl, nT, rfl, ed, ra, rb⟩ := Z.yld _ _ _ _ s hj hy
  refine ⟨T, _, rfl, SqT.of upd_same, rfl, _, _, rfl, _, _, rfl, rfl, rfl, ?_⟩
  dsimp only [tYes]
  rw [if_pos rfl]
  have sT : Sm H2 (upd H2 T (.tup [a, b])) := Sm.new nT
  refine ⟨_, rfl, _, rfl, a, b, d, rfl, ra.sm sT, rb.sm sT, fitA_at hf ed, fun H3 s3 => ⟨_, s3 _ _ (sT _ _ eD), ?_, ?_, ?_⟩⟩
  · simp
    have := lim_lt
    omega
  · exact fun c o e => by
      rw [upd_ne (ne_of_none e nD)]
      exact s3 _ _ (sT _ _ (s _ _ e))
  · rw [upd_same, List.replicate_succ', List.map_append]
    rfl
section
variable {P : Program} {w : World} {K : PySem.W.Frag} {mg : Str → Option Value} {base : Heap}
theorem sc__law_same : FnScope ["found", "due", "one", "other"] ["found", "due"] (defScope s_law_same) := ⟨rfl, rfl, rfl, by decide +kernel, rfl, by decide +kernel, by decide +kernel⟩
theorem ok__law_same (B : Bt mg) (F0 : Fn K mg d_law_same) : ∀ n, Df P w K mg base CX0 n "_law_same" ["found", "due"] (spSame n)
  | 0 => Df.off F0 fun f fd F => F.bindsN fun _ _ _ _ _ _ us hl => match us, hl with | [_, _], _ => rfl
  | n + 1 => by
    have D1 : Df P w K mg base CX0 n "_law_same" ["found", "due"] (spSame n) := ok__law_same B F0 n
    obtain ⟨f, fd, hm, F⟩ := F0
    refine ⟨f, fd, hm, F.kp, F.bindsN fun _ _ _ _ _ _ us hl => match us, hl with | [_, _], _ => rfl, ?_⟩
    refine F.ok sc__law_same (fun vs H Q E h => by obtain ⟨w, n, N, rfl, _⟩ := h; rfl) (fun cdv A outer s H vs Q E hr h => ?_)
    obtain ⟨u, v, d, rfl, ru, rv, hf, q⟩ := h
    refine ⟨_, PSs.nox (pss_cons (ps_if (pt_val (pe_callB (call_isD kit_dict) (by rfl) B.isinstance (by decide +kernel) (pa_cons (pv 1) (pa_cons (pe_ty "dict" B.dict (by decide +kernel)) pa_nil)))) (pss_one (ps_ret (pe_and (pe_callB (call_isD kit_dict) (by rfl) B.isinstance (by decide +kernel) (pa_cons (pv 0) (pa_cons (pe_ty "dict" B.dict (by decide +kernel)) pa_nil))) (pe_one (pe_df D1 hr pass0 (pa_cons (pe_listItems rfl (pv 0) (by rfl) B.list (by decide +kernel)) (pa_cons (pe_listItems rfl (pv 1) (by rfl) B.list (by decide +kernel)) pa_nil))))))) pss_nil)
      (pss_cons (ps_if (pt_val (pe_callB (call_isD2 kit_list kit_tuple isL_or) (by rfl) B.isinstance (by decide +kernel) (pa_cons (pv 1) (pa_cons (pe_tup (pa_cons (pe_ty "list" B.list (by decide +kernel)) (pa_cons (pe_ty "tuple" B.tuple (by decide +kernel)) pa_nil))) pa_nil)))) (pss_cons (ps_if (PW.pt (pw_or (pt_cmpR op_ne (pe_callB (call_isD kit_list) (by rfl) B.isinstance (by decide +kernel) (pa_cons (pv 0) (pa_cons (pe_ty "list" B.list (by decide +kernel)) pa_nil))) (pe_callB (call_isD kit_list) (by rfl) B.isinstance (by decide +kernel) (pa_cons (pv 1) (pa_cons (pe_ty "list" B.list (by decide +kernel)) pa_nil))) (nomark _)) (pw_or1 (pt_cmpR op_ne (pe_callB (call_isD kit_tuple) (by rfl) B.isinstance (by decide +kernel) (pa_cons (pv 0) (pa_cons (pe_ty "tuple" B.tuple (by decide +kernel)) pa_nil))) (pe_callB (call_isD kit_tuple) (by rfl) B.isinstance (by decide +kernel) (pa_cons (pv 1) (pa_cons (pe_ty "tuple" B.tuple (by decide +kernel)) pa_nil))) (nomark _))))) (pss_one (ps_ret pe_bl)) pss_nil)
      (pss_one (ps_ret (pe_and (pe_cmpR op_eq (pe_callB call_lenS (by rfl) B.len (by decide +kernel) (pa_cons (pv 0) pa_nil)) (pe_callB call_lenS (by rfl) B.len (by decide +kernel) (pa_cons (pv 1) pa_nil)) (nomark _)) (pe_one (pe_callB (cr_all rfl) (by rfl) B.all (by decide +kernel) (pa_cons (pe_lc (own := [("one", 2), ("other", 3)]) (g := gTup K 2 (gCons (gName 2) (gCons (gName 3) gNil))) (tt := tYes) rfl sc__law_same.nd (pi_zipA (by rfl) B.zip (pa_cons (pv 0) (pa_cons (pv 1) pa_nil))) (blkOk_by (own := [("one", 2), ("other", 3)]) (N := ["found", "due", "one", "other"]) (sc := defScope s_law_same) (by decide +kernel)) (fun _ _ _ _ _ => pg_tup rfl (pgs_cons (pg_name (i := 2) sc__law_same.nd rfl (by first | exact Or.inl rfl | exact Or.inr rfl)) (pgs_cons (pg_name (i := 3) sc__law_same.nd rfl (by first | exact Or.inl rfl | exact Or.inr rfl)) pgs_nil))) (fun _ _ _ _ _ => pts_nil) (fun _ _ _ _ _ => (pe_df D1 hr pass0 (pa_cons (pv 2) (pa_cons (pv 3) pa_nil))))) pa_nil))))))) pss_nil)
      (pss_cons (ps_if (PW.pt (pw_or (pt_val (pe_callB (call_isD3 kit_dict kit_list kit_tuple isDL_or) (by rfl) B.isinstance (by decide +kernel) (pa_cons (pv 0) (pa_cons (pe_tup (pa_cons (pe_ty "dict" B.dict (by decide +kernel)) (pa_cons (pe_ty "list" B.list (by decide +kernel)) (pa_cons (pe_ty "tuple" B.tuple (by decide +kernel)) pa_nil)))) pa_nil)))) (pw_or1 (pt_cmpR op_ne (pe_callB (call_isD kit_bool) (by rfl) B.isinstance (by decide +kernel) (pa_cons (pv 0) (pa_cons (pe_ty "bool" B.bool (by decide +kernel)) pa_nil))) (pe_callB (call_isD kit_bool) (by rfl) B.isinstance (by decide +kernel) (pa_cons (pv 1) (pa_cons (pe_ty "bool" B.bool (by decide +kernel)) pa_nil))) (nomark _))))) (pss_one (ps_ret pe_bl)) pss_nil)
      (pss_one (ps_ret (pe_cmpR op_eq (pv 0) (pv 1) (nomark _))))))), ?_⟩
    have sz2 : ([V.ty "list", V.ty "tuple"] : List V).length ≤ sizeLine := by show 2 ≤ sizeLine; decide
    have sz3 : ([V.ty "dict", V.ty "list", V.ty "tuple"] : List V).length ≤ sizeLine := by show 3 ≤ sizeLine; decide
    have neB : ∀ b : Bool, (!decide (V.bl b = V.bl b)) = false := fun b => by simp
    by_cases hD : isDL d = true
    · by_cases hd : isD d = true
      · -- a dict
        obtain ⟨ps, rfl⟩ : ∃ ps, d = .dict ps := by
          cases d with
          | dict ps => exact ⟨ps, rfl⟩
          | _ => cases hd
        simp only [fit, Bool.and_eq_true, decide_eq_true_eq, List.isEmpty_iff] at hf
        obtain ⟨h2, rfl⟩ := hf
        obtain ⟨m, rfl⟩ : ∃ m, n = m + 1 := ⟨n - 1, by omega⟩
        cases ru with
        | dct _ ea ka =>
        cases rv with
        | dct _ eb kb =>
        cases ka
        cases kb
        refine ⟨_, rfl, _, .dict [], rfl, .dct trivial eb .nil, _, rfl, iteT ⟨_, rfl, _, .dict [], rfl, .dct trivial ea .nil, _, rfl, iteT ?_⟩⟩
        refine ⟨_, rfl, _, [], rfl, ea, fun G1 p1 t1 s1 n1 _ _ e1 pr1 => ?_⟩
        cases pr1
        refine ⟨_, rfl, _, [], rfl, s1 _ _ eb, fun G2 p2 t2 s2 n2 _ _ e2 pr2 => ?_⟩
        cases pr2
        refine ⟨_, _, .list [], rfl, .lst trivial (s2 _ _ e1) .nil, .lst trivial e2 .nil, ?_, fun H' s3 => q H' (Sm.trans (Sm.trans s1 s2) s3)⟩
        simp only [fit, fitA, Bool.and_eq_true, decide_eq_true_eq]
        exact ⟨⟨by omega, by show 0 ≤ lim; decide⟩, trivial⟩
      · have hL : isL d = true := by
          cases d with
          | dict _ => exact absurd rfl hd
          | list _ => rfl
          | tuple _ => rfl
          | _ => cases hD
        refine ⟨_, rfl, v, d, rfl, rv, _, rfl, ite2 (fun z => absurd z hd) (fun _ => ?_)⟩
        refine ⟨_, rfl, sz2, fun p1 np1 => ⟨v, p1, d, rfl, upd_same, rv.sm (Sm.new np1), _, rfl, ite2 (fun _ => ?_) (fun z => absurd hL z)⟩⟩
        have ru1 := ru.sm (Sm.new (o := .tup [.ty "list", .ty "tuple"]) np1)
        have rv1 := rv.sm (Sm.new (o := .tup [.ty "list", .ty "tuple"]) np1)
        refine ⟨_, rfl, u, d, rfl, ru1, _, rfl, v, d, rfl, rv1, rfl, _, rfl, ?_⟩
        rw [neB]
        refine iteF ⟨_, rfl, u, d, rfl, ru1, _, rfl, v, d, rfl, rv1, rfl, _, rfl, ?_⟩
        rw [neB]
        refine iteF ?_
        obtain ⟨hn1, hlen, hfA⟩ := fit_its hf hL
        obtain ⟨m, rfl⟩ : ∃ m, n = m + 1 := ⟨n - 1, by omega⟩
        generalize hH1 : upd H p1 (.tup [V.ty "list", V.ty "tuple"]) = H1 at ru1 rv1
        have s1 : Sm H H1 := by
          rw [← hH1]
          exact Sm.new np1
        refine ⟨_, rfl, u, d, rfl, ru1, hL, _, rfl, v, d, rfl, rv1, hL, rfl, _, rfl, ite2 (fun _ => ?_) (fun z => absurd (decide_eq_true rfl) z)⟩
        have hall : (List.replicate (its d).length true).all id = true := by simp
        cases d with
        | list ds =>
          cases ru1 with
          | lst _ ea ra =>
          cases rv1 with
          | lst _ eb rb =>
          refine ⟨_, rfl, _, rfl, _, _, _, _, rfl, .inl ⟨SqL.of ea, SqL.of eb, fun D nD => same_comp (.lists ea eb ra rb) nD hlen hfA fun H2 s2 e2 => ?_⟩⟩
          refine ⟨D, List.replicate ds.length true, rfl, SqL.of e2, ?_⟩
          show Q (.bl ((List.replicate ds.length true).all id)) H2
          rw [show (List.replicate ds.length true).all id = true from hall]
          exact q H2 (s1.trans s2)
        | tuple ds =>
          cases ru1 with
          | tup ea ra =>
          cases rv1 with
          | tup eb rb =>
          refine ⟨_, rfl, _, rfl, _, _, _, _, rfl, .inr ⟨SqT.of ea, SqT.of eb, fun D nD => same_comp (.tups ea eb ra rb) nD hlen hfA fun H2 s2 e2 => ?_⟩⟩
          refine ⟨D, List.replicate ds.length true, rfl, SqL.of e2, ?_⟩
          show Q (.bl ((List.replicate ds.length true).all id)) H2
          rw [show (List.replicate ds.length true).all id = true from hall]
          exact q H2 (s1.trans s2)
        | _ => cases hL
    · have hd : ¬ isD d = true := fun z => hD (by cases d <;> first | rfl | cases z)
      have hl : ¬ isL d = true := fun z => hD (by cases d <;> first | rfl | cases z)
      have e : u = v ∧ scal u v = true := by
        cases d with
        | none =>
          cases ru
          cases rv
          exact ⟨rfl, rfl⟩
        | bool b =>
          cases ru
          cases rv
          exact ⟨rfl, rfl⟩
        | int i =>
          cases ru
          cases rv
          exact ⟨rfl, rfl⟩
        | str x =>
          cases ru
          cases rv
          exact ⟨rfl, rfl⟩
        | _ => exact absurd rfl hD
      obtain ⟨rfl, hs⟩ := e
      refine ⟨_, rfl, u, d, rfl, rv, _, rfl, ite2 (fun z => absurd z hd) (fun _ => ?_)⟩
      refine ⟨_, rfl, sz2, fun p1 np1 => ⟨u, p1, d, rfl, upd_same, rv.sm (Sm.new np1), _, rfl, ite2 (fun z => absurd z hl) (fun _ => ?_)⟩⟩
      refine ⟨_, rfl, sz3, fun p2 np2 => ⟨u, p2, d, rfl, upd_same, (rv.sm (Sm.new np1)).sm (Sm.new np2), _, rfl, ite2 (fun z => absurd z hD) (fun _ => ?_)⟩⟩
      have ru2 := (rv.sm (Sm.new (o := .tup [.ty "list", .ty "tuple"]) np1)).sm (Sm.new (o := .tup [.ty "dict", .ty "list", .ty "tuple"]) np2)
      refine ⟨_, rfl, u, d, rfl, ru2, _, rfl, u, d, rfl, ru2, rfl, _, rfl, ?_⟩
      rw [neB]
      refine iteF ⟨_, rfl, _, rfl, hs, ?_⟩
      have := q _ ((Sm.new (o := .tup [.ty "list", .ty "tuple"]) np1).trans (Sm.new (o := .tup [.ty "dict", .ty "list", .ty "tuple"]) np2))
      rw [decide_eq_true rfl]
      exact this
end
end K8

namespace K8
open PySem PySem.Spec PyProof.Rows L2 WR
/-- a short text of known signs -/
def okStr (x : Str) : Bool := decide (x.length ≤ 12) && x.cps.toList.all fun c => decide (c < 4294967296)
/-- a dict of one text and one number -/
def okOne : List (PyData × PyData) → Bool
  | [(.str x, .int i)] => okStr x && decide (i.natAbs.log2 < 100)
  | _ => false
/-- so long a list may be, n levels from it on -/
def capT (n : Nat) : Nat := if n ≤ 2 then 8 else 40
theorem cap_le (n : Nat) : capT n ≤ 40 := by
  unfold capT
  split <;> omega
theorem cap_ge (n : Nat) : 8 ≤ capT n := by
  unfold capT
  split <;> omega
theorem cap_mono {n m : Nat} (h : n ≤ m) : capT n ≤ capT m := by
  unfold capT
  split <;> split <;> omega
mutual
/-- no deeper than n, no longer than it may be -/
def tame (b : Bool) : PyData → Nat → Bool
  | .list xs, n => decide (1 ≤ n) && decide (xs.length ≤ capT n) && tameA b xs (n - 1)
  | .tuple xs, n => decide (1 ≤ n) && decide (xs.length ≤ capT n) && tameA b xs (n - 1)
  | .dict ps, n => decide (2 ≤ n) && (ps.isEmpty || (b && okOne ps))
  | .str x, _ => okStr x
  | .int i, _ => decide (i.natAbs.log2 < 100)
  | .bool _, _ => true
  | .none, _ => true
def tameA (b : Bool) : List PyData → Nat → Bool
  | [], _ => true
  | d :: ds, n => tame b d n && tameA b ds n
end
theorem tameA_at {b : Bool} : ∀ {ds : List PyData} {n i : Nat} {d : PyData}, tameA b ds n = true → ds[i]? = some d → tame b d n = true
  | [], n, i, d, _, e => by simp at e
  | x :: xs, n, 0, d, h, e => by
    simp only [tameA, Bool.and_eq_true] at h
    simp at e
    rw [← e]
    exact h.1
  | x :: xs, n, i + 1, d, h, e => by
    simp only [tameA, Bool.and_eq_true] at h
    exact tameA_at h.2 (by simpa using e)
theorem tame_its {b : Bool} {d : PyData} {n : Nat} (h : tame b d n = true) (hL : isL d = true) : 1 ≤ n ∧ (its d).length ≤ 40 ∧ tameA b (its d) (n - 1) = true := by
  cases d with
  | list xs =>
    simp only [tame, Bool.and_eq_true, decide_eq_true_eq] at h
    exact ⟨h.1.1, Nat.le_trans h.1.2 (cap_le n), h.2⟩
  | tuple xs =>
    simp only [tame, Bool.and_eq_true, decide_eq_true_eq] at h
    exact ⟨h.1.1, Nat.le_trans h.1.2 (cap_le n), h.2⟩
  | _ => cases hL
mutual
inductive Lo : PyData → PyData → Prop
  | same {d : PyData} : isDL d = false → Lo d d
  | dct {ps : List (PyData × PyData)} : Lo (.dict ps) (.dict ps)
  | ll {xs ys : List PyData} : LoA xs ys → Lo (.list xs) (.list ys)
  | lt {xs ys : List PyData} : LoA xs ys → Lo (.list xs) (.tuple ys)
  | tl {xs ys : List PyData} : LoA xs ys → Lo (.tuple xs) (.list ys)
  | tt {xs ys : List PyData} : LoA xs ys → Lo (.tuple xs) (.tuple ys)
inductive LoA : List PyData → List PyData → Prop
  | nil : LoA [] []
  | cons {d e : PyData} {ds es : List PyData} : Lo d e → LoA ds es → LoA (d :: ds) (e :: es)
end
theorem All2.lo : ∀ {ds es : List PyData}, All2 Lo ds es → LoA ds es
  | _, _, .nil => .nil
  | _, _, .cons a t => .cons a t.lo
theorem Lo.list {d : PyData} {ys : List PyData} (h : isL d = true) (a : LoA (its d) ys) : Lo d (.list ys) := by
  cases d with
  | list _ => exact .ll a
  | tuple _ => exact .tl a
  | _ => cases h
theorem Lo.tuple {d : PyData} {ys : List PyData} (h : isL d = true) (a : LoA (its d) ys) : Lo d (.tuple ys) := by
  cases d with
  | list _ => exact .lt a
  | tuple _ => exact .tt a
  | _ => cases h
/-- what did not stand in H -/
def NwA (H : Hp) : Addr → Prop := fun a => H a = none
def spLoose : Nat → Sp
  | 0 => fun _ _ _ _ => False
  | n + 1 => fun vs H Q _ => ∃ (w : Addr) (m : Nat) (N : Addr → Prop) (v : V) (d : PyData), vs = [.ref w, v] ∧ Off w N ∧ Wl H w m ∧ m + 41 ^ n + 5000 < top0 ∧ Dr N H v d ∧ tame true d n = true ∧
    ∀ u e H', Gw w H H' → Wl H' w (m + 41 ^ n) → Dr (NwA H) H' u e → Lo d e → Q u H'
theorem dk_keys {N : Addr → Prop} {H : Hp} : ∀ {ps : List (PyData × PyData)} {kvs : List (Key × V)}, DrK N H kvs ps → DrA (fun _ => False) H (kvs.map fun kv => kV kv.1) (ps.map (·.1))
  | _, _, .nil => .nil
  | _, _, .cons r t => .cons (.str _) (dk_keys t)
section
variable {P : Program} {w : World} {K : PySem.W.Frag} {mg : Str → Option Value} {base : Heap}
theorem sc__law_loose : FnScope ["well", "thing", "found", "one", "key"] ["well", "thing"] (defScope s_law_loose) := ⟨rfl, rfl, rfl, by decide +kernel, rfl, by decide +kernel, by decide +kernel⟩
theorem ok__law_loose (B : Bt mg) (F0 : Fn K mg d_law_loose) (D2 : Df P w K mg base CX0 1 "_law_draw" ["well", "many"] spDraw) (D3 : Df P w K mg base CX0 2 "_law_mixed" ["well", "some"] spMixed) : ∀ n, Df P w K mg base CX0 (n + 2) "_law_loose" ["well", "thing"] (spLoose n)
  | 0 => (Df.off F0 fun f fd F => F.bindsN fun _ _ _ _ _ _ us hl => match us, hl with | [_, _], _ => rfl).mono (by decide)
  | n + 1 => by
    have D1 : Df P w K mg base CX0 (n + 2) "_law_loose" ["well", "thing"] (spLoose n) := ok__law_loose B F0 D2 D3 n
    obtain ⟨f, fd, hm, F⟩ := F0
    refine ⟨f, fd, hm, F.kp, F.bindsN fun _ _ _ _ _ _ us hl => match us, hl with | [_, _], _ => rfl, ?_⟩
    refine F.ok sc__law_loose (fun vs H Q E h => by obtain ⟨w, n, N, v, d, rfl, _⟩ := h; rfl) (fun cdv A outer s H vs Q E hr h => ?_)
    obtain ⟨wa, m, N, v, d, rfl, oN, hw, hm, rd, ht, q⟩ := h
    have hr1 := hr.mono (show 1 ≤ n + 2 by omega)
    have hr2 := hr.mono (show 2 ≤ n + 2 by omega)
    refine ⟨_, PSs.nox (pss_cons (ps_if (pt_val (pe_callB (call_isD kit_dict) (by rfl) B.isinstance (by decide +kernel) (pa_cons (pv 1) (pa_cons (pe_ty "dict" B.dict (by decide +kernel)) pa_nil)))) (pss_one (ps_ret (pe_callTy (call_dictP rfl) (by rfl) B.dict (by decide +kernel) (pa_cons (pe_lc (own := [("key", 4)]) (g := gName 4) (tt := tYes) rfl sc__law_loose.nd (pi_seq (pe_df D3 hr2 pass0 (pa_cons (pv 0) (pa_cons (pe_callTy (call_listD rfl) (by rfl) B.list (by decide +kernel) (pa_cons (pv 1) pa_nil)) pa_nil)))) (blkOk_by (own := [("key", 4)]) (N := ["well", "thing", "found", "one", "key"]) (sc := defScope s_law_loose) (by decide +kernel)) (fun _ _ _ _ _ => pg_name (i := 4) sc__law_loose.nd rfl (by first | exact Or.inl rfl | exact Or.inr rfl)) (fun _ _ _ _ _ => pts_nil) (fun _ _ _ _ _ => (pe_tup (pa_cons (pv 4) (pa_cons (pe_df D1 hr pass0 (pa_cons (pv 0) (pa_cons (pe_dget (hu_of hr) (pv 1) (pv 4) (fun _ _ => rfl)) pa_nil))) pa_nil))))) pa_nil)))) pss_nil)
      (pss_cons (ps_if (pt_not (pt_val (pe_callB (call_isD2 kit_list kit_tuple isL_or) (by rfl) B.isinstance (by decide +kernel) (pa_cons (pv 1) (pa_cons (pe_tup (pa_cons (pe_ty "list" B.list (by decide +kernel)) (pa_cons (pe_ty "tuple" B.tuple (by decide +kernel)) pa_nil))) pa_nil))))) (pss_one (ps_ret (pv 1))) pss_nil)
      (pss_cons (ps_setLc (i := 2) (own := [("one", 3)]) (g := gName 3) (tt := tYes) rfl sc__law_loose.nd rfl rfl (sw_true rfl rfl rfl (by decide +kernel)) (pi_seq (pv 1)) (blkOk_by (own := [("one", 3)]) (N := ["well", "thing", "found", "one", "key"]) (sc := defScope s_law_loose) (by decide +kernel)) (fun _ _ _ _ _ => pg_name (i := 3) sc__law_loose.nd rfl (by first | exact Or.inl rfl | exact Or.inr rfl)) (fun _ _ _ _ _ => pts_nil) (fun _ _ _ _ _ => (pe_df D1 hr pass0 (pa_cons (pv 0) (pa_cons (pv 3) pa_nil)))))
      (pss_one (ps_ret (pe_ifExp (pt_cmpR op_eq (pe_df D2 hr1 pass0 (pa_cons (pv 0) (pa_cons pe_int pa_nil))) pe_int (nomark _)) (pv 2) (pe_callTy (call_tupN (NwA H)) (by rfl) B.tuple (by decide +kernel) (pa_cons (pv 2) pa_nil)))))))), ?_⟩
    have sz2 : ([V.ty "list", V.ty "tuple"] : List V).length ≤ sizeLine := by show 2 ≤ sizeLine; decide
    have htop : top0 = 1000000000000 := rfl
    by_cases hd : isD d = true
    · obtain ⟨ps, rfl⟩ : ∃ ps, d = .dict ps := by
        cases d with
        | dict ps => exact ⟨ps, rfl⟩
        | _ => cases hd
      have hnew : 2 ≤ n ∧ (ps = [] ∨ okOne ps = true) := by
        simp only [tame, Bool.and_eq_true, decide_eq_true_eq, Bool.or_eq_true, List.isEmpty_iff, Bool.true_and] at ht
        exact ht
      obtain ⟨h2, hps⟩ := hnew
      obtain ⟨k, rfl⟩ : ∃ k, n = k + 1 := ⟨n - 1, by omega⟩
      have c1 : 1 ≤ 41 ^ k := Nat.one_le_pow _ _ (by decide)
      have c41 : 41 ^ (k + 1) = 41 ^ k * 41 := Nat.pow_succ ..
      rw [c41] at hm q
      cases rd with
      | @dct a kvs _ na ea ka =>
      have naw := oN a na
      refine ⟨_, rfl, _, _, rfl, .dct trivial ea (ka.mono (fun _ _ => trivial) (Stays.of Sm.rfl')), _, rfl, iteT ?_⟩
      refine ⟨_, rfl, _, rfl, a, kvs, rfl, .inl ea, fun p np => ?_⟩
      have sp : Sm H (upd H p (.lst (kvs.map fun kv => kV kv.1))) := Sm.new np
      have len1 : ps.length ≤ 1 := by
        rcases hps with rfl | z
        · exact Nat.zero_le _
        · match ps, z with
          | [(.str _, .int _)], _ => exact Nat.le_refl _
      refine ⟨wa, m, fun b => b = p, .ref p, .list (ps.map (·.1)), rfl, (fun b z => by rw [z]; exact hw.ne np), hw.sm sp, by have : lim = 4000 := rfl; omega, .lst rfl upd_same (((dk_keys ka).sm sp).wide fun _ z => z.elim), rfl, by have : lim = 4000 := rfl; simp [its]; omega, fun l ys es H' nl pm g hw' el ry => ?_⟩
      have gH : Gw wa H H' := (Gw.of sp).trans g
      have hw2 : Wl H' wa (m + 1) := hw'.mono (by simp [its]; omega)
      refine ⟨l, ys, rfl, .inl el, fun J hJ D nD => ?_⟩
      have nDw := hw2.ne nD
      have hJl : J = Itl K l := by
        rcases hJ with ⟨z, _⟩ | ⟨_, z⟩
        · exact z
        · rw [el] at z
          cases z
      subst hJl
      rcases hps with rfl | hone
      · cases ka
        have ees : es = [] := List.Perm.eq_nil pm
        subst ees
        cases ry
        refine lc_walk (n := 0) (fun _ H2 => H2 = upd H' D (.lst [])) rfl (fun i _ hi => absurd hi (Nat.not_lt_zero i)) (fun H2 e => ?_) (fun i _ _ _ hi => absurd hi (Nat.not_lt_zero i)) (fun H2 e => ?_)
        · subst e
          exact ⟨[], SqL.of (by rw [upd_ne (ne_of_none el nD)]; exact el), Nat.le_refl _⟩
        · subst e
          refine ⟨D, [], [], rfl, SqL.of upd_same, .nil, fun b nb => ?_⟩
          have s3 : Sm H' (upd (upd H' D (.lst [])) b (.dK [])) := (Sm.new nD).trans (Sm.new nb)
          have nb0 : H b = none := Gw.free hw2 gH ((Sm.new nD).free nb)
          exact q _ (.dict []) _ (gH.trans (Gw.of s3)) ((hw2.sm s3).mono (by omega)) (.dct nb0 upd_same .nil) .dct
      · obtain ⟨x, i, rfl⟩ : ∃ x i, ps = [(.str x, .int i)] := by
          match ps, hone with
          | [(.str x, .int i)], _ => exact ⟨x, i, rfl⟩
        have hi : decide (i.natAbs.log2 < 100) = true := by
          simp only [okOne, Bool.and_eq_true] at hone
          exact hone.2
        cases ka with
        | cons r0 t0 =>
        cases t0
        cases r0
        have ees : es = [.str x] := List.Perm.eq_singleton pm
        subst ees
        cases ry with
        | cons r0 t0 =>
        cases t0
        cases r0
        have ea2 := gH a _ naw ea
        refine lc_walk (n := 1) (fun j H2 => (j = 0 ∧ H2 = upd H' D (.lst [])) ∨ (j = 1 ∧ ∃ T, H2 D = some (.lst [.ref T]) ∧ H2 T = some (.tup [.str x, .int i]) ∧ Gw wa H' H2 ∧ Wl H2 wa (m + 1 + 41 ^ k))) (.inl ⟨rfl, rfl⟩) (fun j H2 hj h => ?_) (fun H2 h => ?_) (fun j y H2 H3 hj h hy => ?_) (fun H2 h => ?_)
        · rcases h with ⟨rfl, rfl⟩ | ⟨rfl, _⟩
          · exact ⟨_, _, SqL.of (by rw [upd_ne (ne_of_none el nD)]; exact el), rfl⟩
          · exact absurd hj (Nat.lt_irrefl _)
        · rcases h with ⟨z, _⟩ | ⟨_, T, _, _, g2, _⟩
          · cases z
          · exact ⟨_, SqL.of (g2 l _ (by intro z; rw [z] at nl; obtain ⟨_, _, _, e', _⟩ := (hw.sm sp); rw [e'] at nl; cases nl) el), Nat.le_refl _⟩
        · obtain ⟨rfl, rfl⟩ : j = 0 ∧ H2 = upd H' D (.lst []) := by
            rcases h with h | ⟨rfl, _⟩
            · exact h
            · exact absurd hj (Nat.lt_irrefl _)
          obtain ⟨rfl, hy2⟩ := hy
          have hy3 := hy2 _ (SqL.of (by rw [upd_ne (ne_of_none el nD)]; exact el))
          obtain rfl : V.str x = y := Option.some.inj hy3
          refine ⟨rfl, ?_⟩
          dsimp only [tYes]
          rw [if_pos rfl]
          have vk : valV [((Sum.inr x : Key), V.int i)] (Sum.inr x) = some (V.int i) := by simp [valV]
          have hwD := hw2.sm (Sm.new (o := .lst []) nD)
          refine ⟨_, rfl, _, rfl, _, rfl, _, rfl, a, .int i, rfl, by rw [← vk]; exact DGet.k (k := Sum.inr x) (by rw [upd_ne (ne_of_none ea2 nD)]; exact ea2), ?_⟩
          refine ⟨wa, m + 1, fun _ => False, .int i, .int i, rfl, (fun _ z => z.elim), hwD, by omega, .int i, hi, fun u e H4 g4 hw4 r4 lo => ?_⟩
          cases lo with
          | same _ =>
          cases r4
          refine ⟨(by show 2 ≤ sizeLine; decide), fun T nT => ?_⟩
          have eD4 := g4 D _ nDw upd_same
          have nTD : T ≠ D := (ne_of_none eD4 nT).symm
          refine ⟨[], by rw [upd_ne (Ne.symm nTD)]; exact eD4, (by show 0 < sizeLine; decide), .inr ⟨rfl, T, upd_same, by rw [upd_ne nTD]; exact upd_same, fun b o hb e => ?_, ?_⟩⟩
          · rw [upd_ne (ne_of_none e nD)]
            have e5 : upd H' D (.lst []) b = some o := by rw [upd_ne (ne_of_none e nD)]; exact e
            exact (Sm.new nT) b o (g4 b o hb e5)
          · obtain ⟨a', b', c', e', r'⟩ := hw4.sm (Sm.new (o := .tup [.str x, .int i]) nT)
            exact ⟨a', b', c', by rw [upd_ne (Ne.symm nDw)]; exact e', r'⟩
        · rcases h with ⟨z, _⟩ | ⟨_, T, eD, eT, g2, hw3⟩
          · cases z
          refine ⟨D, [T], [(Sum.inr x, .int i)], rfl, SqL.of eD, .cons (SqT.of eT) .nil, fun b nb => ?_⟩
          have nb0 : H b = none := Gw.free hw3 (gH.trans g2) nb
          exact q _ (.dict [(.str x, .int i)]) _ ((gH.trans g2).trans (Gw.of (Sm.new nb))) ((hw3.sm (Sm.new nb)).mono (by omega)) (.dct nb0 upd_same (.cons (.int i) .nil)) .dct
    refine ⟨_, rfl, v, d, rfl, rd.all, _, rfl, ite2 (fun z => absurd z hd) (fun _ => ?_)⟩
    refine ⟨_, rfl, sz2, fun p1 np1 => ⟨v, p1, d, rfl, upd_same, (rd.sm (Sm.new np1)).all, _, rfl, ?_⟩⟩
    have s1 : Sm H (upd H p1 (.tup [.ty "list", .ty "tuple"])) := Sm.new np1
    refine ite2 (fun z0 => ?_) (fun z0 => ?_)
    · have hl : isL d = false := by simpa using z0
      have hf : WR.fz d = true := by cases d <;> first | rfl | exact absurd rfl hd | cases hl
      refine ⟨_, rfl, q v d _ (Gw.of s1) ((hw.sm s1).mono (Nat.le_add_right _ _)) ((rd.sm s1).fz hf) (.same ?_)⟩
      cases d <;> first | rfl | exact absurd rfl hd | cases hl
    have hL : isL d = true := by simpa using z0
    generalize hH1 : upd H p1 (.tup [V.ty "list", V.ty "tuple"]) = H1 at s1
    obtain ⟨hn1, hlen, hA⟩ := tame_its ht hL
    obtain ⟨k, rfl⟩ : ∃ k, n = k + 1 := ⟨n - 1, by omega⟩
    have hw1 := hw.sm s1
    have rd1 := (rd.sm s1).live
    have off1 : Off wa (fun a => N a ∧ H1 a ≠ none) := fun a h => oN a h.1
    obtain ⟨a, xs, rfl, hq, rs⟩ := rd1.seq hL
    have naw : a ≠ wa := fun z => by
      obtain ⟨a', b', c', e', _⟩ := hw1
      have : Dr (fun a => N a ∧ H1 a ≠ none) H1 (.ref a) d := rd1
      rcases hq with e | e
      · cases d with
        | list ds => cases rd1 with | lst no e2 _ => exact off1 a no (by assumption)
        | tuple ds => cases rd1 with | tup e2 _ => rw [e] at e2; cases e2
        | _ => cases hL
      · rw [z, e'] at e
        cases e
    have c1 : 1 ≤ 41 ^ k := Nat.one_le_pow _ _ (by decide)
    have c41 : 41 ^ (k + 1) = 41 ^ k * 41 := Nat.pow_succ ..
    rw [c41] at hm q
    generalize hc : 41 ^ k = c at hm q c1
    refine ⟨_, rfl, a, xs, rfl, hq, fun J hJ D nD => ?_⟩
    have nD0 : H D = none := s1.free nD
    have nDw := hw1.ne nD
    have off2 : Off wa (fun b => (No b ∨ H1 b = none) ∧ b ≠ D) := fun b h => by
      rcases h.1 with z | z
      · exact z.elim
      · exact hw1.ne z
    have mulle : ∀ j, j ≤ 40 → c * j ≤ c * 40 := fun j hj => Nat.mul_le_mul_left c hj
    refine lc_w (c := c) (n := m) (N := No) Lo (WalkW.seq hJ naw off1 hw1 rs) nD hw1 (fun _ z => z.elim) (by have : lim = 4000 := rfl; omega) (fun _ => rfl) (fun x d' j H2 Q' hd' g2 hw2 rx q' nD2 => ?_) (fun H2 ys es g2 hw2 eD ry al => ?_)
    · have hj : j < (its d).length := (List.getElem?_eq_some_iff.mp hd').1
      have := mulle j (by omega)
      have e1 : c * (j + 1) = c * j + c := Nat.mul_succ c j
      have := mulle (j + 1) (by omega)
      refine ⟨_, rfl, _, rfl, wa, m + c * j, _, x, d', rfl, off1, hw2, by rw [hc]; omega, rx, tameA_at hA hd', fun u e H3 g3 hw3 r3 lo => ?_⟩
      rw [hc] at hw3
      refine q' u e H3 g3 (by rw [e1, ← Nat.add_assoc]; exact hw3) (r3.wide fun b z => ?_) lo
      exact ⟨.inr (g2.free hw2 z), fun y => nD2 (by rw [← y]; exact z)⟩
    · have := mulle (its d).length hlen
      have lo := al.lo
      refine ⟨_, rfl, wa, 2, m + c * (its d).length, rfl, by decide, by decide, hw2, by omega, fun kk H3 hk g3 hw3 => ⟨rfl, _, rfl, ?_⟩⟩
      have gD : Dr (NwA H) H3 (.ref D) (.list es) := .lst nD0 (g3 D _ nDw eD) ((ry.gn off2 hw2 g3).wide fun b z => z.1.elim (fun y => y.elim) (fun y => s1.free y))
      have gg : Gw wa H H3 := ((Gw.of s1).trans g2).trans g3
      have hw4 := hw3.mono (show m + c * (its d).length + 1 ≤ m + c * 41 by omega)
      refine ite2 (fun _ => ⟨_, rfl, q _ (.list es) H3 gg hw4 gD (.list hL lo)⟩) (fun _ => ⟨_, rfl, _, .list es, rfl, gD, rfl, fun u H4 s4 r4 => ?_⟩)
      exact q u (.tuple es) H4 (gg.trans (Gw.of s4)) (hw4.sm s4) r4 (.tuple hL lo)
end
end K8

namespace K8
open PySem PySem.Spec PyProof.Rows L2 WR
/-! ### what is the caller's alone: its lists, each once -/
mutual
inductive Ow (H : Hp) : V → PyData → List Addr → Prop
  | non : Ow H .non .none []
  | bl (b : Bool) : Ow H (.bl b) (.bool b) []
  | int (i : Int) : Ow H (.int i) (.int i) []
  | str (x : Str) : Ow H (.str x) (.str x) []
  | lst {a : Addr} {xs : List V} {ds : List PyData} {fs : List (List Addr)} : H a = some (.lst xs) → OwA H xs ds fs → Ow H (.ref a) (.list ds) (a :: fs.flatten)
  | tup {a : Addr} {xs : List V} {ds : List PyData} {fs : List (List Addr)} : H a = some (.tup xs) → OwA H xs ds fs → Ow H (.ref a) (.tuple ds) fs.flatten
inductive OwA (H : Hp) : List V → List PyData → List (List Addr) → Prop
  | nil : OwA H [] [] []
  | cons {v : V} {vs : List V} {d : PyData} {ds : List PyData} {f : List Addr} {fs : List (List Addr)} : Ow H v d f → OwA H vs ds fs → OwA H (v :: vs) (d :: ds) (f :: fs)
end
mutual
theorem Ow.dr {H : Hp} : ∀ {d : PyData} {v : V} {f : List Addr}, Ow H v d f → Dr All H v d
  | _, _, _, .non => .non
  | _, _, _, .bl b => .bl b
  | _, _, _, .int i => .int i
  | _, _, _, .str x => .str x
  | _, _, _, .lst e r => .lst trivial e (OwA.dr r)
  | _, _, _, .tup e r => .tup e (OwA.dr r)
theorem OwA.dr {H : Hp} : ∀ {ds : List PyData} {vs : List V} {fs : List (List Addr)}, OwA H vs ds fs → DrA All H vs ds
  | _, _, _, .nil => .nil
  | _, _, _, .cons r t => .cons (Ow.dr r) (OwA.dr t)
end
mutual
theorem Ow.keep {H H' : Hp} (ht : ∀ a xs, H a = some (.tup xs) → H' a = some (.tup xs)) : ∀ {d : PyData} {v : V} {f : List Addr}, Ow H v d f → (∀ b ∈ f, ∀ o, H b = some o → H' b = some o) → Ow H' v d f
  | _, _, _, .non, _ => .non
  | _, _, _, .bl b, _ => .bl b
  | _, _, _, .int i, _ => .int i
  | _, _, _, .str x, _ => .str x
  | _, _, _, .lst e r, k => .lst (k _ (List.mem_cons_self ..) _ e) (OwA.keep ht r fun b hb => k b (List.mem_cons_of_mem _ hb))
  | _, _, _, .tup e r, k => .tup (ht _ _ e) (OwA.keep ht r k)
theorem OwA.keep {H H' : Hp} (ht : ∀ a xs, H a = some (.tup xs) → H' a = some (.tup xs)) : ∀ {ds : List PyData} {vs : List V} {fs : List (List Addr)}, OwA H vs ds fs → (∀ b ∈ fs.flatten, ∀ o, H b = some o → H' b = some o) → OwA H' vs ds fs
  | _, _, _, .nil, _ => .nil
  | _, _, _, .cons r t, k => .cons (Ow.keep ht r fun b hb => k b (by simp only [List.flatten_cons, List.mem_append]; exact .inl hb)) (OwA.keep ht t fun b hb => k b (by simp only [List.flatten_cons, List.mem_append]; exact .inr hb))
end
mutual
/-- what it owns are lists -/
theorem Ow.lists {H : Hp} : ∀ {d : PyData} {v : V} {f : List Addr}, Ow H v d f → ∀ b ∈ f, ∃ xs, H b = some (.lst xs)
  | _, _, _, .non, b, hb => by cases hb
  | _, _, _, .bl _, b, hb => by cases hb
  | _, _, _, .int _, b, hb => by cases hb
  | _, _, _, .str _, b, hb => by cases hb
  | _, _, _, .lst e r, b, hb => by
    rcases List.mem_cons.mp hb with z | z
    · rw [z]
      exact ⟨_, e⟩
    · exact OwA.lists r b z
  | _, _, _, .tup e r, b, hb => OwA.lists r b hb
theorem OwA.lists {H : Hp} : ∀ {ds : List PyData} {vs : List V} {fs : List (List Addr)}, OwA H vs ds fs → ∀ b ∈ fs.flatten, ∃ xs, H b = some (.lst xs)
  | _, _, _, .nil, b, hb => by cases hb
  | _, _, _, .cons r t, b, hb => by
    simp only [List.flatten_cons, List.mem_append] at hb
    rcases hb with z | z
    · exact Ow.lists r b z
    · exact OwA.lists t b z
end
theorem OwA.get {H : Hp} : ∀ {ds : List PyData} {vs : List V} {fs : List (List Addr)} {i : Nat} {v : V}, OwA H vs ds fs → vs[i]? = some v → ∃ d f, ds[i]? = some d ∧ fs[i]? = some f ∧ Ow H v d f
  | _, _, _, i, v, .nil, e => by simp at e
  | _, _, _, 0, v, .cons r t, e => by
    simp at e
    subst e
    exact ⟨_, _, rfl, rfl, r⟩
  | _, _, _, i + 1, v, .cons r t, e => by
    obtain ⟨d, f, h1, h2, h3⟩ := OwA.get (i := i) (v := v) t (by simpa using e)
    exact ⟨d, f, by simpa using h1, by simpa using h2, h3⟩
theorem OwA.lenF {H : Hp} : ∀ {ds : List PyData} {vs : List V} {fs : List (List Addr)}, OwA H vs ds fs → vs.length = ds.length ∧ vs.length = fs.length
  | _, _, _, .nil => ⟨rfl, rfl⟩
  | _, _, _, .cons _ t => ⟨by simp [(OwA.lenF t).1], by simp [(OwA.lenF t).2]⟩
theorem flat_take {fs : List (List Addr)} {i : Nat} {f : List Addr} (e : fs[i]? = some f) : (fs.take (i + 1)).flatten = (fs.take i).flatten ++ f := by
  rw [List.take_succ, e]
  simp
theorem flat_apart {fs : List (List Addr)} {i : Nat} {f : List Addr} (e : fs[i]? = some f) (nd : fs.flatten.Nodup) : f.Nodup ∧ ∀ b ∈ f, b ∉ (fs.take i).flatten := by
  obtain ⟨hi, e'⟩ := List.getElem?_eq_some_iff.mp e
  have ed : fs.drop i = f :: fs.drop (i + 1) := by rw [List.drop_eq_getElem_cons hi, e']
  have ea : fs.flatten = (fs.take i).flatten ++ (f ++ (fs.drop (i + 1)).flatten) := by
    conv => lhs; rw [← List.take_append_drop i fs]
    rw [List.flatten_append, ed, List.flatten_cons]
  rw [ea] at nd
  obtain ⟨_, n2, n3⟩ := List.nodup_append.mp nd
  obtain ⟨n4, _, _⟩ := List.nodup_append.mp n2
  exact ⟨n4, fun b hb hc => n3 b hc b (List.mem_append_left _ hb) rfl⟩
theorem flat_sub {fs : List (List Addr)} {i : Nat} {b : Addr} (h : b ∈ (fs.take i).flatten) : b ∈ fs.flatten := by
  rw [← List.take_append_drop i fs, List.flatten_append]
  exact List.mem_append_left _ h
section
variable {X : Cx}
/-- isinstance(x, c) by x's type alone -/
def rIsTy (K : PySem.W.Frag) (c : String) (f : PyData → Bool) : List V → Hp → VK → Prop := fun xs H Q => ∃ x d, xs = [x, .ty c] ∧ TyX K H x (.type (tyD d)) ∧ Q (.bl (f d)) H
theorem call_isTy {c : String} {f : PyData → Bool} (hc : ∀ d, kitB (tyD d) c = some (f d)) : CallR X (.builtin "isinstance") (rIsTy X.K c f) := by
  intro pins s σ H xs us Q I r h
  obtain ⟨x, d, rfl, hd, q⟩ := h
  exact call_isi pins s σ H _ us Q I r ⟨x, .ty c, _, _, _, rfl, .ty c, hd, kit_ty (hc d), q⟩
end
/-- all but what is in f stays -/
def Bt1 (f : List Addr) (H H' : Hp) : Prop := ∀ b o, b ∉ f → H b = some o → H' b = some o
def spPoil : Nat → Sp
  | 0 => fun _ _ _ _ => False
  | n + 1 => fun vs H Q _ => ∃ (v : V) (d : PyData) (f : List Addr), vs = [v] ∧ Ow H v d f ∧ f.Nodup ∧ fit d n = true ∧ ∀ H', Bt1 f H H' → Q .non H'
section
variable {P : Program} {w : World} {K : PySem.W.Frag} {mg : Str → Option Value} {base : Heap}
theorem sc__law_spoiled : FnScope ["thing", "key", "part"] ["thing"] (defScope s_law_spoiled) := ⟨rfl, rfl, rfl, by decide +kernel, rfl, by decide +kernel, by decide +kernel⟩
theorem ok__law_spoiled (B : Bt mg) (F0 : Fn K mg d_law_spoiled) : ∀ n, Df P w K mg base CX0 n "_law_spoiled" ["thing"] (spPoil n)
  | 0 => Df.off F0 fun f fd F => F.bindsN fun _ _ _ _ _ _ us hl => match us, hl with | [_], _ => rfl
  | n + 1 => by
    have D1 : Df P w K mg base CX0 n "_law_spoiled" ["thing"] (spPoil n) := ok__law_spoiled B F0 n
    obtain ⟨f, fd, hm, F⟩ := F0
    refine ⟨f, fd, hm, F.kp, F.bindsN fun _ _ _ _ _ _ us hl => match us, hl with | [_], _ => rfl, ?_⟩
    refine F.ok sc__law_spoiled (fun vs H Q E h => by obtain ⟨v, d, f, rfl, _⟩ := h; rfl) (fun cdv A outer s H vs Q E hr h => ?_)
    obtain ⟨v, d, fp, rfl, ow, nd, hf, q⟩ := h
    have hu := hu_of hr
    refine ⟨_, PSs.nox (pss_one (ps_if (pt_val (pe_callB (call_isD kit_dict) (by rfl) B.isinstance (by decide +kernel) (pa_cons (pv 0) (pa_cons (pe_ty "dict" B.dict (by decide +kernel)) pa_nil)))) (pss_cons (ps_for PassesOwn.never rfl (pi_seq (pe_callTy (call_listD rfl) (by rfl) B.list (by decide +kernel) (pa_cons (pv 0) pa_nil))) (pg_name (i := 1) sc__law_spoiled.nd rfl (by first | exact Or.inl rfl | exact Or.inr rfl)) (pss_one (ps_expr (pe_df D1 hr pass0 (pa_cons (pe_dget hu (pv 0) (pv 1) (fun _ _ => rfl)) pa_nil)))))
      (pss_one (ps_asg pe_str (pg_sub (pv 0) pe_str (set_dict hu))))) (pss_one (ps_if (pt_val (pe_callB (call_isD2 kit_list kit_tuple isL_or) (by rfl) B.isinstance (by decide +kernel) (pa_cons (pv 0) (pa_cons (pe_tup (pa_cons (pe_ty "list" B.list (by decide +kernel)) (pa_cons (pe_ty "tuple" B.tuple (by decide +kernel)) pa_nil))) pa_nil)))) (pss_cons (ps_for PassesOwn.never rfl (pi_seq (pv 0)) (pg_name (i := 2) sc__law_spoiled.nd rfl (by first | exact Or.inl rfl | exact Or.inr rfl)) (pss_one (ps_expr (pe_df D1 hr pass0 (pa_cons (pv 2) pa_nil)))))
      (pss_one (ps_if (pt_val (pe_callB (call_isTy kit_list) (by rfl) B.isinstance (by decide +kernel) (pa_cons (pv 0) (pa_cons (pe_ty "list" B.list (by decide +kernel)) pa_nil)))) (pss_one (ps_expr (pe_bm PySem.F.plainAttrs_list PySem.F.slot_list_append PySem.F.type_list_append mt_append (pv 0) (pa_cons pe_str pa_nil)))) pss_nil))) pss_nil)))), ?_⟩
    have rd := ow.dr
    have sz2 : ([V.ty "list", V.ty "tuple"] : List V).length ≤ sizeLine := by show 2 ≤ sizeLine; decide
    have hnd : ¬ isD d = true := fun z => by cases ow <;> cases z
    refine ⟨_, rfl, v, d, rfl, rd, _, rfl, ite2 (fun z => absurd z hnd) (fun _ => ?_)⟩
    refine ⟨_, rfl, sz2, fun p1 np1 => ⟨v, p1, d, rfl, upd_same, rd.sm (Sm.new np1), _, rfl, ite2 (fun hL => ?_) (fun _ => ?_)⟩⟩
    · have hL' : isL d = true := hL
      have s1 : Sm H (upd H p1 (.tup [V.ty "list", V.ty "tuple"])) := Sm.new np1
      generalize hH1 : upd H p1 (.tup [V.ty "list", V.ty "tuple"]) = H1 at s1
      obtain ⟨hn1, hlen, hfA⟩ := fit_its hf hL'
      obtain ⟨m, rfl⟩ : ∃ m, n = m + 1 := ⟨n - 1, by omega⟩
      have hsl := lim_lt
      have bt1 : ∀ {f : List Addr} {H2 : Hp}, Bt1 f H1 H2 → Bt1 f H H2 := fun k b o hb e => k b o hb (s1 b o e)
      have loop : ∀ (a : Addr) (xs : List V) (ds : List PyData) (fs : List (List Addr)) (D : Ends), (H1 a = some (.lst xs) ∨ H1 a = some (.tup xs)) → OwA H1 xs ds fs → fs.flatten.Nodup → a ∉ fs.flatten → ds.length ≤ lim → fitA ds m = true →
          (∀ x H2, Bt1 fs.flatten H1 H2 → D.nx [some (.ref a), none, x] H2) → ∀ J, ItS K H1 a xs J →
          ∃ W : Nat → Nat → L2.St → Hp → Prop, (∃ m, W 0 m [some (.ref a), none, none] H1) ∧ ∀ i m' σ H2, W i m' σ H2 →
            (J.stop i H2 ∧ D.nx σ H2) ∨ (J.go i H2 ∧ ∃ N : L2.St → Hp → Prop, (∀ σ' H', N σ' H' → ∃ m'', m'' < m' ∧ W (i + 1) m'' σ' H') ∧ ∀ x H', J.yld i H2 x H' → gName 2 x σ H' fun σ2 H3 => (tDrop (tCall (spPoil (m + 1)) [] E0 (tCons (tVar 2) tNil))) { D with nx := N, ct := N, bk := D.nx } σ2 H3) := by
        intro a xs ds fs D ha oa ndf naf hl hfd hd J hJ
        have tups : ∀ {i : Nat} {H2 : Hp}, Bt1 (fs.take i).flatten H1 H2 → ∀ b ys, H1 b = some (.tup ys) → H2 b = some (.tup ys) := fun {i H2} k b ys e => k b _ (fun z => by
          obtain ⟨zs, ez⟩ := oa.lists b (flat_sub z)
          rw [e] at ez
          cases ez) e
        refine for_seq hJ (fun i σ H2 => ∃ x, σ = [some (.ref a), none, x] ∧ Bt1 (fs.take i).flatten H1 H2) ⟨none, rfl, fun b o _ e => e⟩ ?_ ?_ ?_
        · rintro i σ H2 _ ⟨x, _, k⟩
          rcases ha with e | e
          · rw [e]
            exact k a _ (fun z => naf (flat_sub z)) e
          · rw [e]
            exact k a _ (fun z => naf (flat_sub z)) e
        · rintro i x σ H2 hx ⟨x0, rfl, k⟩
          obtain ⟨d1, f1, e1, e2, o1⟩ := oa.get hx
          obtain ⟨nd1, ap1⟩ := flat_apart e2 ndf
          have o2 : Ow H2 x d1 f1 := o1.keep (tups k) fun b hb o e => k b o (ap1 b hb) e
          refine ⟨_, rfl, x, d1, f1, rfl, o2, nd1, fitA_at hfd e1, fun H3 k3 => ⟨some x, rfl, fun b o hb e => ?_⟩⟩
          rw [flat_take e2] at hb
          exact k3 b o (fun z => hb (List.mem_append_right _ z)) (k b o (fun z => hb (List.mem_append_left _ z)) e)
        · rintro σ H2 ⟨x, rfl, k⟩
          refine hd x H2 ?_
          rw [oa.lenF.2, List.take_length] at k
          exact k
      have ow1 : Ow H1 v d fp := ow.keep (fun a xs e => s1 a _ e) fun b _ o e => s1 b o e
      cases ow1 with
      | @lst a xs ds fs ea oa =>
        have nd' := List.nodup_cons.mp nd
        refine ⟨_, rfl, a, xs, rfl, .inl ea, fun J hJ => ?_⟩
        refine loop a xs ds fs _ (.inl ea) oa nd'.2 nd'.1 hlen hfA (fun x H2 k => ?_) J hJ
        have e2 : H2 a = some (.lst xs) := k a _ nd'.1 ea
        refine ⟨_, rfl, .ref a, .list [], rfl, .base (.lst e2), _, rfl, iteT ?_⟩
        have lx : xs.length = ds.length := oa.lenF.1
        have hl : ds.length ≤ lim := hlen
        refine ⟨_, rfl, .inl ⟨rfl, xs, SqL.of e2⟩, a, _, _, rfl, rfl, e2, by omega, ?_⟩
        refine q _ fun b o hb e => ?_
        rw [upd_ne (fun z => hb (by rw [z]; exact List.mem_cons_self ..))]
        exact k b o (fun z => hb (List.mem_cons_of_mem _ z)) (s1 b o e)
      | @tup a xs ds fs ea oa =>
        have na : a ∉ fs.flatten := fun z => by
          obtain ⟨zs, ez⟩ := oa.lists a z
          rw [ea] at ez
          cases ez
        refine ⟨_, rfl, a, xs, rfl, .inr ea, fun J hJ => ?_⟩
        refine loop a xs ds fs _ (.inr ea) oa nd na hlen hfA (fun x H2 k => ?_) J hJ
        have e2 : H2 a = some (.tup xs) := k a _ na ea
        refine ⟨_, rfl, .ref a, .tuple [], rfl, .base (.tup e2), _, rfl, iteF ?_⟩
        exact q _ fun b o hb e => k b o hb (s1 b o e)
      | _ => cases hL'
    · exact q _ (fun b o _ e => Sm.new np1 b o e)
end
end K8

namespace K8
open PySem PySem.Spec PyProof.Rows L2 WR
/-! ### signs -/
def letters : Str := "abcdefghijklmnopqrstuvwxyz"
def signs36 : Str := "abcdefghijklmnopqrstuvwxyz0123456789"
theorem letters_eq : letters.cps.toList = (List.range 26).map (· + 97) := by decide +kernel
theorem signs_eq : signs36.cps.toList = (List.range 26).map (· + 97) ++ (List.range 10).map (· + 48) := by decide +kernel
theorem lt_one (a b : Nat) : decide (([a] : List Nat) < [b]) = decide (a < b) := by
  refine decide_eq_decide.mpr ⟨fun h => ?_, fun h => List.Lex.rel h⟩
  cases h with
  | rel h => exact h
  | cons h => cases h
theorem leS_one (c : Nat) (k : Nat) : (!decide (([c] : List Nat) < [k])) = decide (k ≤ c) ∧ (!decide (([k] : List Nat) < [c])) = decide (c ≤ k) := by
  rw [lt_one, lt_one]
  constructor
  · rw [← decide_not]; exact decide_eq_decide.mpr (by omega)
  · rw [← decide_not]; exact decide_eq_decide.mpr (by omega)
theorem isLet_c (c : Nat) : isLet ⟨#[c]⟩ = decide (97 ≤ c ∧ c ≤ 122) := by
  have h1 : leS "a" ⟨#[c]⟩ = decide (97 ≤ c) := (leS_one c 97).1
  have h2 : leS ⟨#[c]⟩ "z" = decide (c ≤ 122) := (leS_one c 122).2
  unfold isLet
  rw [h1, h2, Bool.decide_and]
theorem isFig_c (c : Nat) : isFig ⟨#[c]⟩ = decide (48 ≤ c ∧ c ≤ 57) := by
  have h1 : leS "0" ⟨#[c]⟩ = decide (48 ≤ c) := (leS_one c 48).1
  have h2 : leS ⟨#[c]⟩ "9" = decide (c ≤ 57) := (leS_one c 57).2
  unfold isFig
  rw [h1, h2, Bool.decide_and]
theorem mem_run (c n k : Nat) : c ∈ (List.range n).map (· + k) ↔ k ≤ c ∧ c < k + n := by
  simp only [List.mem_map, List.mem_range]
  exact ⟨fun ⟨a, h1, h2⟩ => by omega, fun h => ⟨c - k, by omega, by omega⟩⟩
theorem let_mem (c : Nat) : decide (c ∈ letters.cps.toList) = isLet ⟨#[c]⟩ := by
  rw [isLet_c, letters_eq]
  exact decide_eq_decide.mpr ((mem_run c 26 97).trans (by omega))
theorem sign_mem (c : Nat) : decide (c ∈ signs36.cps.toList) = (isLet ⟨#[c]⟩ || isFig ⟨#[c]⟩) := by
  rw [isLet_c, isFig_c, signs_eq, ← Bool.decide_or]
  refine decide_eq_decide.mpr ?_
  rw [List.mem_append, mem_run, mem_run]
  omega
section
variable {P : Program} {w : World} {K : PySem.W.Frag} {mg : Str → Option Value} {base : Heap}
theorem sc__law_g_is_int : FnScope ["thing"] ["thing"] (defScope s_law_g_is_int) := ⟨rfl, rfl, rfl, by decide +kernel, rfl, by decide +kernel, by decide +kernel⟩
theorem ok__law_g_is_int (B : Bt mg) (F : Fn K mg d_law_g_is_int) : Df P w K mg base CX0 1 "_law_g_is_int" ["thing"] (spP 1 (fun _ => True) fun ds => .bool (isNum (ds.headD .none))) := by
  obtain ⟨f, fd, hm, F⟩ := F
  refine ⟨f, fd, hm, F.kp, F.bindsN fun _ _ _ _ _ _ us hl => match us, hl with | [_], _ => rfl, ?_⟩
  refine F.ok sc__law_g_is_int (fun vs H Q E h => spP_len vs H Q E h) (fun cdv A outer s H vs Q E hr h => ?_)
  obtain ⟨v, d, rfl, rd, -, q⟩ := spP1 h
  refine ⟨_, PSs.nox (pss_one (ps_ret (pe_and (pe_callB (call_isD kit_int) (by rfl) B.isinstance (by decide +kernel) (pa_cons (pv 0) (pa_cons (pe_ty "int" B.int (by decide +kernel)) pa_nil))) (pe_and (pe_not (pe_callB (call_isD kit_bool) (by rfl) B.isinstance (by decide +kernel) (pa_cons (pv 0) (pa_cons (pe_ty "bool" B.bool (by decide +kernel)) pa_nil)))) (pe_one (pe_cmpR op_ge (pv 0) pe_int (nomark _))))))), ?_⟩
  refine ⟨_, rfl, v, d, rfl, rd, _, rfl, ?_⟩
  have fin : ∀ b, isNum d = b → Q (.bl b) H := fun b e => q _ _ Sm.rfl' (by rw [show isNum ([d].headD .none) = b from e]; exact .bl b)
  cases rd with
  | int i =>
    exact iteT ⟨_, rfl, _, _, rfl, .int i, _, rfl, _, rfl, iteT ⟨_, rfl, _, _, rfl, rfl, fin _ rfl⟩⟩
  | bl b => exact iteT ⟨_, rfl, _, _, rfl, .bl b, _, rfl, _, rfl, iteF (fin _ rfl)⟩
  | _ => exact iteF (fin _ rfl)
theorem sc__law_g_is_name : FnScope ["thing", "sign"] ["thing"] (defScope s_law_g_is_name) := ⟨rfl, rfl, rfl, by decide +kernel, rfl, by decide +kernel, by decide +kernel⟩
theorem ok__law_g_is_name (B : Bt mg) (F : Fn K mg d_law_g_is_name) : Df P w K mg base CX0 1 "_law_g_is_name" ["thing"] (spP 1 (fun ds => wdA ds = true) fun ds => .bool (isName (ds.headD .none))) := by
  obtain ⟨f, fd, hm, F⟩ := F
  refine ⟨f, fd, hm, F.kp, F.bindsN fun _ _ _ _ _ _ us hl => match us, hl with | [_], _ => rfl, ?_⟩
  refine F.ok sc__law_g_is_name (fun vs H Q E h => spP_len vs H Q E h) (fun cdv A outer s H vs Q E hr h => ?_)
  obtain ⟨v, d, rfl, rd, wdd, q⟩ := spP1 h
  refine ⟨_, PSs.nox (pss_cons (ps_if (PW.pt (pw_or (pt_not (pt_val (pe_callB (call_isD kit_str) (by rfl) B.isinstance (by decide +kernel) (pa_cons (pv 0) (pa_cons (pe_ty "str" B.str (by decide +kernel)) pa_nil))))) (pw_or (pt_not (pt_chain op_lt op_lt pe_int (pe_callB call_len_str (by rfl) B.len (by decide +kernel) (pa_cons (pv 0) pa_nil)) pe_int)) (pw_or1 (pt_cmpR op_notIn_sign (pe_item_str (pv 0) pe_int (fun _ _ => rfl)) pe_str (by rfl)))))) (pss_one (ps_ret pe_bl)) pss_nil)
      (pss_one (ps_ret (pe_callB (cr_all rfl) (by rfl) B.all (by decide +kernel) (pa_cons (pe_lc (own := [("sign", 1)]) (g := gName 1) (tt := tYes) rfl sc__law_g_is_name.nd (pi_str (pv 0)) (blkOk_by (own := [("sign", 1)]) (N := ["thing", "sign"]) (sc := defScope s_law_g_is_name) (by decide +kernel)) (fun _ _ _ _ _ => pg_name (i := 1) sc__law_g_is_name.nd rfl (by first | exact Or.inl rfl | exact Or.inr rfl)) (fun _ _ _ _ _ => pts_nil) (fun _ _ _ _ _ => (pe_cmpR op_in_sign (pv 1) pe_str (by rfl)))) pa_nil))))), ?_⟩
  refine ⟨_, rfl, v, d, rfl, rd, _, rfl, ?_⟩
  have fin : ∀ b H1, Sm H H1 → isName d = b → Q (.bl b) H1 := fun b H1 s1 e => q _ _ s1 (by rw [show isName ([d].headD .none) = b from e]; exact .bl b)
  have hsl := lim_lt
  cases rd with
  | str x =>
    have hx : x.length ≤ lim := by simpa [wdA, wd] using wdd
    refine iteF ⟨_, rfl, _, rfl, by omega, ?_⟩
    by_cases h0 : x = ""
    · subst h0
      refine ⟨_, _, rfl, rfl, _, rfl, ite2 (fun z => absurd (of_decide_eq_true z) (by decide)) (fun _ => ?_)⟩
      exact ⟨_, rfl, iteT (fin _ _ Sm.rfl' rfl)⟩
    obtain ⟨c, c1, c2, c3⟩ := headS_at h0
    have e0 : decide (x = "") = false := decide_eq_false h0
    refine ⟨_, _, rfl, rfl, _, rfl, ite2 (fun _ => ?_) (fun z => absurd (decide_eq_true (by omega)) z)⟩
    refine ⟨_, _, rfl, rfl, _, rfl, ?_⟩
    by_cases h9 : x.length < 9
    · have hd9 : decide ((x.length : Int) < 9) = true := decide_eq_true (by omega)
      have h8 : decide (x.length ≤ 8) = true := decide_eq_true (by omega)
      rw [hd9]
      refine iteF ⟨_, rfl, _, _, _, rfl, rfl, by decide, by decide, by omega, c1, c, letters, rfl, rfl, _, rfl, ?_⟩
      rw [let_mem]
      refine ite2 (fun hn => ?_) (fun hn => ?_)
      · have hn' : isLet ⟨#[c]⟩ = false := by simpa using hn
        refine fin _ _ Sm.rfl' ?_
        simp only [isName, begName, e0, c2, hn', Bool.or_false, Bool.and_false]
      · have hn' : isLet ⟨#[c]⟩ = true := by simpa using hn
        refine ⟨_, rfl, x, rfl, fun D nD => ?_⟩
        refine lc_fz (fun d => .bool (isLet (strOf d) || isFig (strOf d))) (.str (x := x)) nD (by rw [signsD_len]; exact hx) (fun _ => rfl) (fun _ _ => rfl) (fun y e H2 Q' he s2 rx q' => ?_) fun H2 ys s2 eD ry => ?_
        · obtain ⟨k, _, rfl⟩ := List.mem_map.mp he
          cases rx.str_inv
          refine ⟨_, rfl, k, signs36, rfl, rfl, q' _ _ Sm.rfl' ?_⟩
          rw [sign_mem]
          exact .bl _
        · have eb : (signsD x).map (fun d => PyData.bool (isLet (strOf d) || isFig (strOf d))) = ((signsD x).map fun d => isLet (strOf d) || isFig (strOf d)).map PyData.bool := by simp
          rw [eb] at ry
          have ey := ry.bls
          subst ey
          refine ⟨_, _, rfl, SqL.of eD, fin _ _ s2 ?_⟩
          rw [List.all_map]
          simp only [isName, begName, e0, c2, hn', h8, Bool.or_true, Bool.and_true, Bool.true_and, Bool.not_false]
          rfl
    · have hd9 : decide ((x.length : Int) < 9) = false := decide_eq_false (by omega)
      have h8 : decide (x.length ≤ 8) = false := decide_eq_false (by omega)
      rw [hd9]
      refine iteT (fin _ _ Sm.rfl' ?_)
      simp only [isName, begName, e0, h8, Bool.false_and, Bool.and_false]
  | _ => exact iteT (fin _ _ Sm.rfl' rfl)
end
end K8

namespace K8
open PySem PySem.Spec PyProof.Rows L2 WR
theorem its_two {d : PyData} (h : (its d).length = 2) : its d = [nth d 0, nth d 1] := by
  unfold nth
  match e : its d, h with
  | [a, b], _ => rfl
theorem its_four {d : PyData} (h : (its d).length = 4) : its d = [nth d 0, nth d 1, nth d 2, nth d 3] := by
  unfold nth
  match e : its d, h with
  | [a, b, c, f], _ => rfl
theorem gv_ma : ¬ (("given" : Str) = "made" ∨ ("given" : Str) = "asked") := by decide +kernel
theorem ei_ma : ¬ (("either" : Str) = "made" ∨ ("either" : Str) = "asked") := by decide +kernel
theorem gv_ei : ¬ (("given" : Str) = "either") := by decide +kernel
section
variable {P : Program} {w : World} {K : PySem.W.Frag} {mg : Str → Option Value} {base : Heap}
abbrev spGInt : Sp := spP 1 (fun _ => True) fun ds => .bool (isNum (ds.headD .none))
/-- all of a sequence are numbers: the comprehension -/
theorem nums_comp {J : It} {vs : List Nat} {i : Nat} {σ : L2.St} {H1 : Hp} {D : Addr} {ds : List PyData} {Qd : Hp → Prop} (W : Walk J H1 ds) (nD : H1 D = none) (hlen : ds.length ≤ lim)
    (hw : ∀ x, wipe ((wipe σ vs).set i (some x)) vs = wipe σ vs) (hi : ∀ x, ((wipe σ vs).set i (some x))[i]? = some (some x))
    (hd : ∀ H2, Sm H1 H2 → SqL K H2 D ((ds.map isNum).map V.bl) → Qd H2) :
    ∃ W : Nat → Nat → Hp → Prop, (∃ m, W 0 m (upd H1 D (.lst []))) ∧ ∀ i' m H, W i' m H →
      (J.stop i' H ∧ Qd H) ∨ (J.go i' H ∧ ∃ Nx : Hp → Prop, (∀ H', Nx H' → ∃ m', m' < m ∧ W (i' + 1) m' H') ∧ ∀ x H', J.yld i' H x H' → gName i x (wipe σ vs) H' fun σ2 H2 => wipe σ2 vs = wipe σ vs ∧ tYes σ2 H2 fun b H3 =>
        if b = true then (tCall spGInt [] E0 (tCons (tVar i) tNil)) σ2 H3 fun y H4 => ∃ acc, H4 D = some (.lst acc) ∧ acc.length < sizeLine ∧ Nx (upd H4 D (.lst (acc ++ [y]))) else Nx H3) := by
  refine lc_fz (fun d => .bool (isNum d)) W nD hlen hw (fun _ _ => rfl) (fun x e H2 Q' he s2 rx q' => ?_) fun H2 ys s2 eD ry => ?_
  · exact ⟨_, hi x, spP1_of rx trivial q'⟩
  · have eb : ds.map (fun d => PyData.bool (isNum d)) = (ds.map isNum).map PyData.bool := by simp
    rw [eb] at ry
    have ey := ry.bls
    subst ey
    exact hd H2 s2 (SqL.of eD)
theorem sc__law_g_form : FnScope ["thing", "one"] ["thing"] (defScope s_law_g_form) := ⟨rfl, rfl, rfl, by decide +kernel, rfl, by decide +kernel, by decide +kernel⟩
theorem ok__law_g_form (B : Bt mg) (F : Fn K mg d_law_g_form) (D1 : Df P w K mg base CX0 1 "_law_g_is_int" ["thing"] spGInt) (D2 : Df P w K mg base CX0 1 "_law_g_is_name" ["thing"] spIsName) :
    Df P w K mg base CX0 2 "_law_g_form" ["thing"] spRowForm := by
  obtain ⟨f, fd, hm, F⟩ := F
  refine ⟨f, fd, hm, F.kp, F.bindsN fun _ _ _ _ _ _ us hl => match us, hl with | [_], _ => rfl, ?_⟩
  refine F.ok sc__law_g_form (fun vs H Q E h => spP_len vs H Q E h) (fun cdv A outer s H vs Q E hr h => ?_)
  obtain ⟨v, d, rfl, rd, wdd, q⟩ := spP1 h
  have wd0 : wd d = true := by simpa [wdA] using wdd
  refine ⟨_, PSs.nox (pss_cons (ps_if (PW.pt (pw_or (pt_not (pt_val (pe_callB (call_isD2 kit_list kit_tuple isL_or) (by rfl) B.isinstance (by decide +kernel) (pa_cons (pv 0) (pa_cons (pe_tup (pa_cons (pe_ty "list" B.list (by decide +kernel)) (pa_cons (pe_ty "tuple" B.tuple (by decide +kernel)) pa_nil))) pa_nil))))) (pw_or (pt_cmpR op_eq (pe_callB call_lenS (by rfl) B.len (by decide +kernel) (pa_cons (pv 0) pa_nil)) pe_int (nomark _)) (pw_or1 (pt_not (pt_val (pe_callB (call_isD kit_str) (by rfl) B.isinstance (by decide +kernel) (pa_cons (pe_ix ix_D (pv 0) pe_int (fun _ _ => rfl)) (pa_cons (pe_ty "str" B.str (by decide +kernel)) pa_nil))))))))) (pss_one (ps_ret pe_non)) pss_nil)
      (pss_cons (ps_if (pt_cmpR op_eq (pe_ix ix_D (pv 0) pe_int (fun _ _ => rfl)) pe_str (nomark _)) (pss_one (ps_ret (pe_ifExp (PW.pt (pw_and (pt_cmpR op_eq (pe_callB call_lenS (by rfl) B.len (by decide +kernel) (pa_cons (pv 0) pa_nil)) pe_int (nomark _)) (pw_and1 (pt_val (pe_df D1 hr pass0 (pa_cons (pe_ix ix_D (pv 0) pe_int (fun _ _ => rfl)) pa_nil)))))) (pe_callTy call_tupD (by rfl) B.tuple (by decide +kernel) (pa_cons (pv 0) pa_nil)) pe_non))) pss_nil)
      (pss_cons (ps_if (pt_cmpR op_eq (pe_ix ix_D (pv 0) pe_int (fun _ _ => rfl)) pe_str (nomark _)) (pss_one (ps_ret (pe_ifExp (PW.pt (pw_and (pt_cmpR op_eq (pe_callB call_lenS (by rfl) B.len (by decide +kernel) (pa_cons (pv 0) pa_nil)) pe_int (nomark _)) (pw_and1 (pt_val (pe_callB (cr_all rfl) (by rfl) B.all (by decide +kernel) (pa_cons (pe_lc (own := [("one", 1)]) (g := gName 1) (tt := tYes) rfl sc__law_g_form.nd (pi_seq (pe_slice sl_D (pv 0) (po_some pe_int) po_none)) (blkOk_by (own := [("one", 1)]) (N := ["thing", "one"]) (sc := defScope s_law_g_form) (by decide +kernel)) (fun _ _ _ _ _ => pg_name (i := 1) sc__law_g_form.nd rfl (by first | exact Or.inl rfl | exact Or.inr rfl)) (fun _ _ _ _ _ => pts_nil) (fun _ _ _ _ _ => (pe_df D1 hr pass0 (pa_cons (pv 1) pa_nil)))) pa_nil)))))) (pe_callTy call_tupD (by rfl) B.tuple (by decide +kernel) (pa_cons (pv 0) pa_nil)) pe_non))) pss_nil)
      (pss_cons (ps_if (PW.pt (pw_or (pt_cmpR op_notIn_seq (pe_ix ix_D (pv 0) pe_int (fun _ _ => rfl)) (pe_tup (pa_cons pe_str (pa_cons pe_str pa_nil))) (by rfl)) (pw_or (pt_cmpR op_ne (pe_callB call_lenS (by rfl) B.len (by decide +kernel) (pa_cons (pv 0) pa_nil)) pe_int (nomark _)) (pw_or1 (pt_not (pt_val (pe_df D2 hr pass0 (pa_cons (pe_ix ix_D (pv 0) pe_int (fun _ _ => rfl)) pa_nil)))))))) (pss_one (ps_ret pe_non)) pss_nil)
      (pss_cons (ps_if (PW.pt (pw_or (pt_not (pt_val (pe_callB (call_isD2 kit_list kit_tuple isL_or) (by rfl) B.isinstance (by decide +kernel) (pa_cons (pe_ix ix_D (pv 0) pe_int (fun _ _ => rfl)) (pa_cons (pe_tup (pa_cons (pe_ty "list" B.list (by decide +kernel)) (pa_cons (pe_ty "tuple" B.tuple (by decide +kernel)) pa_nil))) pa_nil))))) (pw_or1 (pt_not (pt_val (pe_callB (cr_all rfl) (by rfl) B.all (by decide +kernel) (pa_cons (pe_lc (own := [("one", 1)]) (g := gName 1) (tt := tYes) rfl sc__law_g_form.nd (pi_seq (pe_ix ix_D (pv 0) pe_int (fun _ _ => rfl))) (blkOk_by (own := [("one", 1)]) (N := ["thing", "one"]) (sc := defScope s_law_g_form) (by decide +kernel)) (fun _ _ _ _ _ => pg_name (i := 1) sc__law_g_form.nd rfl (by first | exact Or.inl rfl | exact Or.inr rfl)) (fun _ _ _ _ _ => pts_nil) (fun _ _ _ _ _ => (pe_df D1 hr pass0 (pa_cons (pv 1) pa_nil)))) pa_nil))))))) (pss_one (ps_ret pe_non)) pss_nil)
      (pss_one (ps_ret (pe_tup (pa_cons (pe_ix ix_D (pv 0) pe_int (fun _ _ => rfl)) (pa_cons (pe_ix ix_D (pv 0) pe_int (fun _ _ => rfl)) (pa_cons (pe_callTy call_tupD (by rfl) B.tuple (by decide +kernel) (pa_cons (pe_ix ix_D (pv 0) pe_int (fun _ _ => rfl)) pa_nil)) pa_nil))))))))))), ?_⟩
  have fin : ∀ u H1, Sm H H1 → Dr All H1 u (rowForm d) → Q u H1 := fun u H1 s1 r => q _ _ s1 r
  have nope : ∀ H1, Sm H H1 → rowForm d = .none → Q .non H1 := fun H1 s1 e => fin _ _ s1 (by rw [e]; exact .non)
  have sz2 : ([V.ty "list", V.ty "tuple"] : List V).length ≤ sizeLine := by show 2 ≤ sizeLine; decide
  have lenEq : ∀ n : Nat, decide (V.int ((its d).length : Nat) = V.int (n : Int)) = true → (its d).length = n := fun n z => by
    have := of_decide_eq_true z
    injection this with this
    omega
  -- not isinstance(thing, (list, tuple)) or len(thing) == 0 or not isinstance(thing[0], str)
  refine ⟨_, rfl, sz2, fun p1 np1 => ⟨v, p1, d, rfl, upd_same, rd.sm (Sm.new np1), _, rfl, ?_⟩⟩
  have s1 : Sm H (upd H p1 (.tup [V.ty "list", V.ty "tuple"])) := Sm.new np1
  generalize hH1 : upd H p1 (.tup [V.ty "list", V.ty "tuple"]) = H1 at s1
  refine ite2 (fun hL => ?_) (fun hL => ?_)
  · have hL' : isL d = false := by simpa using hL
    refine iteT (nope _ s1 ?_)
    unfold rowForm
    rw [if_neg (fun z => by rw [hL'] at z; cases z.1)]
  have hL' : isL d = true := by simpa using hL
  have rd1 := rd.sm s1
  refine ⟨_, rfl, v, d, rfl, rd1, hL', rfl, _, rfl, ite2 (fun h0 => ?_) (fun h0 => ?_)⟩
  · have e0 : (its d).length = 0 := lenEq 0 h0
    refine iteT (nope _ s1 ?_)
    unfold rowForm
    rw [if_neg (fun z => z.2.1 e0)]
  have l0 : (its d).length ≠ 0 := fun z => h0 (decide_eq_true (by rw [z]; rfl))
  have l0' : 0 < (its d).length := by omega
  refine ⟨_, rfl, d, 0, _, rd1, hL', rfl, nth_at l0', fun v0 r0 => ?_⟩
  refine ⟨v0, _, rfl, r0, _, rfl, ite2 (fun hS => ?_) (fun hS => ?_)⟩
  · have hS' : isS (nth d 0) = false := by simpa using hS
    refine nope _ s1 ?_
    unfold rowForm
    rw [if_neg (fun z => by rw [hS'] at z; cases z.2.2)]
  have hS' : isS (nth d 0) = true := by simpa using hS
  have es := str_of hS'
  have top : rowForm d = rowForm2 d := if_pos ⟨hL', l0, hS'⟩
  obtain ⟨x, ew⟩ : ∃ y, nth d 0 = .str y := ⟨_, es⟩
  have eso : strOf (nth d 0) = x := by rw [ew]; rfl
  have strEq : ∀ y : Str, decide (V.str x = V.str y) = true → x = y := fun y z => by
    have := of_decide_eq_true z
    injection this
  have strNe : ∀ y : Str, ¬ decide (V.str x = V.str y) = true → ¬ x = y := fun y z e => z (decide_eq_true (by rw [e]))
  -- thing[0] == 'given'
  refine ⟨_, rfl, d, 0, _, rd1, hL', rfl, nth_at l0', fun v1 r1 => ?_⟩
  rw [ew] at r1
  cases r1.str_inv
  refine ⟨rfl, _, rfl, ite2 (fun hg => ?_) (fun hg => ?_)⟩
  · have ex := strEq _ hg
    subst ex
    have t5 : rowForm d = if strOf (nth d 0) = "given" ∧ (its d).length = 2 ∧ ((its d).drop 1).all isNum = true then .tuple [nth d 0, nth d 1] else .none := by
      rw [top]
      unfold rowForm2
      rw [if_neg (fun z => by rw [eso] at z; exact gv_ma z.1), if_neg (fun z => by rw [eso] at z; exact gv_ei z.1)]
    refine ⟨_, rfl, v, d, rfl, rd1, hL', rfl, _, rfl, ite2 (fun h2 => ?_) (fun h2 => ?_)⟩
    · have e2 := lenEq 2 h2
      have ed := its_two e2
      have dr1 : ((its d).drop 1).all isNum = isNum (nth d 1) := by
        rw [ed]
        simp
      refine ⟨_, rfl, d, 1, _, rd1, hL', rfl, nth_at (by omega), fun v2 r2 => ?_⟩
      refine spP1_of r2 trivial fun u H3 s3 r3 => ?_
      cases r3.bl_inv
      refine ⟨_, rfl, ite2 (fun hn => ?_) (fun hn => ?_)⟩
      · have hn' : isNum (nth d 1) = true := hn
        refine ⟨_, rfl, v, d, rfl, rd1.sm s3, hL', fun u H4 s4 r4 => fin _ _ ((s1.trans s3).trans s4) ?_⟩
        rw [t5, if_pos ⟨eso, e2, by rw [dr1]; exact hn'⟩, ← ed]
        exact r4
      · refine nope _ (s1.trans s3) ?_
        rw [t5, if_neg (fun z => hn (by rw [dr1] at z; exact z.2.2))]
    · refine iteF (nope _ s1 ?_)
      rw [t5, if_neg (fun z => h2 (decide_eq_true (by rw [z.2.1]; rfl)))]
  have ng : ¬ x = "given" := strNe _ hg
  -- thing[0] == 'either'
  refine ⟨_, rfl, d, 0, _, rd1, hL', rfl, nth_at l0', fun v1 r1 => ?_⟩
  rw [ew] at r1
  cases r1.str_inv
  refine ⟨rfl, _, rfl, ite2 (fun hg => ?_) (fun hg => ?_)⟩
  · have ex := strEq _ hg
    subst ex
    have t5 : rowForm d = if strOf (nth d 0) = "either" ∧ (its d).length = 4 ∧ ((its d).drop 1).all isNum = true then .tuple [nth d 0, nth d 1, nth d 2, nth d 3] else .none := by
      rw [top]
      unfold rowForm2
      rw [if_neg (fun z => by rw [eso] at z; exact ei_ma z.1)]
      by_cases hc : strOf (nth d 0) = "either" ∧ (its d).length = 4 ∧ ((its d).drop 1).all isNum = true
      · rw [if_pos hc, if_pos hc]
      · rw [if_neg hc, if_neg hc, if_neg (fun z => by rw [eso] at z; exact gv_ei z.1.symm)]
    refine ⟨_, rfl, v, d, rfl, rd1, hL', rfl, _, rfl, ite2 (fun h4 => ?_) (fun h4 => ?_)⟩
    · have e4 := lenEq 4 h4
      have ed := its_four e4
      refine ⟨_, rfl, _, rfl, d, rd1, hL', fun v1 H3 s3 r3 => ?_⟩
      rw [show cutA (its d) (some 1) none = (its d).drop 1 from cutA_from (its d) 1] at r3
      obtain ⟨a, xs, rfl, hq, rs⟩ := r3.seq (isL_like _ _)
      rw [its_like] at rs
      refine ⟨a, xs, rfl, hq, fun J hJ D nD => ?_⟩
      have hl : ((its d).drop 1).length ≤ lim := by
        rw [List.length_drop, e4]
        decide
      refine nums_comp (K := K) (.seq hJ rs) nD hl (fun _ => rfl) (fun _ => rfl) fun H4 s4 sq => ?_
      refine ⟨_, _, rfl, sq, _, rfl, ?_⟩
      rw [show ((((its d).drop 1).map isNum).all id) = ((its d).drop 1).all isNum by rw [List.all_map]; rfl]
      refine ite2 (fun hn => ?_) (fun hn => ?_)
      · refine ⟨_, rfl, v, d, rfl, (rd1.sm s3).sm s4, hL', fun u H5 s5 r5 => fin _ _ (((s1.trans s3).trans s4).trans s5) ?_⟩
        rw [t5, if_pos ⟨eso, e4, hn⟩, ← ed]
        exact r5
      · refine nope _ ((s1.trans s3).trans s4) ?_
        rw [t5, if_neg (fun z => hn z.2.2)]
    · refine iteF (nope _ s1 ?_)
      rw [t5, if_neg (fun z => h4 (decide_eq_true (by rw [z.2.1]; rfl)))]
  have ne : ¬ x = "either" := strNe _ hg
  have t6 : rowForm d = if (x = "made" ∨ x = "asked") ∧ (its d).length = 3 then (if (isName (nth d 1) && areNums (nth d 2)) = true then .tuple [nth d 0, nth d 1, .tuple (its (nth d 2))] else .none) else .none := by
    rw [top]
    unfold rowForm2
    rw [eso]
    by_cases hc : (x = "made" ∨ x = "asked") ∧ (its d).length = 3
    · rw [if_pos hc, if_pos hc]
    · rw [if_neg hc, if_neg hc, if_neg (fun z => ne z.1), if_neg (fun z => ng z.1)]
  -- thing[0] not in ('made', 'asked') or len(thing) != 3 or not _law_g_is_name(thing[1])
  refine ⟨_, rfl, d, 0, _, rd1, hL', rfl, nth_at l0', fun v1 r1 => ?_⟩
  rw [ew] at r1
  cases r1.str_inv
  refine ⟨(by show 2 ≤ sizeLine; decide), fun t ht => ?_⟩
  have s2 := s1.trans (Sm.new (o := .tup [.str "made", .str "asked"]) ht)
  have rd2 := rd.sm s2
  refine ⟨t, _, rfl, .inr (SqT.of upd_same), rfl, rfl, _, rfl, ?_⟩
  rw [if_pos rfl, inV2]
  refine ite2 (fun hw => ?_) (fun hw => ?_)
  · have hw' : ¬ (x = "made" ∨ x = "asked") := by simpa using hw
    refine iteT (nope _ s2 ?_)
    rw [t6, if_neg (fun z => hw' z.1)]
  have hw' : x = "made" ∨ x = "asked" := Decidable.byContradiction fun z => hw (by rw [decide_eq_false z]; rfl)
  refine ⟨_, rfl, v, d, rfl, rd2, hL', rfl, _, rfl, ite2 (fun h3 => ?_) (fun h3 => ?_)⟩
  · refine iteT (nope _ s2 ?_)
    have h3' : ¬ (its d).length = 3 := fun z => by
      rw [z] at h3
      exact absurd h3 (by decide)
    rw [t6, if_neg (fun z => h3' z.2)]
  have e3 : (its d).length = 3 := by
    have z : (!decide (V.int ((its d).length : Nat) = V.int 3)) = false := eq_false_of_ne_true h3
    rw [Bool.not_eq_false'] at z
    exact lenEq 3 z
  have t7 : rowForm d = if (isName (nth d 1) && areNums (nth d 2)) = true then .tuple [nth d 0, nth d 1, .tuple (its (nth d 2))] else .none := by
    rw [t6, if_pos ⟨hw', e3⟩]
  refine ⟨_, rfl, d, 1, _, rd2, hL', rfl, nth_at (by omega), fun v2 r2 => ?_⟩
  refine spP1_of r2 (by simpa [wdA] using nth_wd wd0 hL' (show 1 < (its d).length by omega)) fun u H3 s3 r3 => ?_
  cases r3.bl_inv
  have s23 := s2.trans s3
  refine ⟨_, rfl, ite2 (fun hn => ?_) (fun hn => ?_)⟩
  · have hn' : isName (nth d 1) = false := by simpa using hn
    refine nope _ s23 ?_
    rw [t7, hn', Bool.false_and]
    rfl
  have hn' : isName (nth d 1) = true := by simpa using hn
  -- not isinstance(thing[2], (list, tuple)) or not all([..])
  have rd3 := rd.sm s23
  refine ⟨_, rfl, d, 2, _, rd3, hL', rfl, nth_at (by omega), fun v3 r3 => ?_⟩
  refine ⟨sz2, fun p2 np2 => ⟨v3, p2, _, rfl, upd_same, r3.sm (Sm.new np2), _, rfl, ?_⟩⟩
  have s4 := s23.trans (Sm.new (o := .tup [V.ty "list", V.ty "tuple"]) np2)
  generalize hH4 : upd H3 p2 (.tup [V.ty "list", V.ty "tuple"]) = H4 at s4
  have rd4 := rd.sm s4
  refine ite2 (fun hL2 => ?_) (fun hL2 => ?_)
  · have hL2' : isL (nth d 2) = false := by simpa using hL2
    refine iteT (nope _ s4 ?_)
    rw [t7, show areNums (nth d 2) = false by unfold areNums; rw [hL2', Bool.false_and], Bool.and_false]
    rfl
  have hL2' : isL (nth d 2) = true := by simpa using hL2
  refine ⟨_, rfl, d, 2, _, rd4, hL', rfl, nth_at (by omega), fun v5 r5 => ?_⟩
  obtain ⟨a, xs, rfl, hq, rs⟩ := r5.seq hL2'
  refine ⟨a, xs, rfl, hq, fun J hJ D nD => ?_⟩
  refine nums_comp (K := K) (.seq hJ rs) nD (wd_its (nth_wd wd0 hL' (show 2 < (its d).length by omega)) hL2').1 (fun _ => rfl) (fun _ => rfl) fun H6 s6 sq => ?_
  refine ⟨_, _, rfl, sq, _, rfl, ?_⟩
  rw [show (((its (nth d 2)).map isNum).all id) = (its (nth d 2)).all isNum by rw [List.all_map]; rfl]
  have ear : areNums (nth d 2) = (its (nth d 2)).all isNum := by unfold areNums; rw [hL2', Bool.true_and]
  have s7 := s4.trans s6
  have rd7 := rd.sm s7
  refine ite2 (fun ha => ?_) (fun ha => ?_)
  · have ha' : (its (nth d 2)).all isNum = false := by simpa using ha
    refine nope _ s7 ?_
    rw [t7, ear, ha', Bool.and_false]
    rfl
  have ha' : (its (nth d 2)).all isNum = true := by simpa using ha
  refine ⟨_, rfl, d, 0, _, rd7, hL', rfl, nth_at l0', fun w0 q0 => ?_⟩
  refine ⟨_, rfl, d, 1, _, rd7, hL', rfl, nth_at (by omega), fun w1 q1 => ?_⟩
  refine ⟨_, rfl, d, 2, _, rd7, hL', rfl, nth_at (by omega), fun w2 q2 => ?_⟩
  refine ⟨_, _, rfl, q2, hL2', fun v8 H8 s8 r8 => ⟨(by show 3 ≤ sizeLine; decide), fun t3 ht3 => ?_⟩⟩
  refine fin _ _ (s7.trans (s8.trans (Sm.new ht3))) ?_
  rw [t7, ear, ha', hn', if_pos (show (true && true) = true from rfl)]
  exact .tup upd_same (.cons ((q0.sm s8).sm (Sm.new ht3)) (.cons ((q1.sm s8).sm (Sm.new ht3)) (.one (r8.sm (Sm.new ht3)))))
end
end K8

namespace K8
open PySem PySem.Spec PyProof.Rows L2 WR
/-! ### rows, held against one another -/
theorem eqv_nums : ∀ ks js : List Nat, PyData.eqvAll (nums ks) (nums js) = decide (ks = js)
  | [], [] => rfl
  | [], _ :: _ => by simp [nums, PyData.eqvAll]
  | _ :: _, [] => by simp [nums, PyData.eqvAll]
  | k :: ks, j :: js => by
    have ih := eqv_nums ks js
    simp only [nums, List.map_cons] at ih ⊢
    rw [PyData.eqvAll, ih, PyData.eqv]
    by_cases h : k = j
    · subst h
      simp
    · simp [h, show ¬ ((k : Int) = (j : Int)) by omega]
theorem eqv_bools : ∀ bs cs : List Bool, PyData.eqvAll (bs.map PyData.bool) (cs.map PyData.bool) = decide (bs = cs)
  | [], [] => rfl
  | [], _ :: _ => by simp [PyData.eqvAll]
  | _ :: _, [] => by simp [PyData.eqvAll]
  | b :: bs, c :: cs => by
    have ih := eqv_bools bs cs
    simp only [List.map_cons]
    rw [PyData.eqvAll, ih, PyData.eqv]
    cases b <;> cases c <;> simp
theorem w_ma : (("made" : Str) == ("asked" : Str)) = false := by decide +kernel
theorem w_am : (("asked" : Str) == ("made" : Str)) = false := by decide +kernel
theorem str_self (x : Str) : (x == x) = true := by simp
theorem Row.eqv (r s : Row) : PyData.eqv r.d s.d = decide (r = s) := by
  cases r with
  | made n ks => cases s with
    | made m js =>
      simp only [Row.d, PyData.eqv, PyData.eqvAll, eqv_nums, str_self, Bool.true_and, Bool.and_true]
      rw [Bool.eq_iff_iff]
      simp
    | asked m js =>
      simp only [Row.d, PyData.eqv, PyData.eqvAll, w_ma, Bool.false_and]
      exact (decide_eq_false (fun z => nomatch z)).symm
    | either a i j => simp [Row.d, PyData.eqv, PyData.eqvAll]
    | given k => simp [Row.d, PyData.eqv, PyData.eqvAll]
  | asked n ks => cases s with
    | made m js =>
      simp only [Row.d, PyData.eqv, PyData.eqvAll, w_am, Bool.false_and]
      exact (decide_eq_false (fun z => nomatch z)).symm
    | asked m js =>
      simp only [Row.d, PyData.eqv, PyData.eqvAll, eqv_nums, str_self, Bool.true_and, Bool.and_true]
      rw [Bool.eq_iff_iff]
      simp
    | either a i j => simp [Row.d, PyData.eqv, PyData.eqvAll]
    | given k => simp [Row.d, PyData.eqv, PyData.eqvAll]
  | either a i j => cases s with
    | either a' i' j' =>
      simp only [Row.d, PyData.eqv, PyData.eqvAll, str_self, Bool.true_and, Bool.and_true]
      rw [Bool.eq_iff_iff]
      simp only [Bool.and_eq_true, beq_iff_eq, decide_eq_true_eq, Row.either.injEq]
      omega
    | made m js => simp [Row.d, PyData.eqv, PyData.eqvAll]
    | asked m js => simp [Row.d, PyData.eqv, PyData.eqvAll]
    | given k => simp [Row.d, PyData.eqv, PyData.eqvAll]
  | given k => cases s with
    | given k' =>
      simp only [Row.d, PyData.eqv, PyData.eqvAll, str_self, Bool.true_and, Bool.and_true]
      rw [Bool.eq_iff_iff]
      simp only [beq_iff_eq, decide_eq_true_eq, Row.given.injEq]
      omega
    | made m js => simp [Row.d, PyData.eqv, PyData.eqvAll]
    | asked m js => simp [Row.d, PyData.eqv, PyData.eqvAll]
    | either a i j => simp [Row.d, PyData.eqv, PyData.eqvAll]
theorem lay_nums (ks : List Nat) : PyData.canLayAll0 (nums ks) = true := by
  induction ks with
  | nil => rfl
  | cons k ks ih => simp only [nums, List.map_cons, PyData.canLayAll0, PyData.canLay0, Bool.true_and]; exact ih
theorem dep_nums (ks : List Nat) : PyData.depthAll (nums ks) = 0 := by
  induction ks with
  | nil => rfl
  | cons k ks ih =>
    show max 0 (PyData.depthAll (nums ks)) = 0
    rw [ih]
    rfl
/-- a name's signs are signs of texts -/
theorem name_ok {n : Str} (h : isName (.str n) = true) : PyData.strOk n = true := by
  have h1 : begName n = true := by
    simp only [isName, Bool.and_eq_true] at h
    exact h.2
  simp only [begName, Bool.and_eq_true] at h1
  have h2 := h1.1.2
  unfold PyData.strOk
  rw [Array.all_eq_true]
  intro i hi
  have hm : PyData.str ⟨#[n.cps[i]]⟩ ∈ signsD n := List.mem_map.mpr ⟨n.cps[i], by simp, rfl⟩
  have h3 := List.all_eq_true.mp h2 _ hm
  rw [show strOf (PyData.str ⟨#[n.cps[i]]⟩) = ⟨#[n.cps[i]]⟩ from rfl, isLet_c, isFig_c] at h3
  simp only [Bool.or_eq_true, decide_eq_true_eq] at h3
  exact decide_eq_true (by omega)
theorem Row.lay {r : Row} (h : r.ok) : r.d.canLay0 = true := by
  cases r with
  | made n ks =>
    simp only [Row.d, PyData.canLay0, PyData.canLayAll0, lay_nums, name_ok h.1, Bool.and_true]
    exact (by decide +kernel : PyData.strOk "made" = true)
  | asked n ks =>
    simp only [Row.d, PyData.canLay0, PyData.canLayAll0, lay_nums, name_ok h.1, Bool.and_true]
    exact (by decide +kernel : PyData.strOk "asked" = true)
  | either a i j => simp only [Row.d, PyData.canLay0, PyData.canLayAll0, Bool.and_true]; decide +kernel
  | given k => simp only [Row.d, PyData.canLay0, PyData.canLayAll0, Bool.and_true]; decide +kernel
theorem Row.dep (r : Row) : r.d.depth ≤ 2 := by
  cases r with
  | made n ks => simp [Row.d, PyData.depth, PyData.depthAll, dep_nums]
  | asked n ks => simp [Row.d, PyData.depth, PyData.depthAll, dep_nums]
  | either a i j => simp [Row.d, PyData.depth, PyData.depthAll]
  | given k => simp [Row.d, PyData.depth, PyData.depthAll]
theorem Row.eqOk {r : Row} (h : r.ok) : eqOk r.d := ⟨Row.lay h, by have := Row.dep r; omega⟩
theorem rows_lay : ∀ {R : List Row}, (∀ r ∈ R, r.ok) → PyData.canLayAll0 (R.map Row.d) = true
  | [], _ => rfl
  | r :: R, h => by
    simp only [List.map_cons, PyData.canLayAll0, Row.lay (h r (List.mem_cons_self ..)), Bool.true_and]
    exact rows_lay fun s hs => h s (List.mem_cons_of_mem _ hs)
theorem rows_dep : ∀ R : List Row, PyData.depthAll (R.map Row.d) ≤ 2
  | [] => Nat.zero_le _
  | r :: R => by
    have h1 := Row.dep r
    have h2 := rows_dep R
    show max (PyData.depth r.d) (PyData.depthAll (R.map Row.d)) ≤ 2
    omega
theorem rows_eqOk {R : List Row} (h : ∀ r ∈ R, r.ok) : eqOk (rowsD R) := by
  refine ⟨?_, ?_⟩
  · show PyData.canLay0 (.list (R.map Row.d)) = true
    simp only [PyData.canLay0]
    exact rows_lay h
  · have := rows_dep R
    show PyData.depthAll (R.map Row.d) + 1 ≤ 60
    omega
theorem rows_any (R : List Row) (r : Row) : ((R.map Row.d).any fun z => PyData.eqv z r.d) = decide (r ∈ R) := by
  induction R with
  | nil => simp
  | cons s R ih =>
    rw [List.map_cons, List.any_cons, ih, Row.eqv, ← Bool.decide_or]
    refine decide_eq_decide.mpr ?_
    rw [List.mem_cons]
    exact or_congr eq_comm Iff.rfl
theorem Row.d_inj {r s : Row} (h : r.d = s.d) : r = s := by
  have e := Row.eqv r s
  rw [← h, Row.eqv r r, decide_eq_true rfl] at e
  exact of_decide_eq_true e.symm
/-! ### named, why -/
abbrev spGNamed : Sp := fun vs H Q _ => ∃ (v : V) (r : Row), vs = [v] ∧ Dr All H v r.d ∧ ∀ u H', Sm H H' → Dr All H' u (.list (nums r.named)) → Q u H'
def kindsDue (r : Row) : List Bool := if r.isEither = true then [true, false, false] else List.replicate r.named.length false
theorem kinds_made (R : List Row) (ks : List Nat) (h : (ks.all fun k => decide (k < R.length)) = true) : decide (ks.map (fun k => (rowAt R k).isAsked) = List.replicate ks.length false) = ks.all (isPart R) := by
  induction ks with
  | nil => rfl
  | cons k ks ih =>
    simp only [List.all_cons, Bool.and_eq_true] at h
    have ih := ih h.2
    simp only [List.map_cons, List.length_cons, List.replicate_succ, List.all_cons, List.cons.injEq, Bool.decide_and, ih]
    congr 1
    unfold isPart
    rw [h.1, Bool.true_and]
    cases (rowAt R k).isAsked <;> rfl
theorem why_kinds (R : List Row) (r : Row) (h : (r.named.all fun k => decide (k < R.length)) = true) :
    why2 R r = if decide (r.named.map (fun k => (rowAt R k).isAsked) = kindsDue r) = false then some ("kind" : Str) else why4 r := by
  cases r with
  | made n ks =>
    have := kinds_made R ks h
    show why3 R (Row.made n ks) = _
    unfold why3
    rw [show decide (List.map (fun k => (rowAt R k).isAsked) (Row.made n ks).named = kindsDue (Row.made n ks)) = ks.all (isPart R) from this]
    rfl
  | asked n ks =>
    have := kinds_made R ks h
    show why3 R (Row.asked n ks) = _
    unfold why3
    rw [show decide (List.map (fun k => (rowAt R k).isAsked) (Row.asked n ks).named = kindsDue (Row.asked n ks)) = ks.all (isPart R) from this]
    rfl
  | given k => rfl
  | either a i j =>
    simp only [Row.named, List.all_cons, List.all_nil, Bool.and_true, Bool.and_eq_true] at h
    obtain ⟨ha, hi, hj⟩ := h
    unfold why2 why3
    simp only [Row.badTest, Row.parts, Row.named, List.map_cons, List.map_nil, kindsDue, Row.isEither, if_true, List.all_cons, List.all_nil, isPart, hi, hj, Bool.true_and, Bool.and_true]
    cases (rowAt R a).isAsked <;> cases (rowAt R i).isAsked <;> cases (rowAt R j).isAsked <;> rfl
theorem lay_bools (bs : List Bool) : PyData.canLayAll0 (bs.map PyData.bool) = true := by
  induction bs with
  | nil => rfl
  | cons b bs ih => simp only [List.map_cons, PyData.canLayAll0, PyData.canLay0, Bool.true_and]; exact ih
theorem dep_bools (bs : List Bool) : PyData.depthAll (bs.map PyData.bool) = 0 := by
  induction bs with
  | nil => rfl
  | cons b bs ih =>
    show max 0 (PyData.depthAll (bs.map PyData.bool)) = 0
    rw [ih]
    rfl
theorem bools_eqOk (bs : List Bool) : eqOk (.list (bs.map PyData.bool)) := by
  refine ⟨?_, ?_⟩
  · simp only [PyData.canLay0]
    exact lay_bools bs
  · show PyData.depthAll (bs.map PyData.bool) + 1 ≤ 60
    rw [dep_bools]
    decide
theorem bools_dr {N : Addr → Prop} {H : Hp} : ∀ bs : List Bool, DrA N H (bs.map V.bl) (bs.map PyData.bool)
  | [] => .nil
  | b :: bs => .cons (.bl b) (bools_dr bs)
theorem flat_one {α : Type} (x : α) : ∀ n : Nat, (List.replicate n [x]).flatten = List.replicate n x
  | 0 => rfl
  | n + 1 => by
    rw [List.replicate_succ, List.flatten_cons, flat_one x n]
    rfl
theorem Row.askedP (r : Row) : decide (V.str r.word = V.str "asked") = r.isAsked := by
  exact Bool.not_inj (Row.askedW r)
/-- what the law tells of a thing behind rows -/
inductive GWhy (R : List Row) (d : PyData) : PyData → Prop
  | form : rowForm d = .none → GWhy R d (.str "form")
  | why {r : Row} : rowForm d = r.d → r.ok → GWhy R d (whyD (why R r))
abbrev spGWhy : Sp := fun vs H Q _ => ∃ (v u : V) (R : List Row) (d : PyData), vs = [v, u] ∧ Dr All H v (rowsD R) ∧ Dr All H u d ∧ wd d = true ∧ ∀ x y H', Sm H H' → GWhy R d y → Dr All H' x y → Q x H'
section
variable {P : Program} {w : World} {K : PySem.W.Frag} {mg : Str → Option Value} {base : Heap}
theorem sc__law_g_named : FnScope ["row"] ["row"] (defScope s_law_g_named) := ⟨rfl, rfl, rfl, by decide +kernel, rfl, by decide +kernel, by decide +kernel⟩
theorem ok__law_g_named (B : Bt mg) (F : Fn K mg d_law_g_named) : Df P w K mg base CX0 1 "_law_g_named" ["row"] spGNamed := by
  obtain ⟨f, fd, hm, F⟩ := F
  refine ⟨f, fd, hm, F.kp, F.bindsN fun _ _ _ _ _ _ us hl => match us, hl with | [_], _ => rfl, ?_⟩
  refine F.ok sc__law_g_named (fun vs H Q E h => by obtain ⟨v, r, rfl, _⟩ := h; rfl) (fun cdv A outer s H vs Q E hr h => ?_)
  obtain ⟨v, r, rfl, rd, q⟩ := h
  refine ⟨_, PSs.nox (pss_one (ps_ret (pe_ifExp (pt_cmpR op_eq (pe_ix ix_D (pv 0) pe_int (fun _ _ => rfl)) pe_str (nomark _)) (pe_lst pa_nil) (pe_ifExp (pt_cmpR op_eq (pe_ix ix_D (pv 0) pe_int (fun _ _ => rfl)) pe_str (nomark _)) (pe_callTy (call_listN All) (by rfl) B.list (by decide +kernel) (pa_cons (pe_slice sl_D (pv 0) (po_some pe_int) po_none) pa_nil)) (pe_callTy (call_listN All) (by rfl) B.list (by decide +kernel) (pa_cons (pe_ix ix_D (pv 0) pe_int (fun _ _ => rfl)) pa_nil)))))), ?_⟩
  cases r with
  | given k =>
    refine ⟨_, rfl, _, 0, _, rd, rfl, rfl, rfl, fun x0 r0 => ?_⟩
    cases r0.str_inv
    refine ⟨rfl, _, rfl, ite2 (fun _ => ?_) (fun z => absurd (decide_eq_true rfl) z)⟩
    exact ⟨(by show 0 ≤ sizeLine; decide), fun t ht => q _ _ (Sm.new ht) (.lst trivial upd_same .nil)⟩
  | either a i j =>
    refine ⟨_, rfl, _, 0, _, rd, rfl, rfl, rfl, fun x0 r0 => ?_⟩
    cases r0.str_inv
    refine ⟨rfl, _, rfl, ite2 (fun z => absurd z (by decide +kernel)) (fun _ => ?_)⟩
    refine ⟨_, rfl, _, 0, _, rd, rfl, rfl, rfl, fun x0 r0 => ?_⟩
    cases r0.str_inv
    refine ⟨rfl, _, rfl, ite2 (fun _ => ?_) (fun z => absurd (decide_eq_true rfl) z)⟩
    refine ⟨_, rfl, _, rfl, _, rd, rfl, fun v1 H3 s3 r3 => ⟨_, _, rfl, r3, rfl, fun l ys nl ry => q _ _ (s3.trans (Sm.new nl)) ?_⟩⟩
    exact .lst trivial upd_same (ry.sm (Sm.new nl))
  | made n ks =>
    refine ⟨_, rfl, _, 0, _, rd, rfl, rfl, rfl, fun x0 r0 => ?_⟩
    cases r0.str_inv
    refine ⟨rfl, _, rfl, ite2 (fun z => absurd z (by decide +kernel)) (fun _ => ?_)⟩
    refine ⟨_, rfl, _, 0, _, rd, rfl, rfl, rfl, fun x0 r0 => ?_⟩
    cases r0.str_inv
    refine ⟨rfl, _, rfl, ite2 (fun z => absurd z (by decide +kernel)) (fun _ => ?_)⟩
    refine ⟨_, rfl, _, 2, _, rd, rfl, rfl, rfl, fun x0 r0 => ⟨_, _, rfl, r0, rfl, fun l ys nl ry => q _ _ (Sm.new nl) ?_⟩⟩
    exact .lst trivial upd_same (ry.sm (Sm.new nl))
  | asked n ks =>
    refine ⟨_, rfl, _, 0, _, rd, rfl, rfl, rfl, fun x0 r0 => ?_⟩
    cases r0.str_inv
    refine ⟨rfl, _, rfl, ite2 (fun z => absurd z (by decide +kernel)) (fun _ => ?_)⟩
    refine ⟨_, rfl, _, 0, _, rd, rfl, rfl, rfl, fun x0 r0 => ?_⟩
    cases r0.str_inv
    refine ⟨rfl, _, rfl, ite2 (fun z => absurd z (by decide +kernel)) (fun _ => ?_)⟩
    refine ⟨_, rfl, _, 2, _, rd, rfl, rfl, rfl, fun x0 r0 => ⟨_, _, rfl, r0, rfl, fun l ys nl ry => q _ _ (Sm.new nl) ?_⟩⟩
    exact .lst trivial upd_same (ry.sm (Sm.new nl))
theorem sc__law_g_why : FnScope ["rows", "thing", "row", "some", "one", "kinds"] ["rows", "thing"] (defScope s_law_g_why) := ⟨rfl, rfl, rfl, by decide +kernel, rfl, by decide +kernel, by decide +kernel⟩
theorem ok__law_g_why (B : Bt mg) (F : Fn K mg d_law_g_why) (D1 : Df P w K mg base CX0 2 "_law_g_form" ["thing"] spRowForm) (D2 : Df P w K mg base CX0 1 "_law_g_named" ["row"] spGNamed) :
    Df P w K mg base CX0 3 "_law_g_why" ["rows", "thing"] spGWhy := by
  obtain ⟨f, fd, hm, F⟩ := F
  refine ⟨f, fd, hm, F.kp, F.bindsN fun _ _ _ _ _ _ us hl => match us, hl with | [_, _], _ => rfl, ?_⟩
  refine F.ok sc__law_g_why (fun vs H Q E h => by obtain ⟨v, u, R, d, rfl, _⟩ := h; rfl) (fun cdv A outer s H vs Q E hr h => ?_)
  obtain ⟨v, u, R, d, rfl, rd, re, wdd, q⟩ := h
  have hr1 := hr.mono (show 1 ≤ 2 by decide)
  have hu := hr.units
  refine ⟨_, PSs.nox (pss_cons (ps_set (i := 2) sc__law_g_why.nd rfl (by first | exact Or.inl rfl | exact Or.inr rfl) (pe_df D1 hr pass0 (pa_cons (pv 1) pa_nil)))
      (pss_cons (ps_if (pt_cmpR op_isN (pv 2) pe_non (nomark _)) (pss_one (ps_ret pe_str)) pss_nil)
      (pss_cons (ps_set (i := 3) sc__law_g_why.nd rfl (by first | exact Or.inl rfl | exact Or.inr rfl) (pe_df D2 hr1 pass0 (pa_cons (pv 2) pa_nil)))
      (pss_cons (ps_if (pt_val (pe_callB (cr_any rfl) (by rfl) B.any (by decide +kernel) (pa_cons (pe_lc (own := [("one", 4)]) (g := gName 4) (tt := tYes) rfl sc__law_g_why.nd (pi_seq (pv 3)) (blkOk_by (own := [("one", 4)]) (N := ["rows", "thing", "row", "some", "one", "kinds"]) (sc := defScope s_law_g_why) (by decide +kernel)) (fun _ _ _ _ _ => pg_name (i := 4) sc__law_g_why.nd rfl (by first | exact Or.inl rfl | exact Or.inr rfl)) (fun _ _ _ _ _ => pts_nil) (fun _ _ _ _ _ => (pe_cmpR op_ge (pv 4) (pe_callB call_lenS (by rfl) B.len (by decide +kernel) (pa_cons (pv 0) pa_nil)) (nomark _)))) pa_nil))) (pss_one (ps_ret pe_str)) pss_nil)
      (pss_cons (ps_setLc (i := 5) (own := [("one", 4)]) (g := gName 4) (tt := tYes) rfl sc__law_g_why.nd rfl rfl (sw_true rfl rfl rfl (by decide +kernel)) (pi_seq (pv 3)) (blkOk_by (own := [("one", 4)]) (N := ["rows", "thing", "row", "some", "one", "kinds"]) (sc := defScope s_law_g_why) (by decide +kernel)) (fun _ _ _ _ _ => pg_name (i := 4) sc__law_g_why.nd rfl (by first | exact Or.inl rfl | exact Or.inr rfl)) (fun _ _ _ _ _ => pts_nil) (fun _ _ _ _ _ => (pe_cmpR op_eq (pe_ix ix_D (pe_ix ix_D (pv 0) (pv 4) (fun _ _ => rfl)) pe_int (fun _ _ => rfl)) pe_str (nomark _))))
      (pss_cons (ps_if (pt_cmpR (op_neDr hu) (pv 5) (pe_ifExp (pt_cmpR op_eq (pe_ix ix_D (pv 2) pe_int (fun _ _ => rfl)) pe_str (nomark _)) (pe_lst (pa_cons pe_bl (pa_cons pe_bl (pa_cons pe_bl pa_nil)))) (pe_op op_rep (pe_lst (pa_cons pe_bl pa_nil)) (pe_callB call_lenS (by rfl) B.len (by decide +kernel) (pa_cons (pv 3) pa_nil)))) (nomark _)) (pss_one (ps_ret pe_str)) pss_nil)
      (pss_one (ps_ret (pe_ifExp (PW.pt (pw_and (pt_cmpR op_eq (pe_ix ix_D (pv 2) pe_int (fun _ _ => rfl)) pe_str (nomark _)) (pw_and1 (pt_cmpR op_eq (pe_ix ix_D (pv 3) pe_int (fun _ _ => rfl)) (pe_ix ix_D (pv 3) pe_int (fun _ _ => rfl)) (nomark _))))) pe_str pe_non))))))))), ?_⟩
  have fin : ∀ x y H1, Sm H H1 → GWhy R d y → Dr All H1 x y → Q x H1 := fun x y H1 s g r => q x y H1 s g r
  have lenR : (its (rowsD R)).length = R.length := by simp [rowsD, its]
  have hsl := lim_lt
  -- row = _law_g_form(thing)
  refine ⟨_, rfl, spP1_of re (by simpa [wdA] using wdd) fun y H1 s1 r1 => ?_⟩
  have r1' : Dr All H1 y (rowForm d) := r1
  rcases rowForm_row wdd with ef | ⟨r, ef, rok⟩
  · rw [ef] at r1'
    cases r1'.non_inv
    exact ⟨_, rfl, rfl, _, rfl, iteT (fin _ _ _ s1 (.form ef) (.str _))⟩
  rw [ef] at r1'
  have hyn : decide (y = V.non) = false := by
    refine decide_eq_false fun z => ?_
    rw [z] at r1'
    cases r <;> cases r1'
  refine ⟨_, rfl, rfl, _, rfl, ?_⟩
  rw [hyn]
  refine iteF ?_
  have hnl : r.named.length ≤ lim := by
    cases r with
    | made n ks => exact rok.2
    | asked n ks => exact rok.2
    | either a i j => show 3 ≤ lim; decide
    | given k => show 0 ≤ lim; decide
  -- some = _law_g_named(row)
  refine ⟨_, rfl, y, r, rfl, r1', fun u2 H2 s2 r2 => ?_⟩
  have s12 := s1.trans s2
  have rr2 := r1'.sm s2
  obtain ⟨a2, xs2, rfl, hq2, rs2⟩ := r2.seq rfl
  -- any([one >= len(rows) for one in some])
  refine ⟨_, rfl, a2, xs2, rfl, hq2, fun J hJ D nD => ?_⟩
  refine lc_fz (fun d => .bool (decide ((R.length : Int) ≤ intOf d))) (.seq hJ rs2) nD (by simpa [its, nums] using hnl) (fun _ => rfl) (fun _ _ => rfl) (fun x e H3 Q' he s3 rx q' => ?_) fun H3 ys s3 eD ry => ?_
  · obtain ⟨k, _, rfl⟩ := List.mem_map.mp he
    cases rx.int_inv
    refine ⟨_, rfl, _, rfl, v, _, rfl, rd.sm (s12.trans s3), rfl, _, _, rfl, rfl, q' _ _ Sm.rfl' ?_⟩
    rw [lenR]
    exact .bl _
  have eb : (its (.list (nums r.named))).map (fun d => PyData.bool (decide ((R.length : Int) ≤ intOf d))) = (r.named.map fun k => !decide (k < R.length)).map PyData.bool := by
    simp only [its, nums, List.map_map]
    refine List.map_congr_left fun k _ => ?_
    show PyData.bool (decide ((R.length : Int) ≤ (k : Int))) = PyData.bool (!decide (k < R.length))
    rw [← decide_not, decide_eq_decide.mpr (show (R.length : Int) ≤ (k : Int) ↔ ¬ k < R.length by omega)]
  rw [eb] at ry
  have ey := ry.bls
  subst ey
  refine ⟨_, _, rfl, SqL.of eD, _, rfl, ?_⟩
  have ea : ((r.named.map fun k => !decide (k < R.length)).any id) = !(r.named.all fun k => decide (k < R.length)) := by
    generalize r.named = ks
    induction ks with
    | nil => rfl
    | cons k ks ih =>
      rw [List.map_cons, List.any_cons, ih, List.all_cons, Bool.not_and]
      rfl
  rw [ea]
  have s13 := s12.trans s3
  refine ite2 (fun hA => ?_) (fun hA => ?_)
  · have hA' : (r.named.all fun k => decide (k < R.length)) = false := by simpa using hA
    refine fin _ (whyD (why R r)) _ s13 (.why ef rok) ?_
    rw [show why R r = some "ahead" from if_pos hA']
    exact .str _
  have hA' : (r.named.all fun k => decide (k < R.length)) = true := by simpa using hA
  have w1 : why R r = why2 R r := if_neg (by rw [hA']; exact Bool.noConfusion)
  have wk := why_kinds R r hA'
  have lt : ∀ k ∈ r.named, k < R.length := fun k hk => of_decide_eq_true (List.all_eq_true.mp hA' k hk)
  -- kinds = [rows[one][0] == 'asked' for one in some]
  have r3 := r2.sm s3
  obtain ⟨a3, xs3, e3, hq3, rs3⟩ := r3.seq rfl
  cases e3
  have rd3 := rd.sm s13
  have rr3 := rr2.sm s3
  refine ⟨_, rfl, a2, xs3, rfl, hq3, fun J hJ D4 nD4 => ?_⟩
  refine lc_fz (fun d => .bool (rowAt R (intOf d).toNat).isAsked) (.seq hJ rs3) nD4 (by simpa [its, nums] using hnl) (fun _ => rfl) (fun _ _ => rfl) (fun x e H4 Q' he s4 rx q' => ?_) fun H4 ys s4 eD4 ry => ?_
  · obtain ⟨k, hk, rfl⟩ := List.mem_map.mp he
    cases rx.int_inv
    refine ⟨_, rfl, _, rfl, _, k, _, rd3.sm s4, rfl, rfl, rowAt_at (lt k hk), fun x2 r2 => ?_⟩
    refine ⟨_, 0, _, r2, Row.seqD _, rfl, Row.word_at _, fun x3 r3 => ?_⟩
    cases r3.str_inv
    refine ⟨rfl, q' _ _ Sm.rfl' ?_⟩
    rw [Row.askedP]
    show Dr All H4 _ (PyData.bool (rowAt R (k : Int).toNat).isAsked)
    rw [Int.toNat_natCast]
    exact .bl _
  have eb4 : (its (.list (nums r.named))).map (fun d => PyData.bool (rowAt R (intOf d).toNat).isAsked) = (r.named.map fun k => (rowAt R k).isAsked).map PyData.bool := by
    simp only [its, nums, List.map_map]
    refine List.map_congr_left fun k _ => ?_
    show PyData.bool (rowAt R (k : Int).toNat).isAsked = PyData.bool (rowAt R k).isAsked
    rw [Int.toNat_natCast]
  rw [eb4] at ry
  have ey := ry.bls
  subst ey
  have s14 := s13.trans s4
  have rr4 := rr3.sm s4
  have rd4 := rd3.sm s4
  have rs4 := r3.sm s4
  have rk4 : Dr All H4 (.ref D4) (.list ((r.named.map fun k => (rowAt R k).isAsked).map PyData.bool)) := .lst trivial eD4 (bools_dr _)
  -- kinds != ..
  have step : ∀ (p : Addr) (H5 : Hp), Sm H4 H5 → H5 p = some (.lst ((kindsDue r).map V.bl)) → rNeDr (.ref D4) (.ref p) H5 (fun x H' => ∃ k, x = .bl k ∧ (if k = true then Q (.str "kind") H' else (
      (tRet
                (tIf
                  (tAnd (tTest (tOp rEq (tOp WR.rIxD (tVar 2) (tC (V.int 0))) (tC (V.str ("either" : Str)))))
                    (tTest (tOp rEq (tOp WR.rIxD (tVar 3) (tC (V.int 1))) (tOp WR.rIxD (tVar 3) (tC (V.int 2))))))
                  (tC (V.str ("alike" : Str))) (tC V.non))) { nx := fun x H' => Q V.non H', rt := Q } [some v, some u, some y, some (.ref a2), none, some (.ref D4)] H'))) := by
    intro p H5 s5 ep
    refine ⟨_, _, rk4.sm s5, .lst trivial ep (bools_dr _), bools_eqOk _, bools_eqOk _, _, rfl, ?_⟩
    rw [show PyData.eqv (.list ((r.named.map fun k => (rowAt R k).isAsked).map PyData.bool)) (.list ((kindsDue r).map PyData.bool)) = decide ((r.named.map fun k => (rowAt R k).isAsked) = kindsDue r) by rw [PyData.eqv]; exact eqv_bools _ _]
    have s15 := s14.trans s5
    have rr5 := rr4.sm s5
    have rs5 := rs4.sm s5
    refine ite2 (fun hk => ?_) (fun hk => ?_)
    · have hk' : decide ((r.named.map fun k => (rowAt R k).isAsked) = kindsDue r) = false := by
        cases z : decide ((r.named.map fun k => (rowAt R k).isAsked) = kindsDue r) with
        | false => rfl
        | true => rw [z] at hk; cases hk
      refine fin _ (whyD (why R r)) _ s15 (.why ef rok) ?_
      rw [w1, wk, if_pos hk']
      exact .str _
    have hk' : ¬ decide ((r.named.map fun k => (rowAt R k).isAsked) = kindsDue r) = false := fun z => hk (by rw [z]; rfl)
    have w4 : why R r = why4 r := by rw [w1, wk, if_neg hk']
    refine ⟨_, rfl, _, 0, _, rr5, Row.seqD r, rfl, Row.word_at r, fun x0 r0 => ?_⟩
    cases r0.str_inv
    refine ⟨rfl, ?_⟩
    rw [Row.eitherW]
    have nope : r.like = false → Q .non H5 := fun hl => fin _ (whyD (why R r)) _ s15 (.why ef rok) (by rw [w4, show why4 r = none from if_neg (by rw [hl]; exact Bool.noConfusion)]; exact .non)
    cases r with
    | either a' i' j' =>
      refine ⟨_, rfl, iteT ?_⟩
      refine ⟨_, rfl, _, 1, _, rs5, rfl, rfl, rfl, fun x2 r2 => ?_⟩
      cases r2.int_inv
      refine ⟨_, rfl, _, 2, _, rs5, rfl, rfl, rfl, fun x3 r3 => ?_⟩
      cases r3.int_inv
      refine ⟨rfl, _, rfl, ite2 (fun z => ?_) (fun z => nope (decide_eq_false fun e => z (decide_eq_true (by rw [e]))))⟩
      have e : i' = j' := by
        have := of_decide_eq_true z
        injection this with this
        omega
      refine fin _ (whyD (why R _)) _ s15 (.why ef rok) ?_
      rw [w4, show why4 (Row.either a' i' j') = some "alike" from if_pos (decide_eq_true e)]
      exact .str _
    | made n ks => exact ⟨_, rfl, iteF (iteF (nope rfl))⟩
    | asked n ks => exact ⟨_, rfl, iteF (iteF (nope rfl))⟩
    | given k => exact ⟨_, rfl, iteF (iteF (nope rfl))⟩
  refine ⟨_, rfl, _, rfl, _, 0, _, rr4, Row.seqD r, rfl, Row.word_at r, fun x0 r0 => ?_⟩
  cases r0.str_inv
  refine ⟨rfl, ?_⟩
  rw [Row.eitherW]
  by_cases hE : r.isEither = true
  · rw [hE]
    refine ⟨_, rfl, iteT ⟨(by show 3 ≤ sizeLine; decide), fun p np => ?_⟩⟩
    refine step p _ (Sm.new np) ?_
    rw [show kindsDue r = [true, false, false] from if_pos hE]
    exact upd_same
  · have hE' : r.isEither = false := by simpa using hE
    rw [hE']
    refine ⟨_, rfl, iteF ⟨(by show 1 ≤ sizeLine; decide), fun p np => ?_⟩⟩
    have e4 : (its (PyData.list (nums r.named))).length = r.named.length := by simp [its, nums]
    refine ⟨_, rfl, _, _, rfl, rs4.sm (Sm.new np), rfl, ?_⟩
    rw [e4]
    refine ⟨p, _, _, rfl, rfl, upd_same, by omega, by have : lim = 4000 := rfl; omega, by rw [Int.toNat_natCast]; show 1 * r.named.length ≤ sizeLine; omega, fun p2 np2 => ?_⟩
    refine step p2 _ ((Sm.new np).trans (Sm.new np2)) ?_
    rw [show kindsDue r = List.replicate r.named.length false from if_neg hE, Int.toNat_natCast, flat_one, List.map_replicate]
    exact upd_same
end
end K8

namespace K8
open PySem PySem.Spec PyProof.Rows L2 WR
theorem rows_fzA : ∀ R : List Row, fzA (R.map Row.d) = true
  | [] => rfl
  | r :: R => by
    simp only [List.map_cons, fzA, Row.fz r, Bool.true_and]
    exact rows_fzA R
/-- the places of the rows that p takes -/
def atP (p : Row → Bool) : List Row → Nat → List Nat
  | [], _ => []
  | r :: R, n => if p r = true then n :: atP p R (n + 1) else atP p R (n + 1)
theorem atP_app (p : Row → Bool) (r : Row) : ∀ (R : List Row) (n : Nat), atP p (R ++ [r]) n = atP p R n ++ (if p r = true then [n + R.length] else [])
  | [], n => by simp [atP]
  | s :: R, n => by
    have ih := atP_app p r R (n + 1)
    simp only [List.cons_append, atP]
    rw [ih]
    by_cases h : p s = true
    · rw [if_pos h, if_pos h, List.cons_append, List.length_cons, show n + 1 + R.length = n + (R.length + 1) by omega]
    · rw [if_neg h, if_neg h, List.length_cons, show n + 1 + R.length = n + (R.length + 1) by omega]
theorem atP_mem {p : Row → Bool} {k : Nat} : ∀ {R : List Row} {n : Nat}, k ∈ atP p R n → n ≤ k ∧ k < n + R.length ∧ p (rowAt R (k - n)) = true
  | [], n, h => by simp [atP] at h
  | r :: R, n, h => by
    unfold atP at h
    have rest : k ∈ atP p R (n + 1) → n ≤ k ∧ k < n + (r :: R).length ∧ p (rowAt (r :: R) (k - n)) = true := fun h => by
      obtain ⟨h1, h2, h3⟩ := atP_mem h
      refine ⟨by omega, by simp; omega, ?_⟩
      have e : rowAt (r :: R) (k - n) = rowAt R (k - (n + 1)) := by
        unfold rowAt
        rw [show k - n = (k - (n + 1)) + 1 by omega]
        rfl
      rw [e]
      exact h3
    by_cases hp : p r = true
    · rw [if_pos hp] at h
      rcases List.mem_cons.mp h with rfl | h
      · refine ⟨Nat.le_refl _, by simp, ?_⟩
        rw [Nat.sub_self]
        exact hp
      · exact rest h
    · rw [if_neg hp] at h
      exact rest h
theorem atP_nodup {p : Row → Bool} : ∀ (R : List Row) (n : Nat), (atP p R n).Nodup
  | [], _ => List.nodup_nil
  | r :: R, n => by
    unfold atP
    have ih := atP_nodup (p := p) R (n + 1)
    by_cases hp : p r = true
    · rw [if_pos hp]
      exact List.nodup_cons.mpr ⟨fun z => by have := (atP_mem z).1; omega, ih⟩
    · rw [if_neg hp]
      exact ih
theorem atP_len {p : Row → Bool} : ∀ (R : List Row) (n : Nat), (atP p R n).length ≤ R.length
  | [], _ => Nat.le_refl _
  | r :: R, n => by
    unfold atP
    have ih := atP_len (p := p) R (n + 1)
    by_cases hp : p r = true
    · rw [if_pos hp]; simp; omega
    · rw [if_neg hp]; simp; omega
theorem nums_app (ks js : List Nat) : nums (ks ++ js) = nums ks ++ nums js := by simp [nums]
/-- [i for i, r in enumerate(rows) if p(r)] -/
theorem enum_comp {K : PySem.W.Frag} {J : It} {H1 : Hp} {D a : Addr} {xs : List V} {R : List Row} {tt : TT} {σ : L2.St} {vs : List Nat} {i j : Nat} {Qd : Hp → Prop} (p : Row → Bool) (hJ : ItN K H1 a xs J) (rs : DrA All H1 xs (R.map Row.d)) (nD : H1 D = none) (hlen : R.length ≤ lim)
    (hw : ∀ a b, wipe (((wipe σ vs).set i (some a)).set j (some b)) vs = wipe σ vs) (hi : ∀ a b, (((wipe σ vs).set i (some a)).set j (some b))[i]? = some (some a))
    (htt : ∀ (a b : V) (H2 : Hp) (r : Row) (Q : Bool → Hp → Prop), Dr All H2 b r.d → Q (p r) H2 → tt (((wipe σ vs).set i (some a)).set j (some b)) H2 Q)
    (hd : ∀ H2, Sm H1 H2 → H2 D = some (.lst ((atP p R 0).map fun (k : Nat) => V.int (k : Int))) → Qd H2) :
    ∃ W : Nat → Nat → Hp → Prop, (∃ m, W 0 m (upd H1 D (.lst []))) ∧ ∀ i' m H, W i' m H →
      (J.stop i' H ∧ Qd H) ∨ (J.go i' H ∧ ∃ Nx : Hp → Prop, (∀ H', Nx H' → ∃ m', m' < m ∧ W (i' + 1) m' H') ∧ ∀ x H', J.yld i' H x H' → (gTup K 2 (gCons (gName i) (gCons (gName j) gNil))) x (wipe σ vs) H' fun σ2 H2 => wipe σ2 vs = wipe σ vs ∧ tt σ2 H2 fun b H3 =>
        if b = true then (tVar i) σ2 H3 fun y H4 => ∃ acc, H4 D = some (.lst acc) ∧ acc.length < sizeLine ∧ Nx (upd H4 D (.lst (acc ++ [y]))) else Nx H3) := by
  have hl : xs.length = R.length := by rw [rs.length, List.length_map]
  have hsl := lim_lt
  refine lc_walk (n := R.length) (fun m H2 => Sm H1 H2 ∧ H2 D = some (.lst ((atP p (R.take m) 0).map fun (k : Nat) => V.int (k : Int)))) ⟨Sm.new nD, upd_same⟩ (fun m H2 hm h => ?_) (fun H2 h => ?_) (fun m x H2 H' hm h hy => ?_) fun H2 h => ?_
  · have hx : xs[m]? = some xs[m] := List.getElem?_eq_getElem (by omega)
    rcases hJ with ⟨rfl, e⟩ | ⟨rfl, e⟩
    · exact ⟨xs, _, SqL.of (h.1 _ _ e), hx⟩
    · exact ⟨xs, _, SqT.of (h.1 _ _ e), hx⟩
  · rcases hJ with ⟨rfl, e⟩ | ⟨rfl, e⟩
    · exact ⟨xs, SqL.of (h.1 _ _ e), by omega⟩
    · exact ⟨xs, SqT.of (h.1 _ _ e), by omega⟩
  · obtain ⟨s, eD⟩ := h
    obtain ⟨T, y, rfl, nT, rfl, hx⟩ : ∃ T y, x = .ref T ∧ H2 T = none ∧ H' = upd H2 T (.tup [.int (m : Nat), y]) ∧ xs[m]? = some y := by
      rcases hJ with ⟨rfl, e⟩ | ⟨rfl, e⟩
      · obtain ⟨T, y, h1, h2, h3, h4⟩ := hy
        exact ⟨T, y, h1, h2, h3, h4 xs (SqL.of (s _ _ e))⟩
      · obtain ⟨T, y, h1, h2, h3, h4⟩ := hy
        exact ⟨T, y, h1, h2, h3, h4 xs (SqT.of (s _ _ e))⟩
    obtain ⟨d, hd', rd⟩ := (rs.sm s).get hx
    have hr : R[m]? = some R[m] := List.getElem?_eq_getElem hm
    rw [List.getElem?_map, hr] at hd'
    cases hd'
    have sT : Sm H2 (upd H2 T (.tup [.int (m : Nat), y])) := Sm.new nT
    refine ⟨T, _, rfl, SqT.of upd_same, rfl, _, _, rfl, _, _, rfl, rfl, hw _ _, ?_⟩
    have et : R.take (m + 1) = R.take m ++ [R[m]] := by rw [List.take_succ, hr]; rfl
    have em : (R.take m).length = m := by rw [List.length_take]; omega
    have la := atP_len (p := p) (R.take m) 0
    refine htt _ _ _ R[m] _ (rd.sm sT) ?_
    refine ite2 (fun hp => ?_) (fun hp => ?_)
    · refine ⟨_, hi _ _, _, sT _ _ eD, ?_, ?_, ?_⟩
      · rw [List.length_map]
        omega
      · exact fun c o e => by
          rw [upd_ne (ne_of_none e nD)]
          exact sT _ _ (s _ _ e)
      · rw [upd_same, et, atP_app, if_pos hp, em, Nat.zero_add, List.map_append]
        rfl
    · refine ⟨s.trans sT, ?_⟩
      rw [et, atP_app, if_neg hp, List.append_nil]
      exact sT _ _ eD
  · have := h.2
    rw [List.take_length] at this
    exact hd H2 h.1 this
def isPa (r : Row) : Bool := !r.isAsked
abbrev spGParts : Sp := fun vs H Q _ => ∃ (v : V) (R : List Row), vs = [v] ∧ Dr All H v (rowsD R) ∧ R.length ≤ lim ∧ ∀ (l : Addr) H', H l = none → Sm H H' → H' l = some (.lst ((atP isPa R 0).map fun (k : Nat) => V.int (k : Int))) → Q (.ref l) H'
section
variable {P : Program} {w : World} {K : PySem.W.Frag} {mg : Str → Option Value} {base : Heap}
theorem sc__law_g_parts : FnScope ["rows", "index", "row"] ["rows"] (defScope s_law_g_parts) := ⟨rfl, rfl, rfl, by decide +kernel, rfl, by decide +kernel, by decide +kernel⟩
theorem ok__law_g_parts (B : Bt mg) (F : Fn K mg d_law_g_parts) : Df P w K mg base CX0 1 "_law_g_parts" ["rows"] spGParts := by
  obtain ⟨f, fd, hm, F⟩ := F
  refine ⟨f, fd, hm, F.kp, F.bindsN fun _ _ _ _ _ _ us hl => match us, hl with | [_], _ => rfl, ?_⟩
  refine F.ok sc__law_g_parts (fun vs H Q E h => by obtain ⟨v, R, rfl, _⟩ := h; rfl) (fun cdv A outer s H vs Q E hr h => ?_)
  obtain ⟨v, R, rfl, rd, hl, q⟩ := h
  refine ⟨_, PSs.nox (pss_one (ps_ret (pe_lc (own := [("index", 1), ("row", 2)]) (g := gTup K 2 (gCons (gName 1) (gCons (gName 2) gNil))) (tt := _) rfl sc__law_g_parts.nd (pi_enS B.enumerate (pa_cons (pv 0) pa_nil)) (blkOk_by (own := [("index", 1), ("row", 2)]) (N := ["rows", "index", "row"]) (sc := defScope s_law_g_parts) (by decide +kernel)) (fun _ _ _ _ _ => pg_tup rfl (pgs_cons (pg_name (i := 1) sc__law_g_parts.nd rfl (by first | exact Or.inl rfl | exact Or.inr rfl)) (pgs_cons (pg_name (i := 2) sc__law_g_parts.nd rfl (by first | exact Or.inl rfl | exact Or.inr rfl)) pgs_nil))) (fun _ _ _ _ _ => (pts_one (pt_cmpR op_ne (pe_ix ix_D (pv 2) pe_int (fun _ _ => rfl)) pe_str (nomark _)))) (fun _ _ _ _ _ => (pv 1))))), ?_⟩
  obtain ⟨a, xs, rfl, hq, rs⟩ := rd.seq rfl
  refine ⟨_, rfl, a, xs, rfl, hq, fun J hJ D nD => ?_⟩
  refine enum_comp isPa hJ rs nD hl (fun _ _ => rfl) (fun _ _ => rfl) (fun a b H2 r Q' rb q' => ?_) fun H2 s2 e2 => q D H2 nD s2 e2
  refine ⟨_, rfl, _, 0, _, rb, Row.seqD _, rfl, Row.word_at _, fun x0 r0 => ?_⟩
  cases r0.str_inv
  refine ⟨rfl, _, rfl, ?_⟩
  rw [Row.askedW]
  exact q'
theorem sc__law_g_fault : FnScope ["thing", "rows", "index", "one", "why"] ["thing"] (defScope s_law_g_fault) := ⟨rfl, rfl, rfl, by decide +kernel, rfl, by decide +kernel, by decide +kernel⟩
theorem ok__law_g_fault (B : Bt mg) (F : Fn K mg d_law_g_fault) (D1 : Df P w K mg base CX0 2 "_law_g_form" ["thing"] spRowForm) (D2 : Df P w K mg base CX0 3 "_law_g_why" ["rows", "thing"] spGWhy) :
    Df P w K mg base CX0 4 "_law_g_fault" ["thing"] spFault := by
  obtain ⟨f, fd, hm, F⟩ := F
  refine ⟨f, fd, hm, F.kp, F.bindsN fun _ _ _ _ _ _ us hl => match us, hl with | [_], _ => rfl, ?_⟩
  refine F.ok sc__law_g_fault (fun vs H Q E h => by obtain ⟨v, d, rfl, _⟩ := h; rfl) (fun cdv A outer s H vs Q E hr h => ?_)
  obtain ⟨v, d, rfl, rd, wdd, q⟩ := h
  have hr2 := hr.mono (show 2 ≤ 3 by decide)
  have hu := hr.un
  have hu65 : (A.deeper (envOfC d_law_g_fault.qual d_law_g_fault.scope s.heap.objs.size f cdv)).units + 65 < cLine := by omega
  refine ⟨_, PSs.nox (pss_cons (ps_if (pt_not (pt_val (pe_callB (call_isD2 kit_list kit_tuple isL_or) (by rfl) B.isinstance (by decide +kernel) (pa_cons (pv 0) (pa_cons (pe_tup (pa_cons (pe_ty "list" B.list (by decide +kernel)) (pa_cons (pe_ty "tuple" B.tuple (by decide +kernel)) pa_nil))) pa_nil))))) (pss_one (ps_ret (pe_tup (pa_cons pe_int (pa_cons pe_str pa_nil))))) pss_nil)
      (pss_cons (ps_set (i := 1) sc__law_g_fault.nd rfl (by first | exact Or.inl rfl | exact Or.inr rfl) (pe_lst pa_nil))
      (pss_cons (ps_for PassesOwn.never rfl (pi_enS B.enumerate (pa_cons (pv 0) pa_nil)) (pg_tup rfl (pgs_cons (pg_name (i := 2) sc__law_g_fault.nd rfl (by first | exact Or.inl rfl | exact Or.inr rfl)) (pgs_cons (pg_name (i := 3) sc__law_g_fault.nd rfl (by first | exact Or.inl rfl | exact Or.inr rfl)) pgs_nil))) (pss_cons (ps_set (i := 4) sc__law_g_fault.nd rfl (by first | exact Or.inl rfl | exact Or.inr rfl) (pe_df D2 hr pass0 (pa_cons (pv 1) (pa_cons (pv 3) pa_nil))))
      (C8.pss_cut (ps_if (PW.pt (pw_and (pt_cmpR op_isN (pv 4) pe_non (nomark _)) (pw_and1 (pt_cmpR (op_inDr hu65) (pe_df D1 hr2 pass0 (pa_cons (pv 3) pa_nil)) (pv 1) (by rfl))))) (pss_one (ps_set (i := 4) sc__law_g_fault.nd rfl (by first | exact Or.inl rfl | exact Or.inr rfl) pe_str)) pss_nil)
      (pss_cons (ps_if (pt_cmpR op_notN (pv 4) pe_non (nomark _)) (pss_one (ps_ret (pe_tup (pa_cons (pv 2) (pa_cons (pv 4) pa_nil))))) pss_nil)
      (pss_one (ps_expr (pe_bm PySem.F.plainAttrs_list PySem.F.slot_list_append PySem.F.type_list_append mt_append (pv 1) (pa_cons (pe_df D1 hr2 pass0 (pa_cons (pv 3) pa_nil)) pa_nil))))))))
      (pss_one (ps_ret pe_non))))), ?_⟩
  have sz2 : ([V.ty "list", V.ty "tuple"] : List V).length ≤ sizeLine := by show 2 ≤ sizeLine; decide
  have hsl := lim_lt
  refine ⟨_, rfl, sz2, fun p1 np1 => ⟨v, p1, d, rfl, upd_same, rd.sm (Sm.new np1), _, rfl, ?_⟩⟩
  have s1 : Sm H (upd H p1 (.tup [V.ty "list", V.ty "tuple"])) := Sm.new np1
  generalize hH1 : upd H p1 (.tup [V.ty "list", V.ty "tuple"]) = H1 at s1
  refine ite2 (fun hL => ?_) (fun hL => ?_)
  · have hL' : isL d = false := by simpa using hL
    refine ⟨(by show 2 ≤ sizeLine; decide), fun p2 np2 => q [] (faultD 0 "form") _ _ (.inr ⟨hL', rfl, rfl⟩) (s1.trans (Sm.new np2)) ?_⟩
    exact .tup upd_same (.cons (.int 0) (.one (.str _)))
  have hL' : isL d = true := by simpa using hL
  -- rows = []
  refine ⟨(by show 0 ≤ sizeLine; decide), fun l nl => ?_⟩
  have nl0 : H l = none := s1.free nl
  have s2 : Sm H (upd H1 l (.lst [])) := s1.trans (Sm.new nl)
  have rd2 := rd.sm s2
  obtain ⟨a, xs, rfl, hq, rs0⟩ := rd.seq hL'
  have hdl := (wd_its wdd hL').1
  have hdw := (wd_its wdd hL').2
  have lxs : xs.length = (its d).length := rs0.length
  obtain ⟨oa, hoa⟩ : ∃ o, H a = some o := by
    rcases hq with z | z
    · exact ⟨_, z⟩
    · exact ⟨_, z⟩
  have hq2 : Sq (upd H1 l (.lst [])) a xs := by
    rcases hq with z | z
    · exact .inl (s2 _ _ z)
    · exact .inr (s2 _ _ z)
  refine ⟨_, rfl, a, xs, rfl, hq2, fun J hJ => ?_⟩
  refine for_enS hJ (fun i σ3 H3 => ∃ x2 x3 x4 R ys, σ3 = [some (.ref a), some (.ref l), x2, x3, x4] ∧ Sm H H3 ∧ H3 l = some (.lst ys) ∧ DrA No H3 ys (R.map Row.d) ∧ R.length ≤ i ∧ (∀ r ∈ R, r.ok) ∧ (∀ R' f, Scan R i ((its d).drop i) R' f → Scan [] 0 (its d) R' f)) ?_ ?_ ?_ ?_
  · exact ⟨none, none, none, [], [], rfl, s2, upd_same, .nil, Nat.le_refl _, (fun _ z => nomatch z), fun R' f z => z⟩
  · rintro i σ3 H3 ⟨_, _, _, _, _, _, s, _⟩
    rw [s _ _ hoa, s2 _ _ hoa]
  · rintro i x σ3 H3 T0 hx ⟨x2, x3, x4, R, ys, rfl, s3, el3, ry3, hRi, oks, sc3⟩ nT
    obtain ⟨e, he, re⟩ := (rs0.sm s3).get hx
    have hi : i < (its d).length := (List.getElem?_eq_some_iff.mp he).1
    have wde : wd e = true := wdA_mem hdw (List.mem_of_getElem? he)
    have ed : (its d).drop i = e :: (its d).drop (i + 1) := by
      rw [List.drop_eq_getElem_cons hi]
      rw [List.getElem?_eq_getElem hi] at he
      rw [Option.some.inj he]
    rw [ed] at sc3
    have sT : Sm H3 (upd H3 T0 (.tup [.int (i : Nat), x])) := Sm.new nT
    have s4 := s3.trans sT
    refine ⟨T0, _, rfl, SqT.of upd_same, rfl, _, _, rfl, _, _, rfl, rfl, ?_⟩
    have el4 := sT _ _ el3
    have ry4 := ry3.sm sT
    have rl4 : Dr All (upd H3 T0 (.tup [.int (i : Nat), x])) (.ref l) (rowsD R) := .lst trivial el4 ry4.all
    have re4 := re.sm sT
    generalize upd H3 T0 (.tup [.int (i : Nat), x]) = H4 at s4 el4 ry4 rl4 re4
    -- why = _law_g_why(rows, one)
    refine ⟨_, rfl, _, rfl, .ref l, x, R, e, rfl, rl4, re4, wde, fun y z H5 s5 gw ry => ?_⟩
    have s45 := s4.trans s5
    have el5 := s5 _ _ el4
    have ry5 := ry4.sm s5
    have rl5 := rl4.sm s5
    have re5 := re4.sm s5
    -- if why is None and _law_g_form(one) in rows
    refine ⟨fun σ7 H7 => ∃ (y : V) (z : PyData), σ7 = [some (.ref a), some (.ref l), some (.int (i : Nat)), some x, some y] ∧ Sm H5 H7 ∧ Dr All H7 y z ∧
      ((z = .none ∧ ∃ r : Row, rowForm e = r.d ∧ r.ok ∧ why R r = none ∧ r ∉ R) ∨ ∃ m : Str, z = .str m ∧ Scan R i (e :: (its d).drop (i + 1)) R (faultD i m)), ?_, ?_⟩
    · cases gw with
      | form ef =>
        cases ry.str_inv
        exact ⟨_, rfl, rfl, _, rfl, iteF (iteF ⟨_, _, rfl, Sm.rfl', .str _, .inr ⟨_, rfl, .form ef⟩⟩)⟩
      | @why r ef rok =>
        cases ew : why R r with
        | some m =>
          rw [ew] at ry
          cases ry.str_inv
          exact ⟨_, rfl, rfl, _, rfl, iteF (iteF ⟨_, _, rfl, Sm.rfl', .str _, .inr ⟨_, rfl, .why ef ew⟩⟩)⟩
        | none =>
          rw [ew] at ry
          cases ry.non_inv
          refine ⟨_, rfl, rfl, _, rfl, iteT ?_⟩
          refine ⟨_, rfl, spP1_of re5 (by simpa [wdA] using wde) fun u H6 s6 r6 => ?_⟩
          have r6' : Dr All H6 u (rowForm e) := r6
          rw [ef] at r6'
          refine ⟨_, rfl, r.d, R.map Row.d, r6', rl5.sm s6, Row.eqOk rok, rows_eqOk oks, _, rfl, ?_⟩
          rw [if_pos rfl, rows_any]
          refine ite2 (fun hm => ?_) (fun hm => ?_)
          · exact ⟨_, _, rfl, s6, .str _, .inr ⟨_, rfl, .twice ef ew (of_decide_eq_true hm)⟩⟩
          · exact ⟨_, _, rfl, s6, .non, .inl ⟨rfl, r, ef, rok, ew, fun z => hm (decide_eq_true z)⟩⟩
    rintro σ7 H7 ⟨y7, z7, rfl, s7, ry7, hz⟩
    have s47 := s45.trans s7
    have el7 := s7 _ _ el5
    rcases hz with ⟨rfl, r, ef, rok, ew, hmem⟩ | ⟨m, rfl, sc⟩
    · -- rows.append(_law_g_form(one))
      cases ry7.non_inv
      refine ⟨_, rfl, rfl, _, rfl, iteF ?_⟩
      refine ⟨_, rfl, .inl ⟨rfl, ys, SqL.of el7⟩, _, rfl, spP1_of (re5.sm s7) (by simpa [wdA] using wde) fun u H8 s8 r8 => ?_⟩
      have r8' : Dr All H8 u (rowForm e) := r8
      rw [ef] at r8'
      have el8 := s8 _ _ el7
      have lys : ys.length = R.length := by rw [ry3.length, List.length_map]
      refine ⟨l, _, _, rfl, rfl, el8, by omega, ?_⟩
      have st : Stays No H8 (upd H8 l (.lst (ys ++ [u]))) := ⟨fun _ _ z => z.elim, fun b xs z => by
        rw [upd_ne fun q => by rw [q, el8] at z; cases z]
        exact z⟩
      refine ⟨_, _, _, R ++ [r], ys ++ [u], rfl, fun b o z => ?_, upd_same, ?_, by simp; omega, fun s hs => ?_, fun R' f' z => sc3 R' f' (.next ef ew hmem z)⟩
      · rw [upd_ne (ne_of_none z nl0)]
        exact s8 _ _ (s47 _ _ z)
      · rw [show (R ++ [r]).map Row.d = R.map Row.d ++ [r.d] by simp]
        exact ((((ry5.sm s7).sm s8).append (.one (r8'.fz (M := No) (Row.fz r)))).mono (fun _ z => z) st)
      · rcases List.mem_append.mp hs with hs | hs
        · exact oks s hs
        · rw [List.mem_singleton.mp hs]
          exact rok
    · -- return (index, why)
      cases ry7.str_inv
      refine ⟨_, rfl, rfl, _, rfl, iteT ?_⟩
      refine ⟨_, rfl, _, rfl, (by show 2 ≤ sizeLine; decide), fun p1 np1 => ?_⟩
      refine q R (faultD i m) _ _ (.inl ⟨hL', sc3 R _ sc⟩) (s47.trans (Sm.new np1)) ?_
      exact .tup upd_same (.cons (.int _) (.one (.str _)))
  · rintro σ3 H3 ⟨x2, x3, x4, R, ys, rfl, s3, el3, ry3, hRi, oks, sc3⟩
    refine q R .none _ _ (.inl ⟨hL', sc3 R .none ?_⟩) s3 .non
    rw [lxs, List.drop_length]
    exact .done
end
end K8

namespace K8
open PySem PySem.Spec PyProof.Rows L2 WR
def Row.small : Row → Prop
  | .made _ ks => ks.length ≤ 3 ∧ ∀ k ∈ ks, k ≤ 100
  | .asked _ ks => ks.length ≤ 3 ∧ ∀ k ∈ ks, k ≤ 100
  | .either a i j => a ≤ 100 ∧ i ≤ 100 ∧ j ≤ 100
  | .given k => k ≤ 100
abbrev spGRow : Sp := fun vs H Q _ => ∃ (w : Addr) (n : Nat) (v : V) (R : List Row), vs = [.ref w, v] ∧ Wl H w n ∧ n + 5000 < top0 ∧ Dr (Ne w) H v (rowsD R) ∧ R.length ≤ 40 ∧
  ∀ (r : Row) u H', r.ok → r.small → why R r = none → Gw w H H' → Wl H' w (n + 60) → Dr No H' u r.d → Q u H'
theorem part_ok {R : List Row} {k : Nat} (h : k ∈ atP isPa R 0) : isPart R k = true ∧ k < R.length := by
  obtain ⟨_, h2, h3⟩ := atP_mem h
  rw [Nat.zero_add] at h2
  rw [Nat.sub_zero] at h3
  unfold isPart
  rw [decide_eq_true h2, Bool.true_and]
  exact ⟨h3, h2⟩
theorem asked_ok {R : List Row} {k : Nat} (h : k ∈ atP Row.isAsked R 0) : (rowAt R k).isAsked = true ∧ k < R.length := by
  obtain ⟨_, h2, h3⟩ := atP_mem h
  rw [Nat.zero_add] at h2
  rw [Nat.sub_zero] at h3
  exact ⟨h3, h2⟩
theorem why_either {R : List Row} {a i j : Nat} (ha : (rowAt R a).isAsked = true ∧ a < R.length) (hi : isPart R i = true ∧ i < R.length) (hj : isPart R j = true ∧ j < R.length) (hij : i ≠ j) : why R (.either a i j) = none := by
  unfold why why2 why3 why4
  simp only [Row.named, List.all_cons, List.all_nil, decide_eq_true ha.2, decide_eq_true hi.2, decide_eq_true hj.2, Row.badTest, ha.1, Row.parts, hi.1, hj.1, Row.like, decide_eq_false hij, Bool.and_self, Bool.not_true]
  rfl
theorem why_parts {R : List Row} {n : Str} {ks : List Nat} (h : ∀ k ∈ ks, isPart R k = true ∧ k < R.length) : why R (.made n ks) = none ∧ why R (.asked n ks) = none := by
  have h1 : (ks.all fun k => decide (k < R.length)) = true := List.all_eq_true.mpr fun k hk => decide_eq_true (h k hk).2
  have h2 : ks.all (isPart R) = true := List.all_eq_true.mpr fun k hk => (h k hk).1
  unfold why why2 why3 why4
  simp only [Row.named, h1, Row.badTest, Row.parts, h2, Row.like]
  exact ⟨rfl, rfl⟩
theorem vints_dr {N : Addr → Prop} {H : Hp} : ∀ ks : List Nat, DrA N H (ks.map fun (k : Nat) => V.int (k : Int)) (nums ks)
  | [] => .nil
  | k :: ks => .cons (.int _) (vints_dr ks)
theorem nums_eqOk (ks : List Nat) : eqOk (.list (nums ks)) := by
  refine ⟨?_, ?_⟩
  · simp only [PyData.canLay0]
    exact lay_nums ks
  · show PyData.depthAll (nums ks) + 1 ≤ 60
    rw [dep_nums]
    decide
def names6 : List PyData := [.str "f", .str "g", .str "h1", .str "t", .str "made", .str "eithera8"]
theorem names6_ok : ∀ e ∈ names6, ∃ x : Str, e = .str x ∧ isName (.str x) = true := by
  intro e he
  simp only [names6, List.mem_cons, List.not_mem_nil, or_false] at he
  rcases he with rfl | rfl | rfl | rfl | rfl | rfl <;> exact ⟨_, rfl, by decide +kernel⟩
theorem giv5_ok : ∀ e ∈ nums [0, 1, 2, 7, 40], ∃ k : Nat, e = .int (k : Int) ∧ k ≤ 100 := by
  intro e he
  obtain ⟨k, hk, rfl⟩ := List.mem_map.mp he
  refine ⟨k, rfl, ?_⟩
  simp only [List.mem_cons, List.not_mem_nil, or_false] at hk
  omega
theorem All2.mem {R : PyData → PyData → Prop} : ∀ {ds es : List PyData}, All2 R ds es → ∀ e ∈ es, ∃ d ∈ ds, R d e
  | _, _, .nil, e, h => by cases h
  | _, _, .cons a t, e, h => by
    rcases List.mem_cons.mp h with rfl | h
    · exact ⟨_, List.mem_cons_self .., a⟩
    · obtain ⟨d, hd, r⟩ := All2.mem t e h
      exact ⟨d, List.mem_cons_of_mem _ hd, r⟩
theorem nums_back {p : Nat → Prop} : ∀ {es : List PyData}, (∀ e ∈ es, ∃ k, e = .int (k : Nat) ∧ p k) → ∃ ks, es = nums ks ∧ ∀ k ∈ ks, p k
  | [], _ => ⟨[], rfl, fun _ h => by cases h⟩
  | e :: es, h => by
    obtain ⟨k, rfl, hk⟩ := h e (List.mem_cons_self ..)
    obtain ⟨ks, rfl, hks⟩ := nums_back fun e he => h e (List.mem_cons_of_mem _ he)
    refine ⟨k :: ks, rfl, fun j hj => ?_⟩
    rcases List.mem_cons.mp hj with rfl | hj
    · exact hk
    · exact hks j hj
theorem nums_nd {ks : List Nat} (h : ks.Nodup) : (nums ks).Nodup := by
  induction ks with
  | nil => exact List.nodup_nil
  | cons k ks ih =>
    obtain ⟨h1, h2⟩ := List.nodup_cons.mp h
    refine List.nodup_cons.mpr ⟨fun z => ?_, ih h2⟩
    obtain ⟨j, hj, e⟩ := List.mem_map.mp z
    injection e with e
    exact h1 (by rw [show k = j by omega]; exact hj)
section
variable {P : Program} {w : World} {K : PySem.W.Frag} {mg : Str → Option Value} {base : Heap}
theorem sc__law_g_row : FnScope ["well", "rows", "parts", "asked", "way", "pair", "name", "many", "some", "index", "row", "k"] ["well", "rows"] (defScope s_law_g_row) := ⟨rfl, rfl, rfl, by decide +kernel, rfl, by decide +kernel, by decide +kernel⟩
theorem ok__law_g_row (B : Bt mg) (F : Fn K mg d_law_g_row) (D1 : Df P w K mg base CX0 1 "_law_draw" ["well", "many"] spDraw) (D2 : Df P w K mg base CX0 2 "_law_pick" ["well", "some"] spPick) (D3 : Df P w K mg base CX0 2 "_law_mixed" ["well", "some"] spMixed) (D4 : Df P w K mg base CX0 1 "_law_g_parts" ["rows"] spGParts) :
    Df P w K mg base CX0 3 "_law_g_row" ["well", "rows"] spGRow := by
  obtain ⟨f, fd, hm, F⟩ := F
  refine ⟨f, fd, hm, F.kp, F.bindsN fun _ _ _ _ _ _ us hl => match us, hl with | [_, _], _ => rfl, ?_⟩
  refine F.ok sc__law_g_row (fun vs H Q E h => by obtain ⟨w, n, v, R, rfl, _⟩ := h; rfl) (fun cdv A outer s H vs Q E hr h => ?_)
  obtain ⟨wa, n, v, R, rfl, hw, hn, rd, hR, q⟩ := h
  have hr1 := hr.mono (show 1 ≤ 2 by decide)
  have hu := hr.units
  refine ⟨_, PSs.nox (pss_cons (ps_asg (pe_tup (pa_cons (pe_df D4 hr1 pass0 (pa_cons (pv 1) pa_nil)) (pa_cons (pe_lc (own := [("index", 9), ("row", 10)]) (g := gTup K 2 (gCons (gName 9) (gCons (gName 10) gNil))) (tt := _) rfl sc__law_g_row.nd (pi_enS B.enumerate (pa_cons (pv 1) pa_nil)) (blkOk_by (own := [("index", 9), ("row", 10)]) (N := ["well", "rows", "parts", "asked", "way", "pair", "name", "many", "some", "index", "row", "k"]) (sc := defScope s_law_g_row) (by decide +kernel)) (fun _ _ _ _ _ => pg_tup rfl (pgs_cons (pg_name (i := 9) sc__law_g_row.nd rfl (by first | exact Or.inl rfl | exact Or.inr rfl)) (pgs_cons (pg_name (i := 10) sc__law_g_row.nd rfl (by first | exact Or.inl rfl | exact Or.inr rfl)) pgs_nil))) (fun _ _ _ _ _ => (pts_one (pt_cmpR op_eq (pe_ix ix_D (pv 10) pe_int (fun _ _ => rfl)) pe_str (nomark _)))) (fun _ _ _ _ _ => (pv 9))) pa_nil))) (pg_tup rfl (pgs_cons (pg_name (i := 2) sc__law_g_row.nd rfl (by first | exact Or.inl rfl | exact Or.inr rfl)) (pgs_cons (pg_name (i := 3) sc__law_g_row.nd rfl (by first | exact Or.inl rfl | exact Or.inr rfl)) pgs_nil))))
      (pss_cons (ps_set (i := 4) sc__law_g_row.nd rfl (by first | exact Or.inl rfl | exact Or.inr rfl) (pe_df D1 hr1 pass0 (pa_cons (pv 0) (pa_cons pe_int pa_nil))))
      (C8.pss_cut (ps_if (pt_cmpR op_eq (pv 4) pe_int (nomark _)) (pss_one (ps_ret (pe_tup (pa_cons pe_str (pa_cons (pe_df D2 hr pass0 (pa_cons (pv 0) (pa_cons (pe_lst (pa_cons pe_int (pa_cons pe_int (pa_cons pe_int (pa_cons pe_int (pa_cons pe_int pa_nil)))))) pa_nil))) pa_nil))))) pss_nil)
      (C8.pss_cut (ps_if (PW.pt (pw_and (pt_cmpR op_lt (pv 4) pe_int (nomark _)) (pw_and (pt_cmpR op_gt (pe_callB call_lenS (by rfl) B.len (by decide +kernel) (pa_cons (pv 2) pa_nil)) pe_int (nomark _)) (pw_and1 (pt_cmpR (op_neDr hu) (pv 3) (pe_lst pa_nil) (nomark _)))))) (pss_cons (ps_set (i := 5) sc__law_g_row.nd rfl (by first | exact Or.inl rfl | exact Or.inr rfl) (pe_slice (sl_N (Ne wa)) (pe_df D3 hr pass0 (pa_cons (pv 0) (pa_cons (pv 2) pa_nil))) po_none (po_some pe_int)))
      (pss_one (ps_ret (pe_tup (pa_cons pe_str (pa_cons (pe_df D2 hr pass0 (pa_cons (pv 0) (pa_cons (pv 3) pa_nil))) (pa_cons (pe_ix ix_D (pv 5) pe_int (fun _ _ => rfl)) (pa_cons (pe_ix ix_D (pv 5) pe_int (fun _ _ => rfl)) pa_nil)))))))) pss_nil)
      (pss_cons (ps_set (i := 6) sc__law_g_row.nd rfl (by first | exact Or.inl rfl | exact Or.inr rfl) (pe_df D2 hr pass0 (pa_cons (pv 0) (pa_cons (pe_lst (pa_cons pe_str (pa_cons pe_str (pa_cons pe_str (pa_cons pe_str (pa_cons pe_str (pa_cons pe_str pa_nil))))))) pa_nil))))
      (pss_cons (ps_set (i := 7) sc__law_g_row.nd rfl (by first | exact Or.inl rfl | exact Or.inr rfl) (pe_ifExp (pt_cmpR (op_neDr hu) (pv 2) (pe_lst pa_nil) (nomark _)) (pe_df D1 hr1 pass0 (pa_cons (pv 0) (pa_cons pe_int pa_nil))) pe_int))
      (pss_cons (ps_set (i := 8) sc__law_g_row.nd rfl (by first | exact Or.inl rfl | exact Or.inr rfl) (pe_callTy call_tupD (by rfl) B.tuple (by decide +kernel) (pa_cons (pe_lc (own := [("k", 11)]) (g := gName 11) (tt := tYes) rfl sc__law_g_row.nd (pi_range1 rfl B.range (pa_cons (pv 7) pa_nil)) (blkOk_by (own := [("k", 11)]) (N := ["well", "rows", "parts", "asked", "way", "pair", "name", "many", "some", "index", "row", "k"]) (sc := defScope s_law_g_row) (by decide +kernel)) (fun _ _ _ _ _ => pg_name (i := 11) sc__law_g_row.nd rfl (by first | exact Or.inl rfl | exact Or.inr rfl)) (fun _ _ _ _ _ => pts_nil) (fun _ _ _ _ _ => (pe_df D2 hr pass0 (pa_cons (pv 0) (pa_cons (pv 2) pa_nil))))) pa_nil)))
      (pss_one (ps_ret (pe_tup (pa_cons (pe_ifExp (pt_cmpR op_lt (pv 4) pe_int (nomark _)) pe_str pe_str) (pa_cons (pv 6) (pa_cons (pv 8) pa_nil))))))))))))), ?_⟩
  have hsl := lim_lt
  have htop : top0 = 1000000000000 := rfl
  have hlim : lim = 4000 := rfl
  -- parts, asked
  refine ⟨_, rfl, v, R, rfl, rd.all, by omega, fun l1 H1 nl1 s1 el1 => ?_⟩
  obtain ⟨a, xs, rfl, hq, rs⟩ := (rd.sm s1).seq rfl
  refine ⟨_, rfl, a, xs, rfl, hq, fun J hJ D nD => ?_⟩
  refine enum_comp Row.isAsked hJ rs.all nD (by omega) (fun _ _ => rfl) (fun _ _ => rfl) (fun a b H2 r Q' rb q' => ?_) fun H2 s2 eD => ?_
  · refine ⟨_, rfl, _, 0, _, rb, Row.seqD _, rfl, Row.word_at _, fun x0 r0 => ?_⟩
    cases r0.str_inv
    refine ⟨rfl, _, rfl, ?_⟩
    rw [Row.askedP]
    exact q'
  refine ⟨(by show 2 ≤ sizeLine; decide), fun T nT => ?_⟩
  refine ⟨T, _, rfl, SqT.of upd_same, rfl, _, _, rfl, _, _, rfl, rfl, ?_⟩
  have s3 : Sm H (upd H2 T (.tup [.ref l1, .ref D])) := (s1.trans s2).trans (Sm.new nT)
  have el3 : upd H2 T (.tup [.ref l1, .ref D]) l1 = some (.lst ((atP isPa R 0).map fun (k : Nat) => V.int (k : Int))) := (Sm.new nT) _ _ (s2 _ _ el1)
  have eD3 : upd H2 T (.tup [.ref l1, .ref D]) D = some (.lst ((atP Row.isAsked R 0).map fun (k : Nat) => V.int (k : Int))) := (Sm.new nT) _ _ eD
  have nl1w : l1 ≠ wa := hw.ne nl1
  have nDw : D ≠ wa := hw.ne (s1.free nD)
  generalize upd H2 T (.tup [.ref l1, .ref D]) = H3 at s3 el3 eD3
  have hP := atP_len (p := isPa) R 0
  have hA := atP_len (p := Row.isAsked) R 0
  have pok : ∀ k ∈ atP isPa R 0, isPart R k = true ∧ k < R.length := fun k h => part_ok h
  have aok : ∀ k ∈ atP Row.isAsked R 0, (rowAt R k).isAsked = true ∧ k < R.length := fun k h => asked_ok h
  have pnd := atP_nodup (p := isPa) R 0
  generalize atP isPa R 0 = ps at el3 hP pok pnd
  generalize atP Row.isAsked R 0 = as at eD3 hA aok
  have lps : (its (.list (nums ps))).length = ps.length := by simp [its, nums]
  have las : (its (.list (nums as))).length = as.length := by simp [its, nums]
  -- way
  refine ⟨_, rfl, wa, 12, n, rfl, by decide, by decide, hw.sm s3, by omega, fun way H4 hway g4 hw4 => ?_⟩
  have g4' : Gw wa H H4 := (Gw.of s3).trans g4
  have el4 := g4 l1 _ nl1w el3
  have eD4 := g4 D _ nDw eD3
  have rp : ∀ {H'}, Gw wa H4 H' → Dr (Ne wa) H' (.ref l1) (.list (nums ps)) := fun g => .lst nl1w (g l1 _ nl1w el4) (vints_dr _)
  have ra : ∀ {H'}, Gw wa H4 H' → Dr (Ne wa) H' (.ref D) (.list (nums as)) := fun g => .lst nDw (g D _ nDw eD4) (vints_dr _)
  have oNe : Off wa (Ne wa) := fun b h => h
  have fin : ∀ (r : Row) u H', r.ok → r.small → why R r = none → Gw wa H4 H' → Wl H' wa (n + 60) → Dr No H' u r.d → Q u H' := fun r u H' h1 h0 h2 g h3 h4 => q r u H' h1 h0 h2 (g4'.trans g) h3 h4
  -- way == 0
  refine ⟨fun σ' H' => σ' = [some (.ref wa), some (.ref a), some (.ref l1), some (.ref D), some (.int (way : Nat)), none, none, none, none, none, none, none] ∧ H' = H4, ⟨_, rfl, rfl, _, rfl, ite2 (fun _ => ?_) (fun _ => ⟨rfl, rfl⟩)⟩, ?_⟩
  · refine ⟨_, rfl, (by show 5 ≤ sizeLine; decide), fun p np => ?_⟩
    have npw : p ≠ wa := hw4.ne np
    refine ⟨wa, n + 1, Ne wa, .ref p, .list (nums [0, 1, 2, 7, 40]), rfl, oNe, hw4.sm (Sm.new np), by omega, .lst npw upd_same (vints_dr [0, 1, 2, 7, 40]), rfl, (fun z => by cases z), (by show 5 ≤ lim; decide), fun e he u H5 g5 hw5 ru => ?_⟩
    obtain ⟨k, rfl, hk100⟩ := giv5_ok e he
    cases ru.int_inv
    refine ⟨(by show 2 ≤ sizeLine; decide), fun t nt => ?_⟩
    refine fin (.given k) _ _ trivial hk100 rfl (((Gw.of (Sm.new np)).trans g5).trans (Gw.of (Sm.new nt))) ((hw5.sm (Sm.new nt)).mono (by omega)) ?_
    exact .tup upd_same (.cons (.str _) (.one (.int _)))
  rintro σ' H' ⟨rfl, e4⟩
  subst e4
  -- way < 4 and len(parts) > 1 and asked != []
  refine ⟨fun σ' H5 => σ' = [some (.ref wa), some (.ref a), some (.ref l1), some (.ref D), some (.int (way : Nat)), none, none, none, none, none, none, none] ∧ Sm H' H5, ⟨_, rfl, _, _, rfl, rfl, _, rfl, ite2 (fun _ => ?_) (fun _ => iteF ⟨rfl, Sm.rfl'⟩)⟩, ?_⟩
  · refine ⟨_, rfl, .ref l1, _, rfl, (rp (Gw.of Sm.rfl')).all, rfl, ?_⟩
    rw [lps]
    refine ⟨_, _, rfl, rfl, _, rfl, ite2 (fun h2 => ?_) (fun _ => iteF ⟨rfl, Sm.rfl'⟩)⟩
    have hp2 : 2 ≤ ps.length := by
      have := of_decide_eq_true h2
      omega
    refine ⟨_, rfl, (by show 0 ≤ sizeLine; decide), fun p np => ?_⟩
    have sp : Sm H' (upd H' p (.lst [])) := Sm.new np
    refine ⟨.list (nums as), .list [], (ra (Gw.of sp)).all, .lst trivial upd_same .nil, nums_eqOk _, nums_eqOk [], _, rfl, ?_⟩
    rw [show PyData.eqv (.list (nums as)) (.list []) = decide (as = []) by rw [PyData.eqv]; exact eqv_nums as []]
    refine ite2 (fun ha => ?_) (fun _ => ⟨rfl, sp⟩)
    have has : as ≠ [] := by
      intro z
      rw [z] at ha
      exact absurd ha (by decide)
    -- pair
    generalize upd H' p (.lst []) = H5 at sp
    have hw5 := hw4.sm sp
    refine ⟨_, rfl, _, rfl, wa, n + 1, Ne wa, .ref l1, .list (nums ps), rfl, oNe, hw5, by omega, rp (Gw.of sp), rfl, by rw [lps]; omega, fun l2 ys es H6 nl2 pm g6 hw6 el6 ry => ?_⟩
    have nl2w : l2 ≠ wa := hw5.ne nl2
    have g6' := (Gw.of sp).trans g6
    rw [lps] at hw6
    refine ⟨_, rfl, .list es, .lst nl2w el6 ry, rfl, fun v7 H7 s7 r7 => ?_⟩
    have ces : cutA es none (some 2) = es.take 2 := cutA_to es 2
    rw [show its (.list es) = es from rfl, ces] at r7
    have les : es.length = ps.length := by rw [pm.length_eq]; simp [its, nums]
    match hes : es, les with
    | [], e => simp at e; omega
    | [_], e => simp at e; omega
    | e0 :: e1 :: rest, _ =>
    have hnd : (e0 :: e1 :: rest).Nodup := (pm.nodup_iff).mpr (nums_nd pnd)
    have m0 : e0 ∈ nums ps := pm.mem_iff.mp (List.mem_cons_self ..)
    have m1 : e1 ∈ nums ps := pm.mem_iff.mp (List.mem_cons_of_mem _ (List.mem_cons_self ..))
    obtain ⟨k0, hk0, rfl⟩ := List.mem_map.mp m0
    obtain ⟨k1, hk1, rfl⟩ := List.mem_map.mp m1
    have hk01 : k0 ≠ k1 := fun z => by
      rw [z] at hnd
      exact (List.nodup_cons.mp hnd).1 (List.mem_cons_self ..)
    have hw7 := hw6.sm s7
    have g7 := g6'.trans (Gw.of s7)
    have r7' : Dr (Ne wa) H7 v7 (.list [.int (k0 : Int), .int (k1 : Int)]) := r7.wide fun b z => z.elim id fun y => hw6.ne y
    -- ('either', _law_pick(well, asked), pair[0], pair[1])
    refine ⟨_, rfl, _, rfl, wa, _, Ne wa, .ref D, .list (nums as), rfl, oNe, hw7, by omega, ra g7, rfl, (fun z => has (by cases as with | nil => rfl | cons _ _ => cases z)), by rw [las]; omega, fun e he u H8 g8 hw8 ru => ?_⟩
    obtain ⟨ka, hka, rfl⟩ := List.mem_map.mp he
    cases ru.int_inv
    have r8 : Dr (Ne wa) H8 v7 (.list [.int (k0 : Int), .int (k1 : Int)]) := r7'.gn oNe hw7 g8
    refine ⟨_, rfl, _, 0, _, r8.all, rfl, rfl, rfl, fun x0 r0 => ?_⟩
    cases r0.int_inv
    refine ⟨_, rfl, _, 1, _, r8.all, rfl, rfl, rfl, fun x1 r1 => ?_⟩
    cases r1.int_inv
    refine ⟨(by show 4 ≤ sizeLine; decide), fun t nt => ?_⟩
    refine fin (.either ka k0 k1) _ _ trivial ⟨by have := (aok ka hka).2; omega, by have := (pok k0 hk0).2; omega, by have := (pok k1 hk1).2; omega⟩ (why_either (aok ka hka) (pok k0 hk0) (pok k1 hk1) hk01) ((g7.trans g8).trans (Gw.of (Sm.new nt))) ((hw8.sm (Sm.new nt)).mono (by omega)) ?_
    exact .tup upd_same (.cons (.str _) (.cons (.int _) (.cons (.int _) (.one (.int _)))))
  rintro σ' H5 ⟨rfl, s5⟩
  have hw5 := hw4.sm s5
  -- name
  refine ⟨_, rfl, (by show 6 ≤ sizeLine; decide), fun p np => ?_⟩
  have npw : p ≠ wa := hw5.ne np
  refine ⟨wa, n + 1, Ne wa, .ref p, .list names6, rfl, oNe, hw5.sm (Sm.new np), by omega, .lst npw upd_same (.cons (.str _) (.cons (.str _) (.cons (.str _) (.cons (.str _) (.cons (.str _) (.one (.str _))))))), rfl, (fun z => by cases z), (by show 6 ≤ lim; decide), fun e he u H6 g6 hw6 ru => ?_⟩
  obtain ⟨nm, rfl, hnm⟩ := names6_ok e he
  cases ru.str_inv
  have g6' : Gw wa H' H6 := ((Gw.of s5).trans (Gw.of (Sm.new np))).trans g6
  -- many
  refine ⟨_, rfl, (by show 0 ≤ sizeLine; decide), fun p2 np2 => ?_⟩
  have sp2 : Sm H6 (upd H6 p2 (.lst [])) := Sm.new np2
  refine ⟨.list (nums ps), .list [], (rp (g6'.trans (Gw.of sp2))).all, .lst trivial upd_same .nil, nums_eqOk _, nums_eqOk [], _, rfl, ?_⟩
  rw [show PyData.eqv (.list (nums ps)) (.list []) = decide (ps = []) by rw [PyData.eqv]; exact eqv_nums ps []]
  generalize upd H6 p2 (.lst []) = H7 at sp2
  have hw7 := hw6.sm sp2
  have g7 := g6'.trans (Gw.of sp2)
  have rest : ∀ (many : Nat) (H8 : Hp), (many = 0 ∨ (ps ≠ [] ∧ many < 4)) → Gw wa H' H8 → Wl H8 wa (n + 4) →
      (tSeq
                (tAsg
                  (tCB
                    (fun xs H Q =>
                      ∃ v d,
                        xs = [v] ∧
                          Dr All H v d ∧
                            isL d = true ∧ ∀ (u : V) (H' : Hp), Sm H H' → Dr All H' u (PyData.tuple (its d)) → Q u H')
                    (tCons
                      (tLc (iRng1 (tCons (tVar 7) tNil)) (gName 11) tYes
                        (tCall spPick [] E0 (tCons (tVar 0) (tCons (tVar 2) tNil)))
                        [11])
                      tNil))
                  (gName 8))
                (tRet
                  (tTup
                    (tCons
                      (tIf (tTest (tOp (rI0 fun i j => V.bl (decide (i < j))) (tVar 4) (tC (V.int 6))))
                        (tC (V.str ("asked" : Str))) (tC (V.str ("made" : Str))))
                      (tCons (tVar 6) (tCons (tVar 8) tNil))))))
        { nx := fun x H' => Q V.non H', rt := Q } [some (.ref wa), some (.ref a), some (.ref l1), some (.ref D), some (.int (way : Nat)), none, some (.str nm), some (.int (many : Nat)), none, none, none, none] H8 := by
    intro many H8 hmany g8 hw8
    have hm4 : many ≤ 3 := by rcases hmany with z | z <;> omega
    refine ⟨_, rfl, _, rfl, by omega, by omega, fun D8 nD8 => ?_⟩
    rw [Int.toNat_natCast]
    refine lc_w (c := 1) (n := n + 4) (N := No) (fun _ e => ∃ k : Nat, e = .int (k : Int) ∧ k ∈ ps) (WalkW.range (w := wa) (N := No) (lo := 0)) nD8 hw8 (fun b z => z.elim) (by simp; omega) (fun _ => rfl) (fun x d' j H9 Q' hd' g9 hw9 rx q' _ => ?_) (fun H9 ys es g9 hw9 eD9 ry al => ?_)
    · have hj : j < many := by
        have := (List.getElem?_eq_some_iff.mp hd').1
        simpa using this
      have hps : ps ≠ [] := by
        rcases hmany with z | z
        · omega
        · exact z.1
      refine ⟨_, rfl, _, rfl, wa, _, Ne wa, .ref l1, .list (nums ps), rfl, oNe, hw9, by omega, rp (g8.trans g9), rfl, (fun z => hps (by cases ps with | nil => rfl | cons _ _ => cases z)), by rw [lps]; omega, fun e he u H10 g10 hw10 ru => ?_⟩
      obtain ⟨k, hk, rfl⟩ := List.mem_map.mp he
      cases ru.int_inv
      exact q' _ (.int (k : Int)) _ g10 (by rw [Nat.one_mul] at hw10 ⊢; exact hw10) (.int _) ⟨k, rfl, hk⟩
    · obtain ⟨ks, rfl, hks⟩ := nums_back (p := fun k => k ∈ ps) (es := es) fun e he => by
        obtain ⟨_, _, h⟩ := al.mem e he
        exact h
      have lks : ks.length = many := by
        have := al.len
        simpa [nums] using this
      have lr : ((List.range many).map fun (k : Nat) => PyData.int (0 + (k : Int))).length = many := by simp
      rw [lr, Nat.one_mul] at hw9
      refine ⟨_, .list (nums ks), rfl, .lst trivial eD9 ry.all, rfl, fun u H10 s10 r10 => ?_⟩
      have r10' : Dr No H10 u (.tuple (nums ks)) := r10.fz (by simp only [WR.fz]; exact fz_nums ks)
      have gf : ∀ t o, H10 t = none → Gw wa H' (upd H10 t o) := fun t o nt => ((g8.trans g9).trans (Gw.of s10)).trans (Gw.of (Sm.new nt))
      have hwf : ∀ t o, H10 t = none → Wl (upd H10 t o) wa (n + 60) := fun t o nt => ((hw9.sm s10).sm (Sm.new nt)).mono (by omega)
      have wy := why_parts (R := R) (n := nm) (ks := ks) fun k hk => pok k (hks k hk)
      have lk : ks.length ≤ lim := by omega
      have sm3 : ks.length ≤ 3 ∧ ∀ k ∈ ks, k ≤ 100 := ⟨by omega, fun k hk => by have := (pok k (hks k hk)).2; omega⟩
      refine ⟨_, rfl, _, _, rfl, rfl, _, rfl, ite2 (fun _ => ?_) (fun _ => ?_)⟩
      · refine ⟨_, rfl, _, rfl, (by show 3 ≤ sizeLine; decide), fun t nt => fin (.asked nm ks) _ _ ⟨hnm, lk⟩ sm3 wy.2 (gf t _ nt) (hwf t _ nt) ?_⟩
        exact .tup upd_same (.cons (.str _) (.cons (.str _) (.one (r10'.sm (Sm.new nt)))))
      · refine ⟨_, rfl, _, rfl, (by show 3 ≤ sizeLine; decide), fun t nt => fin (.made nm ks) _ _ ⟨hnm, lk⟩ sm3 wy.1 (gf t _ nt) (hwf t _ nt) ?_⟩
        exact .tup upd_same (.cons (.str _) (.cons (.str _) (.one (r10'.sm (Sm.new nt)))))
  refine ite2 (fun hp => ?_) (fun hp => ?_)
  · have hps : ps ≠ [] := by
      intro z
      rw [z] at hp
      exact absurd hp (by decide)
    refine ⟨_, rfl, wa, 4, n + 2, rfl, by decide, by decide, hw7, by omega, fun many H8 hmany g8 hw8 => ?_⟩
    exact rest many H8 (.inr ⟨hps, hmany⟩) (g7.trans g8) (hw8.mono (by omega))
  · exact rest 0 H7 (.inl rfl) g7 (hw7.mono (by omega))
end
end K8

namespace K8
open PySem PySem.Spec PyProof.Rows L2 WR
/-! ### webs -/
/-- these rows are a web -/
structure Web (R : List Row) : Prop where
  ok : ∀ r ∈ R, r.ok
  fit : ∀ i (h : i < R.length), why (R.take i) R[i] = none ∧ R[i] ∉ R.take i
theorem Web.nil : Web [] := ⟨(fun _ h => nomatch h), fun i h => absurd h (Nat.not_lt_zero i)⟩
theorem Web.snoc {R : List Row} {r : Row} (W : Web R) (h1 : r.ok) (h2 : why R r = none) (h3 : r ∉ R) : Web (R ++ [r]) := by
  refine ⟨fun s hs => ?_, fun i h => ?_⟩
  · rcases List.mem_append.mp hs with hs | hs
    · exact W.ok s hs
    · rw [List.mem_singleton.mp hs]
      exact h1
  · by_cases hi : i < R.length
    · have e1 : (R ++ [r])[i] = R[i] := List.getElem_append_left hi
      have e2 : (R ++ [r]).take i = R.take i := List.take_append_of_le_length (by omega)
      rw [e1, e2]
      exact W.fit i hi
    · have e : i = R.length := by simp at h; omega
      subst e
      have e1 : (R ++ [r])[R.length] = r := by simp
      have e2 : (R ++ [r]).take R.length = R := by simp
      rw [e1, e2]
      exact ⟨h2, h3⟩
theorem nums_all (ks : List Nat) : (nums ks).all isNum = true := by
  rw [List.all_eq_true]
  intro d hd
  obtain ⟨k, _, rfl⟩ := List.mem_map.mp hd
  exact decide_eq_true (Int.natCast_nonneg k)
theorem rowForm_d {r : Row} (h : r.ok) : rowForm r.d = r.d := by
  cases r with
  | made n ks =>
    have e2 : (isName (.str n) && areNums (.tuple (nums ks))) = true := by
      rw [h.1, Bool.true_and]
      exact nums_all ks
    unfold rowForm
    rw [if_pos ⟨rfl, by simp [Row.d, its], rfl⟩]
    unfold rowForm2
    rw [if_pos ⟨.inl rfl, rfl⟩]
    exact if_pos e2
  | asked n ks =>
    have e2 : (isName (.str n) && areNums (.tuple (nums ks))) = true := by
      rw [h.1, Bool.true_and]
      exact nums_all ks
    unfold rowForm
    rw [if_pos ⟨rfl, by simp [Row.d, its], rfl⟩]
    unfold rowForm2
    rw [if_pos ⟨.inr rfl, rfl⟩]
    exact if_pos e2
  | either a i j =>
    unfold rowForm
    rw [if_pos ⟨rfl, by simp [Row.d, its], rfl⟩]
    unfold rowForm2
    rw [if_neg (fun z => ei_ma z.1), if_pos ⟨rfl, rfl, nums_all [a, i, j]⟩]
    rfl
  | given k =>
    unfold rowForm
    rw [if_pos ⟨rfl, by simp [Row.d, its], rfl⟩]
    unfold rowForm2
    rw [if_neg (fun z => gv_ma z.1), if_neg (fun z => gv_ei z.1), if_pos ⟨rfl, rfl, nums_all [k]⟩]
    rfl
theorem Web.scanFrom {R : List Row} (W : Web R) : ∀ (m i : Nat), m + i = R.length → Scan (R.take i) i ((R.drop i).map Row.d) R .none
  | 0, i, e => by
    have e' : i = R.length := by omega
    subst e'
    rw [List.take_length, List.drop_length]
    exact .done
  | m + 1, i, e => by
    have hi : i < R.length := by omega
    rw [List.drop_eq_getElem_cons hi, List.map_cons]
    have ih := W.scanFrom m (i + 1) (by omega)
    have et : R.take (i + 1) = R.take i ++ [R[i]] := by rw [List.take_succ, List.getElem?_eq_getElem hi]; rfl
    rw [et] at ih
    exact .next (rowForm_d (W.ok _ (List.getElem_mem hi))) (W.fit i hi).1 (W.fit i hi).2 ih
theorem Web.scan {R : List Row} (W : Web R) : ScanOf (rowsD R) R .none := .inl ⟨rfl, W.scanFrom R.length 0 (by omega)⟩
abbrev spGDrawn : Sp := fun vs H Q _ => ∃ (w : Addr) (n m : Nat), vs = [.ref w, .int (m : Nat)] ∧ m ≤ 14 ∧ Wl H w n ∧ n + 10000 < top0 ∧
  ∀ (l : Addr) (ys : List V) (R : List Row) H', H l = none → Web R → (∀ r ∈ R, r.small) → R.length ≤ m → Gw w H H' → Wl H' w (n + 1000) → H' l = some (.lst ys) → DrA No H' ys (R.map Row.d) → Q (.ref l) H'
section
variable {P : Program} {w : World} {K : PySem.W.Frag} {mg : Str → Option Value} {base : Heap}
theorem sc__law_g_drawn : FnScope ["well", "most", "rows", "turn", "row"] ["well", "most"] (defScope s_law_g_drawn) := ⟨rfl, rfl, rfl, by decide +kernel, rfl, by decide +kernel, by decide +kernel⟩
theorem ok__law_g_drawn (B : Bt mg) (F : Fn K mg d_law_g_drawn) (D1 : Df P w K mg base CX0 1 "_law_draw" ["well", "many"] spDraw) (D2 : Df P w K mg base CX0 3 "_law_g_row" ["well", "rows"] spGRow) :
    Df P w K mg base CX0 4 "_law_g_drawn" ["well", "most"] spGDrawn := by
  obtain ⟨f, fd, hm, F⟩ := F
  refine ⟨f, fd, hm, F.kp, F.bindsN fun _ _ _ _ _ _ us hl => match us, hl with | [_, _], _ => rfl, ?_⟩
  refine F.ok sc__law_g_drawn (fun vs H Q E h => by obtain ⟨w, n, m, rfl, _⟩ := h; rfl) (fun cdv A outer s H vs Q E hr h => ?_)
  obtain ⟨wa, n, m, rfl, hm14, hw, hn, q⟩ := h
  have hr1 := hr.mono (show 1 ≤ 3 by decide)
  have hu := hr.un
  have hu65 : (A.deeper (envOfC d_law_g_drawn.qual d_law_g_drawn.scope s.heap.objs.size f cdv)).units + 65 < cLine := by omega
  refine ⟨_, PSs.nox (pss_cons (ps_set (i := 2) sc__law_g_drawn.nd rfl (by first | exact Or.inl rfl | exact Or.inr rfl) (pe_lst pa_nil))
      (pss_cons (ps_for PassesOwn.never rfl (pi_range1 rfl B.range (pa_cons (pe_df D1 hr1 pass0 (pa_cons (pv 0) (pa_cons (pe_op op_add (pv 1) pe_int) pa_nil))) pa_nil)) (pg_name (i := 3) sc__law_g_drawn.nd rfl (by first | exact Or.inl rfl | exact Or.inr rfl)) (pss_cons (ps_set (i := 4) sc__law_g_drawn.nd rfl (by first | exact Or.inl rfl | exact Or.inr rfl) (pe_df D2 hr pass0 (pa_cons (pv 0) (pa_cons (pv 2) pa_nil))))
      (pss_one (ps_expr (pe_bm PySem.F.plainAttrs_list PySem.F.slot_list_extend PySem.F.type_list_extend mt_extend (pv 2) (pa_cons (pe_ifExp (pt_cmpR (op_notInDr hu65) (pv 4) (pv 2) (by rfl)) (pe_lst (pa_cons (pv 4) pa_nil)) (pe_lst pa_nil)) pa_nil))))))
      (pss_one (ps_ret (pv 2))))), ?_⟩
  have hsl := lim_lt
  have hlim : lim = 4000 := rfl
  have htop : top0 = 1000000000000 := rfl
  -- rows = []
  refine ⟨(by show 0 ≤ sizeLine; decide), fun l nl => ?_⟩
  have nlw : l ≠ wa := hw.ne nl
  -- range(_law_draw(well, most + 1))
  refine ⟨_, rfl, _, rfl, _, _, rfl, rfl, wa, m + 1, n, rfl, by omega, by omega, hw.sm (Sm.new nl), by omega, fun k H1 hk g1 hw1 => ?_⟩
  refine ⟨_, rfl, by omega, by omega, ?_⟩
  rw [Int.toNat_natCast]
  refine for_range (fun i σ' H2 => ∃ x3 x4 R ys, σ' = [some (.ref wa), some (.int (m : Nat)), some (.ref l), x3, x4] ∧ Gw wa H H2 ∧ Wl H2 wa (n + 1 + 60 * i) ∧ H2 l = some (.lst ys) ∧ DrA No H2 ys (R.map Row.d) ∧ R.length ≤ i ∧ Web R ∧ ∀ r ∈ R, r.small) ?_ ?_ ?_
  · exact ⟨none, none, [], [], rfl, (Gw.of (Sm.new nl)).trans g1, hw1.mono (by omega), g1 l _ nlw upd_same, .nil, Nat.le_refl _, Web.nil, (fun _ h => nomatch h)⟩
  · rintro i σ' H2 hi ⟨x3, x4, R, ys, rfl, g2, hw2, el2, ry2, hR, W, sms⟩
    have rl2 : Dr (Ne wa) H2 (.ref l) (rowsD R) := .lst nlw el2 (ry2.mono (fun _ z => z.elim) (Stays.of Sm.rfl'))
    have lys : ys.length = R.length := by rw [ry2.length, List.length_map]
    refine ⟨_, rfl, _, rfl, wa, _, .ref l, R, rfl, hw2, by omega, rl2, by omega, fun r u H3 rok rsm hy g3 hw3 ru => ?_⟩
    have rl3 := rl2.gn (fun _ h => h) hw2 g3
    have ry3 : DrA No H3 ys (R.map Row.d) := (ry2.gn (fun _ h => h.elim) hw2 g3)
    have el3 := g3 l _ nlw el2
    have keepL : ∀ {H4 : Hp}, Sm H3 H4 → ∀ o, H4 l = some (.lst o) → Stays No H4 (upd H4 l (.lst (o ++ [u]))) := fun _ o e => ⟨fun _ _ z => z.elim, fun b xs z => by
      rw [upd_ne fun q => by rw [q, e] at z; cases z]
      exact z⟩
    -- rows.extend([row] if row not in rows else [])
    refine ⟨_, rfl, .inl ⟨rfl, ys, SqL.of el3⟩, _, rfl, _, rfl, r.d, R.map Row.d, ru.all, rl3.all, Row.eqOk rok, rows_eqOk W.ok, _, rfl, ?_⟩
    rw [if_neg Bool.false_ne_true, rows_any]
    refine ite2 (fun hn => ?_) (fun hn => ?_)
    · have hnm : r ∉ R := fun z => by
        rw [decide_eq_true z] at hn
        cases hn
      refine ⟨_, rfl, (by show 1 ≤ sizeLine; decide), fun p np => ?_⟩
      have sp : Sm H3 (upd H3 p (.lst [u])) := Sm.new np
      have elp := sp _ _ el3
      refine ⟨l, p, ys, [u], rfl, rfl, elp, upd_same, by simp; omega, ?_⟩
      have st := keepL sp ys elp
      refine ⟨_, _, R ++ [r], ys ++ [u], rfl, fun b o hb z => ?_, ?_, upd_same, ?_, by simp; omega, W.snoc rok hy hnm, fun s hs => ?_⟩
      · rw [upd_ne (ne_of_none z nl)]
        exact sp _ _ (g3 b o hb (g2 b o hb z))
      · obtain ⟨a', b', c', e', h'⟩ := hw3.sm sp
        exact ⟨a', b', c', by rw [upd_ne (Ne.symm nlw)]; exact e', by omega⟩
      · rw [show (R ++ [r]).map Row.d = R.map Row.d ++ [r.d] by simp]
        exact ((ry3.sm sp).append (.one (ru.sm sp))).mono (fun _ z => z) st
      · rcases List.mem_append.mp hs with hs | hs
        · exact sms s hs
        · rw [List.mem_singleton.mp hs]
          exact rsm
    · refine ⟨(by show 0 ≤ sizeLine; decide), fun p np => ?_⟩
      have sp : Sm H3 (upd H3 p (.lst [])) := Sm.new np
      have elp := sp _ _ el3
      refine ⟨l, p, ys, [], rfl, rfl, elp, upd_same, by simp; omega, ?_⟩
      have st : Stays No (upd H3 p (.lst [])) (upd (upd H3 p (.lst [])) l (.lst (ys ++ []))) := ⟨fun _ _ z => z.elim, fun b xs z => by
        rw [upd_ne fun q => by rw [q, elp] at z; cases z]
        exact z⟩
      refine ⟨_, _, R, ys ++ [], rfl, fun b o hb z => ?_, ?_, upd_same, ?_, by omega, W, sms⟩
      · rw [upd_ne (ne_of_none z nl)]
        exact sp _ _ (g3 b o hb (g2 b o hb z))
      · obtain ⟨a', b', c', e', h'⟩ := hw3.sm sp
        exact ⟨a', b', c', by rw [upd_ne (Ne.symm nlw)]; exact e', by omega⟩
      · rw [List.append_nil] at st ⊢
        exact (ry3.sm sp).mono (fun _ z => z) st
  · rintro σ' H2 ⟨x3, x4, R, ys, rfl, g2, hw2, el2, ry2, hR, W, sms⟩
    exact ⟨_, rfl, q l ys R H2 nl W sms (by omega) g2 (hw2.mono (by omega)) el2 ry2⟩
end
end K8

/-! Expressions that yield data, whatever stands around: C the state, N where their lists and dicts may stand. -/
namespace K8
open PySem PySem.Spec PyProof.Rows L2 WR
structure Cy (N : Addr → Prop) (C : Hp → Prop) : Prop where
  sm : ∀ H H', Sm H H' → C H → C H'
  new : ∀ H p, C H → H p = none → N p
def Yd (N : Addr → Prop) (C : Hp → Prop) (σ : L2.St) (te : TE) (d : PyData) : Prop := ∀ H Q, C H → (∀ v H', Sm H H' → Dr N H' v d → Q v H') → te σ H Q
def Ya (N : Addr → Prop) (C : Hp → Prop) (σ : L2.St) (ta : TA) (ds : List PyData) : Prop := ∀ H Q, C H → (∀ vs H', Sm H H' → DrA N H' vs ds → Q vs H') → ta σ H Q
def Yo (C : Hp → Prop) (σ : L2.St) (to : TO) (o : Option Int) : Prop := ∀ H Q, C H → (∀ H', Sm H H' → Q o H') → to σ H Q
section
variable {N : Addr → Prop} {C : Hp → Prop} {σ : L2.St} {K : PySem.W.Frag} {te tb : TE} {ta : TA} {d e : PyData} {ds es : List PyData}
theorem Yd.int (i : Int) : Yd N C σ (tC (.int i)) (.int i) := fun H Q _ q => q _ _ Sm.rfl' (.int i)
theorem Yd.str (x : Str) : Yd N C σ (tC (.str x)) (.str x) := fun H Q _ q => q _ _ Sm.rfl' (.str x)
theorem Yd.bl (b : Bool) : Yd N C σ (tC (.bl b)) (.bool b) := fun H Q _ q => q _ _ Sm.rfl' (.bl b)
theorem Yd.non : Yd N C σ (tC .non) .none := fun H Q _ q => q _ _ Sm.rfl' .non
theorem Yd.var {i : Nat} {v : V} (h : σ[i]? = some (some v)) (r : ∀ H, C H → Dr N H v d) : Yd N C σ (tVar i) d := fun H Q c q => ⟨v, h, q v H Sm.rfl' (r H c)⟩
theorem Ya.nil : Ya N C σ tNil [] := fun H Q _ q => q _ _ Sm.rfl' .nil
theorem Ya.cons (Y : Cy N C) (a : Yd N C σ te d) (b : Ya N C σ ta ds) : Ya N C σ (tCons te ta) (d :: ds) :=
  fun H Q c q => a H _ c fun v H1 s1 r1 => b H1 _ (Y.sm _ _ s1 c) fun vs H2 s2 r2 => q (v :: vs) H2 (s1.trans s2) (.cons (r1.sm s2) r2)
theorem Ya.one (Y : Cy N C) (a : Yd N C σ te d) : Ya N C σ (tCons te tNil) [d] := .cons Y a .nil
theorem Yd.tup (hl : ds.length ≤ 100) (a : Ya N C σ ta ds) : Yd N C σ (tTup ta) (.tuple ds) := fun H Q c q => a H _ c fun vs H1 s1 r1 => by
  refine ⟨by rw [r1.length, sizeLine_eq]; omega, fun p np => q _ _ (s1.trans (Sm.new np)) ?_⟩
  exact .tup upd_same (r1.sm (Sm.new np))
theorem Yd.lst (Y : Cy N C) (hl : ds.length ≤ 100) (a : Ya N C σ ta ds) : Yd N C σ (tLst ta) (.list ds) := fun H Q c q => a H _ c fun vs H1 s1 r1 => by
  refine ⟨by rw [r1.length, sizeLine_eq]; omega, fun p np => q _ _ (s1.trans (Sm.new np)) ?_⟩
  exact .lst (Y.new _ _ (Y.sm _ _ s1 c) np) upd_same (r1.sm (Sm.new np))
theorem Yd.dict0 (Y : Cy N C) : Yd N C σ tDNewK (.dict []) := fun H Q c q p np => q _ _ (Sm.new np) (.dct (Y.new _ _ c np) upd_same .nil)
theorem Yd.ix {i : Int} (j : Nat) (a : Yd N C σ te d) (hL : isL d = true) (hi : i = (j : Int)) (he : (its d)[j]? = some e) : Yd N C σ (tOp (rIxN N) te (tC (.int i))) e :=
  fun H Q c q => a H _ c fun v H1 s1 r1 => ⟨d, j, e, r1, hL, by rw [hi], he, fun u ru => q u H1 s1 ru⟩
theorem Yd.ixv (Y : Cy N C) {i k : Nat} (a : Yd N C σ te d) (hL : isL d = true) (hi : σ[i]? = some (some (.int (k : Int)))) (he : (its d)[k]? = some e) : Yd N C σ (tOp (rIxN N) te (tVar i)) e :=
  fun H Q c q => a H _ c fun v H1 s1 r1 => ⟨_, hi, d, k, e, r1, hL, rfl, he, fun u ru => q u H1 s1 ru⟩
theorem Yo.no : Yo C σ tNoPart none := fun H Q _ q => q H Sm.rfl'
theorem Yo.int (i : Int) : Yo C σ (tPart (tC (.int i))) (some i) := fun H Q _ q => ⟨i, rfl, q H Sm.rfl'⟩
theorem Yo.var {j : Nat} {i : Int} (h : σ[j]? = some (some (.int i))) : Yo C σ (tPart (tVar j)) (some i) := fun H Q _ q => ⟨_, h, i, rfl, q H Sm.rfl'⟩
theorem Yo.add1 {j : Nat} {i : Int} (h : σ[j]? = some (some (.int i))) : Yo C σ (tPart (tOp (rI0 fun i j => .int (i + j)) (tVar j) (tC (.int 1)))) (some (i + 1)) := fun H Q _ q => ⟨_, h, _, _, rfl, rfl, _, rfl, q H Sm.rfl'⟩
theorem Yd.sl (Y : Cy N C) {tl th : TO} {lo hi : Option Int} (a : Yd N C σ te d) (hL : isL d = true) (hl : Yo C σ tl lo) (hh : Yo C σ th hi) : Yd N C σ (tSl (rSlN N) te tl th) (likeD d (cutA (its d) lo hi)) :=
  fun H Q c q => a H _ c fun v H1 s1 r1 => hl H1 _ (Y.sm _ _ s1 c) fun H2 s2 => hh H2 _ (Y.sm _ _ (s1.trans s2) c) fun H3 s3 =>
    have c3 := Y.sm _ _ ((s1.trans s2).trans s3) c
    ⟨d, (r1.sm s2).sm s3, hL, fun u H4 s4 r4 => q u H4 (((s1.trans s2).trans s3).trans s4) (r4.wide fun b z => z.elim id fun y => Y.new _ _ c3 y)⟩
theorem Yd.listOf (Y : Cy N C) (a : Yd N C σ te d) (hL : isL d = true) : Yd N C σ (tCB (fun xs H Q => ∃ v d, xs = [v] ∧ Dr N H v d ∧ isL d = true ∧ ∀ l ys, H l = none → DrA N H ys (its d) → Q (.ref l) (upd H l (.lst ys))) (tCons te tNil)) (.list (its d)) :=
  fun H Q c q => a H _ c fun v H1 s1 r1 => ⟨v, d, rfl, r1, hL, fun l ys nl ry => q _ _ (s1.trans (Sm.new nl)) (.lst (Y.new _ _ (Y.sm _ _ s1 c) nl) upd_same (ry.sm (Sm.new nl)))⟩
theorem Yd.catT (Y : Cy N C) (a : Yd N C σ te (.tuple ds)) (b : Yd N C σ tb (.tuple es)) (hl : ds.length + es.length ≤ 1000) : Yd N C σ (tOp (rCatA K) te tb) (.tuple (ds ++ es)) :=
  fun H Q c q => a H _ c fun v H1 s1 r1 => b H1 _ (Y.sm _ _ s1 c) fun u H2 s2 r2 => by
    have r1' := r1.sm s2
    cases r1' with
    | tup e1 a1 =>
    cases r2 with
    | tup e2 a2 =>
    have l1 := a1.length
    have l2 := a2.length
    refine ⟨_, _, _, _, rfl, rfl, SqT.of e1, SqT.of e2, by rw [sizeLine_eq]; omega, fun z => ?_, fun z y => ?_, fun z y p np => ?_⟩
    · refine q _ _ (s1.trans s2) ?_
      rw [z] at l1
      have : ds = [] := List.length_eq_zero_iff.mp l1.symm
      subst this
      exact .tup e2 a2
    · refine q _ _ (s1.trans s2) ?_
      rw [y] at l2
      have : es = [] := List.length_eq_zero_iff.mp l2.symm
      subst this
      rw [List.append_nil]
      exact .tup e1 a1
    · exact q _ _ ((s1.trans s2).trans (Sm.new np)) (.tup upd_same ((a1.append a2).sm (Sm.new np)))
theorem Yd.catL (Y : Cy N C) (a : Yd N C σ te (.list ds)) (b : Yd N C σ tb (.list es)) (hl : ds.length + es.length ≤ 1000) : Yd N C σ (tOp rCat te tb) (.list (ds ++ es)) :=
  fun H Q c q => a H _ c fun v H1 s1 r1 => b H1 _ (Y.sm _ _ s1 c) fun u H2 s2 r2 => by
    have c2 := Y.sm _ _ (s1.trans s2) c
    have r1' := r1.sm s2
    cases r1' with
    | lst _ e1 a1 =>
    cases r2 with
    | lst _ e2 a2 =>
    have l1 := a1.length
    have l2 := a2.length
    refine ⟨_, _, _, _, rfl, rfl, e1, e2, by rw [sizeLine_eq]; omega, fun p np => ?_⟩
    exact q _ _ ((s1.trans s2).trans (Sm.new np)) (.lst (Y.new _ _ c2 np) upd_same ((a1.append a2).sm (Sm.new np)))
/-- one side of an if-expression -/
theorem Yd.ifE (Y : Cy N C) {tt : TT} (b : Bool) (ht : ∀ H Q, C H → (∀ H', Sm H H' → Q b H') → tt σ H Q) (a1 : b = true → Yd N C σ te d) (a2 : b = false → Yd N C σ tb d) : Yd N C σ (tIf tt te tb) d :=
  fun H Q c q => ht H _ c fun H1 s1 => by
    have c1 := Y.sm _ _ s1 c
    cases b with
    | true => exact (iteT (a1 rfl H1 _ c1 fun v H2 s2 r2 => q v H2 (s1.trans s2) r2))
    | false => exact (iteF (a2 rfl H1 _ c1 fun v H2 s2 r2 => q v H2 (s1.trans s2) r2))
/-- row[0] == word -/
theorem Yd.wordIs {r : Row} {x : Str} (a : Yd N C σ te r.d) : ∀ H Q, C H → (∀ H', Sm H H' → Q (decide (V.str r.word = V.str x)) H') → tTest (tOp rEq (tOp (rIxN N) te (tC (.int 0))) (tC (.str x))) σ H Q := fun H Q c q => by
  refine a H _ c fun v H1 s1 r1 => ⟨_, 0, _, r1, Row.seqD r, rfl, Row.word_at r, fun u ru => ?_⟩
  cases ru.str_inv
  exact ⟨rfl, _, rfl, q H1 s1⟩
end
end K8
namespace K8
open PySem PySem.Spec PyProof.Rows L2 WR
theorem Yd.toFz {N N' : Addr → Prop} {C : Hp → Prop} {σ : L2.St} {te : TE} {d : PyData} (a : Yd N' C σ te d) (h : fz d = true) : Yd N C σ te d := fun H Q c q => a H Q c fun v H' s r => q v H' s (r.fz h)
theorem Yd.listFz {N N' : Addr → Prop} {C : Hp → Prop} {σ : L2.St} {te : TE} {d : PyData} (Y : Cy N C) (a : Yd N' C σ te d) (hL : isL d = true) (hf : fzA (its d) = true) :
    Yd N C σ (tCB (fun xs H Q => ∃ v d, xs = [v] ∧ Dr N' H v d ∧ isL d = true ∧ ∀ l ys, H l = none → DrA N' H ys (its d) → Q (.ref l) (upd H l (.lst ys))) (tCons te tNil)) (.list (its d)) :=
  fun H Q c q => a H _ c fun v H1 s1 r1 => ⟨v, d, rfl, r1, hL, fun l ys nl ry => q _ _ (s1.trans (Sm.new nl)) (.lst (Y.new _ _ (Y.sm _ _ s1 c) nl) upd_same ((ry.fz hf).sm (Sm.new nl)))⟩
/-! ### tame -/
mutual
theorem tame_mono {b : Bool} : ∀ {d : PyData} {n m : Nat}, n ≤ m → tame b d n = true → tame b d m = true
  | .list xs, n, m, h, t => by
    simp only [tame, Bool.and_eq_true, decide_eq_true_eq] at t ⊢
    exact ⟨⟨by omega, Nat.le_trans t.1.2 (cap_mono h)⟩, tameA_mono (by omega) t.2⟩
  | .tuple xs, n, m, h, t => by
    simp only [tame, Bool.and_eq_true, decide_eq_true_eq] at t ⊢
    exact ⟨⟨by omega, Nat.le_trans t.1.2 (cap_mono h)⟩, tameA_mono (by omega) t.2⟩
  | .dict ps, n, m, h, t => by
    simp only [tame, Bool.and_eq_true, decide_eq_true_eq] at t ⊢
    exact ⟨by omega, t.2⟩
  | .str x, n, m, h, t => by simpa only [tame] using t
  | .int i, n, m, h, t => by simpa only [tame] using t
  | .bool _, n, m, h, t => by simp only [tame]
  | .none, n, m, h, t => by simp only [tame]
theorem tameA_mono {b : Bool} : ∀ {ds : List PyData} {n m : Nat}, n ≤ m → tameA b ds n = true → tameA b ds m = true
  | [], _, _, _, _ => rfl
  | d :: ds, n, m, h, t => by
    simp only [tameA, Bool.and_eq_true] at t ⊢
    exact ⟨tame_mono h t.1, tameA_mono h t.2⟩
end
mutual
theorem tame_wk : ∀ {d : PyData} {n : Nat}, tame false d n = true → tame true d n = true
  | .list xs, n, t => by
    simp only [tame, Bool.and_eq_true, decide_eq_true_eq] at t ⊢
    exact ⟨t.1, tameA_wk t.2⟩
  | .tuple xs, n, t => by
    simp only [tame, Bool.and_eq_true, decide_eq_true_eq] at t ⊢
    exact ⟨t.1, tameA_wk t.2⟩
  | .dict ps, n, t => by
    simp only [tame, Bool.and_eq_true, decide_eq_true_eq, Bool.false_and, Bool.or_false] at t ⊢
    exact ⟨t.1, by rw [t.2]; rfl⟩
  | .str x, n, t => by simpa only [tame] using t
  | .int i, n, t => by simpa only [tame] using t
  | .bool _, n, t => by simp only [tame]
  | .none, n, t => by simp only [tame]
theorem tameA_wk : ∀ {ds : List PyData} {n : Nat}, tameA false ds n = true → tameA true ds n = true
  | [], _, _ => rfl
  | d :: ds, n, t => by
    simp only [tameA, Bool.and_eq_true] at t ⊢
    exact ⟨tame_wk t.1, tameA_wk t.2⟩
end
theorem tameA_of {b : Bool} {n : Nat} : ∀ {ds : List PyData}, (∀ d ∈ ds, tame b d n = true) → tameA b ds n = true
  | [], _ => rfl
  | d :: ds, h => by
    simp only [tameA, Bool.and_eq_true]
    exact ⟨h d (List.mem_cons_self ..), tameA_of fun e he => h e (List.mem_cons_of_mem _ he)⟩
theorem tameA_mem {b : Bool} {n : Nat} {ds : List PyData} (h : tameA b ds n = true) {d : PyData} (hd : d ∈ ds) : tame b d n = true := by
  obtain ⟨i, e⟩ := List.getElem?_of_mem hd
  exact tameA_at h e
theorem tameA_app {b : Bool} {n : Nat} {ds es : List PyData} (h1 : tameA b ds n = true) (h2 : tameA b es n = true) : tameA b (ds ++ es) n = true :=
  tameA_of fun d hd => (List.mem_append.mp hd).elim (tameA_mem h1) (tameA_mem h2)
theorem tameA_take {b : Bool} {n k : Nat} {ds : List PyData} (h : tameA b ds n = true) : tameA b (ds.take k) n = true := tameA_of fun d hd => tameA_mem h (List.mem_of_mem_take hd)
theorem tameA_drop {b : Bool} {n k : Nat} {ds : List PyData} (h : tameA b ds n = true) : tameA b (ds.drop k) n = true := tameA_of fun d hd => tameA_mem h (List.mem_of_mem_drop hd)
theorem tame_tup {b : Bool} {n : Nat} {ds : List PyData} (h : tameA b ds n = true) (hl : ds.length ≤ 8) : tame b (.tuple ds) (n + 1) = true := by
  simp only [tame, Bool.and_eq_true, decide_eq_true_eq]
  exact ⟨⟨by omega, Nat.le_trans hl (cap_ge _)⟩, h⟩
theorem tame_lst {b : Bool} {n : Nat} {ds : List PyData} (h : tameA b ds n = true) (hl : ds.length ≤ 8) : tame b (.list ds) (n + 1) = true := by
  simp only [tame, Bool.and_eq_true, decide_eq_true_eq]
  exact ⟨⟨by omega, Nat.le_trans hl (cap_ge _)⟩, h⟩
theorem tame_lst3 {b : Bool} {n : Nat} {ds : List PyData} (h : tameA b ds n = true) (hl : ds.length ≤ 40) (hn : 2 ≤ n := by decide) : tame b (.list ds) (n + 1) = true := by
  simp only [tame, Bool.and_eq_true, decide_eq_true_eq]
  refine ⟨⟨by omega, ?_⟩, h⟩
  unfold capT
  rw [if_neg (by omega)]
  exact hl
theorem log_small {i : Int} (h : i.natAbs < 2 ^ 99) : i.natAbs.log2 < 100 := by
  by_cases z : i.natAbs = 0
  · rw [z]
    decide
  · have := (Nat.log2_lt z (k := 99)).mpr h
    omega
theorem int_tame {b : Bool} {i : Int} {n : Nat} (h : i.natAbs ≤ 1000) : tame b (.int i) n = true := by
  simp only [tame, decide_eq_true_eq]
  refine log_small (Nat.lt_of_le_of_lt h ?_)
  have : 2 ^ 10 ≤ 2 ^ 99 := Nat.pow_le_pow_right (by decide) (by decide)
  omega
theorem nums_tame {b : Bool} {ks : List Nat} {n : Nat} (h : ∀ k ∈ ks, k ≤ 100) : tameA b (nums ks) n = true := by
  refine tameA_of fun d hd => ?_
  obtain ⟨k, hk, rfl⟩ := List.mem_map.mp hd
  exact int_tame (by have := h k hk; omega)
theorem name_len {n : Str} (h : isName (.str n) = true) : n.length ≤ 8 := by
  simp only [isName, begName, Bool.and_eq_true, decide_eq_true_eq] at h
  exact h.2.1.1
theorem above_f {c k : Nat} {y : Str} (hy : y.cps.toList = [k]) (h : k < c) : leS ⟨#[c]⟩ y = false := by
  have e : y.cps.toList < [c] := by
    rw [hy]
    exact List.Lex.rel h
  unfold leS
  rw [show decide (y.cps.toList < (Str.mk #[c]).cps.toList) = true from decide_eq_true e]
  rfl
theorem name_okT {n : Str} (h : isName (.str n) = true) : okStr n = true := by
  have hl := name_len h
  simp only [isName, begName, Bool.and_eq_true, decide_eq_true_eq] at h
  have ha := h.2.1.2
  simp only [okStr, Bool.and_eq_true, decide_eq_true_eq, List.all_eq_true]
  refine ⟨by omega, fun c hc => ?_⟩
  have t := List.all_eq_true.mp ha (.str ⟨#[c]⟩) (List.mem_map.mpr ⟨c, hc, rfl⟩)
  by_cases z : c < 4294967296
  · exact z
  · exfalso
    rw [show strOf (.str ⟨#[c]⟩) = ⟨#[c]⟩ from rfl, isLet, isFig, above_f (k := 122) (y := "z") (by decide +kernel) (by omega), above_f (k := 57) (y := "9") (by decide +kernel) (by omega)] at t
    simp at t
theorem Row.tm {b : Bool} {r : Row} (h1 : r.ok) (h2 : r.small) : tameA b (its r.d) 1 = true ∧ (its r.d).length ≤ 4 ∧ 2 ≤ (its r.d).length ∧ r.d = .tuple (its r.d) ∧ fzA (its r.d) = true := by
  have hf : fzA (its r.d) = true := by
    have := Row.fz r
    cases r <;> simpa [Row.d, WR.fz, its] using this
  have hs : ∀ x : Str, okStr x = true → ∀ n, tame b (.str x) n = true := fun x h n => by simp only [tame]; exact h
  cases r with
  | made n ks =>
    refine ⟨?_, by simp [Row.d, its], by simp [Row.d, its], rfl, hf⟩
    have hn := name_okT h1.1
    simp only [Row.d, its, tameA, Bool.and_eq_true]
    exact ⟨hs _ (by decide +kernel) _, hs _ hn _, tame_tup (n := 0) (nums_tame h2.2) (by simp [nums]; have := h2.1; omega), trivial⟩
  | asked n ks =>
    refine ⟨?_, by simp [Row.d, its], by simp [Row.d, its], rfl, hf⟩
    have hn := name_okT h1.1
    simp only [Row.d, its, tameA, Bool.and_eq_true]
    exact ⟨hs _ (by decide +kernel) _, hs _ hn _, tame_tup (n := 0) (nums_tame h2.2) (by simp [nums]; have := h2.1; omega), trivial⟩
  | either a i j =>
    obtain ⟨x1, x2, x3⟩ := h2
    refine ⟨?_, by simp [Row.d, its], by simp [Row.d, its], rfl, hf⟩
    simp only [Row.d, its, tameA, Bool.and_eq_true]
    exact ⟨hs _ (by decide +kernel) _, int_tame (by omega), int_tame (by omega), int_tame (by omega), trivial⟩
  | given k =>
    have x1 : k ≤ 100 := h2
    refine ⟨?_, by simp [Row.d, its], by simp [Row.d, its], rfl, hf⟩
    simp only [Row.d, its, tameA, Bool.and_eq_true]
    exact ⟨hs _ (by decide +kernel) _, int_tame (by omega), trivial⟩
end K8
namespace K8
open PySem PySem.Spec PyProof.Rows L2 WR
section
variable {N : Addr → Prop} {C : Hp → Prop} {σ : L2.St} {te : TE} {ta : TA} {tt : TT} {d : PyData} {ds : List PyData} {D : Ends} {g : TG} {rest : TS} {H : Hp} {Q : VK}
theorem seq_asg (h : te σ H fun v H1 => g v σ H1 (rest D)) : tSeq (tAsg te g) rest D σ H := h
theorem run_lst (a : Ya N C σ ta ds) (c : C H) (k : ∀ vs H1, Sm H H1 → DrA N H1 vs ds → vs.length ≤ sizeLine ∧ ∀ p, H1 p = none → Q (.ref p) (upd H1 p (.lst vs))) : tLst ta σ H Q := a H _ c k
theorem ret_y (h : te σ H D.rt) : tRet te D σ H := h
/-- _law_pick(well, ..) -/
theorem pick_y {wa : Addr} {m : Nat} (h0 : σ[0]? = some (some (.ref wa))) (Y : Cy N C) (a : Yd N C σ te (.list ds)) (c : C H) (hC : ∀ H', C H' → Wl H' wa m) (off : Off wa N) (hm : m < top0) (ne : ds ≠ []) (hl : ds.length ≤ lim)
    (k : ∀ e ∈ ds, ∀ u H1 H', Sm H H1 → C H1 → Gw wa H1 H' → Wl H' wa (m + 1) → Dr N H' u e → Q u H') : tCall spPick [] E0 (tCons (tVar 0) (tCons te tNil)) σ H Q :=
  ⟨_, h0, a H _ c fun v H1 s1 r1 => ⟨wa, m, N, v, .list ds, rfl, off, hC _ (Y.sm _ _ s1 c), hm, r1, rfl, ne, hl, fun e he u H' g hw' ru => k e he u H1 H' s1 (Y.sm _ _ s1 c) g hw' ru⟩⟩
end
end K8
namespace K8
open PySem PySem.Spec PyProof.Rows L2 WR
section
variable {N : Addr → Prop} {C : Hp → Prop} {σ : L2.St} {te tb : TE} {ta : TA} {tt : TT} {d : PyData} {ds es : List PyData} {D : Ends} {g : TG} {rest t u : TS} {H : Hp} {Q : VK}
theorem Yd.neg (i : Int) : Yd N C σ (tUn (rU fun i => V.int (-i)) (tC (.int i))) (.int (-i)) := fun H Q _ q => ⟨_, rfl, q _ _ Sm.rfl' (.int (-i))⟩
theorem Yd.addv {i : Nat} {z y : Int} (h : σ[i]? = some (some (.int z))) : Yd N C σ (tOp (rI0 fun i j => V.int (i + j)) (tVar i) (tC (.int y))) (.int (z + y)) := fun H Q _ q => ⟨_, h, _, _, rfl, rfl, q _ _ Sm.rfl' (.int (z + y))⟩
theorem Yd.vint {i : Nat} {z : Int} (h : σ[i]? = some (some (.int z))) : Yd N C σ (tVar i) (.int z) := fun H Q _ q => ⟨_, h, q _ _ Sm.rfl' (.int z)⟩
theorem Yd.catOwn (Y : Cy N C) {i : Nat} {l : Addr} {xs : List V} (h : σ[i]? = some (some (.ref l))) (hc : ∀ H, C H → H l = some (.lst xs) ∧ DrA N H xs ds) (b : Yd N C σ tb (.list es)) (hl : ds.length + es.length ≤ 1000) : Yd N C σ (tOp rCat (tVar i) tb) (.list (ds ++ es)) :=
  fun H Q c q => ⟨_, h, b H _ c fun u H2 s2 r2 => by
    have c2 := Y.sm _ _ s2 c
    obtain ⟨e1, a1⟩ := hc _ c2
    cases r2 with
    | lst _ e2 a2 =>
    have l1 := a1.length
    have l2 := a2.length
    refine ⟨_, _, _, _, rfl, rfl, e1, e2, by rw [sizeLine_eq]; omega, fun p np => ?_⟩
    exact q _ _ (s2.trans (Sm.new np)) (.lst (Y.new _ _ c2 np) upd_same ((a1.append a2).sm (Sm.new np)))⟩
theorem ifS_word {r : Row} {x : Str} (a : Yd N C σ te r.d) (c : C H) (k : ∀ H1, Sm H H1 → if decide (V.str r.word = V.str x) = true then t D σ H1 else u D σ H1) : tIfS (tTest (tOp rEq (tOp (rIxN N) te (tC (.int 0))) (tC (.str x)))) t u D σ H :=
  Yd.wordIs a H _ c k
/-- some.extend([..]) -/
theorem ext_y {K : PySem.W.Frag} {ls : Addr} {xs : List V} (h5 : σ[5]? = some (some (.ref ls))) (Y : Cy N C) (hls : ∀ H, C H → H ls = some (.lst xs)) (nls : ¬ N ls) (a : Ya N C σ ta es) (c : C H) (rx : ∀ H, C H → DrA N H xs ds) (hl : xs.length + es.length ≤ 100)
    (k : ∀ zs H2, C H2 → Sm H H2 → zs.length = es.length → DrA N (upd H2 ls (.lst (xs ++ zs))) (xs ++ zs) (ds ++ es) → Stays N H2 (upd H2 ls (.lst (xs ++ zs))) → rest D σ (upd H2 ls (.lst (xs ++ zs)))) : tSeq (tDrop (tBM K "list" rExtend (tVar 5) (tCons (tLst ta) tNil))) rest D σ H := by
  refine ⟨_, h5, .inl ⟨rfl, xs, SqL.of (hls H c)⟩, a H _ c fun zs H1 s1 r1 => ⟨by rw [r1.length, sizeLine_eq]; omega, fun p np => ?_⟩⟩
  have c1 := Y.sm _ _ s1 c
  have s2 : Sm H (upd H1 p (.lst zs)) := s1.trans (Sm.new np)
  have c2 := Y.sm _ _ s2 c
  have e2 := hls _ c2
  have lz : zs.length = es.length := r1.length
  refine ⟨ls, p, xs, zs, rfl, rfl, e2, upd_same, by rw [sizeLine_eq]; omega, ?_⟩
  have st : Stays N (upd H1 p (.lst zs)) (upd (upd H1 p (.lst zs)) ls (.lst (xs ++ zs))) := ⟨fun b o nb z => by
    rw [upd_ne fun y => nls (by rw [← y]; exact nb)]
    exact z, fun b ys z => by
    rw [upd_ne fun y => by rw [y, e2] at z; cases z]
    exact z⟩
  refine k zs _ c2 s2 lz ?_ st
  exact ((rx _ c2).append (r1.sm (Sm.new np))).mono (fun _ z => z) st
end
end K8

namespace K8
open PySem PySem.Spec PyProof.Rows L2 WR
def odds (m k : Nat) : List PyData := [.int (m : Nat), .int (k : Nat), .int ((k : Int) + 1), .int (-1), .bool true, .none, .str "0", .tuple [.int 0], .int 0, .int 1]
theorem odds_ok {m k : Nat} (hm : m ≤ 40) (hk : k ≤ 40) : ∀ e ∈ odds m k, fz e = true ∧ tame false e 1 = true := by
  intro e he
  simp only [odds, List.mem_cons, List.not_mem_nil, or_false] at he
  rcases he with rfl | rfl | rfl | rfl | rfl | rfl | rfl | rfl | rfl | rfl
  · exact ⟨rfl, int_tame (by omega)⟩
  · exact ⟨rfl, int_tame (by omega)⟩
  · exact ⟨rfl, int_tame (by omega)⟩
  · exact ⟨rfl, int_tame (by decide)⟩
  · exact ⟨rfl, rfl⟩
  · exact ⟨rfl, rfl⟩
  · exact ⟨rfl, by simp only [tame]; decide +kernel⟩
  · exact ⟨rfl, tame_tup (n := 0) (ds := [.int 0]) (tameA_of fun d hd => by rw [List.mem_singleton.mp hd]; exact int_tame (by decide)) (by decide)⟩
  · exact ⟨rfl, int_tame (by decide)⟩
  · exact ⟨rfl, int_tame (by decide)⟩
def names12 : List PyData := [.str "", .str "F", .str "f_", .str "nineletts", .str "1f", .none, .int 5, .str "f g", .str "f\n", .list [.str "f"], .str "f", .str "g"]
theorem str_tame {b : Bool} {x : Str} {n : Nat} (h : okStr x = true) : tame b (.str x) n = true := by simp only [tame]; exact h
theorem names12_ok : ∀ e ∈ names12, tame false e 1 = true := by
  intro e he
  simp only [names12, List.mem_cons, List.not_mem_nil, or_false] at he
  rcases he with rfl | rfl | rfl | rfl | rfl | rfl | rfl | rfl | rfl | rfl | rfl | rfl
  · exact str_tame (by decide +kernel)
  · exact str_tame (by decide +kernel)
  · exact str_tame (by decide +kernel)
  · exact str_tame (by decide +kernel)
  · exact str_tame (by decide +kernel)
  · rfl
  · exact int_tame (by decide)
  · exact str_tame (by decide +kernel)
  · exact str_tame (by decide +kernel)
  · exact tame_lst (n := 0) (ds := [.str "f"]) (tameA_of fun d hd => by rw [List.mem_singleton.mp hd]; exact str_tame (by decide +kernel)) (by decide)
  · exact str_tame (by decide +kernel)
  · exact str_tame (by decide +kernel)
/-- the first things to choose from -/
def some12 (r r0 : Row) : List PyData := [.none, .int 5, .str r.word, .list [], .tuple [], .tuple ((its r.d).take 1), .tuple (its r.d ++ [.int 0]), .tuple ([.str "mode"] ++ (its r.d).drop 1), r0.d,
  .tuple ([.int 5] ++ (its r.d).drop 1), .dict [], .list [.list (its r.d)]]
theorem tame_two {b : Bool} {x y : PyData} {n : Nat} (h1 : tame b x n = true) (h2 : tame b y n = true) : tameA b [x, y] n = true := by
  simp only [tameA, Bool.and_eq_true]
  exact ⟨h1, h2, trivial⟩
theorem tame_one {b : Bool} {x : PyData} {n : Nat} (h1 : tame b x n = true) : tameA b [x] n = true := by
  simp only [tameA, Bool.and_eq_true]
  exact ⟨h1, trivial⟩
theorem some12_ok {r r0 : Row} (h : r.ok) (h' : r.small) (g : r0.ok) (g' : r0.small) : tameA false (some12 r r0) 3 = true := by
  obtain ⟨t1, t2, t3, t4, t5⟩ := Row.tm h h'
  obtain ⟨u1, u2, u3, u4, u5⟩ := Row.tm g g'
  have t1' := tameA_mono (m := 2) (by decide) t1
  have wl : okStr r.word = true := by
    cases r
    · exact (by decide +kernel : okStr "made" = true)
    · exact (by decide +kernel : okStr "asked" = true)
    · exact (by decide +kernel : okStr "either" = true)
    · exact (by decide +kernel : okStr "given" = true)
  refine tameA_of fun e he => ?_
  simp only [some12, List.mem_cons, List.not_mem_nil, or_false] at he
  rcases he with rfl | rfl | rfl | rfl | rfl | rfl | rfl | rfl | rfl | rfl | rfl | rfl
  · rfl
  · exact int_tame (by decide)
  · exact str_tame wl
  · exact tame_lst (n := 2) rfl (by decide)
  · exact tame_tup (n := 2) rfl (by decide)
  · exact tame_tup (tameA_take t1') (by simp; omega)
  · exact tame_tup (tameA_app t1' (tame_one (int_tame (by decide)))) (by simp; omega)
  · exact tame_tup (tameA_app (tame_one (str_tame (by decide +kernel))) (tameA_drop t1')) (by simp; omega)
  · rw [u4]
    exact tame_tup (tameA_mono (by decide) u1) (by omega)
  · exact tame_tup (tameA_app (tame_one (int_tame (by decide))) (tameA_drop t1')) (by simp; omega)
  · rfl
  · exact tame_lst (tame_one (tame_lst t1 (by omega))) (by simp)
section
variable {P : Program} {w : World} {K : PySem.W.Frag} {mg : Str → Option Value} {base : Heap}
abbrev spGBentRow : Sp := fun vs H Q _ => ∃ (w : Addr) (n : Nat) (v : V) (R : List Row) (k : Nat) (N : Addr → Prop), vs = [.ref w, v, .int (k : Nat)] ∧ Off w N ∧ Wl H w n ∧ n + 5000 < top0 ∧ Dr N H v (rowsD R) ∧ R.length ≤ 40 ∧ k < R.length ∧ (∀ r ∈ R, r.ok ∧ r.small) ∧
  ∀ (d : PyData) u H', tame false d 3 = true → Gw w H H' → Wl H' w (n + 10) → Dr (Fr N H) H' u d → Q u H'
theorem sc__law_g_bent_row : FnScope ["well", "rows", "at", "row", "many", "some", "odd", "place", "name"] ["well", "rows", "at"] (defScope s_law_g_bent_row) := ⟨rfl, rfl, rfl, by decide +kernel, rfl, by decide +kernel, by decide +kernel⟩
theorem ok__law_g_bent_row (B : Bt mg) (F : Fn K mg d_law_g_bent_row) (D1 : Df P w K mg base CX0 1 "_law_draw" ["well", "many"] spDraw) (D2 : Df P w K mg base CX0 2 "_law_pick" ["well", "some"] spPick) :
    Df P w K mg base CX0 3 "_law_g_bent_row" ["well", "rows", "at"] spGBentRow := by
  obtain ⟨f, fd, hm, F⟩ := F
  refine ⟨f, fd, hm, F.kp, F.bindsN fun _ _ _ _ _ _ us hl => match us, hl with | [_, _, _], _ => rfl, ?_⟩
  refine F.ok sc__law_g_bent_row (fun vs H Q E h => by obtain ⟨w, n, v, R, k, N, rfl, _⟩ := h; rfl) (fun cdv A outer s H vs Q E hr h => ?_)
  obtain ⟨wa, n, v, R, k, N0, rfl, oN0, hw, hn, rd0, hR, hk, hRok, q⟩ := h
  have rd : Dr (Fr N0 H) H v (rowsD R) := rd0.wide fun b z => .inl z
  have hr1 := hr.mono (show 1 ≤ 2 by decide)
  have oNe : Off wa (Fr N0 H) := fun b h => h.elim (oN0 b) fun z => hw.ne z
  refine ⟨_, PSs.nox (pss_cons (ps_par (i := 3) (j := 4) (by rfl) sc__law_g_bent_row.nd rfl rfl (by decide) rfl rfl (pa_cons (pe_ix (ix_N (Fr N0 H)) (pv 1) (pv 2) (fun _ _ => rfl)) (pa_cons (pe_callB call_lenS (by rfl) B.len (by decide +kernel) (pa_cons (pv 1) pa_nil)) pa_nil)) (by first | rfl | kernel_rfl))
      (pss_cons (ps_set (i := 5) sc__law_g_bent_row.nd rfl (by first | exact Or.inl rfl | exact Or.inr rfl) (pe_lst (pa_cons pe_non (pa_cons pe_int (pa_cons (pe_ix (ix_N (Fr N0 H)) (pv 3) pe_int (fun _ _ => rfl)) (pa_cons (pe_lst pa_nil) (pa_cons (pe_tup pa_nil) (pa_cons (pe_slice (sl_N (Fr N0 H)) (pv 3) po_none (po_some pe_int)) (pa_cons (pe_op op_catA (pv 3) (pe_tup (pa_cons pe_int pa_nil))) (pa_cons (pe_op op_catA (pe_tup (pa_cons pe_str pa_nil)) (pe_slice (sl_N (Fr N0 H)) (pv 3) (po_some pe_int) po_none)) (pa_cons (pe_ix (ix_N (Fr N0 H)) (pv 1) pe_int (fun _ _ => rfl)) (pa_cons (pe_op op_catA (pe_tup (pa_cons pe_int pa_nil)) (pe_slice (sl_N (Fr N0 H)) (pv 3) (po_some pe_int) po_none)) (pa_cons pe_dnewK (pa_cons (pe_lst (pa_cons (pe_callTy (call_listN (Fr N0 H)) (by rfl) B.list (by decide +kernel) (pa_cons (pv 3) pa_nil)) pa_nil)) pa_nil))))))))))))))
      (pss_cons (ps_set (i := 6) sc__law_g_bent_row.nd rfl (by first | exact Or.inl rfl | exact Or.inr rfl) (pe_df D2 hr pass0 (pa_cons (pv 0) (pa_cons (pe_lst (pa_cons (pv 4) (pa_cons (pv 2) (pa_cons (pe_op op_add (pv 2) pe_int) (pa_cons (pe_un un_neg pe_int) (pa_cons pe_bl (pa_cons pe_non (pa_cons pe_str (pa_cons (pe_tup (pa_cons pe_int pa_nil)) (pa_cons pe_int (pa_cons pe_int pa_nil))))))))))) pa_nil))))
      (C8.pss_cut (ps_if (pt_cmpR op_eq (pe_ix (ix_N (Fr N0 H)) (pv 3) pe_int (fun _ _ => rfl)) pe_str (nomark _)) (pss_one (ps_ret (pe_df D2 hr pass0 (pa_cons (pv 0) (pa_cons (pe_op op_cat (pv 5) (pe_lst (pa_cons (pe_tup (pa_cons pe_str (pa_cons (pv 6) pa_nil))) (pa_cons (pe_tup (pa_cons pe_str (pa_cons (pe_tup (pa_cons pe_int pa_nil)) pa_nil))) (pa_cons (pe_tup (pa_cons pe_str pa_nil)) (pa_cons (pe_tup (pa_cons pe_str (pa_cons pe_str (pa_cons (pv 6) pa_nil)))) pa_nil)))))) pa_nil))))) pss_nil)
      (C8.pss_cut (ps_if (pt_cmpR op_eq (pe_ix (ix_N (Fr N0 H)) (pv 3) pe_int (fun _ _ => rfl)) pe_str (nomark _)) (pss_cons (ps_set (i := 7) sc__law_g_bent_row.nd rfl (by first | exact Or.inl rfl | exact Or.inr rfl) (pe_op op_add pe_int (pe_df D1 hr1 pass0 (pa_cons (pv 0) (pa_cons pe_int pa_nil)))))
      (pss_cons (ps_expr (pe_bm PySem.F.plainAttrs_list PySem.F.slot_list_extend PySem.F.type_list_extend mt_extend (pv 5) (pa_cons (pe_lst (pa_cons (pe_op op_catA (pe_op op_catA (pe_slice (sl_N (Fr N0 H)) (pv 3) po_none (po_some (pv 7))) (pe_tup (pa_cons (pv 6) pa_nil))) (pe_slice (sl_N (Fr N0 H)) (pv 3) (po_some (pe_op op_add (pv 7) pe_int)) po_none)) (pa_cons (pe_op op_catA (pe_slice (sl_N (Fr N0 H)) (pv 3) po_none (po_some pe_int)) (pe_tup (pa_cons (pe_ix (ix_N (Fr N0 H)) (pv 3) pe_int (fun _ _ => rfl)) (pa_cons (pe_ix (ix_N (Fr N0 H)) (pv 3) pe_int (fun _ _ => rfl)) pa_nil)))) (pa_cons (pe_op op_catA (pe_slice (sl_N (Fr N0 H)) (pv 3) po_none (po_some pe_int)) (pe_tup (pa_cons (pe_ix (ix_N (Fr N0 H)) (pv 3) pe_int (fun _ _ => rfl)) (pa_cons (pe_ix (ix_N (Fr N0 H)) (pv 3) pe_int (fun _ _ => rfl)) pa_nil)))) pa_nil)))) pa_nil)))
      (pss_one (ps_ret (pe_df D2 hr pass0 (pa_cons (pv 0) (pa_cons (pv 5) pa_nil))))))) pss_nil)
      (pss_cons (ps_set (i := 8) sc__law_g_bent_row.nd rfl (by first | exact Or.inl rfl | exact Or.inr rfl) (pe_df D2 hr pass0 (pa_cons (pv 0) (pa_cons (pe_lst (pa_cons pe_str (pa_cons pe_str (pa_cons pe_str (pa_cons pe_str (pa_cons pe_str (pa_cons pe_non (pa_cons pe_int (pa_cons pe_str (pa_cons pe_str (pa_cons (pe_lst (pa_cons pe_str pa_nil)) (pa_cons pe_str (pa_cons pe_str pa_nil))))))))))))) pa_nil))))
      (pss_cons (ps_expr (pe_bm PySem.F.plainAttrs_list PySem.F.slot_list_extend PySem.F.type_list_extend mt_extend (pv 5) (pa_cons (pe_lst (pa_cons (pe_tup (pa_cons (pe_ix (ix_N (Fr N0 H)) (pv 3) pe_int (fun _ _ => rfl)) (pa_cons (pv 8) (pa_cons (pe_ix (ix_N (Fr N0 H)) (pv 3) pe_int (fun _ _ => rfl)) pa_nil)))) (pa_cons (pe_tup (pa_cons (pe_ix (ix_N (Fr N0 H)) (pv 3) pe_int (fun _ _ => rfl)) (pa_cons (pe_ix (ix_N (Fr N0 H)) (pv 3) pe_int (fun _ _ => rfl)) (pa_cons (pe_op op_cat (pe_callTy (call_listN (Fr N0 H)) (by rfl) B.list (by decide +kernel) (pa_cons (pe_ix (ix_N (Fr N0 H)) (pv 3) pe_int (fun _ _ => rfl)) pa_nil)) (pe_lst (pa_cons (pv 6) pa_nil))) pa_nil)))) (pa_cons (pe_tup (pa_cons (pe_ix (ix_N (Fr N0 H)) (pv 3) pe_int (fun _ _ => rfl)) (pa_cons (pe_ix (ix_N (Fr N0 H)) (pv 3) pe_int (fun _ _ => rfl)) (pa_cons (pe_slice (sl_N (Fr N0 H)) (pe_ix (ix_N (Fr N0 H)) (pv 3) pe_int (fun _ _ => rfl)) (po_some pe_int) po_none) pa_nil)))) pa_nil)))) pa_nil)))
      (pss_cons (ps_expr (pe_bm PySem.F.plainAttrs_list PySem.F.slot_list_extend PySem.F.type_list_extend mt_extend (pv 5) (pa_cons (pe_lst (pa_cons (pe_op op_catA (pe_tup (pa_cons (pe_ifExp (pt_cmpR op_eq (pe_ix (ix_N (Fr N0 H)) (pv 3) pe_int (fun _ _ => rfl)) pe_str (nomark _)) pe_str pe_str) pa_nil)) (pe_slice (sl_N (Fr N0 H)) (pv 3) (po_some pe_int) po_none)) (pa_cons (pe_tup (pa_cons (pe_ix (ix_N (Fr N0 H)) (pv 3) pe_int (fun _ _ => rfl)) (pa_cons (pe_ix (ix_N (Fr N0 H)) (pv 3) pe_int (fun _ _ => rfl)) (pa_cons pe_str pa_nil)))) (pa_cons (pe_tup (pa_cons (pe_ix (ix_N (Fr N0 H)) (pv 3) pe_int (fun _ _ => rfl)) (pa_cons (pe_ix (ix_N (Fr N0 H)) (pv 3) pe_int (fun _ _ => rfl)) (pa_cons (pv 6) pa_nil)))) pa_nil)))) pa_nil)))
      (pss_one (ps_ret (pe_df D2 hr pass0 (pa_cons (pv 0) (pa_cons (pv 5) pa_nil))))))))))))), ?_⟩
  have hsl := lim_lt
  have htop : top0 = 1000000000000 := rfl
  have hlim : lim = 4000 := rfl
  have hw0 := hw
  -- row, many
  refine ⟨_, rfl, _, rfl, rowsD R, k, (rowAt R k).d, rd, rfl, rfl, rowAt_at hk, fun vr rr => ⟨_, rfl, v, _, rfl, rd.all, rfl, vr, _, rfl, ?_⟩⟩
  have lenR : (its (rowsD R)).length = R.length := by simp [rowsD, its]
  rw [lenR]
  have rmem : ∀ j, j < R.length → rowAt R j ∈ R := fun j hj => by
    unfold rowAt
    rw [List.getD_eq_getElem?_getD, List.getElem?_eq_getElem hj]
    exact List.getElem_mem hj
  obtain ⟨rok, rsm⟩ := hRok _ (rmem k hk)
  obtain ⟨r0ok, r0sm⟩ := hRok _ (rmem 0 (by omega))
  have e0 : (its (rowsD R))[0]? = some (rowAt R 0).d := rowAt_at (show 0 < R.length by omega)
  generalize rowAt R k = r at rr rok rsm
  generalize rowAt R 0 = r0 at r0ok r0sm e0
  obtain ⟨t1, t2, t3, t4, t5⟩ := Row.tm rok rsm
  have Y0 : Cy (Fr N0 H) (fun H' => Gw wa H H' ∧ Wl H' wa n) := ⟨fun H1 H2 s c => ⟨c.1.trans (Gw.of s), c.2.sm s⟩, fun H1 p c np => .inr (Gw.free c.2 c.1 np)⟩
  have yrow : ∀ {σ : L2.St}, σ[3]? = some (some vr) → Yd (Fr N0 H) (fun H' => Gw wa H H' ∧ Wl H' wa n) σ (tVar 3) r.d := fun h => .var h fun H' c => rr.gn oNe hw0 c.1
  have yrows : ∀ {σ : L2.St}, σ[1]? = some (some v) → Yd (Fr N0 H) (fun H' => Gw wa H H' ∧ Wl H' wa n) σ (tVar 1) (rowsD R) := fun h => .var h fun H' c => rd.gn oNe hw0 c.1
  have c1 : ∀ i : Nat, cutA (its r.d) none (some (i : Int)) = (its r.d).take i := fun i => cutA_to _ i
  have c2 : ∀ i : Nat, cutA (its r.d) (some (i : Int)) none = (its r.d).drop i := fun i => cutA_from _ i
  have lk : ∀ ys, likeD r.d ys = .tuple ys := fun ys => by rw [t4]; rfl
  have ysl : ∀ {C : Hp → Prop} {σ : L2.St} {tl th : TO} {lo hi : Option Int}, Cy (Fr N0 H) C → Yd (Fr N0 H) C σ (tVar 3) r.d → Yo C σ tl lo → Yo C σ th hi → Yd (Fr N0 H) C σ (tSl (rSlN (Fr N0 H)) (tVar 3) tl th) (.tuple (cutA (its r.d) lo hi)) := fun Y a b c => by
    have := Yd.sl Y a (Row.seqD r) b c
    rwa [lk] at this
  have ytk : ∀ {C : Hp → Prop} {σ : L2.St}, Cy (Fr N0 H) C → Yd (Fr N0 H) C σ (tVar 3) r.d → ∀ (i : Nat) (z : Int), z = (i : Int) → Yd (Fr N0 H) C σ (tSl (rSlN (Fr N0 H)) (tVar 3) tNoPart (tPart (tC (.int z)))) (.tuple ((its r.d).take i)) := fun Y a i z e => by
    subst e
    have := ysl Y a .no (.int (i : Int))
    rwa [c1 i] at this
  have ydr : ∀ {C : Hp → Prop} {σ : L2.St}, Cy (Fr N0 H) C → Yd (Fr N0 H) C σ (tVar 3) r.d → ∀ (i : Nat) (z : Int), z = (i : Int) → Yd (Fr N0 H) C σ (tSl (rSlN (Fr N0 H)) (tVar 3) (tPart (tC (.int z))) tNoPart) (.tuple ((its r.d).drop i)) := fun Y a i z e => by
    subst e
    have := ysl Y a (.int (i : Int)) .no
    rwa [c2 i] at this
  have ysome := Ya.cons (σ := [some (.ref wa), some v, some (.int (k : Nat)), some vr, some (.int (R.length : Nat)), none, none, none, none]) Y0 .non (.cons Y0 (.int 5) (.cons Y0 (.ix 0 (yrow rfl) (Row.seqD r) rfl (Row.word_at r)) (.cons Y0 (.lst Y0 (by decide) .nil) (.cons Y0 (.tup (by decide) .nil)
    (.cons Y0 (ytk Y0 (yrow rfl) 1 1 rfl) (.cons Y0 (.catT (K := K) Y0 (by rw [← t4]; exact yrow rfl) (.tup (by decide) (.one Y0 (.int 0))) (by simp; omega))
    (.cons Y0 (.catT (K := K) Y0 (.tup (by decide) (.one Y0 (.str "mode"))) (ydr Y0 (yrow rfl) 1 1 rfl) (by simp; omega)) (.cons Y0 (.ix 0 (yrows rfl) rfl rfl e0)
    (.cons Y0 (.catT (K := K) Y0 (.tup (by decide) (.one Y0 (.int 5))) (ydr Y0 (yrow rfl) 1 1 rfl) (by simp; omega)) (.cons Y0 (.dict0 Y0) (.one Y0 (.lst Y0 (by simp) (.one Y0 (.listOf Y0 (yrow rfl) (Row.seqD r)))))))))))))))
  have ok12 := some12_ok rok rsm r0ok r0sm
  refine seq_asg (run_lst ysome ⟨Gw.of Sm.rfl', hw⟩ fun vs H1 s1 rs1 => ⟨by rw [rs1.length]; show 12 ≤ sizeLine; decide, fun ls nls => ?_⟩)
  have nls0 : H ls = none := s1.free nls
  have nlw : ls ≠ wa := hw.ne nls0
  have lvs : vs.length = 12 := rs1.length
  have sl : Sm H (upd H1 ls (.lst vs)) := s1.trans (Sm.new nls)
  have rs2 : DrA (fun b => Fr N0 H b ∧ b ≠ ls) (upd H1 ls (.lst vs)) vs (some12 r r0) := (rs1.live.sm (Sm.new nls)).wide fun b z => ⟨z.1, fun y => z.2 (by rw [y]; exact nls)⟩
  have el2 : upd H1 ls (.lst vs) ls = some (.lst vs) := upd_same
  have hw2 : Wl (upd H1 ls (.lst vs)) wa n := hw.sm sl
  have rr2 : Dr (fun b => Fr N0 H b ∧ b ≠ ls) (upd H1 ls (.lst vs)) vr r.d := (rr.sm sl).fz (Row.fz r)
  have g2 : Gw wa H (upd H1 ls (.lst vs)) := Gw.of sl
  generalize upd H1 ls (.lst vs) = H2 at rs2 el2 hw2 rr2 g2 sl
  generalize hN : (fun b : Addr => Fr N0 H b ∧ b ≠ ls) = N1 at rs2 rr2
  have hN1 : ∀ b, N1 b ↔ Fr N0 H b ∧ b ≠ ls := fun b => by rw [← hN]
  have oN1 : Off wa N1 := fun b h => oNe b ((hN1 b).mp h).1
  generalize hC1 : (fun (m : Nat) (xs : List V) (H' : Hp) => Gw wa H H' ∧ Wl H' wa m ∧ Stays N1 H2 H' ∧ H' ls = some (.lst xs)) = C1
  have hC : ∀ m xs H', C1 m xs H' ↔ Gw wa H H' ∧ Wl H' wa m ∧ Stays N1 H2 H' ∧ H' ls = some (.lst xs) := fun m xs H' => by rw [← hC1]
  have stT : ∀ {A B D : Hp}, Stays N1 A B → Stays N1 B D → Stays N1 A D := fun a b => ⟨fun x o h e => b.at_ x o h (a.at_ x o h e), fun x ys e => b.tup x ys (a.tup x ys e)⟩
  have Y1 : ∀ m xs, Cy N1 (C1 m xs) := fun m xs => ⟨fun A B s c => by
    obtain ⟨c1, c2, c3, c4⟩ := (hC _ _ _).mp c
    exact (hC _ _ _).mpr ⟨c1.trans (Gw.of s), c2.sm s, stT c3 (Stays.of s), s _ _ c4⟩, fun A p c np => by
    obtain ⟨c1, c2, c3, c4⟩ := (hC _ _ _).mp c
    exact (hN1 p).mpr ⟨.inr (Gw.free c2 c1 np), fun y => by rw [y, c4] at np; cases np⟩⟩
  have Y1w : ∀ m xs, Cy (Fr N0 H) (C1 m xs) := fun m xs => ⟨(Y1 m xs).sm, fun A p c np => ((hN1 p).mp ((Y1 m xs).new A p c np)).1⟩
  have hls : ∀ m xs H', C1 m xs H' → H' ls = some (.lst xs) := fun m xs H' c => ((hC _ _ _).mp c).2.2.2
  have nN : ¬ N1 ls := fun z => ((hN1 ls).mp z).2 rfl
  have yrow1 : ∀ {m : Nat} {xs : List V} {σ : L2.St}, σ[3]? = some (some vr) → Yd (Fr N0 H) (C1 m xs) σ (tVar 3) r.d := fun h => .var h fun H' c => (rr2.mono (fun _ z => z) ((hC _ _ _).mp c).2.2.1).fz (Row.fz r)
  have draw1 : ∀ {m : Nat} {xs : List V} {A B : Hp}, C1 m xs A → Gw wa A B → Wl B wa (m + 1) → C1 (m + 1) xs B := fun c g hw' => by
    obtain ⟨c1, c2, c3, c4⟩ := (hC _ _ _).mp c
    exact (hC _ _ _).mpr ⟨c1.trans g, hw', stT c3 (g.stN oN1 c2), g ls _ nlw c4⟩
  have stay1 : ∀ {m : Nat} {xs : List V} {A B : Hp}, C1 m xs A → Gw wa A B → Stays N1 A B := fun c g => g.stN oN1 ((hC _ _ _).mp c).2.1
  have fin : ∀ {m : Nat} {xs : List V} {A B : Hp} {e : PyData} {u : V}, C1 m xs A → m ≤ n + 5 → Gw wa A B → Wl B wa (m + 1) → tame false e 3 = true → Dr (Fr N0 H) B u e → Q u B := fun c hm g hw' te ru => by
    obtain ⟨c1, c2, c3, c4⟩ := (hC _ _ _).mp c
    exact q _ _ _ te (c1.trans g) (hw'.mono (by omega)) ru
  have cC2 : C1 n vs H2 := (hC _ _ _).mpr ⟨g2, hw2, Stays.of Sm.rfl', el2⟩
  -- odd
  have yodd := Yd.lst (Y1 n vs) (ds := odds R.length k) (by simp [odds]) (σ := [some (.ref wa), some v, some (.int (k : Nat)), some vr, some (.int (R.length : Nat)), some (.ref ls), none, none, none])
    (.cons (Y1 n vs) (.vint (i := 4) rfl) (.cons (Y1 n vs) (.vint (i := 2) rfl) (.cons (Y1 n vs) (.addv (i := 2) rfl) (.cons (Y1 n vs) (.neg 1) (.cons (Y1 n vs) (.bl true) (.cons (Y1 n vs) .non (.cons (Y1 n vs) (.str "0")
      (.cons (Y1 n vs) (.tup (by decide) (.one (Y1 n vs) (.int 0))) (.cons (Y1 n vs) (.int 0) (.one (Y1 n vs) (.int 1)))))))))))
  refine seq_asg (pick_y rfl (Y1 n vs) yodd cC2 (fun H' c => ((hC _ _ _).mp c).2.1) oN1 (by omega) (by simp [odds]) (by show 10 ≤ lim; decide) fun od hod uo H3 H4 s3 c3 g4 hw4 ro => ?_)
  obtain ⟨fo, to⟩ := odds_ok (by omega) (by omega) od hod
  have cC4 : C1 (n + 1) vs H4 := draw1 c3 g4 hw4
  have rs4 : ∀ {m : Nat} {xs : List V} {A : Hp}, C1 m xs A → DrA N1 A vs (some12 r r0) := fun c => rs2.mono (fun _ z => z) ((hC _ _ _).mp c).2.2.1
  have Y2 : ∀ m xs (P : Hp → Prop), (∀ A B, Sm A B → P A → P B) → Cy N1 (fun A => C1 m xs A ∧ P A) := fun m xs P hP => ⟨fun A B s c => ⟨(Y1 m xs).sm A B s c.1, hP A B s c.2⟩, fun A p c np => (Y1 m xs).new A p c.1 np⟩
  have cO : ∀ A B, Sm A B → Dr N1 A uo od → Dr N1 B uo od := fun A B s r => r.sm s
  have YO := fun m xs => Y2 m xs _ cO
  have YOw : ∀ m xs, Cy (Fr N0 H) (fun A => C1 m xs A ∧ Dr N1 A uo od) := fun m xs => ⟨(YO m xs).sm, fun A p c np => (Y1w m xs).new A p c.1 np⟩
  have yodO : ∀ {m : Nat} {xs : List V} {σ : L2.St}, σ[6]? = some (some uo) → Yd N1 (fun A => C1 m xs A ∧ Dr N1 A uo od) σ (tVar 6) od := fun h => .var h fun A c => c.2
  have yrowO : ∀ {m : Nat} {xs : List V} {σ : L2.St}, σ[3]? = some (some vr) → Yd (Fr N0 H) (fun A => C1 m xs A ∧ Dr N1 A uo od) σ (tVar 3) r.d := fun h => .var h fun A c => (rr2.mono (fun _ z => z) ((hC _ _ _).mp c.1).2.2.1).fz (Row.fz r)
  have tg : ∀ e, tame false e 1 = true → tame false e 2 = true := fun e h => tame_mono (by decide) h
  -- row[0] == 'given'
  refine ⟨fun σ' A => σ' = [some (.ref wa), some v, some (.int (k : Nat)), some vr, some (.int (R.length : Nat)), some (.ref ls), some uo, none, none] ∧ (C1 (n + 1) vs A ∧ Dr N1 A uo od) ∧ ¬ decide (V.str r.word = V.str "given") = true, ifS_word (yrowO rfl) (C := fun A => C1 (n + 1) vs A ∧ Dr N1 A uo od) ⟨cC4, ro⟩ fun H5 s5 => ?_, ?_⟩
  · have cC5 := (YO (n + 1) vs).sm _ _ s5 ⟨cC4, ro⟩
    refine ite2 (fun _ => ?_) (fun hg => ⟨rfl, cC5, hg⟩)
    have Y := YO (n + 1) vs
    have ymore := Yd.lst Y (σ := [some (.ref wa), some v, some (.int (k : Nat)), some vr, some (.int (R.length : Nat)), some (.ref ls), some uo, none, none]) (ds := [.tuple [.str "given", od], .tuple [.str "given", .tuple [.int 1]], .tuple [.str "given"], .tuple [.str "made", .str "f", od]]) (by simp)
      (.cons Y (.tup (by simp) (.cons Y (.str "given") (.one Y (yodO rfl)))) (.cons Y (.tup (by simp) (.cons Y (.str "given") (.one Y (.tup (by simp) (.one Y (.int 1))))))
        (.cons Y (.tup (by simp) (.one Y (.str "given"))) (.one Y (.tup (by simp) (.cons Y (.str "made") (.cons Y (.str "f") (.one Y (yodO rfl)))))))))
    refine ret_y (pick_y rfl Y (Yd.catOwn Y (i := 5) rfl (fun A c => ⟨hls _ _ _ c.1, rs4 c.1⟩) ymore (by simp [some12])) cC5 (fun A c => ((hC _ _ _).mp c.1).2.1) oN1 (by omega) (by simp [some12]) (by simp [some12]; omega) fun e he u H6 H7 s6 c6 g7 hw7 ru => ?_)
    refine fin c6.1 (by omega) g7 hw7 ?_ (ru.wide fun b z => ((hN1 b).mp z).1)
    rcases List.mem_append.mp he with he | he
    · exact tameA_mem ok12 he
    · simp only [List.mem_cons, List.not_mem_nil, or_false] at he
      rcases he with rfl | rfl | rfl | rfl
      · exact tame_tup (tame_two (str_tame (by decide +kernel)) (tg _ to)) (by simp)
      · exact tame_tup (tame_two (str_tame (by decide +kernel)) (tame_tup (n := 1) (tame_one (int_tame (by decide))) (by simp))) (by simp)
      · exact tame_tup (tame_one (str_tame (by decide +kernel))) (by simp)
      · refine tame_tup (tameA_of fun d hd => ?_) (by simp)
        simp only [List.mem_cons, List.not_mem_nil, or_false] at hd
        rcases hd with rfl | rfl | rfl
        · exact str_tame (by decide +kernel)
        · exact str_tame (by decide +kernel)
        · exact tg _ to
  rintro σ' A ⟨rfl, cA, hng⟩
  have updC : ∀ {m : Nat} {xs zs : List V} {A : Hp}, C1 m xs A → Stays N1 A (upd A ls (.lst (xs ++ zs))) → C1 m (xs ++ zs) (upd A ls (.lst (xs ++ zs))) := fun c st => by
    obtain ⟨c1, c2, c3, c4⟩ := (hC _ _ _).mp c
    refine (hC _ _ _).mpr ⟨fun b o hb e => ?_, ?_, stT c3 st, upd_same⟩
    · rw [upd_ne (ne_of_none e nls0)]
      exact c1 b o hb e
    · obtain ⟨a', b', c', e', h'⟩ := c2
      exact ⟨a', b', c', by rw [upd_ne (Ne.symm nlw)]; exact e', h'⟩
  -- the last choice: all that stands in some
  have last : ∀ {m : Nat} {xs : List V} {ds : List PyData} {A : Hp} {σ : L2.St}, σ[0]? = some (some (.ref wa)) → σ[5]? = some (some (.ref ls)) → C1 m xs A → DrA N1 A xs ds → m ≤ n + 5 → ds ≠ [] → ds.length ≤ 100 → tameA false ds 3 = true →
      tCall spPick [] E0 (tCons (tVar 0) (tCons (tVar 5) tNil)) σ A Q := fun {m xs ds A σ} h0 h5 c rx hm hne hl ht => by
    have Y : Cy (Fr N0 H) (fun A => C1 m xs A ∧ DrA N1 A xs ds) := ⟨fun A B s c => ⟨(Y1 m xs).sm A B s c.1, c.2.sm s⟩, fun A p c np => (Y1w m xs).new A p c.1 np⟩
    refine pick_y h0 Y (.var h5 fun B cB => .lst (.inr nls0) (hls _ _ _ cB.1) (cB.2.wide fun b z => ((hN1 b).mp z).1)) ⟨c, rx⟩ (fun A c => ((hC _ _ _).mp c.1).2.1) oNe (by omega) hne (by omega) fun e he u H6 H7 s6 c6 g7 hw7 ru => ?_
    exact fin c6.1 hm g7 hw7 (tameA_mem ht he) ru
  -- row[0] == 'either'
  refine ⟨fun σ' A => σ' = [some (.ref wa), some v, some (.int (k : Nat)), some vr, some (.int (R.length : Nat)), some (.ref ls), some uo, none, none] ∧ (C1 (n + 1) vs A ∧ Dr N1 A uo od) ∧ ¬ decide (V.str r.word = V.str "either") = true, ifS_word (yrowO rfl) (C := fun A => C1 (n + 1) vs A ∧ Dr N1 A uo od) cA fun H5 s5 => ?_, ?_⟩
  · have cC5 := (YO (n + 1) vs).sm _ _ s5 cA
    refine ite2 (fun hei => ?_) (fun hei => ⟨rfl, cC5, hei⟩)
    rw [Row.eitherW] at hei
    obtain ⟨ea, ei, ej, rfl⟩ : ∃ a i j, r = .either a i j := by
      cases r with
      | either a i j => exact ⟨a, i, j, rfl⟩
      | _ => cases hei
    -- place
    refine ⟨_, rfl, wa, 3, n + 1, rfl, by decide, by decide, ((hC _ _ _).mp cC5.1).2.1, by omega, fun j A2 hj gj hwj => ⟨_, _, rfl, rfl, ?_⟩⟩
    have cA2 : C1 (n + 1 + 1) vs A2 ∧ Dr N1 A2 uo od := ⟨draw1 cC5.1 gj hwj, cC5.2.mono (fun _ z => z) (stay1 cC5.1 gj)⟩
    dsimp only [gName]
    generalize hp : (1 : Int) + (j : Nat) = pz
    obtain ⟨p, hp'⟩ : ∃ p : Nat, pz = (p : Int) := ⟨1 + j, by omega⟩
    subst hp'
    have hp3 : p ≤ 3 := by omega
    have Y := YO (n + 1 + 1) vs
    have Yw := YOw (n + 1 + 1) vs
    have fzT : ∀ {ds : List PyData}, (∀ d ∈ ds, d ∈ its (Row.either ea ei ej).d) → fz (.tuple ds) = true := fun {ds} h => by
      simp only [WR.fz]
      have : ∀ {ds : List PyData}, (∀ d ∈ ds, fz d = true) → fzA ds = true := by
        intro ds
        induction ds with
        | nil => intro _; rfl
        | cons d ds ih =>
          intro h
          simp only [fzA, h d (List.mem_cons_self ..), Bool.true_and]
          exact ih fun e he => h e (List.mem_cons_of_mem _ he)
      refine this fun d hd => ?_
      have hd := h d hd
      simp only [Row.d, its, List.mem_cons, List.not_mem_nil, or_false] at hd
      rcases hd with rfl | rfl | rfl | rfl <;> rfl
    have L4 : its (Row.either ea ei ej).d = [.str "either", .int (ea : Nat), .int (ei : Nat), .int (ej : Nat)] := rfl
    have s1' := (ysl Yw (yrowO (σ := [some (.ref wa), some v, some (.int (k : Nat)), some vr, some (.int (R.length : Nat)), some (.ref ls), some uo, some (.int (p : Nat)), none]) rfl) .no (.var (j := 7) rfl))
    rw [c1 p] at s1'
    have s2' := (ysl Yw (yrowO (σ := [some (.ref wa), some v, some (.int (k : Nat)), some vr, some (.int (R.length : Nat)), some (.ref ls), some uo, some (.int (p : Nat)), none]) rfl) (.add1 (j := 7) (i := (p : Nat)) rfl) .no)
    rw [show ((p : Int) + 1) = ((p + 1 : Nat) : Int) by omega, c2 (p + 1)] at s2'
    have yt := ytk Yw (yrowO (σ := [some (.ref wa), some v, some (.int (k : Nat)), some vr, some (.int (R.length : Nat)), some (.ref ls), some uo, some (.int (p : Nat)), none]) rfl) 2 2 rfl
    have ymore := Ya.cons Y (.catT (K := K) Y (.catT (K := K) Y (Yd.toFz s1' (fzT fun d hd => List.mem_of_mem_take hd)) (.tup (by simp) (.one Y (yodO rfl))) (by simp; omega)) (Yd.toFz s2' (fzT fun d hd => List.mem_of_mem_drop hd)) (by simp; omega))
      (.cons Y (.catT (K := K) Y (Yd.toFz yt (fzT fun d hd => List.mem_of_mem_take hd)) (.tup (by simp) (.cons Y (Yd.toFz (.ix 3 (yrowO rfl) rfl rfl rfl) rfl) (.one Y (Yd.toFz (.ix 2 (yrowO rfl) rfl rfl rfl) rfl)))) (by simp; omega))
      (.one Y (.catT (K := K) Y (Yd.toFz yt (fzT fun d hd => List.mem_of_mem_take hd)) (.tup (by simp) (.cons Y (Yd.toFz (.ix 2 (yrowO rfl) rfl rfl rfl) rfl) (.one Y (Yd.toFz (.ix 2 (yrowO rfl) rfl rfl rfl) rfl)))) (by simp; omega))))
    show tSeq _ _ _ [some (.ref wa), some v, some (.int (k : Nat)), some vr, some (.int (R.length : Nat)), some (.ref ls), some uo, some (.int (p : Nat)), none] A2
    refine ext_y (K := K) rfl Y (fun A c => hls _ _ _ c.1) nN ymore cA2 (fun A c => rs4 c.1) (by simp; omega) fun zs A3 c3' s3' lz r3 st3 => ?_
    refine ret_y (last rfl rfl (updC c3'.1 st3) r3 (by omega) (by simp [some12]) (by simp [some12]) (tameA_app ok12 (tameA_of fun e he => ?_)))
    have t1' := tameA_mono (m := 2) (by decide) t1
    simp only [List.mem_cons, List.not_mem_nil, or_false] at he
    have i2 : ∀ z : Nat, z ≤ 100 → tame false (.int (z : Int)) 2 = true := fun z hz => int_tame (by omega)
    obtain ⟨x1, x2, x3⟩ := rsm
    rcases he with rfl | rfl | rfl
    · exact tame_tup (tameA_app (tameA_app (tameA_take t1') (tame_one (tg _ to))) (tameA_drop t1')) (by simp; omega)
    · exact tame_tup (tameA_app (tameA_take t1') (tame_two (i2 _ x3) (i2 _ x2))) (by simp; omega)
    · exact tame_tup (tameA_app (tameA_take t1') (tame_two (i2 _ x2) (i2 _ x2))) (by simp; omega)
  rintro σ' A4 ⟨rfl, cA4, hne⟩
  obtain ⟨nm, ks, eL, hks3, hks⟩ : ∃ (nm : Str) (ks : List Nat), its r.d = [.str r.word, .str nm, .tuple (nums ks)] ∧ ks.length ≤ 3 ∧ ∀ k ∈ ks, k ≤ 100 := by
    cases r with
    | made n ks => exact ⟨n, ks, rfl, rsm.1, rsm.2⟩
    | asked n ks => exact ⟨n, ks, rfl, rsm.1, rsm.2⟩
    | either a i j => exact absurd (decide_eq_true rfl) hne
    | given k => exact absurd (decide_eq_true rfl) hng
  -- name
  have Y := YO (n + 1) vs
  have ynames := Yd.lst Y (ds := names12) (by simp [names12]) (σ := [some (.ref wa), some v, some (.int (k : Nat)), some vr, some (.int (R.length : Nat)), some (.ref ls), some uo, none, none])
    (.cons Y (.str "") (.cons Y (.str "F") (.cons Y (.str "f_") (.cons Y (.str "nineletts") (.cons Y (.str "1f") (.cons Y .non (.cons Y (.int 5) (.cons Y (.str "f g") (.cons Y (.str "f\n")
      (.cons Y (.lst Y (by simp) (.one Y (.str "f"))) (.cons Y (.str "f") (.one Y (.str "g")))))))))))))
  refine seq_asg (pick_y rfl Y ynames cA4 (fun A c => ((hC _ _ _).mp c.1).2.1) oN1 (by omega) (by simp [names12]) (by show 12 ≤ lim; decide) fun nd hnd un H6 H7 s6 c6 g7 hw7 rn => ?_)
  have tn := names12_ok nd hnd
  have cB : C1 (n + 1 + 1) vs H7 ∧ Dr N1 H7 uo od := ⟨draw1 c6.1 g7 hw7, c6.2.mono (fun _ z => z) (stay1 c6.1 g7)⟩
  have cN : ∀ A B, Sm A B → (Dr N1 A uo od ∧ Dr N1 A un nd) → (Dr N1 B uo od ∧ Dr N1 B un nd) := fun A B s r => ⟨r.1.sm s, r.2.sm s⟩
  have YN := fun m xs => Y2 m xs _ cN
  have YNw : ∀ m xs, Cy (Fr N0 H) (fun A => C1 m xs A ∧ Dr N1 A uo od ∧ Dr N1 A un nd) := fun m xs => ⟨(YN m xs).sm, fun A p c np => (Y1w m xs).new A p c.1 np⟩
  have Z := YN (n + 1 + 1) vs
  have Zw := YNw (n + 1 + 1) vs
  show tSeq _ _ _ ([some (.ref wa), some v, some (.int (k : Nat)), some vr, some (.int (R.length : Nat)), some (.ref ls), some uo, none, some un] : L2.St) H7
  generalize hσ : ([some (.ref wa), some v, some (.int (k : Nat)), some vr, some (.int (R.length : Nat)), some (.ref ls), some uo, none, some un] : L2.St) = σ8
  have q3 : σ8[3]? = some (some vr) := by rw [← hσ]; rfl
  have q5 : σ8[5]? = some (some (.ref ls)) := by rw [← hσ]; rfl
  have q6 : σ8[6]? = some (some uo) := by rw [← hσ]; rfl
  have q8 : σ8[8]? = some (some un) := by rw [← hσ]; rfl
  have q0 : σ8[0]? = some (some (.ref wa)) := by rw [← hσ]; rfl
  have yr : ∀ {m : Nat} {xs : List V}, Yd (Fr N0 H) (fun A => C1 m xs A ∧ Dr N1 A uo od ∧ Dr N1 A un nd) σ8 (tVar 3) r.d := .var q3 fun A c => (rr2.mono (fun _ z => z) ((hC _ _ _).mp c.1).2.2.1).fz (Row.fz r)
  have g0 : (its r.d)[0]? = some (.str r.word) := by rw [eL]; rfl
  have g1 : (its r.d)[1]? = some (.str nm) := by rw [eL]; rfl
  have g2' : (its r.d)[2]? = some (.tuple (nums ks)) := by rw [eL]; rfl
  have y0 : ∀ {m : Nat} {xs : List V}, Yd N1 (fun A => C1 m xs A ∧ Dr N1 A uo od ∧ Dr N1 A un nd) σ8 (tOp (rIxN (Fr N0 H)) (tVar 3) (tC (.int 0))) (.str r.word) := (Yd.ix 0 yr (Row.seqD r) rfl g0).toFz rfl
  have y1 : ∀ {m : Nat} {xs : List V}, Yd N1 (fun A => C1 m xs A ∧ Dr N1 A uo od ∧ Dr N1 A un nd) σ8 (tOp (rIxN (Fr N0 H)) (tVar 3) (tC (.int 1))) (.str nm) := (Yd.ix 1 yr (Row.seqD r) rfl g1).toFz rfl
  have y2w : ∀ {m : Nat} {xs : List V}, Yd (Fr N0 H) (fun A => C1 m xs A ∧ Dr N1 A uo od ∧ Dr N1 A un nd) σ8 (tOp (rIxN (Fr N0 H)) (tVar 3) (tC (.int 2))) (.tuple (nums ks)) := Yd.ix 2 yr (Row.seqD r) rfl g2'
  have fks : fz (.tuple (nums ks)) = true := by simp only [WR.fz]; exact fz_nums ks
  have y2 : ∀ {m : Nat} {xs : List V}, Yd N1 (fun A => C1 m xs A ∧ Dr N1 A uo od ∧ Dr N1 A un nd) σ8 (tOp (rIxN (Fr N0 H)) (tVar 3) (tC (.int 2))) (.tuple (nums ks)) := y2w.toFz fks
  have yo : ∀ {m : Nat} {xs : List V}, Yd N1 (fun A => C1 m xs A ∧ Dr N1 A uo od ∧ Dr N1 A un nd) σ8 (tVar 6) od := .var q6 fun A c => c.2.1
  have yn : ∀ {m : Nat} {xs : List V}, Yd N1 (fun A => C1 m xs A ∧ Dr N1 A uo od ∧ Dr N1 A un nd) σ8 (tVar 8) nd := .var q8 fun A c => c.2.2
  have lks : (nums ks).length = ks.length := by simp [nums]
  have ysl2 := Yd.sl Zw (y2w (m := n + 1 + 1) (xs := vs)) rfl (.int 1) .no
  rw [show likeD (.tuple (nums ks)) (cutA (its (.tuple (nums ks))) (some 1) none) = .tuple ((nums ks).drop 1) from congrArg PyData.tuple (cutA_from (nums ks) 1)] at ysl2
  have fdr : fz (.tuple ((nums ks).drop 1)) = true := by
    rw [show (nums ks).drop 1 = nums (ks.drop 1) by simp [nums, List.map_drop]]
    simp only [WR.fz]
    exact fz_nums _
  have ymore := Ya.cons Z (.tup (by simp) (.cons Z y0 (.cons Z yn (.one Z y2)))) (.cons Z (.tup (by simp) (.cons Z y0 (.cons Z y1 (.one Z (.catL Z (.listFz Z y2w rfl (fz_nums ks)) (.lst Z (by simp) (.one Z yo)) (by simp [its, lks]; omega))))))
    (.one Z (.tup (by simp) (.cons Z y0 (.cons Z y1 (.one Z (ysl2.toFz fdr)))))))
  refine ext_y (K := K) q5 Z (fun A c => hls _ _ _ c.1) nN ymore ⟨cB.1, cB.2, rn⟩ (fun A c => rs4 c.1) (by simp; omega) fun zs A5 c5 s5 lz r5 st5 => ?_
  have lz3 : zs.length = 3 := lz
  have cD := updC c5.1 st5
  have oD : Dr N1 (upd A5 ls (.lst (vs ++ zs))) uo od ∧ Dr N1 (upd A5 ls (.lst (vs ++ zs))) un nd := ⟨c5.2.1.mono (fun _ z => z) st5, c5.2.2.mono (fun _ z => z) st5⟩
  generalize upd A5 ls (.lst (vs ++ zs)) = A6 at cD oD r5 ⊢
  obtain ⟨ds5, hds⟩ : ∃ ds5, some12 r r0 ++ [.tuple [.str r.word, nd, .tuple (nums ks)], .tuple [.str r.word, .str nm, .list (its (.tuple (nums ks)) ++ [od])], .tuple [.str r.word, .str nm, .tuple ((nums ks).drop 1)]] = ds5 := ⟨_, rfl⟩
  rw [hds] at r5
  have hds5 : ds5.length = 15 := by rw [← hds]; rfl
  have ht5 : tameA false ds5 3 = true := by
    rw [← hds]
    refine tameA_app ok12 (tameA_of fun e he => ?_)
    simp only [List.mem_cons, List.not_mem_nil, or_false] at he
    have wl : okStr r.word = true := by
      cases r
      · exact (by decide +kernel : okStr "made" = true)
      · exact (by decide +kernel : okStr "asked" = true)
      · exact (by decide +kernel : okStr "either" = true)
      · exact (by decide +kernel : okStr "given" = true)
    have nl : tame false (.str nm) 2 = true := tame_mono (by decide) (tameA_mem t1 (by rw [eL]; simp))
    have three : ∀ {x y z : PyData}, tame false x 2 = true → tame false y 2 = true → tame false z 2 = true → tame false (.tuple [x, y, z]) 3 = true := fun a b c => tame_tup (n := 2) (by simp only [tameA, Bool.and_eq_true]; exact ⟨a, b, c, trivial⟩) (by simp)
    have wt : tame false (.str r.word) 2 = true := str_tame wl
    have kt : tameA false (nums ks) 1 = true := nums_tame hks
    rcases he with rfl | rfl | rfl
    · exact three wt (tame_mono (by decide) tn) (tame_tup kt (by rw [lks]; omega))
    · exact three wt nl (tame_lst (tameA_app kt (tame_one to)) (by simp [its, lks]; omega))
    · exact three wt nl (tame_tup (tameA_drop kt) (by simp [lks]; omega))
  have cDN : (fun A => C1 (n + 1 + 1) (vs ++ zs) A ∧ Dr N1 A uo od ∧ Dr N1 A un nd) A6 := ⟨cD, oD⟩
  -- the second lot
  have cM : ∀ A B, Sm A B → ((Dr N1 A uo od ∧ Dr N1 A un nd) ∧ DrA N1 A (vs ++ zs) ds5) → ((Dr N1 B uo od ∧ Dr N1 B un nd) ∧ DrA N1 B (vs ++ zs) ds5) := fun A B s r => ⟨cN A B s r.1, r.2.sm s⟩
  have X := Y2 (n + 1 + 1) (vs ++ zs) _ cM
  have Xw : Cy (Fr N0 H) (fun A => C1 (n + 1 + 1) (vs ++ zs) A ∧ (Dr N1 A uo od ∧ Dr N1 A un nd) ∧ DrA N1 A (vs ++ zs) ds5) := ⟨X.sm, fun A p c np => (Y1w _ _).new A p c.1 np⟩
  have weak : ∀ {N : Addr → Prop} {te : TE} {d : PyData}, Yd N (fun A => C1 (n + 1 + 1) (vs ++ zs) A ∧ Dr N1 A uo od ∧ Dr N1 A un nd) σ8 te d → Yd N (fun A => C1 (n + 1 + 1) (vs ++ zs) A ∧ (Dr N1 A uo od ∧ Dr N1 A un nd) ∧ DrA N1 A (vs ++ zs) ds5) σ8 te d := fun a H Q c => a H Q ⟨c.1, c.2.1⟩
  have fdr1 : fz (.tuple ((its r.d).drop 1)) = true := by
    rw [eL]
    simp only [List.drop_succ_cons, List.drop_zero, WR.fz, fzA, fz_nums, Bool.and_self]
  have ymore2 := Ya.cons X (.catT (K := K) X (.tup (by simp) (.one X (Yd.ifE (d := .str (if decide (V.str r.word = V.str "made") = true then "asked" else "made")) X (decide (V.str r.word = V.str "made")) (Yd.wordIs (weak yr)) (fun h => by rw [if_pos h]; exact .str _) (fun h => by rw [if_neg (by rw [h]; exact Bool.noConfusion)]; exact .str _))))
      ((ydr Xw (weak yr) 1 1 rfl).toFz fdr1) (by simp; omega))
    (.cons X (.tup (by simp) (.cons X (weak y0) (.cons X (weak y1) (.one X (.str "ab"))))) (.one X (.tup (by simp) (.cons X (weak y0) (.cons X (weak y1) (.one X (weak yo)))))))
  refine ext_y (K := K) q5 X (fun A c => hls _ _ _ c.1) nN ymore2 ⟨cD, oD, r5⟩ (fun A c => c.2.2) (by simp; omega) fun zs2 A7 c7 s7 lz2 r7 st7 => ?_
  refine ret_y (last q0 q5 (updC c7.1 st7) r7 (by omega) (by simp) (by simp; omega) (tameA_app ht5 (tameA_of fun e he => ?_)))
  simp only [List.mem_cons, List.not_mem_nil, or_false] at he
  have wl : okStr r.word = true := by
    cases r
    · exact (by decide +kernel : okStr "made" = true)
    · exact (by decide +kernel : okStr "asked" = true)
    · exact (by decide +kernel : okStr "either" = true)
    · exact (by decide +kernel : okStr "given" = true)
  have nl : tame false (.str nm) 2 = true := tame_mono (by decide) (tameA_mem t1 (by rw [eL]; simp))
  have three : ∀ {x y z : PyData}, tame false x 2 = true → tame false y 2 = true → tame false z 2 = true → tame false (.tuple [x, y, z]) 3 = true := fun a b c => tame_tup (n := 2) (by simp only [tameA, Bool.and_eq_true]; exact ⟨a, b, c, trivial⟩) (by simp)
  have wt : tame false (.str r.word) 2 = true := str_tame wl
  rcases he with rfl | rfl | rfl
  · refine tame_tup (tameA_app (tame_one ?_) (tameA_drop (tameA_mono (by decide) t1))) (by simp; omega)
    refine str_tame ?_
    by_cases z : decide (V.str r.word = V.str "made") = true
    · rw [if_pos z]
      exact (by decide +kernel : okStr "asked" = true)
    · rw [if_neg z]
      exact (by decide +kernel : okStr "made" = true)
  · exact three wt nl (str_tame (by decide +kernel))
  · exact three wt nl (tg _ to)
end
end K8

namespace K8
open PySem PySem.Spec PyProof.Rows L2 WR
abbrev spGBent : Sp := fun vs H Q _ => ∃ (w : Addr) (n : Nat) (v : V) (R : List Row) (N : Addr → Prop), vs = [.ref w, v] ∧ Off w N ∧ Wl H w n ∧ n + 6000 < top0 ∧ Dr N H v (rowsD R) ∧ R.length ≤ 30 ∧ (∀ r ∈ R, r.ok ∧ r.small) ∧
  ∀ (d : PyData) u H', tame true d 4 = true → Gw w H H' → Wl H' w (n + 20) → Dr (Fr N H) H' u d → Q u H'
theorem Row.tame2 {r : Row} (h : r.ok) (h' : r.small) : tame true r.d 2 = true := by
  obtain ⟨t1, t2, t3, t4, t5⟩ := Row.tm h h'
  rw [t4]
  exact tame_tup t1 (by omega)
theorem rows_tame {R : List Row} (h : ∀ r ∈ R, r.ok ∧ r.small) : tameA true (R.map Row.d) 2 = true := tameA_of fun d hd => by
  obtain ⟨r, hr, rfl⟩ := List.mem_map.mp hd
  exact Row.tame2 (h r hr).1 (h r hr).2
def trsA : List (TE × TE) := [(tC (.str "a"), tC (.int 1))]
theorem Yd.dictA {N : Addr → Prop} {C : Hp → Prop} {σ : L2.St} (Y : Cy N C) : Yd N C σ (tDisp [(tC (.str "a"), tC (.int 1))]) (.dict [(.str "a", .int 1)]) := fun H Q c q p np => by
  refine ⟨upd_same, [(Sum.inr "a", .int 1)], rfl, by decide, q _ _ (fun b o e => ?_) (.dct (Y.new _ _ c np) upd_same (.cons (.int 1) .nil))⟩
  rw [upd_ne (ne_of_none e np), upd_ne (ne_of_none e np)]
  exact e
def bents (R : List Row) : List PyData := [.none, .int 5, .str "ab", .dict [], .bool true, rowsD R, .list [.none], .list [.list []], .dict [(.str "a", .int 1)], .list [rowsD R]]
theorem bents_ok {R : List Row} (hR : R.length ≤ 40) (h : ∀ r ∈ R, r.ok ∧ r.small) : tameA true (bents R) 4 = true := by
  have hr : tame true (rowsD R) 3 = true := tame_lst3 (rows_tame h) (by simp; omega)
  refine tameA_of fun e he => ?_
  simp only [bents, List.mem_cons, List.not_mem_nil, or_false] at he
  rcases he with rfl | rfl | rfl | rfl | rfl | rfl | rfl | rfl | rfl | rfl
  · rfl
  · exact int_tame (by decide)
  · exact str_tame (by decide +kernel)
  · rfl
  · rfl
  · exact tame_mono (by decide) hr
  · exact tame_lst (n := 3) (tame_one rfl) (by simp)
  · exact tame_lst (n := 3) (tame_one (tame_lst (n := 2) rfl (by simp))) (by simp)
  · simp only [tame, okOne, Bool.and_eq_true, decide_eq_true_eq, Bool.or_eq_true, Bool.true_and]
    exact ⟨by decide, .inr ⟨by decide, by decide⟩⟩
  · exact tame_lst (tame_one hr) (by simp)
section
variable {P : Program} {w : World} {K : PySem.W.Frag} {mg : Str → Option Value} {base : Heap}
theorem sc__law_g_bent : FnScope ["well", "rows", "way", "at", "other", "found"] ["well", "rows"] (defScope s_law_g_bent) := ⟨rfl, rfl, rfl, by decide +kernel, rfl, by decide +kernel, by decide +kernel⟩
theorem ok__law_g_bent (B : Bt mg) (F : Fn K mg d_law_g_bent) (D1 : Df P w K mg base CX0 1 "_law_draw" ["well", "many"] spDraw) (D2 : Df P w K mg base CX0 2 "_law_pick" ["well", "some"] spPick) (D3 : Df P w K mg base CX0 3 "_law_g_bent_row" ["well", "rows", "at"] spGBentRow) :
    Df P w K mg base CX0 4 "_law_g_bent" ["well", "rows"] spGBent := by
  obtain ⟨f, fd, hm, F⟩ := F
  refine ⟨f, fd, hm, F.kp, F.bindsN fun _ _ _ _ _ _ us hl => match us, hl with | [_, _], _ => rfl, ?_⟩
  refine F.ok sc__law_g_bent (fun vs H Q E h => by obtain ⟨w, n, v, R, N, rfl, _⟩ := h; rfl) (fun cdv A outer s H vs Q E hr h => ?_)
  obtain ⟨wa, n, v, R, N0, rfl, oN0, hw, hn, rd0, hR, hRok, q⟩ := h
  have rd : Dr (Fr N0 H) H v (rowsD R) := rd0.wide fun b z => .inl z
  have hr1 := hr.mono (show 1 ≤ 3 by decide)
  have hr2 := hr.mono (show 2 ≤ 3 by decide)
  have hu := hr.units
  have oNe : Off wa (Fr N0 H) := fun b h => h.elim (oN0 b) fun z => hw.ne z
  refine ⟨_, PSs.nox (pss_cons (ps_set (i := 2) sc__law_g_bent.nd rfl (by first | exact Or.inl rfl | exact Or.inr rfl) (pe_df D1 hr1 pass0 (pa_cons (pv 0) (pa_cons pe_int pa_nil))))
      (C8.pss_cut (ps_if (PW.pt (pw_or (pt_cmpR op_eq (pv 2) pe_int (nomark _)) (pw_or1 (pt_cmpR (op_eqDr hu) (pv 1) (pe_lst pa_nil) (nomark _))))) (pss_one (ps_ret (pe_df D2 hr2 pass0 (pa_cons (pv 0) (pa_cons (pe_lst (pa_cons pe_non (pa_cons pe_int (pa_cons pe_str (pa_cons pe_dnewK (pa_cons pe_bl (pa_cons (pv 1) (pa_cons (pe_lst (pa_cons pe_non pa_nil)) (pa_cons (pe_lst (pa_cons (pe_lst pa_nil) pa_nil)) (pa_cons (pe_disp (pps_cons pe_str pe_int pps_nil) rfl rfl (by simp) (by decide)) (pa_cons (pe_lst (pa_cons (pv 1) pa_nil)) pa_nil))))))))))) pa_nil))))) pss_nil)
      (pss_cons (ps_par (i := 3) (j := 4) (by rfl) sc__law_g_bent.nd rfl rfl (by decide) rfl rfl (pa_cons (pe_df D1 hr1 pass0 (pa_cons (pv 0) (pa_cons (pe_callB call_lenS (by rfl) B.len (by decide +kernel) (pa_cons (pv 1) pa_nil)) pa_nil))) (pa_cons (pe_df D1 hr1 pass0 (pa_cons (pv 0) (pa_cons (pe_callB call_lenS (by rfl) B.len (by decide +kernel) (pa_cons (pv 1) pa_nil)) pa_nil))) pa_nil)) (by first | rfl | kernel_rfl))
      (C8.pss_cut (ps_if (pt_cmpR op_lt (pv 2) pe_int (nomark _)) (pss_one (ps_ret (pe_op op_cat (pe_op op_cat (pe_slice (sl_N (Fr N0 H)) (pv 1) po_none (po_some (pv 3))) (pe_lst (pa_cons (pe_df D3 hr pass0 (pa_cons (pv 0) (pa_cons (pv 1) (pa_cons (pv 3) pa_nil)))) pa_nil))) (pe_slice (sl_N (Fr N0 H)) (pv 1) (po_some (pe_op op_add (pv 3) pe_int)) po_none)))) pss_nil)
      (C8.pss_cut (ps_if (pt_cmpR op_eq (pv 2) pe_int (nomark _)) (pss_one (ps_ret (pe_op op_cat (pe_slice (sl_N (Fr N0 H)) (pv 1) po_none (po_some (pv 3))) (pe_slice (sl_N (Fr N0 H)) (pv 1) (po_some (pe_op op_add (pv 3) pe_int)) po_none)))) pss_nil)
      (C8.pss_cut (ps_if (pt_cmpR op_eq (pv 2) pe_int (nomark _)) (pss_one (ps_ret (pe_op op_cat (pv 1) (pe_lst (pa_cons (pe_ix (ix_N (Fr N0 H)) (pv 1) (pv 3) (fun _ _ => rfl)) pa_nil))))) pss_nil)
      (pss_cons (ps_set (i := 5) sc__law_g_bent.nd rfl (by first | exact Or.inl rfl | exact Or.inr rfl) (pe_callTy (call_listN (Fr N0 H)) (by rfl) B.list (by decide +kernel) (pa_cons (pv 1) pa_nil)))
      (pss_cons (ps_asg (pe_tup (pa_cons (pe_ix (ix_N (Fr N0 H)) (pv 5) (pv 4) (fun _ _ => rfl)) (pa_cons (pe_ix (ix_N (Fr N0 H)) (pv 5) (pv 3) (fun _ _ => rfl)) pa_nil))) (pg_tup rfl (pgs_cons (pg_sub (pv 5) (pv 3) set_list) (pgs_cons (pg_sub (pv 5) (pv 4) set_list) pgs_nil))))
      (pss_one (ps_ret (pv 5))))))))))), ?_⟩
  have hsl := lim_lt
  have htop : top0 = 1000000000000 := rfl
  have hlim : lim = 4000 := rfl
  have hw0 := hw
  have lenR : (its (rowsD R)).length = R.length := by simp [rowsD, its]
  have tR := rows_tame hRok
  have tR3 : tameA true (R.map Row.d) 3 = true := tameA_mono (by decide) tR
  have lmap : (R.map Row.d).length = R.length := by simp
  have Yn : ∀ m, Cy (Fr N0 H) (fun H' => Gw wa H H' ∧ Wl H' wa m) := fun m => ⟨fun H1 H2 s c => ⟨c.1.trans (Gw.of s), c.2.sm s⟩, fun H1 p c np => .inr (Gw.free c.2 c.1 np)⟩
  have yrows : ∀ {m : Nat} {σ : L2.St}, σ[1]? = some (some v) → Yd (Fr N0 H) (fun H' => Gw wa H H' ∧ Wl H' wa m) σ (tVar 1) (rowsD R) := fun h => .var h fun H' c => rd.gn oNe hw0 c.1
  have draw : ∀ {m : Nat} {A B : Hp}, Gw wa H A → Gw wa A B → Gw wa H B := fun a b => a.trans b
  have fin : ∀ {m : Nat} {A : Hp} {e : PyData} {u : V}, Gw wa H A → Wl A wa m → m ≤ n + 20 → tame true e 4 = true → Dr (Fr N0 H) A u e → Q u A := fun g hw' hm te ru => q _ _ _ te g (hw'.mono hm) ru
  -- way
  refine ⟨_, rfl, wa, 8, n, rfl, by decide, by decide, hw, by omega, fun way H1 hway g1 hw1 => ?_⟩
  -- way == 0 or rows == []
  refine ⟨fun σ' A => σ' = [some (.ref wa), some v, some (.int (way : Nat)), none, none, none] ∧ (Gw wa H A ∧ Wl A wa (n + 1)) ∧ R ≠ [], ?_, ?_⟩
  · have first : ∀ A, Gw wa H A → Wl A wa (n + 1) → tRet
          (tCall spPick [] E0
            (tCons (tVar 0)
              (tCons
                (tLst
                  (tCons (tC V.non)
                    (tCons (tC (V.int 5))
                      (tCons (tC (V.str "ab"))
                        (tCons tDNewK
                          (tCons (tC (V.bl true))
                            (tCons (tVar 1)
                              (tCons (tLst (tCons (tC V.non) tNil))
                                (tCons (tLst (tCons (tLst tNil) tNil))
                                  (tCons (tDisp [(tC (V.str "a"), tC (V.int 1))])
                                    (tCons (tLst (tCons (tVar 1) tNil)) tNil)))))))))))
                tNil))) { nx := fun σ' A => σ' = [some (.ref wa), some v, some (.int (way : Nat)), none, none, none] ∧ (Gw wa H A ∧ Wl A wa (n + 1)) ∧ R ≠ [], rt := Q } [some (.ref wa), some v, some (.int (way : Nat)), none, none, none] A := fun A gA hA => by
      have Y := Yn (n + 1)
      have ys := Yd.lst Y (ds := bents R) (by simp [bents]) (σ := [some (.ref wa), some v, some (.int (way : Nat)), none, none, none])
        (.cons Y .non (.cons Y (.int 5) (.cons Y (.str "ab") (.cons Y (.dict0 Y) (.cons Y (.bl true) (.cons Y (yrows rfl) (.cons Y (.lst Y (by simp) (.one Y .non)) (.cons Y (.lst Y (by simp) (.one Y (.lst Y (by simp) .nil)))
          (.cons Y (.dictA Y) (.one Y (.lst Y (by simp) (.one Y (yrows rfl)))))))))))))
      refine ret_y (pick_y rfl Y ys ⟨gA, hA⟩ (fun A c => c.2) oNe (by omega) (by simp [bents]) (by show 10 ≤ lim; decide) fun e he u H6 H7 s6 c6 g7 hw7 ru => ?_)
      exact fin (c6.1.trans g7) hw7 (by omega) (tameA_mem (bents_ok (by omega) hRok) he) ru
    refine ⟨_, rfl, rfl, _, rfl, ite2 (fun _ => iteT (first H1 g1 hw1)) (fun _ => ?_)⟩
    refine ⟨_, rfl, (by show 0 ≤ sizeLine; decide), fun p np => ?_⟩
    have sp : Sm H1 (upd H1 p (.lst [])) := Sm.new np
    refine ⟨rowsD R, .list [], ((rd.gn oNe hw0 g1).sm sp).all, .lst trivial upd_same .nil, rows_eqOk fun r hr => (hRok r hr).1, nums_eqOk [], _, rfl, ?_⟩
    have ee : PyData.eqv (rowsD R) (.list []) = decide (R = []) := by
      cases R with
      | nil => rfl
      | cons r R => simp [rowsD, PyData.eqv, PyData.eqvAll]
    rw [ee]
    refine ite2 (fun _ => first _ (g1.trans (Gw.of sp)) (hw1.sm sp)) (fun hR0 => ⟨rfl, ⟨g1.trans (Gw.of sp), hw1.sm sp⟩, fun z => hR0 (decide_eq_true z)⟩)
  rintro σ' A ⟨rfl, ⟨gA, hA⟩, hR0⟩
  have hR1 : 1 ≤ R.length := by
    cases R with
    | nil => exact absurd rfl hR0
    | cons r R => simp
  -- at, other
  refine ⟨_, rfl, _, rfl, v, _, rfl, (rd.gn oNe hw0 gA).all, rfl, ?_⟩
  rw [lenR]
  refine ⟨wa, R.length, n + 1, rfl, hR1, by omega, hA, by omega, fun at_ A1 hat ga1 ha1 => ?_⟩
  refine ⟨_, rfl, _, rfl, v, _, rfl, (rd.gn oNe hw0 (gA.trans ga1)).all, rfl, ?_⟩
  rw [lenR]
  refine ⟨wa, R.length, n + 1 + 1, rfl, hR1, by omega, ha1, by omega, fun oth A2 hoth ga2 ha2 => ⟨_, _, rfl, ?_⟩⟩
  have g2 : Gw wa H A2 := (gA.trans ga1).trans ga2
  -- the slices
  have c1 : cutA (its (rowsD R)) none (some (at_ : Int)) = (R.map Row.d).take at_ := cutA_to _ at_
  have c2 : cutA (its (rowsD R)) (some ((at_ : Int) + 1)) none = (R.map Row.d).drop (at_ + 1) := cutA_from _ (at_ + 1)
  have sl1 : ∀ {m : Nat} {σ : L2.St}, σ[1]? = some (some v) → σ[3]? = some (some (.int (at_ : Nat))) → Yd (Fr N0 H) (fun H' => Gw wa H H' ∧ Wl H' wa m) σ (tSl (rSlN (Fr N0 H)) (tVar 1) tNoPart (tPart (tVar 3))) (.list ((R.map Row.d).take at_)) := fun {m σ} h h3 => by
    have := Yd.sl (Yn m) (yrows (m := m) h) rfl .no (.var h3)
    rw [c1] at this
    exact this
  have sl2 : ∀ {m : Nat} {σ : L2.St}, σ[1]? = some (some v) → σ[3]? = some (some (.int (at_ : Nat))) → Yd (Fr N0 H) (fun H' => Gw wa H H' ∧ Wl H' wa m) σ (tSl (rSlN (Fr N0 H)) (tVar 1) (tPart (tOp (rI0 fun i j => V.int (i + j)) (tVar 3) (tC (.int 1)))) tNoPart) (.list ((R.map Row.d).drop (at_ + 1))) := fun {m σ} h h3 => by
    have := Yd.sl (Yn m) (yrows (m := m) h) rfl (.add1 h3) .no
    rw [c2] at this
    exact this
  have tk : tameA true ((R.map Row.d).take at_) 3 = true := tameA_take tR3
  have td : tameA true ((R.map Row.d).drop (at_ + 1)) 3 = true := tameA_drop tR3
  have ltk : ((R.map Row.d).take at_).length ≤ 30 := by simp; omega
  have ltd : ((R.map Row.d).drop (at_ + 1)).length ≤ 30 := by simp; omega
  have eat : (its (rowsD R))[at_]? = some (rowAt R at_).d := rowAt_at hat
  have eoth : (its (rowsD R))[oth]? = some (rowAt R oth).d := rowAt_at hoth
  have mem : ∀ j, j < R.length → rowAt R j ∈ R := fun j hj => by
    unfold rowAt
    rw [List.getD_eq_getElem?_getD, List.getElem?_eq_getElem hj]
    exact List.getElem_mem hj
  have rowT : ∀ j, j < R.length → tame true (rowAt R j).d 3 = true := fun j hj => tame_mono (by decide) (Row.tame2 (hRok _ (mem j hj)).1 (hRok _ (mem j hj)).2)
  dsimp only
  -- way < 5
  refine ⟨fun σ' A => σ' = [some (.ref wa), some v, some (.int (way : Nat)), some (.int (at_ : Nat)), some (.int (oth : Nat)), none] ∧ A = A2, ⟨_, rfl, _, _, rfl, rfl, _, rfl, ite2 (fun _ => ?_) (fun _ => ⟨rfl, rfl⟩)⟩, ?_⟩
  · refine ret_y (sl1 (m := n + 3) rfl rfl A2 _ ⟨g2, ha2⟩ fun v1 A3 s3 r3 => ?_)
    have g3 := g2.trans (Gw.of s3)
    have hw3 := ha2.sm s3
    refine ⟨_, rfl, _, rfl, _, rfl, wa, n + 1 + 1 + 1, v, R, at_, Fr N0 H, rfl, oNe, hw3, by omega, rd.gn oNe hw0 g3, by omega, hat, hRok, fun d u A4 td4 g4 hw4 ru0 => ⟨(by show 1 ≤ sizeLine; decide), fun p np => ?_⟩⟩
    have ru : Dr (Fr N0 H) A4 u d := ru0.wide fun b z => z.elim id fun y => .inr (Gw.free hw3 g3 y)
    have sp : Sm A4 (upd A4 p (.lst [u])) := Sm.new np
    have r4 : Dr (Fr N0 H) (upd A4 p (.lst [u])) v1 (.list ((R.map Row.d).take at_)) := (r3.gn oNe hw3 g4).sm sp
    cases r4 with
    | @lst a1 xs1 _ na1 ea1 rx1 =>
    have lx1 := rx1.length
    refine ⟨a1, p, xs1, [u], rfl, rfl, ea1, upd_same, by simp only [List.length_cons, List.length_nil]; omega, fun p2 np2 => ?_⟩
    have sp2 := Sm.new (o := .lst (xs1 ++ [u])) np2
    have g5 : Gw wa H (upd (upd A4 p (.lst [u])) p2 (.lst (xs1 ++ [u]))) := ((g3.trans g4).trans (Gw.of sp)).trans (Gw.of sp2)
    have hw5 := (hw4.sm sp).sm sp2
    have r5 : DrA (Fr N0 H) (upd (upd A4 p (.lst [u])) p2 (.lst (xs1 ++ [u]))) (xs1 ++ [u]) ((R.map Row.d).take at_ ++ [d]) := (rx1.append (.one (ru.sm sp))).sm sp2
    have np2w : p2 ≠ wa := (hw4.sm sp).ne np2
    have e5 : upd (upd A4 p (.lst [u])) p2 (.lst (xs1 ++ [u])) p2 = some (.lst (xs1 ++ [u])) := upd_same
    generalize upd (upd A4 p (.lst [u])) p2 (.lst (xs1 ++ [u])) = A5 at g5 hw5 r5 e5 ⊢
    refine sl2 (m := n + 1 + 1 + 1 + 10) rfl rfl A5 _ ⟨g5, hw5⟩ fun v6 A6 s6 r6 => ?_
    have r5' := r5.sm s6
    cases r6 with
    | @lst a2 xs2 _ na2 ea2 rx2 =>
    have lx2 := rx2.length
    refine ⟨p2, a2, _, xs2, rfl, rfl, s6 _ _ e5, ea2, by simp only [List.length_append, List.length_cons, List.length_nil]; omega, fun p3 np3 => ?_⟩
    have hw6 := hw5.sm s6
    refine fin (g5.trans ((Gw.of s6).trans (Gw.of (Sm.new np3)))) (hw6.sm (Sm.new np3)) (by omega) (tame_lst3 (tameA_app (tameA_app tk (tame_one (tame_wk td4))) td) (by simp; omega)) (.lst (.inr (Gw.free hw6 (g5.trans (Gw.of s6)) np3)) upd_same (((r5'.append rx2)).sm (Sm.new np3)))
  rintro σ' A ⟨rfl, rfl⟩
  -- way == 5
  refine ⟨fun σ' B => σ' = [some (.ref wa), some v, some (.int (way : Nat)), some (.int (at_ : Nat)), some (.int (oth : Nat)), none] ∧ B = A, ⟨_, rfl, rfl, _, rfl, ite2 (fun _ => ?_) (fun _ => ⟨rfl, rfl⟩)⟩, ?_⟩
  · refine ret_y ((Yd.catL (Yn (n + 3)) (sl1 rfl rfl) (sl2 rfl rfl) (by omega)) A _ ⟨g2, ha2⟩ fun v1 A3 s3 r3 => ?_)
    exact fin (g2.trans (Gw.of s3)) (ha2.sm s3) (by omega) (tame_lst3 (tameA_app tk td) (by simp; omega)) r3
  rintro σ' A ⟨rfl, rfl⟩
  -- way == 6
  refine ⟨fun σ' B => σ' = [some (.ref wa), some v, some (.int (way : Nat)), some (.int (at_ : Nat)), some (.int (oth : Nat)), none] ∧ B = A, ⟨_, rfl, rfl, _, rfl, ite2 (fun _ => ?_) (fun _ => ⟨rfl, rfl⟩)⟩, ?_⟩
  · have Y := Yn (n + 3)
    refine ret_y ((Yd.catL (ds := R.map Row.d) Y (yrows rfl) (.lst Y (by simp) (.one Y (.ixv Y (yrows rfl) rfl rfl eat))) (by simp; omega)) A _ ⟨g2, ha2⟩ fun v1 A3 s3 r3 => ?_)
    exact fin (g2.trans (Gw.of s3)) (ha2.sm s3) (by omega) (tame_lst3 (tameA_app tR3 (tame_one (rowT _ hat))) (by simp; omega)) r3
  rintro σ' A ⟨rfl, rfl⟩
  -- found = list(rows), two exchanged
  refine ⟨_, rfl, v, rowsD R, rfl, rd.gn oNe hw0 g2, rfl, fun l ys nl ry => ?_⟩
  have nlw : l ≠ wa := ha2.ne nl
  have ryN : DrA No (upd A l (.lst ys)) ys (R.map Row.d) := (ry.fz (rows_fzA R)).sm (Sm.new nl)
  have lys : ys.length = R.length := by rw [ry.length, lenR]
  have rl : Dr (Fr N0 H) (upd A l (.lst ys)) (.ref l) (rowsD R) := .lst (.inr (Gw.free ha2 g2 nl)) upd_same (ry.sm (Sm.new nl))
  have el : upd A l (.lst ys) l = some (.lst ys) := upd_same
  have gl : Gw wa H (upd A l (.lst ys)) := g2.trans (Gw.of (Sm.new nl))
  have hl : Wl (upd A l (.lst ys)) wa (n + 3) := ha2.sm (Sm.new nl)
  have nl0 : H l = none := by
    cases z : H l with
    | none => rfl
    | some o =>
      have := g2 l o nlw z
      rw [nl] at this
      cases this
  generalize upd A l (.lst ys) = A1 at ryN rl el gl hl ⊢
  refine ⟨_, rfl, _, rfl, rowsD R, oth, _, rl, rfl, rfl, eoth, fun v1 r1 => ⟨_, rfl, _, rfl, rowsD R, at_, _, rl, rfl, rfl, eat, fun v2 r2 => ⟨(by show 2 ≤ sizeLine; decide), fun T nT => ?_⟩⟩⟩
  have sT : Sm A1 (upd A1 T (.tup [v1, v2])) := Sm.new nT
  have elT := sT _ _ el
  refine ⟨T, _, rfl, SqT.of upd_same, rfl, _, _, rfl, _, rfl, _, rfl, l, ys, (at_ : Int), at_, rfl, rfl, elT, ixN_nat (by omega), _, _, rfl, _, rfl, _, rfl, l, ys.set at_ v1, (oth : Int), oth, rfl, rfl, upd_same, ixN_nat (by rw [List.length_set]; omega), rfl, ?_⟩
  have rN : DrA No (upd A1 T (.tup [v1, v2])) ((ys.set at_ v1).set oth v2) (((R.map Row.d).set at_ (rowAt R oth).d).set oth (rowAt R at_).d) :=
    ((ryN.sm sT).set ((r1.fz (M := No) (Row.fz _)).sm sT) at_).set ((r2.fz (M := No) (Row.fz _)).sm sT) oth
  have st : ∀ (B : Hp) (zs zs' : List V), B l = some (.lst zs) → Stays No B (upd B l (.lst zs')) := fun B zs zs' e => ⟨fun _ _ z => z.elim, fun b xs z => by
    rw [upd_ne fun q => by rw [q, e] at z; cases z]
    exact z⟩
  have rF := (rN.mono (fun _ z => z) (st _ ys (ys.set at_ v1) elT)).mono (fun _ z => z) (st _ (ys.set at_ v1) ((ys.set at_ v1).set oth v2) upd_same)
  refine ⟨_, rfl, fin (m := n + 3) (fun b o hb e => ?_) ?_ (by omega) (tame_lst3 (n := 3) (tameA_of fun e he => ?_) (by simp; omega)) (.lst (.inr nl0) upd_same (rF.wide fun b z => z.elim))⟩
  · have nb := ne_of_none e nl0
    rw [upd_ne nb, upd_ne nb]
    exact sT _ _ (gl b o hb e)
  · obtain ⟨a', b', c', e', h'⟩ := hl.sm sT
    exact ⟨a', b', c', by rw [upd_ne (Ne.symm nlw), upd_ne (Ne.symm nlw)]; exact e', h'⟩
  · rcases List.mem_or_eq_of_mem_set he with he | rfl
    · rcases List.mem_or_eq_of_mem_set he with he | rfl
      · exact tameA_mem tR3 he
      · exact rowT _ hoth
    · exact rowT _ hat
end
end K8

/-! try with several clauses, each `except X as n`, one name n for all. -/
namespace WR
open PySem PySem.Spec PyProof.Rows L2
abbrev SuT := Addr → Value → Option Addr → TS
/-- the ends of a suite behind which slot i is empty -/
def endsAs (i : Nat) (D : Ends) : Ends := { nx := fun a b => D.nx (a.set i none) b, rt := D.rt, bk := fun a b => D.bk (a.set i none) b, ct := fun a b => D.ct (a.set i none) b }
def wAsMany (K : PySem.W.Frag) (i : Nat) (Wout : WX) (D : Ends) : List (Value × SuT) → WX
  | [] => Wout
  | q :: r => fun cls d σ H => ∃ b, PySem.W.exmOne K cls q.1 = some b ∧ (b = true → ∀ a, H a = none → q.2 a cls d (endsAs i D) (σ.set i (some (.ref a))) H) ∧ (b = false → wAsMany K i Wout D r cls d σ H)
inductive HdsAs (X : Cx) (n : Str) : List ExceptHandler → List (Value × SuT) → Prop
  | nil : HdsAs X n [] []
  | cons {x : Str} {c : Value} {ts : SuT} {b₀ : Stmt} {su : List Stmt} {p1 p2 : Pos} {hs : List ExceptHandler} {l : List (Value × SuT)} (hc : Names X x c)
      (hsu : ∀ (a : Addr) (oe : Obj) (cls : Value) (d : Option Addr) (pn : List (Addr × Obj)), Zc cls d oe → (∃ vs, oe.data = .fields vs) → PSs (X.suite a ((a, oe) :: pn)) (b₀ :: su) (ts a cls d)) (r : HdsAs X n hs l) :
      HdsAs X n (.ExceptHandler (some (.Name x p1)) (some n) (b₀ :: su) p2 :: hs) ((c, ts) :: l)
section
variable {X : Cx} {n : Str} {i : Nat} {body : List Stmt} {h₀ : ExceptHandler} {hds : List ExceptHandler} {l : List (Value × SuT)} {pos : Pos} {tb : WX → TS} {Wout : WX}
theorem ps_try_asMany (stk : X.stack = X.env :: X.outer) (frm : X.env.frame = some X.env.locals) (nod : X.N.Nodup) (at_ : X.N[i]? = some n) (knd : X.env.kindOf n = some .local) (tk : Takes X Wout)
    (hb : ∀ (W : WX) (pn : List (Addr × Obj)) (xe : Value → Shared → Prop), Takes (X.tr pn xe) W → PassesOwn (model X.prog X.w) X.A X.env xe → PSs (X.tr pn xe) body (tb W))
    (hh : HdsAs X n (h₀ :: hds) l) : PS X (.Try body (h₀ :: hds) [] [] pos) (fun D σ H => tb (wAsMany X.K i Wout D l) D σ H) := by
  refine ⟨fun pins s σ H D I0 hyp => ?_⟩
  have okX := I0.ok
  have frs0 : X.A.frames = some (X.env :: X.outer) := okX.frames.trans (congrArg some stk)
  refine wpAny_Try_except (wpAny_mono ((hb (wAsMany X.K i Wout D l) (X.pn ++ pins)
    (fun x t1 => wpAny (model X.prog X.w) X.A (noteFrame x X.env) (fun _ t2 => wpAny (model X.prog X.w) X.A (setFlight x none)
      (fun _ t3 => wpAny (model X.prog X.w) X.A (handleBy x X.env (h₀ :: hds)) (SP X pins D) X.xe t3) X.xe t2) X.xe t1)
    (fun u t caught => ?fall) PassesOwn.looking).run [] s σ H D (I0.toTry _) hyp) (fun fl t through => ?pass) (fun _ _ z => z))
  case pass =>
    cases fl with
    | ret u => exact let ⟨v, a, b, J, r, q⟩ := through; ⟨v, a, b, J.ofTry okX, r, q⟩
    | next => exact let ⟨a, b, J, q⟩ := through; wpAny_execs_nil ⟨a, b, J.ofTry okX, q⟩
    | brk => exact let ⟨a, b, J, q⟩ := through; ⟨a, b, J.ofTry okX, q⟩
    | cont => exact let ⟨a, b, J, q⟩ := through; ⟨a, b, J.ofTry okX, q⟩
  case fall =>
    obtain ⟨ad, base, sB, pinsB, σB, HB, kls, dct, rfl, JB, nbB, upB, skyB, freeB, osB, agB, wish⟩ := caught
    have JX : Inv X pins σB HB sB := JB.ofTry okX
    rw [stk] at skyB
    show wpAny (model X.prog X.w) X.A (noteFrame (.ref ad) X.env) _ _ _
    refine Sky.land Zc.steady frs0 frm skyB fun hp land up1 => ?_
    obtain ⟨ob, flds, obAt, obZ, obD⟩ := land.there
    have away : ad ∉ frs (X.env :: X.outer) := fun mem => by
      obtain ⟨_, ob', e1, nofields⟩ := land.2.2.1.mem mem
      rw [obAt] at e1
      cases e1
      exact nofields _ obD
    have awayL : ad ≠ X.env.locals := fun e => away (List.mem_filterMap.mpr ⟨X.env, List.mem_cons_self .., by rw [frm, e]⟩)
    have awayF : ad ∉ X.fs := fun mem => let ⟨en, h1, h2⟩ := List.mem_filterMap.mp mem; away (List.mem_filterMap.mpr ⟨en, List.mem_cons_of_mem _ h1, h2⟩)
    have JL : Inv X pins σB HB { t with heap := hp } := JX.landed nbB land.1 (upB.trans up1) osB agB
    have JS := JL.suite obAt obD freeB awayL awayF
    have clauses : ∀ {hs : List ExceptHandler} {m : List (Value × SuT)}, HdsAs X n hs m → wAsMany X.K i Wout D m kls dct σB HB →
        wpAny (model X.prog X.w) X.A (handleBy (.ref ad) X.env hs) (SP X pins D) X.xe { t with heap := hp } := by
      intro hs m ok
      induction ok with
      | nil =>
        intro out
        obtain ⟨_, _, _, o1, v1, T1, _, _, a1, _, a3, a4, _⟩ := id land
        refine wpAny_handleBy_nil ?_
        unfold PySem.passOn
        refine wpAny_bind (wpAny_field a1 a3 a4 ?_)
        rw [if_neg (show ¬ ((Value.ref T1 == Value.none) = true) from by simp)]
        have onward : wpAny (model X.prog X.w) X.A (setFlight (.ref ad) X.env.frame) (fun _ t4 => wpAny (model X.prog X.w) X.A (throw (.ref ad) : Sem Flow) (SP X pins D) X.xe t4) X.xe { t with heap := hp } := by
          rw [frm]
          refine HandSPX.setFlight_upZ land fun h4 sky4 up4 => wpAny_throw (tk _ _ ⟨ad, base, sB, pins, σB, HB, kls, dct, rfl, JX, nbB, (upB.trans up1).trans up4, ?_, freeB, osB, agB, out⟩)
          exact .inr (.inr (by rw [stk]; exact sky4))
        first
          | exact wpAny_bind (wpAny_pure (wpAny_bind onward))
          | exact wpAny_bind onward
      | @cons x c ts b₀ su p1 p2 hs m hc hsu r ih =>
        rintro ⟨b, yesno, yes, no⟩
        refine wpAny_handleBy_cons (codeAny_handlers_test ?_) (fun q => by cases q)
        have kind : PySem.W.Looks (model X.prog X.w) hp (typeOf (.ref ad)) kls := fun _ _ _ _ kp q => wpAny_typeOf_ref (kp _ _ obAt) (by rw [obZ.1]; exact q)
        have name : ∀ {Q E : Value → Shared → Prop}, Q c { t with heap := hp } → wpAny (model X.prog X.w) (X.A.mark (some (.ref ad))) (eval (.Name x p1) X.env) Q E { t with heap := hp } := fun {Q E} q => by
          obtain ⟨g1, g2, g3⟩ := hc
          rcases g3 with g3 | ⟨g3, g4, g5⟩
          · exact ld_glob (X := X.suite ad ((ad, ob) :: (X.pn ++ pins))) JS g1 g3 q g2
          · exact ld_blt (X := X.suite ad ((ad, ob) :: (X.pn ++ pins))) JS g1 g3 g4 q g5 g2
        refine name ((PySem.W.exm_one (M := model X.prog X.w) JL.kIn kind yesno).here ?_)
        cases b with
        | false => exact ih (no rfl)
        | true =>
          refine codeAny_handlers_suite_as (HandSPX.lands_againZ land fun h5 land5 up5 => ?_)
          obtain ⟨ob5, _, at5, z5, d5⟩ := land5.there
          have J5 : Inv X pins σB HB { t with heap := h5 } := JX.landed nbB land5.1 ((upB.trans up1).trans up5) osB agB
          refine store_ok (X := X.suite ad ((ad, ob5) :: (X.pn ++ pins))) (v := .ref ad) (J5.suite at5 d5 freeB awayL awayF) nod at_ (.inl knd) rfl (fun t6 J6 => ?_) (.inr knd)
          refine wpAny_mono ((hsu ad ob5 kls dct (X.pn ++ pins) z5 ⟨_, d5⟩).run [] t6 _ HB _ J6 (yes rfl ad freeB)) (fun fl t7 told => ?_) (fun _ _ z => z.elim)
          cases fl with
          | ret u => exact let ⟨v, a, b, J, rr, q⟩ := told; gone_ok (J.unsuite okX) nod at_ knd fun t8 J8 => ⟨v, _, b, J8, rr, q⟩
          | next => exact let ⟨a, b, J, q⟩ := told; gone_ok (J.unsuite okX) nod at_ knd fun t8 J8 => ⟨_, b, J8, q⟩
          | brk => exact let ⟨a, b, J, q⟩ := told; gone_ok (J.unsuite okX) nod at_ knd fun t8 J8 => ⟨_, b, J8, q⟩
          | cont => exact let ⟨a, b, J, q⟩ := told; gone_ok (J.unsuite okX) nod at_ knd fun t8 J8 => ⟨_, b, J8, q⟩
    exact clauses hh wish
end
end WR

namespace K8
open PySem PySem.Spec PyProof.Rows L2 WR LamX
/-- what _law_met makes of what it asks -/
def MetX (CW CR : Addr) (Q : VK) : XK := fun cls d H =>
  (cls = .ref CW ∧ ∃ (dd : Addr) (fs : List (Str × V)) (v : V), d = some dd ∧ H dd = some (.xd fs) ∧ fs.lookup ("index" : Str) = some v ∧ ∀ p, H p = none → Q (.ref p) (upd H p (.lst [.str "web", v]))) ∨
  (cls = .ref CR ∧ ∃ (dd : Addr) (fs : List (Str × V)) (v : V), d = some dd ∧ H dd = some (.xd fs) ∧ fs.lookup ("row" : Str) = some v ∧ ∀ p, H p = none → Q (.ref p) (upd H p (.lst [.str "row", v])))
def TMet (CW CR : Addr) : (XK → Hp → VK → Prop) → Hp → VK → Prop := fun tl H Q =>
  tl (MetX CW CR Q) H (fun v H' => ∀ p, H' p = none → Q (.ref p) (upd H' p (.lst [.str "told", v])))
/-- what is known of the two classes in except clauses -/
structure Ex2 (K : PySem.W.Frag) (mg : Str → Option Value) (CW CR : Addr) : Prop where
  xW : XfC K CW
  xR : XfC K CR
  nW : PySem.W.findIn K (.ref CW) "index" = some none
  nR : PySem.W.findIn K (.ref CR) "row" = some none
  ww : PySem.W.exmOne K (.ref CW) (.ref CW) = some true
  rw : PySem.W.exmOne K (.ref CR) (.ref CW) = some false
  rr : PySem.W.exmOne K (.ref CR) (.ref CR) = some true
  gW : mg "BadWeb" = some (.ref CW)
  gR : mg "BadRow" = some (.ref CR)
theorem takes_len {X : Cx} {W : WX} (t : Takes X W) : Takes X (fun cls d σ H => σ.length = X.N.length → W cls d σ H) := fun u s' ⟨a, B, sI, pins, σ, H, cls, d, e, I, nb, up, sky, na, os, ag, w⟩ =>
  t u s' ⟨a, B, sI, pins, σ, H, cls, d, e, I, nb, up, sky, na, os, ag, w I.len⟩
theorem sc__law_met : FnScope ["ask", "e"] ["ask"] (defScope s_law_met) := ⟨rfl, rfl, rfl, by decide +kernel, rfl, by decide +kernel, by decide +kernel⟩
section
variable {X : Cx}
theorem met_gives {CW CR g : Addr} {cdg : Value} {q : Str} (E2 : Ex2 X.K X.mg CW CR) : GivesTo X ["ask", "e"] "_law_met" (defScope s_law_met) g cdg (defBody s_law_met) "ask" q (TMet CW CR) := by
  intro f c' s H Q tl act hc h
  refine ⟨_, pss_one (ps_try_asMany (X := (cxOf C8.CX0 X.prog X.w X.K X.mg X.base ["ask", "e"] "_law_met" (defScope s_law_met) g cdg X.A X.stack s H C8.E0).nox) (n := "e") (i := 1)
    (tb := fun W D σ H => ∃ Ech : XK, (∀ cls d σ' H', σ'.length = 2 → Ech cls d H' → W cls d σ' H') ∧ σ[0]? = some (some (.ref f)) ∧ H c' = some (CodeO c' q) ∧ tl Ech H (fun v H' => 2 ≤ sizeLine ∧ ∀ p, H' p = none → D.rt (.ref p) (upd H' p (.lst [.str "told", v]))))
    rfl rfl sc__law_met.nd rfl rfl LamX.takes0 (fun W pn xe tk _ => ?_)
    (.cons ⟨rfl, by decide, .inl E2.gW⟩ (fun a oe cls d pn hz hf => pss_one (ps_ret (pe_lst (pa_cons pe_str (pa_cons (pe_xf E2.xW E2.nW hz hf (pv 1)) pa_nil)))))
      (.cons ⟨rfl, by decide, .inl E2.gR⟩ (fun a oe cls d pn hz hf => pss_one (ps_ret (pe_lst (pa_cons pe_str (pa_cons (pe_xf E2.xR E2.nR hz hf (pv 1)) pa_nil))))) .nil))), ?_⟩
  · refine ⟨fun pins s' σ H' D I h' => ?_⟩
    obtain ⟨Ech, hW, h1, h2, h3⟩ := h'
    have hp := fun p1 p2 => act _ pn xe Ech p1 p2 (takes_len tk) fun cls d σ' H' e hl => hW cls d σ' H' hl e
    exact (pss_one (ps_ret (pe_lst (pa_cons pe_str (pa_cons (hp _ _) pa_nil))))).run pins s' σ H' D I ⟨h1, h2, h3⟩
  · refine ⟨MetX CW CR Q, fun cls d σ' H' hl e => ?_, rfl, hc, ?_⟩
    · have one : ∀ a : Addr, (σ'.set 1 (some (.ref a)))[1]? = some (some (.ref a)) := fun a => by
        rw [List.getElem?_set_self (by omega)]
      rcases e with ⟨rfl, dd, fs, v, rfl, e1, e2, k⟩ | ⟨rfl, dd, fs, v, rfl, e1, e2, k⟩
      · exact ⟨true, E2.ww, fun _ a na => ⟨_, one a, rfl, rfl, dd, fs, v, rfl, e1, e2, (by show 2 ≤ sizeLine; decide), fun p np => k p np⟩, fun z => nomatch z⟩
      · exact ⟨false, E2.rw, (fun z => nomatch z), fun _ => ⟨true, E2.rr, fun _ a na => ⟨_, one a, rfl, rfl, dd, fs, v, rfl, e1, e2, (by show 2 ≤ sizeLine; decide), fun p np => k p np⟩, fun z => nomatch z⟩⟩
    · have sz : 2 ≤ sizeLine := by decide
      simpa only [TMet, sz, true_and] using h
end
end K8

/-! Defs that ask repr: called where no repr is under way. -/
namespace WR
open PySem PySem.Spec PyProof.Rows L2
structure FnG (P : Program) (w : World) (K : PySem.W.Frag) (mg : Str → Option Value) (base : Heap) (CX : CXT) (k : Nat) (f : Addr) (fd : FuncData) (ps : List Str) (sp : Sp) : Prop where
  len : ∀ vs H Q E, sp vs H Q E → vs.length = ps.length
  run : ∀ (A : Around) (outer : List Env) (s : Shared) (H : Hp) (args : Args) (us : List Value) (vs : List V) (Q : VK) (E : XK), Room k A → A.guards = some [] → Env0 P w K mg base A outer s H → BindsTo s fd args (ps.zip us) → Vals vs us → sp vs H Q E →
    codeAny (model P w) A (.call (.ref f) args) (CR CX outer P w H s Q E) s
/-- a def by name, its code object and table known -/
structure DfG (P : Program) (w : World) (K : PySem.W.Frag) (mg : Str → Option Value) (base : Heap) (CX : CXT) (k : Nat) (x : Str) (ps : List Str) (sp : Sp) : Prop where
  ex : ∃ f fd, mg x = some (.ref f) ∧ PySem.W.keepIn K (.ref f) = true ∧ Binds K fd ps [] ∧ FnG P w K mg base CX k f fd ps sp
section
variable {P : Program} {w : World} {K : PySem.W.Frag} {mg : Str → Option Value} {base : Heap}
/-- from the def's place: its body's promise at one state -/
theorem fnG_of {CX : CXT} {k : Nat} {f : Addr} {name qual : Str} {params : Arguments} {body : List Stmt} {scope : Scope} {dV kV doc pm cdv ct oc : Value} {an od : Option Addr} {osl : Array (Option Value)} {N ps : List Str} {sp : Sp}
    (lk : K.lookup f = some ⟨oc, od, .func (PySem.W.fnOf name qual params body scope dV kV doc pm an cdv ct), osl⟩) (hcd : PySem.W.codeIn K cdv qual = true) (S : FnScope N ps scope) (len : ∀ vs H Q E, sp vs H Q E → vs.length = ps.length)
    (hbody : ∀ (A : Around) (outer : List Env) (s : Shared) (H : Hp) (vs : List V) (Q : VK) (E : XK), Room k (A.deeper (envOfC qual scope s.heap.objs.size f cdv)) → (A.deeper (envOfC qual scope s.heap.objs.size f cdv)).guards = some [] → sp vs H Q E →
      ∃ t, PSs (cxOf CX P w K mg base N qual scope f cdv A outer s H E) body t ∧ t { nx := fun _ H' => Q .non H', rt := Q } (L2.start N vs) H) :
    FnG P w K mg base CX (k + 1) f (PySem.W.fnOf name qual params body scope dV kV doc pm an cdv ct) ps sp :=
  ⟨len, fun A outer s H args us vs Q E hr hg e0 hb r hsp => LamX.run_ofS lk hcd S hr e0 hb r (len _ _ _ _ hsp) fun hr' => hbody A outer s H vs Q E hr' hg hsp⟩
theorem FnG.mono {CX : CXT} {j k : Nat} {f : Addr} {fd : FuncData} {ps : List Str} {sp : Sp} (F : FnG P w K mg base CX j f fd ps sp) (h : j ≤ k) : FnG P w K mg base CX k f fd ps sp :=
  ⟨F.len, fun A outer s H args us vs Q E hr => F.run A outer s H args us vs Q E (hr.mono h)⟩
end
section
variable {X : Cx} {CX : CXT} {x : Str} {ps : List Str} {sp : Sp} {k : Nat} {e : Expr} {es : List Expr} {ta : TA} {p pos : Pos} {E : XK}
/-- such a def called -/
theorem pe_dfG (D : DfG X.prog X.w X.K X.mg X.base CX k x ps sp) (room : Room k X.A) (free : X.A.guards = some []) (hx : Passes CX X E) (ha : PA X (e :: es) ta) (hg : Gl X x := by rfl) (hdb : (x == ("__debug__" : Str)) = false := by decide)
    (he : starEach (e :: es) X.env = (false, eval e X.env) :: starEach es X.env := by rfl) (hpl : (backTo pos (starEach es X.env)).any (·.1) = false := by rfl) : PE X (.Call (.Name x p) (e :: es) [] pos) (tCall sp [] E ta) := by
  obtain ⟨f, fd, named, kept, binds, G⟩ := D.ex
  constructor
  intro pins s σ H Q I0 want
  refine wpAny_Call_Name_kw (ld_glob I0 hg named (PySem.W.callWith_K (h₀ := X.base) I0.ok.mod.kin kept (thn (ha.run pos pins s σ H _ I0 want) ?_) he hpl) hdb)
  rintro us t ⟨vs, H1, I1, rel, want1⟩
  rw [List.append_nil] at want1
  have many : (us ++ []).length = ps.length := by rw [List.append_nil, ← rel.length]; exact G.len _ _ _ _ want1
  have bound := binds t us I1.kIn many
  rw [List.append_nil] at bound
  refine ⟨I1.kIn, wpAny_call (codeAny_mono (G.run X.A X.stack t H1 ⟨us, []⟩ us vs Q E room free I1.env0 bound rel want1) ?_)⟩
  intro r t2 told
  match r, told with
  | .error x, told => exact hx pins σ H1 t x t2 I1 told
  | .ok (.ret u), told => exact I1.after told
  | .ok .next, told => exact told.elim
  | .ok .brk, told => exact told.elim
  | .ok .cont, told => exact told.elim
end
/-! ### calls by keywords alone -/
section
variable {X : Cx} {CX : CXT} {x : Str} {ps ks : List Str} {sp : Sp} {k : Nat} {kws : List Keyword} {tk : TA} {p pos : Pos} {E : XK} {g : List Value → List Value → List Value} {gV : List V → List V → List V}
structure DfK (P : Program) (w : World) (K : PySem.W.Frag) (mg : Str → Option Value) (base : Heap) (CX : CXT) (k : Nat) (x : Str) (ps ks : List Str) (g : List Value → List Value → List Value) (gV : List V → List V → List V) (sp : Sp) : Prop where
  ex : ∃ f fd, mg x = some (.ref f) ∧ PySem.W.keepIn K (.ref f) = true ∧ KBn K fd ps 0 ks g gV ∧ FnOk P w K mg base CX k f fd ps sp
def tKw (n : Nat) (sp : Sp) (gV : List V → List V → List V) (E : XK) (tk : TA) : TE := fun σ H Q => tk σ H fun zs H2 => zs.length = n ∧ sp (gV [] zs) H2 Q E
theorem pe_dfK (D : DfK X.prog X.w X.K X.mg X.base CX k x ps ks g gV sp) (room : Room k X.A) (hx : Passes CX X E) (hkw : PK X kws tk) (hg : Gl X x := by rfl) (hall : (backToKw pos (keywordEach kws X.env)).all (·.1.isSome) = true := by rfl)
    (hks : (backToKw pos (keywordEach kws X.env)).filterMap (·.1) = ks := by rfl) (hdb : (x == ("__debug__" : Str)) = false := by decide)
    (hpl : ((backTo pos (starEach [] X.env)).any (·.1) || (backToKw pos (keywordEach kws X.env)).any (·.1.isNone)) = false := by rfl) : PE X (.Call (.Name x p) [] kws pos) (tKw ks.length sp gV E tk) := by
  obtain ⟨f, fd, named, kept, binds, G⟩ := D.ex
  constructor
  intro pins s σ H Q I0 want
  refine wpAny_Call_Name_kw (ld_glob I0 hg named (PySem.W.callWith_KW0 (h₀ := X.base) I0.ok.mod.kin kept hall (thn (hkw.run pos pins s σ H _ I0 want) ?_) hpl) hdb)
  rintro ws t ⟨zs, H1, I1, rel, len, want1⟩
  rw [hks]
  have rel2 := binds.rel (vs := []) (us := []) .nil rel
  have many : ws.length = ks.length := by rw [← rel.length]; exact len
  have bound := binds.to t [] ws I1.kIn rfl many
  refine ⟨I1.kIn, wpAny_call (codeAny_mono (G.run X.A X.stack t H1 ⟨[], ks.zip ws⟩ _ _ Q E room I1.env0 bound rel2 want1) ?_)⟩
  intro r t2 told
  match r, told with
  | .error x, told => exact hx pins σ H1 t x t2 I1 told
  | .ok (.ret u), told => exact I1.after told
  | .ok .next, told => exact told.elim
  | .ok .brk, told => exact told.elim
  | .ok .cont, told => exact told.elim
end
end WR

/-! repr of data, dicts too, where no repr is under way. -/
namespace K8
open PySem PySem.Spec PyProof.Rows L2 WR
section
variable {P : Program} {w : World} {H : Hp} {h : Heap}
mutual
theorem drReads (ok : HOk P w H h) : ∀ {d : PyData} {v : V} {u : Value}, Dr All H v d → RelV v u → ∃ as, Reads h u d as ∧ ∀ a ∈ as, H a ≠ none
  | _, _, _, .non, r => by
    cases r
    exact ⟨_, .none, by simp⟩
  | _, _, _, .bl b, r => by
    cases r
    exact ⟨_, .bool b, by simp⟩
  | _, _, _, .int i, r => by
    obtain ⟨t, rfl⟩ := r
    exact ⟨_, .int i t, by simp⟩
  | _, _, _, .str x, r => by
    obtain ⟨t, rfl⟩ := r
    exact ⟨_, .str x t, by simp⟩
  | _, _, _, .lst n e ra, r => by
    cases r
    obtain ⟨_, its, m, rv, g⟩ := (ok _ _ e)
    obtain ⟨as, hr, hn⟩ := drReadsA ok ra rv
    refine ⟨_, .list g rfl rfl hr, fun a ha => ?_⟩
    rcases List.mem_cons.mp ha with rfl | ha
    · rw [e]
      nofun
    · exact hn a ha
  | _, _, _, .tup e ra, r => by
    cases r
    obtain ⟨_, its, rv, o, ho, hc, n, hd⟩ := (ok _ _ e)
    obtain ⟨as, hr, hn⟩ := drReadsA ok ra rv
    exact ⟨_, .tuple ho hc hd hr, hn⟩
  | _, _, _, .dct n e rk, r => by
    cases r
    obtain ⟨_, _, vs, kv, o, es, ep, g, ex, hd, _, ps, _⟩ := (ok _ _ e)
    obtain ⟨as, bs, h1, h2, hn⟩ := drReadsK ok rk kv ps
    refine ⟨_, .dict g ex.1 hd h1 h2, fun a ha => ?_⟩
    rw [List.cons_append] at ha
    rcases List.mem_cons.mp ha with rfl | ha
    · rw [e]
      nofun
    · exact hn a ha
theorem drReadsA (ok : HOk P w H h) : ∀ {ds : List PyData} {vs : List V} {us : List Value}, DrA All H vs ds → Vals vs us → ∃ as, ReadsAll h us ds as ∧ ∀ a ∈ as, H a ≠ none
  | _, _, _, .nil, .nil => ⟨_, .nil, by simp⟩
  | _, _, _, .cons r1 t1, .cons r2 t2 => by
    obtain ⟨as, q1, n1⟩ := drReads ok r1 r2
    obtain ⟨bs, q2, n2⟩ := drReadsA ok t1 t2
    exact ⟨_, .cons q1 q2, fun a ha => (List.mem_append.mp ha).elim (n1 a) (n2 a)⟩
theorem drReadsK (ok : HOk P w H h) : ∀ {ps : List (PyData × PyData)} {kvs : List (Key × V)} {vs : List (Key × Value)} {es : List DictEntry}, DrK All H kvs ps → KV kvs vs → Pairs (mixKind P w) es vs →
    ∃ as bs, ReadsAll h (es.map (·.key)) (ps.map (·.1)) as ∧ ReadsAll h (es.map (·.val)) (ps.map (·.2)) bs ∧ ∀ a ∈ as ++ bs, H a ≠ none
  | _, _, _, _, .nil, .nil, .nil => ⟨_, _, .nil, .nil, by simp⟩
  | _, _, _, _, @DrK.cons _ _ x v d kvs ps r1 t1, @Paired.cons _ _ _ _ q _ _ r2 t2, @Pairs.cons _ _ _ _ _ e _ es _ k1 k2 p2 => by
    obtain ⟨as, bs, a1, a2, n1⟩ := drReadsK ok t1 t2 p2
    obtain ⟨cs, c1, n2⟩ := drReads ok r1 r2.2
    have hq : q.1 = Sum.inr x := r2.1.symm
    rw [hq] at k1
    have k1' : keyIs (Sum.inr x) e.key = true := k1
    rcases keyIs_shape k1' with ⟨i, t, z, _⟩ | ⟨y, t, z, ek⟩
    · cases z
    · cases z
      have c0 : Reads h e.key (.str x) [] := by
        rw [ek]
        exact .str x t
      have c2 : Reads h e.val d cs := by
        rw [k2]
        exact c1
      refine ⟨_, _, .cons c0 a1, .cons c2 a2, fun a ha => ?_⟩
      · simp only [List.nil_append, List.mem_append] at ha
        rcases ha with ha | ha | ha
        · exact n1 a (List.mem_append.mpr (.inl ha))
        · exact n2 a ha
        · exact n1 a (List.mem_append.mpr (.inr ha))
end
end
/-! ### how long it is -/
def tB : Nat → Nat
  | 0 => 122
  | n + 1 => capT (n + 1) * (tB n + 2) + 3
theorem tB_up (n : Nat) : tB n ≤ tB (n + 1) := by
  have := cap_ge (n + 1)
  show tB n ≤ capT (n + 1) * (tB n + 2) + 3
  have h2 : 8 * (tB n + 2) ≤ capT (n + 1) * (tB n + 2) := Nat.mul_le_mul_right _ this
  omega
theorem tB_mono {n m : Nat} (h : n ≤ m) : tB n ≤ tB m := by
  induction h with
  | refl => exact Nat.le_refl _
  | step _ ih => exact Nat.le_trans ih (tB_up _)
theorem tB_ge (n : Nat) : 122 ≤ tB n := tB_mono (Nat.zero_le n)
theorem shown_sum {B : Nat} : ∀ {ds : List PyData}, (∀ d ∈ ds, d.shown.length ≤ B) → ((PyData.shownAll ds).map (·.length)).sum ≤ ds.length * B
  | [], _ => by simp [PyData.shownAll]
  | d :: ds, h => by
    have h1 := h d (List.mem_cons_self ..)
    have h2 := shown_sum (B := B) (ds := ds) fun e he => h e (List.mem_cons_of_mem _ he)
    simp only [PyData.shownAll, List.map_cons, List.sum_cons, List.length_cons, Nat.add_mul, Nat.one_mul]
    omega
theorem shownAll_len : ∀ ds : List PyData, (PyData.shownAll ds).length = ds.length
  | [] => rfl
  | d :: ds => by simp [PyData.shownAll, shownAll_len ds]
theorem fit_seq {B c n : Nat} {ds : List PyData} (hl : ds.length ≤ c) (h : ∀ d ∈ ds, d.shown.length ≤ B) (hx : n ≤ ((PyData.shownAll ds).map (·.length)).sum + 2 * (PyData.shownAll ds).length + 3) : n ≤ c * (B + 2) + 3 := by
  have h1 := shown_sum h
  rw [shownAll_len] at hx
  have h2 : ds.length * (B + 2) ≤ c * (B + 2) := Nat.mul_le_mul_right _ hl
  rw [Nat.mul_add] at h2
  omega
theorem str_shown {x : Str} (h : okStr x = true) : (PyData.str x).shown.length ≤ 122 := by
  simp only [okStr, Bool.and_eq_true, decide_eq_true_eq, List.all_eq_true] at h
  have := PySem.StrLaws.reprText_len x fun c hc => h.2 c hc
  show (reprText x).length ≤ 122
  omega
theorem int_shown {i : Int} (h : i.natAbs.log2 < 100) : (PyData.int i).shown.length ≤ 101 := by
  have := int_text_length_le (a := i) (k := 100) (by decide) h
  show (Str.ofString (toString i)).length ≤ 101
  rw [PySem.ofString_length]
  exact this
mutual
theorem tame_shown : ∀ {d : PyData} {n : Nat}, tame true d n = true → d.shown.length ≤ tB n
  | .list xs, n, t => by
    simp only [tame, Bool.and_eq_true, decide_eq_true_eq] at t
    obtain ⟨m, rfl⟩ : ∃ m, n = m + 1 := ⟨n - 1, by omega⟩
    exact fit_seq t.1.2 (tameA_shown (n := m) t.2) (listText_len_le _)
  | .tuple xs, n, t => by
    simp only [tame, Bool.and_eq_true, decide_eq_true_eq] at t
    obtain ⟨m, rfl⟩ : ∃ m, n = m + 1 := ⟨n - 1, by omega⟩
    exact fit_seq t.1.2 (tameA_shown (n := m) t.2) (tupleText_len_le _)
  | .dict ps, n, t => by
    simp only [tame, Bool.and_eq_true, decide_eq_true_eq, Bool.or_eq_true, List.isEmpty_iff, Bool.true_and] at t
    have h2 : tB 2 ≤ tB n := tB_mono t.1
    have h3 : tB 2 = 7979 := by decide
    have hx := dictText_len_le (PyData.shownKv ps)
    show (dictText (PyData.shownKv ps)).length ≤ _
    rcases t.2 with rfl | h1
    · simp [PyData.shownKv] at hx ⊢
      omega
    · obtain ⟨x, i, rfl⟩ : ∃ x i, ps = [(.str x, .int i)] := by
        match ps, h1 with
        | [(.str x, .int i)], _ => exact ⟨x, i, rfl⟩
      simp only [okOne, Bool.and_eq_true, decide_eq_true_eq] at h1
      have e1 := str_shown h1.1
      have e2 := int_shown h1.2
      have e3 : ((": " : String) : Str).length = 2 := rfl
      simp only [PyData.shownKv, List.map_cons, List.map_nil, List.sum_cons, List.sum_nil, List.length_cons, List.length_nil, strLen_append, e3] at hx ⊢
      omega
  | .str x, n, t => by
    simp only [tame] at t
    exact Nat.le_trans (str_shown t) (tB_ge n)
  | .int i, n, t => by
    simp only [tame, decide_eq_true_eq] at t
    exact Nat.le_trans (int_shown t) (Nat.le_trans (by decide) (tB_ge n))
  | .bool b, n, _ => by
    have h1 : (PyData.bool b).shown.length ≤ 122 := by cases b <;> decide
    exact Nat.le_trans h1 (tB_ge n)
  | .none, n, _ => by
    have h1 : (PyData.none).shown.length ≤ 122 := by decide
    exact Nat.le_trans h1 (tB_ge n)
theorem tameA_shown : ∀ {ds : List PyData} {n : Nat}, tameA true ds n = true → ∀ d ∈ ds, d.shown.length ≤ tB n
  | [], _, _, d, hd => by cases hd
  | x :: xs, n, t, d, hd => by
    simp only [tameA, Bool.and_eq_true] at t
    have hx := tame_shown t.1
    rcases List.mem_cons.mp hd with e | hd
    · rw [e]
      exact hx
    · exact tameA_shown t.2 d hd
end
mutual
theorem tame_showable : ∀ {d : PyData} {n : Nat}, tame true d n = true → d.showable = true ∧ d.depth ≤ n + 1
  | .list xs, n, t => by
    simp only [tame, Bool.and_eq_true, decide_eq_true_eq] at t
    obtain ⟨m, rfl⟩ : ∃ m, n = m + 1 := ⟨n - 1, by omega⟩
    obtain ⟨h1, h2⟩ := tameA_showable (n := m) t.2
    exact ⟨by simpa [PyData.showable] using h1, by simp only [PyData.depth]; omega⟩
  | .tuple xs, n, t => by
    simp only [tame, Bool.and_eq_true, decide_eq_true_eq] at t
    obtain ⟨m, rfl⟩ : ∃ m, n = m + 1 := ⟨n - 1, by omega⟩
    obtain ⟨h1, h2⟩ := tameA_showable (n := m) t.2
    exact ⟨by simpa [PyData.showable] using h1, by simp only [PyData.depth]; omega⟩
  | .dict ps, n, t => by
    simp only [tame, Bool.and_eq_true, decide_eq_true_eq, Bool.or_eq_true, List.isEmpty_iff, Bool.true_and] at t
    rcases t.2 with rfl | h1
    · exact ⟨rfl, by simp [PyData.depth, PyData.depthKv]⟩
    · obtain ⟨x, i, rfl⟩ : ∃ x i, ps = [(.str x, .int i)] := by
        match ps, h1 with
        | [(.str x, .int i)], _ => exact ⟨x, i, rfl⟩
      simp only [okOne, Bool.and_eq_true, decide_eq_true_eq] at h1
      refine ⟨?_, by simp [PyData.depth, PyData.depthKv]⟩
      simp only [PyData.showable, PyData.showableKv, Bool.and_true, Bool.true_and, decide_eq_true_eq]
      have := h1.2
      omega
  | .str x, n, t => ⟨rfl, by simp [PyData.depth]⟩
  | .int i, n, t => by
    simp only [tame, decide_eq_true_eq] at t
    exact ⟨by simp only [PyData.showable, decide_eq_true_eq]; omega, by simp [PyData.depth]⟩
  | .bool b, n, _ => ⟨rfl, by simp [PyData.depth]⟩
  | .none, n, _ => ⟨rfl, by simp [PyData.depth]⟩
theorem tameA_showable : ∀ {ds : List PyData} {n : Nat}, tameA true ds n = true → PyData.showableAll ds = true ∧ PyData.depthAll ds ≤ n + 1
  | [], _, _ => ⟨rfl, by simp [PyData.depthAll]⟩
  | x :: xs, n, t => by
    simp only [tameA, Bool.and_eq_true] at t
    obtain ⟨h1, h2⟩ := tame_showable t.1
    obtain ⟨h3, h4⟩ := tameA_showable t.2
    exact ⟨by simp [PyData.showableAll, h1, h3], by simp only [PyData.depthAll]; omega⟩
end
/-- repr can be asked of it -/
def rprOk (d : PyData) : Prop := d.showable = true ∧ d.shown.length ≤ sizeLine ∧ d.depth ≤ 100
theorem rpr_tame {d : PyData} {n : Nat} (h : tame true d n = true) (hn : n ≤ 4) : rprOk d := by
  obtain ⟨h1, h2⟩ := tame_showable h
  refine ⟨h1, Nat.le_trans (tame_shown h) (Nat.le_trans (tB_mono hn) (by decide)), by omega⟩
theorem rpr_two {d e : PyData} (h1 : tame true d 3 = true) (h2 : tame true e 4 = true) : rprOk (.list [d, e]) := by
  obtain ⟨a1, a2⟩ := tame_showable h1
  obtain ⟨b1, b2⟩ := tame_showable h2
  have c1 := tame_shown h1
  have c2 := tame_shown h2
  have z := listText_len_le (PyData.shownAll [d, e])
  have t3 : tB 3 = 319243 := by decide
  have t4 : tB 4 = 12769803 := by decide
  refine ⟨by simp [PyData.showable, PyData.showableAll, a1, b1], ?_, by simp only [PyData.depth, PyData.depthAll]; omega⟩
  show (listText (PyData.shownAll [d, e])).length ≤ sizeLine
  simp only [PyData.shownAll, List.map_cons, List.map_nil, List.sum_cons, List.sum_nil, List.length_cons, List.length_nil] at z ⊢
  have sz : sizeLine = 16777216 := rfl
  omega
/-- repr(x) -/
def rReprD : List V → Hp → VK → Prop := fun xs H Q => ∃ x d, xs = [x] ∧ Dr All H x d ∧ rprOk d ∧ Q (.str d.shown) H
theorem call_reprD {X : Cx} {k : Nat} (room : Room k X.A) (free : X.A.guards = some []) (sm : ∃ o, X.base.get? sysModules = some o) : CallR X (.builtin "repr") rReprD := by
  intro pins s σ H xs us Q I r h
  obtain ⟨x, d, rfl, rd, ⟨k1, k2, k3⟩, q⟩ := h
  obtain ⟨u, rfl, rv⟩ := vals1 r
  obtain ⟨as, hr, hn⟩ := drReads I.hok rd rv
  have hu := room.un
  have hsm : d.hasDict = true → sysModules ∉ as := fun _ z => by
    obtain ⟨o, e⟩ := sm
    exact hn _ z (I.bs _ _ e).2
  cases hr with
  | none => exact PySem.P.repr_of_none ⟨.str _, H, I.tok _, ⟨_, rfl⟩, q⟩
  | bool b => exact PySem.P.repr_of_bool ⟨.str _, H, I.tok _, ⟨_, rfl⟩, q⟩
  | int i t =>
    simp only [PyData.showable, decide_eq_true_eq] at k1
    exact PySem.P.repr_of_int k1 ⟨.str _, H, I.tok _, ⟨_, rfl⟩, q⟩
  | str x t => exact PySem.P.repr_of_str ⟨.str _, H, I.tok _, ⟨_, rfl⟩, q⟩ k2
  | list h1 h2 h3 h4 => exact PySem.repr_of_reads' (.list h1 h2 h3 h4) k1 hsm free (by omega) (fun _ _ e => e) (fun h' u tk hk => ⟨.str _, H, I.kept hk, ⟨_, rfl⟩, q⟩) k2
  | tuple h1 h2 h3 h4 => exact PySem.repr_of_reads' (.tuple h1 h2 h3 h4) k1 hsm free (by omega) (fun _ _ e => e) (fun h' u tk hk => ⟨.str _, H, I.kept hk, ⟨_, rfl⟩, q⟩) k2
  | dict h1 h2 h3 h4 h5 => exact PySem.repr_of_reads' (.dict h1 h2 h3 h4 h5) k1 hsm free (by omega) (fun _ _ e => e) (fun h' u tk hk => ⟨.str _, H, I.kept hk, ⟨_, rfl⟩, q⟩) k2
end K8

/-! The defs that are called by keywords alone. -/
namespace K8
open PySem PySem.Spec PyProof.Rows L2 WR
section
variable {P : Program} {w : World} {K : PySem.W.Frag} {mg : Str → Option Value} {base : Heap} {CX : CXT} {k : Nat} {x : Str} {ps : List Str} {sp : Sp} {d : He.DefD}
theorem DfF.kw (D : DfF P w K mg base CX k x ps sp d) (ks : List Str) (g : {α : Type} → List α → List α) (hrel : ∀ {zs : List V} {ws : List Value}, Vals zs ws → Vals (g zs) (g ws))
    (h : ∀ (kV doc pm : Value) (an : Option Addr) (cdv ct : Value) (ws : List Value), ws.length = ks.length → bindArgs (PySem.W.fnOf d.name d.qual d.params d.body d.scope .none kV doc pm an cdv ct) ⟨[], ks.zip ws⟩ = pure (ps.zip (g ws))) :
    DfK P w K mg base CX k x ps ks (fun _ ws => g ws) (fun _ zs => g zs) sp := by
  obtain ⟨f, fd, hm, F, b, G⟩ := D.ex
  refine ⟨f, fd, hm, F.kp, ⟨fun s us ws X l1 l2 => ?_, fun r1 r2 => hrel r2⟩, G⟩
  obtain rfl : us = [] := List.eq_nil_of_length_eq_zero l1
  obtain ⟨oc, od, dV, kV, doc, pm, an, cdv, ct, osl, rfl, lk, hcd, hD, hK⟩ := F.ex
  rcases hD with ⟨_, rfl⟩ | ⟨e, _⟩
  · exact .of_eq (h kV doc pm an cdv ct ws l2)
  · exact absurd rfl e
theorem kw_web_fault (D : DfF P w K mg base CX k x ["thing"] sp dweb_fault) : DfK P w K mg base CX k x ["thing"] ["thing"] (fun _ ws => ws) (fun _ zs => zs) sp :=
  D.kw ["thing"] (fun l => l) (fun r => r) fun _ _ _ _ _ _ ws hl => match ws, hl with | [_], _ => rfl
theorem kw_is_web (D : DfF P w K mg base CX k x ["thing"] sp dis_web) : DfK P w K mg base CX k x ["thing"] ["thing"] (fun _ ws => ws) (fun _ zs => zs) sp :=
  D.kw ["thing"] (fun l => l) (fun r => r) fun _ _ _ _ _ _ ws hl => match ws, hl with | [_], _ => rfl
theorem kw_put_row (D : DfF P w K mg base CX k x ["web", "row"] sp dput_row) : DfK P w K mg base CX k x ["web", "row"] ["row", "web"] (fun _ ws => ws.reverse) (fun _ zs => zs.reverse) sp :=
  D.kw ["row", "web"] (fun l => l.reverse) (fun r => r.reverse) fun _ _ _ _ _ _ ws hl => match ws, hl with | [_, _], _ => rfl
end
end K8

/-! Lists for tuples: the same rows, the same faults. Two scans of one web tell the same. -/
namespace K8
open PySem PySem.Spec PyProof.Rows L2 WR
theorem Lo.scal {x y : PyData} (h : Lo x y) (z : isDL x = false) : y = x := by
  cases h with
  | same _ => rfl
  | dct => rfl
  | _ => cases z
theorem Lo.eqL {x y : PyData} (h : Lo x y) : isL x = isL y := by
  cases h <;> rfl
theorem Lo.eqDL {x y : PyData} (h : Lo x y) : isDL x = isDL y := by
  cases h <;> rfl
theorem LoA.length : ∀ {xs ys : List PyData}, LoA xs ys → xs.length = ys.length
  | _, _, .nil => rfl
  | _, _, .cons _ t => by simp [LoA.length t]
theorem Lo.items {x y : PyData} (h : Lo x y) : LoA (its x) (its y) := by
  cases h with
  | same z =>
    have e : its x = [] := by cases x <;> first | rfl | cases z
    rw [e]
    exact .nil
  | dct => exact .nil
  | ll a => exact a
  | lt a => exact a
  | tl a => exact a
  | tt a => exact a
theorem LoA.getD : ∀ {xs ys : List PyData} (i : Nat), LoA xs ys → Lo (xs.getD i .none) (ys.getD i .none)
  | _, _, i, .nil => by simpa using Lo.same (d := .none) rfl
  | _, _, 0, .cons a _ => by simpa using a
  | _, _, i + 1, .cons _ t => by simpa using LoA.getD i t
theorem LoA.drop : ∀ {xs ys : List PyData} (i : Nat), LoA xs ys → LoA (xs.drop i) (ys.drop i)
  | _, _, 0, h => h
  | _, _, i + 1, .nil => .nil
  | _, _, i + 1, .cons _ t => by simpa using LoA.drop i t
theorem Lo.nth {x y : PyData} (h : Lo x y) (i : Nat) : Lo (K8.nth x i) (K8.nth y i) := h.items.getD i
/-- of what tells true of plain things alone -/
theorem Lo.pred {f : PyData → Bool} (hf : ∀ d : PyData, K8.isDL d = true → f d = false) {x y : PyData} (h : Lo x y) : f x = f y ∧ (f x = true → x = y) := by
  cases hd : K8.isDL x with
  | false => rw [h.scal hd]; exact ⟨rfl, fun _ => rfl⟩
  | true =>
    have hy : K8.isDL y = true := by rw [← h.eqDL]; exact hd
    rw [hf x hd, hf y hy]
    exact ⟨rfl, fun z => nomatch z⟩
theorem dl_num (d : PyData) (h : isDL d = true) : isNum d = false := by cases d <;> first | rfl | cases h
theorem dl_s (d : PyData) (h : isDL d = true) : isS d = false := by cases d <;> first | rfl | cases h
theorem dl_name (d : PyData) (h : isDL d = true) : isName d = false := by cases d <;> first | rfl | cases h
theorem LoA.nums : ∀ {xs ys : List PyData}, LoA xs ys → xs.all isNum = ys.all isNum ∧ (xs.all isNum = true → xs = ys)
  | _, _, .nil => ⟨rfl, fun _ => rfl⟩
  | _, _, .cons (d := d) (e := e) (ds := ds) (es := es) a t => by
    obtain ⟨h1, h2⟩ := Lo.pred dl_num a
    obtain ⟨h3, h4⟩ := LoA.nums t
    refine ⟨by simp only [List.all_cons, h1, h3], fun z => ?_⟩
    simp only [List.all_cons, Bool.and_eq_true] at z
    rw [h2 z.1, h4 z.2]
theorem rowForm_lo {d e : PyData} (h : Lo d e) : rowForm d = rowForm e := by
  have hL := h.eqL
  have hl := h.items.length
  obtain ⟨s1, s2⟩ := Lo.pred dl_s (h.nth 0)
  unfold rowForm
  rw [← hL, ← hl, ← s1]
  by_cases c : isL d = true ∧ (its d).length ≠ 0 ∧ isS (nth d 0) = true
  · rw [if_pos c, if_pos c]
    have e0 := s2 c.2.2
    obtain ⟨n1, n2⟩ := Lo.pred dl_name (h.nth 1)
    obtain ⟨a1, a2⟩ := (h.nth 2).items.nums
    have a3 : areNums (nth d 2) = areNums (nth e 2) := by unfold areNums; rw [(h.nth 2).eqL, a1]
    obtain ⟨b1, b2⟩ := (h.items.drop 1).nums
    have at_ : ∀ i, nth d (i + 1) = ((its d).drop 1).getD i .none := fun i => by simp [nth, List.getD_eq_getElem?_getD, List.getElem?_drop, Nat.add_comm]
    have at2 : ∀ i, nth e (i + 1) = ((its e).drop 1).getD i .none := fun i => by simp [nth, List.getD_eq_getElem?_getD, List.getElem?_drop, Nat.add_comm]
    unfold rowForm2
    rw [← e0, ← hl, ← n1, ← a3, ← b1]
    by_cases c1 : (strOf (nth d 0) = "made" ∨ strOf (nth d 0) = "asked") ∧ (its d).length = 3
    · rw [if_pos c1, if_pos c1]
      by_cases c2 : (isName (nth d 1) && areNums (nth d 2)) = true
      · rw [if_pos c2, if_pos c2]
        simp only [Bool.and_eq_true] at c2
        have c3 := c2.2
        simp only [areNums, Bool.and_eq_true] at c3
        rw [← n2 c2.1, ← a2 c3.2]
      · rw [if_neg c2, if_neg c2]
    · rw [if_neg c1, if_neg c1]
      by_cases b : ((its d).drop 1).all isNum = true
      · have eb := b2 b
        rw [at_ 0, at_ 1, at_ 2, at2 0, at2 1, at2 2, ← eb]
      · have n1 : ¬ (strOf (nth d 0) = "either" ∧ (its d).length = 4 ∧ ((its d).drop 1).all isNum = true) := fun z => b z.2.2
        have n2 : ¬ (strOf (nth d 0) = "given" ∧ (its d).length = 2 ∧ ((its d).drop 1).all isNum = true) := fun z => b z.2.2
        rw [if_neg n1, if_neg n1, if_neg n2, if_neg n2]
  · rw [if_neg c, if_neg c]
theorem Scan.lo {R R' : List Row} {n : Nat} {ds : List PyData} {f : PyData} (h : Scan R n ds R' f) : ∀ {es : List PyData}, LoA ds es → Scan R n es R' f := by
  induction h with
  | done =>
    intro es a
    cases a
    exact .done
  | form e =>
    intro es a
    cases a with
    | cons a t => exact .form (by rw [← rowForm_lo a]; exact e)
  | why e1 e2 =>
    intro es a
    cases a with
    | cons a t => exact .why (by rw [← rowForm_lo a]; exact e1) e2
  | twice e1 e2 e3 =>
    intro es a
    cases a with
    | cons a t => exact .twice (by rw [← rowForm_lo a]; exact e1) e2 e3
  | next e1 e2 e3 _ ih =>
    intro es a
    cases a with
    | cons a t => exact .next (by rw [← rowForm_lo a]; exact e1) e2 e3 (ih t)
theorem ScanOf.lo {d e : PyData} {R : List Row} {f : PyData} (h : ScanOf d R f) (l : Lo d e) : ScanOf e R f := by
  rcases h with ⟨hL, h⟩ | ⟨hL, h⟩
  · exact .inl ⟨by rw [← l.eqL]; exact hL, h.lo l.items⟩
  · exact .inr ⟨by rw [← l.eqL]; exact hL, h⟩
theorem Scan.det {R R1 R2 : List Row} {n : Nat} {ds : List PyData} {f1 f2 : PyData} (h : Scan R n ds R1 f1) : Scan R n ds R2 f2 → R1 = R2 ∧ f1 = f2 := by
  induction h with
  | done =>
    intro k
    cases k
    exact ⟨rfl, rfl⟩
  | form e =>
    intro k
    cases k with
    | form _ => exact ⟨rfl, rfl⟩
    | why e1 _ => exact absurd (e1.symm.trans e) (Row.d_ne _)
    | twice e1 _ _ => exact absurd (e1.symm.trans e) (Row.d_ne _)
    | next e1 _ _ _ => exact absurd (e1.symm.trans e) (Row.d_ne _)
  | why e e2 =>
    intro k
    cases k with
    | form e1 => exact absurd (e.symm.trans e1) (Row.d_ne _)
    | why e1 e3 =>
      have := Row.d_inj (e.symm.trans e1)
      subst this
      rw [e2] at e3
      cases e3
      exact ⟨rfl, rfl⟩
    | twice e1 e3 _ =>
      have := Row.d_inj (e.symm.trans e1)
      subst this
      rw [e2] at e3
      cases e3
    | next e1 e3 _ _ =>
      have := Row.d_inj (e.symm.trans e1)
      subst this
      rw [e2] at e3
      cases e3
  | twice e e2 m =>
    intro k
    cases k with
    | form e1 => exact absurd (e.symm.trans e1) (Row.d_ne _)
    | why e1 e3 =>
      have := Row.d_inj (e.symm.trans e1)
      subst this
      rw [e2] at e3
      cases e3
    | twice e1 e3 _ => exact ⟨rfl, rfl⟩
    | next e1 e3 m2 _ =>
      have := Row.d_inj (e.symm.trans e1)
      subst this
      exact absurd m m2
  | next e e2 m _ ih =>
    intro k
    cases k with
    | form e1 => exact absurd (e.symm.trans e1) (Row.d_ne _)
    | why e1 e3 =>
      have := Row.d_inj (e.symm.trans e1)
      subst this
      rw [e2] at e3
      cases e3
    | twice e1 e3 m2 =>
      have := Row.d_inj (e.symm.trans e1)
      subst this
      exact absurd m2 m
    | next e1 e3 m2 k2 =>
      have := Row.d_inj (e.symm.trans e1)
      subst this
      exact ih k2
theorem ScanOf.det {d : PyData} {R1 R2 : List Row} {f1 f2 : PyData} (h : ScanOf d R1 f1) (k : ScanOf d R2 f2) : R1 = R2 ∧ f1 = f2 := by
  rcases h with ⟨hL, h⟩ | ⟨hL, h1, h2⟩ <;> rcases k with ⟨kL, k⟩ | ⟨kL, k1, k2⟩
  · exact h.det k
  · rw [hL] at kL; cases kL
  · rw [hL] at kL; cases kL
  · exact ⟨h1.trans k1.symm, h2.trans k2.symm⟩
mutual
theorem tame_lo {b : Bool} : ∀ {d e : PyData} {n : Nat}, Lo d e → tame b d n = true → tame b e n = true
  | _, _, _, .same _, t => t
  | _, _, _, .dct, t => t
  | _, _, _, .ll a, t => by
    simp only [tame, Bool.and_eq_true, decide_eq_true_eq] at t ⊢
    exact ⟨⟨t.1.1, by rw [← a.length]; exact t.1.2⟩, tameA_lo a t.2⟩
  | _, _, _, .lt a, t => by
    simp only [tame, Bool.and_eq_true, decide_eq_true_eq] at t ⊢
    exact ⟨⟨t.1.1, by rw [← a.length]; exact t.1.2⟩, tameA_lo a t.2⟩
  | _, _, _, .tl a, t => by
    simp only [tame, Bool.and_eq_true, decide_eq_true_eq] at t ⊢
    exact ⟨⟨t.1.1, by rw [← a.length]; exact t.1.2⟩, tameA_lo a t.2⟩
  | _, _, _, .tt a, t => by
    simp only [tame, Bool.and_eq_true, decide_eq_true_eq] at t ⊢
    exact ⟨⟨t.1.1, by rw [← a.length]; exact t.1.2⟩, tameA_lo a t.2⟩
theorem tameA_lo {b : Bool} : ∀ {ds es : List PyData} {n : Nat}, LoA ds es → tameA b ds n = true → tameA b es n = true
  | _, _, _, .nil, _ => rfl
  | _, _, _, .cons a t, h => by
    simp only [tameA, Bool.and_eq_true] at h ⊢
    exact ⟨tame_lo a h.1, tameA_lo t h.2⟩
end
mutual
theorem tame_wd : ∀ {d : PyData} {n : Nat}, tame true d n = true → wd d = true
  | .list xs, n, t => by
    simp only [tame, Bool.and_eq_true, decide_eq_true_eq] at t
    simp only [wd, Bool.and_eq_true, decide_eq_true_eq]
    exact ⟨Nat.le_trans t.1.2 (Nat.le_trans (cap_le n) (by decide)), tameA_wd t.2⟩
  | .tuple xs, n, t => by
    simp only [tame, Bool.and_eq_true, decide_eq_true_eq] at t
    simp only [wd, Bool.and_eq_true, decide_eq_true_eq]
    exact ⟨Nat.le_trans t.1.2 (Nat.le_trans (cap_le n) (by decide)), tameA_wd t.2⟩
  | .dict ps, n, t => by
    simp only [tame, Bool.and_eq_true, decide_eq_true_eq, Bool.or_eq_true, List.isEmpty_iff, Bool.true_and] at t
    rcases t.2 with rfl | h1
    · rfl
    · obtain ⟨x, i, rfl⟩ : ∃ x i, ps = [(.str x, .int i)] := by
        match ps, h1 with
        | [(.str x, .int i)], _ => exact ⟨x, i, rfl⟩
      simp only [okOne, okStr, Bool.and_eq_true, decide_eq_true_eq] at h1
      simp only [wd, wdK, Bool.and_eq_true, decide_eq_true_eq, List.length_cons, List.length_nil]
      have l : lim = 4000 := rfl
      exact ⟨by omega, ⟨by omega, by omega⟩, trivial⟩
  | .str x, n, t => by
    simp only [tame, okStr, Bool.and_eq_true, decide_eq_true_eq] at t
    simp only [wd, decide_eq_true_eq]
    have l : lim = 4000 := rfl
    omega
  | .int i, n, t => by
    simp only [tame, decide_eq_true_eq] at t
    simp only [wd, decide_eq_true_eq]
    omega
  | .bool _, _, _ => rfl
  | .none, _, _ => rfl
theorem tameA_wd : ∀ {ds : List PyData} {n : Nat}, tameA true ds n = true → wdA ds = true
  | [], _, _ => rfl
  | d :: ds, n, t => by
    simp only [tameA, Bool.and_eq_true] at t
    simp only [wdA, Bool.and_eq_true]
    exact ⟨tame_wd t.1, tameA_wd t.2⟩
end
end K8

/-! _law_judged_right. -/
namespace K8
open PySem PySem.Spec PyProof.Rows L2 WR LamX
/-- all but the well and the tables of code stay -/
def GwN (w : Addr) (H H' : Hp) : Prop := ∀ b o, b ≠ w → H b = some o → (∀ ps, o ≠ .tbl ps) → H' b = some o
theorem GwN.of {w : Addr} {H H' : Hp} (s : Gw w H H') : GwN w H H' := fun b o h e _ => s b o h e
theorem GwN.ext {w : Addr} {H H' : Hp} (s : ExtN H H') : GwN w H H' := fun b o _ e n => s b o e n
theorem GwN.trans {w : Addr} {H H1 H2 : Hp} (s : GwN w H H1) (t : GwN w H1 H2) : GwN w H H2 := fun b o h e n => t b o h (s b o h e n) n
theorem tabs_gw {T : List (Addr × Str)} {w : Addr} {n : Nat} {H H' : Hp} (t : Tabs T H) (hw : Wl H w n) (g : Gw w H H') : Tabs T H' := fun p hp => by
  obtain ⟨ps, h1, h2, h3⟩ := t p hp
  obtain ⟨a, b, c, ew, _⟩ := hw
  refine ⟨ps, g _ _ (fun z => ?_) h1, h2, fun pos cv hc => ?_⟩
  · rw [z, ew] at h1
    cases h1
  · obtain ⟨c0, e1, e2⟩ := h3 pos cv hc
    refine ⟨c0, e1, g _ _ (fun z => ?_) e2⟩
    rw [z, ew] at e2
    unfold CodeO at e2
    cases e2
mutual
theorem drX {N : Addr → Prop} {H H' : Hp} (x : ExtN H H') : ∀ {d : PyData} {v : V}, Dr N H v d → Dr N H' v d
  | _, _, .non => .non
  | _, _, .bl b => .bl b
  | _, _, .int i => .int i
  | _, _, .str y => .str y
  | _, _, .lst n e r => .lst n (x _ _ e fun _ z => nomatch z) (drXA x r)
  | _, _, .tup e r => .tup (x _ _ e fun _ z => nomatch z) (drXA x r)
  | _, _, .dct n e r => .dct n (x _ _ e fun _ z => nomatch z) (drXK x r)
theorem drXA {N : Addr → Prop} {H H' : Hp} (x : ExtN H H') : ∀ {ds : List PyData} {vs : List V}, DrA N H vs ds → DrA N H' vs ds
  | _, _, .nil => .nil
  | _, _, .cons r t => .cons (drX x r) (drXA x t)
theorem drXK {N : Addr → Prop} {H H' : Hp} (x : ExtN H H') : ∀ {ps : List (PyData × PyData)} {kvs : List (Key × V)}, DrK N H kvs ps → DrK N H' kvs ps
  | _, _, .nil => .nil
  | _, _, .cons r t => .cons (drX x r) (drXK x t)
end
/-- what the law's own functions that make lambdas promise of the tables -/
abbrev TabL : Type := List (Addr × Str)
abbrev spJR (T : TabL) : Sp := fun vs H Q _ => ∃ (w : Addr) (n : Nat) (v : V) (d : PyData), vs = [.ref w, v] ∧ Wl H w n ∧ n + 41 ^ 4 + 6000 < top0 ∧ Dr (Ne w) H v d ∧ tame true d 4 = true ∧ Tabs T H ∧
  ∀ H', GwN w H H' → Wl H' w (n + 41 ^ 4) → Tabs T H' → Q (.bl true) H'
theorem ScanOf.fz {d : PyData} {R : List Row} {f : PyData} (h : ScanOf d R f) : WR.fz f = true := by
  rcases h.res with rfl | ⟨m, x, rfl⟩ <;> rfl
theorem why_len {R : List Row} {r : Row} {x : Str} (h : why R r = some x) : x.length ≤ 10 := by
  unfold why at h
  split at h
  · cases h
    decide
  · unfold why2 at h
    split at h
    · cases h
      decide
    · unfold why3 at h
      split at h
      · cases h
        decide
      · unfold why4 at h
        split at h
        · cases h
          decide
        · cases h
theorem nat_log {n : Nat} (h : n ≤ 1000000) : ((n : Nat) : Int).natAbs.log2 < 100 := log_small (by
  have : (1000000 : Nat) < 2 ^ 99 := by decide
  have e : ((n : Nat) : Int).natAbs = n := Int.natAbs_natCast n
  omega)
theorem fault_fit {n : Nat} {x : Str} (hn : n ≤ 1000000) (hx : x.length ≤ 10) : fit (faultD n x) 1 = true := by
  have := nat_log hn
  have l : lim = 4000 := rfl
  simp only [faultD, fit, fitA, List.length_cons, List.length_nil, Bool.and_eq_true, decide_eq_true_eq, Bool.and_true]
  exact ⟨⟨by omega, by omega⟩, ⟨by omega, by omega⟩⟩
theorem Scan.fit {R R' : List Row} {n : Nat} {ds : List PyData} {f : PyData} (h : Scan R n ds R' f) : n + ds.length ≤ 1000000 → K8.fit f 1 = true := by
  induction h with
  | done => intro _; rfl
  | form _ => intro l; exact fault_fit (by simp at l; omega) (by decide)
  | why _ e => intro l; exact fault_fit (by simp at l; omega) (why_len e)
  | twice _ _ _ => intro l; exact fault_fit (by simp at l; omega) (by decide)
  | next _ _ _ _ ih => intro l; exact ih (by simp at l ⊢; omega)
theorem ScanOf.fit {d : PyData} {R : List Row} {f : PyData} (h : ScanOf d R f) (w : wd d = true) : K8.fit f 1 = true := by
  have l : lim = 4000 := rfl
  rcases h with ⟨hL, h⟩ | ⟨_, _, rfl⟩
  · exact h.fit (by have := (wd_its w hL).1; omega)
  · exact fault_fit (by omega) (by decide)
mutual
theorem fit_mono : ∀ {d : PyData} {n m : Nat}, n ≤ m → fit d n = true → fit d m = true
  | .list xs, n, m, h, t => by
    simp only [fit, Bool.and_eq_true, decide_eq_true_eq] at t ⊢
    exact ⟨⟨by omega, t.1.2⟩, fitA_mono (by omega) t.2⟩
  | .tuple xs, n, m, h, t => by
    simp only [fit, Bool.and_eq_true, decide_eq_true_eq] at t ⊢
    exact ⟨⟨by omega, t.1.2⟩, fitA_mono (by omega) t.2⟩
  | .dict ps, n, m, h, t => by
    simp only [fit, Bool.and_eq_true, decide_eq_true_eq] at t ⊢
    exact ⟨by omega, t.2⟩
  | .str x, n, m, h, t => by simpa only [fit] using t
  | .int i, n, m, h, t => by simpa only [fit] using t
  | .bool _, n, m, h, t => by simp only [fit]
  | .none, n, m, h, t => by simp only [fit]
theorem fitA_mono : ∀ {ds : List PyData} {n m : Nat}, n ≤ m → fitA ds n = true → fitA ds m = true
  | [], _, _, _, _ => rfl
  | d :: ds, n, m, h, t => by
    simp only [fitA, Bool.and_eq_true] at t ⊢
    exact ⟨fit_mono h t.1, fitA_mono h t.2⟩
end
theorem fit_two {d e : PyData} {n : Nat} (h : fit d n = true) (k : fit e n = true) : fit (.list [d, e]) (n + 1) = true := by
  have l : lim = 4000 := rfl
  simp only [fit, fitA, List.length_cons, List.length_nil, Bool.and_eq_true, decide_eq_true_eq, Nat.add_sub_cancel]
  exact ⟨⟨by omega, by omega⟩, h, k, trivial⟩
section
variable {P : Program} {w : World} {K : PySem.W.Frag} {mg : Str → Option Value} {base : Heap} {CW CR : Addr}
theorem sc__law_judged_right : FnScope ["well", "thing", "due", "passed", "was", "found", "wanted"] ["well", "thing"] (defScope s_law_judged_right) := ⟨rfl, rfl, rfl, by decide +kernel, rfl, by decide +kernel, by decide +kernel⟩
theorem ok__law_judged_right (B : Bt mg) (SM : ∃ o, base.get? sysModules = some o) (E2 : Ex2 K mg CW CR) (FM : Fn K mg d_law_met)
    (D1 : Df P w K mg base CX0 4 "_law_g_fault" ["thing"] spFault) (D2 : Df P w K mg base CX0 7 "_law_loose" ["well", "thing"] (spLoose 5)) (D3 : Df P w K mg base CX0 5 "_law_same" ["found", "due"] (spSame 5))
    (D4 : DfF P w K mg base CX0 6 "web_fault" ["thing"] spFault dweb_fault) (D5 : DfF P w K mg base CX0 7 "is_web" ["thing"] spIsWeb dis_web) (D6 : Df P w K mg base (L2.CX P w) 7 "put_row" ["web", "row"] (spPutRow CW CR))
    {T : TabL} {c Pt f : Addr} {dV kV doc pm ct oc : Value} {an od : Option Addr} {osl : Array (Option Value)} (TB : TabB base mg c Pt) (hmT : (Pt, ("_law_judged_right" : Str) ++ ".<locals>." ++ "<lambda>") ∈ T) (hu : ∀ p ∈ T, p.1 = Pt → p.2 = ("_law_judged_right" : Str) ++ ".<locals>." ++ "<lambda>")
    (lk : K.lookup f = some ⟨oc, od, .func (PySem.W.fnOf d_law_judged_right.name d_law_judged_right.qual d_law_judged_right.params d_law_judged_right.body d_law_judged_right.scope dV kV doc pm an (.ref c) ct), osl⟩) (hcd : PySem.W.codeIn K (.ref c) d_law_judged_right.qual = true) :
    FnG P w K mg base CX0 10 f (PySem.W.fnOf d_law_judged_right.name d_law_judged_right.qual d_law_judged_right.params d_law_judged_right.body d_law_judged_right.scope dV kV doc pm an (.ref c) ct) ["well", "thing"] (spJR T) := by
  refine fnG_of (N := ["well", "thing", "due", "passed", "was", "found", "wanted"]) lk hcd sc__law_judged_right (fun vs H Q E h => by obtain ⟨w, n, v, d, rfl, _⟩ := h; rfl) (fun A outer s H vs Q E hr free h => ?_)
  obtain ⟨wa, n, v, d, rfl, hw, hn, rd, td, hT, q⟩ := h
  have hr4 := hr.mono (show 4 ≤ 9 by decide)
  have hr5 := hr.mono (show 5 ≤ 9 by decide)
  have hr6 := hr.mono (show 6 ≤ 9 by decide)
  have hr7 := hr.mono (show 7 ≤ 9 by decide)
  have hu0 := hr.un
  obtain ⟨g, fdg, mm, FD⟩ := FM
  obtain ⟨ocg, odg, dVg, kVg, docg, pmg, ang, cdg, ctg, oslg, rfl, lkg, hcg, _, _⟩ := FD.ex
  have bm : L2.Binds K (PySem.W.fnOf d_law_met.name d_law_met.qual d_law_met.params d_law_met.body d_law_met.scope dVg kVg docg pmg ang cdg ctg) ["ask"] [] := FD.bindsN fun _ _ _ _ _ _ us hl => match us, hl with | [_], _ => rfl
  refine ⟨_, PSs.nox (pss_cons (ps_par (i := 2) (j := 3) (by rfl) sc__law_judged_right.nd rfl rfl (by decide) rfl rfl (pa_cons (pe_df D1 hr4 pass0 (pa_cons (pv 1) pa_nil)) (pa_cons (pe_df D2 hr7 pass0 (pa_cons (pv 0) (pa_cons (pv 1) pa_nil))) pa_nil)) (by first | rfl | kernel_rfl))
      (pss_cons (ps_set (i := 4) sc__law_judged_right.nd rfl (by first | exact Or.inl rfl | exact Or.inr rfl) (pe_callB (call_reprD hr free SM) (by rfl) B.repr (by decide +kernel) (pa_cons (pv 3) pa_nil)))
      (pss_cons (ps_set (i := 5) sc__law_judged_right.nd rfl (by first | exact Or.inl rfl | exact Or.inr rfl) (pe_lst (pa_cons (pe_df D4.df hr6 pass0 (pa_cons (pv 3) pa_nil)) (pa_cons (pe_dfK (kw_web_fault D4) hr6 pass0 (pk_cons (pv 1) pk_nil)) pa_nil))))
      (pss_cons (ps_if (PW.pt (pw_or (pt_not (pt_val (pe_df D3 hr5 pass0 (pa_cons (pv 5) (pa_cons (pe_lst (pa_cons (pv 2) (pa_cons (pv 2) pa_nil))) pa_nil))))) (pw_or1 (pt_cmpR op_ne (pe_callB (call_reprD hr free SM) (by rfl) B.repr (by decide +kernel) (pa_cons (pv 3) pa_nil)) (pv 4) (nomark _))))) (pss_one (ps_ret pe_bl)) pss_nil)
      (pss_cons (ps_if (pt_not (pt_val (pe_df D3 hr5 pass0 (pa_cons (pe_lst (pa_cons (pe_df D5.df hr7 pass0 (pa_cons (pv 3) pa_nil)) (pa_cons (pe_dfK (kw_is_web D5) hr7 pass0 (pk_cons (pv 1) pk_nil)) pa_nil))) (pa_cons (pe_op op_rep (pe_lst (pa_cons (pe_cmpR op_isN (pv 2) pe_non (nomark _)) pa_nil)) pe_int) pa_nil))))) (pss_one (ps_ret pe_bl)) pss_nil)
      (pss_cons (ps_set (i := 6) sc__law_judged_right.nd rfl (by first | exact Or.inl rfl | exact Or.inr rfl) (pe_ifExp (pt_cmpR op_isN (pv 2) pe_non (nomark _)) (pe_lst (pa_cons pe_str (pa_cons pe_non pa_nil))) (pe_lst (pa_cons pe_str (pa_cons (pe_ix ix_D (pv 2) pe_int (fun _ _ => rfl)) pa_nil)))))
      (pss_one (ps_ret (pe_df D3 hr5 pass0 (pa_cons (LamX.pe_lamcall (by rfl) mm FD.kp lkg hcg bm sc__law_met rfl (by first | exact .inl rfl | exact .inr (.inl rfl)) (met_gives E2) TB rfl hmT hu hr (lamS_by (by show lamSB d_law_judged_right.scope _ = true; decide +kernel)) rfl (fun _ _ _ _ _ => rfl) (fun A outer s H E f c hr2 => pe_df D6 hr2 (passes_call (takes_of rfl rfl rfl rfl) (fun _ _ _ _ z => z)) (pa_cons (pv 1) (pa_cons pe_non pa_nil)))) (pa_cons (pv 6) pa_nil))))))))))), ?_⟩
  have htop : top0 = 1000000000000 := rfl
  have c41 : (41 : Nat) ^ 4 = 2825761 := by decide
  rw [c41] at hn q
  have oN : Off wa (Ne wa) := fun a z => z
  -- due, passed
  refine ⟨_, rfl, v, d, rfl, rd.all, tame_wd td, fun R fd due H1 sc s1 rf => ?_⟩
  have hw1 := hw.sm s1
  refine ⟨_, rfl, _, rfl, wa, n, Ne wa, v, d, rfl, oN, hw1, by rw [c41]; omega, rd.sm s1, td, fun u e H2 g2 hw2 ru lo => ?_⟩
  have ru2 : Dr All H2 u e := ru.all
  have te : tame true e 4 = true := tame_lo lo td
  have zf : fz fd = true := sc.fz
  have zt : K8.fit fd 1 = true := sc.fit (tame_wd td)
  have due2 : Dr All H2 due fd := (K8.Dr.gw (rf.fz (M := Ne wa) zf) hw1 g2).all
  refine ⟨_, _, rfl, ?_⟩
  -- was
  refine ⟨_, rfl, u, e, rfl, ru2, rpr_tame te (by decide), ?_⟩
  -- found
  refine ⟨_, rfl, u, e, rfl, ru2, tame_wd te, fun R1 f1 fv1 H3 sc1 s3 rf1 => ?_⟩
  have rd2 : Dr (Ne wa) H2 v d := K8.Dr.gw (rd.sm s1) hw1 g2
  refine ⟨_, rfl, rfl, v, d, rfl, (rd2.sm s3).all, tame_wd td, fun R2 f2 fv2 H4 sc2 s4 rf2 => ⟨(by show 2 ≤ sizeLine; decide), fun p np => ?_⟩⟩
  obtain ⟨rfl, rfl⟩ := sc.det sc2
  obtain ⟨rfl, rfl⟩ := (sc.lo lo).det sc1
  have sp : Sm H4 (upd H4 p (.lst [fv1, fv2])) := Sm.new np
  have rfound : Dr All (upd H4 p (.lst [fv1, fv2])) (.ref p) (.list [fd, fd]) := .lst trivial upd_same (.cons ((rf1.sm s4).sm sp) (.one (rf2.sm sp)))
  have s24 : Sm H2 (upd H4 p (.lst [fv1, fv2])) := (s3.trans s4).trans sp
  generalize upd H4 p (.lst [fv1, fv2]) = H5 at rfound s24 ⊢
  clear np sp rf1 rf2 s3 s4 sc1 sc2
  -- the first if
  refine ⟨_, rfl, _, rfl, _, rfl, (by show 2 ≤ sizeLine; decide), fun p2 np2 => ?_⟩
  have sp2 : Sm H5 (upd H5 p2 (.lst [due, due])) := Sm.new np2
  have dueb := (due2.sm s24).sm sp2
  refine ⟨_, _, .list [fd, fd], rfl, rfound.sm sp2, .lst trivial upd_same (.cons dueb (.one dueb)), fit_two (n := 3) (fit_mono (by decide) zt) (fit_mono (by decide) zt), fun H6 s6 => ?_⟩
  -- found is due, twice
  have none2 : ∀ H', Dr All H' due fd → decide (due = V.non) = noneB fd := fun H' r => by
    rcases sc.res with rfl | ⟨m, x, rfl⟩
    · cases r.non_inv
      rfl
    · exact faultD_ne r
  have s26 : Sm H2 H6 := (s24.trans sp2).trans s6
  refine ⟨_, rfl, iteF ?_⟩
  refine ⟨_, rfl, u, e, rfl, ru2.sm s26, rpr_tame te (by decide), _, rfl, rfl, _, rfl, ?_⟩
  rw [show (!decide (V.str e.shown = V.str e.shown)) = false by simp]
  refine iteF ?_
  clear sp2 dueb np2 s6 rfound
  have s2 := s26
  generalize H6 = H7 at s2 ⊢
  -- the second if
  refine ⟨_, rfl, u, e, rfl, ru2.sm s2, tame_wd te, fun R3 f3 H8 sc3 s8 => ?_⟩
  obtain ⟨rfl, rfl⟩ := (sc.lo lo).det sc3
  have s28 := s2.trans s8
  refine ⟨_, rfl, rfl, v, d, rfl, (rd2.sm s28).all, tame_wd td, fun R4 f4 H9 sc4 s9 => ⟨(by show 2 ≤ sizeLine; decide), fun p np => ?_⟩⟩
  obtain ⟨rfl, rfl⟩ := sc.det sc4
  have s29 := (s28.trans s9).trans (Sm.new (o := .lst [.bl (noneB fd), .bl (noneB fd)]) np)
  have e9 : upd H9 p (.lst [.bl (noneB fd), .bl (noneB fd)]) p = some (.lst [.bl (noneB fd), .bl (noneB fd)]) := upd_same
  generalize upd H9 p (.lst [.bl (noneB fd), .bl (noneB fd)]) = H10 at s29 e9 ⊢
  clear np s8 s9 sc3 sc4
  refine ⟨_, rfl, rfl, (by show 1 ≤ sizeLine; decide), fun p2 np2 => ?_⟩
  rw [none2 H2 due2]
  have sp2 : Sm H10 (upd H10 p2 (.lst [.bl (noneB fd)])) := Sm.new np2
  refine ⟨p2, 2, _, rfl, rfl, upd_same, by decide, by decide, (by show 2 ≤ sizeLine; decide), fun p3 np3 => ?_⟩
  have sp3 := Sm.new (o := .lst (List.replicate (2 : Int).toNat [.bl (noneB fd)]).flatten) np3
  have e11 := sp3 _ _ (sp2 _ _ e9)
  have e12 : upd (upd H10 p2 (.lst [.bl (noneB fd)])) p3 (.lst (List.replicate (2 : Int).toNat [.bl (noneB fd)]).flatten) p3 = some (.lst [.bl (noneB fd), .bl (noneB fd)]) := upd_same
  have s211 := (s29.trans sp2).trans sp3
  refine ⟨_, _, .list [.bool (noneB fd), .bool (noneB fd)], rfl, .lst trivial e11 (.cons (.bl _) (.one (.bl _))), .lst trivial e12 (.cons (.bl _) (.one (.bl _))), rfl, fun H12 s12 => ?_⟩
  have s2b := s211.trans s12
  refine ⟨_, rfl, iteF ?_⟩
  clear e11 e12 sp3 sp2 s211 s12 np2 np3 e9
  -- wanted
  have hT2 : Tabs T H12 := (tabs_gw (hT.ext s1) hw1 g2).ext s2b
  -- the last answer
  have last : ∀ (wv : V) (wd' : PyData) (H13 : Hp) (σ : L2.St), Sm H12 H13 → σ[1]? = some (some v) → σ[6]? = some (some wv) → Dr All H13 wv wd' → ((fd = .none ∧ wd' = .list [.str "row", .none]) ∨ ∃ (m : Nat) (x : Str), fd = faultD m x ∧ wd' = .list [.str "web", .int (m : Nat)]) → K8.fit wd' 4 = true →
      tRet (tCall (spSame 5) [] E0 (tCons (tLam T (TMet CW CR) fun E => tCall (spPutRow CW CR) [] E (tCons (tVar 1) (tCons (tC V.non) tNil))) (tCons (tVar 6) tNil))) { nx := fun x H' => Q V.non H', rt := Q } σ H13 := fun wv wd' H13 σ s13 h1 h6 rw6 hcase hfit => by
    refine ⟨hT2.ext s13, fun H14 x14 T14 => ?_⟩
    have rd14 : Dr All H14 v d := drX x14 ((rd2.sm s2b).sm s13).all
    -- what stands behind
    have fin : ∀ (H15 : Hp) (y : Str) (z : V) (p : Addr), Sm H14 H15 → H15 p = none → Dr All (upd H15 p (.lst [.str y, z])) (.ref p) wd' →
        tCons (tVar 6) tNil σ (upd H15 p (.lst [.str y, z])) fun xs H2 => spSame 5 (.ref p :: xs ++ []) H2 Q E0 := fun H15 y z p s15 np rz => by
      have sp := Sm.new (o := .lst [.str y, z]) np
      refine ⟨_, h6, _, _, wd', rfl, rz, (((drX x14 rw6).sm s15).sm sp), hfit, fun H16 s16 => q H16 ?_ ?_ ?_⟩
      · exact (((((GwN.of (Gw.of s1)).trans (GwN.of g2)).trans (GwN.of (Gw.of (s2b.trans s13)))).trans (GwN.ext x14)).trans (GwN.of (Gw.of ((s15.trans sp).trans s16))))
      · obtain ⟨a0, b0, c0, ew, r0⟩ := hw2
        refine ⟨a0, b0, c0, ((s15.trans sp).trans s16) _ _ (x14 _ _ ((s2b.trans s13) _ _ ew) fun _ z => nomatch z), ?_⟩
        rw [c41] at r0
        exact r0
      · exact T14.ext ((s15.trans sp).trans s16)
    refine ⟨_, h1, v, .non, d, .none, rfl, rd14, tame_wd td, .non, rfl, fun R' r k p H15 sc' er => ?_, fun R' m x dx H15 sc' s15 nd hx => ?_, fun R' dx H15 sc' _ s15 nd hx => ?_⟩
    · exact (Row.d_ne r (er.symm.trans rfl)).elim
    · obtain ⟨_, e0⟩ := sc.det sc'
      refine .inl ⟨rfl, dx, _, _, rfl, hx, rfl, fun p np => fin H15 _ _ p s15 np ?_⟩
      rcases hcase with ⟨e1, _⟩ | ⟨m', x', e1, rfl⟩
      · rw [e1] at e0
        cases e0
      · have em : m = m' := by
          have := e0.symm.trans e1
          simp only [faultD, PyData.tuple.injEq, List.cons.injEq, PyData.int.injEq] at this
          omega
        rw [← em]
        exact .lst trivial upd_same (.cons (.str _) (.one (.int _)))
    · obtain ⟨_, e0⟩ := sc.det sc'
      refine .inr ⟨rfl, dx, _, _, rfl, hx, rfl, fun p np => fin H15 _ _ p s15 np ?_⟩
      rcases hcase with ⟨_, rfl⟩ | ⟨m', x', e1, _⟩
      · exact .lst trivial upd_same (.cons (.str _) (.one .non))
      · rw [e1] at e0
        cases e0
  refine ⟨_, rfl, rfl, _, rfl, ?_⟩
  rw [none2 H2 due2]
  rcases sc.res with rfl | ⟨m, x, rfl⟩
  · refine iteT ⟨(by show 2 ≤ sizeLine; decide), fun p np => ?_⟩
    exact last _ _ _ _ (Sm.new np) rfl rfl (.lst trivial upd_same (.cons (.str _) (.one .non))) (.inl ⟨rfl, rfl⟩) rfl
  · refine iteF ⟨_, rfl, _, 0, _, due2.sm s2b, rfl, rfl, rfl, fun y ry => ⟨(by show 2 ≤ sizeLine; decide), fun p np => ?_⟩⟩
    cases ry.int_inv
    refine last _ (.list [.str "web", .int (m : Nat)]) _ _ (Sm.new np) rfl rfl (.lst trivial upd_same (.cons (.str _) (.one (.int _)))) (.inr ⟨m, x, rfl, rfl⟩) ?_
    have hf := zt
    simp only [faultD, K8.fit, fitA, List.length_cons, List.length_nil, Bool.and_eq_true, decide_eq_true_eq, Bool.and_true] at hf ⊢
    have l : lim = 4000 := rfl
    exact ⟨⟨by omega, by omega⟩, by decide, hf.2.1⟩
end
end K8

/-! Helpers for _law_put_right. -/
namespace K8
open PySem PySem.Spec PyProof.Rows L2 WR LamX
mutual
theorem drGN {w : Addr} {n : Nat} {H H' : Hp} (hw : Wl H w n) (g : GwN w H H') : ∀ {d : PyData} {v : V}, Dr (Ne w) H v d → Dr (Ne w) H' v d
  | _, _, .non => .non
  | _, _, .bl b => .bl b
  | _, _, .int i => .int i
  | _, _, .str y => .str y
  | _, _, .lst z e r => .lst z (g _ _ z e fun _ y => nomatch y) (drGNA hw g r)
  | _, _, .tup e r => .tup (g _ _ (fun z => by
      obtain ⟨a, b, c, ew, _⟩ := hw
      rw [z, ew] at e
      cases e) e fun _ y => nomatch y) (drGNA hw g r)
  | _, _, .dct z e r => .dct z (g _ _ z e fun _ y => nomatch y) (drGNK hw g r)
theorem drGNA {w : Addr} {n : Nat} {H H' : Hp} (hw : Wl H w n) (g : GwN w H H') : ∀ {ds : List PyData} {vs : List V}, DrA (Ne w) H vs ds → DrA (Ne w) H' vs ds
  | _, _, .nil => .nil
  | _, _, .cons r t => .cons (drGN hw g r) (drGNA hw g t)
theorem drGNK {w : Addr} {n : Nat} {H H' : Hp} (hw : Wl H w n) (g : GwN w H H') : ∀ {ps : List (PyData × PyData)} {kvs : List (Key × V)}, DrK (Ne w) H kvs ps → DrK (Ne w) H' kvs ps
  | _, _, .nil => .nil
  | _, _, .cons r t => .cons (drGN hw g r) (drGNK hw g t)
end
mutual
theorem drOne {N M : Addr → Prop} {H : Hp} : ∀ {d e : PyData} {v : V}, Dr N H v d → Dr M H v e → d = e
  | _, _, _, .non, r => by cases r; rfl
  | _, _, _, .bl b, r => by cases r; rfl
  | _, _, _, .int i, r => by cases r; rfl
  | _, _, _, .str y, r => by cases r; rfl
  | _, _, _, .lst _ e a, r => by
    cases r with
    | lst _ e2 a2 =>
      rw [e] at e2
      cases e2
      rw [drOneA a a2]
    | tup e2 _ => rw [e] at e2; cases e2
    | dct _ e2 _ => rw [e] at e2; cases e2
  | _, _, _, .tup e a, r => by
    cases r with
    | tup e2 a2 =>
      rw [e] at e2
      cases e2
      rw [drOneA a a2]
    | lst _ e2 _ => rw [e] at e2; cases e2
    | dct _ e2 _ => rw [e] at e2; cases e2
  | _, _, _, .dct _ e a, r => by
    cases r with
    | dct _ e2 a2 =>
      rw [e] at e2
      cases e2
      rw [drOneK a a2]
    | lst _ e2 _ => rw [e] at e2; cases e2
    | tup e2 _ => rw [e] at e2; cases e2
theorem drOneA {N M : Addr → Prop} {H : Hp} : ∀ {ds es : List PyData} {vs : List V}, DrA N H vs ds → DrA M H vs es → ds = es
  | _, _, _, .nil, .nil => rfl
  | _, _, _, .cons r t, .cons r2 t2 => by rw [drOne r r2, drOneA t t2]
theorem drOneK {N M : Addr → Prop} {H : Hp} : ∀ {ps qs : List (PyData × PyData)} {kvs : List (Key × V)}, DrK N H kvs ps → DrK M H kvs qs → ps = qs
  | _, _, _, .nil, .nil => rfl
  | _, _, _, .cons r t, .cons r2 t2 => by rw [drOne r r2, drOneK t t2]
end
mutual
/-- what is smaller than the list at a hangs on no a -/
theorem drOff {N M : Addr → Prop} {H : Hp} {a : Addr} {e : PyData} (he : Dr M H (.ref a) e) : ∀ {d : PyData} {v : V}, Dr N H v d → sizeOf d < sizeOf e → Dr (fun b => N b ∧ b ≠ a) H v d
  | _, _, .non, _ => .non
  | _, _, .bl b, _ => .bl b
  | _, _, .int i, _ => .int i
  | _, _, .str y, _ => .str y
  | _, _, .lst (ds := ds) n el r, h => .lst ⟨n, fun z => by
      have r0 : Dr N H (.ref a) (.list ds) := by
        rw [← z]
        exact .lst n el r
      rw [drOne r0 he] at h
      exact absurd h (Nat.lt_irrefl _)⟩ el (drOffA he r (by simp only [PyData.list.sizeOf_spec] at h; omega))
  | _, _, .tup el r, h => .tup el (drOffA he r (by simp only [PyData.tuple.sizeOf_spec] at h; omega))
  | _, _, .dct (ps := ps) n el r, h => .dct ⟨n, fun z => by
      have r0 : Dr N H (.ref a) (.dict ps) := by
        rw [← z]
        exact .dct n el r
      rw [drOne r0 he] at h
      exact absurd h (Nat.lt_irrefl _)⟩ el (drOffK he r (by simp only [PyData.dict.sizeOf_spec] at h; omega))
theorem drOffA {N M : Addr → Prop} {H : Hp} {a : Addr} {e : PyData} (he : Dr M H (.ref a) e) : ∀ {ds : List PyData} {vs : List V}, DrA N H vs ds → sizeOf ds < sizeOf e → DrA (fun b => N b ∧ b ≠ a) H vs ds
  | _, _, .nil, _ => .nil
  | _, _, .cons r t, h => .cons (drOff he r (by simp only [List.cons.sizeOf_spec] at h; omega)) (drOffA he t (by simp only [List.cons.sizeOf_spec] at h; omega))
theorem drOffK {N M : Addr → Prop} {H : Hp} {a : Addr} {e : PyData} (he : Dr M H (.ref a) e) : ∀ {ps : List (PyData × PyData)} {kvs : List (Key × V)}, DrK N H kvs ps → sizeOf ps < sizeOf e → DrK (fun b => N b ∧ b ≠ a) H kvs ps
  | _, _, .nil, _ => .nil
  | _, _, .cons r t, h => .cons (drOff he r (by simp only [List.cons.sizeOf_spec, Prod.mk.sizeOf_spec] at h; omega)) (drOffK he t (by simp only [List.cons.sizeOf_spec] at h; omega))
end
mutual
theorem tame_fit : ∀ {d : PyData} {n : Nat}, tame false d n = true → fit d n = true
  | .list xs, n, t => by
    simp only [tame, Bool.and_eq_true, decide_eq_true_eq] at t
    simp only [fit, Bool.and_eq_true, decide_eq_true_eq]
    exact ⟨⟨t.1.1, Nat.le_trans t.1.2 (Nat.le_trans (cap_le n) (by decide))⟩, tameA_fit t.2⟩
  | .tuple xs, n, t => by
    simp only [tame, Bool.and_eq_true, decide_eq_true_eq] at t
    simp only [fit, Bool.and_eq_true, decide_eq_true_eq]
    exact ⟨⟨t.1.1, Nat.le_trans t.1.2 (Nat.le_trans (cap_le n) (by decide))⟩, tameA_fit t.2⟩
  | .dict ps, n, t => by
    simp only [tame, Bool.and_eq_true, decide_eq_true_eq, Bool.false_and, Bool.or_false] at t
    simp only [fit, Bool.and_eq_true, decide_eq_true_eq]
    exact t
  | .str x, n, t => by
    simp only [tame, okStr, Bool.and_eq_true, decide_eq_true_eq] at t
    simp only [fit, decide_eq_true_eq]
    have l : lim = 4000 := rfl
    omega
  | .int i, n, t => by
    simp only [tame, decide_eq_true_eq] at t
    simp only [fit, decide_eq_true_eq]
    omega
  | .bool _, _, _ => rfl
  | .none, _, _ => rfl
theorem tameA_fit : ∀ {ds : List PyData} {n : Nat}, tameA false ds n = true → fitA ds n = true
  | [], _, _ => rfl
  | d :: ds, n, t => by
    simp only [tameA, Bool.and_eq_true] at t
    simp only [fitA, Bool.and_eq_true]
    exact ⟨tame_fit t.1, tameA_fit t.2⟩
end
theorem fitA_app {n : Nat} : ∀ {ds es : List PyData}, fitA ds n = true → fitA es n = true → fitA (ds ++ es) n = true
  | [], _, _, h => h
  | d :: ds, es, h, k => by
    simp only [fitA, List.cons_append, Bool.and_eq_true] at h ⊢
    exact ⟨h.1, fitA_app h.2 k⟩
/-- the tables stay where a list alone was written -/
theorem tabs_but {T : List (Addr × Str)} {a : Addr} {zs : List V} {H H' : Hp} (t : Tabs T H) (ea : H a = some (.lst zs)) (g : ∀ b o, b ≠ a → H b = some o → H' b = some o) : Tabs T H' := fun p hp => by
  obtain ⟨ps, h1, h2, h3⟩ := t p hp
  refine ⟨ps, g _ _ (fun z => ?_) h1, h2, fun pos cv hc => ?_⟩
  · rw [z, ea] at h1
    cases h1
  · obtain ⟨c0, e1, e2⟩ := h3 pos cv hc
    refine ⟨c0, e1, g _ _ (fun z => ?_) e2⟩
    rw [z, ea] at e2
    unfold CodeO at e2
    cases e2
theorem tabs_buts {T : List (Addr × Str)} {fp : List Addr} {H H' : Hp} (t : Tabs T H) (ea : ∀ a ∈ fp, ∃ zs, H a = some (.lst zs)) (g : Bt1 fp H H') : Tabs T H' := fun p hp => by
  obtain ⟨ps, h1, h2, h3⟩ := t p hp
  refine ⟨ps, g _ _ (fun z => ?_) h1, h2, fun pos cv hc => ?_⟩
  · obtain ⟨zs, e⟩ := ea _ z
    rw [e] at h1
    cases h1
  · obtain ⟨c0, e1, e2⟩ := h3 pos cv hc
    refine ⟨c0, e1, g _ _ (fun z => ?_) e2⟩
    obtain ⟨zs, e⟩ := ea _ z
    rw [e] at e2
    unfold CodeO at e2
    cases e2
/-! ### due -/
theorem rows_if {σ : L2.St} {H : Hp} {Q : VK} {v y : V} {R : List Row} {r : Row} (h1 : σ[1]? = some (some v)) (h10 : σ[10]? = some (some y)) (rd : Dr All H v (rowsD R)) (rr : Dr All H y r.d) (hR : R.length ≤ 40) (ok : ∀ r ∈ R, r.ok) (rok : r.ok)
    (q : ∀ (u : V) (H' : Hp), Sm H H' → Dr (fun b => u = v ∨ H b = none) H' u (rowsD (newRows R r)) → Q u H') : tIf (tTest (tOp (rInDr true) (tVar 10) (tVar 1))) (tVar 1) (tOp rCat (tVar 1) (tLst (tCons (tVar 10) tNil))) σ H Q := by
  refine ⟨_, h10, _, h1, r.d, R.map Row.d, rr, rd, Row.eqOk rok, rows_eqOk ok, _, rfl, ?_⟩
  rw [if_pos rfl, rows_any]
  refine ite2 (fun z => ?_) (fun z => ?_)
  · refine ⟨_, h1, q v H Sm.rfl' ?_⟩
    rw [newRows, if_pos (of_decide_eq_true z)]
    exact rd.wide fun _ _ => .inl rfl
  · refine ⟨_, h1, _, h10, (by show 1 ≤ sizeLine; decide), fun p np => ?_⟩
    have sp : Sm H (upd H p (.lst [y])) := Sm.new np
    cases rd with
    | @lst a xs _ _ e ra =>
    have lx := ra.length
    have hsl := lim_lt
    have hl : lim = 4000 := rfl
    simp at lx
    refine ⟨a, p, xs, [y], rfl, rfl, sp _ _ e, upd_same, by simp; omega, fun p2 np2 => q _ _ (sp.trans (Sm.new np2)) ?_⟩
    rw [newRows, if_neg (fun m => z (decide_eq_true m))]
    refine .lst (.inr (sp.free np2)) upd_same ?_
    rw [List.map_append]
    refine ((DrA.append (DrA.fz (M := fun b => V.ref p2 = V.ref a ∨ H b = none) (ra.sm sp) (rows_fzA R)) (.one ((rr.sm sp).fz (Row.fz r))))).sm (Sm.new np2)
theorem placeOf_at {R : List Row} {r : Row} : ∀ {S : List Row} {n k : Nat}, placeOf S r n = some k → ∃ j, k = n + j ∧ S[j]? = some r ∧ ∀ (m : Nat) (z : Row), m < j → S[m]? = some z → z ≠ r
  | [], n, k, h => by simp [placeOf] at h
  | s :: S, n, k, h => by
    unfold placeOf at h
    by_cases z : s = r
    · rw [if_pos z] at h
      cases h
      exact ⟨0, rfl, by rw [z]; rfl, fun m z hm => absurd hm (Nat.not_lt_zero m)⟩
    · rw [if_neg z] at h
      obtain ⟨j, e1, e2, e3⟩ := placeOf_at (R := R) h
      refine ⟨j + 1, by omega, by simpa using e2, fun m y hm hy => ?_⟩
      cases m with
      | zero =>
        simp at hy
        rw [← hy]
        exact z
      | succ m => exact e3 m y (by omega) (by simpa using hy)
theorem at_if {X : Cx} {σ : L2.St} {H : Hp} {Q : VK} {v y : V} {R : List Row} {r : Row} (h1 : σ[1]? = some (some v)) (h10 : σ[10]? = some (some y)) (rd : Dr All H v (rowsD R)) (rr : Dr All H y r.d) (hR : R.length ≤ 40) (ok : ∀ r ∈ R, r.ok) (rok : r.ok)
    (q : ∀ (k : Nat), NewAt R r k → Q (.int (k : Nat)) H) :
    tIf (tTest (tOp (rInDr true) (tVar 10) (tVar 1))) (tBM X.K "list" (rIndexD X.K) (tVar 1) (tCons (tVar 10) tNil)) (tCB (fun xs H Q => ∃ v d, xs = [v] ∧ Dr All H v d ∧ isL d = true ∧ Q (V.int ((its d).length : Nat)) H) (tCons (tVar 1) tNil)) σ H Q := by
  refine ⟨_, h10, _, h1, r.d, R.map Row.d, rr, rd, Row.eqOk rok, rows_eqOk ok, _, rfl, ?_⟩
  rw [if_pos rfl, rows_any]
  refine ite2 (fun z => ?_) (fun z => ?_)
  · have hm : r ∈ R := of_decide_eq_true z
    obtain ⟨k, ek⟩ := placeOf_some (n := 0) hm
    obtain ⟨j, e1, e2, e3⟩ := placeOf_at (R := R) ek
    have eqR : eqOk (rowsD R) := rows_eqOk ok
    have eqr : eqOk r.d := Row.eqOk rok
    have hK : Dp X.K H v (rowsD R) := eqR.dp rd
    have hr : Dp X.K H y r.d := eqr.dp rr
    have rd' := rd
    cases rd' with
    | @lst a xs _ _ e ra =>
    refine ⟨_, h1, .inl ⟨rfl, xs, SqL.of e⟩, _, h10, a, y, r.d, R.map Row.d, j, r.d, rfl, rfl, hK, hr, eqR.shaped, eqr.shaped, by rw [List.getElem?_map, e2]; rfl, by rw [Row.eqv]; exact decide_eq_true rfl, fun m z' hm' hz => ?_, ?_⟩
    · rw [List.getElem?_map] at hz
      cases eS : R[m]? with
      | none => rw [eS] at hz; cases hz
      | some s =>
        rw [eS] at hz
        cases hz
        rw [Row.eqv]
        exact decide_eq_false (e3 m s hm' eS)
    · rw [show (j : Nat) = k by omega]
      exact q k (by rw [NewAt, if_pos hm]; exact ek)
  · refine ⟨_, h1, v, _, rfl, rd, rfl, ?_⟩
    rw [show (its (rowsD R)).length = R.length by simp [rowsD, its]]
    exact q _ (by rw [NewAt, if_neg (fun m => z (decide_eq_true m))])
theorem NewAt.det {R : List Row} {r : Row} {k j : Nat} (h : NewAt R r k) (h2 : NewAt R r j) : k = j := by
  unfold NewAt at h h2
  by_cases m : r ∈ R
  · rw [if_pos m] at h h2
    rw [h] at h2
    cases h2
    rfl
  · rw [if_neg m] at h h2
    rw [h, h2]
/-! ### told -/
mutual
/-- without lists: nothing of its own -/
theorem Ow.ofFz {N : Addr → Prop} {H : Hp} : ∀ {d : PyData} {v : V}, Dr N H v d → fz d = true → ∃ f, Ow H v d f ∧ f = []
  | _, _, .non, _ => ⟨_, .non, rfl⟩
  | _, _, .bl b, _ => ⟨_, .bl b, rfl⟩
  | _, _, .int i, _ => ⟨_, .int i, rfl⟩
  | _, _, .str y, _ => ⟨_, .str y, rfl⟩
  | _, _, .lst _ _ _, h => by cases h
  | _, _, .tup e r, h => by
    obtain ⟨fs, o, z⟩ := OwA.ofFz r (by simpa only [fz] using h)
    exact ⟨_, .tup e o, z⟩
  | _, _, .dct _ _ _, h => by cases h
theorem OwA.ofFz {N : Addr → Prop} {H : Hp} : ∀ {ds : List PyData} {vs : List V}, DrA N H vs ds → fzA ds = true → ∃ fs, OwA H vs ds fs ∧ fs.flatten = []
  | _, _, .nil, _ => ⟨[], .nil, rfl⟩
  | _, _, .cons r t, h => by
    simp only [fzA, Bool.and_eq_true] at h
    obtain ⟨f, o, rfl⟩ := Ow.ofFz r h.1
    obtain ⟨fs, os, z⟩ := OwA.ofFz t h.2
    exact ⟨_, .cons o os, by simpa using z⟩
end
/-- what put_row tells: the tuple, the rows' list -/
theorem told_one {N : Addr → Prop} {H : Hp} {p : Addr} {R : List Row} {k : Nat} (r : Dr N H (.ref p) (.tuple [rowsD R, .int (k : Nat)])) : ∃ l, N l ∧ (∃ xs, H l = some (.lst xs)) ∧ Ow H (.ref p) (.tuple [rowsD R, .int (k : Nat)]) [l] := by
  cases r with
  | tup e ra =>
  cases ra with
  | cons r1 t1 =>
  cases t1 with
  | cons r2 t2 =>
  cases t2
  cases r1 with
  | @lst l xs _ n el rl =>
  obtain ⟨fs, o, z⟩ := OwA.ofFz rl (rows_fzA R)
  cases r2
  have h := Ow.tup e (.cons (Ow.lst el o) (.cons (.int _) .nil))
  rw [z] at h
  exact ⟨l, n, ⟨xs, el⟩, by simpa [rowsD] using h⟩
theorem gwhy_cases {N : Addr → Prop} {H : Hp} {R : List Row} {t y : PyData} {x : V} (gw : GWhy R t y) (rx : Dr N H x y) : (∃ z, x = .str z ∧ RowBad R t) ∨ (x = .non ∧ ∃ r, rowForm t = r.d ∧ r.ok ∧ why R r = none) := by
  cases gw with
  | form e => cases rx; exact .inl ⟨_, rfl, .inl e⟩
  | why e1 e2 =>
    rename_i r
    cases ew : why R r with
    | none => rw [ew] at rx; cases rx; exact .inr ⟨rfl, r, e1, e2, ew⟩
    | some z => rw [ew] at rx; cases rx; exact .inl ⟨_, rfl, .inr ⟨r, z, e1, ew⟩⟩
theorem RowBad.lo {R : List Row} {d e : PyData} (h : RowBad R d) (l : Lo d e) : RowBad R e := by
  unfold RowBad at h ⊢
  rw [← rowForm_lo l]
  exact h
/-- if not _law_same(found, ['row', held]): return False -/
theorem same_row {σ : L2.St} {D : Ends} {H : Hp} {p : Addr} {x : V} {e : PyData} (h9 : σ[9]? = some (some (.ref p))) (h8 : σ[8]? = some (some x)) (ep : H p = some (.lst [.str "row", x])) (r : Dr All H x e) (hf : fit e 5 = true) (q : ∀ H', Sm H H' → D.nx σ H') :
    tIfS (tNot (L2.tB (tCall (spSame 7) [] E0 (tCons (tVar 9) (tCons (tLst (tCons (tC (V.str "row")) (tCons (tVar 8) tNil))) tNil))))) (tRet (tC (V.bl false))) tNext D σ H := by
  refine ⟨_, h9, _, h8, (by show 2 ≤ sizeLine; decide), fun p2 np2 => ?_⟩
  have sp := Sm.new (o := .lst [.str "row", x]) np2
  refine ⟨_, _, .list [.str "row", e], rfl, .lst trivial (sp _ _ ep) (.cons (.str _) (.one (r.sm sp))), .lst trivial upd_same (.cons (.str _) (.one (r.sm sp))), fit_two (n := 5) (by rfl) hf, fun H' s' => ⟨_, rfl, iteF (q H' (sp.trans s'))⟩⟩
theorem not_bad {R : List Row} {e : PyData} {r : Row} (h : rowForm e = r.d) (k : why R r = none) : ¬ RowBad R e := by
  rintro (z | ⟨r1, x, z1, z2⟩)
  · exact Row.d_ne r (h.symm.trans z)
  · have := Row.d_inj (h.symm.trans z1)
    subst this
    rw [k] at z2
    cases z2
/-- what lived stays where only what is new was written -/
theorem live_bt {N : Addr → Prop} {fp : List Addr} {H H1 H2 : Hp} {v : V} {d : PyData} (r : Dr N H v d) (s : Sm H H1) (fr : ∀ b ∈ fp, H b = none) (fl : ∀ b ∈ fp, ∃ zs, H1 b = some (.lst zs)) (bt : Bt1 fp H1 H2) : Dr All H2 v d := by
  have r1 := (r.live).sm s
  refine (r1.mono (N := fun a => N a ∧ H a ≠ none) (M := All) (fun _ _ => trivial) ⟨fun a o na e => bt a o (fun z => na.2 (fr a z)) e, fun a xs e => bt a _ (fun z => ?_) e⟩)
  obtain ⟨zs, e2⟩ := fl a z
  rw [e2] at e
  cases e
theorem new_fit {R : List Row} {r : Row} {k : Nat} (hR : R.length ≤ 20) (ok : ∀ r ∈ R, r.ok) (sm : ∀ r ∈ R, r.small) (t : fit r.d 3 = true) (hk : k ≤ 100) : fit (.tuple [rowsD (newRows R r), .int (k : Nat)]) 5 = true := by
  have l : lim = 4000 := rfl
  have hl := nat_log (n := k) (by omega)
  have h1 : fit (rowsD (newRows R r)) 4 = true := by
    simp only [rowsD, fit, Bool.and_eq_true, decide_eq_true_eq]
    refine ⟨⟨by omega, ?_⟩, ?_⟩
    · rw [List.length_map, newRows]
      split
      · omega
      · simp; omega
    · have hR' : fitA (R.map Row.d) 3 = true := by
        refine tameA_fit (tameA_of fun d hd => ?_)
        obtain ⟨r', hr', rfl⟩ := List.mem_map.mp hd
        obtain ⟨t1, t2, t3, t4, t5⟩ := Row.tm (b := false) (ok _ hr') (sm _ hr')
        rw [t4]
        exact tame_mono (show 2 ≤ 3 by decide) (tame_tup t1 (by omega))
      rw [newRows]
      split
      · exact hR'
      · rw [List.map_append]
        refine fitA_app hR' ?_
        simp only [List.map_cons, List.map_nil, fitA, Bool.and_eq_true]
        exact ⟨t, trivial⟩
  simp only [fit, fitA, List.length_cons, List.length_nil, Bool.and_eq_true, decide_eq_true_eq]
  exact ⟨⟨by omega, by omega⟩, h1, by omega, trivial⟩
theorem NewAt.le {R : List Row} {r : Row} {k : Nat} (h : NewAt R r k) : k ≤ R.length := by
  unfold NewAt at h
  by_cases m : r ∈ R
  · rw [if_pos m] at h
    obtain ⟨j, e1, e2, _⟩ := placeOf_at (R := R) h
    have := (List.getElem?_eq_some_iff.mp e2).1
    omega
  · rw [if_neg m] at h
    omega
theorem nth_fit {t : PyData} (w : tame false t 3 = true) (i : Nat) : fit (nth t i) 2 = true := by
  by_cases hL : isL t = true
  · obtain ⟨_, _, h3⟩ := tame_its w hL
    unfold nth
    rw [List.getD_eq_getElem?_getD]
    cases e : (its t)[i]? with
    | none => rfl
    | some d => exact tame_fit (tameA_at h3 e)
  · have : its t = [] := by cases t <;> first | rfl | exact absurd rfl hL
    unfold nth
    rw [this]
    rfl
theorem form_fit {t : PyData} (w : tame false t 3 = true) : fit (rowForm t) 3 = true := by
  have l : lim = 4000 := rfl
  have nf := nth_fit w
  unfold rowForm
  split
  · unfold rowForm2
    split
    · split
      · rename_i h2
        simp only [Bool.and_eq_true] at h2
        have h3 := h2.2
        simp only [areNums, Bool.and_eq_true] at h3
        obtain ⟨f1, f2, f3⟩ := fit_its (nf 2) h3.1
        have ft : fit (.tuple (its (nth t 2))) 2 = true := by
          simp only [fit, Bool.and_eq_true, decide_eq_true_eq]
          exact ⟨⟨by omega, f2⟩, f3⟩
        simp only [fit, fitA, List.length_cons, List.length_nil, Bool.and_eq_true, decide_eq_true_eq] at ft ⊢
        exact ⟨⟨by omega, by omega⟩, nf 0, nf 1, ft, trivial⟩
      · rfl
    · split
      · simp only [fit, fitA, List.length_cons, List.length_nil, Bool.and_eq_true, decide_eq_true_eq]
        exact ⟨⟨by omega, by omega⟩, nf 0, nf 1, nf 2, nf 3, trivial⟩
      · split
        · simp only [fit, fitA, List.length_cons, List.length_nil, Bool.and_eq_true, decide_eq_true_eq]
          exact ⟨⟨by omega, by omega⟩, nf 0, nf 1, trivial⟩
        · rfl
  · rfl
theorem Row.fitD {r : Row} {t : PyData} (h : rowForm t = r.d) (w : tame false t 3 = true) : fit r.d 3 = true := by
  rw [← h]
  exact form_fit w
mutual
theorem fit_wd : ∀ {d : PyData} {n : Nat}, fit d n = true → wd d = true
  | .list xs, n, t => by
    simp only [fit, Bool.and_eq_true, decide_eq_true_eq] at t
    simp only [wd, Bool.and_eq_true, decide_eq_true_eq]
    exact ⟨t.1.2, fitA_wd t.2⟩
  | .tuple xs, n, t => by
    simp only [fit, Bool.and_eq_true, decide_eq_true_eq] at t
    simp only [wd, Bool.and_eq_true, decide_eq_true_eq]
    exact ⟨t.1.2, fitA_wd t.2⟩
  | .dict ps, n, t => by
    simp only [fit, Bool.and_eq_true, decide_eq_true_eq, List.isEmpty_iff] at t
    rw [t.2]
    rfl
  | .str x, n, t => by
    simp only [fit, decide_eq_true_eq] at t
    simp only [wd, decide_eq_true_eq]
    exact t
  | .int i, n, t => by
    simp only [fit, decide_eq_true_eq] at t
    simp only [wd, decide_eq_true_eq]
    exact t
  | .bool _, _, _ => rfl
  | .none, _, _ => rfl
theorem fitA_wd : ∀ {ds : List PyData} {n : Nat}, fitA ds n = true → wdA ds = true
  | [], _, _ => rfl
  | d :: ds, n, t => by
    simp only [fitA, Bool.and_eq_true] at t
    simp only [wdA, Bool.and_eq_true]
    exact ⟨fit_wd t.1, fitA_wd t.2⟩
end
end K8

/-! _law_put_right. -/
namespace K8
open PySem PySem.Spec PyProof.Rows L2 WR LamX
abbrev spPR (T : TabL) : Sp := fun vs H Q _ => ∃ (w : Addr) (n : Nat) (v : V) (R : List Row), vs = [.ref w, v] ∧ Wl H w n ∧ n + 100000000 < top0 ∧ Dr (Ne w) H v (rowsD R) ∧ R.length ≤ 20 ∧ Web R ∧ (∀ r ∈ R, r.small) ∧ Tabs T H ∧
  ∀ H', GwN w H H' → Wl H' w (n + 90000000) → Tabs T H' → Q (.bl true) H'
section
variable {P : Program} {w : World} {K : PySem.W.Frag} {mg : Str → Option Value} {base : Heap} {CW CR : Addr}
/-- a plain thing of a row's size -/
def Tk (e : PyData) : Prop := tame false e 3 = true ∧ fz e = true
theorem Tk.row {r : Row} (h : r.ok) (k : r.small) : Tk r.d := by
  obtain ⟨t1, t2, t3, t4, t5⟩ := Row.tm (b := false) h k
  refine ⟨?_, Row.fz r⟩
  rw [t4]
  exact tame_mono (show 2 ≤ 3 by decide) (tame_tup t1 (by omega))
theorem fzA_of : ∀ {ds : List PyData}, (∀ d ∈ ds, fz d = true) → fzA ds = true
  | [], _ => rfl
  | d :: ds, h => by
    simp only [fzA, Bool.and_eq_true]
    exact ⟨h d (List.mem_cons_self ..), fzA_of fun e he => h e (List.mem_cons_of_mem _ he)⟩
theorem Yd.pow {N : Addr → Prop} {C : Hp → Prop} {σ : L2.St} {i j : Int} (h : CPow i j) : Yd N C σ (tOp (rI CPow fun i j => V.int (i ^ j.toNat)) (tC (V.int i)) (tC (V.int j))) (.int (i ^ j.toNat)) := fun H Q _ q => ⟨i, j, rfl, rfl, h, q _ _ Sm.rfl' (.int _)⟩
def four : List PyData := [.tuple [.str "given", .int ((9 : Int) ^ (20 : Int).toNat)], .int 5, .str "given", .dict []]
theorem four_ok : ∀ e ∈ four, tame false e 3 = true := by
  intro e he
  simp only [four, List.mem_cons, List.not_mem_nil, or_false] at he
  rcases he with rfl | rfl | rfl | rfl
  · have h9 : ((9 : Int) ^ (20 : Int).toNat) = 12157665459056928801 := by decide
    rw [h9]
    refine tame_tup (n := 2) (tame_two (str_tame (by decide +kernel)) ?_) (by simp)
    simp only [tame, decide_eq_true_eq]
    exact log_small (by decide)
  · exact int_tame (by decide)
  · exact str_tame (by decide +kernel)
  · rfl
/-- [_law_pick(well, rows)] if rows != [] else [] -/
theorem pick_if {σ : L2.St} {H : Hp} {Q : VK} {wa : Addr} {n : Nat} {v : V} {R : List Row} (h0 : σ[0]? = some (some (.ref wa))) (h1 : σ[1]? = some (some v)) (hw : Wl H wa n) (hn : n < top0) (rd : Dr (Ne wa) H v (rowsD R)) (hR : R.length ≤ 20) (ok : ∀ r ∈ R, r.ok) (sm : ∀ r ∈ R, r.small)
    (q : ∀ (b : Addr) (zs : List V) (fs : List PyData) (H' : Hp), Gw wa H H' → Wl H' wa (n + 1) → H b = none → H' b = some (.lst zs) → DrA No H' zs fs → fs.length ≤ 1 → (∀ e ∈ fs, Tk e) → Q (.ref b) H') :
    tIf (tTest (tOp rNeDr (tVar 1) (tLst tNil))) (tLst (tCons (tCall spPick [] E0 (tCons (tVar 0) (tCons (tVar 1) tNil))) tNil)) (tLst tNil) σ H Q := by
  refine ⟨_, h1, (by show 0 ≤ sizeLine; decide), fun p np => ?_⟩
  have sp : Sm H (upd H p (.lst [])) := Sm.new np
  refine ⟨rowsD R, .list [], (rd.sm sp).all, .lst trivial upd_same .nil, rows_eqOk ok, nums_eqOk [], _, rfl, ?_⟩
  have ee : PyData.eqv (rowsD R) (.list []) = decide (R = []) := by
    cases R with
    | nil => rfl
    | cons r R => simp [rowsD, PyData.eqv, PyData.eqvAll]
  rw [ee]
  have hw1 := hw.sm sp
  refine ite2 (fun z => ?_) (fun _ => ?_)
  · have hne : R ≠ [] := fun y => by rw [y] at z; cases z
    refine ⟨_, h0, _, h1, wa, n, Ne wa, v, rowsD R, rfl, (fun _ z => z), hw1, hn, rd.sm sp, rfl, (fun y => hne (by simpa [rowsD, its] using y)), by have l : lim = 4000 := rfl; simp [rowsD, its]; omega, fun e he u H' g hw' ru => ⟨(by show 1 ≤ sizeLine; decide), fun b nb => ?_⟩⟩
    obtain ⟨r, hr, rfl⟩ := List.mem_map.mp (show e ∈ R.map Row.d from he)
    have gg : Gw wa H H' := (Gw.of sp).trans g
    refine q b [u] [r.d] _ (gg.trans (Gw.of (Sm.new nb))) (hw'.sm (Sm.new nb)) (Gw.free hw' gg nb) upd_same (.one ((ru.fz (Row.fz r)).sm (Sm.new nb))) (Nat.le_refl _) fun d hd => ?_
    rw [List.mem_singleton.mp hd]
    exact Tk.row (ok r hr) (sm r hr)
  · refine ⟨(by show 0 ≤ sizeLine; decide), fun b nb => ?_⟩
    exact q b [] [] _ ((Gw.of sp).trans (Gw.of (Sm.new nb))) ((hw1.sm (Sm.new nb)).mono (by omega)) (sp.free nb) upd_same .nil (Nat.zero_le _) fun d hd => nomatch hd
theorem sc__law_put_right : FnScope ["well", "rows", "some", "k", "longer", "thing", "why", "passed", "held", "found", "row", "was", "due", "told"] ["well", "rows"] (defScope s_law_put_right) := ⟨rfl, rfl, rfl, by decide +kernel, rfl, by decide +kernel, by decide +kernel⟩
theorem ok__law_put_right (B : Bt mg) (SM : ∃ o, base.get? sysModules = some o) (E2 : Ex2 K mg CW CR) (FM : Fn K mg d_law_met)
    (D1 : Df P w K mg base CX0 3 "_law_g_row" ["well", "rows"] spGRow) (D2 : Df P w K mg base CX0 2 "_law_pick" ["well", "some"] spPick) (D3 : Df P w K mg base CX0 3 "_law_g_bent_row" ["well", "rows", "at"] spGBentRow)
    (D4 : Df P w K mg base CX0 3 "_law_g_why" ["rows", "thing"] spGWhy) (D5 : Df P w K mg base CX0 7 "_law_loose" ["well", "thing"] (spLoose 5)) (D6 : DfF P w K mg base (L2.CX P w) 7 "put_row" ["web", "row"] (spPutRow CW CR) dput_row)
    (D7 : Df P w K mg base CX0 7 "_law_same" ["found", "due"] (spSame 7)) (D8 : Df P w K mg base CX0 2 "_law_g_form" ["thing"] spRowForm) (D9 : Df P w K mg base CX0 7 "_law_spoiled" ["thing"] (spPoil 7))
    {T : TabL} {c Pt f : Addr} {dV kV doc pm ct oc : Value} {an od : Option Addr} {osl : Array (Option Value)} (TB : TabB base mg c Pt) (hmT : (Pt, ("_law_put_right" : Str) ++ ".<locals>." ++ "<lambda>") ∈ T) (hu : ∀ p ∈ T, p.1 = Pt → p.2 = ("_law_put_right" : Str) ++ ".<locals>." ++ "<lambda>")
    (lk : K.lookup f = some ⟨oc, od, .func (PySem.W.fnOf d_law_put_right.name d_law_put_right.qual d_law_put_right.params d_law_put_right.body d_law_put_right.scope dV kV doc pm an (.ref c) ct), osl⟩) (hcd : PySem.W.codeIn K (.ref c) d_law_put_right.qual = true) :
    FnG P w K mg base CX0 10 f (PySem.W.fnOf d_law_put_right.name d_law_put_right.qual d_law_put_right.params d_law_put_right.body d_law_put_right.scope dV kV doc pm an (.ref c) ct) ["well", "rows"] (spPR T) := by
  refine fnG_of (N := ["well", "rows", "some", "k", "longer", "thing", "why", "passed", "held", "found", "row", "was", "due", "told"]) lk hcd sc__law_put_right (fun vs H Q E h => by obtain ⟨w, n, v, R, rfl, _⟩ := h; rfl) (fun A outer s H vs Q E hr free h => ?_)
  obtain ⟨wa, n, v, R, rfl, hw, hn, rd, hR, hWeb, hsm, hT, q⟩ := h
  have hr2 := hr.mono (show 2 ≤ 9 by decide)
  have hr3 := hr.mono (show 3 ≤ 9 by decide)
  have hr7 := hr.mono (show 7 ≤ 9 by decide)
  have hu0 := hr.un
  have hu65 : (A.deeper (envOfC d_law_put_right.qual d_law_put_right.scope s.heap.objs.size f (Value.ref c))).units + 65 < cLine := by omega
  have hu64 : (A.deeper (envOfC d_law_put_right.qual d_law_put_right.scope s.heap.objs.size f (Value.ref c))).units + 64 < cLine := by omega
  obtain ⟨g, fdg, mm, FD⟩ := FM
  obtain ⟨ocg, odg, dVg, kVg, docg, pmg, ang, cdg, ctg, oslg, rfl, lkg, hcg, _, _⟩ := FD.ex
  have bm : L2.Binds K (PySem.W.fnOf d_law_met.name d_law_met.qual d_law_met.params d_law_met.body d_law_met.scope dVg kVg docg pmg ang cdg ctg) ["ask"] [] := FD.bindsN fun _ _ _ _ _ _ us hl => match us, hl with | [_], _ => rfl
  refine ⟨_, PSs.nox (pss_cons (ps_set (i := 2) sc__law_put_right.nd rfl (by first | exact Or.inl rfl | exact Or.inr rfl) (pe_op op_cat (pe_lc (own := [("k", 3)]) (g := gName 3) (tt := tYes) rfl sc__law_put_right.nd (pi_range1 rfl B.range (pa_cons pe_int pa_nil)) (blkOk_by (own := [("k", 3)]) (N := ["well", "rows", "some", "k", "longer", "thing", "why", "passed", "held", "found", "row", "was", "due", "told"]) (sc := defScope s_law_put_right) (by decide +kernel)) (fun _ _ _ _ _ => pg_name (i := 3) sc__law_put_right.nd rfl (by first | exact Or.inl rfl | exact Or.inr rfl)) (fun _ _ _ _ _ => pts_nil) (fun _ _ _ _ _ => (pe_df D1 hr3 pass0 (pa_cons (pv 0) (pa_cons (pv 1) pa_nil))))) (pe_ifExp (pt_cmpR (op_neDr hu64) (pv 1) (pe_lst pa_nil) (nomark _)) (pe_lst (pa_cons (pe_df D2 hr2 pass0 (pa_cons (pv 0) (pa_cons (pv 1) pa_nil))) pa_nil)) (pe_lst pa_nil))))
      (pss_cons (ps_set (i := 4) sc__law_put_right.nd rfl (by first | exact Or.inl rfl | exact Or.inr rfl) (pe_op op_cat (pv 1) (pe_lst (pa_cons (pe_df D1 hr3 pass0 (pa_cons (pv 0) (pa_cons (pv 1) pa_nil))) pa_nil))))
      (pss_cons (ps_expr (pe_bm PySem.F.plainAttrs_list PySem.F.slot_list_extend PySem.F.type_list_extend mt_extend (pv 2) (pa_cons (pe_op op_cat (pe_lc (own := [("k", 3)]) (g := gName 3) (tt := tYes) rfl sc__law_put_right.nd (pi_range1 rfl B.range (pa_cons pe_int pa_nil)) (blkOk_by (own := [("k", 3)]) (N := ["well", "rows", "some", "k", "longer", "thing", "why", "passed", "held", "found", "row", "was", "due", "told"]) (sc := defScope s_law_put_right) (by decide +kernel)) (fun _ _ _ _ _ => pg_name (i := 3) sc__law_put_right.nd rfl (by first | exact Or.inl rfl | exact Or.inr rfl)) (fun _ _ _ _ _ => pts_nil) (fun _ _ _ _ _ => (pe_df D3 hr3 pass0 (pa_cons (pv 0) (pa_cons (pv 4) (pa_cons (pe_callB call_lenS (by rfl) B.len (by decide +kernel) (pa_cons (pv 1) pa_nil)) pa_nil)))))) (pe_lst (pa_cons (pe_tup (pa_cons pe_str (pa_cons (pe_op op_pow pe_int pe_int) pa_nil))) (pa_cons pe_int (pa_cons pe_str (pa_cons pe_dnewK pa_nil)))))) pa_nil)))
      (pss_cons (ps_for PassesOwn.never rfl (pi_seq (pv 2)) (pg_name (i := 5) sc__law_put_right.nd rfl (by first | exact Or.inl rfl | exact Or.inr rfl)) (pss_cons (ps_asg (pe_tup (pa_cons (pe_df D4 hr3 pass0 (pa_cons (pv 1) (pa_cons (pv 5) pa_nil))) (pa_cons (pe_df D5 hr7 pass0 (pa_cons (pv 0) (pa_cons (pv 1) pa_nil))) (pa_cons (pe_df D5 hr7 pass0 (pa_cons (pv 0) (pa_cons (pv 5) pa_nil))) pa_nil)))) (pg_tup rfl (pgs_cons (pg_name (i := 6) sc__law_put_right.nd rfl (by first | exact Or.inl rfl | exact Or.inr rfl)) (pgs_cons (pg_name (i := 7) sc__law_put_right.nd rfl (by first | exact Or.inl rfl | exact Or.inr rfl)) (pgs_cons (pg_name (i := 8) sc__law_put_right.nd rfl (by first | exact Or.inl rfl | exact Or.inr rfl)) pgs_nil)))))
      (pss_one (ps_if (pt_cmpR op_notN (pv 6) pe_non (nomark _)) (pss_cons (ps_set (i := 9) sc__law_put_right.nd rfl (by first | exact Or.inl rfl | exact Or.inr rfl) (LamX.pe_lamcall (by rfl) mm FD.kp lkg hcg bm sc__law_met rfl (by first | exact .inl rfl | exact .inr (.inl rfl)) (met_gives E2) TB rfl hmT hu hr (lamS_by (by show lamSB d_law_put_right.scope _ = true; decide +kernel)) rfl (fun _ _ _ _ _ => rfl) (fun A outer s H E f c hr2 => pe_df D6.df hr2 (passes_call (takes_of rfl rfl rfl rfl) (fun _ _ _ _ z => z)) (pa_cons (pv 7) (pa_cons (pv 8) pa_nil)))))
      (pss_cons (ps_if (pt_val (pe_callB (call_isD kit_list) (by rfl) B.isinstance (by decide +kernel) (pa_cons (pv 8) (pa_cons (pe_ty "list" B.list (by decide +kernel)) pa_nil)))) (pss_one (ps_expr (pe_bm PySem.F.plainAttrs_list PySem.F.slot_list_append PySem.F.type_list_append mt_append (pv 8) (pa_cons pe_str pa_nil)))) pss_nil)
      (pss_one (ps_if (pt_not (pt_val (pe_df D7 hr7 pass0 (pa_cons (pv 9) (pa_cons (pe_lst (pa_cons pe_str (pa_cons (pv 8) pa_nil))) pa_nil))))) (pss_one (ps_ret pe_bl)) pss_nil)))) (pss_cons (ps_par (i := 10) (j := 11) (by rfl) sc__law_put_right.nd rfl rfl (by decide) rfl rfl (pa_cons (pe_df D8 hr2 pass0 (pa_cons (pv 5) pa_nil)) (pa_cons (pe_callB (call_reprD hr free SM) (by rfl) B.repr (by decide +kernel) (pa_cons (pe_lst (pa_cons (pv 7) (pa_cons (pv 8) pa_nil))) pa_nil)) pa_nil)) (by first | rfl | kernel_rfl))
      (pss_cons (ps_set (i := 12) sc__law_put_right.nd rfl (by first | exact Or.inl rfl | exact Or.inr rfl) (pe_tup (pa_cons (pe_ifExp (pt_cmpR (op_inDr hu65) (pv 10) (pv 1) (by rfl)) (pv 1) (pe_op op_cat (pv 1) (pe_lst (pa_cons (pv 10) pa_nil)))) (pa_cons (pe_ifExp (pt_cmpR (op_inDr hu65) (pv 10) (pv 1) (by rfl)) (pe_bm PySem.F.plainAttrs_list PySem.F.slot_list_index PySem.F.type_list_index (mt_indexD hu65) (pv 1) (pa_cons (pv 10) pa_nil)) (pe_callB call_lenS (by rfl) B.len (by decide +kernel) (pa_cons (pv 1) pa_nil))) pa_nil))))
      (pss_cons (ps_set (i := 13) sc__law_put_right.nd rfl (by first | exact Or.inl rfl | exact Or.inr rfl) (pe_lst (pa_cons (pe_df D6.df hr7 (passes_call LamX.takes0 (fun _ _ _ _ z => z)) (pa_cons (pv 7) (pa_cons (pv 8) pa_nil))) (pa_cons (pe_dfK (kw_put_row D6) hr7 (passes_call LamX.takes0 (fun _ _ _ _ z => z)) (pk_cons (pv 10) (pk_cons (pv 1) pk_nil))) pa_nil))))
      (pss_cons (ps_if (PW.pt (pw_or (pt_not (pt_val (pe_df D7 hr7 pass0 (pa_cons (pv 13) (pa_cons (pe_lst (pa_cons (pv 12) (pa_cons (pv 12) pa_nil))) pa_nil))))) (pw_or1 (pt_cmpR op_ne (pe_callB (call_reprD hr free SM) (by rfl) B.repr (by decide +kernel) (pa_cons (pe_lst (pa_cons (pv 7) (pa_cons (pv 8) pa_nil))) pa_nil)) (pv 11) (nomark _))))) (pss_one (ps_ret pe_bl)) pss_nil)
      (pss_cons (ps_expr (pe_df D9 hr7 pass0 (pa_cons (pv 13) pa_nil)))
      (pss_one (ps_if (pt_not (pt_val (pe_df D7 hr7 pass0 (pa_cons (pe_df D6.df hr7 (passes_call LamX.takes0 (fun _ _ _ _ z => z)) (pa_cons (pv 7) (pa_cons (pv 8) pa_nil))) (pa_cons (pv 12) pa_nil))))) (pss_one (ps_ret pe_bl)) pss_nil)))))))))))
      (pss_one (ps_ret pe_bl)))))), ?_⟩
  have htop : top0 = 1000000000000 := rfl
  have hlim : lim = 4000 := rfl
  have oN : Off wa (Ne wa) := fun a z => z
  have hw0 := hw
  have oks : ∀ r ∈ R, r.ok := hWeb.ok
  have hsl := lim_lt
  -- some
  refine ⟨_, rfl, by decide, by decide, fun D1 nD1 => ?_⟩
  refine lc_w (c := 60) (n := n) (N := No) (fun _ e => Tk e) (WalkW.range (w := wa) (N := No) (lo := 0) (n := 3)) nD1 hw (fun b z => z.elim) (by simp; omega) (fun _ => rfl) (fun x d' j H2 Q' hd' g2 hw2 rx q' _ => ?_) (fun H2 ys es g2 hw2 eD2 ry al => ?_)
  · have hj : j < 3 := by
      have := (List.getElem?_eq_some_iff.mp hd').1
      simpa using this
    refine ⟨_, rfl, _, rfl, wa, n + 60 * j, v, R, rfl, hw2, by omega, rd.gn oN hw0 g2, by omega, fun r u H3 rok rsm rwhy g3 hw3 ru => q' u r.d H3 g3 (hw3.mono (by omega)) (ru.wide fun _ z => z.elim) (Tk.row rok rsm)⟩
  have les : es.length = 3 := by
    have := al.len
    simpa using this
  have tes : ∀ e ∈ es, Tk e := fun e he => by
    obtain ⟨_, _, z⟩ := al.mem e he
    exact z
  have hw2' : Wl H2 wa (n + 180) := hw2.mono (by simp)
  have nD1w : D1 ≠ wa := hw.ne nD1
  have ryN : DrA No H2 ys es := ry.fz (fzA_of fun e he => (tes e he).2)
  refine pick_if rfl rfl hw2' (by omega) (rd.gn oN hw0 g2) hR oks hsm fun b zs fs H3 g3 hw3 nb eb rz lfs tfs => ?_
  have nD1b : b ≠ D1 := (ne_of_none eD2 nb).symm
  have eD3 : H3 D1 = some (.lst ys) := g3 D1 _ nD1w eD2
  have rz3 := rz.length
  have ry3 := ryN.length
  refine ⟨D1, b, ys, zs, rfl, rfl, eD3, eb, by omega, fun sa nsa => ?_⟩
  have g0 : Gw wa H H3 := g2.trans g3
  have s3a : Sm H3 (upd H3 sa (.lst (ys ++ zs))) := Sm.new nsa
  have nsaw : sa ≠ wa := hw3.ne nsa
  have esa : upd H3 sa (.lst (ys ++ zs)) sa = some (.lst (ys ++ zs)) := upd_same
  have rsa : DrA No (upd H3 sa (.lst (ys ++ zs))) (ys ++ zs) (es ++ fs) := ((ryN.mono (fun _ z => z) (g3.stN (fun _ z => z.elim) hw2)).append rz).sm s3a
  have tsa : ∀ e ∈ es ++ fs, Tk e := fun e he => (List.mem_append.mp he).elim (tes e) (tfs e)
  have lsa : (es ++ fs).length ≤ 4 := by rw [List.length_append]; omega
  have g4 : Gw wa H (upd H3 sa (.lst (ys ++ zs))) := g0.trans (Gw.of s3a)
  have hw4 : Wl (upd H3 sa (.lst (ys ++ zs))) wa (n + 181) := hw3.sm s3a
  have nsaH : H sa = none := Gw.free hw3 g0 nsa
  generalize upd H3 sa (.lst (ys ++ zs)) = H4 at esa rsa g4 hw4 ⊢
  generalize ys ++ zs = xs at esa rsa ⊢
  generalize es ++ fs = ts at rsa tsa lsa
  clear s3a nsa eD3 eb rz ryN ry al eD2 g2 g3 g0 hw2 hw2' hw3 nb nD1b rz3 ry3 les lfs tes tfs nD1 nD1w
  -- longer
  refine ⟨_, rfl, _, rfl, _, rfl, wa, n + 181, v, R, rfl, hw4, by omega, rd.gn oN hw0 g4, by omega, fun r u H5 rok rsm rwhy g5 hw5 ru => ⟨(by show 1 ≤ sizeLine; decide), fun p np => ?_⟩⟩
  have sp : Sm H5 (upd H5 p (.lst [u])) := Sm.new np
  have g5' := g4.trans g5
  have rd5 : Dr (Ne wa) (upd H5 p (.lst [u])) v (rowsD R) := (rd.gn oN hw0 g5').sm sp
  obtain ⟨va, vxs, rfl, eva, rva⟩ : ∃ va vxs, v = .ref va ∧ upd H5 p (.lst [u]) va = some (.lst vxs) ∧ DrA (Ne wa) (upd H5 p (.lst [u])) vxs (R.map Row.d) := by
    cases rd5 with
    | lst _ e r => exact ⟨_, _, rfl, e, r⟩
  have lva := rva.length
  refine ⟨va, p, vxs, [u], rfl, rfl, eva, upd_same, by rw [lva]; simp; omega, fun la nla => ?_⟩
  have sla := Sm.new (o := .lst (vxs ++ [u])) nla
  have ela : upd (upd H5 p (.lst [u])) la (.lst (vxs ++ [u])) la = some (.lst (vxs ++ [u])) := upd_same
  have fR : ∀ d ∈ (R ++ [r]).map Row.d, fz d = true := fun d hd => by
    obtain ⟨r', _, rfl⟩ := List.mem_map.mp hd
    exact Row.fz r'
  have rla : DrA No (upd (upd H5 p (.lst [u])) la (.lst (vxs ++ [u]))) (vxs ++ [u]) ((R ++ [r]).map Row.d) := by
    refine DrA.fz (N := Ne wa) ?_ (fzA_of fR)
    rw [List.map_append]
    exact (rva.append (.one ((ru.sm sp).wide fun _ z => z.elim))).sm sla
  have lawa : la ≠ wa := (hw5.sm sp).ne nla
  have lasa : la ≠ sa := fun z => by rw [z, sp _ _ (g5 _ _ nsaw esa)] at nla; cases nla
  have g6 : Gw wa H (upd (upd H5 p (.lst [u])) la (.lst (vxs ++ [u]))) := (g5'.trans (Gw.of sp)).trans (Gw.of sla)
  have hw6 : Wl (upd (upd H5 p (.lst [u])) la (.lst (vxs ++ [u]))) wa (n + 241) := (hw5.sm sp).sm sla
  have esa6 : upd (upd H5 p (.lst [u])) la (.lst (vxs ++ [u])) sa = some (.lst xs) := sla _ _ (sp _ _ (g5 _ _ nsaw esa))
  have rsa6 : DrA No (upd (upd H5 p (.lst [u])) la (.lst (vxs ++ [u]))) xs ts := ((rsa.mono (fun _ z => z) (g5.stN (fun _ z => z.elim) hw4)).sm sp).sm sla
  generalize upd (upd H5 p (.lst [u])) la (.lst (vxs ++ [u])) = H6 at ela rla g6 hw6 esa6 rsa6 ⊢
  clear sla sp nla np eva rva rd5 g5' g5 hw5 ru esa rsa g4 hw4
  -- some.extend(..)
  refine ⟨_, rfl, .inl ⟨rfl, xs, SqL.of esa6⟩, ?_⟩
  refine ⟨_, rfl, by decide, by decide, fun D2 nD2 => ?_⟩
  have lenR : (its (rowsD R)).length = R.length := by simp [rowsD, its]
  refine lc_w (c := 10) (n := n + 241) (N := fun b => b = la) (fun _ e => tame false e 3 = true) (WalkW.range (w := wa) (N := No) (lo := 0) (n := 5)) nD2 hw6 (fun b z => by rw [z]; exact lawa) (by simp; omega) (fun _ => rfl) (fun x d' j H7 Q' hd' g7 hw7 rx q' nD7 => ?_) (fun H7 ys es g7 hw7 eD7 ry al => ?_)
  · have hj : j < 5 := by
      have := (List.getElem?_eq_some_iff.mp hd').1
      simpa using this
    have la7 : H7 la = some (.lst (vxs ++ [u])) := g7 _ _ lawa ela
    refine ⟨_, rfl, _, rfl, _, rfl, .ref va, rowsD R, rfl, (rd.gn oN hw0 (g6.trans g7)).all, rfl, wa, n + 241 + 10 * j, .ref la, R ++ [r], (its (rowsD R)).length, fun b => b = la, rfl, (fun b z => by rw [z]; exact lawa), hw7, by omega, .lst rfl la7 ((rla.mono (fun _ z => z) (g7.stN (fun _ z => z.elim) hw6)).wide fun _ z => z.elim), by simp; omega, by rw [lenR]; simp, fun r' hr' => ?_, fun d u' H8 td g8 hw8 ru => q' u' d H8 g8 (hw8.mono (by omega)) (ru.wide fun b z => ?_) td⟩
    · rcases List.mem_append.mp hr' with z | z
      · exact ⟨oks _ z, hsm _ z⟩
      · rw [List.mem_singleton.mp z]
        exact ⟨rok, rsm⟩
    · rcases z with z | z
      · exact ⟨.inl z, fun y => by rw [z] at y; rw [y, nD2] at ela; cases ela⟩
      · exact ⟨.inr (Gw.free hw7 g7 z), fun y => nD7 (by rw [← y]; exact z)⟩
  have les : es.length = 5 := by
    have := al.len
    simpa using this
  have tes : ∀ e ∈ es, tame false e 3 = true := fun e he => by
    obtain ⟨_, _, z⟩ := al.mem e he
    exact z
  have hw7' : Wl H7 wa (n + 291) := hw7.mono (by simp)
  have nD2w : D2 ≠ wa := hw6.ne nD2
  have esa7 : H7 sa = some (.lst xs) := g7 _ _ nsaw esa6
  have Y : Cy (fun b => H7 b = none) (fun A => Sm H7 A) := ⟨fun _ _ s c => c.trans s, fun A p c np => c.free np⟩
  refine run_lst (N := fun b => H7 b = none) (C := fun A => Sm H7 A) (ds := four) (.cons Y (.tup (by decide) (.cons Y (.str _) (.one Y (.pow ⟨by decide, by decide, by decide⟩)))) (.cons Y (.int 5) (.cons Y (.str _) (.one Y (.dict0 Y))))) Sm.rfl' fun vs H8 s8 r8 => ⟨by rw [r8.length]; show 4 ≤ sizeLine; decide, fun p np => ?_⟩
  have sp := Sm.new (o := .lst vs) np
  have l8 := r8.length
  have ly := ry.length
  refine ⟨D2, p, ys, vs, rfl, rfl, sp _ _ (s8 _ _ eD7), upd_same, by rw [l8, ly, les]; show 5 + 4 ≤ sizeLine; decide, fun p3 np3 => ?_⟩
  have s9 := (s8.trans sp).trans (Sm.new (o := .lst (ys ++ vs)) np3)
  have ep3 : upd (upd H8 p (.lst vs)) p3 (.lst (ys ++ vs)) p3 = some (.lst (ys ++ vs)) := upd_same
  have r9 : DrA (fun b => H7 b = none) (upd (upd H8 p (.lst vs)) p3 (.lst (ys ++ vs))) vs four := (r8.sm sp).sm (Sm.new np3)
  generalize upd (upd H8 p (.lst vs)) p3 (.lst (ys ++ vs)) = H9 at s9 ep3 r9 ⊢
  have lxs := rsa6.length
  refine ⟨sa, p3, xs, ys ++ vs, rfl, rfl, s9 _ _ esa7, ep3, by rw [lxs, List.length_append, ly, les, l8]; show ts.length + (5 + 4) ≤ sizeLine; omega, ?_⟩
  -- all the things
  have noS : Off wa (fun b => (b = la ∨ H6 b = none) ∧ b ≠ D2) := fun b z => z.1.elim (fun y => by rw [y]; exact lawa) fun y => hw6.ne y
  have st : Stays (fun b => b ≠ wa ∧ b ≠ sa) H9 (upd H9 sa (.lst (xs ++ (ys ++ vs)))) := ⟨fun b o nb e => by rw [upd_ne nb.2]; exact e, fun b zs e => by
    rw [upd_ne fun y => by rw [y, s9 _ _ esa7] at e; cases e]
    exact e⟩
  have rx9 : DrA (fun b => b ≠ wa ∧ b ≠ sa) H9 xs ts := ((rsa6.mono (fun _ z => z) (g7.stN (fun _ z => z.elim) hw6)).sm s9).wide fun _ z => z.elim
  have ry9 : DrA (fun b => b ≠ wa ∧ b ≠ sa) H9 ys es := (ry.sm s9).wide fun b z => ⟨noS b z, z.1.elim (fun y => by rw [y]; exact lasa) fun y x => by rw [x, esa6] at y; cases y⟩
  have rv9 : DrA (fun b => b ≠ wa ∧ b ≠ sa) H9 vs four := r9.wide fun b z => ⟨hw7.ne z, fun x => by rw [x, esa7] at z; cases z⟩
  have rall : DrA (fun b => b ≠ wa ∧ b ≠ sa) (upd H9 sa (.lst (xs ++ (ys ++ vs)))) (xs ++ (ys ++ vs)) (ts ++ (es ++ four)) := (rx9.append (ry9.append rv9)).mono (fun _ z => z) st
  have tall : ∀ e ∈ ts ++ (es ++ four), tame false e 3 = true := fun e he => by
    rcases List.mem_append.mp he with z | z
    · exact (tsa e z).1
    · exact (List.mem_append.mp z).elim (tes e) (four_ok e)
  have lall : (ts ++ (es ++ four)).length ≤ 13 := by
    rw [List.length_append, List.length_append, les]
    show ts.length + (5 + 4) ≤ 13
    omega
  have gall : Gw wa H (upd H9 sa (.lst (xs ++ (ys ++ vs)))) := fun b o hb e => by
    rw [upd_ne (ne_of_none e nsaH)]
    exact s9 _ _ (g7 _ _ hb (g6 _ _ hb e))
  have wall : Wl (upd H9 sa (.lst (xs ++ (ys ++ vs)))) wa (n + 291) := by
    obtain ⟨a', b', c', e', h'⟩ := hw7'.sm s9
    exact ⟨a', b', c', by rw [upd_ne (Ne.symm nsaw)]; exact e', h'⟩
  have eall : upd H9 sa (.lst (xs ++ (ys ++ vs))) sa = some (.lst (xs ++ (ys ++ vs))) := upd_same
  generalize upd H9 sa (.lst (xs ++ (ys ++ vs))) = H10 at rall gall wall eall ⊢
  generalize xs ++ (ys ++ vs) = us at rall eall ⊢
  generalize ts ++ (es ++ four) = ds at rall tall lall
  clear st rx9 ry9 rv9 noS lxs r9 ep3 s9 np3 ly l8 sp np r8 s8 Y esa7 nD2w hw7' tes les al ry eD7 hw7 g7 nD2 rsa6 esa6 hw6 g6 lasa lawa rla fR ela lva tsa lsa
  have hT10 : Tabs T H10 := tabs_gw hT hw0 gall
  have c41 : (41 : Nat) ^ 4 = 2825761 := by decide
  have offS : ∀ {d : PyData} {x : V}, Dr (fun b => b ≠ wa ∧ b ≠ sa) H10 x d → Dr (Ne wa) H10 x d := fun r => r.wide fun b z => z.1
  have lus := rall.length
  have rdA : Dr (Ne wa) H10 (.ref va) (rowsD R) := rd.gn oN hw0 gall
  have rtame : tame true (rowsD R) 3 = true := by
    refine tame_lst3 (n := 2) (tameA_of fun d hd => ?_) (by simp; omega)
    obtain ⟨r', hr', rfl⟩ := List.mem_map.mp hd
    obtain ⟨t1, t2, t3, t4, t5⟩ := Row.tm (b := true) (oks _ hr') (hsm _ hr')
    rw [t4]
    exact tame_tup t1 (by omega)
  refine ⟨_, rfl, sa, us, rfl, .inl eall, fun J hJ => for_seq hJ (fun i σ' H2 => ∃ x3 x5 x6 x7 x8 x9 x10 x11 x12 x13, σ' = [some (.ref wa), some (.ref va), some (.ref sa), x3, some (.ref la), x5, x6, x7, x8, x9, x10, x11, x12, x13] ∧ GwN wa H10 H2 ∧ Wl H2 wa (n + 291 + 6000000 * i) ∧ Tabs T H2) ?_ ?_ ?_ ?_⟩
  · exact ⟨_, _, _, _, _, _, _, _, _, _, rfl, fun b o _ e _ => e, by simpa using wall, hT10⟩
  · rintro i σ2 H2 _ ⟨x3, x5, x6, x7, x8, x9, x10, x11, x12, x13, rfl, g2, _⟩
    rw [eall]
    exact g2 _ _ nsaw eall fun _ z => nomatch z
  · rintro i u0 σ2 H2 hi ⟨x3, x5, x6, x7, x8, x9, x10, x11, x12, x13, rfl, g2, hw2, hT2⟩
    obtain ⟨t, et, ru0⟩ := rall.get hi
    have hit : i < ds.length := (List.getElem?_eq_some_iff.mp et).1
    have tt : tame false t 3 = true := tall t (List.mem_of_getElem? et)
    have ttT : tame true t 3 = true := tame_wk tt
    have ru : Dr (Ne wa) H2 u0 t := drGN wall g2 (offS ru0)
    have rd2 : Dr (Ne wa) H2 (.ref va) (rowsD R) := drGN wall g2 rdA
    -- why, passed, held
    refine ⟨_, rfl, _, rfl, .ref va, u0, R, t, rfl, rd2.all, ru.all, tame_wd ttT, fun x y H3 s3 gw rx => ?_⟩
    have hw3 := hw2.sm s3
    refine ⟨_, rfl, _, rfl, wa, n + 291 + 6000000 * i, Ne wa, .ref va, rowsD R, rfl, oN, hw3, by rw [c41]; omega, rd2.sm s3, tame_mono (show 3 ≤ 4 by decide) rtame, fun pv' pe H4 g4 hw4 rp lop => ?_⟩
    refine ⟨_, rfl, _, rfl, wa, n + 291 + 6000000 * i + 41 ^ 4, Ne wa, u0, t, rfl, oN, hw4, by rw [c41]; omega, (ru.sm s3).gn oN hw3 g4, tame_mono (show 3 ≤ 4 by decide) ttT, fun hv he H5 g5 hw5 rh loh => ⟨(by show 3 ≤ sizeLine; decide), fun p np => ?_⟩⟩
    refine ⟨p, _, rfl, SqT.of upd_same, rfl, _, _, rfl, _, _, rfl, _, _, rfl, rfl, ?_⟩
    rw [c41] at hw4 hw5
    have spt := Sm.new (o := .tup [x, pv', hv]) np
    have gH6 : Gw wa H2 (upd H5 p (.tup [x, pv', hv])) := ((Gw.of s3).trans (g4.trans g5)).trans (Gw.of spt)
    have hw6 : Wl (upd H5 p (.tup [x, pv', hv])) wa (n + 291 + 6000000 * (i + 1)) := (hw5.sm spt).mono (by omega)
    have hT6 : Tabs T (upd H5 p (.tup [x, pv', hv])) := tabs_gw hT2 hw2 gH6
    have rp6 : Dr All (upd H5 p (.tup [x, pv', hv])) pv' pe := ((rp.gn (fun a z => hw3.ne z) hw4 g5).sm spt).all
    have rh6 : Dr (NwA H2) (upd H5 p (.tup [x, pv', hv])) hv he := (rh.sm spt).wide fun b z => s3.free (Gw.free hw4 g4 z)
    have rd6 : Dr (Ne wa) (upd H5 p (.tup [x, pv', hv])) (.ref va) (rowsD R) := rd2.gn oN hw2 gH6
    have rt6 : Dr (Ne wa) (upd H5 p (.tup [x, pv', hv])) u0 t := ru.gn oN hw2 gH6
    have rx6 := gwhy_cases gw rx
    have tpe : tame true pe 3 = true := tame_lo lop rtame
    have the : tame false he 3 = true := tame_lo loh tt
    have fhe : rowForm t = rowForm he := rowForm_lo loh
    have scp : ScanOf pe R .none := (hWeb.scan).lo lop
    generalize upd H5 p (.tup [x, pv', hv]) = H6 at gH6 hw6 hT6 rp6 rh6 rd6 rt6 ⊢
    clear spt np rp rh hw5 hw4 g5 g4 hw3 rx s3
    rcases rx6 with ⟨z, rfl, bad0⟩ | ⟨rfl, r, efr, rok', erw⟩
    · -- it is refused
      have bad : RowBad R he := bad0.lo loh
      refine ⟨_, rfl, rfl, _, rfl, iteT ?_⟩
      refine ⟨hT6, fun H7 x7 T7 => ?_⟩
      have rp7 : Dr All H7 pv' pe := drX x7 rp6
      have rh7 : Dr (NwA H2) H7 hv he := drX x7 rh6
      refine ⟨_, rfl, _, rfl, pv', hv, pe, he, rfl, rp7, tame_wd tpe, rh7.all, tame_wd (tame_wk the), fun R' r k p8 H8 sc' er _ ew _ _ _ => ?_, fun R' m xx dx H8 sc' _ _ _ => ?_, fun R' dx H8 sc' _ s8 nd8 hx => ?_⟩
      · obtain ⟨rfl, _⟩ := scp.det sc'
        rcases bad with b1 | ⟨r1, z2, b1, b2⟩
        · exact absurd (er.symm.trans b1) (Row.d_ne r)
        · have := Row.d_inj (er.symm.trans b1)
          subst this
          rw [ew] at b2
          cases b2
      · obtain ⟨_, e0⟩ := scp.det sc'
        cases e0
      · refine .inr ⟨rfl, dx, _, _, rfl, hx, rfl, fun p2 np2 => ?_⟩
        have s9 : Sm H7 (upd H8 p2 (.lst [.str "row", hv])) := s8.trans (Sm.new np2)
        have e9 : upd H8 p2 (.lst [.str "row", hv]) p2 = some (.lst [.str "row", hv]) := upd_same
        have rh9 : Dr (NwA H2) (upd H8 p2 (.lst [.str "row", hv])) hv he := rh7.sm s9
        have g9 : GwN wa H2 (upd H8 p2 (.lst [.str "row", hv])) := ((GwN.of gH6).trans (GwN.ext x7)).trans (GwN.of (Gw.of s9))
        have hw9 : Wl (upd H8 p2 (.lst [.str "row", hv])) wa (n + 291 + 6000000 * (i + 1)) := by
          obtain ⟨a0, b0, c0, ew, r0⟩ := hw6
          exact ⟨a0, b0, c0, s9 _ _ (x7 _ _ ew fun _ z => nomatch z), r0⟩
        have hT9 : Tabs T (upd H8 p2 (.lst [.str "row", hv])) := T7.ext s9
        generalize upd H8 p2 (.lst [.str "row", hv]) = H9 at s9 e9 rh9 g9 hw9 hT9 ⊢
        have hvp : ∀ a, hv = .ref a → p2 ≠ a := fun a e z => by
          have r8 := rh7.sm s8
          rw [e, ← z] at r8
          cases r8 with
          | lst _ e0 _ => rw [np2] at e0; cases e0
          | tup e0 _ => rw [np2] at e0; cases e0
          | dct _ e0 _ => rw [np2] at e0; cases e0
        clear rh7 rp7 x7 T7 np2 s8 hx bad bad0 rp6 scp tpe lop
        refine ⟨_, rfl, hv, he, rfl, rh9.all, _, rfl, ite2 (fun hl => ?_) (fun _ => ?_)⟩
        · -- held is a list
          obtain ⟨es', rfl⟩ : ∃ es', he = .list es' := by
            cases he <;> first | exact ⟨_, rfl⟩ | cases hl
          cases rh9 with
          | @lst a hs _ na ea ra =>
          have nap := hvp a rfl
          have self : Dr (NwA H2) H9 (.ref a) (.list es') := .lst na ea ra
          have ra2 := drOffA self ra (by simp only [PyData.list.sizeOf_spec]; omega)
          have st : Stays (fun b => NwA H2 b ∧ b ≠ a) H9 (upd H9 a (.lst (hs ++ [.str "late"]))) := ⟨fun b o nb e => by rw [upd_ne nb.2]; exact e, fun b zs e => by
            rw [upd_ne fun y => by rw [y, ea] at e; cases e]
            exact e⟩
          have fe := tame_fit the
          simp only [K8.fit, Bool.and_eq_true, decide_eq_true_eq] at fe
          have lhs := ra.length
          have hcap : es'.length ≤ 40 := by
            have := the
            simp only [tame, Bool.and_eq_true, decide_eq_true_eq] at this
            exact Nat.le_trans this.1.2 (cap_le 3)
          refine ⟨_, rfl, .inl ⟨rfl, hs, SqL.of ea⟩, a, hs, _, rfl, rfl, ea, by omega, ?_⟩
          have g10 : GwN wa H2 (upd H9 a (.lst (hs ++ [.str "late"]))) := fun b o hb e ne => by
            rw [upd_ne (ne_of_none e na)]
            exact g9 b o hb e ne
          have hw10 : Wl (upd H9 a (.lst (hs ++ [.str "late"]))) wa (n + 291 + 6000000 * (i + 1)) := by
            obtain ⟨a0, b0, c0, ew, r0⟩ := hw2
            have naw : wa ≠ a := ne_of_none ew na
            obtain ⟨a0, b0, c0, ew, r0⟩ := hw9
            exact ⟨a0, b0, c0, by rw [upd_ne naw]; exact ew, r0⟩
          have hT10' : Tabs T (upd H9 a (.lst (hs ++ [.str "late"]))) := tabs_but hT9 ea fun b o hb e => by rw [upd_ne hb]; exact e
          refine same_row (e := .list (es' ++ [.str "late"])) rfl rfl (by rw [upd_ne nap]; exact e9) (.lst trivial upd_same ((ra2.mono (fun _ _ => trivial) st).append (.one (.str _)))) ?_ fun H11 s11 => ?_
          · simp only [K8.fit, Bool.and_eq_true, decide_eq_true_eq]
            refine ⟨⟨by omega, by simp; omega⟩, fitA_app (fitA_mono (by omega) fe.2) (by rfl)⟩
          · exact ⟨_, _, _, _, _, _, _, _, _, _, rfl, g2.trans (g10.trans (GwN.of (Gw.of s11))), hw10.sm s11, hT10'.ext s11⟩
        · refine same_row (e := he) rfl rfl e9 rh9.all (fit_mono (by decide) (tame_fit the)) fun H11 s11 => ?_
          exact ⟨_, _, _, _, _, _, _, _, _, _, rfl, g2.trans (g9.trans (GwN.of (Gw.of s11))), hw9.sm s11, hT9.ext s11⟩
    · -- it is put in
      refine ⟨_, rfl, rfl, _, rfl, iteF ?_⟩
      refine ⟨_, rfl, spP1_of rt6.all (by simpa [wdA] using tame_wd ttT) fun rv H7 s7 rr => ?_⟩
      have rr7 : Dr All H7 rv r.d := by
        rw [← efr]
        exact rr
      refine ⟨_, rfl, _, rfl, (by show 2 ≤ sizeLine; decide), fun p8 np8 => ?_⟩
      have s8 := s7.trans (Sm.new (o := .lst [pv', hv]) np8)
      have fit_r : K8.fit r.d 3 = true := Row.fitD efr tt
      refine ⟨_, .list [pe, he], rfl, .lst trivial upd_same (.cons (rp6.sm s8) (.one (rh6.sm s8).all)), rpr_two tpe (tame_mono (show 3 ≤ 4 by decide) (tame_wk the)), _, _, rfl, ?_⟩
      have rr8 : Dr All (upd H7 p8 (.lst [pv', hv])) rv r.d := rr7.sm (Sm.new np8)
      generalize upd H7 p8 (.lst [pv', hv]) = H8 at s8 rr8 ⊢
      -- due
      refine rows_if (v := .ref va) (y := rv) rfl rfl (rd6.sm s8).all rr8 (by omega) oks rok' fun u1 H9 s9 r9 => ?_
      refine at_if (v := .ref va) (y := rv) rfl rfl ((rd6.sm s8).sm s9).all (rr8.sm s9) (by omega) oks rok' fun k hk => ⟨(by show 2 ≤ sizeLine; decide), fun p10 np10 => ?_⟩
      have s10 := (s8.trans s9).trans (Sm.new (o := .tup [u1, .int (k : Nat)]) np10)
      have due10 : Dr (fun b => u1 = .ref va ∨ H8 b = none) (upd H9 p10 (.tup [u1, .int (k : Nat)])) (.ref p10) (.tuple [rowsD (newRows R r), .int (k : Nat)]) := .tup upd_same (.cons (r9.sm (Sm.new np10)) (.one (.int _)))
      have rr10 := (rr8.sm s9).sm (Sm.new (o := .tup [u1, .int (k : Nat)]) np10)
      generalize upd H9 p10 (.tup [u1, .int (k : Nat)]) = H10' at s10 due10 rr10 ⊢
      clear r9 np10 s9 rr8 s8 np8 rr7 rr s7
      -- told
      have wpe := tame_wd tpe
      have whe := tame_wd (tame_wk the)
      have ehe : rowForm he = r.d := by
        rw [← fhe]
        exact efr
      refine ⟨_, rfl, _, rfl, pv', hv, pe, he, rfl, rp6.sm s10, wpe, (rh6.sm s10).all, whe, fun R' r' k' p11 H11 sc' er _ _ hk' s11 r11 => ?_, fun R' m xx dx H11 sc' _ _ _ => ?_, fun R' dx H11 sc' bd _ _ _ => ?_⟩
      rotate_left
      · cases (scp.det sc').2
      · obtain ⟨rfl, _⟩ := scp.det sc'
        exact not_bad ehe erw bd
      obtain ⟨rfl, _⟩ := scp.det sc'
      have := Row.d_inj (er.symm.trans ehe)
      subst this
      obtain rfl := hk'.det hk
      refine ⟨_, rfl, _, rfl, rfl, .ref va, rv, rowsD R, r'.d, rfl, ((rd6.sm s10).sm s11).all, tame_wd rtame, rr10.sm s11, fit_wd fit_r, fun R2 r2 k2 p12 H12 sc2 er2 _ _ hk2 s12 r12 => ?_, fun R2 m xx dx H12 sc2 _ _ _ => ?_, fun R2 dx H12 sc2 bd _ _ _ => ?_⟩
      rotate_left
      · cases (hWeb.scan.det sc2).2
      · obtain ⟨rfl, _⟩ := hWeb.scan.det sc2
        exact not_bad (rowForm_d rok') erw bd
      obtain ⟨rfl, _⟩ := hWeb.scan.det sc2
      have := Row.d_inj (er2.symm.trans (rowForm_d rok'))
      subst this
      obtain rfl := hk2.det hk
      obtain ⟨l1, n1, ⟨z1, el1⟩, o1⟩ := told_one r11
      obtain ⟨l2, n2, ⟨z2, el2⟩, o2⟩ := told_one r12
      refine ⟨(by show 2 ≤ sizeLine; decide), fun p13 np13 => ?_⟩
      have s13 := Sm.new (o := .lst [.ref p11, .ref p12]) np13
      have D_fit := new_fit (k := k2) hR oks hsm fit_r (by have := hk.le; omega)
      have ow13 : Ow (upd H12 p13 (.lst [.ref p11, .ref p12])) (.ref p13) (.list [.tuple [rowsD (newRows R r2), .int (k2 : Nat)], .tuple [rowsD (newRows R r2), .int (k2 : Nat)]]) (p13 :: [[l1], [l2]].flatten) :=
        .lst upd_same (.cons (o1.keep (fun a xs e => s13 _ _ (s12 _ _ e)) fun b _ o e => s13 _ _ (s12 _ _ e)) (.cons (o2.keep (fun a xs e => s13 _ _ e) fun b _ o e => s13 _ _ e) .nil))
      have d12 : l1 ≠ l2 := ne_of_none el1 n2
      have d1p : l1 ≠ p13 := ne_of_none (s12 _ _ el1) np13
      have d2p : l2 ≠ p13 := ne_of_none el2 np13
      have nd : (p13 :: [[l1], [l2]].flatten).Nodup := by
        simp [Ne.symm d1p, Ne.symm d2p, d12]
      have fr : ∀ b ∈ p13 :: [[l1], [l2]].flatten, H10' b = none := fun b hb => by
        simp only [List.flatten_cons, List.flatten_nil, List.append_nil, List.singleton_append, List.mem_cons, List.not_mem_nil, or_false] at hb
        rcases hb with rfl | rfl | rfl
        · exact (s11.trans s12).free np13
        · exact n1
        · exact s11.free n2
      have s1013 : Sm H10' (upd H12 p13 (.lst [.ref p11, .ref p12])) := (s11.trans s12).trans s13
      generalize upd H12 p13 (.lst [.ref p11, .ref p12]) = H13 at ow13 s1013 ⊢
      clear s13 np13 o1 o2 el1 el2 n1 n2 r11 r12 s12 s11 sc2 er2 hk2 d12 d1p d2p
      generalize hfp : p13 :: [[l1], [l2]].flatten = fp at ow13 nd fr
      -- told is due, twice
      refine ⟨_, rfl, _, rfl, _, rfl, (by show 2 ≤ sizeLine; decide), fun p14 np14 => ?_⟩
      have s14 := Sm.new (o := .lst [.ref p10, .ref p10]) np14
      have due14 := (due10.all.sm s1013).sm s14
      refine ⟨_, _, .list [.tuple [rowsD (newRows R r2), .int (k2 : Nat)], .tuple [rowsD (newRows R r2), .int (k2 : Nat)]], rfl, ow13.dr.sm s14, .lst trivial upd_same (.cons due14 (.one due14)), fit_two (n := 5) D_fit D_fit, fun H15 s15 => ?_⟩
      refine ⟨_, rfl, iteF ?_⟩
      have s1015 := (s1013.trans s14).trans s15
      have ow15 := ow13.keep (fun a xs e => s15 _ _ (s14 _ _ e)) fun b _ o e => s15 _ _ (s14 _ _ e)
      refine ⟨_, rfl, _, rfl, (by show 2 ≤ sizeLine; decide), fun p16 np16 => ?_⟩
      have s16 := Sm.new (o := .lst [pv', hv]) np16
      refine ⟨_, .list [pe, he], rfl, .lst trivial upd_same (.cons (((rp6.sm s10).sm s1015).sm s16) (.one (((rh6.sm s10).sm s1015).sm s16).all)), rpr_two tpe (tame_mono (show 3 ≤ 4 by decide) (tame_wk the)), _, rfl, rfl, _, rfl, ?_⟩
      rw [show (!decide (V.str (PyData.list [pe, he]).shown = V.str (PyData.list [pe, he]).shown)) = false by simp]
      refine iteF ?_
      have ow16 := ow15.keep (fun a xs e => s16 _ _ e) fun b _ o e => s16 _ _ e
      have s1016 := s1015.trans s16
      generalize upd H15 p16 (.lst [pv', hv]) = H16 at ow16 s1016 ⊢
      clear s16 np16 ow15 s1015 s15 due14 s14 np14 ow13 s1013
      -- told is spoiled
      have fl := ow16.lists
      refine ⟨_, rfl, .ref p13, _, fp, rfl, ow16, nd, fit_two (n := 5) D_fit D_fit, fun H17 bt => ?_⟩
      have rp17 := live_bt (rp6.sm s10) s1016 fr fl bt
      have rh17 := live_bt (rh6.sm s10) s1016 fr fl bt
      have due17 := live_bt due10 s1016 fr fl bt
      have keep17 : ∀ b o, H10' b = some o → H17 b = some o := fun b o e => bt b o (fun z => by rw [fr b z] at e; cases e) (s1016 _ _ e)
      have hT17 : Tabs T H17 := tabs_buts ((hT6.ext s10).ext s1016) fl bt
      -- once more
      refine ⟨_, rfl, _, rfl, pv', hv, pe, he, rfl, rp17, wpe, rh17, whe, fun R' r3 k3 p18 H18 sc3 er3 _ _ hk3 s18 r18 => ?_, fun R' m xx dx H11 sc' _ _ _ => ?_, fun R' dx H11 sc' bd _ _ _ => ?_⟩
      rotate_left
      · cases (scp.det sc').2
      · obtain ⟨rfl, _⟩ := scp.det sc'
        exact not_bad ehe erw bd
      obtain ⟨rfl, _⟩ := scp.det sc3
      have := Row.d_inj (er3.symm.trans ehe)
      subst this
      obtain rfl := hk3.det hk
      refine ⟨_, rfl, _, _, .tuple [rowsD (newRows R r3), .int (k3 : Nat)], rfl, r18.all, due17.sm s18, fit_mono (n := 5) (m := 6) (by decide) D_fit, fun H19 s19 => ⟨_, rfl, iteF ?_⟩⟩
      refine ⟨_, _, _, _, _, _, _, _, _, _, rfl, g2.trans fun b o hb e ne => ?_, ?_, (hT17.ext s18).ext s19⟩
      · exact s19 _ _ (s18 _ _ (keep17 _ _ (s10 _ _ (gH6 b o hb e))))
      · obtain ⟨a0, b0, c0, ew, r0⟩ := hw6
        exact ⟨a0, b0, c0, s19 _ _ (s18 _ _ (keep17 _ _ (s10 _ _ ew))), r0⟩
  · rintro σ2 H2 ⟨x3, x5, x6, x7, x8, x9, x10, x11, x12, x13, rfl, g2, hw2, hT2⟩
    exact q H2 ((GwN.of gall).trans g2) (hw2.mono (by rw [lus]; omega)) hT2
end
end K8

/-! The law's constants. -/
namespace K8
open PySem PySem.Spec PyProof.Rows L2 WR LamX
theorem Web.scanApp {R R' : List Row} {ds : List PyData} {f : PyData} (W : Web R) (h : Scan R R.length ds R' f) : ∀ (m i : Nat), m + i = R.length → Scan (R.take i) i ((R.drop i).map Row.d ++ ds) R' f
  | 0, i, e => by
    have e' : i = R.length := by omega
    subst e'
    rw [List.take_length, List.drop_length]
    exact h
  | m + 1, i, e => by
    have hi : i < R.length := by omega
    rw [List.drop_eq_getElem_cons hi, List.map_cons, List.cons_append]
    have ih := W.scanApp h m (i + 1) (by omega)
    have et : R.take (i + 1) = R.take i ++ [R[i]] := by rw [List.take_succ, List.getElem?_eq_getElem hi]; rfl
    rw [et] at ih
    exact .next (rowForm_d (W.ok _ (List.getElem_mem hi))) (W.fit i hi).1 (W.fit i hi).2 ih
def R4 : List Row := [.made "one" [], .made "f" [0, 0], .made "f" [1, 1], .asked "t" [2]]
def R5 : List Row := R4 ++ [.either 3 2 0]
theorem web5 : Web R5 := by
  have w1 : Web ([] ++ [Row.made "one" []]) := Web.nil.snoc ⟨by decide +kernel, by decide⟩ (by decide +kernel) (by decide +kernel)
  have w2 : Web (([] ++ [Row.made "one" []]) ++ [Row.made "f" [0, 0]]) := w1.snoc ⟨by decide +kernel, by decide⟩ (by decide +kernel) (by decide +kernel)
  have w3 : Web ((([] ++ [Row.made "one" []]) ++ [Row.made "f" [0, 0]]) ++ [Row.made "f" [1, 1]]) := w2.snoc ⟨by decide +kernel, by decide⟩ (by decide +kernel) (by decide +kernel)
  have w4 : Web (((([] ++ [Row.made "one" []]) ++ [Row.made "f" [0, 0]]) ++ [Row.made "f" [1, 1]]) ++ [Row.asked "t" [2]]) := w3.snoc ⟨by decide +kernel, by decide⟩ (by decide +kernel) (by decide +kernel)
  exact w4.snoc (r := .either 3 2 0) trivial (by decide +kernel) (by decide +kernel)
/-- an odd thing behind them: what is told of it -/
def Odd (e : PyData) (w : Str) : Prop := wd e = true ∧ w.length ≤ 10 ∧ ScanOf (.list (R5.map Row.d ++ [e])) R5 (faultD 5 w)
theorem Odd.mk {e : PyData} {w : Str} (h1 : wd e = true) (h2 : w.length ≤ 10) (h : Scan R5 5 [e] R5 (faultD 5 w)) : Odd e w := ⟨h1, h2, .inl ⟨rfl, web5.scanApp h 5 0 rfl⟩⟩
theorem Odd.why {e : PyData} {w : Str} (r : Row) (h1 : wd e = true) (h2 : w.length ≤ 10) (hr : r.ok) (he : e = r.d) (e2 : K8.why R5 r = some w) : Odd e w := .mk h1 h2 (.why (r := r) (by rw [he]; exact rowForm_d hr) e2)
def pr (e : PyData) (w : Str) : PyData := .tuple [e, .str w]
def odds1 : List PyData := [pr (.tuple [.str "either", .int 3, .int 2, .int 2]) "alike", pr (.tuple [.str "either", .int 2, .int 0, .int 1]) "kind", pr (.tuple [.str "made", .str "f", .tuple [.int 5]]) "ahead"]
def odds2 : List PyData := [pr (.tuple [.str "made", .str "f", .tuple [.int 0, .int 0]]) "twice", pr (.tuple [.str "made", .str "f", .tuple [.int 3]]) "kind", pr (.tuple [.str "either", .int 3, .int 3, .int 0]) "kind"]
def odds3 : List PyData := [pr (.tuple [.str "asked", .str "t", .tuple [.int 4, .int 3]]) "kind", pr (.tuple [.str "either", .int 7, .int 2, .int 2]) "ahead", pr (.tuple [.str "either", .int 2, .int 1, .int 1]) "kind"]
def odds4 : List PyData := [pr (.tuple [.str "given", .bool true]) "form", pr (.tuple [.str "given", .int (-1)]) "form", pr (.tuple [.str "made", .str "one", .list [.bool true]]) "form", pr (.list []) "form"]
theorem rf_d (r : Row) (h : r.ok) {e : PyData} (he : e = r.d) : rowForm e = r.d := by rw [he]; exact rowForm_d h
theorem odds_all : ∀ p ∈ odds1 ++ (odds2 ++ (odds3 ++ odds4)), ∃ e w, p = pr e w ∧ Odd e w := by
  intro p hp
  simp only [odds1, odds2, odds3, odds4, List.cons_append, List.nil_append, List.mem_cons, List.not_mem_nil, or_false] at hp
  rcases hp with rfl | rfl | rfl | rfl | rfl | rfl | rfl | rfl | rfl | rfl | rfl | rfl | rfl
  · exact ⟨_, _, rfl, .why (.either 3 2 2) (by decide +kernel) (by decide) trivial rfl (by decide +kernel)⟩
  · exact ⟨_, _, rfl, .why (.either 2 0 1) (by decide +kernel) (by decide) trivial rfl (by decide +kernel)⟩
  · exact ⟨_, _, rfl, .why (.made "f" [5]) (by decide +kernel) (by decide) ⟨by decide +kernel, by decide⟩ rfl (by decide +kernel)⟩
  · exact ⟨_, _, rfl, .mk (by decide +kernel) (by decide) (.twice (r := .made "f" [0, 0]) (rf_d (.made "f" [0, 0]) ⟨by decide +kernel, by decide⟩ rfl) (by decide +kernel) (by decide +kernel))⟩
  · exact ⟨_, _, rfl, .why (.made "f" [3]) (by decide +kernel) (by decide) ⟨by decide +kernel, by decide⟩ rfl (by decide +kernel)⟩
  · exact ⟨_, _, rfl, .why (.either 3 3 0) (by decide +kernel) (by decide) trivial rfl (by decide +kernel)⟩
  · exact ⟨_, _, rfl, .why (.asked "t" [4, 3]) (by decide +kernel) (by decide) ⟨by decide +kernel, by decide⟩ rfl (by decide +kernel)⟩
  · exact ⟨_, _, rfl, .why (.either 7 2 2) (by decide +kernel) (by decide) trivial rfl (by decide +kernel)⟩
  · exact ⟨_, _, rfl, .why (.either 2 1 1) (by decide +kernel) (by decide) trivial rfl (by decide +kernel)⟩
  · exact ⟨_, _, rfl, .mk (by decide +kernel) (by decide) (.form (by kernel_rfl))⟩
  · exact ⟨_, _, rfl, .mk (by decide +kernel) (by decide) (.form (by kernel_rfl))⟩
  · exact ⟨_, _, rfl, .mk (by decide +kernel) (by decide) (.form (by kernel_rfl))⟩
  · exact ⟨_, _, rfl, .mk (by decide +kernel) (by decide) (.form (by kernel_rfl))⟩
end K8

/-! The law. -/
namespace K8
open PySem PySem.Spec PyProof.Rows L2 WR LamX
theorem sqlN {K : PySem.W.Frag} {a : Addr} {xs : List V} {H H' : Hp} (s : ExtN H H') (h : SqL K H a xs) : SqL K H' a xs := h.elim (fun r => .inl (r.elim (fun e => .inl (s _ _ e fun _ z => nomatch z)) fun ⟨o, e⟩ => .inr ⟨o, s _ _ e fun _ z => nomatch z⟩)) .inr
theorem ext_keep {lo lr q : Addr} {H A : Hp} {vs ws rs : List V} {ds es fs : List PyData} (s : Sm H A) (nq : A q = none) (r : DrA (fun b => b ≠ lo) H vs ds) (e : H lo = some (.lst vs)) (rw1 : DrA (fun b => H b = none) A ws es) (rr : DrA No H rs fs) (er : H lr = some (.lst rs)) (ne : lr ≠ lo) :
    upd A q (.lst ws) lo = some (.lst vs) ∧ DrA (fun b => b ≠ lo) (upd (upd A q (.lst ws)) lo (.lst (vs ++ ws))) (vs ++ ws) (ds ++ es) ∧ DrA No (upd (upd A q (.lst ws)) lo (.lst (vs ++ ws))) rs fs ∧ upd (upd A q (.lst ws)) lo (.lst (vs ++ ws)) lr = some (.lst rs) := by
  have sq := s.trans (Sm.new (o := .lst ws) nq)
  have e2 := sq _ _ e
  have st : ∀ N : Addr → Prop, (∀ b, N b → b ≠ lo) → Stays N (upd A q (.lst ws)) (upd (upd A q (.lst ws)) lo (.lst (vs ++ ws))) := fun N hN => ⟨fun b o nb z => by rw [upd_ne (hN b nb)]; exact z, fun b zs z => by
    rw [upd_ne fun y => by rw [y, e2] at z; cases z]
    exact z⟩
  have rw2 : DrA (fun b => b ≠ lo) (upd A q (.lst ws)) ws es := (rw1.sm (Sm.new nq)).wide fun b z y => by rw [y, e] at z; cases z
  refine ⟨e2, ((r.sm sq).append rw2).mono (fun _ z => z) (st _ fun _ z => z), (rr.sm sq).mono (fun _ z => z) (st _ fun _ z => z.elim), ?_⟩
  rw [upd_ne ne]
  exact sq _ _ er
abbrev spLaw (K : PySem.W.Frag) (T : TabL) : Sp := fun vs H Q _ => ∃ (a : Addr) (xs : List Int), vs = [.ref a] ∧ SqL K H a (xs.map V.int) ∧ xs.length ≤ 63 ∧ Tabs T H ∧ ∀ H', Q (.bl true) H'
section
variable {P : Program} {w : World} {K : PySem.W.Frag} {mg : Str → Option Value} {base : Heap} {CW CR : Addr}
theorem sc_law : FnScope ["script", "turn", "well", "k", "rows", "thing", "again", "odds", "odd", "why"] ["script"] (defScope slaw) := ⟨rfl, rfl, rfl, by decide +kernel, rfl, by decide +kernel, by decide +kernel⟩
theorem ok_law (B : Bt mg) {T : TabL}
    (D1 : Df P w K mg base CX0 1 "_law_well" ["script", "place"] (spWell K)) (D2 : Df P w K mg base CX0 4 "_law_g_drawn" ["well", "most"] spGDrawn) (D3 : Df P w K mg base CX0 4 "_law_g_bent" ["well", "rows"] spGBent)
    (D4 : DfG P w K mg base CX0 10 "_law_judged_right" ["well", "thing"] (spJR T)) (D5 : DfG P w K mg base CX0 10 "_law_put_right" ["well", "rows"] (spPR T)) (D6 : Df P w K mg base CX0 7 "_law_same" ["found", "due"] (spSame 7))
    (D7 : Df P w K mg base CX0 6 "web_fault" ["thing"] spFault) (D8 : Df P w K mg base (L2.CX P w) 7 "put_row" ["web", "row"] (spPutRow CW CR))
    {f : Addr} {dV kV doc pm cdv ct oc : Value} {an od : Option Addr} {osl : Array (Option Value)}
    (lk : K.lookup f = some ⟨oc, od, .func (PySem.W.fnOf dlaw.name dlaw.qual dlaw.params dlaw.body dlaw.scope dV kV doc pm an cdv ct), osl⟩) (hcd : PySem.W.codeIn K cdv dlaw.qual = true) :
    FnG P w K mg base CX0 11 f (PySem.W.fnOf dlaw.name dlaw.qual dlaw.params dlaw.body dlaw.scope dV kV doc pm an cdv ct) ["script"] (spLaw K T) := by
  refine fnG_of (N := ["script", "turn", "well", "k", "rows", "thing", "again", "odds", "odd", "why"]) lk hcd sc_law (fun vs H Q E h => by obtain ⟨a, xs, rfl, _⟩ := h; rfl) (fun A outer s H vs Q E hr free h => ?_)
  obtain ⟨a, xs, rfl, hS, hlen, hT, q⟩ := h
  have hr1 := hr.mono (show 1 ≤ 10 by decide)
  have hr4 := hr.mono (show 4 ≤ 10 by decide)
  have hr6 := hr.mono (show 6 ≤ 10 by decide)
  have hr7 := hr.mono (show 7 ≤ 10 by decide)
  refine ⟨_, PSs.nox (pss_cons (ps_for PassesOwn.never rfl (pi_range1 rfl B.range (pa_cons pe_int pa_nil)) (pg_name (i := 1) sc_law.nd rfl (by first | exact Or.inl rfl | exact Or.inr rfl)) (pss_cons (ps_set (i := 2) sc_law.nd rfl (by first | exact Or.inl rfl | exact Or.inr rfl) (pe_df D1 hr1 pass0 (pa_cons (pv 0) (pa_cons (pv 1) pa_nil))))
      (pss_one (ps_for PassesOwn.never rfl (pi_range1 rfl B.range (pa_cons pe_int pa_nil)) (pg_name (i := 3) sc_law.nd rfl (by first | exact Or.inl rfl | exact Or.inr rfl)) (pss_cons (ps_set (i := 4) sc_law.nd rfl (by first | exact Or.inl rfl | exact Or.inr rfl) (pe_df D2 hr4 pass0 (pa_cons (pv 2) (pa_cons pe_int pa_nil))))
      (pss_cons (ps_for PassesOwn.never rfl (pi_seq (pe_op op_cat (pe_lst (pa_cons (pv 4) pa_nil)) (pe_lc (own := [("again", 6)]) (g := gName 6) (tt := tYes) rfl sc_law.nd (pi_range1 rfl B.range (pa_cons pe_int pa_nil)) (blkOk_by (own := [("again", 6)]) (N := ["script", "turn", "well", "k", "rows", "thing", "again", "odds", "odd", "why"]) (sc := defScope slaw) (by decide +kernel)) (fun _ _ _ _ _ => pg_name (i := 6) sc_law.nd rfl (by first | exact Or.inl rfl | exact Or.inr rfl)) (fun _ _ _ _ _ => pts_nil) (fun _ _ _ _ _ => (pe_df D3 hr4 pass0 (pa_cons (pv 2) (pa_cons (pv 4) pa_nil))))))) (pg_name (i := 5) sc_law.nd rfl (by first | exact Or.inl rfl | exact Or.inr rfl)) (pss_one (ps_if (pt_not (pt_val (pe_dfG D4 hr free pass0 (pa_cons (pv 2) (pa_cons (pv 5) pa_nil))))) (pss_one (ps_ret pe_bl)) pss_nil)))
      (pss_one (ps_if (pt_not (pt_val (pe_dfG D5 hr free pass0 (pa_cons (pv 2) (pa_cons (pv 4) pa_nil))))) (pss_one (ps_ret pe_bl)) pss_nil))))))))
      (pss_cons (ps_set (i := 4) sc_law.nd rfl (by first | exact Or.inl rfl | exact Or.inr rfl) (pe_lst (pa_cons (pe_tup (pa_cons pe_str (pa_cons pe_str (pa_cons (pe_tup pa_nil) pa_nil)))) (pa_cons (pe_tup (pa_cons pe_str (pa_cons pe_str (pa_cons (pe_tup (pa_cons pe_int (pa_cons pe_int pa_nil))) pa_nil)))) (pa_cons (pe_tup (pa_cons pe_str (pa_cons pe_str (pa_cons (pe_tup (pa_cons pe_int (pa_cons pe_int pa_nil))) pa_nil)))) (pa_cons (pe_tup (pa_cons pe_str (pa_cons pe_str (pa_cons (pe_tup (pa_cons pe_int pa_nil)) pa_nil)))) pa_nil))))))
      (pss_cons (ps_expr (pe_bm PySem.F.plainAttrs_list PySem.F.slot_list_append PySem.F.type_list_append mt_append (pv 4) (pa_cons (pe_tup (pa_cons pe_str (pa_cons pe_int (pa_cons pe_int (pa_cons pe_int pa_nil))))) pa_nil)))
      (pss_cons (ps_set (i := 7) sc_law.nd rfl (by first | exact Or.inl rfl | exact Or.inr rfl) (pe_lst (pa_cons (pe_tup (pa_cons (pe_tup (pa_cons pe_str (pa_cons pe_int (pa_cons pe_int (pa_cons pe_int pa_nil))))) (pa_cons pe_str pa_nil))) (pa_cons (pe_tup (pa_cons (pe_tup (pa_cons pe_str (pa_cons pe_int (pa_cons pe_int (pa_cons pe_int pa_nil))))) (pa_cons pe_str pa_nil))) (pa_cons (pe_tup (pa_cons (pe_tup (pa_cons pe_str (pa_cons pe_str (pa_cons (pe_tup (pa_cons pe_int pa_nil)) pa_nil)))) (pa_cons pe_str pa_nil))) pa_nil)))))
      (pss_cons (ps_expr (pe_bm PySem.F.plainAttrs_list PySem.F.slot_list_extend PySem.F.type_list_extend mt_extend (pv 7) (pa_cons (pe_lst (pa_cons (pe_tup (pa_cons (pe_tup (pa_cons pe_str (pa_cons pe_str (pa_cons (pe_tup (pa_cons pe_int (pa_cons pe_int pa_nil))) pa_nil)))) (pa_cons pe_str pa_nil))) (pa_cons (pe_tup (pa_cons (pe_tup (pa_cons pe_str (pa_cons pe_str (pa_cons (pe_tup (pa_cons pe_int pa_nil)) pa_nil)))) (pa_cons pe_str pa_nil))) (pa_cons (pe_tup (pa_cons (pe_tup (pa_cons pe_str (pa_cons pe_int (pa_cons pe_int (pa_cons pe_int pa_nil))))) (pa_cons pe_str pa_nil))) pa_nil)))) pa_nil)))
      (pss_cons (ps_expr (pe_bm PySem.F.plainAttrs_list PySem.F.slot_list_extend PySem.F.type_list_extend mt_extend (pv 7) (pa_cons (pe_lst (pa_cons (pe_tup (pa_cons (pe_tup (pa_cons pe_str (pa_cons pe_str (pa_cons (pe_tup (pa_cons pe_int (pa_cons pe_int pa_nil))) pa_nil)))) (pa_cons pe_str pa_nil))) (pa_cons (pe_tup (pa_cons (pe_tup (pa_cons pe_str (pa_cons pe_int (pa_cons pe_int (pa_cons pe_int pa_nil))))) (pa_cons pe_str pa_nil))) (pa_cons (pe_tup (pa_cons (pe_tup (pa_cons pe_str (pa_cons pe_int (pa_cons pe_int (pa_cons pe_int pa_nil))))) (pa_cons pe_str pa_nil))) pa_nil)))) pa_nil)))
      (pss_cons (ps_expr (pe_bm PySem.F.plainAttrs_list PySem.F.slot_list_extend PySem.F.type_list_extend mt_extend (pv 7) (pa_cons (pe_lst (pa_cons (pe_tup (pa_cons (pe_tup (pa_cons pe_str (pa_cons pe_bl pa_nil))) (pa_cons pe_str pa_nil))) (pa_cons (pe_tup (pa_cons (pe_tup (pa_cons pe_str (pa_cons (pe_un un_neg pe_int) pa_nil))) (pa_cons pe_str pa_nil))) (pa_cons (pe_tup (pa_cons (pe_tup (pa_cons pe_str (pa_cons pe_str (pa_cons (pe_lst (pa_cons pe_bl pa_nil)) pa_nil)))) (pa_cons pe_str pa_nil))) (pa_cons (pe_tup (pa_cons (pe_lst pa_nil) (pa_cons pe_str pa_nil))) pa_nil))))) pa_nil)))
      (pss_cons (ps_if (pt_not (pt_val (pe_callB (cr_all rfl) (by rfl) B.all (by decide +kernel) (pa_cons (pe_lc (own := [("odd", 8), ("why", 9)]) (g := gTup K 2 (gCons (gName 8) (gCons (gName 9) gNil))) (tt := tYes) rfl sc_law.nd (pi_seq (pv 7)) (blkOk_by (own := [("odd", 8), ("why", 9)]) (N := ["script", "turn", "well", "k", "rows", "thing", "again", "odds", "odd", "why"]) (sc := defScope slaw) (by decide +kernel)) (fun _ _ _ _ _ => pg_tup rfl (pgs_cons (pg_name (i := 8) sc_law.nd rfl (by first | exact Or.inl rfl | exact Or.inr rfl)) (pgs_cons (pg_name (i := 9) sc_law.nd rfl (by first | exact Or.inl rfl | exact Or.inr rfl)) pgs_nil))) (fun _ _ _ _ _ => pts_nil) (fun _ _ _ _ _ => (pe_df D6 hr7 pass0 (pa_cons (pe_df D7 hr6 pass0 (pa_cons (pe_op op_cat (pv 4) (pe_lst (pa_cons (pv 8) pa_nil))) pa_nil)) (pa_cons (pe_tup (pa_cons pe_int (pa_cons (pv 9) pa_nil))) pa_nil))))) pa_nil)))) (pss_one (ps_ret pe_bl)) pss_nil)
      (pss_one (ps_ret (pe_and (pe_cmpR op_isN (pe_df D7 hr6 pass0 (pa_cons (pe_lst pa_nil) pa_nil)) pe_non (nomark _)) (pe_one (pe_df D6 hr7 pass0 (pa_cons (pe_df D8 hr7 (passes_call LamX.takes0 (fun _ _ _ _ z => z)) (pa_cons (pv 4) (pa_cons (pe_lst (pa_cons pe_str (pa_cons pe_str (pa_cons (pe_lst pa_nil) pa_nil)))) pa_nil))) (pa_cons (pe_tup (pa_cons (pv 4) (pa_cons pe_int pa_nil))) pa_nil))))))))))))))), ?_⟩
  have htop : top0 = 1000000000000 := rfl
  have hlim : lim = 4000 := rfl
  have hsl := lim_lt
  -- the drawn ones
  refine ⟨_, rfl, by decide, by decide, ?_⟩
  refine for_range (fun i σ' H2 => ∃ x1 x2 x3 x4 x5 x6 x7 x8 x9, σ' = [some (.ref a), x1, x2, x3, x4, x5, x6, x7, x8, x9] ∧ ExtN H H2 ∧ Tabs T H2) ?_ ?_ ?_
  · exact ⟨_, _, _, _, _, _, _, _, _, rfl, ExtN.refl H, hT⟩
  · rintro turn σ2 H2 hturn ⟨x1, x2, x3, x4, x5, x6, x7, x8, x9, rfl, e2, T2⟩
    have ht3 : turn < 3 := hturn
    refine ⟨_, rfl, _, rfl, a, xs, turn, by simp, sqlN e2 hS, by omega, by omega, fun wa H3 s3 nwa hw3 => ?_⟩
    have naw : ∀ b o, H2 b = some o → b ≠ wa := fun b o e => ne_of_none e nwa
    have T3 := T2.ext s3
    refine ⟨_, rfl, by decide, by decide, ?_⟩
    refine for_range (fun k σ' H4 => ∃ y1 y3 y4 y5 y6 y7 y8 y9, σ' = [some (.ref a), y1, some (.ref wa), y3, y4, y5, y6, y7, y8, y9] ∧ GwN wa H3 H4 ∧ Wl H4 wa (200000000 * k) ∧ Tabs T H4) ?_ ?_ ?_
    · exact ⟨_, _, _, _, _, _, _, _, rfl, fun b o _ e _ => e, by simpa using hw3, T3⟩
    · rintro k σ4 H4 hk ⟨y1, y3, y4, y5, y6, y7, y8, y9, rfl, g4, hw4, T4⟩
      have hk5 : k < 5 := hk
      refine ⟨_, rfl, wa, 200000000 * k, 14, rfl, by decide, hw4, by omega, fun l ys R H5 nl hWeb hsm hR g5 hw5 el ry => ?_⟩
      have T5 := tabs_gw T4 hw4 g5
      have lwa : l ≠ wa := hw4.ne nl
      refine ⟨_, rfl, (by show 1 ≤ sizeLine; decide), fun p np => ?_⟩
      have sp := Sm.new (o := .lst [.ref l]) np
      have el6 := sp _ _ el
      have ry6 := ry.sm sp
      have hw6 := hw5.sm sp
      have g6 : Gw wa H4 (upd H5 p (.lst [.ref l])) := g5.trans (Gw.of sp)
      have T6 := T5.ext sp
      have ep : upd H5 p (.lst [.ref l]) p = some (.lst [.ref l]) := upd_same
      have pwa : p ≠ wa := hw5.ne np
      generalize upd H5 p (.lst [.ref l]) = H6 at el6 ry6 hw6 g6 T6 ep ⊢
      clear sp np el ry hw5 g5 T5
      refine ⟨_, rfl, by decide, by decide, fun D nD => ?_⟩
      refine lc_w (c := 20) (n := 200000000 * k + 1000) (N := fun b => b = l) (fun _ e => tame true e 4 = true) (WalkW.range (w := wa) (N := No) (lo := 0) (n := 7)) nD hw6 (fun b z => by rw [z]; exact lwa) (by simp; omega) (fun _ => rfl) (fun x d' j H7 Q' hd' g7 hw7 rx q' nD7 => ?_) (fun H7 zs es g7 hw7 eD7 rz al => ?_)
      · have hj : j < 7 := by
          have := (List.getElem?_eq_some_iff.mp hd').1
          simpa using this
        have el7 : H7 l = some (.lst ys) := g7 _ _ lwa el6
        refine ⟨_, rfl, _, rfl, wa, 200000000 * k + 1000 + 20 * j, .ref l, R, fun b => b = l, rfl, (fun b z => by rw [z]; exact lwa), hw7, by omega, .lst rfl el7 ((ry6.mono (fun _ z => z) (g7.stN (fun _ z => z.elim) hw6)).wide fun _ z => z.elim), by omega, fun r hr => ⟨hWeb.ok r hr, hsm r hr⟩, fun d u H8 td g8 hw8 ru => q' u d H8 g8 (hw8.mono (by omega)) (ru.wide fun b z => ?_) td⟩
        rcases z with z | z
        · exact ⟨.inl z, fun y => by rw [z] at y; rw [y, nD] at el6; cases el6⟩
        · exact ⟨.inr (Gw.free hw7 g7 z), fun y => nD7 (by rw [← y]; exact z)⟩
      have les : es.length = 7 := by
        have := al.len
        simpa using this
      have tes : ∀ e ∈ es, tame true e 4 = true := fun e he => by
        obtain ⟨_, _, z⟩ := al.mem e he
        exact z
      have hw7' : Wl H7 wa (200000000 * k + 1140) := hw7.mono (by simp)
      have lz := rz.length
      refine ⟨p, D, [.ref l], zs, rfl, rfl, g7 _ _ pwa ep, eD7, by rw [lz, les]; show 1 + 7 ≤ sizeLine; decide, fun p3 np3 => ?_⟩
      have s8 := Sm.new (o := .lst ([.ref l] ++ zs)) np3
      have e8 : upd H7 p3 (.lst ([.ref l] ++ zs)) p3 = some (.lst ([.ref l] ++ zs)) := upd_same
      have hw8 := hw7'.sm s8
      have g8 : Gw wa H4 (upd H7 p3 (.lst ([.ref l] ++ zs))) := (g6.trans g7).trans (Gw.of s8)
      have T8 : Tabs T (upd H7 p3 (.lst ([.ref l] ++ zs))) := tabs_gw T4 hw4 g8
      have p3wa : p3 ≠ wa := hw7'.ne np3
      have el8 : upd H7 p3 (.lst ([.ref l] ++ zs)) l = some (.lst ys) := s8 _ _ (g7 _ _ lwa el6)
      have rd8 : Dr (Ne wa) (upd H7 p3 (.lst ([.ref l] ++ zs))) (.ref l) (rowsD R) := .lst lwa el8 (((ry6.mono (fun _ z => z) (g7.stN (fun _ z => z.elim) hw6)).sm s8).wide fun _ z => z.elim)
      have rall : DrA (Ne wa) (upd H7 p3 (.lst ([.ref l] ++ zs))) ([.ref l] ++ zs) (rowsD R :: es) := .cons rd8 ((rz.sm s8).wide fun b z => z.1.elim (fun y => by rw [y]; exact lwa) fun y => hw6.ne y)
      have rtame : tame true (rowsD R) 4 = true := by
        refine tame_lst3 (n := 3) (tameA_of fun d hd => ?_) (by simp; omega)
        obtain ⟨r', hr', rfl⟩ := List.mem_map.mp hd
        obtain ⟨t1, t2, t3, t4, t5⟩ := Row.tm (b := true) (hWeb.ok _ hr') (hsm _ hr')
        rw [t4]
        exact tame_mono (show 2 ≤ 3 by decide) (tame_tup t1 (by omega))
      have tall : ∀ e ∈ rowsD R :: es, tame true e 4 = true := fun e he => by
        rcases List.mem_cons.mp he with rfl | z
        · exact rtame
        · exact tes e z
      have lall : (rowsD R :: es).length = 8 := by rw [List.length_cons, les]
      generalize upd H7 p3 (.lst ([.ref l] ++ zs)) = H8 at e8 hw8 g8 T8 el8 rd8 rall ⊢
      generalize [V.ref l] ++ zs = us at e8 rall
      generalize rowsD R :: es = ds at rall tall lall
      clear s8 np3 lz hw7' tes les al rz eD7 hw7 g7 nD ep T6 g6 ry6 el6 hw6
      have lus := rall.length
      have c41 : (41 : Nat) ^ 4 = 2825761 := by decide
      refine ⟨p3, us, rfl, .inl e8, fun J hJ => for_seq hJ (fun i σ' H9 => ∃ z1 z3 z5 z6 z7 z8 z9, σ' = [some (.ref a), z1, some (.ref wa), z3, some (.ref l), z5, z6, z7, z8, z9] ∧ GwN wa H8 H9 ∧ Wl H9 wa (200000000 * k + 1140 + 3000000 * i) ∧ Tabs T H9) ?_ ?_ ?_ ?_⟩
      · exact ⟨_, _, _, _, _, _, _, rfl, fun b o _ e _ => e, by simpa using hw8, T8⟩
      · rintro i σ9 H9 _ ⟨z1, z3, z5, z6, z7, z8, z9, rfl, g9, _⟩
        rw [e8]
        exact g9 _ _ p3wa e8 fun _ z => nomatch z
      · rintro i u0 σ9 H9 hi ⟨z1, z3, z5, z6, z7, z8, z9, rfl, g9, hw9, T9⟩
        obtain ⟨t, et, ru0⟩ := rall.get hi
        have hit : i < ds.length := (List.getElem?_eq_some_iff.mp et).1
        refine ⟨_, rfl, _, rfl, wa, 200000000 * k + 1140 + 3000000 * i, u0, t, rfl, hw9, by rw [c41]; omega, drGN hw8 g9 ru0, tall t (List.mem_of_getElem? et), T9, fun H10 g10 hw10 T10 => ⟨_, rfl, iteF ?_⟩⟩
        rw [c41] at hw10
        exact ⟨_, _, _, _, _, _, _, rfl, g9.trans g10, hw10.mono (by omega), T10⟩
      · rintro σ9 H9 ⟨z1, z3, z5, z6, z7, z8, z9, rfl, g9, hw9, T9⟩
        refine ⟨_, rfl, _, rfl, wa, _, .ref l, R, rfl, hw9, by rw [lus]; omega, drGN hw8 g9 rd8, by omega, hWeb, hsm, T9, fun H10 g10 hw10 T10 => ⟨_, rfl, iteF ?_⟩⟩
        exact ⟨_, _, _, _, _, _, _, _, rfl, (g4.trans (GwN.of g8)).trans (g9.trans g10), hw10.mono (by rw [lus]; omega), T10⟩
    · rintro σ4 H4 ⟨y1, y3, y4, y5, y6, y7, y8, y9, rfl, g4, hw4, T4⟩
      exact ⟨_, _, _, _, _, _, _, _, _, rfl, e2.trans fun b o e ne => g4 b o (naw b o e) (s3 b o e) ne, T4⟩
  rintro σ2 H2 ⟨x1, x2, x3, x4, x5, x6, x7, x8, x9, rfl, e2, T2⟩
  clear e2 T2 hT hS
  -- rows
  have Y : ∀ Hk : Hp, Cy (fun b => Hk b = none) (fun A => Sm Hk A) := fun Hk => ⟨fun _ _ s c => c.trans s, fun A p c np => c.free np⟩
  have ya := Ya.cons (σ := [some (.ref a), x1, x2, x3, x4, x5, x6, x7, x8, x9]) (Y H2) (.tup (ds := [.str "made", .str "one", .tuple []]) (by decide) (.cons (Y H2) (.str _) (.cons (Y H2) (.str _) (.one (Y H2) (.tup (ds := []) (by decide) .nil)))))
    (.cons (Y H2) (.tup (ds := [.str "made", .str "f", .tuple [.int 0, .int 0]]) (by decide) (.cons (Y H2) (.str _) (.cons (Y H2) (.str _) (.one (Y H2) (.tup (ds := [.int 0, .int 0]) (by decide) (.cons (Y H2) (.int _) (.one (Y H2) (.int _))))))))
    (.cons (Y H2) (.tup (ds := [.str "made", .str "f", .tuple [.int 1, .int 1]]) (by decide) (.cons (Y H2) (.str _) (.cons (Y H2) (.str _) (.one (Y H2) (.tup (ds := [.int 1, .int 1]) (by decide) (.cons (Y H2) (.int _) (.one (Y H2) (.int _))))))))
    (.one (Y H2) (.tup (ds := [.str "asked", .str "t", .tuple [.int 2]]) (by decide) (.cons (Y H2) (.str _) (.cons (Y H2) (.str _) (.one (Y H2) (.tup (ds := [.int 2]) (by decide) (.one (Y H2) (.int _))))))))))
  dsimp only
  refine seq_asg ?_
  refine run_lst ya Sm.rfl' fun vs H3 s3 r3 => ⟨by rw [r3.length]; show 4 ≤ sizeLine; decide, fun lr nlr => ?_⟩
  have r3' : DrA (fun b => H2 b = none) H3 vs (R4.map Row.d) := r3
  have r4 : DrA No (upd H3 lr (.lst vs)) vs (R4.map Row.d) := (r3'.fz (rows_fzA R4)).sm (Sm.new nlr)
  have e4 : upd H3 lr (.lst vs) lr = some (.lst vs) := upd_same
  generalize upd H3 lr (.lst vs) = H4 at r4 e4 ⊢
  have lvs : vs.length = 4 := r4.length
  clear r3' r3 nlr s3 ya
  -- rows.append(..)
  have ya := Ya.one (σ := [some (.ref a), x1, x2, x3, some (.ref lr), x5, x6, x7, x8, x9]) (Y H4) (.tup (ds := [.str "either", .int 3, .int 2, .int 0]) (by decide) (.cons (Y H4) (.str _) (.cons (Y H4) (.int _) (.cons (Y H4) (.int _) (.one (Y H4) (.int _))))))
  refine ⟨_, rfl, .inl ⟨rfl, vs, SqL.of e4⟩, ya H4 _ Sm.rfl' fun ws H5 s5 r5 => ?_⟩
  cases r5 with
  | @cons w1 ws _ _ rw1 tw =>
  cases tw
  refine ⟨lr, vs, w1, rfl, rfl, s5 _ _ e4, by rw [lvs]; show 4 < sizeLine; decide, ?_⟩
  have st6 : Stays No H5 (upd H5 lr (.lst (vs ++ [w1]))) := ⟨fun _ _ z => z.elim, fun b zs e => by
    rw [upd_ne fun y => by rw [y, s5 _ _ e4] at e; cases e]
    exact e⟩
  have rw1' : DrA No H5 [w1] [(Row.either 3 2 0).d] := .one (rw1.fz rfl)
  have r6 : DrA No (upd H5 lr (.lst (vs ++ [w1]))) (vs ++ [w1]) (R5.map Row.d) := by
    rw [R5, List.map_append]
    exact ((r4.sm s5).append rw1').mono (fun _ z => z) st6
  have e6 : upd H5 lr (.lst (vs ++ [w1])) lr = some (.lst (vs ++ [w1])) := upd_same
  generalize upd H5 lr (.lst (vs ++ [w1])) = H6 at r6 e6 ⊢
  generalize vs ++ [w1] = rs at r6 e6 ⊢
  clear st6 rw1' rw1 s5 lvs e4 r4 ya
  dsimp only
  -- odds
  have ya : Ya (fun b => H6 b = none) (fun A => Sm H6 A) [some (.ref a), x1, x2, x3, some (.ref lr), x5, x6, x7, x8, x9] _ odds1 := Ya.cons (Y H6) (.tup (ds := [.tuple [.str "either", .int 3, .int 2, .int 2], .str "alike"]) (by decide) (.cons (Y H6) (.tup (ds := [.str "either", .int 3, .int 2, .int 2]) (by decide) (.cons (Y H6) (.str _) (.cons (Y H6) (.int _) (.cons (Y H6) (.int _) (.one (Y H6) (.int _)))))) (.one (Y H6) (.str _)))) (.cons (Y H6) (.tup (ds := [.tuple [.str "either", .int 2, .int 0, .int 1], .str "kind"]) (by decide) (.cons (Y H6) (.tup (ds := [.str "either", .int 2, .int 0, .int 1]) (by decide) (.cons (Y H6) (.str _) (.cons (Y H6) (.int _) (.cons (Y H6) (.int _) (.one (Y H6) (.int _)))))) (.one (Y H6) (.str _)))) (.one (Y H6) (.tup (ds := [.tuple [.str "made", .str "f", .tuple [.int 5]], .str "ahead"]) (by decide) (.cons (Y H6) (.tup (ds := [.str "made", .str "f", .tuple [.int 5]]) (by decide) (.cons (Y H6) (.str _) (.cons (Y H6) (.str _) (.one (Y H6) (.tup (ds := [.int 5]) (by decide) (.one (Y H6) (.int _))))))) (.one (Y H6) (.str _))))))
  refine seq_asg ?_
  refine run_lst ya Sm.rfl' fun vs H7 s7 r7 => ⟨by rw [r7.length]; show 3 ≤ sizeLine; decide, fun lo nlo => ?_⟩
  have nlor : lr ≠ lo := ne_of_none (s7 _ _ e6) nlo
  have so := Sm.new (o := .lst vs) nlo
  have r8 : DrA (fun b => b ≠ lo) (upd H7 lo (.lst vs)) vs odds1 := (((r7.live).sm so).wide fun b z y => by rw [y] at z; exact z.2 nlo)
  have r6' : DrA No (upd H7 lo (.lst vs)) rs (R5.map Row.d) := (r6.sm s7).sm so
  have e6' : upd H7 lo (.lst vs) lr = some (.lst rs) := so _ _ (s7 _ _ e6)
  have e8 : upd H7 lo (.lst vs) lo = some (.lst vs) := upd_same
  generalize upd H7 lo (.lst vs) = H8 at r8 r6' e6' e8 ⊢
  clear so nlo r7 s7 r6 e6 ya
  -- odds.extend(..)
  have ya2 : Ya (fun b => H8 b = none) (fun A => Sm H8 A) [some (.ref a), x1, x2, x3, some (.ref lr), x5, x6, some (.ref lo), x8, x9] _ odds2 := Ya.cons (Y H8) (.tup (ds := [.tuple [.str "made", .str "f", .tuple [.int 0, .int 0]], .str "twice"]) (by decide) (.cons (Y H8) (.tup (ds := [.str "made", .str "f", .tuple [.int 0, .int 0]]) (by decide) (.cons (Y H8) (.str _) (.cons (Y H8) (.str _) (.one (Y H8) (.tup (ds := [.int 0, .int 0]) (by decide) (.cons (Y H8) (.int _) (.one (Y H8) (.int _)))))))) (.one (Y H8) (.str _)))) (.cons (Y H8) (.tup (ds := [.tuple [.str "made", .str "f", .tuple [.int 3]], .str "kind"]) (by decide) (.cons (Y H8) (.tup (ds := [.str "made", .str "f", .tuple [.int 3]]) (by decide) (.cons (Y H8) (.str _) (.cons (Y H8) (.str _) (.one (Y H8) (.tup (ds := [.int 3]) (by decide) (.one (Y H8) (.int _))))))) (.one (Y H8) (.str _)))) (.one (Y H8) (.tup (ds := [.tuple [.str "either", .int 3, .int 3, .int 0], .str "kind"]) (by decide) (.cons (Y H8) (.tup (ds := [.str "either", .int 3, .int 3, .int 0]) (by decide) (.cons (Y H8) (.str _) (.cons (Y H8) (.int _) (.cons (Y H8) (.int _) (.one (Y H8) (.int _)))))) (.one (Y H8) (.str _))))))
  refine ⟨_, rfl, .inl ⟨rfl, vs, SqL.of e8⟩, ?_⟩
  refine run_lst ya2 Sm.rfl' fun ws2 A2 sA2 rA2 => ⟨by rw [rA2.length]; show 3 ≤ sizeLine; decide, fun q2 nq2 => ?_⟩
  obtain ⟨f1, f2, f3, f4⟩ := ext_keep sA2 nq2 r8 e8 rA2 r6' e6' nlor
  have l8 := r8.length
  have lA := rA2.length
  refine ⟨lo, q2, vs, ws2, rfl, rfl, f1, upd_same, by rw [l8, lA]; show 3 + 3 ≤ sizeLine; decide, ?_⟩
  have f5 : upd (upd A2 q2 (.lst ws2)) lo (.lst (vs ++ ws2)) lo = some (.lst (vs ++ ws2)) := upd_same
  generalize upd (upd A2 q2 (.lst ws2)) lo (.lst (vs ++ ws2)) = H9 at f2 f3 f4 f5 ⊢
  generalize vs ++ ws2 = v9 at f2 f5 ⊢
  clear l8 lA f1 rA2 nq2 sA2 ya2 r8 e8 r6' e6'
  have r8 := f2
  have r6' := f3
  have e6' := f4
  have e8 := f5
  clear f2 f3 f4 f5
  dsimp only
  -- odds.extend(..)
  have ya3 : Ya (fun b => H9 b = none) (fun A => Sm H9 A) [some (.ref a), x1, x2, x3, some (.ref lr), x5, x6, some (.ref lo), x8, x9] _ odds3 := Ya.cons (Y H9) (.tup (ds := [.tuple [.str "asked", .str "t", .tuple [.int 4, .int 3]], .str "kind"]) (by decide) (.cons (Y H9) (.tup (ds := [.str "asked", .str "t", .tuple [.int 4, .int 3]]) (by decide) (.cons (Y H9) (.str _) (.cons (Y H9) (.str _) (.one (Y H9) (.tup (ds := [.int 4, .int 3]) (by decide) (.cons (Y H9) (.int _) (.one (Y H9) (.int _)))))))) (.one (Y H9) (.str _)))) (.cons (Y H9) (.tup (ds := [.tuple [.str "either", .int 7, .int 2, .int 2], .str "ahead"]) (by decide) (.cons (Y H9) (.tup (ds := [.str "either", .int 7, .int 2, .int 2]) (by decide) (.cons (Y H9) (.str _) (.cons (Y H9) (.int _) (.cons (Y H9) (.int _) (.one (Y H9) (.int _)))))) (.one (Y H9) (.str _)))) (.one (Y H9) (.tup (ds := [.tuple [.str "either", .int 2, .int 1, .int 1], .str "kind"]) (by decide) (.cons (Y H9) (.tup (ds := [.str "either", .int 2, .int 1, .int 1]) (by decide) (.cons (Y H9) (.str _) (.cons (Y H9) (.int _) (.cons (Y H9) (.int _) (.one (Y H9) (.int _)))))) (.one (Y H9) (.str _))))))
  refine ⟨_, rfl, .inl ⟨rfl, v9, SqL.of e8⟩, ?_⟩
  refine run_lst ya3 Sm.rfl' fun ws3 A3 sA3 rA3 => ⟨by rw [rA3.length]; show 3 ≤ sizeLine; decide, fun q3 nq3 => ?_⟩
  obtain ⟨f1, f2, f3, f4⟩ := ext_keep sA3 nq3 r8 e8 rA3 r6' e6' nlor
  have l8 := r8.length
  have lA := rA3.length
  refine ⟨lo, q3, v9, ws3, rfl, rfl, f1, upd_same, by rw [l8, lA]; show 6 + 3 ≤ sizeLine; decide, ?_⟩
  have f5 : upd (upd A3 q3 (.lst ws3)) lo (.lst (v9 ++ ws3)) lo = some (.lst (v9 ++ ws3)) := upd_same
  generalize upd (upd A3 q3 (.lst ws3)) lo (.lst (v9 ++ ws3)) = H10 at f2 f3 f4 f5 ⊢
  generalize v9 ++ ws3 = v10 at f2 f5 ⊢
  clear l8 lA f1 rA3 nq3 sA3 ya3 r8 e8 r6' e6'
  have r8 := f2
  have r6' := f3
  have e6' := f4
  have e8 := f5
  clear f2 f3 f4 f5
  dsimp only
  -- odds.extend(..)
  have ya4 : Ya (fun b => H10 b = none) (fun A => Sm H10 A) [some (.ref a), x1, x2, x3, some (.ref lr), x5, x6, some (.ref lo), x8, x9] _ odds4 := Ya.cons (Y H10) (.tup (ds := [.tuple [.str "given", .bool true], .str "form"]) (by decide) (.cons (Y H10) (.tup (ds := [.str "given", .bool true]) (by decide) (.cons (Y H10) (.str _) (.one (Y H10) (.bl _)))) (.one (Y H10) (.str _)))) (.cons (Y H10) (.tup (ds := [.tuple [.str "given", .int (-1)], .str "form"]) (by decide) (.cons (Y H10) (.tup (ds := [.str "given", .int (-1)]) (by decide) (.cons (Y H10) (.str _) (.one (Y H10) (.neg 1)))) (.one (Y H10) (.str _)))) (.cons (Y H10) (.tup (ds := [.tuple [.str "made", .str "one", .list [.bool true]], .str "form"]) (by decide) (.cons (Y H10) (.tup (ds := [.str "made", .str "one", .list [.bool true]]) (by decide) (.cons (Y H10) (.str _) (.cons (Y H10) (.str _) (.one (Y H10) (.lst (Y H10) (ds := [.bool true]) (by decide) (.one (Y H10) (.bl _))))))) (.one (Y H10) (.str _)))) (.one (Y H10) (.tup (ds := [.list [], .str "form"]) (by decide) (.cons (Y H10) (.lst (Y H10) (ds := []) (by decide) .nil) (.one (Y H10) (.str _)))))))
  refine ⟨_, rfl, .inl ⟨rfl, v10, SqL.of e8⟩, ?_⟩
  refine run_lst ya4 Sm.rfl' fun ws4 A4 sA4 rA4 => ⟨by rw [rA4.length]; show 4 ≤ sizeLine; decide, fun q4 nq4 => ?_⟩
  obtain ⟨f1, f2, f3, f4⟩ := ext_keep sA4 nq4 r8 e8 rA4 r6' e6' nlor
  have l8 := r8.length
  have lA := rA4.length
  refine ⟨lo, q4, v10, ws4, rfl, rfl, f1, upd_same, by rw [l8, lA]; show 9 + 4 ≤ sizeLine; decide, ?_⟩
  have f5 : upd (upd A4 q4 (.lst ws4)) lo (.lst (v10 ++ ws4)) lo = some (.lst (v10 ++ ws4)) := upd_same
  generalize upd (upd A4 q4 (.lst ws4)) lo (.lst (v10 ++ ws4)) = H11 at f2 f3 f4 f5 ⊢
  generalize v10 ++ ws4 = us at f2 f5 ⊢
  clear l8 lA f1 rA4 nq4 sA4 ya4 r8 e8 r6' e6'
  have r8 := f2
  have r6' := f3
  have e6' := f4
  have e8 := f5
  clear f2 f3 f4 f5
  dsimp only
  have odds_ok : ∀ p ∈ ((odds1 ++ odds2) ++ odds3) ++ odds4, ∃ e w, p = pr e w ∧ Odd e w := by
    simpa only [List.append_assoc] using odds_all
  have lds : (((odds1 ++ odds2) ++ odds3) ++ odds4).length = 13 := rfl
  generalize ((odds1 ++ odds2) ++ odds3) ++ odds4 = ds at r8 odds_ok lds
  have lus : us.length = 13 := by rw [r8.length, lds]
  have lrs : rs.length = 5 := r6'.length
  have loj : lo ≠ lr := Ne.symm nlor
  have wR : ∀ e, wd e = true → wd (.list (R5.map Row.d ++ [e])) = true := fun e he => by
    simp only [wd, Bool.and_eq_true, decide_eq_true_eq]
    refine ⟨by simp; show 5 + 1 ≤ 4000; decide, wdA_of fun d hd => ?_⟩
    rcases List.mem_append.mp hd with z | z
    · obtain ⟨r, hr, rfl⟩ := List.mem_map.mp z
      have all : ∀ r ∈ R5, wd r.d = true := by decide +kernel
      exact all r hr
    · rw [List.mem_singleton.mp z]
      exact he
  refine ⟨_, rfl, lo, us, rfl, .inl e8, fun J hJ D nD => ?_⟩
  refine lc_seq hJ (fun i H2 => Sm H11 H2 ∧ H2 D = some (.lst ((List.replicate i true).map V.bl))) ⟨Sm.new nD, upd_same⟩ (fun i H2 _ h => by rw [e8]; exact h.1 _ _ e8) (fun i x0 H2 hx0 h => ?_) (fun H2 h => ?_)
  · obtain ⟨s2, eD2⟩ := h
    obtain ⟨p, ep, rp⟩ := r8.get hx0
    obtain ⟨e, w0, rfl, we, lw, sce⟩ := odds_ok p (List.mem_of_getElem? ep)
    have hi : i < 13 := by
      have := (List.getElem?_eq_some_iff.mp hx0).1
      omega
    cases rp with
    | @tup t ts _ et rt =>
    cases rt with
    | @cons o _ _ _ ro rt2 =>
    cases rt2 with
    | @cons o2 _ _ _ ro2 rt3 =>
    cases rt3
    cases ro2.str_inv
    refine ⟨t, _, rfl, SqT.of (s2 _ _ et), rfl, _, _, rfl, _, _, rfl, rfl, rfl, ?_⟩
    dsimp only [tYes]
    rw [if_pos rfl]
    refine ⟨_, rfl, _, rfl, (by show 1 ≤ sizeLine; decide), fun p1 np1 => ?_⟩
    have s3 := s2.trans (Sm.new (o := .lst [o]) np1)
    refine ⟨lr, p1, rs, [o], rfl, rfl, s3 _ _ e6', upd_same, by rw [lrs]; show 5 + 1 ≤ sizeLine; decide, fun p2 np2 => ?_⟩
    have s4 := s3.trans (Sm.new (o := .lst (rs ++ [o])) np2)
    have e4 : upd (upd H2 p1 (.lst [o])) p2 (.lst (rs ++ [o])) D = some (.lst ((List.replicate i true).map V.bl)) := (Sm.new np2) _ _ ((Sm.new np1) _ _ eD2)
    have r4 : Dr All (upd (upd H2 p1 (.lst [o])) p2 (.lst (rs ++ [o]))) (.ref p2) (.list (R5.map Row.d ++ [e])) := .lst trivial upd_same (((r6'.sm s4).all).append (.one (ro.sm s4).all))
    generalize upd (upd H2 p1 (.lst [o])) p2 (.lst (rs ++ [o])) = H4 at s4 e4 r4 ⊢
    refine ⟨_, _, rfl, r4, wR e we, fun R' f0 fv H5 sc s5 rf => ?_⟩
    obtain ⟨_, rfl⟩ := sc.det sce
    refine ⟨_, rfl, (by show 2 ≤ sizeLine; decide), fun p3 np3 => ?_⟩
    have s6 := Sm.new (o := .tup [.int 5, .str w0]) np3
    refine ⟨fv, .ref p3, faultD 5 w0, rfl, rf.sm s6, .tup upd_same (.cons (.int 5) (.one (.str w0))), fit_mono (n := 1) (m := 6) (by decide) (fault_fit (by decide) lw), fun H7 s7 => ⟨_, s7 _ _ (s6 _ _ (s5 _ _ e4)), ?_, ?_, ?_⟩⟩
    · rw [List.length_map, List.length_replicate]
      exact Nat.lt_trans hi (by decide)
    · intro b o' eo
      rw [upd_ne (ne_of_none eo nD)]
      exact s7 _ _ (s6 _ _ (s5 _ _ (s4 _ _ eo)))
    · rw [upd_same]
      have e1 : List.replicate (i + 1) true = List.replicate i true ++ [true] := List.replicate_succ'
      rw [e1]
      simp
  obtain ⟨s2, eD2⟩ := h
  refine ⟨D, List.replicate us.length true, rfl, SqL.of eD2, ?_⟩
  rw [show (List.replicate us.length true).all id = true by simp]
  refine ⟨_, rfl, iteF ?_⟩
  refine ⟨(by show 0 ≤ sizeLine; decide), fun p1 np1 => ⟨.ref p1, .list [], rfl, .lst trivial upd_same .nil, rfl, fun R' f0 fv H3 sc s3 rf => ⟨rfl, _, rfl, ?_⟩⟩⟩
  obtain ⟨_, rfl⟩ := sc.det (show ScanOf (.list []) [] .none from .inl ⟨rfl, .done⟩)
  cases rf.non_inv
  refine iteT ?_
  have s4 := s2.trans ((Sm.new np1).trans s3)
  refine ⟨_, rfl, (by show 0 ≤ sizeLine; decide), fun p3 np3 => ⟨(by show 3 ≤ sizeLine; decide), fun p4 np4 => ?_⟩⟩
  have s5 := Sm.new (o := .lst []) np3
  have s6 := Sm.new (o := .lst [.str "made", .str "one", .ref p3]) np4
  have rl : Dr All (upd (upd H3 p3 (.lst [])) p4 (.lst [.str "made", .str "one", .ref p3])) (.ref p4) (.list [.str "made", .str "one", .list []]) :=
    .lst trivial upd_same (.cons (.str _) (.cons (.str _) (.one (.lst trivial (s6 _ _ upd_same) .nil))))
  have rr : Dr All (upd (upd H3 p3 (.lst [])) p4 (.lst [.str "made", .str "one", .ref p3])) (.ref lr) (rowsD R5) := .lst trivial (s6 _ _ (s5 _ _ (s4 _ _ e6'))) ((((r6'.sm s4).sm s5).sm s6).all)
  have wr : wd (rowsD R5) = true := by decide +kernel
  have wl : wd (.list [.str "made", .str "one", .list []]) = true := by decide +kernel
  have fm : rowForm (.list [.str "made", .str "one", .list []]) = (Row.made "one" []).d := by kernel_rfl
  have wm : why R5 (.made "one" []) = none := by decide +kernel
  have mem : Row.made "one" [] ∈ R5 := by decide +kernel
  have hk0 : NewAt R5 (.made "one" []) 0 := by
    rw [NewAt, if_pos mem]
    decide +kernel
  refine ⟨.ref lr, .ref p4, rowsD R5, .list [.str "made", .str "one", .list []], rfl, rr, wr, rl, wl, fun R' r k p5 H5 sc' er _ _ hk s7 r7 => ?_, fun R' m xx dx H5 sc' _ _ _ => ?_, fun R' dx H5 sc' bd _ _ _ => ?_⟩
  · obtain ⟨rfl, _⟩ := web5.scan.det sc'
    have := Row.d_inj (er.symm.trans fm)
    subst this
    obtain rfl := hk.det hk0
    have en : newRows R5 (.made "one" []) = R5 := by rw [newRows, if_pos mem]
    rw [en] at r7
    refine ⟨_, rfl, (by show 2 ≤ sizeLine; decide), fun p6 np6 => ⟨.ref p5, .ref p6, .tuple [rowsD R5, .int (0 : Nat)], rfl, r7.all.sm (Sm.new np6), .tup upd_same (.cons ((rr.sm s7).sm (Sm.new np6)) (.one (.int _))), by decide +kernel, fun H6 s8 => q H6⟩⟩
  · cases (web5.scan.det sc').2
  · obtain ⟨rfl, _⟩ := web5.scan.det sc'
    exact not_bad fm wm bd
end
end K8

/-! The head: what is looked at behind the top. -/
namespace K8
open PySem PySem.Spec PyProof.Rows L2 WR LamX
def fn : List He.DefD := [dBadWeb_I, dBadRow_I, dRowTable_I, dRowTable_put_in, dnamed_rows, dis_list, dis_number, dare_numbers, dis_place, dis_letter, dis_figure, dbegins_name, dis_name, drow_form, drow_why, dscanned_web, djudged_web, dis_part, dweb_fault, dis_web, dput_row, d_law_well, d_law_draw, d_law_pick, d_law_mixed, d_law_same, d_law_loose, d_law_spoiled, d_law_g_is_int, d_law_g_is_name, d_law_g_form, d_law_g_named, d_law_g_why, d_law_g_fault, d_law_g_parts, d_law_g_row, d_law_g_drawn, d_law_g_bent_row, d_law_g_bent, d_law_met, d_law_judged_right, d_law_put_right, dlaw]
def fa : List He.Fa := [.glo "named_rows", .glo "is_list", .glo "is_number", .glo "are_numbers", .glo "is_place", .glo "is_letter", .glo "is_figure", .glo "begins_name", .glo "is_name", .glo "row_form", .glo "row_why", .glo "scanned_web", .glo "judged_web", .glo "is_part", .glo "web_fault", .glo "is_web", .glo "put_row", .glo "_law_well", .glo "_law_draw", .glo "_law_pick", .glo "_law_mixed", .glo "_law_same", .glo "_law_loose", .glo "_law_spoiled", .glo "_law_g_is_int", .glo "_law_g_is_name", .glo "_law_g_form", .glo "_law_g_named", .glo "_law_g_why", .glo "_law_g_fault", .glo "_law_g_parts", .glo "_law_g_row", .glo "_law_g_drawn", .glo "_law_g_bent_row", .glo "_law_g_bent", .glo "_law_met", .glo "_law_judged_right", .glo "_law_put_right", .glo "law", .glo "PageError", .glo "BadWeb", .glo "BadRow", .glo "RowTable", .free "isinstance", .free "list", .free "tuple", .free "int", .free "bool", .free "str", .free "dict", .free "len", .free "all", .free "any", .free "range", .free "enumerate", .free "zip", .free "abs", .free "sum", .free "repr", .int "LONGEST_NAME" 8, .cls "RowTable", .mkr "RowTable", .meth "RowTable" "put_in", .noat "RowTable" "rows", .noat "RowTable" "where", .exm "BadWeb" "BadWeb" true, .exm "BadRow" "BadWeb" false, .exm "BadRow" "BadRow" true]
def names1 : List PySem.Str := ["PageError", "BadWeb", "BadRow", "RowTable", "named_rows", "LONGEST_NAME", "is_list", "is_number", "are_numbers", "is_place", "is_letter", "is_figure", "begins_name", "is_name", "row_form", "row_why", "scanned_web", "judged_web", "is_part", "web_fault", "is_web", "put_row", "_law_well", "_law_draw"]
def names2 : List PySem.Str := ["_law_pick", "_law_mixed", "_law_same", "_law_loose", "_law_spoiled", "_law_g_is_int", "_law_g_is_name", "_law_g_form", "_law_g_named", "_law_g_why", "_law_g_fault", "_law_g_parts", "_law_g_row", "_law_g_drawn", "_law_g_bent_row", "_law_g_bent", "_law_met", "_law_judged_right", "_law_put_right"]
def names : List PySem.Str := names1 ++ names2
/-- an error's class, beneath ValueError by classes of its own -/
def oexB (K : PySem.W.Frag) (C : Addr) : Bool :=
  match K.lookup C with
  | some ob =>
    (match ob with
    | ⟨.type cn, _, .cls dt, so⟩ =>
      decide (cn = "type") &&
      (match dt.mro, so.toList with
      | .ref C0 :: rest, [_, _, _, _, some (.builtin nw), _] => decide (C0 = C) && (decide (nw = "ValueError.__new__") && (!dt.hasDel && (dt.hasDict && PySem.HandSPX.refsVE rest)))
      | _, _ => false)
    | _ => false)
  | none => false
theorem oexB_ok {K : PySem.W.Frag} {C : Addr} (h : oexB K C = true) : ∃ nm q N bs bm sn sub ab col dd k0 k1 k2 k3 k5, K.lookup C = some (excClassObj nm q C N bs bm true sn sub ab col dd k0 k1 k2 k3 k5 "ValueError.__new__") ∧ PySem.HandSPX.refsVE bm = true := by
  unfold oexB at h
  cases e : K.lookup C with
  | none => rw [e] at h; cases h
  | some ob =>
    rw [e] at h
    obtain ⟨oc, od, dt, so⟩ := ob
    cases oc with
    | type cn =>
      cases dt with
      | cls d0 =>
        obtain ⟨h1, h2⟩ := Bool.and_eq_true_iff.mp (show (decide (cn = "type") && _) = true from h)
        have ec := of_decide_eq_true h1
        subst ec
        obtain ⟨z1, z2, z3, z4, z5, z6, z7, z8, z9, za, zb⟩ := d0
        obtain ⟨lo⟩ := so
        dsimp only at h2
        split at h2
        · rename_i C0 rest k0 k1 k2 k3 nw k5
          simp only [Bool.and_eq_true, decide_eq_true_eq, Bool.not_eq_true'] at h2
          obtain ⟨rfl, rfl, h3, h4, h5⟩ := h2
          subst h3 h4
          exact ⟨z1, z5, z4, z2, rest, z7, z8, z9, za, od, k0, k1, k2, k3, k5, rfl, h5⟩
        · cases h2
      | _ => cases h
    | _ => cases h
def eqV (a b : Option (Option Value)) : Bool := decide (a = b)
/-- what an error of the program's own shows -/
def errB (K : PySem.W.Frag) (x f : Str) : Bool :=
  oexB K (He.ga K x) && (eqV (PySem.W.findIn K (.ref (He.ga K x)) "__setattr__") (some (some (.builtin "object.__setattr__"))) && (decide (PySem.W.subIn K (.ref (He.ga K x)) (.type "BaseException") = some true) && (decide (PySem.W.typeIn K (.ref (He.ga K x)) = some (.type "type")) &&
  (PySem.W.keepIn K (.ref (He.ga K x)) && (eqV (PySem.W.findIn K (.ref (He.ga K x)) "__init__") (some (some (.ref (He.ma K (He.ga K x) "__init__")))) && (decide (PySem.W.typeIn K (.ref (He.ma K (He.ga K x) "__init__")) = some (.type "function")) &&
  (eqV (PySem.W.findIn K (.ref (He.ga K x)) f) (some none) && xfB K (He.ga K x))))))))
def initB : Option PySem.W.CFound → Bool
  | some (.val v) => decide (v = .builtin "ValueError.__init__")
  | _ => false
theorem initB_ok {o : Option PySem.W.CFound} (h : initB o = true) : o = some (.val (.builtin "ValueError.__init__")) := by
  unfold initB at h
  split at h
  · rw [of_decide_eq_true h]
  · cases h
def pgeB (K : PySem.W.Frag) : Bool :=
  decide (PySem.W.specialIn K (.ref (He.ga K "PageError")) "__getattribute__" = some (some (.builtin "type.__getattribute__"))) && (decide (PySem.W.typeIn K (.ref (He.ga K "PageError")) = some (.type "type")) && (PySem.W.readsIn K (He.ga K "PageError") (.type "type") &&
  initB (PySem.W.findCls K (.ref (He.ga K "PageError")) (.type "type") "__init__")))
/-- a function's code object, its table -/
def codeA (K : PySem.W.Frag) (x : Str) : Addr :=
  match K.lookup (He.ga K x) with
  | some ⟨_, _, .func fd, _⟩ => (match fd.code with
    | .ref c => c
    | _ => 0)
  | _ => 0
def tabA (K : PySem.W.Frag) (c : Addr) : Addr :=
  match K.lookup c with
  | some ⟨_, _, .fields vs, _⟩ => (match (vs[11]? : Option Value) with
    | some (.ref p) => p
    | _ => 0)
  | _ => 0
def isCode (K : PySem.W.Frag) (x : Str) : Bool :=
  match K.lookup (He.ga K x) with
  | some ⟨_, _, .func fd, _⟩ => (match fd.code with
    | .ref c => decide (c = codeA K x)
    | _ => false)
  | _ => false
def codB (K : PySem.W.Frag) (x : Str) : Bool := isCode K x && (PySem.W.codeHdIn K (codeA K x) (tabA K (codeA K x)) && (K.lookup (tabA K (codeA K x))).isNone)
def emptyTab (o : Option Obj) : Bool :=
  match o with
  | some ⟨.none, none, .fields vs, so⟩ => decide (vs.toList = []) && decide (so.toList = [])
  | _ => false
theorem emptyTab_ok {o : Option Obj} (h : emptyTab o = true) : o = some { cls := .none, data := .fields #[] } := by
  unfold emptyTab at h
  split at h
  · rename_i vs so
    obtain ⟨h1, h2⟩ := Bool.and_eq_true_iff.mp h
    have e1 := of_decide_eq_true h1
    have e2 := of_decide_eq_true h2
    obtain ⟨l1⟩ := vs
    obtain ⟨l2⟩ := so
    simp only at e1 e2
    subst e1 e2
    rfl
  · cases h
def J1 : Str := "_law_judged_right"
def J2 : Str := "_law_put_right"
def ownB (K : PySem.W.Frag) : Bool :=
  errB K "BadWeb" "index" && (errB K "BadRow" "row" && (pgeB K && (codB K J1 && (codB K J2 && (decide (tabA K (codeA K J1) ≠ tabA K (codeA K J2)) && (K.lookup sysModules).isSome)))))
/-- all that is held, the two tables aside -/
def frK (g : Addr → Option Obj) : PySem.W.Frag :=
  let K := He.frG g (He.asD g 5)
  let p := tabA K (codeA K J1)
  let q := tabA K (codeA K J2)
  He.frG g (sysModules :: cStatics :: (He.asD g 5).filter fun a => !decide (a = p) && !decide (a = q))
abbrev AlK : Type := Bool × He.AlD
def obsK (g : Addr → Option Obj) : AlK :=
  let K := frK g
  (ownB K && (emptyTab (g (tabA K (codeA K J1))) && emptyTab (g (tabA K (codeA K J2)))), He.obsD fa fn K)
structure SaysK (K : PySem.W.Frag) (h : Heap) : Prop where
  kin : K.In h
  own : ownB K = true
  t1 : h.get? (tabA K (codeA K J1)) = some { cls := .none, data := .fields #[] }
  t2 : h.get? (tabA K (codeA K J2)) = some { cls := .none, data := .fields #[] }
  says : He.SaysD fa fn K
def hk : PySem.W.Hook where
  α := AlK
  obs := fun s => obsK s.heap.get?
  val := fun _ => (true, He.valD fn)
  says := fun _ h => ∃ K : PySem.W.Frag, SaysK K h
  of := fun _ s e => by
    have h1 : (ownB (frK s.heap.get?) && (emptyTab (s.heap.get? (tabA (frK s.heap.get?) (codeA (frK s.heap.get?) J1))) && emptyTab (s.heap.get? (tabA (frK s.heap.get?) (codeA (frK s.heap.get?) J2))))) = true := congrArg (fun z : AlK => z.1) e
    have h2 : He.obsD fa fn (frK s.heap.get?) = He.valD fn := congrArg (fun z : AlK => z.2) e
    obtain ⟨a1, a2⟩ := Bool.and_eq_true_iff.mp h1
    obtain ⟨a3, a4⟩ := Bool.and_eq_true_iff.mp a2
    exact ⟨frK s.heap.get?, He.frG_in, a1, emptyTab_ok a3, emptyTab_ok a4, h2⟩
  keeps := fun _ _ _ ⟨K, c⟩ k => ⟨K, PySem.W.Frag.In.keeps c.kin k, c.own, k _ _ c.t1, k _ _ c.t2, c.says⟩
abbrev RR : PySem.W.OpenRow := PySem.W.OpenLaw.row PySem.Challenge.rw_pagestrue_k08_whole_webs_judged
def obK (s : PySem.W.SharedT) : AlK := obsK (HandSHeadRun.getT s)
theorem obK_eq (s : PySem.W.SharedT) : obK s = hk.obs s.abs := by
  have e : HandSHeadRun.getT s = s.abs.heap.get? := funext (HandSHeadRun.getT_eq s)
  unfold obK
  rw [e]
  rfl
end K8

namespace K8
open PySem PySem.Spec PyProof.Rows L2 WR LamX
theorem run (w : World) : HandSHeadRun.RunEq RR (PySem.W.view RR.prog [49]) hk obK 3000 names w := by
  intro os
  kernel_rfl
end K8

/-! From what the head shows to the law's promise. -/
namespace K8
open PySem PySem.Spec PyProof.Rows L2 WR LamX
def qJ1 : Str := ("_law_judged_right" : Str) ++ ".<locals>." ++ "<lambda>"
def qJ2 : Str := ("_law_put_right" : Str) ++ ".<locals>." ++ "<lambda>"
def tabs (K : PySem.W.Frag) : TabL := [(tabA K (codeA K J1), qJ1), (tabA K (codeA K J2), qJ2)]
section
variable {P : Program} {w : World} {K : PySem.W.Frag} {h base : Heap} {mg : Str → Option Value}
theorem erc_ok {x f : Str} (G : mg x = some (.ref (He.ga K x))) (e : errB K x f = true) : ErC K mg x f (He.ga K x) (He.ma K (He.ga K x) "__init__") ∧ XfC K (He.ga K x) := by
  simp only [errB, eqV, Bool.and_eq_true, decide_eq_true_eq] at e
  obtain ⟨a1, a2, a3, a4, a5, a6, a7, a8, a9⟩ := e
  exact ⟨⟨⟨oexB_ok a1, a2, a3, a4, a5⟩, a6, a7, G, a8⟩, xfB_ok a9⟩
/-- a function's own code object -/
theorem cod_ok {x : Str} {o : Obj} {fd : FuncData} (e : codB K x = true) (lk : K.lookup (He.ga K x) = some o) (ho : o.data = .func fd) :
    fd.code = .ref (codeA K x) ∧ PySem.W.codeHdIn K (codeA K x) (tabA K (codeA K x)) = true ∧ K.lookup (tabA K (codeA K x)) = none := by
  simp only [codB, Bool.and_eq_true, Option.isNone_iff_eq_none] at e
  obtain ⟨e1, e2, e3⟩ := e
  refine ⟨?_, e2, e3⟩
  unfold isCode at e1
  rw [lk] at e1
  obtain ⟨oc, od, dt, so⟩ := o
  have hd : dt = .func fd := ho
  subst hd
  dsimp only at e1
  split at e1
  · rename_i c hc
    rw [hc, of_decide_eq_true e1]
  · cases e1
theorem law_ok (c : SaysK K h) (G : h.Ns mainGlobals mg) {f : Addr} (hfa : mg ("law" : Str) = some (.ref f)) :
    ∃ fd : FuncData, (∀ (s : Shared) (v : Value), BindsTo s fd ⟨[v], []⟩ [("script", v)]) ∧ ∀ base : Heap, K.In base → base.Ns mainGlobals mg → TabB base mg (codeA K J1) (tabA K (codeA K J1)) → TabB base mg (codeA K J2) (tabA K (codeA K J2)) →
      FnG P w K mg base CX0 11 f fd ["script"] (spLaw K (tabs K)) := by
  have X := c.kin
  have s := c.says
  have gl : ∀ (i : Nat) (x : Str), fa[i]? = some (.glo x) → mg x = some (.ref (He.ga K x)) := fun i x e => He.glo_ok X G (s.fact i e)
  have fr : ∀ (i : Nat) (x : Str), fa[i]? = some (.free x) → mg x = none := fun i x e => He.free_ok X G (s.fact i e)
  have ow := c.own
  simp only [ownB, Bool.and_eq_true, decide_eq_true_eq] at ow
  obtain ⟨o1, o2, o3, o4, o5, o6, o7⟩ := ow
  have dfn : ∀ (i j : Nat) (d : He.DefD), fn[i]? = some d → d.at_ = (d.name, none) → d.dvs K = [] → d.kws K = [] → fa[j]? = some (.glo d.name) → Fn K mg d := fun i j d e1 e2 e3 e4 e5 => by
    obtain ⟨fd, F⟩ := s.def_ i e1
    rw [e3, e4, e2] at F
    exact ⟨_, fd, gl j _ e5, F⟩
  have B : Bt mg := ⟨fr 43 _ rfl, fr 44 _ rfl, fr 45 _ rfl, fr 46 _ rfl, fr 47 _ rfl, fr 48 _ rfl, fr 49 _ rfl, fr 50 _ rfl, fr 51 _ rfl, fr 52 _ rfl, fr 53 _ rfl, fr 54 _ rfl, fr 55 _ rfl, fr 56 _ rfl, fr 57 _ rfl, fr 58 _ rfl⟩
  have F4 : Fn K mg dnamed_rows := dfn 4 0 dnamed_rows rfl rfl rfl rfl rfl
  have F5 : Fn K mg dis_list := dfn 5 1 dis_list rfl rfl rfl rfl rfl
  have F6 : Fn K mg dis_number := dfn 6 2 dis_number rfl rfl rfl rfl rfl
  have F7 : Fn K mg dare_numbers := dfn 7 3 dare_numbers rfl rfl rfl rfl rfl
  have F8 : Fn K mg dis_place := dfn 8 4 dis_place rfl rfl rfl rfl rfl
  have F9 : Fn K mg dis_letter := dfn 9 5 dis_letter rfl rfl rfl rfl rfl
  have F10 : Fn K mg dis_figure := dfn 10 6 dis_figure rfl rfl rfl rfl rfl
  have F11 : Fn K mg dbegins_name := dfn 11 7 dbegins_name rfl rfl rfl rfl rfl
  have F12 : Fn K mg dis_name := dfn 12 8 dis_name rfl rfl rfl rfl rfl
  have F13 : Fn K mg drow_form := dfn 13 9 drow_form rfl rfl rfl rfl rfl
  have F14 : Fn K mg drow_why := dfn 14 10 drow_why rfl rfl rfl rfl rfl
  have F15 : Fn K mg dscanned_web := dfn 15 11 dscanned_web rfl rfl rfl rfl rfl
  have F16 : Fn K mg djudged_web := dfn 16 12 djudged_web rfl rfl rfl rfl rfl
  have F17 : Fn K mg dis_part := dfn 17 13 dis_part rfl rfl rfl rfl rfl
  have F18 : Fn K mg dweb_fault := dfn 18 14 dweb_fault rfl rfl rfl rfl rfl
  have F19 : Fn K mg dis_web := dfn 19 15 dis_web rfl rfl rfl rfl rfl
  have F20 : Fn K mg dput_row := dfn 20 16 dput_row rfl rfl rfl rfl rfl
  have F21 : Fn K mg d_law_well := dfn 21 17 d_law_well rfl rfl rfl rfl rfl
  have F22 : Fn K mg d_law_draw := dfn 22 18 d_law_draw rfl rfl rfl rfl rfl
  have F23 : Fn K mg d_law_pick := dfn 23 19 d_law_pick rfl rfl rfl rfl rfl
  have F24 : Fn K mg d_law_mixed := dfn 24 20 d_law_mixed rfl rfl rfl rfl rfl
  have F25 : Fn K mg d_law_same := dfn 25 21 d_law_same rfl rfl rfl rfl rfl
  have F26 : Fn K mg d_law_loose := dfn 26 22 d_law_loose rfl rfl rfl rfl rfl
  have F27 : Fn K mg d_law_spoiled := dfn 27 23 d_law_spoiled rfl rfl rfl rfl rfl
  have F28 : Fn K mg d_law_g_is_int := dfn 28 24 d_law_g_is_int rfl rfl rfl rfl rfl
  have F29 : Fn K mg d_law_g_is_name := dfn 29 25 d_law_g_is_name rfl rfl rfl rfl rfl
  have F30 : Fn K mg d_law_g_form := dfn 30 26 d_law_g_form rfl rfl rfl rfl rfl
  have F31 : Fn K mg d_law_g_named := dfn 31 27 d_law_g_named rfl rfl rfl rfl rfl
  have F32 : Fn K mg d_law_g_why := dfn 32 28 d_law_g_why rfl rfl rfl rfl rfl
  have F33 : Fn K mg d_law_g_fault := dfn 33 29 d_law_g_fault rfl rfl rfl rfl rfl
  have F34 : Fn K mg d_law_g_parts := dfn 34 30 d_law_g_parts rfl rfl rfl rfl rfl
  have F35 : Fn K mg d_law_g_row := dfn 35 31 d_law_g_row rfl rfl rfl rfl rfl
  have F36 : Fn K mg d_law_g_drawn := dfn 36 32 d_law_g_drawn rfl rfl rfl rfl rfl
  have F37 : Fn K mg d_law_g_bent_row := dfn 37 33 d_law_g_bent_row rfl rfl rfl rfl rfl
  have F38 : Fn K mg d_law_g_bent := dfn 38 34 d_law_g_bent rfl rfl rfl rfl rfl
  have F39 : Fn K mg d_law_met := dfn 39 35 d_law_met rfl rfl rfl rfl rfl
  have F40 : Fn K mg d_law_judged_right := dfn 40 36 d_law_judged_right rfl rfl rfl rfl rfl
  have F41 : Fn K mg d_law_put_right := dfn 41 37 d_law_put_right rfl rfl rfl rfl rfl
  have F42 : Fn K mg dlaw := dfn 42 38 dlaw rfl rfl rfl rfl rfl
  have gB := gl 39 "PageError" rfl
  have gC := gl 42 "RowTable" rfl
  simp only [pgeB, Bool.and_eq_true, decide_eq_true_eq] at o3
  have PG : PgE K mg (He.ga K "PageError") := ⟨gB, o3.1, o3.2.1, o3.2.2.1, initB_ok o3.2.2.2⟩
  obtain ⟨EW, XW⟩ := erc_ok (gl 40 "BadWeb" rfl) o1
  obtain ⟨ER, XR⟩ := erc_ok (gl 41 "BadRow" rfl) o2
  obtain ⟨fdW, FW⟩ := s.def_ 0 (d := dBadWeb_I) rfl
  obtain ⟨fdR, FR⟩ := s.def_ 1 (d := dBadRow_I) rfl
  obtain ⟨fdI, FI⟩ := s.def_ 2 (d := dRowTable_I) rfl
  obtain ⟨fdP, FP⟩ := s.def_ 3 (d := dRowTable_put_in) rfl
  have FW' : FunD K dBadWeb_I.name dBadWeb_I.qual dBadWeb_I.params dBadWeb_I.body dBadWeb_I.scope [] [] (He.ma K (He.ga K "BadWeb") "__init__") fdW := FW
  have FR' : FunD K dBadRow_I.name dBadRow_I.qual dBadRow_I.params dBadRow_I.body dBadRow_I.scope [] [] (He.ma K (He.ga K "BadRow") "__init__") fdR := FR
  have FI' : FunD K dRowTable_I.name dRowTable_I.qual dRowTable_I.params dRowTable_I.body dRowTable_I.scope [] [] (He.ma K (He.ga K "RowTable") "__init__") fdI := FI
  have FP' : FunD K dRowTable_put_in.name dRowTable_put_in.qual dRowTable_put_in.params dRowTable_put_in.body dRowTable_put_in.scope [] [] (He.ma K (He.ga K "RowTable") "put_in") fdP := FP
  have bW : L2.Binds K fdW ["self", "index"] [] := FW'.bindsN fun _ _ _ _ _ _ us hl => match us, hl with | [_, _], _ => rfl
  have bR : L2.Binds K fdR ["self", "row"] [] := FR'.bindsN fun _ _ _ _ _ _ us hl => match us, hl with | [_, _], _ => rfl
  have bI : L2.Binds K fdI ["self", "rows"] [] := FI'.bindsN fun _ _ _ _ _ _ us hl => match us, hl with | [_, _], _ => rfl
  have bP : L2.Binds K fdP ["self", "row"] [] := FP'.bindsN fun _ _ _ _ _ _ us hl => match us, hl with | [_, _], _ => rfl
  have mk := He.mkr_ok (s.fact 61 (f := .mkr "RowTable") rfl)
  have mp := He.meth_ok (s.fact 62 (f := .meth "RowTable" "put_in") rfl)
  have cl := He.cls_ok (s.fact 60 (f := .cls "RowTable") rfl)
  have nR := He.noat_ok (s.fact 63 (f := .noat "RowTable" "rows") rfl)
  have nW := He.noat_ok (s.fact 64 (f := .noat "RowTable" "where") rfl)
  have M8 : Mk8 mg := He.int_ok X G (s.fact 59 (f := .int "LONGEST_NAME" 8) rfl)
  have E2 : Ex2 K mg (He.ga K "BadWeb") (He.ga K "BadRow") := ⟨XW, XR, EW.nf, ER.nf, He.exm_ok (s.fact 65 (f := .exm "BadWeb" "BadWeb" true) rfl), He.exm_ok (s.fact 66 (f := .exm "BadRow" "BadWeb" false) rfl), He.exm_ok (s.fact 67 (f := .exm "BadRow" "BadRow" true) rfl), EW.gC, ER.gC⟩
  obtain ⟨fJ, fdJ, mJ, FJ⟩ := F40
  obtain ⟨fU, fdU, mU, FU⟩ := F41
  obtain ⟨fL, fdL, mL, FL⟩ := F42
  obtain rfl : fL = f := by
    have e := mL.symm.trans hfa
    cases e
    rfl
  obtain ⟨ocJ, odJ, dVJ, kVJ, docJ, pmJ, anJ, cdJ, ctJ, oslJ, rfl, lkJ, hcJ, _, _⟩ := FJ.ex
  obtain ⟨ocU, odU, dVU, kVU, docU, pmU, anU, cdU, ctU, oslU, rfl, lkU, hcU, _, _⟩ := FU.ex
  obtain ⟨ocL, odL, dVL, kVL, docL, pmL, anL, cdL, ctL, oslL, rfl, lkL, hcL, _, _⟩ := FL.ex
  have eJ : fJ = He.ga K J1 := by
    have e := mJ.symm.trans (gl 36 "_law_judged_right" rfl)
    cases e
    rfl
  have eU : fU = He.ga K J2 := by
    have e := mU.symm.trans (gl 37 "_law_put_right" rfl)
    cases e
    rfl
  obtain ⟨cJ, _, _⟩ := cod_ok o4 (by rw [← eJ]; exact lkJ) rfl
  obtain ⟨cU, _, _⟩ := cod_ok o5 (by rw [← eU]; exact lkU) rfl
  have cJ' : cdJ = .ref (codeA K J1) := cJ
  have cU' : cdU = .ref (codeA K J2) := cU
  subst cJ' cU'
  have bJ : L2.Binds K _ ["well", "thing"] [] := FJ.bindsN fun _ _ _ _ _ _ us hl => match us, hl with | [_, _], _ => rfl
  have bU : L2.Binds K _ ["well", "rows"] [] := FU.bindsN fun _ _ _ _ _ _ us hl => match us, hl with | [_, _], _ => rfl
  have bL := FunD.bindsA (ps := ["script"]) FL fun _ _ _ _ _ _ us hl => match us, hl with | [_], _ => rfl
  refine ⟨_, fun s v => bL s [v] rfl, fun base kb gb T1 T2 => ?_⟩
  have SM : ∃ o, base.get? sysModules = some o := by
    obtain ⟨o, e⟩ := Option.isSome_iff_exists.mp o7
    exact ⟨o, kb _ _ e⟩
  have T : RT P w K mg base (He.ga K "RowTable") := ⟨cl, nR, nW, gC⟩
  have h_is_list := ok_is_list (P := P) (w := w) (base := base) B F5
  have h_is_number := ok_is_number (P := P) (w := w) (base := base) B F6
  have h_are_numbers := ok_are_numbers B F7 h_is_list h_is_number
  have h_is_place := ok_is_place F8 h_is_number
  have h_is_letter := ok_is_letter (P := P) (w := w) (base := base) F9
  have h_is_figure := ok_is_figure (P := P) (w := w) (base := base) F10
  have h_begins_name := ok_begins_name B M8 F11 h_is_letter h_is_figure
  have h_is_name := ok_is_name B F12 h_begins_name
  have h_row_form := ok_row_form B F13 h_is_list h_is_name h_are_numbers
  have h_named_rows := ok_named_rows (P := P) (w := w) (base := base) F4
  have h_is_part := ok_is_part B F17 h_is_place
  have h_row_why := ok_row_why B F14 h_named_rows h_is_part
  have GI := ok_RowTable_I B T FI'
  have GP := ok_RowTable_put_in B T FP'
  have h_scanned := ok_scanned_web B T mk mp GI bI GP bP F15 h_is_list h_row_form h_row_why
  have GW := ok_BadWeb_I (P := P) (w := w) (base := base) PG EW FW'
  have GR := ok_BadRow_I (P := P) (w := w) (base := base) PG ER FR'
  have h_judged := ok_judged_web EW GW bW F16 h_scanned
  have h_fault := okF_web_fault F18 h_scanned
  have h_is_web := okF_is_web F19 h_fault.df
  have h_put_row := okF_put_row T ER GR bR mp GP bP F20 h_judged h_row_form h_row_why
  have h_draw := ok__law_draw (P := P) (w := w) (base := base) B F22
  have h_well := ok__law_well (P := P) (w := w) (base := base) B F21
  have h_pick := ok__law_pick B F23 h_draw
  have h_mixed := ok__law_mixed B F24 h_draw
  have h_same := fun k => ok__law_same (P := P) (w := w) (base := base) B F25 k
  have h_loose := fun k => ok__law_loose B F26 h_draw h_mixed k
  have h_spoiled := fun k => ok__law_spoiled (P := P) (w := w) (base := base) B F27 k
  have h_g_int := ok__law_g_is_int (P := P) (w := w) (base := base) B F28
  have h_g_name := ok__law_g_is_name (P := P) (w := w) (base := base) B F29
  have h_g_form := ok__law_g_form B F30 h_g_int h_g_name
  have h_g_named := ok__law_g_named (P := P) (w := w) (base := base) B F31
  have h_g_why := ok__law_g_why B F32 h_g_form h_g_named
  have h_g_parts := ok__law_g_parts (P := P) (w := w) (base := base) B F34
  have h_g_fault := ok__law_g_fault B F33 h_g_form h_g_why
  have h_g_row := ok__law_g_row B F35 h_draw h_pick h_mixed h_g_parts
  have h_g_drawn := ok__law_g_drawn B F36 h_draw h_g_row
  have h_g_bent_row := ok__law_g_bent_row B F37 h_draw h_pick
  have h_g_bent := ok__law_g_bent B F38 h_draw h_pick h_g_bent_row
  have ne := o6
  have gJ := ok__law_judged_right (T := tabs K) B SM E2 F39 h_g_fault (h_loose 5) (h_same 5) h_fault h_is_web h_put_row.df T1 (by simp [tabs, qJ1]) (fun p hp e => by
    simp only [tabs, List.mem_cons, List.not_mem_nil, or_false] at hp
    rcases hp with rfl | rfl
    · rfl
    · exact absurd e.symm ne) lkJ hcJ
  have gU := ok__law_put_right (T := tabs K) B SM E2 F39 h_g_row h_pick h_g_bent_row h_g_why (h_loose 5) h_put_row (h_same 7) h_g_form (h_spoiled 7) T2 (by simp [tabs, qJ2]) (fun p hp e => by
    simp only [tabs, List.mem_cons, List.not_mem_nil, or_false] at hp
    rcases hp with rfl | rfl
    · exact absurd e ne
    · rfl) lkU hcU
  exact ok_law B h_well h_g_drawn h_g_bent ⟨fJ, _, mJ, FJ.kp, bJ, gJ⟩ ⟨fU, _, mU, FU.kp, bU, gU⟩ (h_same 7) h_fault.df h_put_row.df lkL hcL
end
end K8

/-! The law called: two tables of code, no repr under way. -/
namespace K8
open PySem PySem.Spec PyProof.Rows L2 WR LamX
def tabO : Obj := { cls := .none, data := .fields #[] }
section
variable {P : Program} {w : World} {K : PySem.W.Frag} {mg mb : Str → Option Value} {k : Nat} {fa a c1 p1 c2 p2 : Addr} {fd : FuncData} {x : Str} {sp : Sp} {s : Shared} {vs : List Value} {ns : List Int}
/-- what is tracked: the two tables, the script where it may be hidden -/
def trkd (K : PySem.W.Frag) (p1 p2 a : Addr) (vs : List Value) (ns : List Int) : Hp := fun b =>
  if b = p1 ∨ b = p2 then some (.tbl #[]) else if b = a ∧ K.lookup a = none then some (.frz { cls := .type "list", data := .seq vs.toArray } (.lst (ns.map V.int))) else none
theorem callG (kin : K.In s.heap) (gl : s.heap.Ns mainGlobals mg) (bl : s.heap.Ns builtinsNs mb)
    (bb : ∀ y : Str, y ≠ "__name__" → mb y = bootBuiltins y) (nl : s.heap.NoLimit) (gs : s.gens = #[])
    (e1 : s.heap.get? p1 = some tabO) (e2 : s.heap.get? p2 = some tabO) (n1 : K.lookup p1 = none) (n2 : K.lookup p2 = none)
    (h1 : PySem.W.CodeHd s.heap c1 p1) (h2 : PySem.W.CodeHd s.heap c2 p2)
    (bm : ∃ (m : Addr) (om : Obj), mg "__builtins__" = some (.ref m) ∧ m ≠ builtinsNs ∧ s.heap.get? m = some om ∧ om.cls = .type "module" ∧ om.dict = some builtinsNs ∧ om.data = .plain)
    (ea : s.heap.get? a = some { cls := .type "list", data := .seq vs.toArray }) (iv : IntsAre vs ns) (ll : ns.length ≤ sizeLine) (room : Room k callerA)
    (F : ∀ base : Heap, K.In base → base.Ns mainGlobals mg → TabB base mg c1 p1 → TabB base mg c2 p2 → FnG P w K mg base CX0 k fa fd [x] sp)
    (bd : ∀ (s : Shared) (u : Value), BindsTo s fd ⟨[u], []⟩ [(x, u)])
    (hsp : ∀ H : Hp, H p1 = some (.tbl #[]) → H p2 = some (.tbl #[]) → SqL K H a (ns.map V.int) → sp [.ref a] H (fun v _ => v = .bl true) fun _ _ _ => False) :
    codeAny (model P w) callerA (.call (.ref fa) ⟨[.ref a], []⟩) (fun r s' => r = .ok (.ret (.bool true)) ∧ OldK s.heap s'.heap ∧ s'.os = s.os ∧ AllBare s'.gens) s := by
  have rel := vals_ints iv
  have lv := iv.length
  have tb : ∀ b, b = p1 ∨ b = p2 → s.heap.get? b = some tabO := fun b hb => hb.elim (fun z => by rw [z]; exact e1) fun z => by rw [z]; exact e2
  have tk : ∀ b, b = p1 ∨ b = p2 → K.lookup b = none := fun b hb => hb.elim (fun z => by rw [z]; exact n1) fun z => by rw [z]; exact n2
  have na : ¬ (a = p1 ∨ a = p2) := fun z => by
    have := tb a z
    rw [ea] at this
    cases this
  generalize hH : trkd K p1 p2 a vs ns = H
  have at1 : ∀ b, b = p1 ∨ b = p2 → H b = some (.tbl #[]) := fun b hb => by rw [← hH]; exact if_pos hb
  have at2 : K.lookup a = none → H a = some (.frz { cls := .type "list", data := .seq vs.toArray } (.lst (ns.map V.int))) := fun z => by
    rw [← hH]
    unfold trkd
    rw [if_neg na, if_pos ⟨rfl, z⟩]
  have cases3 : ∀ b, (b = p1 ∨ b = p2) ∨ (b = a ∧ K.lookup a = none) ∨ H b = none := fun b => by
    by_cases z : b = p1 ∨ b = p2
    · exact .inl z
    · by_cases y : b = a ∧ K.lookup a = none
      · exact .inr (.inl y)
      · refine .inr (.inr ?_)
        rw [← hH]
        unfold trkd
        rw [if_neg z, if_neg y]
  have ok : HOk P w H s.heap := fun b u hu => by
    rcases cases3 b with z | ⟨rfl, z⟩ | z
    · rw [at1 b z] at hu
      cases hu
      exact tb b z
    · rw [at2 z] at hu
      cases hu
      exact ⟨ea, by rw [List.length_map]; exact ll, vs, _, rel, ea⟩
    · rw [z] at hu
      cases hu
  have sq : SqL K H a (ns.map V.int) := by
    cases z : K.lookup a with
    | none => exact .inl (.inr ⟨_, at2 z⟩)
    | some o =>
      have y := kin a o z
      rw [ea] at y
      cases y
      exact .inr ⟨_, vs.toArray, _, z, rfl, rfl, rfl, by rw [List.size_toArray, lv]; exact ll, by simpa using rel⟩
  -- of what is neither list nor table nothing is hidden
  have plain : ∀ {b : Addr} {o : Obj}, s.heap.get? b = some o → (∀ ws n, o.data ≠ .seq ws n) → o.data ≠ .fields #[] → H b = none := fun {b o} e y1 y2 => by
    rcases cases3 b with z | ⟨rfl, _⟩ | z
    · rw [tb b z] at e
      cases e
      exact (y2 rfl).elim
    · rw [ea] at e
      cases e
      exact (y1 _ _ rfl).elim
    · exact z
  have dictF : ∀ {b : Addr} {o : Obj} {es : Array DictEntry} {ep : Nat}, s.heap.get? b = some o → o.data = .dict es ep → H b = none := fun e d => plain e (fun _ _ z => by rw [d] at z; cases z) fun z => by rw [d] at z; cases z
  have nsF : ∀ {b : Addr} {m : Str → Option Value}, s.heap.Ns b m → (hidT s.heap H).Ns b m := fun ⟨o, es, ep, e, d, r⟩ => ⟨o, es, ep, hidT_get e (dictF e d), d, r⟩
  have kB : K.In (hidT s.heap H) := fun b o e => hidT_get (kin b o e) (by
    rcases cases3 b with z | ⟨rfl, z⟩ | z
    · rw [tk b z] at e
      cases e
    · rw [z] at e
      cases e
    · exact z)
  have md : L2.Mod K mg (hidT s.heap H) := ⟨kB, nsF gl, ⟨mb, nsF bl, bb⟩, nl.elim fun mc y => ⟨mc, nsF y.1, y.2⟩⟩
  have tabF : ∀ c p, (p = p1 ∨ p = p2) → PySem.W.CodeHd s.heap c p → TabB (hidT s.heap H) mg c p := fun c p hp hc => by
    refine ⟨?_, ?_, fun z => ?_⟩
    · obtain ⟨o, us, fi, tf, fl, tg, inF, tx, tt, g1, r1, r2, r3, r⟩ := hc
      refine ⟨o, us, fi, tf, fl, tg, inF, tx, tt, hidT_get g1 (plain g1 (fun _ _ z => by rw [r2] at z; cases z) fun z => ?_), r1, r2, r3, r⟩
      rw [r2] at z
      cases z
      simp at r3
    · obtain ⟨m, om, m1, m2, m3, m4, m5, m6⟩ := bm
      refine ⟨m, om, m1, m2, fun y => ?_, fun y => ?_, hidT_get m3 (plain m3 (fun _ _ z => by rw [m6] at z; cases z) fun z => by rw [m6] at z; cases z), m4, m5, m6⟩
      · obtain ⟨o, es, ep, e, d, _⟩ := gl
        rw [y, e] at m3
        cases m3
        rw [d] at m6
        cases m6
      · rw [y, tb p hp] at m3
        cases m3
        cases m6
    · obtain ⟨o, es, ep, e, d, _⟩ := gl
      rw [z, tb p hp] at e
      cases e
      cases d
  have env : Env0 P w K mg (hidT s.heap H) callerA [] s H := ⟨rfl, md, fun b o e => of_hidT e, Nat.le_of_eq (hidT_size _ _), trivial, fun b hb => absurd hb (by simp [frs]), ok, .of_eq gs⟩
  have G := F _ kB (nsF gl) (tabF c1 p1 (.inl rfl) h1) (tabF c2 p2 (.inr rfl) h2)
  refine codeAny_mono (G.run callerA [] s H ⟨[.ref a], []⟩ [.ref a] [.ref a] _ _ room rfl env (bd s (.ref a)) (.cons rfl .nil) (hsp H (at1 _ (.inl rfl)) (at1 _ (.inr rfl)) sq)) fun r s' told => ?_
  match r, told with
  | .error e, told => exact False.elim told
  | .ok .next, told => exact False.elim told
  | .ok .brk, told => exact False.elim told
  | .ok .cont, told => exact False.elim told
  | .ok (.ret u), told =>
    obtain ⟨v, H', os, bare, un, ok', rv, q⟩ := told
    have q' : v = .bl true := q
    subst q'
    obtain rfl : u = Value.bool true := rv
    have more : ∀ p, (p = p1 ∨ p = p2) → ∃ m : Array Value, s'.heap.get? p = some { cls := .none, data := .fields m } := fun p hp => by
      obtain ⟨m, z⟩ := un.tbls p #[] (at1 p hp)
      exact ⟨_, ok' p _ z⟩
    have rest : ∀ b o, ¬ (b = p1 ∨ b = p2) → s.heap.get? b = some o → s'.heap.get? b = some o := fun b o hb e => by
      rcases cases3 b with z | ⟨rfl, z⟩ | z
      · exact absurd z hb
      · have z2 := un.frzs b _ _ (at2 z)
        rw [ea] at e
        cases e
        exact (ok' b _ z2).1
      · exact un.keep b o e z (by simp [frs]) (by simp)
    have hdOf : ∀ p, (p = p1 ∨ p = p2) → ∃ c, PySem.W.CodeHd s.heap c p := fun p hp => hp.elim (fun z => ⟨c1, by rw [z]; exact h1⟩) fun z => ⟨c2, by rw [z]; exact h2⟩
    refine ⟨rfl, ⟨fun b o e => ?_, fun b o e => ?_⟩, os, bare⟩
    · by_cases hb : b = p1 ∨ b = p2
      · obtain ⟨m, hm⟩ := more b hb
        obtain ⟨c, hc⟩ := hdOf b hb
        have et := tb b hb
        rw [et] at e
        cases e
        exact .inr (.inl ⟨(hc.tab et).isCodeTable, rfl, #[], m, rfl, by rw [Array.empty_append]; exact hm⟩)
      · exact .inl (rest b o hb e)
    · by_cases hb : b = p1 ∨ b = p2
      · exact (more b hb).elim fun m hm => ⟨_, hm⟩
      · exact ⟨o, rest b o hb e⟩
end
end K8

namespace K8
open PySem PySem.Spec PyProof.Rows L2 WR LamX
abbrev LL : PySem.W.OpenLaw := PySem.Challenge.rw_pagestrue_k08_whole_webs_judged
theorem tl_ok {K : PySem.W.Frag} {x : Str} (e : codB K x = true) : PySem.W.codeHdIn K (codeA K x) (tabA K (codeA K x)) = true ∧ K.lookup (tabA K (codeA K x)) = none := by
  simp only [codB, Bool.and_eq_true, Option.isNone_iff_eq_none] at e
  exact e.2
theorem walkK {q : Program} {loose : List Str} {XP : (Str → Option Value) → Heap → Prop} {d : DefRec} (hn : LL.most = some 63) (hdf : d.params.defaults = []) (hd : d.name = ("law" : Str)) :
    PySem.W.WalkO q loose XP hk.says LL.row.toRowW d [] (fun f vs => PySem.call f vs) := by
  refine Att.attach_callB hn hdf fun w s0 s1 mg mb fa o pm cd doc a vs ns G Y _ _ _ hmg hobj hints hlen _ hg => ?_
  obtain ⟨K, c⟩ := Y
  rw [hd] at hmg
  obtain ⟨fd, hb, hF⟩ := law_ok (P := LL.prog) (w := w) c G.T.g hmg
  have ow := c.own
  simp only [ownB, Bool.and_eq_true, decide_eq_true_eq] at ow
  obtain ⟨_, _, _, o4, o5, ne, _⟩ := ow
  obtain ⟨hd1, n1⟩ := tl_ok o4
  obtain ⟨hd2, n2⟩ := tl_ok o5
  have sz : (63 : Nat) ≤ sizeLine := by decide
  exact callG c.kin G.T.g G.T.b G.T.builtins G.T.nolimit hg c.t1 c.t2 n1 n2 (PySem.W.codeHd_of_K c.kin hd1) (PySem.W.codeHd_of_K c.kin hd2) G.T.bmain hobj hints (Nat.le_trans hlen sz) ⟨rfl, by decide, by decide⟩ hF hb
    fun H t1 t2 hS => ⟨a, ns, rfl, hS, hlen, fun p hp => by
      simp only [tabs, List.mem_cons, List.not_mem_nil, or_false] at hp
      rcases hp with rfl | rfl
      · exact .nil t1
      · exact .nil t2, fun _ => rfl⟩
end K8
open PySem PySem.W PySem.Calls PyProof.Rows
theorem PySem.Challenge.cw_pagestrue_k08_whole_webs_judged_holds : PySem.Challenge.rw_pagestrue_k08_whole_webs_judged.Holds := by
  w_on; o_law
  refine HandSHeadRun.head_any (r := K8.RR) (q := view K8.RR.prog [49]) (H := K8.hk) (ob := K8.obK) (M := 3000) (loose := K8.names) (d := HandSHeadRun.topDef K8.RR.prog 49) (kwd := []) K8.obK_eq
    (by kernel_rfl) (fun s => by kernel_rfl) K8.run (by kernel_rfl) (by kernel_rfl) (by kernel_rfl) (by rfl) (by first | assumption | decide +kernel) (by decide +kernel) ⟨rfl, rfl, rfl, rfl, rfl, by decide +kernel⟩ ?hw ?hc
  case hw => w_witness2
  case hc => exact K8.walkK rfl (by kernel_rfl) (by kernel_rfl)

